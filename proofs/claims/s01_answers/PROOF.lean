import PyProof.Rows.All
import Wide.All
import OpenK.AllK
import Wide.FinOn
import PyProof.EqAt
import PyProof.EqKinds
import PyProof.TupleCall
import KE.BitLaws
import OpenK.KOwn
import PyProof.ExcBaseAll.ValueError
import PyProof.WalkInts
import KE.KMinKey
import KE.OsGo
import Open.SpecLaws
import PySem.Challenge.RW_millwords_s01_answers
set_option Elab.async false
set_option linter.all false
set_option maxRecDepth 100000
namespace L2
open PySem PySem.Spec PyProof.Rows
abbrev Key := Sum Int Str
def keyIs : Key → Value → Bool
  | .inl k, v => Value.isInt k v
  | .inr x, v => Value.isStrOf x v
def keyH (w : World) : Key → Int
  | .inl k => hashInt k
  | .inr x => hashStr w x
theorem keyIs_shape : ∀ {k : Key} {v : Value}, keyIs k v = true → (∃ i t, k = Sum.inl i ∧ v = Value.int i t) ∨ (∃ x t, k = Sum.inr x ∧ v = Value.str x t)
  | .inl i, v, h => by
    obtain ⟨t, e⟩ := Value.isInt_shape (k := i) (v := v) h
    exact .inl ⟨i, t, rfl, e⟩
  | .inr x, v, h => by
    obtain ⟨t, e⟩ := Value.isStrOf_shape (x := x) (v := v) h
    exact .inr ⟨x, t, rfl, e⟩
theorem keyIs_int (i : Int) (t : Tok) : keyIs (.inl i) (.int i t) = true := by simp [keyIs, Value.isInt]
theorem keyIs_str (x : Str) (t : Tok) : keyIs (.inr x) (.str x t) = true := by simp [keyIs, Value.isStrOf]
theorem key_ll (a b : Int) : decide ((Sum.inl a : Key) = Sum.inl b) = (a == b) := by
  by_cases e : a = b
  · subst e; simp
  · have h : ¬ (Sum.inl a : Key) = Sum.inl b := fun q => e (Sum.inl.inj q)
    rw [decide_eq_false h]
    exact (beq_eq_false_iff_ne.mpr e).symm
theorem key_rr (a b : Str) : decide ((Sum.inr a : Key) = Sum.inr b) = decide (a = b) := by
  by_cases e : a = b
  · subst e; simp
  · have h : ¬ (Sum.inr a : Key) = Sum.inr b := fun q => e (Sum.inr.inj q)
    rw [decide_eq_false h, decide_eq_false e]
theorem key_lr (a : Int) (b : Str) : decide ((Sum.inl a : Key) = Sum.inr b) = false := decide_eq_false (fun q => nomatch q)
theorem key_rl (a : Str) (b : Int) : decide ((Sum.inr a : Key) = Sum.inl b) = false := decide_eq_false (fun q => nomatch q)
def mixKind (prog : Program) (w : World) : PySem.KeyKind prog w Key where
  is := keyIs
  hash := keyH w
  inj := fun v a b ha hb => by
    rcases keyIs_shape ha with ⟨i, t, rfl, rfl⟩ | ⟨x, t, rfl, rfl⟩
    · rcases keyIs_shape hb with ⟨j, u, rfl, e⟩ | ⟨y, u, rfl, e⟩
      · injection e with e1 _; rw [e1]
      · exact nomatch e
    · rcases keyIs_shape hb with ⟨j, u, rfl, e⟩ | ⟨y, u, rfl, e⟩
      · exact nomatch e
      · injection e with e1 _; rw [e1]
  byValue := fun k v h => by
    rcases keyIs_shape h with ⟨i, t, rfl, rfl⟩ | ⟨x, t, rfl, rfl⟩ <;> rfl
  pyHash := fun hv h => by
    rcases keyIs_shape hv with ⟨i, t, rfl, rfl⟩ | ⟨x, t, rfl, rfl⟩
    · exact wpAny_pyHash_int h
    · exact wpAny_pyHash_str h
  eqBool := fun hu hv h => by
    rcases keyIs_shape hu with ⟨i, t, rfl, rfl⟩ | ⟨x, t, rfl, rfl⟩
    · rcases keyIs_shape hv with ⟨j, u, rfl, rfl⟩ | ⟨y, u, rfl, rfl⟩
      · rw [key_ll] at h; exact wpAny_eqBool_int h
      · rw [key_lr] at h; exact SeqAt.EqAt.int_str i t y u _ _ _ _ h
    · rcases keyIs_shape hv with ⟨j, u, rfl, rfl⟩ | ⟨y, u, rfl, rfl⟩
      · rw [key_rl] at h; exact SeqAt.EqAt.str_int x t j u _ _ _ _ h
      · rw [key_rr] at h; exact wpAny_eqBool_str h
  «strs» := fun k x t v h => by
    rcases keyIs_shape h with ⟨i, u, rfl, e⟩ | ⟨y, u, rfl, e⟩
    · exact nomatch e
    · injection e with e1 _
      subst e1
      cases v <;> rfl
theorem mixKind_int (prog : Program) (w : World) (i : Int) (t : Tok) : (mixKind prog w).is (.inl i) (.int i t) = true := keyIs_int i t
theorem mixKind_str (prog : Program) (w : World) (x : Str) (t : Tok) : (mixKind prog w).is (.inr x) (.str x t) = true := keyIs_str x t
end L2
namespace L2
open PySem PySem.Spec PyProof.Rows
inductive V where
  | non | bl (b : Bool) | int (i : Int) | str (x : Str) | byt (b : Array UInt8) | flt (b : UInt64) | ref (a : Addr) | ty (n : String)
  deriving DecidableEq
def RelV : V → Value → Prop
  | .non, u => u = Value.none
  | .bl b, u => u = Value.bool b
  | .int i, u => ∃ t, u = Value.int i t
  | .str x, u => ∃ t, u = Value.str x t
  | .byt b, u => ∃ t, u = Value.bytes b t
  | .flt b, u => ∃ t, u = Value.float b t
  | .ref a, u => u = Value.ref a
  | .ty n, u => u = Value.type n
abbrev Vals : List V → List Value → Prop := Paired RelV
theorem Vals.length {xs : List V} {us : List Value} (r : Vals xs us) : xs.length = us.length := Paired.length r
theorem Vals.get : ∀ {xs : List V} {us : List Value} {i : Nat} {x : V}, Vals xs us → xs[i]? = some x → ∃ u, us[i]? = some u ∧ RelV x u
  | _, _, _, _, .nil, e => by simp at e
  | _, _, 0, _, .cons r _, e => by simp at e; subst e; exact ⟨_, rfl, r⟩
  | _, _, i + 1, x, .cons _ t, e => by
    obtain ⟨u, h1, h2⟩ := Vals.get (i := i) (x := x) t (by simpa using e)
    exact ⟨u, by simpa using h1, h2⟩
theorem Vals.set {x : V} {u : Value} (r : RelV x u) : ∀ {xs : List V} {us : List Value} (i : Nat), Vals xs us → Vals (xs.set i x) (us.set i u)
  | _, _, _, .nil => .nil
  | _, _, 0, .cons _ t => .cons r t
  | _, _, i + 1, .cons q t => .cons q (Vals.set r i t)
theorem Vals.append : ∀ {xs ys : List V} {us ws : List Value}, Vals xs us → Vals ys ws → Vals (xs ++ ys) (us ++ ws)
  | _, _, _, _, .nil, s => s
  | _, _, _, _, .cons r t, s => .cons r (Vals.append t s)
theorem Vals.take : ∀ {xs : List V} {us : List Value} (n : Nat), Vals xs us → Vals (xs.take n) (us.take n)
  | _, _, 0, _ => .nil
  | _, _, _ + 1, .nil => .nil
  | _, _, n + 1, .cons r t => .cons r (Vals.take n t)
theorem Vals.drop : ∀ {xs : List V} {us : List Value} (n : Nat), Vals xs us → Vals (xs.drop n) (us.drop n)
  | _, _, 0, r => r
  | _, _, _ + 1, .nil => .nil
  | _, _, n + 1, .cons _ t => Vals.drop n t
def RelO : Option V → Option Value → Prop
  | some v, some u => RelV v u
  | none, none => True
  | _, _ => False
def KV {κ : Type} : List (κ × V) → List (κ × Value) → Prop := Paired fun (p : κ × V) (q : κ × Value) => p.1 = q.1 ∧ RelV p.2 q.2
def kV : Key → V
  | .inl i => .int i
  | .inr x => .str x
inductive HO where
  /-- a list -/
  | lst (xs : List V)
  /-- a tuple (never changes) -/
  | tup (xs : List V)
  /-- a dict whose keys are ints and texts; one whose keys are tuples of ints and texts (the empty one is both) -/
  | dK (kvs : List (Key × V)) | dT (kvs : List (List Key × V))
  /-- a set of ints: its members, its size -/
  | set (S : Int → Bool) (n : Nat)
  /-- an instance of the class at C, its dict at dx, its attributes -/
  | ins (C dx : Addr) (fs : List (Str × V))
  /-- the dict of the instance at x -/
  | own (x : Addr)
  /-- the dict of an exception -/
  | xd (fs : List (Str × V))
  /-- a bound method, f of x -/
  | met (f x : Addr)
  /-- a range object lo, lo + 1, .. below hi -/
  | rng (lo hi : Int)
  /-- a thing that is known to the object (the script; a dict while a loop walks it): read, never written while it is so -/
  | frz (o : Obj) (u : HO)
  /-- a code object's table -/
  | tbl (ps : Array Value)
  /-- any other thing, by what is true of its one object (a def of one's own: SetO a S n := HO.ext fun h => ..) -/
  | ext (φ : Heap → Prop)
abbrev Hp := Addr → Option HO
def upd (H : Hp) (a : Addr) (o : HO) : Hp := fun b => if b = a then some o else H b
theorem upd_same {H : Hp} {a : Addr} {o : HO} : upd H a o a = some o := by unfold upd; rw [if_pos rfl]
theorem upd_ne {H : Hp} {a b : Addr} {o : HO} (h : b ≠ a) : upd H a o b = H b := by unfold upd; rw [if_neg h]
theorem upd_upd {H : Hp} {a : Addr} {o u : HO} : upd (upd H a o) a u = upd H a u := by
  funext b; unfold upd; split <;> rfl
theorem ne_of {H : Hp} {a b : Addr} {o u : HO} (h : H a = some o) (h' : H b = some u) (d : o ≠ u) : a ≠ b := by
  intro e; subst e; rw [h] at h'; exact d (Option.some.inj h')
theorem ne_of_none {H : Hp} {a b : Addr} {o : HO} (h : H a = some o) (h' : H b = none) : a ≠ b := by
  intro e; subst e; rw [h] at h'; cases h'
section
variable (P : Program) (w : World)
def ObjOk (H : Hp) (h : Heap) (a : Addr) : HO → Prop
  | .lst xs => xs.length ≤ sizeLine ∧ ∃ (its : List Value) (n : Nat), Vals xs its ∧ h.get? a = some { cls := .type "list", data := .seq its.toArray n }
  | .tup xs => xs.length ≤ sizeLine ∧ ∃ its : List Value, Vals xs its ∧ IsTup h a its.toArray
  | .dK kvs => kvs.length ≤ sizeLine ∧ (a == sysModules) = false ∧ ∃ vs, KV kvs vs ∧ h.DictOf (mixKind P w) a vs
  | .dT kvs => kvs.length ≤ sizeLine ∧ (a == sysModules) = false ∧ ∃ xs : List (List Key × Addr × Value),
      Paired (fun (p : List Key × V) (q : List Key × Addr × Value) => p.1 = q.1 ∧ H q.2.1 = some (.tup (p.1.map kV)) ∧ RelV p.2 q.2.2) kvs xs ∧
      ∃ o es ep, h.get? a = some o ∧ o.ExactDict ∧ o.data = .dict es ep ∧ es.toList = xs.map (entryOfKey (tupleKind (mixKind P w))) ∧ (xs.map (·.1)).Nodup
  | .set S n => h.SetOf (intKind P w) a S n
  | .ins C dx fs => H dx = some (.own a) ∧ fs.length ≤ 1000 ∧ dx ≠ a ∧ h.get? a = some (PySem.W.instObj C dx) ∧
      ∃ mA, h.Ns1 dx mA ∧ (∀ f, RelO (fs.lookup f) (mA f)) ∧ PySem.Within mA (fs.map (·.1))
  | .own _ => ∃ o, h.get? a = some o
  | .xd fs => ∃ mA, h.Ns1 a mA ∧ ∀ f, RelO (fs.lookup f) (mA f)
  | .rng lo hi => ∃ t u v, h.get? a = some { cls := .type "range", data := .fields #[.int lo t, .int hi u, .int 1 v] }
  | .frz o u => h.get? a = some o ∧ ObjOk H h a u
  | .tbl ps => h.get? a = some { cls := .none, data := .fields ps }
  | .met f x => h.get? a = some (PySem.W.methodObj (.ref f) (.ref x))
  | .ext φ => φ h ∧ (∃ o, h.get? a = some o) ∧ ∀ h1 h2 : Heap, φ h1 → (∀ o, h1.get? a = some o → h2.get? a = some o) → φ h2
def HOk (H : Hp) (h : Heap) : Prop := ∀ a o, H a = some o → ObjOk P w H h a o
end
section
variable {P : Program} {w : World} {H H' : Hp} {h h' : Heap} {a : Addr} {o : HO}
theorem ObjOk.lt (x : ObjOk P w H h a o) : a < h.objs.size := by
  cases o with
  | lst xs => obtain ⟨_, _, _, _, e⟩ := x; exact Heap.lt_size e
  | tup xs => obtain ⟨_, _, _, p⟩ := x; exact p.lt
  | dK kvs => obtain ⟨_, _, _, _, o, _, _, e, _⟩ := x; exact Heap.lt_size e
  | dT kvs => obtain ⟨_, _, _, _, o, _, _, e, _⟩ := x; exact Heap.lt_size e
  | set S n => obtain ⟨o, _, _, _, e, _⟩ := x; exact Heap.lt_size e
  | ins C dx fs => obtain ⟨_, _, _, e, _⟩ := x; exact Heap.lt_size e
  | own y => obtain ⟨_, e⟩ := x; exact Heap.lt_size e
  | xd fs => obtain ⟨_, ⟨_, _, _, e, _⟩, _⟩ := x; exact Heap.lt_size e
  | rng lo hi => obtain ⟨_, _, _, e⟩ := x; exact Heap.lt_size e
  | frz ob u => obtain ⟨e, _⟩ := x; exact Heap.lt_size e
  | tbl ps => exact Heap.lt_size (show h.get? a = some _ from x)
  | met f y => exact Heap.lt_size (show h.get? a = some _ from x)
  | ext φ => obtain ⟨_, ⟨_, e⟩, _⟩ := x; exact Heap.lt_size e
theorem Paired.mapP {α β : Type} {F G : α → β → Prop} : ∀ {l₁ : List α} {l₂ : List β}, Paired F l₁ l₂ → (∀ a b, F a b → G a b) → Paired G l₁ l₂
  | _, _, .nil, _ => .nil
  | _, _, .cons r t, f => .cons (f _ _ r) (Paired.mapP t f)
theorem ObjOk.stay (x : ObjOk P w H h a o) (k : ∀ b u, (b = a ∨ H b = some (.own a)) → h.get? b = some u → h'.get? b = some u)
    (ho : ∀ b, H b = some (.own a) → H' b = some (.own a)) (ht : ∀ b xs, H b = some (.tup xs) → H' b = some (.tup xs)) : ObjOk P w H' h' a o := by
  induction o with
  | lst xs => obtain ⟨z, its, n, r, e⟩ := x; exact ⟨z, its, n, r, k _ _ (.inl rfl) e⟩
  | tup xs => obtain ⟨z, its, r, ob, e, c⟩ := x; exact ⟨z, its, r, ob, k _ _ (.inl rfl) e, c⟩
  | dK kvs => obtain ⟨z, y, vs, r, ob, es, ep, e, c⟩ := x; exact ⟨z, y, vs, r, ob, es, ep, k _ _ (.inl rfl) e, c⟩
  | dT kvs =>
    obtain ⟨z, y, xs, r, ob, es, ep, e, c⟩ := x
    exact ⟨z, y, xs, Paired.mapP r fun p q z => ⟨z.1, ht _ _ z.2.1, z.2.2⟩, ob, es, ep, k _ _ (.inl rfl) e, c⟩
  | set S n => obtain ⟨ob, es, ep, t, e, c⟩ := x; exact ⟨ob, es, ep, t, k _ _ (.inl rfl) e, c⟩
  | ins C dx fs =>
    obtain ⟨d, z, ne, e, mA, ⟨od, es, ep, e2, c⟩, r⟩ := x
    exact ⟨ho _ d, z, ne, k _ _ (.inl rfl) e, mA, ⟨od, es, ep, k _ _ (.inr d) e2, c⟩, r⟩
  | own y => obtain ⟨ob, e⟩ := x; exact ⟨ob, k _ _ (.inl rfl) e⟩
  | xd fs => obtain ⟨mA, ⟨od, es, ep, e, c⟩, r⟩ := x; exact ⟨mA, ⟨od, es, ep, k _ _ (.inl rfl) e, c⟩, r⟩
  | rng lo hi => obtain ⟨t, u, v, e⟩ := x; exact ⟨t, u, v, k _ _ (.inl rfl) e⟩
  | frz ob u ih => obtain ⟨e, q⟩ := x; exact ⟨k _ _ (.inl rfl) e, ih q⟩
  | tbl ps =>
    have e : h.get? a = some { cls := .none, data := .fields ps } := x
    show h'.get? a = some { cls := .none, data := .fields ps }
    exact k a _ (.inl rfl) e
  | met f y =>
    have e : h.get? a = some (PySem.W.methodObj (.ref f) (.ref y)) := x
    show h'.get? a = some (PySem.W.methodObj (.ref f) (.ref y))
    exact k a _ (.inl rfl) e
  | ext φ => obtain ⟨p, ⟨o, e⟩, st⟩ := x; exact ⟨st _ _ p fun o q => k _ _ (.inl rfl) q, ⟨o, k _ _ (.inl rfl) e⟩, st⟩
theorem HOk.lt (x : HOk P w H h) (e : H a = some o) : a < h.objs.size := (x a o e).lt
theorem HOk.fresh (x : HOk P w H h) (e : h.objs.size ≤ a) : H a = none := by
  cases q : H a with
  | none => rfl
  | some u => exact absurd (Nat.lt_of_lt_of_le (x.lt q) e) (Nat.lt_irrefl _)
theorem HOk.kept (x : HOk P w H h) (k : ∀ b u, h.get? b = some u → h'.get? b = some u) : HOk P w H h' := fun a o e =>
  (x a o e).stay (fun b u _ q => k b u q) (fun _ q => q) fun _ _ q => q
theorem HOk.laid (x : HOk P w H h) (k : ∀ b u, h.get? b = some u → h'.get? b = some u) (hp : h.objs.size ≤ a) (new : ObjOk P w (upd H a o) h' a o) : HOk P w (upd H a o) h' := fun b u e => by
  have hn := x.fresh hp
  by_cases hb : b = a
  · subst hb; rw [upd_same] at e; cases e; exact new
  · rw [upd_ne hb] at e
    exact (x b u e).stay (fun c v _ q => k c v q) (fun c q => by rw [upd_ne (ne_of_none q hn)]; exact q) fun c xs q => by rw [upd_ne (ne_of_none q hn)]; exact q
end
def Rd (H : Hp) (a : Addr) (u : HO) : Prop := H a = some u ∨ ∃ o, H a = some (.frz o u)
theorem Rd.ok {P : Program} {w : World} {H : Hp} {h : Heap} {a : Addr} {u : HO} (r : Rd H a u) (x : HOk P w H h) : ObjOk P w H h a u := by
  rcases r with r | ⟨o, r⟩
  · exact x a u r
  · obtain ⟨_, q⟩ := x a _ r
    exact q
def Mut : Option HO → Prop
  | some (.lst _) => True
  | some (.dK _) => True
  | some (.dT _) => True
  | some (.set _ _) => True
  | some (.ins _ _ _) => True
  | some (.ext _) => True
  | _ => False
section
variable {P : Program} {w : World} {H : Hp} {h h' : Heap} {x e : Addr} {o' : HO}
theorem HOk.write (ok : HOk P w H h) (mu : Mut (H x)) (he : e = x ∨ H e = some (.own x)) (k : ∀ b u, b ≠ e → h.get? b = some u → h'.get? b = some u) (heo : ∃ u, h'.get? e = some u)
    (new : ObjOk P w (upd H x o') h' x o') : HOk P w (upd H x o') h' := fun b u q => by
  have nown : ∀ c y, H c = some (.own y) → c ≠ x := fun c y r z => by subst z; rw [r] at mu; exact mu
  have ntup : ∀ c xs, H c = some (.tup xs) → c ≠ x := fun c xs r z => by subst z; rw [r] at mu; exact mu
  by_cases hb : b = x
  · subst hb; rw [upd_same] at q; cases q; exact new
  · rw [upd_ne hb] at q
    by_cases hbe : b = e
    · have q' : H b = some (.own x) := by
        rcases he with z | z
        · exact absurd (hbe.trans z) hb
        · rw [hbe]; exact z
      rw [q] at q'; cases q'
      obtain ⟨v, hv⟩ := heo
      exact ⟨v, by rw [hbe]; exact hv⟩
    · refine (ok b u q).stay (fun c v hc r => k c v ?_ r) (fun c r => by rw [upd_ne (nown c b r)]; exact r) fun c xs r => by rw [upd_ne (ntup c xs r)]; exact r
      rcases hc with rfl | hc
      · exact hbe
      · rintro rfl
        rcases he with z | z
        · exact nown c b hc z
        · rw [hc] at z; cases z; exact hb rfl
end
structure Un (fs ex : List Addr) (H H' : Hp) (h h' : Heap) : Prop where
  keep : ∀ b o, h.get? b = some o → H b = none → b ∉ fs → b ∉ ex → h'.get? b = some o
  slot : ∀ b o, h.get? b = some o → H b = none → b ∈ fs → b ∉ ex → ∃ sl, h'.get? b = some { o with slots := sl }
  free : ∀ b o, h.get? b = some o → H b = none → b ∉ ex → H' b = none
  there : ∀ b o, h.get? b = some o → b ∉ ex → ∃ o', h'.get? b = some o'
  tups : ∀ b xs, H b = some (.tup xs) → H' b = some (.tup xs)
  frzs : ∀ b o u, H b = some (.frz o u) → H' b = some (.frz o u)
  tbls : ∀ b ps, H b = some (.tbl ps) → ∃ more, H' b = some (.tbl (ps ++ more))
section
variable {fs fs' ex ex' : List Addr} {H H1 H2 : Hp} {h h1 h2 h' : Heap} {a x e : Addr} {o : HO}
theorem Un.any (u : Un fs ex H H1 h h1) {b : Addr} {ob : Obj} (q : h.get? b = some ob) (n : H b = none) (hx : b ∉ ex) : ∃ sl, h1.get? b = some { ob with slots := sl } := by
  by_cases hb : b ∈ fs
  · exact u.slot b ob q n hb hx
  · exact ⟨ob.slots, u.keep b ob q n hb hx⟩
theorem Un.kept (k : ∀ b u, h.get? b = some u → h'.get? b = some u) : Un fs ex H H h h' :=
  ⟨fun b ob q _ _ _ => k b ob q, fun b ob q _ _ _ => ⟨ob.slots, k b ob q⟩, fun _ _ _ n _ => n, fun b ob q _ => ⟨ob, k b ob q⟩, fun _ _ q => q, fun _ _ _ q => q, fun _ ps q => ⟨#[], by rw [q]; simp⟩⟩
theorem Un.refl : Un fs ex H H h h := Un.kept fun _ _ q => q
theorem Un.laid (k : ∀ b u, h.get? b = some u → h'.get? b = some u) (hp : h.objs.size ≤ a) (hn : H a = none) : Un fs ex H (upd H a o) h h' where
  keep := fun b u q _ _ _ => k b u q
  slot := fun b u q _ _ _ => ⟨u.slots, k b u q⟩
  free := fun b u q n _ => by rw [upd_ne (Nat.ne_of_lt (Nat.lt_of_lt_of_le (Heap.lt_size q) hp))]; exact n
  there := fun b u q _ => ⟨u, k b u q⟩
  tups := fun b xs q => by rw [upd_ne (ne_of_none q hn)]; exact q
  frzs := fun b u xs q => by rw [upd_ne (ne_of_none q hn)]; exact q
  tbls := fun b ps q => ⟨#[], by rw [upd_ne (ne_of_none q hn), q]; simp⟩
theorem Un.write (mu : Mut (H x)) (he : e = x ∨ H e = some (.own x)) (k : ∀ b u, b ≠ e → h.get? b = some u → h'.get? b = some u) (heo : ∃ u, h'.get? e = some u) : Un fs ex H (upd H x o) h h' := by
  have hx : ∀ b, H b = none → b ≠ x := fun b n z => by subst z; rw [n] at mu; exact mu
  have hb : ∀ b, H b = none → b ≠ e := fun b n z => by
    subst z
    rcases he with r | r
    · exact hx b n r
    · rw [n] at r; cases r
  have hm : ∀ b u, H b = some u → ¬ Mut (some u) → b ≠ x := fun b u q nm z => by subst z; rw [q] at mu; exact nm mu
  refine ⟨fun b u q n _ _ => k b u (hb b n) q, fun b u q n _ _ => ⟨u.slots, k b u (hb b n) q⟩, fun b u q n _ => by rw [upd_ne (hx b n)]; exact n, fun b u q _ => ?_,
    fun b xs q => by rw [upd_ne (hm b _ q fun z => z)]; exact q, fun b u xs q => by rw [upd_ne (hm b _ q fun z => z)]; exact q, fun b ps q => ⟨#[], by rw [upd_ne (hm b _ q fun z => z), q]; simp⟩⟩
  by_cases hbe : b = e
  · subst hbe; exact heo
  · exact ⟨u, k b u hbe q⟩
end
def trk (h : Heap) (H : Hp) : List Addr := (List.range h.objs.size).filter fun a => (H a).isSome
def hidT (h : Heap) (H : Hp) : Heap := PySem.W.hideAll h (trk h H)
theorem hidT_size (h : Heap) (H : Hp) : (hidT h H).objs.size = h.objs.size := PySem.W.hideAll_size _ _
theorem hidT_get {h : Heap} {H : Hp} {b : Addr} {o : Obj} (e : h.get? b = some o) (n : H b = none) : (hidT h H).get? b = some o :=
  PySem.W.hideAll_get _ e fun hm => by
    have q : (H b).isSome = true := (List.mem_filter.mp hm).2
    rw [n] at q; simp at q
theorem of_hidT {h : Heap} {H : Hp} {b : Addr} {o : Obj} (e : (hidT h H).get? b = some o) : h.get? b = some o ∧ H b = none := by
  have e' : h.get? b = some o := PySem.W.of_hideAll (trk h H) e
  refine ⟨e', ?_⟩
  cases q : H b with
  | none => rfl
  | some x =>
    have hm : b ∈ trk h H := List.mem_filter.mpr ⟨List.mem_range.mpr (Heap.lt_size e'), by simp [q]⟩
    have z : (hidT h H).get? b = none := PySem.W.hideAll_none (trk h H) hm
    rw [z] at e; cases e
end L2
namespace L2
open PySem PySem.Spec PyProof.Rows
structure Mod (K : PySem.W.Frag) (mg : Str → Option Value) (base : Heap) : Prop where
  kin : K.In base
  glob : base.Ns mainGlobals mg
  blt : ∃ mb, base.Ns builtinsNs mb ∧ ∀ x : Str, x ≠ "__name__" → mb x = bootBuiltins x
  nolimit : base.NoLimit
/-- the context: a def's body (or a comprehension's block) running. base: fixed through the whole law; s₀, H₀: the entry; outer: the frames whose slots others may change (a def's callers); stack: all frames that run;
   ex: iterators that were made ahead of the entry and are walked here (a comprehension's); fn: the names whose cells were made at the entry (a def: all; a comprehension's block: its own); calm: not within an except suite; pn: pins that every state bears; xe: what is wanted of an exception that leaves the code -/
structure Cx where
  prog : Program
  w : World
  K : PySem.W.Frag
  mg : Str → Option Value
  base : Heap
  A : Around
  N : List Str
  s₀ : Shared
  H₀ : Hp
  env : Env
  outer : List Env
  stack : List Env
  ex : List Addr
  fn : Str → Bool
  calm : Bool
  pn : List (Addr × Obj)
  xe : Value → Shared → Prop
def frs (l : List Env) : List Addr := l.filterMap (·.frame)
abbrev Cx.fs (X : Cx) : List Addr := frs X.outer
def Vis (sc : Scope) (x : Str) : Prop := sc.names.lookup x = some .local ∨ sc.names.lookup x = some .cell ∨ sc.names.lookup x = some .free
def Loc (sc : Scope) (x : Str) : Prop := sc.names.lookup x = some .local ∨ sc.names.lookup x = some .cell
def Look (env : Env) (h : Heap) (m : Str → Option Value) (x : Str) (u : Value) : Prop :=
  (env.kindOf x = some .local ∧ m x = some u) ∨ ((env.kindOf x = some .cell ∨ env.kindOf x = some .free) ∧ ∃ c, env.cells.lookup x = some c ∧ h.IsCell c (some u))
structure Cx.Ok (X : Cx) : Prop where
  mod : Mod X.K X.mg X.base
  kind : X.env.scope.kind = .function
  glob : X.env.globals = mainGlobals
  blt : X.env.builtins = builtinsNs
  above : X.s₀.heap.objs.size ≤ X.env.locals
  inj : ∀ x y c, X.env.cells.lookup x = some c → X.env.cells.lookup y = some c → x = y
  has : ∀ x, (X.env.kindOf x = some .cell ∨ X.env.kindOf x = some .free) → ∃ c, X.env.cells.lookup x = some c
  cab : ∀ x c, X.fn x = true → X.env.cells.lookup x = some c → X.s₀.heap.objs.size ≤ c
  hd : X.calm = true → X.A.handled = none
  frames : X.A.frames = some X.stack
  stk : X.stack = X.outer ∨ (X.stack = X.env :: X.outer ∧ X.env.frame = some X.env.locals)
  exf : ∀ b ∈ X.ex, b ≠ X.env.locals ∧ ∀ x c, X.env.cells.lookup x = some c → c ≠ b
  bs : ∀ b o, X.base.get? b = some o → X.s₀.heap.get? b = some o ∧ X.H₀ b = none
  bsz : X.base.objs.size ≤ X.s₀.heap.objs.size
  noex : ∀ b o, X.base.get? b = some o → b ∉ X.ex
  exfs : ∀ b ∈ X.ex, b ∉ X.fs
  funs : X.s₀.heap.FunFrames X.base X.outer
  frf : ∀ b ∈ X.fs, X.H₀ b = none
structure Inv (X : Cx) (pins : List (Addr × Obj)) (σ : List (Option V)) (H : Hp) (s : Shared) : Prop where
  ok : X.Ok
  os : s.os = X.s₀.os
  bare : AllBare s.gens
  base : Un X.fs X.ex X.H₀ H X.s₀.heap s.heap
  loc : ∃ m, s.heap.Ns X.env.locals m ∧ ∀ (i : Nat) (x : Str) (v : V), X.N[i]? = some x → σ[i]? = some (some v) → Vis X.env.scope x → ∃ u, RelV v u ∧ Look X.env s.heap m x u
  cell : ∀ x c, X.env.cells.lookup x = some c → ∃ v, s.heap.IsCell c v
  free : H X.env.locals = none
  freeC : ∀ x c, X.env.cells.lookup x = some c → H c = none
  pin : ∀ p ∈ X.pn ++ pins, s.heap.get? p.1 = some p.2 ∧ H p.1 = none ∧ p.1 ≠ X.env.locals ∧ p.1 ∉ X.fs ∧ ∀ v, p.2.data ≠ .cell v
  hok : HOk X.prog X.w H s.heap
  len : σ.length = X.N.length
section
variable {X : Cx} {pins : List (Addr × Obj)} {σ : List (Option V)} {H H' : Hp} {s : Shared} {h' : Heap}
theorem Cx.Ok.nofr (ok : X.Ok) {b : Addr} {o : Obj} (e : X.base.get? b = some o) : b ∉ X.fs := fun hb => by
  have := (ok.funs.mem hb).1
  rw [e] at this; cases this
theorem Inv.bs (I : Inv X pins σ H s) : ∀ b o, X.base.get? b = some o → s.heap.get? b = some o ∧ H b = none := fun b o e =>
  ⟨I.base.keep b o (I.ok.bs b o e).1 (I.ok.bs b o e).2 (I.ok.nofr e) (I.ok.noex b o e), I.base.free b o (I.ok.bs b o e).1 (I.ok.bs b o e).2 (I.ok.noex b o e)⟩
theorem Inv.bk (I : Inv X pins σ H s) : ∀ b o, X.base.get? b = some o → s.heap.get? b = some o := fun b o e => (I.bs b o e).1
theorem Inv.mod (I : Inv X pins σ H s) : Mod X.K X.mg X.base := I.ok.mod
theorem Inv.kIn (I : Inv X pins σ H s) : X.K.In s.heap := I.ok.mod.kin.keeps I.bk
theorem Inv.fr (I : Inv X pins σ H s) : ∃ m, Fr X.base X.env.locals s.heap m :=
  let ⟨m, hn, _⟩ := I.loc
  ⟨m, hn, I.bk, Nat.le_trans I.ok.bsz I.ok.above⟩
theorem Inv.lt (I : Inv X pins σ H s) : X.env.locals < s.heap.objs.size := let ⟨_, hn, _⟩ := I.loc; hn.lt
theorem Inv.sz (I : Inv X pins σ H s) : X.s₀.heap.objs.size ≤ s.heap.objs.size := Nat.le_trans I.ok.above (Nat.le_of_lt I.lt)
theorem Inv.nofs (I : Inv X pins σ H s) {a : Addr} (h : s.heap.objs.size ≤ a) : a ∉ X.fs := fun hb => by
  obtain ⟨_, o, ho, _⟩ := I.ok.funs.mem hb
  exact absurd (Nat.lt_of_lt_of_le (Heap.lt_size ho) (Nat.le_trans I.sz h)) (Nat.lt_irrefl _)
theorem Inv.cne (I : Inv X pins σ H s) : ∀ x c, X.env.cells.lookup x = some c → c ≠ X.env.locals := fun x c e z => by
  obtain ⟨v, o, ho, hd⟩ := I.cell x c e
  obtain ⟨m, ⟨o', es, ep, ho', hd', _⟩, _⟩ := I.loc
  rw [z, ho'] at ho; cases ho; rw [hd'] at hd; cases hd
theorem Inv.funs (I : Inv X pins σ H s) : s.heap.FunFrames X.base X.outer := by
  have all : ∀ (l : List Env), (∀ b ∈ frs l, b ∈ X.fs) → X.s₀.heap.FunFrames X.base l → s.heap.FunFrames X.base l := by
    intro l
    induction l with
    | nil => intro _ _; trivial
    | cons env r ih =>
      intro hs hl
      obtain ⟨hk, ⟨L, o, hf, hn, ho, hd⟩, hr⟩ := hl
      have hL : L ∈ X.fs := hs L (by unfold frs; rw [List.filterMap_cons, hf]; exact List.mem_cons_self)
      obtain ⟨sl, e⟩ := I.base.slot L o ho (I.ok.frf L hL) hL fun z => I.ok.exfs L z hL
      exact ⟨hk, ⟨L, _, hf, hn, e, hd⟩, ih (fun b hb => hs b (by unfold frs; rw [List.filterMap_cons, hf]; exact List.mem_cons_of_mem _ hb)) hr⟩
  exact all X.outer (fun _ hb => hb) I.ok.funs
theorem Inv.stack (I : Inv X pins σ H s) : s.heap.FunFrames X.base X.stack := by
  rcases I.ok.stk with e | ⟨e, hf⟩
  · rw [e]; exact I.funs
  · rw [e]
    obtain ⟨m, hn, _⟩ := I.loc
    refine .cons (by rw [I.ok.kind]; decide) hf hn ?_ I.funs
    exact Heap.get?_none_of_le (Nat.le_trans I.ok.bsz I.ok.above)
theorem Inv.stkSub (I : Inv X pins σ H s) : ∀ b ∈ frs X.stack, b ∈ X.env.locals :: X.fs := fun b hb => by
  rcases I.ok.stk with e | ⟨e, hf⟩
  · rw [e] at hb; exact List.mem_cons_of_mem _ hb
  · rw [e] at hb
    unfold frs at hb
    rw [List.filterMap_cons, hf] at hb
    exact hb
theorem Inv.stkFree (I : Inv X pins σ H s) : ∀ b ∈ frs X.stack, H b = none := fun b hb => by
  rcases List.mem_cons.mp (I.stkSub b hb) with e | hb
  · rw [e]; exact I.free
  · obtain ⟨_, o, ho, _⟩ := I.ok.funs.mem hb
    exact I.base.free b o ho (I.ok.frf b hb) fun z => I.ok.exfs b z hb
theorem Inv.step {g' : Array GenState} {t' : Nat} {d' : Drawn} {ch : List Addr} (I : Inv X pins σ H s)
    (hch : ∀ b ∈ ch, (b ∈ X.ex ∨ X.s₀.heap.objs.size ≤ b) ∧ b ≠ X.env.locals ∧ (∀ x c, X.env.cells.lookup x = some c → c ≠ b) ∧ ∀ p ∈ X.pn ++ pins, p.1 ≠ b)
    (keep : ∀ b o, b ≠ X.env.locals → b ∉ X.fs → b ∉ ch → s.heap.get? b = some o → H b = none → h'.get? b = some o)
    (slot : ∀ b o, b ≠ X.env.locals → b ∈ X.fs → b ∉ ch → s.heap.get? b = some o → H b = none → ∃ sl, h'.get? b = some { o with slots := sl }) (free : ∀ b o, b ∉ ch → s.heap.get? b = some o → H b = none → H' b = none)
    (there : ∀ b o, b ∉ ch → s.heap.get? b = some o → ∃ o', h'.get? b = some o')
    (tups : ∀ b xs, H b = some (.tup xs) → H' b = some (.tup xs)) (frzs : ∀ b o u, H b = some (.frz o u) → H' b = some (.frz o u)) (tbls : ∀ b ps, H b = some (.tbl ps) → ∃ more, H' b = some (.tbl (ps ++ more)))
    (ns : ∀ m, s.heap.Ns X.env.locals m → h'.Ns X.env.locals m) (hok : HOk X.prog X.w H' h') (hg : AllBare g') :
    Inv X pins σ H' { s with heap := h', gens := g', drawn := d', toks := t' } := by
  have neL : ∀ b o, X.s₀.heap.get? b = some o → b ≠ X.env.locals := fun b o e => Nat.ne_of_lt (Nat.lt_of_lt_of_le (Heap.lt_size e) I.ok.above)
  have neC : ∀ b o, X.s₀.heap.get? b = some o → b ∉ X.ex → b ∉ ch := fun b o e hx hb => by
    rcases (hch b hb).1 with z | z
    · exact hx z
    · exact absurd (Nat.lt_of_lt_of_le (Heap.lt_size e) z) (Nat.lt_irrefl _)
  have cellK : ∀ x c, X.env.cells.lookup x = some c → ∀ v, s.heap.IsCell c v → h'.IsCell c v := fun x c e v ⟨o, ho, hd⟩ => by
    have nch : c ∉ ch := fun z => (hch c z).2.2.1 x c e rfl
    by_cases hc : c ∈ X.fs
    · obtain ⟨sl, q⟩ := slot c o (I.cne x c e) hc nch ho (I.freeC x c e)
      exact ⟨_, q, hd⟩
    · exact ⟨o, keep c o (I.cne x c e) hc nch ho (I.freeC x c e), hd⟩
  refine ⟨I.ok, I.os, hg, ⟨fun b o e n hb hx => ?_, fun b o e n hb hx => ?_, fun b o e n hx => ?_, fun b o e hx => ?_, fun b xs e => tups b xs (I.base.tups b xs e), fun b o xs e => frzs b o xs (I.base.frzs b o xs e), fun b ps e => ?_⟩, ?_, fun x c e => ?_, ?_, fun x c e => ?_, fun p hp => ?_, hok, I.len⟩
  · exact keep b o (neL b o e) hb (neC b o e hx) (I.base.keep b o e n hb hx) (I.base.free b o e n hx)
  · obtain ⟨sl, e1⟩ := I.base.slot b o e n hb hx
    obtain ⟨sl', e2⟩ := slot b _ (neL b o e) hb (neC b o e hx) e1 (I.base.free b o e n hx)
    exact ⟨sl', e2⟩
  · obtain ⟨o', e1⟩ := I.base.there b o e hx
    exact free b o' (neC b o e hx) e1 (I.base.free b o e n hx)
  · obtain ⟨o', e1⟩ := I.base.there b o e hx
    exact there b o' (neC b o e hx) e1
  · obtain ⟨m1, e1⟩ := I.base.tbls b ps e
    obtain ⟨m2, e2⟩ := tbls b _ e1
    exact ⟨m1 ++ m2, by rw [e2, Array.append_assoc]⟩
  · obtain ⟨m, hn, hl⟩ := I.loc
    refine ⟨m, ns m hn, fun i x v e1 e2 e3 => ?_⟩
    obtain ⟨u, r, l⟩ := hl i x v e1 e2 e3
    refine ⟨u, r, ?_⟩
    rcases l with l | ⟨k, c, e, z⟩
    · exact .inl l
    · exact .inr ⟨k, c, e, cellK x c e _ z⟩
  · obtain ⟨v, z⟩ := I.cell x c e
    exact ⟨v, cellK x c e v z⟩
  · obtain ⟨m, ⟨o, _, _, ho, _⟩, _⟩ := I.loc
    exact free _ o (fun z => (hch _ z).2.1 rfl) ho I.free
  · obtain ⟨v, o, ho, hd⟩ := I.cell x c e
    exact free c o (fun z => (hch c z).2.2.1 x c e rfl) ho (I.freeC x c e)
  · obtain ⟨e, n, ne, nf, d⟩ := I.pin p hp
    have nch : p.1 ∉ ch := fun z => (hch p.1 z).2.2.2 p hp rfl
    exact ⟨keep p.1 p.2 ne nf nch e n, free p.1 p.2 nch e n, ne, nf, d⟩
theorem Inv.un {t' : Nat} (I : Inv X pins σ H s) (u : Un X.fs [] H H' s.heap h') (hok : HOk X.prog X.w H' h') : Inv X pins σ H' { s with heap := h', toks := t' } := by
  obtain ⟨m, ⟨o, es, ep, ho, r⟩, _⟩ := id I.loc
  obtain ⟨sl, hL⟩ := u.any ho I.free (by simp)
  exact I.step (g' := s.gens) (d' := s.drawn) (ch := []) (fun _ z => nomatch z) (fun b o _ hb _ e n => u.keep b o e n hb (by simp)) (fun b o _ hb _ e n => u.slot b o e n hb (by simp)) (fun b o _ e n => u.free b o e n (by simp)) (fun b o _ e => u.there b o e (by simp)) u.tups u.frzs u.tbls (fun m' hm => by
    obtain ⟨o', es', ep', ho', r'⟩ := hm
    rw [ho] at ho'; cases ho'
    exact ⟨_, es', ep', hL, r'⟩) hok I.bare
theorem Inv.call {g' : Array GenState} {t' : Nat} {d' : Drawn} {ch : List Addr} (I : Inv X pins σ H s) (u : Un (frs X.stack) ch H H' s.heap h') (hok : HOk X.prog X.w H' h') (hg : AllBare g')
    (hch : ∀ b ∈ ch, (b ∈ X.ex ∨ X.s₀.heap.objs.size ≤ b) ∧ b ≠ X.env.locals ∧ (∀ x c, X.env.cells.lookup x = some c → c ≠ b) ∧ ∀ p ∈ X.pn ++ pins, p.1 ≠ b) :
    Inv X pins σ H' { s with heap := h', gens := g', drawn := d', toks := t' } := by
  obtain ⟨m, ⟨o, es, ep, ho, r⟩, _⟩ := id I.loc
  obtain ⟨sl, hL⟩ := u.any ho I.free fun z => (hch _ z).2.1 rfl
  exact I.step (ch := ch) hch (fun b o hL hb hc e n => u.keep b o e n (fun z => (List.mem_cons.mp (I.stkSub b z)).elim hL hb) hc) (fun b o _ _ hc e n => u.any e n hc) (fun b o hc e n => u.free b o e n hc) (fun b o hc e => u.there b o e hc) u.tups u.frzs u.tbls (fun m' hm => by
    obtain ⟨o', es', ep', ho', r'⟩ := hm
    rw [ho] at ho'; cases ho'
    exact ⟨_, es', ep', hL, r'⟩) hok hg
theorem Inv.turned {t' : Nat} {it : Addr} (I : Inv X pins σ H s) (k : ∀ b o, b ≠ it → s.heap.get? b = some o → h'.get? b = some o) (hn : H it = none) (hL : it ≠ X.env.locals)
    (h1 : it ∈ X.ex ∨ X.s₀.heap.objs.size ≤ it) (h2 : ∀ x c, X.env.cells.lookup x = some c → c ≠ it) (h3 : ∀ p ∈ X.pn ++ pins, p.1 ≠ it) : Inv X pins σ H { s with heap := h', toks := t' } := by
  have nit : ∀ b u, H b = some u → b ≠ it := fun b u e z => by rw [z, hn] at e; cases e
  refine I.step (g' := s.gens) (d' := s.drawn) (ch := [it]) (fun b hb => ?_) (fun b o _ _ hc e _ => k b o (fun z => hc (by simp [z])) e) (fun b o _ _ hc e _ => ⟨o.slots, k b o (fun z => hc (by simp [z])) e⟩) (fun _ _ _ _ n => n)
    (fun b o hc e => ⟨o, k b o (fun z => hc (by simp [z])) e⟩) (fun _ _ e => e) (fun _ _ _ e => e) (fun b ps e => ⟨#[], by rw [e]; simp⟩) (fun m hm => ?_) (fun b u e => ?_) I.bare
  · have e : b = it := by simpa using hb
    subst e
    exact ⟨h1, hL, h2, h3⟩
  · obtain ⟨o, es, ep, ho, r⟩ := hm
    exact ⟨o, es, ep, k _ o (Ne.symm hL) ho, r⟩
  · refine (I.hok b u e).stay (fun c v hc q => k c v ?_ q) (fun _ q => q) fun _ _ q => q
    rcases hc with z | z
    · rw [z]; exact nit b u e
    · exact nit c _ z
theorem Inv.tok (I : Inv X pins σ H s) (t : Nat) : Inv X pins σ H { s with toks := t } := I.un (h' := s.heap) (t' := t) Un.refl I.hok
theorem Inv.kept {t' : Nat} (I : Inv X pins σ H s) (k : ∀ b u, s.heap.get? b = some u → h'.get? b = some u) : Inv X pins σ H { s with heap := h', toks := t' } := I.un (Un.kept k) (I.hok.kept k)
theorem Inv.laid {a : Addr} {o : HO} {t' : Nat} (I : Inv X pins σ H s) (k : ∀ b u, s.heap.get? b = some u → h'.get? b = some u) (hp : s.heap.objs.size ≤ a) (new : ObjOk X.prog X.w (upd H a o) h' a o) :
    Inv X pins σ (upd H a o) { s with heap := h', toks := t' } := I.un (Un.laid k hp (I.hok.fresh hp)) (I.hok.laid k hp new)
theorem Inv.write {x e : Addr} {o : HO} {t' : Nat} (I : Inv X pins σ H s) (mu : Mut (H x)) (he : e = x ∨ H e = some (.own x)) (k : ∀ b u, b ≠ e → s.heap.get? b = some u → h'.get? b = some u) (heo : ∃ u, h'.get? e = some u)
    (new : ObjOk X.prog X.w (upd H x o) h' x o) : Inv X pins σ (upd H x o) { s with heap := h', toks := t' } := I.un (Un.write mu he k heo) (I.hok.write mu he k heo new)
theorem Inv.weak {σ' : List (Option V)} (I : Inv X pins σ H s) (hl : σ'.length = σ.length) (w : ∀ (i : Nat) v, σ'[i]? = some (some v) → σ[i]? = some (some v)) : Inv X pins σ' H s :=
  ⟨I.ok, I.os, I.bare, I.base, let ⟨m, hn, hl'⟩ := I.loc; ⟨m, hn, fun i x v e1 e2 e3 => hl' i x v e1 (w i v e2) e3⟩, I.cell, I.free, I.freeC, I.pin, I.hok, hl.trans I.len⟩
theorem Inv.pins_of {pins' : List (Addr × Obj)} (I : Inv X pins σ H s) (h : ∀ p ∈ pins', s.heap.get? p.1 = some p.2 ∧ H p.1 = none ∧ p.1 ≠ X.env.locals ∧ p.1 ∉ X.fs ∧ ∀ v, p.2.data ≠ .cell v) : Inv X pins' σ H s :=
  ⟨I.ok, I.os, I.bare, I.base, I.loc, I.cell, I.free, I.freeC, fun p hp => (List.mem_append.mp hp).elim (fun z => I.pin p (List.mem_append_left _ z)) (h p), I.hok, I.len⟩
theorem nodup_ix {N : List Str} (hN : N.Nodup) {i j : Nat} {x : Str} (a : N[i]? = some x) (b : N[j]? = some x) : i = j := by
  obtain ⟨h1, e1⟩ := List.getElem?_eq_some_iff.mp a
  obtain ⟨h2, e2⟩ := List.getElem?_eq_some_iff.mp b
  exact (List.getElem_inj hN).mp (e1.trans e2.symm)
theorem store_ok2 {M : Model} {A : Around} {E : Value → Shared → Prop} {i : Nat} {x : Str} {v : V} {u : Value} {Q : Unit → Shared → Prop} (I : Inv X pins σ H s) (hN : X.N.Nodup) (hi : X.N[i]? = some x) (hx : Loc X.env.scope x) (r : RelV v u)
    (h : ∀ s', Inv X pins (σ.set i (some v)) H s' → (∃ a, Heap.SameBut a s.heap s'.heap ∧ (a = X.env.locals ∨ X.env.cells.lookup x = some a)) → Q () s') (hf : X.fn x = true ∨ X.env.scope.names.lookup x = some .local := by first | exact .inl rfl | exact .inr rfl | assumption) : wpAny M A (storeName X.env x u) Q E s := by
  obtain ⟨m, hn, hl⟩ := id I.loc
  have hcls : (X.env.scope.kind == .class || (X.env.scope.kind == .module && X.env.locals != X.env.globals)) = false := by rw [I.ok.kind]; rfl
  have hiσ : i < σ.length := by rw [I.len]; exact (List.getElem?_eq_some_iff.mp hi).1
  have cne := I.cne
  have tracked : ∀ {a : Addr} {h' : Heap}, (∃ o, s.heap.get? a = some o ∧ H a = none) → Heap.SameBut a s.heap h' → HOk X.prog X.w H h' := fun {a h'} ha hs b ob e => by
    obtain ⟨_, _, hfree⟩ := ha
    refine (I.hok b ob e).stay (fun c w' hc q => (hs.2 c ?_).trans q) (fun _ q => q) fun _ _ q => q
    rintro rfl
    rcases hc with rfl | hc
    · rw [hfree] at e; cases e
    · rw [hfree] at hc; cases hc
  rcases hx with hk | hk
  · refine wpAny_storeName_local hk hn (fun h' hn' hs => ?_) hcls
    obtain ⟨oL, _, _, hoL, _⟩ := id hn
    refine h _ ⟨I.ok, I.os, I.bare, ⟨fun b o e n hb hx => ?_, fun b o e n hb hx => ?_, I.base.free, fun b o e hx => ?_, I.base.tups, I.base.frzs, I.base.tbls⟩, ⟨_, hn', fun j y v' e1 e2 e3 => ?_⟩, fun y c e => ?_, I.free, I.freeC, fun p hp => ?_, tracked ⟨oL, hoL, I.free⟩ hs, by simpa using I.len⟩ ⟨_, hs, .inl rfl⟩
    · exact (hs.2 b (Nat.ne_of_lt (Nat.lt_of_lt_of_le (Heap.lt_size e) I.ok.above))).trans (I.base.keep b o e n hb hx)
    · obtain ⟨sl, e1⟩ := I.base.slot b o e n hb hx
      exact ⟨sl, (hs.2 b (Nat.ne_of_lt (Nat.lt_of_lt_of_le (Heap.lt_size e) I.ok.above))).trans e1⟩
    · obtain ⟨o', e1⟩ := I.base.there b o e hx
      exact ⟨o', (hs.2 b (Nat.ne_of_lt (Nat.lt_of_lt_of_le (Heap.lt_size e) I.ok.above))).trans e1⟩
    · by_cases hj : j = i
      · subst hj
        rw [hi] at e1; cases e1
        rw [List.getElem?_set_self hiσ] at e2
        cases e2
        exact ⟨u, r, .inl ⟨hk, by simp⟩⟩
      · rw [List.getElem?_set_ne (Ne.symm hj)] at e2
        obtain ⟨u', r', q⟩ := hl j y v' e1 e2 e3
        refine ⟨u', r', ?_⟩
        rcases q with ⟨k, e⟩ | ⟨k, c, e, z⟩
        · refine .inl ⟨k, ?_⟩
          have : y ≠ x := fun e => hj (nodup_ix hN e1 (e ▸ hi))
          simp [this, e]
        · exact .inr ⟨k, c, e, z.sameBut hs (cne y c e)⟩
    · obtain ⟨w', z⟩ := I.cell y c e
      exact ⟨w', z.sameBut hs (cne y c e)⟩
    · obtain ⟨e, n, ne, nf, d⟩ := I.pin p hp
      exact ⟨(hs.2 p.1 ne).trans e, n, ne, nf, d⟩
  · have hfn : X.fn x = true := by
      rcases hf with z | z
      · exact z
      · rw [z] at hk; cases hk
    obtain ⟨c, hc⟩ := I.ok.has x (.inl hk)
    obtain ⟨w', z⟩ := I.cell x c hc
    refine wpAny_storeName_cell I.ok.kind hk hc z (fun h' hc' hs => ?_)
    obtain ⟨oc, hoc, hocd⟩ := id z
    refine h { s with heap := h' } ⟨I.ok, I.os, I.bare, ⟨fun b o e n hb hx => ?_, fun b o e n hb hx => ?_, I.base.free, fun b o e hx => ?_, I.base.tups, I.base.frzs, I.base.tbls⟩, ⟨m, hn.sameBut hs (Ne.symm (cne x c hc)), fun j y v' e1 e2 e3 => ?_⟩, fun y c' e => ?_, I.free, I.freeC, fun p hp => ?_, tracked ⟨oc, hoc, I.freeC x c hc⟩ hs, by simpa using I.len⟩ ⟨c, hs, .inr hc⟩
    · exact (hs.2 b (Nat.ne_of_lt (Nat.lt_of_lt_of_le (Heap.lt_size e) (I.ok.cab x c hfn hc)))).trans (I.base.keep b o e n hb hx)
    · obtain ⟨sl, e1⟩ := I.base.slot b o e n hb hx
      exact ⟨sl, (hs.2 b (Nat.ne_of_lt (Nat.lt_of_lt_of_le (Heap.lt_size e) (I.ok.cab x c hfn hc)))).trans e1⟩
    · obtain ⟨o', e1⟩ := I.base.there b o e hx
      exact ⟨o', (hs.2 b (Nat.ne_of_lt (Nat.lt_of_lt_of_le (Heap.lt_size e) (I.ok.cab x c hfn hc)))).trans e1⟩
    · by_cases hj : j = i
      · subst hj
        rw [hi] at e1; cases e1
        rw [List.getElem?_set_self hiσ] at e2
        cases e2
        exact ⟨u, r, .inr ⟨.inl hk, c, hc, hc'⟩⟩
      · rw [List.getElem?_set_ne (Ne.symm hj)] at e2
        obtain ⟨u', r', q⟩ := hl j y v' e1 e2 e3
        refine ⟨u', r', ?_⟩
        rcases q with q | ⟨k, c', e, z'⟩
        · exact .inl q
        · refine .inr ⟨k, c', e, z'.sameBut hs ?_⟩
          rintro rfl
          exact hj (nodup_ix hN e1 (I.ok.inj _ _ _ e hc ▸ hi))
    · by_cases hcc : c' = c
      · subst hcc; exact ⟨_, hc'⟩
      · obtain ⟨w2, z2⟩ := I.cell y c' e
        exact ⟨w2, z2.sameBut hs hcc⟩
    · obtain ⟨e, n, ne, nf, d⟩ := I.pin p hp
      refine ⟨(hs.2 p.1 ?_).trans e, n, ne, nf, d⟩
      intro q
      rw [q, hoc] at e
      have q' : oc = p.2 := Option.some.inj e
      exact d w' (by rw [← q']; exact hocd)
theorem store_ok {M : Model} {A : Around} {E : Value → Shared → Prop} {i : Nat} {x : Str} {v : V} {u : Value} {Q : Unit → Shared → Prop} (I : Inv X pins σ H s) (hN : X.N.Nodup) (hi : X.N[i]? = some x) (hx : Loc X.env.scope x) (r : RelV v u)
    (h : ∀ s', Inv X pins (σ.set i (some v)) H s' → Q () s') (hf : X.fn x = true ∨ X.env.scope.names.lookup x = some .local := by first | exact .inl rfl | exact .inr rfl | assumption) : wpAny M A (storeName X.env x u) Q E s :=
  store_ok2 I hN hi hx r (fun s' I' _ => h s' I') hf
theorem Inv.call' {s' : Shared} {ch : List Addr} (I : Inv X pins σ H s) (ho : s'.os = s.os) (u : Un (frs X.stack) ch H H' s.heap s'.heap) (hok : HOk X.prog X.w H' s'.heap) (hg : AllBare s'.gens)
    (hch : ∀ b ∈ ch, (b ∈ X.ex ∨ X.s₀.heap.objs.size ≤ b) ∧ b ≠ X.env.locals ∧ (∀ x c, X.env.cells.lookup x = some c → c ≠ b) ∧ ∀ p ∈ X.pn ++ pins, p.1 ≠ b) : Inv X pins σ H' s' := by
  obtain ⟨h', g', d', t', o'⟩ := s'
  have e : o' = s.os := ho
  subst e
  exact I.call (g' := g') (t' := t') (d' := d') u hok hg hch
end
abbrev XK := Value → Option Addr → Hp → Prop
abbrev St := List (Option V)
abbrev VK := V → Hp → Prop
abbrev TE := St → Hp → VK → Prop
abbrev TT := St → Hp → (Bool → Hp → Prop) → Prop
abbrev TA := St → Hp → (List V → Hp → Prop) → Prop
structure Ends where
  nx : St → Hp → Prop
  rt : VK
  bk : St → Hp → Prop := fun _ _ => False
  ct : St → Hp → Prop := fun _ _ => False
abbrev TS := Ends → St → Hp → Prop
def EP (X : Cx) (pins : List (Addr × Obj)) (σ : St) (Q : VK) (u : Value) (s' : Shared) : Prop := ∃ v H', Inv X pins σ H' s' ∧ RelV v u ∧ Q v H'
def TP (X : Cx) (pins : List (Addr × Obj)) (σ : St) (Q : Bool → Hp → Prop) (b : Bool) (s' : Shared) : Prop := ∃ H', Inv X pins σ H' s' ∧ Q b H'
def AP (X : Cx) (pins : List (Addr × Obj)) (σ : St) (Q : List V → Hp → Prop) (us : List Value) (s' : Shared) : Prop := ∃ vs H', Inv X pins σ H' s' ∧ Vals vs us ∧ Q vs H'
def SP (X : Cx) (pins : List (Addr × Obj)) (D : Ends) (f : Flow) (s' : Shared) : Prop :=
  match f with
  | .next => ∃ σ' H', Inv X pins σ' H' s' ∧ D.nx σ' H'
  | .brk => ∃ σ' H', Inv X pins σ' H' s' ∧ D.bk σ' H'
  | .cont => ∃ σ' H', Inv X pins σ' H' s' ∧ D.ct σ' H'
  | .ret u => ∃ v σ' H', Inv X pins σ' H' s' ∧ RelV v u ∧ D.rt v H'
def PE (X : Cx) (e : Expr) (t : TE) : Prop :=
  ∀ (pins : List (Addr × Obj)) (s : Shared) (σ : St) (H : Hp) (Q : VK), Inv X pins σ H s → t σ H Q → wpAny (model X.prog X.w) X.A (eval e X.env) (EP X pins σ Q) X.xe s
def PT (X : Cx) (e : Expr) (t : TT) : Prop :=
  ∀ (pins : List (Addr × Obj)) (s : Shared) (σ : St) (H : Hp) (Q : Bool → Hp → Prop), Inv X pins σ H s → t σ H Q → wpAny (model X.prog X.w) X.A (isTrue e X.env (eval e X.env)) (TP X pins σ Q) X.xe s
def PW (X : Cx) (e : Expr) (t : TT) : Prop :=
  ∀ (whole : Sem Value) (pins : List (Addr × Obj)) (s : Shared) (σ : St) (H : Hp) (Q : Bool → Hp → Prop), Inv X pins σ H s → t σ H Q → wpAny (model X.prog X.w) X.A (isTrue e X.env whole) (TP X pins σ Q) X.xe s
theorem PW.pt {X : Cx} {e : Expr} {t : TT} (h : PW X e t) : PT X e t := h _
def PA (X : Cx) (es : List Expr) (t : TA) : Prop :=
  ∀ (pos : Pos) (pins : List (Addr × Obj)) (s : Shared) (σ : St) (H : Hp) (Q : List V → Hp → Prop), Inv X pins σ H s → t σ H Q → wpAny (model X.prog X.w) X.A (spliced (backTo pos (starEach es X.env))) (AP X pins σ Q) X.xe s
def PS (X : Cx) (st : Stmt) (t : TS) : Prop :=
  ∀ (pins : List (Addr × Obj)) (s : Shared) (σ : St) (H : Hp) (D : Ends), Inv X pins σ H s → t D σ H → wpAny (model X.prog X.w) X.A (exec st X.env) (SP X pins D) X.xe s
def PSs (X : Cx) (st : List Stmt) (t : TS) : Prop :=
  ∀ (pins : List (Addr × Obj)) (s : Shared) (σ : St) (H : Hp) (D : Ends), Inv X pins σ H s → t D σ H → wpAny (model X.prog X.w) X.A (execs st X.env) (SP X pins D) X.xe s
theorem thn {α : Type} {t : Sem α} {Q Q' : α → Shared → Prop} {M : Model} {A : Around} {E : Value → Shared → Prop} {s : Shared} (h : wpAny M A t Q E s) (hQ : ∀ a s, Q a s → Q' a s) : wpAny M A t Q' E s := wpAny_mono h hQ fun _ _ x => x
end L2
namespace L2
open PySem PySem.Spec PyProof.Rows
section
variable {X : Cx}
theorem bin {a b : Expr} {ta tb : TE} (ha : PE X a ta) (hb : PE X b tb) {pins : List (Addr × Obj)} {s : Shared} {σ : St} {H : Hp} {R : V → V → Hp → Prop} (I : Inv X pins σ H s) (h : ta σ H fun x H1 => tb σ H1 fun y H2 => R x y H2)
    {α : Type} {Q : α → Shared → Prop} {f : Value → Value → Sem α}
    (hf : ∀ v u s2 x y H2, Inv X pins σ H2 s2 → RelV x v → RelV y u → R x y H2 → wpAny (model X.prog X.w) X.A (f v u) Q X.xe s2) :
    wpAny (model X.prog X.w) X.A (eval a X.env) (fun v s₁ => wpAny (model X.prog X.w) X.A (eval b X.env) (fun u s₂ => wpAny (model X.prog X.w) X.A (f v u) Q X.xe s₂) X.xe s₁) X.xe s := by
  refine thn (ha pins s σ H _ I h) fun v s1 ⟨x, H1, I1, r1, q1⟩ => ?_
  refine thn (hb pins s1 σ H1 _ I1 q1) fun u s2 ⟨y, H2, I2, r2, q2⟩ => ?_
  exact hf v u s2 x y H2 I2 r1 r2 q2
def tVar (i : Nat) : TE := fun σ H Q => ∃ v, σ[i]? = some (some v) ∧ Q v H
def tC (v : V) : TE := fun _ H Q => Q v H
theorem pe_var {i : Nat} {x : Str} {pos : Pos} (hN : X.N[i]? = some x) (hv : Vis X.env.scope x) (hd : (x == ("__debug__" : Str)) = false := by decide) (hcd : (x == ("__classdict__" : Str)) = false := by decide) : PE X (.Name x pos) (tVar i) := by
  intro pins s σ H Q I h
  obtain ⟨v, e, h⟩ := h
  obtain ⟨m, hn, hl⟩ := I.loc
  obtain ⟨u, r, l⟩ := hl i x v hN e hv
  have fin : EP X pins σ Q u s := ⟨v, H, I, r, h⟩
  rcases l with ⟨hk, hm⟩ | ⟨hk, c, hc, hcell⟩
  · exact wpAny_Name (wpAny_loadName_local I.ok.kind hk hn hm fin) hd
  · rcases hk with hk | hk
    · exact wpAny_Name (wpAny_loadName_cell I.ok.kind hk hc hcell fin) hd
    · exact wpAny_Name (wpAny_loadName_free I.ok.kind hk hc hcell fin hcd) hd
theorem pe_int {i j pos} : PE X (.Constant (.int i) j pos) (tC (.int i)) := fun _ _ _ H _ I h => wpAny_Constant_int ⟨.int i, H, I.tok _, ⟨_, rfl⟩, h⟩
theorem pe_bl {b j pos} : PE X (.Constant (.bool b) j pos) (tC (.bl b)) := fun _ _ _ H _ I h => Constant_bool ⟨.bl b, H, I, rfl, h⟩
theorem pe_non {j pos} : PE X (.Constant .none j pos) (tC .non) := fun _ _ _ H _ I h => Constant_none ⟨.non, H, I, rfl, h⟩
theorem pe_str {x j pos} : PE X (.Constant (.str x) j pos) (tC (.str x)) := fun _ _ _ H _ I h => Calls.Constant_str ⟨.str x, H, I.tok _, ⟨_, rfl⟩, h⟩
def Gl (X : Cx) (x : Str) : Prop := X.env.kindOf x = some .globalImplicit
theorem ld_glob {E : Value → Shared → Prop} {pins : List (Addr × Obj)} {s : Shared} {σ : St} {H : Hp} {x : Str} {u : Value} {pos : Pos} {Q : Value → Shared → Prop} (I : Inv X pins σ H s) (hg : Gl X x) (hm : X.mg x = some u) (h : Q u s)
    (hd : (x == ("__debug__" : Str)) = false := by decide) : wpAny (model X.prog X.w) X.A (eval (.Name x pos) X.env) Q E s :=
  Calls.Name_function_global I.ok.kind hg (Calls.loadGlobal_global (by rw [I.ok.glob]; exact I.mod.glob.keeps I.bk) hm h) hd
theorem ld_blt {E : Value → Shared → Prop} {pins : List (Addr × Obj)} {s : Shared} {σ : St} {H : Hp} {x : Str} {u : Value} {pos : Pos} {Q : Value → Shared → Prop} (I : Inv X pins σ H s) (hg : Gl X x) (hm : X.mg x = none) (hv : bootBuiltins x = some u) (h : Q u s)
    (hn : x ≠ "__name__" := by decide) (hd : (x == ("__debug__" : Str)) = false := by decide) : wpAny (model X.prog X.w) X.A (eval (.Name x pos) X.env) Q E s := by
  obtain ⟨mb, h1, h2⟩ := I.mod.blt
  exact Calls.Name_function_global I.ok.kind hg (Calls.loadGlobal_builtin (by rw [I.ok.glob]; exact I.mod.glob.keeps I.bk) hm (by rw [I.ok.blt]; exact h1.keeps I.bk) ((h2 x hn).trans hv) h) hd
theorem pe_glob {x : Str} {v : V} {u : Value} {pos : Pos} (hg : Gl X x) (hm : X.mg x = some u) (r : RelV v u) (hd : (x == ("__debug__" : Str)) = false := by decide) : PE X (.Name x pos) (tC v) :=
  fun _ _ _ H _ I h => ld_glob I hg hm ⟨v, H, I, r, h⟩ hd
variable {a b : Expr} {ta tb : TE} {pos : Pos}
def PC (X : Cx) (op : CmpOp) (a b : Expr) (t : TE) : Prop :=
  ∀ (pins : List (Addr × Obj)) (s : Shared) (σ : St) (H : Hp) (Q : VK), Inv X pins σ H s → t σ H Q →
    wpAny (model X.prog X.w) X.A (eval a X.env) (fun v s₁ => wpAny (model X.prog X.w) X.A (eval b X.env) (fun u s₂ => wpAny (model X.prog X.w) X.A (compareOp op v u) (EP X pins σ Q) X.xe s₂) X.xe s₁) X.xe s
theorem nobehind (b : Expr) {op : CmpOp} (h : op ≠ .In) (h2 : op ≠ .NotIn) : behindInMarks op b = false := by
  have e1 : (op == CmpOp.In) = false := by cases op <;> first | rfl | exact absurd rfl h
  have e2 : (op == CmpOp.NotIn) = false := by cases op <;> first | rfl | exact absurd rfl h2
  cases b <;> simp [behindInMarks, e1, e2]
def tIsN (ta : TE) : TE := fun σ H Q => ta σ H fun x H1 => Q (.bl (decide (x = .non))) H1
theorem RelV.none_iff {x : V} {v : Value} (r : RelV x v) : (v == Value.none) = decide (x = .non) := by
  cases x with
  | non => cases r; rfl
  | bl _ => cases r; rfl
  | int _ => obtain ⟨t, rfl⟩ := r; rfl
  | str _ => obtain ⟨t, rfl⟩ := r; rfl
  | byt _ => obtain ⟨t, rfl⟩ := r; rfl
  | flt _ => obtain ⟨t, rfl⟩ := r; rfl
  | ref _ => cases r; rfl
  | ty _ => cases r; rfl
theorem pc_isN {j pos'} (ha : PE X a ta) : PC X .Is a (.Constant .none j pos') (tIsN ta) := by
  intro pins s σ H Q I h
  refine thn (ha pins s σ H _ I h) fun v s1 ⟨x, H1, I1, r1, q1⟩ => ?_
  exact Constant_none (is_none_gen ⟨.bl _, H1, I1, by rw [r1.none_iff]; rfl, q1⟩)
def tB (t : TE) : TT := fun σ H Q => t σ H fun x H1 => ∃ c, x = .bl c ∧ Q c H1
theorem pe_cmp {op : CmpOp} {t : TE} (h : PC X op a b t) (h1 : behindInMarks op b = false := by first | exact nobehind _ (by decide) (by decide) | rfl) : PE X (.Compare a [op] [b] pos) t := fun pins s σ H Q I hw => wpAny_Compare1 (h pins s σ H Q I hw) h1
theorem pt_cmp {op : CmpOp} {t : TE} (h : PC X op a b t) (h1 : behindInMarks op b = false := by first | exact nobehind _ (by decide) (by decide) | rfl) : PT X (.Compare a [op] [b] pos) (tB t) := by
  intro pins s σ H Q I hw
  refine wpAny_isTrue_Compare1 (thn (h pins s σ H _ I hw) fun v s1 h1 => thn h1 fun u s2 h2 => thn h2 fun c s3 ⟨x, H1, I1, r1, q1⟩ => ?_) h1
  obtain ⟨d, rfl, q⟩ := q1
  cases r1
  exact wpAny_truthy_bool ⟨H1, I1, q⟩
theorem pt_val {e : Expr} {t : TE} (h : PE X e t) (he : ∀ whole, isTrue e X.env whole = (do let v ← whole; standAt e.pos; holding [v] (truthy v)) := by intro _; rfl) : PT X e (tB t) := by
  intro pins s σ H Q I hw
  refine isTrue_plain (thn (h pins s σ H _ I hw) fun v s1 ⟨x, H1, I1, r1, q1⟩ => ?_) (he _)
  obtain ⟨d, rfl, q⟩ := q1
  cases r1
  exact wpAny_truthy_bool ⟨H1, I1, q⟩
variable {tA tB' : TT} {rest : List Expr}
def tAnd (t u : TT) : TT := fun σ H Q => t σ H fun c H1 => if c = true then u σ H1 Q else Q false H1
def tOr (t u : TT) : TT := fun σ H Q => t σ H fun c H1 => if c = true then Q true H1 else u σ H1 Q
def tNot (t : TT) : TT := fun σ H Q => t σ H fun c H1 => Q (!c) H1
theorem pw_and1 (ha : PT X a tA) : PW X (.BoolOp .And [a] pos) tA := by
  intro wh pins s σ H Q I h
  refine isTrue_and (thn (ha pins s σ H Q I h) fun c s1 e => ?_)
  cases c with
  | true => exact isTrue_and_nil e
  | false => exact e
theorem pw_or1 (ha : PT X a tA) : PW X (.BoolOp .Or [a] pos) tA := by
  intro wh pins s σ H Q I h
  refine isTrue_or (thn (ha pins s σ H Q I h) fun c s1 e => ?_)
  cases c with
  | false => exact isTrue_or_nil e
  | true => exact e
theorem pw_and (ha : PT X a tA) (hb : PW X (.BoolOp .And (b :: rest) pos) tB') : PW X (.BoolOp .And (a :: b :: rest) pos) (tAnd tA tB') := by
  intro wh pins s σ H Q I h
  refine isTrue_and (thn (ha pins s σ H _ I h) fun c s1 ⟨H1, I1, q1⟩ => ?_)
  cases c with
  | true => exact hb wh pins s1 σ H1 Q I1 q1
  | false => exact ⟨H1, I1, q1⟩
theorem pw_or (ha : PT X a tA) (hb : PW X (.BoolOp .Or (b :: rest) pos) tB') : PW X (.BoolOp .Or (a :: b :: rest) pos) (tOr tA tB') := by
  intro wh pins s σ H Q I h
  refine isTrue_or (thn (ha pins s σ H _ I h) fun c s1 ⟨H1, I1, q1⟩ => ?_)
  cases c with
  | true => exact ⟨H1, I1, q1⟩
  | false => exact hb wh pins s1 σ H1 Q I1 q1
theorem pt_not (ha : PT X a tA) : PT X (.UnaryOp .Not a pos) (tNot tA) := by
  intro pins s σ H Q I h
  exact isTrue_not (ha pins s σ H (fun c H1 => Q (!c) H1) I h)
def tAndV (ta tb : TE) : TE := fun σ H Q => ta σ H fun x H1 => ∃ c, x = .bl c ∧ if c = true then tb σ H1 Q else Q (.bl false) H1
def tOrV (ta tb : TE) : TE := fun σ H Q => ta σ H fun x H1 => ∃ c, x = .bl c ∧ if c = true then Q (.bl true) H1 else tb σ H1 Q
theorem pe_one {op} {t : TE} (h : PE X a t) : PE X (.BoolOp op [a] pos) t := fun pins s σ H Q I hw => BoolOp_one (h pins s σ H Q I hw)
theorem pe_and (ha : PE X a ta) (hb : PE X (.BoolOp .And (b :: rest) pos) tb) : PE X (.BoolOp .And (a :: b :: rest) pos) (tAndV ta tb) := by
  intro pins s σ H Q I h
  refine BoolOp_and (thn (ha pins s σ H _ I h) fun v s1 ⟨x, H1, I1, r1, q1⟩ => ?_)
  obtain ⟨c, rfl, q1⟩ := q1
  cases r1
  refine wpAny_truthy_bool ?_
  cases c with
  | true => exact hb pins s1 σ H1 Q I1 q1
  | false => exact ⟨.bl false, H1, I1, rfl, q1⟩
theorem pe_or (ha : PE X a ta) (hb : PE X (.BoolOp .Or (b :: rest) pos) tb) : PE X (.BoolOp .Or (a :: b :: rest) pos) (tOrV ta tb) := by
  intro pins s σ H Q I h
  refine BoolOp_or (thn (ha pins s σ H _ I h) fun v s1 ⟨x, H1, I1, r1, q1⟩ => ?_)
  obtain ⟨c, rfl, q1⟩ := q1
  cases r1
  refine wpAny_truthy_bool ?_
  cases c with
  | false => exact hb pins s1 σ H1 Q I1 q1
  | true => exact ⟨.bl true, H1, I1, rfl, q1⟩
def tIf (t : TT) (ta tb : TE) : TE := fun σ H Q => t σ H fun c H1 => if c = true then ta σ H1 Q else tb σ H1 Q
theorem pe_ifExp {c : Expr} (hc : PT X c tA) (ha : PE X a ta) (hb : PE X b tb) : PE X (.IfExp c a b pos) (tIf tA ta tb) := by
  intro pins s σ H Q I h
  refine wpAny_IfExp (thn (hc pins s σ H _ I h) fun d s1 ⟨H1, I1, q1⟩ => ?_)
  cases d with
  | true => exact ha pins s1 σ H1 Q I1 q1
  | false => exact hb pins s1 σ H1 Q I1 q1
end
end L2
namespace L2
open PySem PySem.Spec PyProof.Rows
def SqL (K : PySem.W.Frag) (H : Hp) (a : Addr) (xs : List V) : Prop :=
  Rd H a (.lst xs) ∨
    ∃ (o : Obj) (its : Array Value) (n : Nat), K.lookup a = some o ∧ o.cls = .type "list" ∧ o.dict = none ∧ o.data = .seq its n ∧ its.size ≤ sizeLine ∧ Vals xs its.toList
def SqT (K : PySem.W.Frag) (H : Hp) (a : Addr) (xs : List V) : Prop :=
  Rd H a (.tup xs) ∨
    ∃ (o : Obj) (its : Array Value) (n : Nat), K.lookup a = some o ∧ o.cls = .type "tuple" ∧ o.data = .seq its n ∧ its.size ≤ sizeLine ∧ Vals xs its.toList
def absV : Value → Option V
  | .none => some .non
  | .bool b => some (.bl b)
  | .int i _ => some (.int i)
  | .str x _ => some (.str x)
  | .bytes b _ => some (.byt b)
  | .float b _ => some (.flt b)
  | .ref a => some (.ref a)
  | .type n => some (.ty n)
  | _ => none
theorem RelV.abs {x : V} {u : Value} (r : RelV x u) : absV u = some x := by
  cases x with
  | non => cases r; rfl
  | bl _ => cases r; rfl
  | int _ => obtain ⟨t, rfl⟩ := r; rfl
  | str _ => obtain ⟨t, rfl⟩ := r; rfl
  | byt _ => obtain ⟨t, rfl⟩ := r; rfl
  | flt _ => obtain ⟨t, rfl⟩ := r; rfl
  | ref _ => cases r; rfl
  | ty _ => cases r; rfl
theorem RelV.inj {x y : V} {u : Value} (r : RelV x u) (q : RelV y u) : x = y := Option.some.inj (r.abs.symm.trans q.abs)
theorem Vals.inj : ∀ {xs ys : List V} {us : List Value}, Vals xs us → Vals ys us → xs = ys
  | _, _, _, .nil, .nil => rfl
  | _, _, _, .cons r t, .cons r' t' => by rw [r.inj r', Vals.inj t t']
section
variable {X : Cx} {pins : List (Addr × Obj)} {σ : St} {H : Hp} {s : Shared} {a : Addr} {xs ys : List V}
theorem SqL.of {K : PySem.W.Frag} (h : H a = some (.lst xs)) : SqL K H a xs := .inl (.inl h)
theorem SqT.of {K : PySem.W.Frag} (h : H a = some (.tup xs)) : SqT K H a xs := .inl (.inl h)
theorem Inv.list (I : Inv X pins σ H s) (h : SqL X.K H a xs) : ∃ its : List Value, Vals xs its ∧ PlainL s.heap a its.toArray ∧ xs.length ≤ sizeLine := by
  rcases h with h | ⟨o, its, n, hk, hc, hd, hs, hz, r⟩
  · obtain ⟨z, its, n, r, e⟩ := h.ok I.hok
    exact ⟨its, r, ⟨_, n, e, rfl, rfl, rfl⟩, z⟩
  · refine ⟨its.toList, r, ⟨o, n, I.kIn a o hk, hc, hd, by simpa using hs⟩, ?_⟩
    have e := r.length
    simp only [Array.length_toList] at e
    omega
theorem Inv.tuple (I : Inv X pins σ H s) (h : SqT X.K H a xs) : ∃ its : List Value, Vals xs its ∧ IsTup s.heap a its.toArray ∧ xs.length ≤ sizeLine := by
  rcases h with h | ⟨o, its, n, hk, hc, hs, hz, r⟩
  · obtain ⟨z, its, r, p⟩ := h.ok I.hok
    exact ⟨its, r, p, z⟩
  · refine ⟨its.toList, r, ⟨o, I.kIn a o hk, hc, n, by simpa using hs⟩, ?_⟩
    have e := r.length
    simp only [Array.length_toList] at e
    omega
theorem Inv.list_inj (I : Inv X pins σ H s) (h : SqL X.K H a xs) (h' : SqL X.K H a ys) : xs = ys := by
  obtain ⟨its, r, ⟨o, n, e, _, _, d⟩, _⟩ := I.list h
  obtain ⟨its', r', ⟨o', n', e', _, _, d'⟩, _⟩ := I.list h'
  rw [e] at e'; cases e'
  rw [d] at d'
  injection d' with d1 _
  have : its = its' := by simpa using congrArg Array.toList d1
  subst this
  exact r.inj r'
theorem Inv.tuple_inj (I : Inv X pins σ H s) (h : SqT X.K H a xs) (h' : SqT X.K H a ys) : xs = ys := by
  obtain ⟨its, r, ⟨o, e, _, n, d⟩, _⟩ := I.tuple h
  obtain ⟨its', r', ⟨o', e', _, n', d'⟩, _⟩ := I.tuple h'
  rw [e] at e'; cases e'
  rw [d] at d'
  injection d' with d1 _
  have : its = its' := by simpa using congrArg Array.toList d1
  subst this
  exact r.inj r'
end
abbrev Cx.wish (X : Cx) (E : Value → Shared → Prop) : Cx := { X with xe := E }
abbrev Cx.nox (X : Cx) : Cx := X.wish fun _ _ => False
theorem Cx.Ok.wish {X : Cx} (ok : X.Ok) (E : Value → Shared → Prop) : (X.wish E).Ok :=
  ⟨ok.mod, ok.kind, ok.glob, ok.blt, ok.above, ok.inj, ok.has, ok.cab, ok.hd, ok.frames, ok.stk, ok.exf, ok.bs, ok.bsz, ok.noex, ok.exfs, ok.funs, ok.frf⟩
theorem Cx.Ok.unwish {X : Cx} {E : Value → Shared → Prop} (ok : (X.wish E).Ok) : X.Ok :=
  ⟨ok.mod, ok.kind, ok.glob, ok.blt, ok.above, ok.inj, ok.has, ok.cab, ok.hd, ok.frames, ok.stk, ok.exf, ok.bs, ok.bsz, ok.noex, ok.exfs, ok.funs, ok.frf⟩
section
variable {X : Cx} {pins : List (Addr × Obj)} {σ : St} {H : Hp} {s : Shared} {E : Value → Shared → Prop}
theorem Inv.wish (I : Inv X pins σ H s) (E : Value → Shared → Prop) : Inv (X.wish E) pins σ H s := ⟨I.ok.wish E, I.os, I.bare, I.base, I.loc, I.cell, I.free, I.freeC, I.pin, I.hok, I.len⟩
theorem Inv.unwish (I : Inv (X.wish E) pins σ H s) : Inv X pins σ H s := ⟨I.ok.unwish, I.os, I.bare, I.base, I.loc, I.cell, I.free, I.freeC, I.pin, I.hok, I.len⟩
theorem SP.unwish {D : Ends} {f : Flow} {s' : Shared} (h : SP (X.wish E) pins D f s') : SP X pins D f s' := by
  cases f with
  | next => obtain ⟨σ', H', I, q⟩ := h; exact ⟨σ', H', I.unwish, q⟩
  | brk => obtain ⟨σ', H', I, q⟩ := h; exact ⟨σ', H', I.unwish, q⟩
  | cont => obtain ⟨σ', H', I, q⟩ := h; exact ⟨σ', H', I.unwish, q⟩
  | ret u => obtain ⟨v, σ', H', I, r, q⟩ := h; exact ⟨v, σ', H', I.unwish, r, q⟩
theorem PSs.nox {st : List Stmt} {t : TS} (h : PSs X.nox st t) : PSs X st t := fun pins s σ H D I hw =>
  wpAny_mono (h pins s σ H D (I.wish _) hw) (fun _ _ q => q.unwish) fun _ _ z => False.elim z
end
section
variable {X : Cx} {st : Stmt} {rest : List Stmt} {t u : TS} {e : Expr} {te : TE} {pos : Pos}
def tNext : TS := fun D σ H => D.nx σ H
def tSeq (t u : TS) : TS := fun D σ H => t { D with nx := u D } σ H
theorem pss_nil : PSs X [] tNext := fun _ _ σ H _ I h => wpAny_execs_nil ⟨σ, H, I, h⟩
theorem pss_cons (h1 : PS X st t) (h2 : PSs X rest u) : PSs X (st :: rest) (tSeq t u) := by
  intro pins s σ H D I h
  refine wpAny_execs_cons (thn (h1 pins s σ H { D with nx := u D } I h) fun f s1 q => ?_)
  cases f with
  | next =>
    obtain ⟨σ', H', I', q⟩ := q
    exact h2 pins s1 σ' H' D I' q
  | ret v => exact q
  | brk => exact q
  | cont => exact q
theorem pss_one (h1 : PS X st t) : PSs X [st] t := by
  intro pins s σ H D I h
  refine wpAny_execs_cons (thn (h1 pins s σ H D I h) fun f s1 q => ?_)
  cases f with
  | next => exact wpAny_execs_nil q
  | ret v => exact q
  | brk => exact q
  | cont => exact q
def tBreak : TS := fun D σ H => D.bk σ H
theorem ps_break : PS X (.Break pos) tBreak := fun _ _ σ H _ I h => wpAny_Break ⟨σ, H, I, h⟩
theorem Inv.quiet {pins : List (Addr × Obj)} {σ : St} {H : Hp} {s : Shared} (I : Inv X pins σ H s) : interactive X.env = false := by simp [interactive, I.ok.kind]
def tDrop (te : TE) : TS := fun D σ H => te σ H fun _ H1 => D.nx σ H1
theorem ps_expr (he : PE X e te) (hs : swapsWith e none pos.line X.env = pure false := by rfl) : PS X (.Expr e pos) (tDrop te) := by
  intro pins s σ H D I h
  exact wpAny_Expr_any (thn (he pins s σ H _ I h) fun v s1 ⟨x, H1, I1, r1, q1⟩ => ⟨σ, H1, I1, q1⟩) I.quiet hs
def tRet (te : TE) : TS := fun D σ H => te σ H D.rt
theorem ps_ret (he : PE X e te) : PS X (.Return (some e) pos) (tRet te) := by
  intro pins s σ H D I h
  exact wpAny_Return_some (thn (he pins s σ H _ I h) fun v s1 ⟨x, H1, I1, r1, q1⟩ => ⟨x, σ, H1, I1, r1, q1⟩)
def tIfS (c : TT) (t u : TS) : TS := fun D σ H => c σ H fun b H1 => if b = true then t D σ H1 else u D σ H1
theorem ps_if {c : Expr} {a b : List Stmt} {tc : TT} (hc : PT X c tc) (ha : PSs X a t) (hb : PSs X b u) : PS X (.If c a b pos) (tIfS tc t u) := by
  intro pins s σ H D I h
  refine wpAny_If (thn (hc pins s σ H _ I h) fun d s1 ⟨H1, I1, q1⟩ => ?_)
  cases d with
  | true => exact ha pins s1 σ H1 D I1 q1
  | false => exact hb pins s1 σ H1 D I1 q1
end
abbrev TG := V → St → Hp → (St → Hp → Prop) → Prop
def PG (X : Cx) (target : Expr) (t : TG) : Prop :=
  ∀ (pins : List (Addr × Obj)) (s : Shared) (σ : St) (H : Hp) (v : V) (u : Value) (Q : St → Hp → Prop), Inv X pins σ H s → RelV v u → t v σ H Q →
    wpAny (model X.prog X.w) X.A (assign target X.env u) (fun _ s' => ∃ σ' H', Inv X pins σ' H' s' ∧ Q σ' H') X.xe s
abbrev TSet := V → V → V → Hp → (Hp → Prop) → Prop
def PSet (X : Cx) (t : TSet) : Prop :=
  ∀ (pins : List (Addr × Obj)) (s : Shared) (σ : St) (H : Hp) (o i v : V) (ov iv u : Value) (Q : Hp → Prop), Inv X pins σ H s → RelV o ov → RelV i iv → RelV v u → t o i v H Q →
    wpAny (model X.prog X.w) X.A (setItem ov iv u) (fun _ s' => ∃ H', Inv X pins σ H' s' ∧ Q H') X.xe s
abbrev TIp := V → V → Hp → VK → Prop
def PIp (X : Cx) (op : Operator) (t : TIp) : Prop :=
  ∀ (pins : List (Addr × Obj)) (s : Shared) (σ : St) (H : Hp) (x y : V) (v u : Value) (Q : VK), Inv X pins σ H s → RelV x v → RelV y u → t x y H Q →
    wpAny (model X.prog X.w) X.A (inplaceOp op v u) (EP X pins σ Q) X.xe s
section
variable {X : Cx} {pos : Pos}
def gName (i : Nat) : TG := fun v σ H Q => Q (σ.set i (some v)) H
theorem pg_name {i : Nat} {x : Str} (hN : X.N.Nodup) (hi : X.N[i]? = some x) (hx : Loc X.env.scope x) (hf : X.fn x = true ∨ X.env.scope.names.lookup x = some .local := by first | exact .inl rfl | exact .inr rfl | assumption) : PG X (.Name x pos) (gName i) := by
  intro pins s σ H v u Q I r h
  exact wpAny_assign_Name (store_ok I hN hi hx r (fun s' I' => ⟨_, H, I', h⟩) hf)
def gSub (to ti : TE) (t : TSet) : TG := fun v σ H Q => to σ H fun o H1 => ti σ H1 fun i H2 => t o i v H2 fun H3 => Q σ H3
theorem pg_sub {o i : Expr} {to ti : TE} {t : TSet} (ho : PE X o to) (hi : PE X i ti) (hs : PSet X t)
    (ha : ∀ v, assign (.Subscript o i pos) X.env v = (do
      let ov ← holding [v] (eval o X.env)
      let iv ← holding [v, ov] (eval i X.env)
      standAt pos
      holding [v, ov, iv] (setItem ov iv v)
      release [v, ov, iv] []) := by intro _; rfl) : PG X (.Subscript o i pos) (gSub to ti t) := by
  intro pins s σ H v u Q I r h
  rw [ha]
  refine wpAny_bind (wpAny_holding (thn (ho pins s σ H _ I h) fun ov s1 ⟨x, H1, I1, r1, q1⟩ => ?_))
  refine wpAny_bind (wpAny_holding (thn (hi pins s1 σ H1 _ I1 q1) fun iv s2 ⟨y, H2, I2, r2, q2⟩ => ?_))
  refine wpAny_bind (wpAny_standAt (wpAny_bind (wpAny_holding (thn (hs pins s2 σ H2 x y v ov iv u _ I2 r1 r2 r q2) fun _ s3 ⟨H3, I3, q3⟩ => ?_))))
  exact wpAny_release ⟨σ, H3, I3, q3⟩
def tAsg (te : TE) (g : TG) : TS := fun D σ H => te σ H fun x H1 => g x σ H1 D.nx
theorem ps_asg {tg e : Expr} {te : TE} {g : TG} (he : PE X e te) (hg : PG X tg g) (hs : swapsWithSole [tg] e pos.line X.env = pure false := by rfl) (hw : swappedStores [tg] e X.env = pure none := by rfl)
    (h1 : (assignEach [tg] X.env).map (·.2) = [assign tg X.env] := by rfl) : PS X (.Assign [tg] e pos) (tAsg te g) := by
  intro pins s σ H D I h
  refine wpAny_Assign_stores (thn (he pins s σ H _ I h) fun v s1 ⟨x, H1, I1, r1, q1⟩ => ?_) hs hw
  rw [h1]
  exact thn (hg pins s1 σ H1 x v _ I1 r1 q1) fun _ s2 q => q
theorem ps_set {i : Nat} {x : Str} {e : Expr} {te : TE} {pos' : Pos} (hN : X.N.Nodup) (hi : X.N[i]? = some x) (hx : Loc X.env.scope x) (he : PE X e te) (hs : swapsWith e (some (.Name x pos')) pos.line X.env = pure false := by rfl) (hf : X.fn x = true ∨ X.env.scope.names.lookup x = some .local := by first | exact .inl rfl | exact .inr rfl | assumption) :
    PS X (.Assign [.Name x pos'] e pos) (tAsg te (gName i)) := by
  intro pins s σ H D I h
  refine wpAny_Assign_Name (thn (he pins s σ H _ I h) fun v s1 ⟨y, H1, I1, r1, q1⟩ => ?_) hs
  exact store_ok I1 hN hi hx r1 (fun s2 I2 => ⟨_, H1, I2, q1⟩) hf
def tAug (i : Nat) (te : TE) (ti : TIp) : TS := fun D σ H => ∃ x, σ[i]? = some (some x) ∧ te σ H fun y H1 => ti x y H1 fun z H2 => D.nx (σ.set i (some z)) H2
theorem ps_aug {i : Nat} {x : Str} {e : Expr} {te : TE} {op : Operator} {ti : TIp} {pos' : Pos} (hN : X.N.Nodup) (hi : X.N[i]? = some x) (hx : Loc X.env.scope x) (he : PE X e te) (ho : PIp X op ti) (hf : X.fn x = true ∨ X.env.scope.names.lookup x = some .local := by first | exact .inl rfl | exact .inr rfl | assumption) :
    PS X (.AugAssign (.Name x pos') op e pos) (tAug i te ti) := by
  intro pins s σ H D I h
  obtain ⟨v, e1, h⟩ := h
  obtain ⟨m, hn, hl⟩ := I.loc
  have vis : Vis X.env.scope x := by rcases hx with k | k; exact .inl k; exact .inr (.inl k)
  obtain ⟨u, r, l⟩ := hl i x v hi e1 vis
  refine wpAny_AugAssign_Name ?_
  have go : wpAny (model X.prog X.w) X.A (eval e X.env) (fun w s₂ => wpAny (model X.prog X.w) X.A (inplaceOp op u w) (fun r s₃ => wpAny (model X.prog X.w) X.A (storeName X.env x r) (fun _ => SP X pins D .next) X.xe s₃) X.xe s₂) X.xe s := by
    refine thn (he pins s σ H _ I h) fun w s1 ⟨y, H1, I1, r1, q1⟩ => ?_
    refine thn (ho pins s1 σ H1 v y u w _ I1 r r1 q1) fun z s2 ⟨zv, H2, I2, r2, q2⟩ => ?_
    exact store_ok I2 hN hi hx r2 (fun s3 I3 => ⟨_, H2, I3, q2⟩) hf
  rcases l with ⟨hk, hm⟩ | ⟨hk, c, hc, hcell⟩
  · exact wpAny_loadName_local I.ok.kind hk hn hm go
  · rcases hk with hk | hk
    · exact wpAny_loadName_cell I.ok.kind hk hc hcell go
    · rcases hx with k | k
      · have : X.env.scope.names.lookup x = some .free := hk
        rw [k] at this; cases this
      · have : X.env.scope.names.lookup x = some .free := hk
        rw [k] at this; cases this
def tAugS (to ti te : TE) (tget : V → V → Hp → VK → Prop) (tip : TIp) (tset : TSet) : TS := fun D σ H => to σ H fun o H1 => ti σ H1 fun i H2 => tget o i H2 fun x H3 => te σ H3 fun y H4 => tip x y H4 fun z H5 => tset o i z H5 fun H6 => D.nx σ H6
def PGet (X : Cx) (t : V → V → Hp → VK → Prop) : Prop :=
  ∀ (pins : List (Addr × Obj)) (s : Shared) (σ : St) (H : Hp) (o i : V) (ov iv : Value) (Q : VK), Inv X pins σ H s → RelV o ov → RelV i iv → t o i H Q →
    wpAny (model X.prog X.w) X.A (getItem ov iv) (EP X pins σ Q) X.xe s
theorem ps_augS {o i e : Expr} {to ti te : TE} {tget : V → V → Hp → VK → Prop} {tip : TIp} {tset : TSet} {op : Operator} {tpos : Pos} (ho : PE X o to) (hi : PE X i ti) (hg : PGet X tget) (he : PE X e te) (hp : PIp X op tip) (hs : PSet X tset)
    (ha : ∀ ov iv new, augStore i ov iv new = (do holding [new, ov, iv] (setItem ov iv new); release [new, ov, iv] []; pure .next) := by intros; rfl) : PS X (.AugAssign (.Subscript o i tpos) op e pos) (tAugS to ti te tget tip tset) := by
  intro pins s σ H D I h
  refine wpAny_AugAssign_SubscriptAny (thn (ho pins s σ H _ I h) fun ov s1 ⟨x1, H1, I1, r1, q1⟩ => ?_) ha
  refine thn (hi pins s1 σ H1 _ I1 q1) fun iv s2 ⟨x2, H2, I2, r2, q2⟩ => ?_
  refine thn (hg pins s2 σ H2 x1 x2 ov iv _ I2 r1 r2 q2) fun old s3 ⟨x3, H3, I3, r3, q3⟩ => ?_
  refine thn (he pins s3 σ H3 _ I3 q3) fun v s4 ⟨x4, H4, I4, r4, q4⟩ => ?_
  refine thn (hp pins s4 σ H4 x3 x4 old v _ I4 r3 r4 q4) fun new s5 ⟨x5, H5, I5, r5, q5⟩ => ?_
  exact thn (hs pins s5 σ H5 x1 x2 x5 ov iv new _ I5 r1 r2 r5 q5) fun _ s6 ⟨H6, I6, q6⟩ => ⟨σ, H6, I6, q6⟩
def ipI (f : Int → Int → Int) : TIp := fun x y H Q => ∃ i j, x = .int i ∧ y = .int j ∧ Q (.int (f i j)) H
theorem ip_add : PIp X .Add (ipI fun i j => i + j) := by
  intro pins s σ H x y v u Q I r1 r2 h
  obtain ⟨i, j, e1, e2, q⟩ := h
  subst e1; subst e2
  obtain ⟨t, rfl⟩ := r1
  obtain ⟨t', rfl⟩ := r2
  exact iadd_int ⟨.int _, H, I.tok _, ⟨_, rfl⟩, q⟩
end
section
variable {X : Cx} {pos : Pos}
def tWhile (c : TT) (tb : TS) : TS := fun D σ H => ∃ W : Nat → St → Hp → Prop, (∃ m, W m σ H) ∧ ∀ m σ H, W m σ H →
  c σ H fun b H1 => if b = true then ∃ N : St → Hp → Prop, (∀ σ' H', N σ' H' → ∃ m', m' < m ∧ W m' σ' H') ∧ tb { D with nx := N, ct := N, bk := D.nx } σ H1 else D.nx σ H1
theorem ps_while {c : Expr} {body : List Stmt} {tc : TT} {tb : TS} (hp : PassesOwn (model X.prog X.w) X.A X.env X.xe) (hc : PT X c tc) (hb : PSs X body tb) : PS X (.While c body [] pos) (tWhile tc tb) := by
  intro pins s σ H D I h
  obtain ⟨W, ⟨m0, w0⟩, turn⟩ := h
  refine wpAny_While (codeAny_whileLoop (fun n s' => ∃ σ' H', Inv X pins σ' H' s' ∧ W n σ' H') ?_ m0 ⟨σ, H, I, w0⟩)
  rintro n s1 ⟨σ1, H1, I1, w1⟩
  refine wpAny_passesOwn hp (thn (hc pins s1 σ1 H1 _ I1 (turn n σ1 H1 w1)) fun b s2 ⟨H2, I2, q2⟩ => ?_)
  cases b with
  | true =>
    obtain ⟨N, hN, q2⟩ := q2
    rw [if_pos rfl]
    refine wpAny_passesOwn hp (thn (hb pins s2 σ1 H2 _ I2 q2) fun f s3 q3 => ?_)
    cases f with
    | next =>
      obtain ⟨σ3, H3, I3, n3⟩ := q3
      obtain ⟨m', hm, w3⟩ := hN σ3 H3 n3
      exact ⟨m', hm, σ3, H3, I3, w3⟩
    | cont =>
      obtain ⟨σ3, H3, I3, n3⟩ := q3
      obtain ⟨m', hm, w3⟩ := hN σ3 H3 n3
      exact ⟨m', hm, σ3, H3, I3, w3⟩
    | brk => exact q3
    | ret v => exact q3
  | false =>
    rw [if_neg Bool.false_ne_true]
    exact wpAny_execs_nil ⟨σ1, H2, I2, q2⟩
end
structure It where
  go : Nat → Hp → Prop
  yld : Nat → Hp → V → Hp → Prop
  stop : Nat → Hp → Prop
def FpOk (X : Cx) (pins : List (Addr × Obj)) (H : Hp) (b : Addr) : Prop :=
  H b = none ∧ b ≠ X.env.locals ∧ b ∉ X.fs ∧ (b ∈ X.ex ∨ X.s₀.heap.objs.size ≤ b) ∧ (∀ x c, X.env.cells.lookup x = some c → c ≠ b) ∧ ∀ p ∈ X.pn ++ pins, p.1 ≠ b
theorem Inv.fpOk {X : Cx} {pins : List (Addr × Obj)} {σ : St} {H H' : Hp} {s : Shared} {b : Addr} (I : Inv X pins σ H s) (hb : s.heap.objs.size ≤ b) (hn : H' b = none) : FpOk X pins H' b := by
  refine ⟨hn, Nat.ne_of_gt (Nat.lt_of_lt_of_le I.lt hb), I.nofs hb, .inr (Nat.le_trans I.sz hb), fun x c e z => ?_, fun p hp z => ?_⟩
  · obtain ⟨v, q⟩ := I.cell x c e
    exact absurd (Nat.lt_of_lt_of_le q.lt (by rw [z]; exact hb)) (Nat.lt_irrefl _)
  · exact absurd (Nat.lt_of_lt_of_le (Heap.lt_size (I.pin p hp).1) (by rw [z]; exact hb)) (Nat.lt_irrefl _)
structure Turn (P : Program) (w : World) (K : PySem.W.Frag) (tg : Expr) (J : It) (fp : List Addr) (it : Addr) (tn : Nat → Heap → Prop) : Prop where
  mem : it ∈ fp
  obj : ∀ i h, tn i h → ∀ b ∈ fp, ∃ o, h.get? b = some o ∧ ∀ v, o.data ≠ .cell v
  keep : ∀ i h h', tn i h → (∀ b ∈ fp, ∀ o, h.get? b = some o → h'.get? b = some o) → tn i h'
  item : ∀ (X : Cx), X.prog = P → X.w = w → X.K = K → X.calm = true → ∀ (i : Nat) (pins : List (Addr × Obj)) (s : Shared) (σ : St) (H : Hp) (E : Value → Shared → Prop), Inv X pins σ H s → (∀ b ∈ fp, FpOk X pins H b) → tn i s.heap → J.go i H →
    wpAny (model P w) X.A (pyNext (.ref it)) (fun r s1 => ∃ u, r = some u ∧
      wpAny (model P w) X.A (letOwnedTupleGo tg (.ref it) u) (fun _ s2 => ∃ x H', Inv X pins σ H' s2 ∧ RelV x u ∧ J.yld i H x H' ∧ tn (i + 1) s2.heap ∧ ∀ b ∈ fp, H' b = none) E s1) E s
  done : ∀ (X : Cx), X.prog = P → X.w = w → X.K = K → X.calm = true → ∀ (i : Nat) (pins : List (Addr × Obj)) (s : Shared) (σ : St) (H : Hp) (E : Value → Shared → Prop), Inv X pins σ H s → (∀ b ∈ fp, FpOk X pins H b) → tn i s.heap → J.stop i H →
    wpAny (model P w) X.A (pyNext (.ref it)) (fun r s1 => r = none ∧ Inv X pins σ H s1) E s
  self : ∀ (A : Around) (i : Nat) (s : Shared) (Q : Value → Shared → Prop) (E : Value → Shared → Prop), tn i s.heap → Q (.ref it) s → wpAny (model P w) A (pyIter (.ref it)) Q E s
abbrev TI := St → Hp → (It → Hp → Prop) → Prop
def PIE (X : Cx) (pins : List (Addr × Obj)) (σ : St) (tg : Expr) (R : It → Hp → Prop) (itv : Value) (s2 : Shared) : Prop :=
  ∃ (it : Addr) (fp : List Addr) (tn : Nat → Heap → Prop) (J : It) (H' : Hp), itv = .ref it ∧ Inv X pins σ H' s2 ∧ Turn X.prog X.w X.K tg J fp it tn ∧ tn 0 s2.heap ∧ (∀ b ∈ fp, FpOk X pins H' b) ∧ R J H'
def PI (X : Cx) (tg iter : Expr) (wi : TI) : Prop :=
  ∀ (pins : List (Addr × Obj)) (s : Shared) (σ : St) (H : Hp) (R : It → Hp → Prop), Inv X pins σ H s → wi σ H R →
    wpAny (model X.prog X.w) X.A (eval iter X.env) (fun v s1 => wpAny (model X.prog X.w) X.A (pyIter v) (PIE X pins σ tg R) X.xe s1) X.xe s
theorem go_of {M : Model} {A : Around} {E : Value → Shared → Prop} {s : Shared} {tg : Expr} {it : Addr} {u : Value} {o : Obj} {n : String} {vs : Array Value} {Q : Unit → Shared → Prop} (ho : s.heap.get? it = some o) (hc : o.cls = .type n) (hd : o.data = .fields vs)
    (hn : ["enumerate", "zip", "dict_itemiterator", "dict_reverseitemiterator", "odict_iterator", "itertools.zip_longest", "itertools.pairwise"].contains n = false) (hQ : Q () s) : wpAny M A (letOwnedTupleGo tg (.ref it) u) Q E s := by
  unfold letOwnedTupleGo
  cases tg <;> first
    | exact wpAny_pure hQ
    | (cases u <;> first
        | exact wpAny_pure hQ
        | (refine wpAny_bind (wpAny_load ho ?_)
           rw [hc, hd]
           show wpAny M A (if (["enumerate", "zip", "dict_itemiterator", "dict_reverseitemiterator", "odict_iterator", "itertools.zip_longest", "itertools.pairwise"].contains n && vs[0]? == some (rawInt _)) = true then _ else _) Q E s
           rw [if_neg (by intro h; rw [hn, Bool.false_and] at h; cases h)]
           exact wpAny_pure hQ))
def Itl (K : PySem.W.Frag) (a : Addr) : It :=
  ⟨fun i H => ∃ xs x, SqL K H a xs ∧ xs[i]? = some x, fun i H x H' => H' = H ∧ ∀ xs, SqL K H a xs → xs[i]? = some x, fun i H => ∃ xs, SqL K H a xs ∧ xs.length ≤ i⟩
def Itt (K : PySem.W.Frag) (a : Addr) : It :=
  ⟨fun i H => ∃ xs x, SqT K H a xs ∧ xs[i]? = some x, fun i H x H' => H' = H ∧ ∀ xs, SqT K H a xs → xs[i]? = some x, fun i H => ∃ xs, SqT K H a xs ∧ xs.length ≤ i⟩
theorem turn_list {P : Program} {w : World} {K : PySem.W.Frag} {tg : Expr} (a it : Addr) : Turn P w K tg (Itl K a) [it] it (fun i h => h.IsListIter it a i) where
  mem := by simp
  obj := fun i h st b hb => by
    have e : b = it := by simpa using hb
    subst e
    obtain ⟨o, e, c, d⟩ := st
    exact ⟨o, e, fun v z => by rw [d] at z; cases z⟩
  keep := fun i h h' st k => st.at fun o e => k it (by simp) o e
  item := by
    intro X hP hw hK hc i pins s σ H E I hf st hg
    subst hP hw hK
    obtain ⟨xs, x, hq, hx⟩ := hg
    obtain ⟨its, rv, p, hz⟩ := I.list hq
    obtain ⟨u, hu, ru⟩ := rv.get hx
    obtain ⟨f0, f1, f2, f3, f4, f5⟩ := hf it (by simp)
    refine wpAny_pyNext_list_item st p.isList (x := u) (by simpa using hu) fun h' st' sb => ?_
    have I1 : Inv X pins σ H { s with heap := h' } := I.turned (t' := s.toks) (fun b o hb e => (sb.2 b hb).trans e) f0 f1 f3 f4 f5
    obtain ⟨o, e, c, d⟩ := id st'
    exact ⟨u, rfl, go_of (s := { s with heap := h' }) e c d (by decide) ⟨x, H, I1, ru, ⟨rfl, fun ys hy => by rw [I.list_inj hy hq]; exact hx⟩, st', fun b hb => (hf b hb).1⟩⟩
  done := by
    intro X hP hw hK hc i pins s σ H E I hf st hg
    subst hP hw hK
    obtain ⟨xs, hq, hx⟩ := hg
    obtain ⟨its, rv, p, hz⟩ := I.list hq
    obtain ⟨f0, f1, f2, f3, f4, f5⟩ := hf it (by simp)
    have hl := rv.length
    exact wpAny_pyNext_list_end (I.ok.hd hc) st p.isList (by simp; omega) fun h' eb => ⟨rfl, I.turned (t' := s.toks) (fun b o hb e => eb b o hb e) f0 f1 f3 f4 f5⟩
  self := fun _ _ _ _ _ st h => wpAny_pyIter_listiter st h
theorem turn_tuple {P : Program} {w : World} {K : PySem.W.Frag} {tg : Expr} (a it : Addr) : Turn P w K tg (Itt K a) [it] it (fun i h => h.IsTupleIter it a i) where
  mem := by simp
  obj := fun i h st b hb => by
    have e : b = it := by simpa using hb
    subst e
    obtain ⟨o, e, c, d⟩ := st
    exact ⟨o, e, fun v z => by rw [d] at z; cases z⟩
  keep := fun i h h' st k => st.at fun o e => k it (by simp) o e
  item := by
    intro X hP hw hK hc i pins s σ H E I hf st hg
    subst hP hw hK
    obtain ⟨xs, x, hq, hx⟩ := hg
    obtain ⟨its, rv, p, hz⟩ := I.tuple hq
    obtain ⟨u, hu, ru⟩ := rv.get hx
    obtain ⟨f0, f1, f2, f3, f4, f5⟩ := hf it (by simp)
    refine wpAny_pyNext_tuple_item st (show s.heap.IsTuple a its.toArray from p) (x := u) (by simpa using hu) fun h' st' sb => ?_
    have I1 : Inv X pins σ H { s with heap := h' } := I.turned (t' := s.toks) (fun b o hb e => (sb.2 b hb).trans e) f0 f1 f3 f4 f5
    obtain ⟨o, e, c, d⟩ := id st'
    exact ⟨u, rfl, go_of (s := { s with heap := h' }) e c d (by decide) ⟨x, H, I1, ru, ⟨rfl, fun ys hy => by rw [I.tuple_inj hy hq]; exact hx⟩, st', fun b hb => (hf b hb).1⟩⟩
  done := by
    intro X hP hw hK hc i pins s σ H E I hf st hg
    subst hP hw hK
    obtain ⟨xs, hq, hx⟩ := hg
    obtain ⟨its, rv, p, hz⟩ := I.tuple hq
    obtain ⟨f0, f1, f2, f3, f4, f5⟩ := hf it (by simp)
    have hl := rv.length
    exact wpAny_pyNext_tuple_end (I.ok.hd hc) st (show s.heap.IsTuple a its.toArray from p) (by simp; omega) fun h' eb => ⟨rfl, I.turned (t' := s.toks) (fun b o hb e => eb b o hb e) f0 f1 f3 f4 f5⟩
  self := fun _ _ _ _ _ st h => wpAny_pyIter_tupleiter st h
end L2
namespace L2
open PySem PySem.Spec PyProof.Rows
section
variable {X : Cx} {tg : Expr}
def iList (K : PySem.W.Frag) (tl : TE) : TI := fun σ H R => tl σ H fun x H1 => ∃ a, x = .ref a ∧ (∃ xs, SqL K H1 a xs) ∧ R (Itl K a) H1
def iTup (K : PySem.W.Frag) (tl : TE) : TI := fun σ H R => tl σ H fun x H1 => ∃ a, x = .ref a ∧ (∃ xs, SqT K H1 a xs) ∧ R (Itt K a) H1
theorem pi_list {l : Expr} {tl : TE} (hl : PE X l tl) : PI X tg l (iList X.K tl) := by
  intro pins s σ H R I h
  refine thn (hl pins s σ H _ I h) fun v s1 ⟨x, H1, I1, r1, q1⟩ => ?_
  obtain ⟨a, e, ⟨xs, hq⟩, q⟩ := q1
  subst e
  cases r1
  obtain ⟨its, rv, p, hz⟩ := I1.list hq
  refine wpAny_pyIter_list p.isList ?_
  refine ⟨s1.heap.objs.size, [s1.heap.objs.size], _, _, H1, rfl, I1.kept (t' := s1.toks) fun b o e => Heap.get?_push_of_some _ e, turn_list a _, ⟨_, Heap.get?_push_size _ rfl, rfl, rfl⟩, fun b hb => ?_, q⟩
  have e : b = s1.heap.objs.size := by simpa using hb
  subst e
  exact I1.fpOk (Nat.le_refl _) (I1.hok.fresh (Nat.le_refl _))
theorem pi_tup {l : Expr} {tl : TE} (hl : PE X l tl) : PI X tg l (iTup X.K tl) := by
  intro pins s σ H R I h
  refine thn (hl pins s σ H _ I h) fun v s1 ⟨x, H1, I1, r1, q1⟩ => ?_
  obtain ⟨a, e, ⟨xs, hq⟩, q⟩ := q1
  subst e
  cases r1
  obtain ⟨its, rv, p, hz⟩ := I1.tuple hq
  refine wpAny_pyIter_tuple (show s1.heap.IsTuple a its.toArray from p) ?_
  refine ⟨s1.heap.objs.size, [s1.heap.objs.size], _, _, H1, rfl, I1.kept (t' := s1.toks) fun b o e => Heap.get?_push_of_some _ e, turn_tuple a _, ⟨_, Heap.get?_push_size _ rfl, rfl, rfl⟩, fun b hb => ?_, q⟩
  have e : b = s1.heap.objs.size := by simpa using hb
  subst e
  exact I1.fpOk (Nat.le_refl _) (I1.hok.fresh (Nat.le_refl _))
def tFor (wi : TI) (g : TG) (tb : TS) : TS := fun D σ H => wi σ H fun J H1 => ∃ W : Nat → Nat → St → Hp → Prop, (∃ m, W 0 m σ H1) ∧ ∀ i m σ H, W i m σ H →
  (J.stop i H ∧ D.nx σ H) ∨ (J.go i H ∧ ∃ N : St → Hp → Prop, (∀ σ' H', N σ' H' → ∃ m', m' < m ∧ W (i + 1) m' σ' H') ∧ ∀ x H', J.yld i H x H' → g x σ H' fun σ2 H2 => tb { D with nx := N, ct := N, bk := D.nx } σ2 H2)
def pinsAt (fp : List Addr) (h : Heap) : List (Addr × Obj) := fp.filterMap fun b => (h.get? b).map fun o => (b, o)
theorem mem_pinsAt {fp : List Addr} {h : Heap} {b : Addr} {o : Obj} (hb : b ∈ fp) (e : h.get? b = some o) : (b, o) ∈ pinsAt fp h := List.mem_filterMap.mpr ⟨b, hb, by rw [e]; rfl⟩
theorem of_pinsAt {fp : List Addr} {h : Heap} {p : Addr × Obj} (hp : p ∈ pinsAt fp h) : p.1 ∈ fp ∧ h.get? p.1 = some p.2 := by
  obtain ⟨b, hb, e⟩ := List.mem_filterMap.mp hp
  cases q : h.get? b with
  | none => rw [q] at e; cases e
  | some o =>
    rw [q] at e
    have e' : (b, o) = p := Option.some.inj e
    subst e'
    exact ⟨hb, q⟩
theorem Inv.pinned {pins : List (Addr × Obj)} {σ : St} {H : Hp} {s : Shared} {fp : List Addr} (I : Inv X pins σ H s) (hf : ∀ b ∈ fp, FpOk X pins H b) (ho : ∀ b ∈ fp, ∃ o, s.heap.get? b = some o ∧ ∀ v, o.data ≠ .cell v) : Inv X (pins ++ pinsAt fp s.heap) σ H s :=
  I.pins_of fun p hp => (List.mem_append.mp hp).elim (fun z => I.pin p (List.mem_append_right _ z)) fun z => by
    obtain ⟨hb, e⟩ := of_pinsAt z
    obtain ⟨f0, f1, f2, _⟩ := hf p.1 hb
    obtain ⟨o, e', d⟩ := ho p.1 hb
    rw [e] at e'; cases e'
    exact ⟨e, f0, f1, f2, d⟩
theorem Inv.unpinned {pins pl : List (Addr × Obj)} {σ : St} {H : Hp} {s : Shared} (I : Inv X (pins ++ pl) σ H s) : Inv X pins σ H s := I.pins_of fun p hp => I.pin p (List.mem_append_right _ (List.mem_append_left _ hp))
theorem ps_for {iter : Expr} {body : List Stmt} {wi : TI} {g : TG} {tb : TS} {pos : Pos} (hp : PassesOwn (model X.prog X.w) X.A X.env X.xe) (hc : X.calm = true) (hi : PI X tg iter wi) (hg : PG X tg g) (hb : PSs X body tb)
    (hs : ∀ x, foldedSetIterable iter X.env x = pure x := by intro _; rfl) : PS X (.For tg iter body [] pos) (tFor wi g tb) := by
  intro pins s σ H D I h
  refine wpAny_For (thn (hi pins s σ H _ I h) fun v s1 h1 => thn h1 fun itv s2 h2 => ?_) hs
  obtain ⟨it, fp, tn, J, H2, e, I2, T, st2, f2, W, ⟨m0, w0⟩, turn⟩ := h2
  subst e
  have stat : ∀ {H' : Hp}, (∀ b ∈ fp, H' b = none) → ∀ b ∈ fp, FpOk X pins H' b := fun hn b hb => ⟨hn b hb, (f2 b hb).2⟩
  refine codeAny_forLoop_any (fun n s' => ∃ i σ' H', Inv X pins σ' H' s' ∧ tn i s'.heap ∧ (∀ b ∈ fp, H' b = none) ∧ W i n σ' H') ?_ m0 ⟨0, σ, H2, I2, st2, fun b hb => (f2 b hb).1, w0⟩
  rintro n s3 ⟨i, σ3, H3, I3, st3, fr3, w3⟩
  rcases turn i n σ3 H3 w3 with ⟨stop, qn⟩ | ⟨go, N, hN, step⟩
  · refine wpAny_passesOwn hp (thn (T.done X rfl rfl rfl hc i pins s3 σ3 H3 X.xe I3 (stat fr3) st3 stop) fun r s4 ⟨hr, I4⟩ => ?_)
    subst hr
    exact wpAny_execs_nil ⟨σ3, H3, I4, qn⟩
  · refine wpAny_passesOwn hp (thn (T.item X rfl rfl rfl hc i pins s3 σ3 H3 X.xe I3 (stat fr3) st3 go) fun r s4 ⟨u, hr, h4⟩ => ?_)
    subst hr
    refine wpAny_passesOwn hp (thn h4 fun _ s5 ⟨x, H5, I5, r5, y5, st5, fr5⟩ => ?_)
    have I5' := I5.pinned (stat fr5) (T.obj _ _ st5)
    refine wpAny_passesOwn hp (thn (hg _ s5 σ3 H5 x u _ I5' r5 (step x H5 y5)) fun _ s6 ⟨σ6, H6, I6, q6⟩ => ?_)
    refine wpAny_passesOwn hp (thn (hb _ s6 σ6 H6 _ I6 q6) fun f s7 q7 => ?_)
    have again : ∀ {σ7 : St} {H7 : Hp}, Inv X (pins ++ pinsAt fp s5.heap) σ7 H7 s7 → N σ7 H7 → ∃ m, m < n ∧ ∃ i σ' H', Inv X pins σ' H' s7 ∧ tn i s7.heap ∧ (∀ b ∈ fp, H' b = none) ∧ W i m σ' H' := fun {σ7 H7} I7 n7 => by
      obtain ⟨m', hm, w7⟩ := hN σ7 H7 n7
      refine ⟨m', hm, i + 1, σ7, H7, I7.unpinned, T.keep _ _ _ st5 fun b hb o e => (I7.pin (b, o) (List.mem_append_right _ (List.mem_append_right _ (mem_pinsAt hb e)))).1, fun b hb => ?_, w7⟩
      obtain ⟨o, e, d⟩ := T.obj _ _ st5 b hb
      exact (I7.pin (b, o) (List.mem_append_right _ (List.mem_append_right _ (mem_pinsAt hb e)))).2.1
    cases f with
    | next => obtain ⟨σ7, H7, I7, n7⟩ := q7; exact again I7 n7
    | cont => obtain ⟨σ7, H7, I7, n7⟩ := q7; exact again I7 n7
    | brk => obtain ⟨σ7, H7, I7, q7⟩ := q7; exact ⟨σ7, H7, I7.unpinned, q7⟩
    | ret v => obtain ⟨x7, σ7, H7, I7, r7, q7⟩ := q7; exact ⟨x7, σ7, H7, I7.unpinned, r7, q7⟩
end
theorem for_list {K : PySem.W.Frag} {a : Addr} {xs : List V} {g : TG} {tb : TS} {D : Ends} {σ : St} {H : Hp} (Pv : Nat → St → Hp → Prop) (h0 : Pv 0 σ H) (hl : ∀ i σ H, i ≤ xs.length → Pv i σ H → SqL K H a xs)
    (hs : ∀ i x σ H, xs[i]? = some x → Pv i σ H → g x σ H fun σ2 H2 => tb { D with nx := Pv (i + 1), ct := Pv (i + 1), bk := D.nx } σ2 H2) (hd : ∀ σ H, Pv xs.length σ H → D.nx σ H) :
    ∃ W : Nat → Nat → St → Hp → Prop, (∃ m, W 0 m σ H) ∧ ∀ i m σ H, W i m σ H →
      ((Itl K a).stop i H ∧ D.nx σ H) ∨ ((Itl K a).go i H ∧ ∃ N : St → Hp → Prop, (∀ σ' H', N σ' H' → ∃ m', m' < m ∧ W (i + 1) m' σ' H') ∧ ∀ x H', (Itl K a).yld i H x H' → g x σ H' fun σ2 H2 => tb { D with nx := N, ct := N, bk := D.nx } σ2 H2) := by
  refine ⟨fun i m σ H => m = xs.length - i ∧ i ≤ xs.length ∧ Pv i σ H, ⟨xs.length, by simp, Nat.zero_le _, h0⟩, ?_⟩
  rintro i m σ H ⟨rfl, hi, p⟩
  have q := hl i σ H hi p
  by_cases hlt : i < xs.length
  · refine .inr ⟨⟨xs, xs[i], q, by simp [hlt]⟩, Pv (i + 1), fun σ' H' p' => ⟨xs.length - (i + 1), by omega, rfl, hlt, p'⟩, fun x H' y => ?_⟩
    obtain ⟨e, y⟩ := y
    subst e
    exact hs i x σ _ (y xs q) p
  · have e : i = xs.length := by omega
    subst e
    exact .inl ⟨⟨xs, q, Nat.le_refl _⟩, hd σ H p⟩
end L2
namespace L2
open PySem PySem.Spec PyProof.Rows
abbrev R2 := V → V → Hp → VK → Prop
def OpR (X : Cx) (f : Value → Value → Sem Value) (r : R2) : Prop :=
  ∀ (pins : List (Addr × Obj)) (s : Shared) (σ : St) (H : Hp) (x y : V) (v u : Value) (Q : VK), Inv X pins σ H s → RelV x v → RelV y u → r x y H Q →
    wpAny (model X.prog X.w) X.A (f v u) (EP X pins σ Q) X.xe s
def UnR (X : Cx) (f : Value → Sem Value) (r : V → Hp → VK → Prop) : Prop :=
  ∀ (pins : List (Addr × Obj)) (s : Shared) (σ : St) (H : Hp) (x : V) (v : Value) (Q : VK), Inv X pins σ H s → RelV x v → r x H Q →
    wpAny (model X.prog X.w) X.A (f v) (EP X pins σ Q) X.xe s
def CallR (X : Cx) (f : Value) (r : List V → Hp → VK → Prop) : Prop :=
  ∀ (pins : List (Addr × Obj)) (s : Shared) (σ : St) (H : Hp) (xs : List V) (us : List Value) (Q : VK), Inv X pins σ H s → Vals xs us → r xs H Q →
    wpAny (model X.prog X.w) X.A (call f us) (EP X pins σ Q) X.xe s
def tOp (r : R2) (ta tb : TE) : TE := fun σ H Q => ta σ H fun x H1 => tb σ H1 fun y H2 => r x y H2 Q
def tUn (r : V → Hp → VK → Prop) (ta : TE) : TE := fun σ H Q => ta σ H fun x H1 => r x H1 Q
def rI (C : Int → Int → Prop) (g : Int → Int → V) : R2 := fun x y H Q => ∃ i j, x = .int i ∧ y = .int j ∧ C i j ∧ Q (g i j) H
def rI0 (g : Int → Int → V) : R2 := fun x y H Q => ∃ i j, x = .int i ∧ y = .int j ∧ Q (g i j) H
def rU (g : Int → V) : V → Hp → VK → Prop := fun x H Q => ∃ i, x = .int i ∧ Q (g i) H
section
variable {X : Cx} {a b c : Expr} {ta tb tc : TE} {pos : Pos}
theorem binT (ha : PE X a ta) (hb : PE X b tb) {pins : List (Addr × Obj)} {s : Shared} {σ : St} {H : Hp} {R : V → V → Hp → Prop} (I : Inv X pins σ H s)
    (h : ta σ H fun x H1 => tb σ H1 fun y H2 => R x y H2) {Q : Value → Shared → Prop} {f : Value → Value → Sem Value}
    (hf : ∀ v u s2 x y H2, Inv X pins σ H2 s2 → RelV x v → RelV y u → R x y H2 → wpAny (model X.prog X.w) X.A (f v u) Q X.xe s2) :
    wpAny (model X.prog X.w) X.A (eval a X.env) (fun v s₁ => wpAny (model X.prog X.w) X.A (eval b X.env) (fun u s₂ => wpAny (model X.prog X.w) X.A (f v u) Q X.xe s₂) X.xe s₁) X.xe s := by
  refine thn (ha pins s σ H _ I h) fun v s1 ⟨x, H1, I1, r1, q1⟩ => ?_
  refine thn (hb pins s1 σ H1 _ I1 q1) fun u s2 ⟨y, H2, I2, r2, q2⟩ => ?_
  exact hf v u s2 x y H2 I2 r1 r2 q2
theorem pe_op {op : Operator} {r : R2} (ho : OpR X (binaryOp op) r) (ha : PE X a ta) (hb : PE X b tb) : PE X (.BinOp a op b pos) (tOp r ta tb) := by
  intro pins s σ H Q I h
  exact wpAny_BinOp (binT ha hb I h fun v u s2 x y H2 I2 rx ry q => ho pins s2 σ H2 x y v u Q I2 rx ry q)
theorem pe_un {op : UnaryOp} {r : V → Hp → VK → Prop} (ho : UnR X (unaryOp op) r) (ha : PE X a ta) : PE X (.UnaryOp op a pos) (tUn r ta) := by
  intro pins s σ H Q I h
  exact UnaryOp_ (thn (ha pins s σ H _ I h) fun v s1 ⟨x, H1, I1, r1, q1⟩ => ho pins s1 σ H1 x v Q I1 r1 q1)
theorem opI {f : Value → Value → Sem Value} {C : Int → Int → Prop} {g : Int → Int → Int}
    (rule : ∀ (i j : Int) (t u : Tok) (s : Shared) (Q : Value → Shared → Prop) (E : Value → Shared → Prop), C i j → Q (.int (g i j) s.toks) { s with toks := s.toks + 1 } → wpAny (model X.prog X.w) X.A (f (.int i t) (.int j u)) Q E s) :
    OpR X f (rI C fun i j => .int (g i j)) := by
  intro pins s σ H x y v u Q I rx ry h
  obtain ⟨i, j, rfl, rfl, hc, q⟩ := h
  obtain ⟨t, rfl⟩ := rx
  obtain ⟨t', rfl⟩ := ry
  exact rule i j t t' s _ _ hc ⟨.int (g i j), H, I.tok _, ⟨_, rfl⟩, q⟩
theorem opI0 {f : Value → Value → Sem Value} {g : Int → Int → Int}
    (rule : ∀ (i j : Int) (t u : Tok) (s : Shared) (Q : Value → Shared → Prop) (E : Value → Shared → Prop), Q (.int (g i j) s.toks) { s with toks := s.toks + 1 } → wpAny (model X.prog X.w) X.A (f (.int i t) (.int j u)) Q E s) :
    OpR X f (rI0 fun i j => .int (g i j)) := by
  intro pins s σ H x y v u Q I rx ry h
  obtain ⟨i, j, rfl, rfl, q⟩ := h
  obtain ⟨t, rfl⟩ := rx
  obtain ⟨t', rfl⟩ := ry
  exact rule i j t t' s _ _ ⟨.int (g i j), H, I.tok _, ⟨_, rfl⟩, q⟩
theorem opB0 {f : Value → Value → Sem Value} {g : Int → Int → Bool}
    (rule : ∀ (i j : Int) (t u : Tok) (s : Shared) (Q : Value → Shared → Prop) (E : Value → Shared → Prop), Q (.bool (g i j)) s → wpAny (model X.prog X.w) X.A (f (.int i t) (.int j u)) Q E s) :
    OpR X f (rI0 fun i j => .bl (g i j)) := by
  intro pins s σ H x y v u Q I rx ry h
  obtain ⟨i, j, rfl, rfl, q⟩ := h
  obtain ⟨t, rfl⟩ := rx
  obtain ⟨t', rfl⟩ := ry
  exact rule i j t t' s _ _ ⟨.bl (g i j), H, I, rfl, q⟩
def CDiv (i j : Int) : Prop := 0 < j ∧ j < 1073741824
def CMul (i j : Int) : Prop := (-(2 ^ 64) < i ∧ i < 2 ^ 64) ∨ (-(2 ^ 64) < j ∧ j < 2 ^ 64)
theorem CMul.ok {i j : Int} (h : CMul i j) : IntMulOk i j := by
  rcases h with ⟨h1, h2⟩ | ⟨h1, h2⟩
  · exact .of_left (intBits_le_64 h1 h2)
  · exact .of_right (intBits_le_64 h1 h2)
theorem op_add : OpR X (binaryOp .Add) (rI0 fun i j => .int (i + j)) := opI0 fun _ _ _ _ _ _ _ q => add_int q
theorem op_sub : OpR X (binaryOp .Sub) (rI0 fun i j => .int (i - j)) := opI0 fun _ _ _ _ _ _ _ q => sub_int q
theorem op_mul : OpR X (binaryOp .Mult) (rI CMul fun i j => .int (i * j)) := opI fun _ _ _ _ _ _ _ hc q => mul_int q hc.ok
theorem op_fdiv : OpR X (binaryOp .FloorDiv) (rI CDiv fun i j => .int (i / j)) := opI fun i j _ _ _ _ _ hc q => by
  have h1 : (0 : Int) < j := hc.1
  have h2 : j < 1073741824 := hc.2
  exact floordiv_int (by omega) (by rw [Int.fdiv_eq_ediv_of_nonneg i (by omega)]; exact q) (.inl (PyProof.noPylong_small (by omega)))
theorem op_mod : OpR X (binaryOp .Mod) (rI (fun _ j => 0 < j) fun i j => .int (i % j)) := opI fun i j _ _ _ _ _ hc q => by
  have h1 : (0 : Int) < j := hc
  exact mod_int' (by omega) (by rw [Int.fmod_eq_emod_of_nonneg i (by omega)]; exact q)
theorem unI {f : Value → Sem Value} {g : Int → Int}
    (rule : ∀ (i : Int) (t : Tok) (s : Shared) (Q : Value → Shared → Prop) (E : Value → Shared → Prop), Q (.int (g i) s.toks) { s with toks := s.toks + 1 } → wpAny (model X.prog X.w) X.A (f (.int i t)) Q E s) :
    UnR X f (rU fun i => .int (g i)) := by
  intro pins s σ H x v Q I rx h
  obtain ⟨i, rfl, q⟩ := h
  obtain ⟨t, rfl⟩ := rx
  exact rule i t s _ _ ⟨.int (g i), H, I.tok _, ⟨_, rfl⟩, q⟩
theorem un_neg : UnR X (unaryOp .USub) (rU fun i => .int (-i)) := unI fun _ _ _ _ _ q => neg_int q
end
def scal : V → V → Bool
  | .non, .non => true | .non, .int _ => true | .int _, .non => true | .non, .bl _ => true | .bl _, .non => true | .non, .str _ => true | .str _, .non => true
  | .int _, .int _ => true | .bl _, .bl _ => true | .str _, .str _ => true | .byt _, .byt _ => true
  | .int _, .str _ => true | .str _, .int _ => true | .bl _, .str _ => true | .str _, .bl _ => true
  | _, _ => false
def rEq : R2 := fun x y H Q => scal x y = true ∧ Q (.bl (decide (x = y))) H
def rNe : R2 := fun x y H Q => scal x y = true ∧ Q (.bl (!decide (x = y))) H
theorem dec_int {i j : Int} : decide (V.int i = V.int j) = (i == j) := by
  rw [Bool.eq_iff_iff]
  simp
theorem dec_bl {i j : Bool} : decide (V.bl i = V.bl j) = (i == j) := by
  rw [Bool.eq_iff_iff]
  simp
theorem dec_str {i j : Str} : decide (V.str i = V.str j) = (i == j) := by
  rw [Bool.eq_iff_iff]
  simp
theorem dec_byt {i j : Array UInt8} : decide (V.byt i = V.byt j) = (i.toList == j.toList) := by
  rw [Bool.eq_iff_iff]
  cases i
  cases j
  simp
section
variable {X : Cx} {a b c : Expr} {ta tb tc : TE} {pos : Pos}
theorem fin_bl {pins : List (Addr × Obj)} {σ : St} {H : Hp} {s : Shared} {Q : VK} {k k' : Bool} (I : Inv X pins σ H s) (q : Q (.bl k) H) (e : k = k') : EP X pins σ Q (.bool k') s := by
  subst e
  exact ⟨.bl k, H, I, rfl, q⟩
theorem op_eq : OpR X (compareOp .Eq) rEq := by
  intro pins s σ H x y v u Q I rx ry h
  obtain ⟨hs, q⟩ := h
  cases x with
  | non =>
    cases rx
    cases y with
    | non => cases ry; exact PySem.EqNone.eq_none_none (fin_bl I q (by simp))
    | bl j => cases ry; exact PySem.EqNone.eq_none_bool (fin_bl I q (by simp))
    | int j => obtain ⟨t', rfl⟩ := ry; exact PySem.EqNone.eq_none_int (fin_bl I q (by simp))
    | str j => obtain ⟨t', rfl⟩ := ry; exact PySem.EqNone.eq_none_str (fin_bl I q (by simp))
    | _ => exact absurd (show false = true from hs) Bool.false_ne_true
  | bl i =>
    cases rx
    cases y with
    | non => cases ry; exact PySem.EqNone.eq_bool_none (fin_bl I q (by simp))
    | bl j => cases ry; exact eq_bool (fin_bl I q dec_bl)
    | str j => obtain ⟨t', rfl⟩ := ry; exact PySem.EqMixed.eq_bool_str (fin_bl I q (by simp))
    | _ => exact absurd (show false = true from hs) Bool.false_ne_true
  | int i =>
    obtain ⟨t, rfl⟩ := rx
    cases y with
    | non => cases ry; exact PySem.EqNone.eq_int_none (fin_bl I q (by simp))
    | int j => obtain ⟨t', rfl⟩ := ry; exact eq_int (fin_bl I q dec_int)
    | str j => obtain ⟨t', rfl⟩ := ry; exact PySem.EqMixed.eq_int_str (fin_bl I q (by simp))
    | _ => exact absurd (show false = true from hs) Bool.false_ne_true
  | str i =>
    obtain ⟨t, rfl⟩ := rx
    cases y with
    | non => cases ry; exact PySem.EqNone.eq_str_none (fin_bl I q (by simp))
    | bl j => cases ry; exact PySem.EqMixed.eq_str_bool (fin_bl I q (by simp))
    | int j => obtain ⟨t', rfl⟩ := ry; exact PySem.EqMixed.eq_str_int (fin_bl I q (by simp))
    | str j => obtain ⟨t', rfl⟩ := ry; exact eq_str (fin_bl I q dec_str)
    | _ => exact absurd (show false = true from hs) Bool.false_ne_true
  | byt i =>
    obtain ⟨t, rfl⟩ := rx
    cases y with
    | byt j => obtain ⟨t', rfl⟩ := ry; exact PySem.W.eq_bytes (fin_bl I q dec_byt)
    | _ => exact absurd (show false = true from hs) Bool.false_ne_true
  | _ => cases y <;> exact absurd (show false = true from hs) Bool.false_ne_true
theorem op_ne : OpR X (compareOp .NotEq) rNe := by
  intro pins s σ H x y v u Q I rx ry h
  obtain ⟨hs, q⟩ := h
  cases x with
  | non =>
    cases rx
    cases y with
    | non => cases ry; exact PySem.EqNone.ne_none_none (fin_bl I q (by simp))
    | bl j => cases ry; exact PySem.EqNone.ne_none_bool (fin_bl I q (by simp))
    | int j => obtain ⟨t', rfl⟩ := ry; exact PySem.EqNone.ne_none_int (fin_bl I q (by simp))
    | str j => obtain ⟨t', rfl⟩ := ry; exact PySem.EqNone.ne_none_str (fin_bl I q (by simp))
    | _ => exact absurd (show false = true from hs) Bool.false_ne_true
  | bl i =>
    cases rx
    cases y with
    | non => cases ry; exact PySem.EqNone.ne_bool_none (fin_bl I q (by simp))
    | bl j => cases ry; exact ne_bool (fin_bl I q (congrArg not dec_bl))
    | str j => obtain ⟨t', rfl⟩ := ry; exact PySem.EqMixed.ne_bool_str (fin_bl I q (by simp))
    | _ => exact absurd (show false = true from hs) Bool.false_ne_true
  | int i =>
    obtain ⟨t, rfl⟩ := rx
    cases y with
    | non => cases ry; exact PySem.EqNone.ne_int_none (fin_bl I q (by simp))
    | int j => obtain ⟨t', rfl⟩ := ry; exact ne_int (fin_bl I q (congrArg not dec_int))
    | str j => obtain ⟨t', rfl⟩ := ry; exact PySem.EqMixed.ne_int_str (fin_bl I q (by simp))
    | _ => exact absurd (show false = true from hs) Bool.false_ne_true
  | str i =>
    obtain ⟨t, rfl⟩ := rx
    cases y with
    | non => cases ry; exact PySem.EqNone.ne_str_none (fin_bl I q (by simp))
    | bl j => cases ry; exact PySem.EqMixed.ne_str_bool (fin_bl I q (by simp))
    | int j => obtain ⟨t', rfl⟩ := ry; exact PySem.EqMixed.ne_str_int (fin_bl I q (by simp))
    | str j => obtain ⟨t', rfl⟩ := ry; exact ne_str (fin_bl I q (congrArg not dec_str))
    | _ => exact absurd (show false = true from hs) Bool.false_ne_true
  | byt i =>
    obtain ⟨t, rfl⟩ := rx
    cases y with
    | byt j => obtain ⟨t', rfl⟩ := ry; exact PySem.W.ne_bytes (fin_bl I q (congrArg not dec_byt))
    | _ => exact absurd (show false = true from hs) Bool.false_ne_true
  | _ => cases y <;> exact absurd (show false = true from hs) Bool.false_ne_true
theorem op_lt : OpR X (compareOp .Lt) (rI0 fun i j => .bl (decide (i < j))) := opB0 fun _ _ _ _ _ _ _ q => lt_int q
theorem op_le : OpR X (compareOp .LtE) (rI0 fun i j => .bl (decide (i ≤ j))) := opB0 fun _ _ _ _ _ _ _ q => le_int q
theorem op_gt : OpR X (compareOp .Gt) (rI0 fun i j => .bl (decide (j < i))) := opB0 fun _ _ _ _ _ _ _ q => gt_int q
theorem op_ge : OpR X (compareOp .GtE) (rI0 fun i j => .bl (decide (j ≤ i))) := opB0 fun _ _ _ _ _ _ _ q => ge_int q
theorem nomark (b : Expr) {op : CmpOp} (h : op ≠ .In := by decide) (h2 : op ≠ .NotIn := by decide) : behindInMarks op b = false := by
  have e1 : (op == CmpOp.In) = false := by cases op <;> first | rfl | exact absurd rfl h
  have e2 : (op == CmpOp.NotIn) = false := by cases op <;> first | rfl | exact absurd rfl h2
  cases b <;> simp [behindInMarks, e1, e2]
theorem pe_cmpR {op : CmpOp} {r : R2} (ho : OpR X (compareOp op) r) (ha : PE X a ta) (hb : PE X b tb) (hm : behindInMarks op b = false) : PE X (.Compare a [op] [b] pos) (tOp r ta tb) := by
  intro pins s σ H Q I h
  exact wpAny_Compare1 (binT ha hb I h fun v u s2 x y H2 I2 rx ry q => ho pins s2 σ H2 x y v u Q I2 rx ry q) hm
def tTest (t : TE) : TT := fun σ H Q => t σ H fun x H' => ∃ k, x = .bl k ∧ Q k H'
theorem pt_cmpR {op : CmpOp} {r : R2} (ho : OpR X (compareOp op) r) (ha : PE X a ta) (hb : PE X b tb) (hm : behindInMarks op b = false) : PT X (.Compare a [op] [b] pos) (tTest (tOp r ta tb)) := by
  intro pins s σ H Q I h
  refine wpAny_isTrue_Compare1 (thn (ha pins s σ H _ I h) fun v s1 ⟨x, H1, I1, r1, q1⟩ => thn (hb pins s1 σ H1 _ I1 q1) fun u s2 ⟨y, H2, I2, r2, q2⟩ =>
    thn (ho pins s2 σ H2 x y v u _ I2 r1 r2 q2) fun c s3 ⟨z, H3, I3, r3, k, e, q3⟩ => ?_) hm
  subst e
  cases r3
  exact wpAny_truthy_bool ⟨H3, I3, q3⟩
def tChain (r r' : R2) (ta tb tc : TE) : TE := fun σ H Q => ta σ H fun x H1 => tb σ H1 fun y H2 => r x y H2 fun z H3 => ∃ k, z = .bl k ∧
  (if k = true then tc σ H3 fun w' H4 => r' y w' H4 Q else Q (.bl false) H3)
theorem pt_chain {op op' : CmpOp} {r r' : R2} (ho : OpR X (compareOp op) r) (ho' : OpR X (compareOp op') r') (ha : PE X a ta) (hb : PE X b tb) (hc : PE X c tc)
    (hm : lastMarks [op, op'] [b, c] = false := by with_unfolding_all rfl) : PT X (.Compare a [op, op'] [b, c] pos) (tTest (tChain r r' ta tb tc)) := by
  intro pins s σ H Q I h
  refine isTrue_chain (thn (ha pins s σ H _ I h) fun v s1 ⟨x, H1, I1, r1, q1⟩ => test_link (thn (hb pins s1 σ H1 _ I1 q1) fun u s2 ⟨y, H2, I2, r2, q2⟩ =>
    thn (ho pins s2 σ H2 x y v u _ I2 r1 r2 q2) fun d s3 ⟨z, H3, I3, r3, k, e, q3⟩ => ?_)) hm
  subst e
  cases r3
  refine wpAny_truthy_bool ?_
  cases k with
  | false =>
    obtain ⟨k', e', q'⟩ := q3
    cases e'
    exact ite_ff ⟨H3, I3, q'⟩
  | true =>
    refine ite_tt (test_last (thn (hc pins s3 σ H3 _ I3 q3) fun w' s4 ⟨z', H4, I4, r4, q4⟩ => thn (ho' pins s4 σ H4 y z' u w' _ I4 r2 r4 q4) fun d' s5 ⟨z2, H5, I5, r5, k2, e2, q5⟩ => ?_))
    subst e2
    cases r5
    exact wpAny_truthy_bool ⟨H5, I5, q5⟩
theorem line63 : (sizeLine : Nat) < 2 ^ 63 := by rw [sizeLine_eq]; decide
theorem vals1 {x : V} {us : List Value} (r : Vals [x] us) : ∃ u, us = [u] ∧ RelV x u := by
  cases r with
  | cons r1 r2 => cases r2; exact ⟨_, rfl, r1⟩
theorem vals2 {x y : V} {us : List Value} (r : Vals [x, y] us) : ∃ u w', us = [u, w'] ∧ RelV x u ∧ RelV y w' := by
  cases r with
  | cons r1 r2 =>
    cases r2 with
    | cons r3 r4 => cases r4; exact ⟨_, _, rfl, r1, r3⟩
theorem call_abs : CallR X (.builtin "abs") (fun xs H Q => ∃ i, xs = [.int i] ∧ Q (.int (if i < 0 then -i else i)) H) := by
  intro pins s σ H xs us Q I r h
  obtain ⟨i, rfl, q⟩ := h
  obtain ⟨u, rfl, t, rfl⟩ := vals1 r
  exact call_abs_int fun u tk => ⟨.int (if i < 0 then -i else i), H, I.tok _, ⟨_, rfl⟩, q⟩
theorem call_max2 (hc : X.calm = true) : CallR X (.builtin "max") (fun xs H Q => ∃ i j, xs = [.int i, .int j] ∧ Q (.int (if j > i then j else i)) H) := by
  intro pins s σ H xs us Q I r h
  obtain ⟨i, j, rfl, q⟩ := h
  obtain ⟨u, w', rfl, ⟨t, rfl⟩, ⟨t', rfl⟩⟩ := vals2 r
  refine max_two_ints (I.ok.hd hc) fun h' tk k => ⟨_, H, I.kept k, ?_, q⟩
  by_cases hj : j > i
  · rw [if_pos hj, if_pos hj]; exact ⟨_, rfl⟩
  · rw [if_neg hj, if_neg hj]; exact ⟨_, rfl⟩
theorem call_min2 (hc : X.calm = true) : CallR X (.builtin "min") (fun xs H Q => ∃ i j, xs = [.int i, .int j] ∧ Q (.int (if j < i then j else i)) H) := by
  intro pins s σ H xs us Q I r h
  obtain ⟨i, j, rfl, q⟩ := h
  obtain ⟨u, w', rfl, ⟨t, rfl⟩, ⟨t', rfl⟩⟩ := vals2 r
  refine min_two_ints (I.ok.hd hc) fun h' tk k => ⟨_, H, I.kept k, ?_, q⟩
  by_cases hj : j < i
  · rw [if_pos hj, if_pos hj]; exact ⟨_, rfl⟩
  · rw [if_neg hj, if_neg hj]; exact ⟨_, rfl⟩
theorem call_ord : CallR X (.builtin "ord") (fun xs H Q => ∃ x, xs = [.str x] ∧ x.length = 1 ∧ Q (.int (x.cps.getD 0 0 : Nat)) H) := by
  intro pins s σ H xs us Q I r h
  obtain ⟨x, rfl, hz, q⟩ := h
  obtain ⟨u, rfl, t, rfl⟩ := vals1 r
  exact ord_of_one hz ⟨.int _, H, I.tok _, ⟨_, rfl⟩, q⟩
end
end L2
namespace L2
open PySem PySem.Spec PyProof.Rows
structure ObjM (h : Heap) (x dx C : Addr) (mA : Str → Option Value) : Prop where
  obj : h.get? x = some (PySem.W.instObj C dx)
  ns : h.Ns1 dx mA
  ne : dx ≠ x
theorem lookIn_ns {h : Heap} {dx : Addr} {mA : Str → Option Value} (n : h.Ns1 dx mA) : ∃ od, h.get? dx = some od ∧ ∀ name, PySem.W.lookIn name od = some (mA name) := by
  obtain ⟨o, es, ep, ho, hd, hk, _, hm⟩ := n
  refine ⟨o, ho, fun name => ?_⟩
  have e := hm name
  unfold nsFind findBy at e
  rw [← Array.find?_toList] at e
  unfold PySem.W.lookIn
  rw [hd]
  dsimp only
  split
  · rename_i y q
    rw [q] at e
    exact congrArg some e
  · rename_i q
    rw [q] at e
    have a : es.toList.any (·.refKey) = false := by
      rw [List.any_eq_false]
      intro y hy
      obtain ⟨z, t, hkey⟩ := hk y (Array.mem_toList_iff.mp hy)
      simp [DictEntry.refKey, hkey]
    have a' : ¬ es.toList.any (·.refKey) = true := by rw [a]; exact Bool.false_ne_true
    rw [if_neg a']
    exact congrArg some e
theorem ObjM.look {h : Heap} {x dx C : Addr} {mA : Str → Option Value} (I : ObjM h x dx C mA) : ∃ od, PySem.W.InstAt h x (PySem.W.instObj C dx) C (some od) ∧ ∀ name, PySem.W.lookIn name od = some (mA name) :=
  let ⟨od, ho, hl⟩ := lookIn_ns I.ns
  ⟨od, ⟨I.obj, rfl, rfl, ho⟩, hl⟩
section
variable {prog : Program} {w : World} {A : Around} {E : Value → Shared → Prop} {s : Shared} {K : PySem.W.Frag} {x dx C f : Addr} {mA : Str → Option Value} {name : Str} {v : Value}
theorem get_map {expr : Bool} {Q : Value → Shared → Prop} (X : K.In s.heap) (I : ObjM s.heap x dx C mA) (hg : PySem.W.plainGet K C name = true) (hh : PySem.W.hasDictIn K C = true)
    (ha : PySem.W.findIn K (.ref C) name = some none) (hv : mA name = some v) (hv' : PySem.W.handedIn v = true) (h : Q v { s with toks := s.toks + 1 }) :
    wpAny (model prog w) A (getAttr (.ref x) name expr) Q E s := by
  obtain ⟨od, J, hl⟩ := I.look
  exact PySem.W.get_value X J (PySem.W.plainGet_of hg).1 (PySem.W.findObj_own hh ha rfl (by rw [hl, hv])) hv' h
theorem get_meth {pl : Sem Bool} {Q : Value × List Value → Shared → Prop} (X : K.In s.heap) (I : ObjM s.heap x dx C mA) (hg : PySem.W.plainGet K C name = true)
    (hf : PySem.W.findIn K (.ref C) name = some (some (.ref f))) (ht : PySem.W.isFn K (.ref f) = true) (hv : mA name = none) (h : Q (.ref f, [.ref x]) s) :
    wpAny (model prog w) A (getMethod (.ref x) name pl) Q E s := by
  obtain ⟨od, J, hl⟩ := I.look
  exact PySem.W.method_fn X J (PySem.W.plainGet_of hg).1 (PySem.W.plainGet_of hg).2 hf (beq_iff_eq.mp ht) (by show (PySem.W.lookIn name od).map (·.isSome) = some false; rw [hl, hv]; rfl) h
theorem set_map {ns : List Str} {Q : Unit → Shared → Prop} (X : K.In s.heap) (I : ObjM s.heap x dx C mA)
    (hs : PySem.W.findIn K (.ref C) "__setattr__" = some (some (.builtin "object.__setattr__"))) (hp : PySem.W.plainOver K C = true) (ht : PySem.W.takerIn K C name = some none) (hh : PySem.W.hasDictIn K C = true)
    (hw : PySem.Within mA ns) (hsz : ns.length ≤ sizeLine)
    (h : ∀ h', ObjM h' x dx C (fun y => if y = name then some v else mA y) → Heap.SameBut dx s.heap h' → Q () { s with heap := h', toks := s.toks + 2 }) :
    wpAny (model prog w) A (setAttr (.ref x) name v) Q E s := by
  obtain ⟨od, J, hl⟩ := I.look
  refine PySem.W.set_plain X J hs (PySem.W.osa_open (s := { s with toks := s.toks + 1 }) (r := none) X J hp ht fun b => ?_)
  obtain ⟨cd, hc, hd'⟩ := PySem.W.any_some hh
  have hx : s.heap.get? x = some ⟨.ref C, some dx, .plain, #[]⟩ := I.obj
  refine wpAny_bind (wpAny_pure (wpAny_bind (wpAny_bind (wpAny_loadPart hx (wpAny_bind (PySem.W.Looks.here (s := { s with toks := s.toks + 1 }) (PySem.W.looks_clsIn X hc) ?_))))))
  rw [hd']
  refine wpAny_pure (a := some dx) (wpAny_bind (wpAny_pure (wpAny_bind ?_)))
  refine wpAny_nsSet1 (s := { s with toks := s.toks + 1 }) I.ns fun h' hn2 hs2 => ?_
  obtain ⟨oD, esD, epD, hoD, hdD, hcD⟩ := hn2.count (PySem.Within.cons name v hw)
  refine wpAny_bind (wpAny_lookBehind hoD (by rw [hdD]; exact pastItsLine_dict (Nat.le_trans hcD (by rw [List.length_cons]; omega))) ?_)
  exact wpAny_pure (h _ ⟨(hs2.2 _ (Ne.symm I.ne)).trans I.obj, hn2, I.ne⟩ hs2)
theorem make_map {R : Result → Shared → Prop} {vs : List Value} {kw : List (Str × Value)} (X : K.In s.heap) (hm : PySem.W.makesIn K C = true)
    (hi : PySem.W.findIn K (.ref C) "__init__" = some (some (.ref f))) (hf : PySem.W.typeIn K (.ref f) = some (.type "function"))
    (h : codeAny (model prog w) (A.under (.builtin "type.__call__" ⟨.ref C :: vs, kw⟩)) (.call (.ref f) ⟨.ref (s.heap.objs.size + 1) :: vs, kw⟩) (PySem.W.InitBack (s.heap.objs.size + 1) R)
      { s with heap := (s.heap.push PySem.W.emptyDict).push (PySem.W.instObj C s.heap.objs.size) }) :
    codeAny (model prog w) A (.call (.ref C) ⟨vs, kw⟩) R s := by
  obtain ⟨hh, g, d, t, os⟩ := s
  exact PySem.W.make_core (PySem.W.makes_of X hm) (PySem.W.looks_findIn X hi) (fun self => PySem.W.bind_fn X self hf) (.inl rfl) h
end
def putF (f : Str) (v : V) : List (Str × V) → List (Str × V)
  | [] => [(f, v)]
  | (g, x) :: r => if g = f then (g, v) :: r else (g, x) :: putF f v r
theorem lookup_putF (f g : Str) (v : V) : ∀ fs : List (Str × V), (putF f v fs).lookup g = if g = f then some v else fs.lookup g
  | [] => by
    show List.lookup g [(f, v)] = _
    by_cases h : g = f
    · have hb : (g == f) = true := beq_iff_eq.mpr h
      simp only [List.lookup, hb, if_pos h]
    · have hb : (g == f) = false := beq_eq_false_iff_ne.mpr h
      simp only [List.lookup, hb, if_neg h]
  | (k, x) :: r => by
    have ih := lookup_putF f g v r
    rw [show putF f v ((k, x) :: r) = (if k = f then (k, v) :: r else (k, x) :: putF f v r) from rfl]
    by_cases hk : k = f
    · rw [if_pos hk]
      by_cases h : g = k
      · have hb : (g == k) = true := beq_iff_eq.mpr h
        simp only [List.lookup, hb, if_pos (h.trans hk)]
      · have hb : (g == k) = false := beq_eq_false_iff_ne.mpr h
        simp only [List.lookup, hb, if_neg (fun e : g = f => h (e.trans hk.symm))]
    · rw [if_neg hk]
      by_cases h : g = k
      · have hb : (g == k) = true := beq_iff_eq.mpr h
        simp only [List.lookup, hb, if_neg (fun e : g = f => hk (h.symm.trans e))]
      · have hb : (g == k) = false := beq_eq_false_iff_ne.mpr h
        simp only [List.lookup, hb]
        exact ih
theorem keys_putF (f : Str) (v : V) : ∀ fs : List (Str × V), f ∈ (putF f v fs).map (·.1) ∧ ∀ g, g ∈ fs.map (·.1) → g ∈ (putF f v fs).map (·.1)
  | [] => ⟨by simp [putF], fun g h => by simp at h⟩
  | (k, x) :: r => by
    obtain ⟨i1, i2⟩ := keys_putF f v r
    rw [show putF f v ((k, x) :: r) = (if k = f then (k, v) :: r else (k, x) :: putF f v r) from rfl]
    by_cases hk : k = f
    · rw [if_pos hk]
      subst hk
      exact ⟨by simp, fun g h => by simpa using h⟩
    · rw [if_neg hk]
      refine ⟨?_, fun g h => ?_⟩
      · rw [List.map_cons]
        exact List.mem_cons_of_mem _ i1
      · rw [List.map_cons] at h ⊢
        rcases List.mem_cons.mp h with e | e
        · exact List.mem_cons.mpr (.inl e)
        · exact List.mem_cons_of_mem _ (i2 g e)
theorem length_putF (f : Str) (v : V) : ∀ fs : List (Str × V), (putF f v fs).length ≤ fs.length + 1
  | [] => by simp [putF]
  | (k, x) :: r => by
    have ih := length_putF f v r
    rw [show putF f v ((k, x) :: r) = (if k = f then (k, v) :: r else (k, x) :: putF f v r) from rfl]
    by_cases hk : k = f
    · rw [if_pos hk, List.length_cons, List.length_cons]; omega
    · rw [if_neg hk, List.length_cons, List.length_cons]; omega
theorem RelO.some_of {v : V} {o : Option Value} (r : RelO (some v) o) : ∃ u, o = some u ∧ RelV v u := by
  cases o with
  | none => exact (show False from r).elim
  | some u => exact ⟨u, rfl, r⟩
theorem RelO.none_of {o : Option Value} (r : RelO none o) : o = none := by
  cases o with
  | none => rfl
  | some u => exact (show False from r).elim
theorem handed_of {v : V} {u : Value} (r : RelV v u) : PySem.W.handedIn u = true := by
  cases v with
  | non => cases (show u = Value.none from r); rfl
  | bl b => cases (show u = Value.bool b from r); rfl
  | int i => obtain ⟨t, e⟩ := (show ∃ t, u = Value.int i t from r); cases e; rfl
  | str x => obtain ⟨t, e⟩ := (show ∃ t, u = Value.str x t from r); cases e; rfl
  | byt b => obtain ⟨t, e⟩ := (show ∃ t, u = Value.bytes b t from r); cases e; rfl
  | flt b => obtain ⟨t, e⟩ := (show ∃ t, u = Value.float b t from r); cases e; rfl
  | ref a => cases (show u = Value.ref a from r); rfl
  | ty n => cases (show u = Value.type n from r); rfl
section
variable {P : Program} {w : World} {H H' : Hp} {h h' : Heap} {a C dx : Addr} {fs fs' : List (Str × V)}
theorem ins_get (hok : HOk P w H h) (e : H a = some (.ins C dx fs)) : ∃ mA, ObjM h a dx C mA ∧ (∀ f, RelO (fs.lookup f) (mA f)) ∧ PySem.Within mA (fs.map (·.1)) ∧ fs.length ≤ 1000 ∧ H dx = some (.own a) := by
  obtain ⟨d, z, ne, ob, mA, n, r, q⟩ := (show ObjOk P w H h a (.ins C dx fs) from hok a _ e)
  exact ⟨mA, ⟨ob, n, ne⟩, r, q, z, d⟩
end
structure Cls (K : PySem.W.Frag) (C : Addr) : Prop where
  pg : PySem.W.plainGet K C Str.empty = true
  hd : PySem.W.hasDictIn K C = true
  po : PySem.W.plainOver K C = true
  sa : PySem.W.findIn K (.ref C) "__setattr__" = some (some (.builtin "object.__setattr__"))
theorem Cls.get {K : PySem.W.Frag} {C : Addr} (c : Cls K C) (f : Str) : PySem.W.plainGet K C f = true := c.pg
def NoAttr (K : PySem.W.Frag) (C : Addr) (f : Str) : Prop := PySem.W.findIn K (.ref C) f = some none
theorem NoAttr.taker {K : PySem.W.Frag} {C : Addr} {f : Str} (n : NoAttr K C f) : PySem.W.takerIn K C f = some none := by
  unfold PySem.W.takerIn
  rw [show PySem.W.findIn K (.ref C) f = some none from n]
  rfl
structure Con (K : PySem.W.Frag) (C : Addr) (f : Str) (v : V) (u : Value) : Prop where
  at_ : PySem.W.findIn K (.ref C) f = some (some u)
  rel : RelV v u
  get : PySem.W.specialIn K u "__get__" = some none
  cp : PySem.W.copiedNames.contains f = false
structure Meth (K : PySem.W.Frag) (C : Addr) (m : Str) (f : Addr) : Prop where
  at_ : PySem.W.findIn K (.ref C) m = some (some (.ref f))
  fn : PySem.W.isFn K (.ref f) = true
  kp : PySem.W.keepIn K (.ref f) = true
section
variable {X : Cx} {pins : List (Addr × Obj)} {σ : St} {H : Hp} {s : Shared} {a C dx : Addr} {fs : List (Str × V)} {f : Str} {v : V} {A : Around} {E : Value → Shared → Prop}
theorem getattr_ok {b : Bool} {Q : Value → Shared → Prop} (I : Inv X pins σ H s) (e : H a = some (.ins C dx fs)) (c : Cls X.K C) (n : NoAttr X.K C f) (l : fs.lookup f = some v)
    (h : ∀ u s', Inv X pins σ H s' → RelV v u → Q u s') : wpAny (model X.prog X.w) A (getAttr (.ref a) f b) Q E s := by
  obtain ⟨mA, O, r, _, _, _⟩ := ins_get I.hok e
  obtain ⟨u, hu, ru⟩ := RelO.some_of (v := v) (o := mA f) (by rw [← l]; exact r f)
  exact get_map I.kIn O (c.get f) c.hd n hu (handed_of ru) (h u _ (I.tok _) ru)
theorem getmeth_ok {m : Str} {g : Addr} {pl : Sem Bool} {Q : Value × List Value → Shared → Prop} (I : Inv X pins σ H s) (e : H a = some (.ins C dx fs)) (c : Cls X.K C) (k : Meth X.K C m g) (l : fs.lookup m = none)
    (h : Q (.ref g, [.ref a]) s) : wpAny (model X.prog X.w) A (getMethod (.ref a) m pl) Q E s := by
  obtain ⟨mA, O, r, _, _, _⟩ := ins_get I.hok e
  have hn : mA m = none := RelO.none_of (by rw [← l]; exact r m)
  exact get_meth I.kIn O (c.get m) k.at_ k.fn hn h
theorem setattr_ok {y : V} {u : Value} {Q : Unit → Shared → Prop} (I : Inv X pins σ H s) (e : H a = some (.ins C dx fs)) (c : Cls X.K C) (n : NoAttr X.K C f) (hl : fs.length < 1000) (ry : RelV y u)
    (h : ∀ s', Inv X pins σ (upd H a (.ins C dx (putF f y fs))) s' → Q () s') : wpAny (model X.prog X.w) A (setAttr (.ref a) f u) Q E s := by
  obtain ⟨mA, O, r, wi, _, ho⟩ := ins_get I.hok e
  have hz : (fs.map (·.1)).length ≤ sizeLine := by rw [List.length_map, sizeLine_eq]; omega
  refine set_map I.kIn O c.sa c.po n.taker c.hd wi hz fun h' O' sb => h _ ?_
  have hd : ∃ o, h'.get? dx = some o := let ⟨o, _, _, e', _⟩ := O'.ns; ⟨o, e'⟩
  refine I.write (x := a) (e := dx) (by rw [e]; exact True.intro) (.inr ho) (fun b q hb z => (sb.2 b hb).trans z) hd ?_
  refine ⟨by rw [upd_ne O.ne]; exact ho, ?_, O.ne, O'.obj, _, O'.ns, fun g => ?_, fun g hg => ?_⟩
  · have := length_putF f y fs; omega
  · show RelO ((putF f y fs).lookup g) (if g = f then some u else mA g)
    rw [lookup_putF]
    by_cases q : g = f
    · rw [if_pos q, if_pos q]; exact ry
    · rw [if_neg q, if_neg q]; exact r g
  · by_cases q : g = f
    · rw [q]; exact (keys_putF f y fs).1
    · refine (keys_putF f y fs).2 g (wi g fun z => hg ?_)
      show (if g = f then some u else mA g) = none
      rw [if_neg q]; exact z
theorem Inv.made (I : Inv X pins σ H s) : Inv X pins σ (upd (upd H s.heap.objs.size (.own (s.heap.objs.size + 1))) (s.heap.objs.size + 1) (.ins C s.heap.objs.size []))
    { s with heap := (s.heap.push PySem.W.emptyDict).push (PySem.W.instObj C s.heap.objs.size) } := by
  have e1 : (s.heap.push PySem.W.emptyDict).get? s.heap.objs.size = some PySem.W.emptyDict := Heap.get?_push_size s.heap rfl
  have e2 : ((s.heap.push PySem.W.emptyDict).push (PySem.W.instObj C s.heap.objs.size)).get? (s.heap.objs.size + 1) = some (PySem.W.instObj C s.heap.objs.size) := by
    have := Heap.get?_push_size (s.heap.push PySem.W.emptyDict) (o := PySem.W.instObj C s.heap.objs.size) rfl
    rwa [Heap.size_push] at this
  have e3 : (s.heap.push PySem.W.emptyDict).Ns s.heap.objs.size (fun _ => none) := ⟨PySem.W.emptyDict, #[], _, e1, rfl, (fun e he => absurd he (by simp)), fun _ => rfl⟩
  have I1 := I.laid (a := s.heap.objs.size) (o := .own (s.heap.objs.size + 1)) (h' := s.heap.push PySem.W.emptyDict) (t' := s.toks) (fun b u q => Heap.get?_push_of_some _ q) (Nat.le_refl _) ⟨_, e1⟩
  refine I1.laid (a := s.heap.objs.size + 1) (o := .ins C s.heap.objs.size []) (t' := s.toks) (fun b u q => Heap.get?_push_of_some _ q) (Nat.le_of_eq (Heap.size_push _ _)) ?_
  have ne : s.heap.objs.size ≠ s.heap.objs.size + 1 := Nat.ne_of_lt (Nat.lt_succ_self _)
  refine ⟨by rw [upd_ne ne, upd_same], Nat.zero_le _, ne, e2, fun _ => none, (Heap.Ns1.of_empty e3).at fun o q => Heap.get?_push_of_some _ q, fun _ => True.intro, fun y hy => absurd rfl hy⟩
theorem attr_of {prog : Program} {w : World} {env : Env} {e : Expr} {f : Str} {pos : Pos} {s : Shared} {Q : Value → Shared → Prop} (hb : attributeBase e f env (eval e env) = eval e env)
    (h : wpAny (model prog w) A (eval e env) (fun o s₁ => wpAny (model prog w) A (getAttr o f true) Q E s₁) E s) : wpAny (model prog w) A (eval (.Attribute e f pos) env) Q E s :=
  Attribute_any_ h (by rw [arm_eval_Attribute, hb])
end
def tFld (K : PySem.W.Frag) (ta : TE) (f : Str) : TE := fun σ H Q => ta σ H fun x H1 => ∃ a C dx fs v, x = .ref a ∧ H1 a = some (.ins C dx fs) ∧ Cls K C ∧ NoAttr K C f ∧ fs.lookup f = some v ∧ Q v H1
def sFld (K : PySem.W.Frag) (ta tv : TE) (f : Str) : TS := fun D σ H => tv σ H fun y H1 => ta σ H1 fun x H2 => ∃ a C dx fs, x = .ref a ∧ H2 a = some (.ins C dx fs) ∧ Cls K C ∧ NoAttr K C f ∧ fs.length < 1000 ∧
  D.nx σ (upd H2 a (.ins C dx (putF f y fs)))
section
variable {X : Cx} {o e value : Expr} {f : Str} {pos pos' tpos : Pos} {ta tv : TE}
theorem pe_fld (he : PE X e ta) (hb : attributeBase e f X.env (eval e X.env) = eval e X.env) : PE X (.Attribute e f pos) (tFld X.K ta f) := by
  intro pins s σ H Q I h
  refine attr_of hb (thn (he pins s σ H _ I h) fun u s1 ⟨x, H1, I1, rx, a, C, dx, fs, v, ex, ea, c, n, l, q⟩ => ?_)
  subst ex
  obtain rfl : u = Value.ref a := rx
  exact getattr_ok I1 ea c n l fun u' s2 I2 ru => ⟨v, H1, I2, ru, q⟩
theorem ps_fld (ha : PE X o ta) (hv : PE X value tv) (hs : swapsWith value (some (.Attribute o f pos')) pos.line X.env = pure false) : PS X (.Assign [.Attribute o f pos'] value pos) (sFld X.K ta tv f) := by
  intro pins s σ H D I h
  refine plainObj_wpAny_Assign_Attribute (thn (hv pins s σ H _ I h) fun u s1 ⟨y, H1, I1, ry, q⟩ => thn (ha pins s1 σ H1 _ I1 q) fun ov s2 ⟨x, H2, I2, rx, a, C, dx, fs, ex, ea, c, n, l, q2⟩ => ?_) hs
  subst ex
  obtain rfl : ov = Value.ref a := rx
  exact setattr_ok I2 ea c n l ry fun s3 I3 => ⟨σ, _, I3, q2⟩
theorem methcall_of {pl : Sem Bool} {m : Str} {apos : Pos} {args : List Expr} {pins : List (Addr × Obj)} {s : Shared} {σ : St} {H : Hp} {Q : Value → Shared → Prop} {te : TE} (he : PE X e te) (I : Inv X pins σ H s)
    (h : te σ H fun x H1 => ∃ a C dx fs g, x = .ref a ∧ H1 a = some (.ins C dx fs) ∧ Cls X.K C ∧ Meth X.K C m g ∧ fs.lookup m = none ∧
      ∀ s1, Inv X pins σ H1 s1 → wpAny (model X.prog X.w) X.A (callWith pos (.ref g) [.ref a] (backTo pos (starEach args X.env)) (backToKw pos (keywordEach [] X.env))) Q X.xe s1)
    (ht : eval (.Call (.Attribute e m apos) args [] pos) X.env = (do
      let ov ← eval e X.env
      standAt apos.atName
      let (f, first) ← holding [ov] (getMethod ov m pl)
      callWith pos f first (backTo pos (starEach args X.env)) (backToKw pos (keywordEach [] X.env)))) :
    wpAny (model X.prog X.w) X.A (eval (.Call (.Attribute e m apos) args [] pos) X.env) Q X.xe s := by
  refine PySem.W.methodCall_KW (pl := pl) (thn (he pins s σ H _ I h) fun u s1 ⟨x, H1, I1, rx, a, C, dx, fs, g, ex, ea, c, k, l, q⟩ => ?_) ht
  subst ex
  obtain rfl : u = Value.ref a := rx
  exact getmeth_ok I1 ea c k l (q s1 I1)
end
section
variable {X : Cx} {pins : List (Addr × Obj)} {σ : St} {H : Hp} {s : Shared} {A : Around} {E : Value → Shared → Prop} {Q : Value → Shared → Prop} {c : Value} {b : Bool}
inductive TyOf (K : PySem.W.Frag) (H : Hp) : V → Value → Prop where
  | non : TyOf K H .non (.type "NoneType")
  | bl (x : Bool) : TyOf K H (.bl x) (.type "bool")
  | int (i : Int) : TyOf K H (.int i) (.type "int")
  | str (x : Str) : TyOf K H (.str x) (.type "str")
  | flt (x : UInt64) : TyOf K H (.flt x) (.type "float")
  | lst {a : Addr} {xs : List V} (e : H a = some (.lst xs)) : TyOf K H (.ref a) (.type "list")
  | frz {a : Addr} {o : Obj} {xs : List V} (e : H a = some (.frz o (.lst xs))) : TyOf K H (.ref a) (.type "list")
  | tup {a : Addr} {xs : List V} (e : H a = some (.tup xs)) : TyOf K H (.ref a) (.type "tuple")
  | dK {a : Addr} {kvs : List (Key × V)} (e : H a = some (.dK kvs)) : TyOf K H (.ref a) (.type "dict")
  | dT {a : Addr} {kvs : List (List Key × V)} (e : H a = some (.dT kvs)) : TyOf K H (.ref a) (.type "dict")
  | ins {a C dx : Addr} {fs : List (Str × V)} (e : H a = some (.ins C dx fs)) (cl : Cls K C) (ha : PySem.W.findIn K (.ref C) "__class__" = some (some (.builtin "object.__class__")))
      (hn : PySem.W.specialIn K (.builtin "object.__class__") "__get__" = some (some (.builtin "getset_descriptor.__get__"))) (htk : PySem.W.takesIn K (.builtin "object.__class__") = some true)
      (hm : PySem.W.mroIn K C (.type "object") = some true) : TyOf K H (.ref a) (.ref C)
end
end L2
namespace L2
open PySem PySem.Spec PyProof.Rows
structure Room (k : Nat) (A : Around) : Prop where
  hd : A.handled = none
  dp : A.depth + 3 * k + 5 < recursionLimit
  un : A.units + 16 * k + 200 < cLine
theorem Room.mono {j k : Nat} {A : Around} (r : Room k A) (h : j ≤ k) : Room j A := ⟨r.hd, by have := r.dp; omega, by have := r.un; omega⟩
theorem Room.deeper {k : Nat} {A : Around} (r : Room (k + 1) A) (env : Env) : Room k (A.deeper env) :=
  ⟨r.hd, by have := r.dp; show A.depth + 1 + 3 * k + 5 < _; omega, by have := r.un; show A.units + 3 + 16 * k + 200 < _; omega⟩
theorem make_depth {A : Around} {C : Addr} {us : List Value} {kw : List (Str × Value)} : (A.under (.builtin "type.__call__" ⟨.ref C :: us, kw⟩)).depth = A.depth + 1 := by
  first | rfl | simp [Around.under, Code.weight, Code.isCreation, Code.isGuard, Code.isCaller, Code.frames, Code.isFrame, guardIds]
theorem make_units {A : Around} {C : Addr} {us : List Value} {kw : List (Str × Value)} : (A.under (.builtin "type.__call__" ⟨.ref C :: us, kw⟩)).units = A.units + 1 := by
  first | rfl | simp [Around.under, Code.cUnits, Code.frames, Code.isFrame]
theorem Room.make {k : Nat} {A : Around} (r : Room (k + 1) A) (C : Addr) (us : List Value) (kw : List (Str × Value)) : Room k (A.under (.builtin "type.__call__" ⟨.ref C :: us, kw⟩)) :=
  ⟨r.hd, by have := r.dp; rw [make_depth]; omega, by have := r.un; rw [make_units]; omega⟩
theorem Room.depth {k : Nat} {A : Around} (r : Room k A) : A.depth < recursionLimit := by have := r.dp; omega
theorem Room.units {k : Nat} {A : Around} (r : Room k A) : A.units + 64 < cLine := by have := r.un; omega
def tNil : TA := fun _ H Q => Q [] H
def tCons (ta : TE) (tr : TA) : TA := fun σ H Q => ta σ H fun x H1 => tr σ H1 fun xs H2 => Q (x :: xs) H2
section
variable {X : Cx} {e : Expr} {es : List Expr} {te : TE} {t : TA} {pos : Pos}
theorem pa_nil : PA X [] tNil := fun _ _ _ _ H Q I h => Calls.spliced_nil ⟨[], H, I, .nil, h⟩
theorem pa_cons (ha : PE X e te) (hr : PA X es t) (hs : starEach (e :: es) X.env = (false, eval e X.env) :: starEach es X.env := by rfl) : PA X (e :: es) (tCons te t) := by
  intro pos pins s σ H Q I h
  rw [hs]
  show wpAny _ _ (spliced ((false, eval e X.env) :: backTo pos (starEach es X.env))) _ _ s
  refine Calls.spliced_cons (thn (ha pins s σ H _ I h) fun u s1 ⟨x, H1, I1, r1, q1⟩ => ?_)
  exact thn (hr pos pins s1 σ H1 _ I1 q1) fun us s2 ⟨xs, H2, I2, r2, q2⟩ => ⟨x :: xs, H2, I2, .cons r1 r2, q2⟩
def tTup (t : TA) : TE := fun σ H Q => t σ H fun xs H1 => xs.length ≤ sizeLine ∧ ∀ p, H1 p = none → Q (.ref p) (upd H1 p (.tup xs))
def tLst (t : TA) : TE := fun σ H Q => t σ H fun xs H1 => xs.length ≤ sizeLine ∧ ∀ p, H1 p = none → Q (.ref p) (upd H1 p (.lst xs))
theorem pe_tup {x1} (h : PA X es t) : PE X (.Tuple es x1 pos) (tTup t) := by
  intro pins s σ H Q I hq
  refine wpAny_Tuple_spliced (thn (h pos pins s σ H _ I hq) fun us s1 ⟨xs, H1, I1, r, z, q⟩ => ⟨by rw [← r.length]; exact z, ?_⟩)
  have hf : H1 s1.heap.objs.size = none := I1.hok.fresh (Nat.le_refl _)
  refine ⟨.ref s1.heap.objs.size, upd H1 s1.heap.objs.size (.tup xs), I1.laid (t' := s1.toks) (fun b u e => Heap.get?_push_of_some _ e) (Nat.le_refl _) ?_, rfl, q _ hf⟩
  exact ⟨z, us, r, ⟨_, Heap.get?_push_size _ rfl, rfl, _, rfl⟩⟩
theorem pe_lst (h : PA X es t) : PE X (.List es pos) (tLst t) := by
  intro pins s σ H Q I hq
  refine wpAny_List_spliced (thn (h pos pins s σ H _ I hq) fun us s1 ⟨xs, H1, I1, r, z, q⟩ => ⟨by rw [← r.length]; exact z, ?_⟩)
  have hf : H1 s1.heap.objs.size = none := I1.hok.fresh (Nat.le_refl _)
  refine ⟨.ref s1.heap.objs.size, upd H1 s1.heap.objs.size (.lst xs), I1.laid (t' := s1.toks) (fun b u e => Heap.get?_push_of_some _ e) (Nat.le_refl _) ?_, rfl, q _ hf⟩
  exact ⟨z, us, 0, r, Heap.get?_push_size _ rfl⟩
end
abbrev Sp := List V → Hp → VK → XK → Prop
abbrev CXT := List Env → Hp → Shared → XK → Value → Shared → Prop
structure Env0 (P : Program) (w : World) (K : PySem.W.Frag) (mg : Str → Option Value) (base : Heap) (A : Around) (outer : List Env) (s : Shared) (H : Hp) : Prop where
  frames : A.frames = some outer
  mod : Mod K mg base
  bs : ∀ b o, base.get? b = some o → s.heap.get? b = some o ∧ H b = none
  bsz : base.objs.size ≤ s.heap.objs.size
  funs : s.heap.FunFrames base outer
  frf : ∀ b ∈ frs outer, H b = none
  hok : HOk P w H s.heap
  bare : AllBare s.gens
def CE (outer : List Env) (P : Program) (w : World) (H : Hp) (s : Shared) (Q : VK) (u : Value) (s' : Shared) : Prop :=
  ∃ v H', s'.os = s.os ∧ AllBare s'.gens ∧ Un (frs outer) [] H H' s.heap s'.heap ∧ HOk P w H' s'.heap ∧ RelV v u ∧ Q v H'
def CR (CX : CXT) (outer : List Env) (P : Program) (w : World) (H : Hp) (s : Shared) (Q : VK) (E : XK) (r : Result) (s' : Shared) : Prop :=
  match r with
  | .ok (.ret u) => CE outer P w H s Q u s'
  | .ok _ => False
  | .error e => CX outer H s E e s'
structure FnOk (P : Program) (w : World) (K : PySem.W.Frag) (mg : Str → Option Value) (base : Heap) (CX : CXT) (k : Nat) (f : Addr) (fd : FuncData) (ps : List Str) (sp : Sp) : Prop where
  len : ∀ vs H Q E, sp vs H Q E → vs.length = ps.length
  run : ∀ (A : Around) (outer : List Env) (s : Shared) (H : Hp) (args : Args) (us : List Value) (vs : List V) (Q : VK) (E : XK), Room k A → Env0 P w K mg base A outer s H → BindsTo s fd args (ps.zip us) → Vals vs us → sp vs H Q E →
    codeAny (model P w) A (.call (.ref f) args) (CR CX outer P w H s Q E) s
theorem Env0.make {P : Program} {w : World} {K : PySem.W.Frag} {mg : Str → Option Value} {base : Heap} {A : Around} {outer : List Env} {s : Shared} {H : Hp} (e : Env0 P w K mg base A outer s H) (C : Addr) (us : List Value) (kw : List (Str × Value)) :
    Env0 P w K mg base (A.under (.builtin "type.__call__" ⟨.ref C :: us, kw⟩)) outer s H := ⟨by first | exact e.frames | (simpa [Around.under, Code.envs, Code.isFrame, pushEnvs] using e.frames), e.mod, e.bs, e.bsz, e.funs, e.frf, e.hok, e.bare⟩
section
variable {X : Cx} {pins : List (Addr × Obj)} {σ : St} {H : Hp} {s s' : Shared}
theorem Inv.env0 (I : Inv X pins σ H s) : Env0 X.prog X.w X.K X.mg X.base X.A X.stack s H :=
  ⟨I.ok.frames, I.ok.mod, I.bs, Nat.le_trans I.ok.bsz I.sz, I.stack, I.stkFree, I.hok, I.bare⟩
theorem Inv.after {Q : VK} {u : Value} (I : Inv X pins σ H s) (h : CE X.stack X.prog X.w H s Q u s') : EP X pins σ Q u s' := by
  obtain ⟨v, H', os, bare, un, hok, r, q⟩ := h
  obtain ⟨hh, g, d, t, os'⟩ := s'
  obtain rfl : os' = s.os := os
  exact ⟨v, H', I.call (h' := hh) (g' := g) (d' := d) (t' := t) (ch := []) un hok bare (fun b z => absurd z (by simp)), r, q⟩
end
def tCall (sp : Sp) (dvs : List V) (E : XK) (t : TA) : TE := fun σ H Q => t σ H fun vs H1 => sp (vs ++ dvs) H1 Q E
def tMeth (C : Addr) (m : Str) (sp : Sp) (dvs : List V) (E : XK) (ta : TE) (t : TA) : TE := fun σ H Q => ta σ H fun x H1 => ∃ a dx fs, x = .ref a ∧ H1 a = some (.ins C dx fs) ∧ fs.lookup m = none ∧
  t σ H1 fun vs H2 => sp (x :: (vs ++ dvs)) H2 Q E
def tMake (C : Addr) (sp : Sp) (dvs : List V) (E : XK) (t : TA) : TE := fun σ H Q => t σ H fun vs H1 => ∀ x dx, H1 x = none → H1 dx = none → dx ≠ x →
  sp (.ref x :: (vs ++ dvs)) (upd (upd H1 dx (.own x)) x (.ins C dx [])) (fun v H2 => v = .non ∧ Q (.ref x) H2) E
def Binds (K : PySem.W.Frag) (fd : FuncData) (ps : List Str) (ds : List Value) : Prop :=
  ∀ (s : Shared) (us : List Value), K.In s.heap → (us ++ ds).length = ps.length → BindsTo s fd ⟨us, []⟩ (ps.zip (us ++ ds))
theorem Binds.all {K : PySem.W.Frag} {fd : FuncData} {ps : List Str} (h : ∀ us : List Value, us.length = ps.length → bindArgs fd ⟨us, []⟩ = pure (ps.zip us)) : Binds K fd ps [] := fun s us _ hl => by
  rw [List.append_nil] at hl ⊢
  exact .of_eq (h us hl)
def Passes (CX : CXT) (X : Cx) (E : XK) : Prop := ∀ (pins : List (Addr × Obj)) (σ : St) (H : Hp) (s : Shared) (e : Value) (s' : Shared), Inv X pins σ H s → CX X.stack H s E e s' → X.xe e s'
section
variable {X : Cx} {CX : CXT} {k : Nat} {f C : Addr} {fd : FuncData} {ps : List Str} {sp : Sp} {dvs : List V} {ds : List Value} {E : XK} {x m : Str} {p pos apos : Pos} {e o : Expr} {es : List Expr} {ta : TE} {t : TA}
theorem run_fn {pins : List (Addr × Obj)} {σ : St} {H : Hp} {s : Shared} {Q : VK} {us : List Value} {vs : List V} (F : FnOk X.prog X.w X.K X.mg X.base CX k f fd ps sp) (hr : Room k X.A) (hb : Binds X.K fd ps ds) (hd : Vals dvs ds) (hx : Passes CX X E)
    (I : Inv X pins σ H s) (r : Vals vs us) (h : sp (vs ++ dvs) H Q E) : wpAny (model X.prog X.w) X.A (call (.ref f) us) (EP X pins σ Q) X.xe s := by
  have r2 : Vals (vs ++ dvs) (us ++ ds) := r.append hd
  have hl : (us ++ ds).length = ps.length := by rw [← r2.length]; exact F.len _ _ _ _ h
  refine wpAny_call (codeAny_mono (F.run X.A X.stack s H ⟨us, []⟩ (us ++ ds) (vs ++ dvs) Q E hr I.env0 (hb s us I.kIn hl) r2 h) fun r s' hq => ?_)
  cases r with
  | error e => exact hx pins σ H s e s' I hq
  | ok fl =>
    cases fl with
    | ret u => exact I.after hq
    | next => exact False.elim hq
    | brk => exact False.elim hq
    | cont => exact False.elim hq
theorem pe_call (F : FnOk X.prog X.w X.K X.mg X.base CX k f fd ps sp) (hr : Room k X.A) (hg : Gl X x) (hm : X.mg x = some (.ref f)) (hk : PySem.W.keepIn X.K (.ref f) = true) (hb : Binds X.K fd ps ds) (hd : Vals dvs ds) (hx : Passes CX X E)
    (ha : PA X (e :: es) t) (hdb : (x == ("__debug__" : Str)) = false := by decide) (he : starEach (e :: es) X.env = (false, eval e X.env) :: starEach es X.env := by rfl) (hpl : (backTo pos (starEach es X.env)).any (·.1) = false := by rfl) :
    PE X (.Call (.Name x p) (e :: es) [] pos) (tCall sp dvs E t) := by
  intro pins s σ H Q I h
  refine wpAny_Call_Name_kw (ld_glob I hg hm ?_ hdb)
  refine PySem.W.callWith_K (h₀ := X.base) I.ok.mod.kin hk (thn (ha pos pins s σ H _ I h) fun us s1 ⟨vs, H1, I1, r, q⟩ => ⟨I1.kIn, ?_⟩) he hpl
  exact run_fn F hr hb hd hx I1 r q
theorem pe_meth {pl : Sem Bool} (he : PE X o ta) (c : Cls X.K C) (hm : Meth X.K C m f) (F : FnOk X.prog X.w X.K X.mg X.base CX k f fd ps sp) (hr : Room k X.A) (hb : Binds X.K fd ps ds) (hd : Vals dvs ds) (hx : Passes CX X E) (ha : PA X (e :: es) t)
    (hst : starEach (e :: es) X.env = (false, eval e X.env) :: starEach es X.env := by rfl) (hpl : (backTo pos (starEach es X.env)).any (·.1) = false := by rfl)
    (ht : eval (.Call (.Attribute o m apos) (e :: es) [] pos) X.env = (do
      let ov ← eval o X.env
      standAt apos.atName
      let (f, first) ← holding [ov] (getMethod ov m pl)
      callWith pos f first (backTo pos (starEach (e :: es) X.env)) (backToKw pos (keywordEach [] X.env))) := by rfl) :
    PE X (.Call (.Attribute o m apos) (e :: es) [] pos) (tMeth C m sp dvs E ta t) := by
  intro pins s σ H Q I h
  refine PySem.W.methodCall_KW (pl := pl) (thn (he pins s σ H _ I h) fun u s1 ⟨x, H1, I1, rx, a, dx, fs, ex, ea, l, q⟩ => ?_) ht
  subst ex
  obtain rfl : u = Value.ref a := rx
  refine getmeth_ok I1 ea c hm l ?_
  refine PySem.W.callWith_K (first := [.ref a]) (h₀ := X.base) I.ok.mod.kin hm.kp (thn (ha pos pins s1 σ H1 _ I1 q) fun us s2 ⟨vs, H2, I2, r, q2⟩ => ⟨I2.kIn, ?_⟩) hst hpl
  exact run_fn (us := .ref a :: us) (vs := .ref a :: vs) F hr hb hd hx I2 (.cons rfl r) q2
theorem pe_meth0 {pl : Sem Bool} (he : PE X o ta) (c : Cls X.K C) (hm : Meth X.K C m f) (F : FnOk X.prog X.w X.K X.mg X.base CX k f fd ps sp) (hr : Room k X.A) (hb : Binds X.K fd ps ds) (hd : Vals dvs ds) (hx : Passes CX X E)
    (ht : eval (.Call (.Attribute o m apos) [] [] pos) X.env = (do
      let ov ← eval o X.env
      standAt apos.atName
      let (f, first) ← holding [ov] (getMethod ov m pl)
      callWith pos f first (backTo pos (starEach [] X.env)) (backToKw pos (keywordEach [] X.env))) := by rfl) :
    PE X (.Call (.Attribute o m apos) [] [] pos) (tMeth C m sp dvs E ta tNil) := by
  intro pins s σ H Q I h
  refine PySem.W.methodCall_KW (pl := pl) (thn (he pins s σ H _ I h) fun u s1 ⟨x, H1, I1, rx, a, dx, fs, ex, ea, l, q⟩ => ?_) ht
  subst ex
  obtain rfl : u = Value.ref a := rx
  refine getmeth_ok I1 ea c hm l ?_
  exact PySem.W.callWith_K0 (first := [.ref a]) I1.kIn hm.kp (run_fn (us := [.ref a]) (vs := [.ref a]) F hr hb hd hx I1 (.cons rfl .nil) q)
structure Mk (K : PySem.W.Frag) (C f : Addr) : Prop where
  makes : PySem.W.makesIn K C = true
  init : PySem.W.findIn K (.ref C) "__init__" = some (some (.ref f))
  fn : PySem.W.isFn K (.ref f) = true
  kp : PySem.W.keepIn K (.ref C) = true
theorem run_make {pins : List (Addr × Obj)} {σ : St} {H : Hp} {s : Shared} {Q : VK} {us : List Value} {vs : List V} (M : Mk X.K C f) (F : FnOk X.prog X.w X.K X.mg X.base CX k f fd ps sp) (hr : Room (k + 1) X.A) (hb : Binds X.K fd ps ds) (hd : Vals dvs ds)
    (hx : Passes CX X E) (I : Inv X pins σ H s) (r : Vals vs us)
    (h : ∀ x dx, H x = none → H dx = none → dx ≠ x → sp (.ref x :: (vs ++ dvs)) (upd (upd H dx (.own x)) x (.ins C dx [])) (fun v H2 => v = .non ∧ Q (.ref x) H2) E) :
    wpAny (model X.prog X.w) X.A (call (.ref C) us) (EP X pins σ Q) X.xe s := by
  have hq := h (s.heap.objs.size + 1) s.heap.objs.size (I.hok.fresh (Nat.le_succ _)) (I.hok.fresh (Nat.le_refl _)) (Nat.ne_of_lt (Nat.lt_succ_self _))
  have I2 := Inv.made (C := C) I
  have r2 : Vals (V.ref (s.heap.objs.size + 1) :: (vs ++ dvs)) (Value.ref (s.heap.objs.size + 1) :: (us ++ ds)) := .cons rfl (r.append hd)
  have hl : (Value.ref (s.heap.objs.size + 1) :: us ++ ds).length = ps.length := by
    have e := r2.length
    rw [F.len _ _ _ _ hq] at e
    exact e.symm
  refine wpAny_call (make_map (f := f) I.kIn M.makes M.init (beq_iff_eq.mp M.fn) (codeAny_mono (F.run _ X.stack _ _ ⟨Value.ref (s.heap.objs.size + 1) :: us, []⟩ (Value.ref (s.heap.objs.size + 1) :: (us ++ ds)) _ _ E (hr.make C us [])
    (I2.env0.make C us []) (hb _ (Value.ref (s.heap.objs.size + 1) :: us) I2.kIn hl) r2 hq) fun r s' hq' => ?_))
  cases r with
  | error e => exact hx pins σ _ _ e s' I2 hq'
  | ok fl =>
    cases fl with
    | ret u =>
      obtain ⟨v, H', I3, rv, ev, q3⟩ := I2.after hq'
      subst ev
      exact ⟨rv, ⟨V.ref (s.heap.objs.size + 1), H', I3, rfl, q3⟩⟩
    | next => exact False.elim hq'
    | brk => exact False.elim hq'
    | cont => exact False.elim hq'
theorem pe_make0 (M : Mk X.K C f) (F : FnOk X.prog X.w X.K X.mg X.base CX k f fd ps sp) (hr : Room (k + 1) X.A) (hg : Gl X x) (hm : X.mg x = some (.ref C)) (hb : Binds X.K fd ps ds) (hd : Vals dvs ds) (hx : Passes CX X E)
    (hdb : (x == ("__debug__" : Str)) = false := by decide) : PE X (.Call (.Name x p) [] [] pos) (tMake C sp dvs E tNil) := by
  intro pins s σ H Q I h
  refine wpAny_Call_Name_kw (ld_glob I hg hm ?_ hdb)
  exact PySem.W.callWith_K0 I.kIn M.kp (run_make (us := []) M F hr hb hd hx I .nil h)
end
section
variable {X : Cx} {CX : CXT} {k : Nat} {f C : Addr} {fd : FuncData} {ps ks : List Str} {sp : Sp} {E : XK} {x m : Str} {p pos apos kpos : Pos} {e o : Expr} {es : List Expr} {kws : List Keyword} {te ta : TE} {t tk : TA} {nm : Option Str}
structure KBinds (K : PySem.W.Frag) (fd : FuncData) (ps ks : List Str) (g : List Value → List Value → List Value) (gV : List V → List V → List V) : Prop where
  to : ∀ (s : Shared) (us ws : List Value), K.In s.heap → (g us ws).length = ps.length → BindsTo s fd ⟨us, ks.zip ws⟩ (ps.zip (g us ws))
  rel : ∀ {vs : List V} {us : List Value} {zs : List V} {ws : List Value}, Vals vs us → Vals zs ws → Vals (gV vs zs) (g us ws)
variable {g : List Value → List Value → List Value} {gV : List V → List V → List V}
end
structure FnScope (N P : List Str) (sc : Scope) : Prop where
  kind : sc.kind = .function
  co : sc.isCoroutine = false
  gen : sc.isGenerator = false
  nd : N.Nodup
  pre : N.take P.length = P
  par : ∀ x ∈ P, sc.names.lookup x = some .local ∨ sc.names.lookup x = some .cell
  nofree : ∀ y ∈ sc.names, y.2 ≠ .free
theorem bindL_out {kindOf : Str → Option NameKind} {x : Str} : ∀ {binds : List (Str × Value)} {m : Str → Option Value}, (∀ v, (x, v) ∉ binds) → bindL kindOf binds m x = m x
  | [], _, _ => rfl
  | (n, v) :: r, m, h => by
    unfold bindL
    rw [bindL_out fun w hw => h w (List.mem_cons_of_mem _ hw)]
    split
    · have : x ≠ n := by rintro rfl; exact h v List.mem_cons_self
      simp [this]
    · rfl
theorem bindC_out {kindOf : Str → Option NameKind} {x : Str} : ∀ {binds : List (Str × Value)} {m : Str → Option Value}, (∀ v, (x, v) ∉ binds) → bindC kindOf binds m x = m x
  | [], _, _ => rfl
  | (n, v) :: r, m, h => by
    unfold bindC
    rw [bindC_out fun w hw => h w (List.mem_cons_of_mem _ hw)]
    split
    · rfl
    · have : x ≠ n := by rintro rfl; exact h v List.mem_cons_self
      simp [this]
theorem bindL_get {kindOf : Str → Option NameKind} {x : Str} {v : Value} : ∀ {P : List Str} {vs : List Value} {i : Nat} {m : Str → Option Value}, P.Nodup → P[i]? = some x → vs[i]? = some v → kindOf x = some .local →
    bindL kindOf (P.zip vs) m x = some v
  | [], _, _, _, _, h, _, _ => by simp at h
  | _ :: _, [], _, _, _, _, h, _ => by simp at h
  | p :: P, w :: vs, 0, m, nd, h1, h2, hk => by
    simp at h1 h2; subst h1; subst h2
    show bindL kindOf ((p, w) :: P.zip vs) m p = _
    unfold bindL
    rw [bindL_out fun v hv => (List.nodup_cons.mp nd).1 (List.of_mem_zip hv).1, if_pos hk]
    simp
  | p :: P, w :: vs, i + 1, m, nd, h1, h2, hk => by
    show bindL kindOf ((p, w) :: P.zip vs) m x = _
    unfold bindL
    exact bindL_get (i := i) (List.nodup_cons.mp nd).2 (by simpa using h1) (by simpa using h2) hk
theorem bindC_get {kindOf : Str → Option NameKind} {x : Str} {v : Value} : ∀ {P : List Str} {vs : List Value} {i : Nat} {m : Str → Option Value}, P.Nodup → P[i]? = some x → vs[i]? = some v → kindOf x ≠ some .local →
    bindC kindOf (P.zip vs) m x = some v
  | [], _, _, _, _, h, _, _ => by simp at h
  | _ :: _, [], _, _, _, _, h, _ => by simp at h
  | p :: P, w :: vs, 0, m, nd, h1, h2, hk => by
    simp at h1 h2; subst h1; subst h2
    show bindC kindOf ((p, w) :: P.zip vs) m p = _
    unfold bindC
    rw [bindC_out fun v hv => (List.nodup_cons.mp nd).1 (List.of_mem_zip hv).1, if_neg hk]
    simp
  | p :: P, w :: vs, i + 1, m, nd, h1, h2, hk => by
    show bindC kindOf ((p, w) :: P.zip vs) m x = _
    unfold bindC
    exact bindC_get (i := i) (List.nodup_cons.mp nd).2 (by simpa using h1) (by simpa using h2) hk
def start (N : List Str) (vs : List V) : St := vs.map some ++ List.replicate (N.length - vs.length) none
def cxOf (CX : CXT) (P : Program) (w : World) (K : PySem.W.Frag) (mg : Str → Option Value) (base : Heap) (N : List Str) (qual : Str) (scope : Scope) (f : Addr) (cd : Value) (A : Around) (outer : List Env) (s : Shared) (H : Hp) (E : XK) : Cx where
  prog := P
  w := w
  K := K
  mg := mg
  base := base
  A := A.deeper (envOfC qual scope s.heap.objs.size f cd)
  N := N
  s₀ := s
  H₀ := H
  env := envOfC qual scope s.heap.objs.size f cd
  outer := outer
  stack := envOfC qual scope s.heap.objs.size f cd :: outer
  ex := []
  calm := true
  fn := fun _ => true
  pn := []
  xe := fun e s' => wpAny (model P w) (A.deeper (envOfC qual scope s.heap.objs.size f cd)) (leaving (envOfC qual scope s.heap.objs.size f cd) e) (fun _ s'' => CX outer H s E e s'') (fun e' s'' => CX outer H s E e' s'') s'
theorem cell_has {sc : Scope} {n : Nat} {x : Str} (h : sc.names.lookup x = some .cell) : ∃ c, (cellsFrom n sc.names []).lookup x = some c := by
  have q := PySem.W.cellsFrom_some sc.names n [] (.inl h)
  exact Option.isSome_iff_exists.mp q
theorem inv_start {CX : CXT} {P : Program} {w : World} {K : PySem.W.Frag} {mg : Str → Option Value} {base : Heap} {N ps : List Str} {qual : Str} {scope : Scope} {f : Addr} {cd : Value} {A : Around} {outer : List Env} {s s1 : Shared} {H : Hp} {E : XK} {us : List Value} {vs : List V}
    (S : FnScope N ps scope) (hd : A.handled = none) (e0 : Env0 P w K mg base A outer s H) (hl : vs.length = ps.length) (r : Vals vs us)
    (x : InCallC s s.heap.objs.size (bindL (envOfC qual scope s.heap.objs.size f cd).kindOf (ps.zip us) fun _ => none) (cellsFrom (s.heap.objs.size + 1) scope.names []) (bindC (envOfC qual scope s.heap.objs.size f cd).kindOf (ps.zip us) fun _ => none) s1) :
    Inv (cxOf CX P w K mg base N qual scope f cd A outer s H E) [] (start N vs) H s1 := by
  have hpl : ps.length ≤ N.length := by have := congrArg List.length S.pre; rw [List.length_take] at this; omega
  obtain ⟨h1, tk, rfl, hk⟩ := x.done
  have noA : ∀ b : Addr, b ∉ (cxOf CX P w K mg base N qual scope f cd A outer s H E).ex := fun b z => absurd (show b ∈ ([] : List Addr) from z) (by simp)
  refine ⟨⟨e0.mod, S.kind, rfl, rfl, Nat.le_refl _, fun y z c h1 h2 => ?_, fun y hy => ?_, fun y c _ h => ?_, fun _ => hd, Around.frames_deeper e0.frames, .inr ⟨rfl, rfl⟩, fun b z => absurd z (noA b), e0.bs, e0.bsz, fun b _ _ => noA b, fun b z => absurd z (noA b), e0.funs, e0.frf⟩,
    rfl, e0.bare, Un.kept hk, ⟨_, x.toInCall.ns, fun i y v h1 h2 h3 => ?_⟩, fun y c h => ⟨_, x.cell y c h⟩, e0.hok.fresh (Nat.le_refl _), fun y c h => ?_, fun p hp => absurd (show p ∈ ([] : List (Addr × Obj)) from hp) (by simp), e0.hok.kept hk, ?_⟩
  · exact name_of_addr x.apart (PySem.mem_of_lookup h1) (PySem.mem_of_lookup h2)
  · have hy : scope.names.lookup y = some .cell ∨ scope.names.lookup y = some .free := hy
    rcases hy with hy | hy
    · exact cell_has hy
    · exact absurd rfl (S.nofree _ (PySem.mem_of_lookup hy))
  · exact Nat.le_of_lt (x.above y c (PySem.mem_of_lookup h))
  · have hi : i < vs.length := by
      unfold start at h2
      by_cases hi : i < vs.length
      · exact hi
      · rw [List.getElem?_append_right (by simpa using hi)] at h2
        rw [List.getElem?_replicate] at h2
        split at h2 <;> cases h2
    have ha : vs[i]? = some v := by
      unfold start at h2
      rw [List.getElem?_append_left (by simpa using hi), List.getElem?_map] at h2
      cases e : vs[i]? with
      | none => rw [e] at h2; cases h2
      | some a => rw [e] at h2; cases h2; rfl
    obtain ⟨u, hu, rv⟩ := r.get ha
    have hp : ps[i]? = some y := by
      rw [← S.pre, List.getElem?_take_of_lt (by omega)]; exact h1
    have ndP : ps.Nodup := by rw [← S.pre]; exact S.nd.sublist (List.take_sublist _ _)
    refine ⟨u, rv, ?_⟩
    rcases S.par y (List.mem_of_getElem? hp) with k | k
    · exact .inl ⟨k, bindL_get ndP hp hu k⟩
    · obtain ⟨c, e⟩ := cell_has (n := s.heap.objs.size + 1) k
      refine .inr ⟨.inl k, c, e, ?_⟩
      have q := x.cell y c e
      rw [bindC_get ndP hp hu (by show scope.names.lookup y ≠ _; rw [k]; decide)] at q
      exact q
  · exact e0.hok.fresh (Nat.le_of_lt (x.above y c (PySem.mem_of_lookup h)))
  · unfold start
    show _ = N.length
    rw [List.length_append, List.length_map, List.length_replicate]
    omega
theorem fn_of {CX : CXT} {P : Program} {w : World} {K : PySem.W.Frag} {mg : Str → Option Value} {base : Heap} {k : Nat} {f : Addr} {name qual : Str} {params : Arguments} {body : List Stmt} {scope : Scope} {dV kV doc pm cdv ct oc : Value} {an od : Option Addr}
    {osl : Array (Option Value)} {N ps : List Str} {sp : Sp} (lk : K.lookup f = some ⟨oc, od, .func (PySem.W.fnOf name qual params body scope dV kV doc pm an cdv ct), osl⟩) (hcd : PySem.W.codeIn K cdv qual = true) (S : FnScope N ps scope)
    (len : ∀ vs H Q E, sp vs H Q E → vs.length = ps.length)
    (hbody : ∀ (A : Around) (outer : List Env) (s : Shared) (H : Hp) (vs : List V) (Q : VK) (E : XK), Room k (A.deeper (envOfC qual scope s.heap.objs.size f cdv)) → sp vs H Q E →
      ∃ t, PSs (cxOf CX P w K mg base N qual scope f cdv A outer s H E) body t ∧ t { nx := fun _ H' => Q .non H', rt := Q } (start N vs) H) :
    FnOk P w K mg base CX (k + 1) f (PySem.W.fnOf name qual params body scope dV kV doc pm an cdv ct) ps sp := by
  refine ⟨len, fun A outer s H args us vs Q E hr e0 hb r hsp => ?_⟩
  have hl := len _ _ _ _ hsp
  have KX : K.In s.heap := e0.mod.kin.keeps fun b o e => (e0.bs b o e).1
  have lim : s.heap.NoLimit := e0.mod.nolimit.keeps fun b o e => (e0.bs b o e).1
  have hkind : ∀ y ∈ ps.zip us, scope.names.lookup y.1 = some .local ∨ (scope.names.lookup y.1 = some .cell ∧ ((cellsFrom (s.heap.objs.size + 1) scope.names []).lookup y.1).isSome = true) := fun ⟨n, v⟩ hy => by
    rcases S.par n (List.of_mem_zip hy).1 with q | q
    · exact .inl q
    · exact .inr ⟨q, PySem.W.cellsFrom_some _ _ _ (.inl q)⟩
  refine codeAny_call_function hr.depth (KX _ _ lk) rfl S.co S.gen rfl (PySem.W.codeRec_of KX hcd) (hb _ _ _ _ ?_)
  refine wpAny_newFunctionEnv_cells S.kind hkind fun env he s1 x => ?_
  subst he
  refine ⟨lim.keeps x.toInCall.keep, codeAny_func ?_⟩
  obtain ⟨t, ht, hq⟩ := hbody A outer s H vs Q E (hr.deeper _) hsp
  have I : Inv (cxOf CX P w K mg base N qual scope f cdv A outer s H E) [] (start N vs) H s1 := inv_start S hr.hd e0 hl r x
  refine wpAny_mono (ht [] s1 (start N vs) H _ I hq) (fun fl s' hs => ?_) fun e s' hs => hs
  have fin : ∀ {σ' : St} {H' : Hp} {v : V} {u : Value}, Inv (cxOf CX P w K mg base N qual scope f cdv A outer s H E) [] σ' H' s' → RelV v u → Q v H' → CE outer P w H s Q u s' :=
    fun {σ' H' v u} J rv q => ⟨v, H', J.os, J.bare, J.base, J.hok, rv, q⟩
  cases fl with
  | ret u =>
    obtain ⟨v, σ', H', J, rv, q⟩ := hs
    exact fin J rv q
  | next =>
    obtain ⟨σ', H', J, q⟩ := hs
    exact fin (v := V.non) (u := Value.none) J rfl q
  | brk =>
    obtain ⟨_, _, _, q⟩ := hs
    exact False.elim q
  | cont =>
    obtain ⟨_, _, _, q⟩ := hs
    exact False.elim q
end L2
namespace L2
open PySem PySem.Spec PyProof.Rows
section
variable {X : Cx} {x : Str} {p pos : Pos} {e : Expr} {es : List Expr} {t : TA} {id T : String} {r : List V → Hp → VK → Prop}
def tCB (r : List V → Hp → VK → Prop) (t : TA) : TE := fun σ H Q => t σ H fun vs H1 => r vs H1 Q
theorem pe_callB (hc : CallR X (.builtin id) r) (hg : Gl X x) (hm : X.mg x = none) (hv : bootBuiltins x = some (.builtin id)) (ha : PA X (e :: es) t) (hn : x ≠ "__name__" := by decide) (hdb : (x == ("__debug__" : Str)) = false := by decide)
    (he : starEach (e :: es) X.env = (false, eval e X.env) :: starEach es X.env := by rfl) (hpl : (backTo pos (starEach es X.env)).any (·.1) = false := by rfl) : PE X (.Call (.Name x p) (e :: es) [] pos) (tCB r t) := by
  intro pins s σ H Q I h
  refine wpAny_Call_Name_kw (ld_blt I hg hm hv ?_ hn hdb)
  exact PyProof.Rows.callWith_builtin1 (thn (ha pos pins s σ H _ I h) fun us s1 ⟨vs, H1, I1, r1, q1⟩ => hc pins s1 σ H1 vs us Q I1 r1 q1) he hpl
theorem pe_callTy (hc : CallR X (.type T) r) (hg : Gl X x) (hm : X.mg x = none) (hv : bootBuiltins x = some (.type T)) (ha : PA X (e :: es) t) (hn : x ≠ "__name__" := by decide) (hdb : (x == ("__debug__" : Str)) = false := by decide)
    (he : starEach (e :: es) X.env = (false, eval e X.env) :: starEach es X.env := by rfl) (hpl : (backTo pos (starEach es X.env)).any (·.1) = false := by rfl) : PE X (.Call (.Name x p) (e :: es) [] pos) (tCB r t) := by
  intro pins s σ H Q I h
  refine wpAny_Call_Name_kw (ld_blt I hg hm hv ?_ hn hdb)
  exact PyProof.Rows.callWith_type1 (thn (ha pos pins s σ H _ I h) fun us s1 ⟨vs, H1, I1, r1, q1⟩ => hc pins s1 σ H1 vs us Q I1 r1 q1) he hpl
end
end L2
namespace HT
open PySem PyProof.Rows
section
open PySem.SeqAt
open PySem.AutoSeq1 (wpAny_loadPart')
open PySem.MeetsSeq PySem.MeetsSeq2 PySem.MeetsSeq3
end
section
variable {prog : Program} {w : World} {A : Around} {E : Value → Shared → Prop} {s : Shared}
def sIx (n d : Nat) : Option Int → Nat
  | none => d
  | some v => if v < 0 then (v + (n : Int)).toNat else min v.toNat n
theorem sIx_none (n d : Nat) : sIx n d none = d := rfl
theorem sIx_nat (n d k : Nat) : sIx n d (some (k : Int)) = min k n := by
  show (if (k : Int) < 0 then ((k : Int) + (n : Int)).toNat else min (k : Int).toNat n) = min k n
  rw [if_neg (by omega), Int.toNat_natCast]
end
end HT
namespace L2
open PySem PySem.Spec PyProof.Rows
abbrev TO := St → Hp → (Option Int → Hp → Prop) → Prop
def PO (X : Cx) (e : Option Expr) (t : TO) : Prop :=
  ∀ (pins : List (Addr × Obj)) (s : Shared) (σ : St) (H : Hp) (Q : Option Int → Hp → Prop), Inv X pins σ H s → t σ H Q →
    wpAny (model X.prog X.w) X.A (evalPart e X.env) (fun u s' => ∃ o H', Inv X pins σ H' s' ∧ IsPart u o ∧ Q o H') X.xe s
def tNoPart : TO := fun _ H Q => Q none H
def tPart (t : TE) : TO := fun σ H Q => t σ H fun x H1 => ∃ i, x = .int i ∧ Q (some i) H1
section
variable {X : Cx} {e : Expr} {te : TE} {lo hi : Option Expr} {tl th : TO} {pos p2 : Pos}
theorem po_none : PO X none tNoPart := by
  intro pins s σ H Q I h
  rw [evalPart_none]
  exact wpAny_pure ⟨none, H, I, .none, h⟩
theorem po_some (h : PE X e te) : PO X (some e) (tPart te) := by
  intro pins s σ H Q I hw
  rw [evalPart_some]
  refine thn (h pins s σ H _ I hw) fun u s1 ⟨x, H1, I1, r1, q1⟩ => ?_
  obtain ⟨i, rfl, q⟩ := q1
  obtain ⟨t, rfl⟩ := r1
  exact ⟨some i, H1, I1, .int i t, q⟩
def SlR (X : Cx) (r : V → Option Int → Option Int → Hp → VK → Prop) : Prop :=
  ∀ (pins : List (Addr × Obj)) (s : Shared) (σ : St) (H : Hp) (x : V) (v vl vu : Value) (lo hi : Option Int) (sl : Addr) (Q : VK), Inv X pins σ H s → RelV x v → s.heap.IsSliceOf sl vl vu .none → IsPart vl lo → IsPart vu hi → r x lo hi H Q →
    ∃ T id, typeLookup (.type T) "__getitem__" = pure (some (.builtin id)) ∧ s.TypeIs v T ∧ wpAny (model X.prog X.w) X.A (getItem v (.ref sl)) (EP X pins σ Q) X.xe s
def tSl (r : V → Option Int → Option Int → Hp → VK → Prop) (te : TE) (tl th : TO) : TE := fun σ H Q => te σ H fun x H1 => tl σ H1 fun l H2 => th σ H2 fun u H3 => r x l u H3 Q
theorem pe_slice {r : V → Option Int → Option Int → Hp → VK → Prop} (hr : SlR X r) (he : PE X e te) (hl : PO X lo tl) (hu : PO X hi th) : PE X (.Subscript e (.Slice lo hi none p2) pos) (tSl r te tl th) := by
  intro pins s σ H Q I h
  refine Subscript_ (thn (he pins s σ H _ I h) fun v s1 ⟨x, H1, I1, r1, q1⟩ => ?_)
  refine wpAny_Slice (thn (hl pins s1 σ H1 _ I1 q1) fun vl s2 ⟨l, H2, I2, pl, q2⟩ => thn (hu pins s2 σ H2 _ I2 q2) fun vu s3 ⟨u, H3, I3, pu, q3⟩ => ?_)
  rw [evalPart_none]
  refine wpAny_pure ?_
  have I4 : Inv X pins σ H3 { s3 with heap := s3.heap.push { cls := .type "slice", data := .fields #[vl, vu, .none] } } := I3.kept (t' := s3.toks) fun b ob q => Heap.get?_push_of_some _ q
  obtain ⟨T, id, hT, ht, hg⟩ := hr pins { s3 with heap := s3.heap.push { cls := .type "slice", data := .fields #[vl, vu, .none] } } σ H3 x v vl vu l u s3.heap.objs.size Q I4 r1 (Heap.IsSliceOf.new ..) pl pu q3
  show wpAny (model X.prog X.w) X.A (subscriptTail e (.Slice lo hi none p2) v (.ref s3.heap.objs.size)) (EP X pins σ Q) X.xe { s3 with heap := s3.heap.push { cls := .type "slice", data := .fields #[vl, vu, .none] } }
  exact tail_any (ops := [.ref s3.heap.objs.size, v]) ht hT hg (by with_unfolding_all rfl)
def cutV (xs : List V) (lo hi : Option Int) : List V := (xs.drop (HT.sIx xs.length 0 lo)).take (HT.sIx xs.length xs.length hi - HT.sIx xs.length 0 lo)
theorem cutV_length (xs : List V) (lo hi : Option Int) : (cutV xs lo hi).length ≤ xs.length := by
  unfold cutV
  rw [List.length_take, List.length_drop]
  omega
end
end L2
namespace L2
open PySem PySem.Spec PyProof.Rows
def ixN (n : Nat) (i : Int) : Option Nat := if 0 ≤ i then (if i < n then some i.toNat else none) else if -(n : Int) ≤ i then some (i + n).toNat else none
def atI {α : Type} (xs : List α) (i : Int) : Option α := (ixN xs.length i).bind fun j => xs[j]?
theorem ixN_seq {n : Nat} {i : Int} {j : Nat} (h : ixN n i = some j) : seqIndex? i n = some j ∧ j < n ∧ -(n : Int) ≤ i ∧ i < n := by
  unfold ixN at h
  by_cases h0 : 0 ≤ i
  · rw [if_pos h0] at h
    by_cases h1 : i < n
    · rw [if_pos h1] at h
      have e : i.toNat = j := Option.some.inj h
      exact ⟨by rw [seqIndex_of h0 h1, e], by omega, by omega, h1⟩
    · rw [if_neg h1] at h; cases h
  · rw [if_neg h0] at h
    by_cases h1 : -(n : Int) ≤ i
    · rw [if_pos h1] at h
      have e : (i + n).toNat = j := Option.some.inj h
      exact ⟨by rw [seqIndex_neg (by omega) h1, e], by omega, h1, by omega⟩
    · rw [if_neg h1] at h; cases h
theorem atI_get {α : Type} {xs : List α} {i : Int} {v : α} (h : atI xs i = some v) : ∃ j, seqIndex? i xs.length = some j ∧ xs[j]? = some v ∧ j < xs.length ∧ -(xs.length : Int) ≤ i ∧ i < xs.length := by
  unfold atI at h
  cases e : ixN xs.length i with
  | none => rw [e] at h; cases h
  | some j =>
    rw [e] at h
    obtain ⟨h1, h2, h3, h4⟩ := ixN_seq e
    exact ⟨j, h1, h, h2, h3, h4⟩
theorem atI_nat {α : Type} {xs : List α} {j : Nat} {v : α} (h : xs[j]? = some v) : atI xs (j : Int) = some v := by
  have hj : j < xs.length := (List.getElem?_eq_some_iff.mp h).1
  have e : ixN xs.length (j : Int) = some j := by
    unfold ixN
    rw [if_pos (by omega), if_pos (by omega)]; simp
  unfold atI; rw [e]; exact h
def PlainIx (b : Expr) : Prop := ∀ o i, subscripted b false o i = operate [o, i] (getItem o i)
def IxR (X : Cx) (r : R2) : Prop :=
  ∀ (value slice : Expr) (pins : List (Addr × Obj)) (s : Shared) (σ : St) (H : Hp) (x y : V) (v u : Value) (Q : VK), Inv X pins σ H s → RelV x v → RelV y u → r x y H Q →
    subscripted slice false v u = operate [v, u] (getItem v u) → wpAny (model X.prog X.w) X.A (subscriptTail value slice v u) (EP X pins σ Q) X.xe s
def MtR (X : Cx) (id : String) (r : V → List V → Hp → VK → Prop) : Prop :=
  ∀ (pins : List (Addr × Obj)) (s : Shared) (σ : St) (H : Hp) (x : V) (xs : List V) (v : Value) (us : List Value) (Q : VK), Inv X pins σ H s → RelV x v → Vals xs us → r x xs H Q →
    wpAny (model X.prog X.w) X.A (call (.builtin id) (v :: us)) (EP X pins σ Q) X.xe s
section
variable {X : Cx} {a b : Expr} {ta tb : TE} {pos : Pos}
theorem pe_ix {r : R2} (hr : IxR X r) (ha : PE X a ta) (hb : PE X b tb) (hs : PlainIx b) : PE X (.Subscript a b pos) (tOp r ta tb) := by
  intro pins s σ H Q I h
  exact Subscript_ (binT ha hb I h fun v u s2 x y H2 I2 rx ry q => hr a b pins s2 σ H2 x y v u Q I2 rx ry q (hs _ _))
def rIxL (K : PySem.W.Frag) : R2 := fun x y H Q => ∃ p xs i v, x = .ref p ∧ y = .int i ∧ SqL K H p xs ∧ atI xs i = some v ∧ Q v H
def rIxT (K : PySem.W.Frag) : R2 := fun x y H Q => ∃ p xs i v, x = .ref p ∧ y = .int i ∧ SqT K H p xs ∧ atI xs i = some v ∧ Q v H
def rIxS : R2 := fun x y H Q => ∃ z i c, x = .str z ∧ y = .int i ∧ z.length ≤ sizeLine ∧ atI z.cps.toList i = some c ∧ Q (.str ⟨#[c]⟩) H
theorem ix_list : IxR X (rIxL X.K) := by
  intro value slice pins s σ H x y v u Q I rx ry h hs
  obtain ⟨p, xs, i, z, rfl, rfl, hq, he, q⟩ := h
  cases rx
  obtain ⟨t, rfl⟩ := ry
  obtain ⟨its, r, pl, hz⟩ := I.list hq
  obtain ⟨j, h1, h2, h3, h4, h5⟩ := atI_get he
  obtain ⟨w, ew, rw'⟩ := r.get h2
  have hl := r.length
  have hn := line63
  have fin : EP X pins σ Q w s := ⟨z, H, I, rw', q⟩
  by_cases h0 : 0 ≤ i
  · have hj : i.toNat = j := by
      rw [seqIndex_of h0 h5] at h1
      exact Option.some.inj h1
    exact item_listR pl.isList h0 (by omega) (by rw [hj]; simpa using ew) fin hs
  · have hj : (i + (its.toArray.size : Int)).toNat = j := by
      rw [seqIndex_neg (by omega) h4] at h1
      rw [List.size_toArray, ← hl]
      exact Option.some.inj h1
    exact subscriptTail_builtinR (x := w) pl.isList.typeIs slot_list_getitem.lookup
      (wpAny_getItem_list_neg (Q := fun r s' => r = w ∧ EP X pins σ Q r s') pl.isList (by omega) (by rw [List.size_toArray] <;> omega) (by omega) (by rw [hj]; simpa using ew) ⟨rfl, fin⟩) hs
theorem ix_tup : IxR X (rIxT X.K) := by
  intro value slice pins s σ H x y v u Q I rx ry h hs
  obtain ⟨p, xs, i, z, rfl, rfl, hq, he, q⟩ := h
  cases rx
  obtain ⟨t, rfl⟩ := ry
  obtain ⟨its, r, pl, hz⟩ := I.tuple hq
  obtain ⟨j, h1, h2, h3, h4, h5⟩ := atI_get he
  obtain ⟨w, ew, rw'⟩ := r.get h2
  have hl := r.length
  have hn := line63
  have fin : EP X pins σ Q w s := ⟨z, H, I, rw', q⟩
  exact subscriptTail_builtinR (x := w) pl.typeIs slot_tuple_getitem.lookup
    (getItem_tuple (j := j) (Q := fun r s' => r = w ∧ EP X pins σ Q r s') pl (by omega) (by omega) (by rw [List.size_toArray, ← hl]; exact h1) (by simpa using ew) ⟨rfl, fin⟩) hs
theorem ix_str : IxR X rIxS := by
  intro value slice pins s σ H x y v u Q I rx ry h hs
  obtain ⟨z, i, c, rfl, rfl, hz, he, q⟩ := h
  obtain ⟨t, rfl⟩ := rx
  obtain ⟨t', rfl⟩ := ry
  obtain ⟨j, h1, h2, h3, h4, h5⟩ := atI_get he
  have hl : z.cps.toList.length = z.length := by simp [Str.length]
  rw [hl] at h1 h4 h5
  have hn := line63
  exact tail_any (typeIs_str s z t) slot_str_getitem.lookup (getItem_str (c := c) (by
    have e1 : decide (i < -(2 ^ 63 : Int)) = false := decide_eq_false (by omega)
    have e2 : decide (i ≥ 2 ^ 63) = false := decide_eq_false (by omega)
    rw [e1, e2, Bool.or_false]) (by rw [h1]; simpa using h2) ⟨.str ⟨#[c]⟩, H, I.tok _, ⟨_, rfl⟩, q⟩) hs
theorem mapSeq_set (its : List Value) (n j : Nat) (u : Value) : Obj.mapSeq (·.setIfInBounds j u) { cls := .type "list", data := .seq its.toArray n } = { cls := .type "list", data := .seq (its.set j u).toArray n } := by
  simp [Obj.mapSeq]
theorem Inv.lst {pins : List (Addr × Obj)} {σ : St} {H : Hp} {s : Shared} {p : Addr} {xs : List V} (I : Inv X pins σ H s) (h : H p = some (.lst xs)) :
    ∃ (its : List Value) (n : Nat), Vals xs its ∧ s.heap.get? p = some { cls := .type "list", data := .seq its.toArray n } ∧ xs.length ≤ sizeLine := by
  obtain ⟨z, its, n, r, e⟩ := I.hok p _ h
  exact ⟨its, n, r, e, z⟩
theorem Inv.lstUpd {pins : List (Addr × Obj)} {σ : St} {H : Hp} {s : Shared} {p : Addr} {xs ys : List V} {its its' : List Value} {n n' : Nat} {f : Obj → Obj} (I : Inv X pins σ H s) (h : H p = some (.lst xs))
    (ho : s.heap.get? p = some { cls := .type "list", data := .seq its.toArray n }) (hf : f { cls := .type "list", data := .seq its.toArray n } = { cls := .type "list", data := .seq its'.toArray n' }) (r : Vals ys its') (hz : ys.length ≤ sizeLine) (t : Nat) :
    Inv X pins σ (upd H p (.lst ys)) { s with heap := s.heap.update p f, toks := t } := by
  have e : (s.heap.update p f).get? p = some { cls := .type "list", data := .seq its'.toArray n' } := by
    rw [Heap.get?_update_self f ho (by rw [hf] <;> rfl), hf]
  refine I.write (x := p) (e := p) (by rw [h]; trivial) (.inl rfl) (fun b u hb q => (Heap.get?_update_other _ _ (Ne.symm hb)).trans q) ⟨_, e⟩ ?_
  exact ⟨hz, its', n', r, e⟩
def rSetL : V → V → V → Hp → (Hp → Prop) → Prop := fun o i v H Q => ∃ p xs k j, o = .ref p ∧ i = .int k ∧ H p = some (.lst xs) ∧ ixN xs.length k = some j ∧ Q (upd H p (.lst (xs.set j v)))
theorem set_list : PSet X rSetL := by
  intro pins s σ H o i v ov iv u Q I ro ri rv h
  obtain ⟨p, xs, k, j, rfl, rfl, hp, hj, q⟩ := h
  cases ro
  obtain ⟨t, rfl⟩ := ri
  obtain ⟨its, n, r, ho, hz⟩ := I.lst hp
  obtain ⟨h1, h2, h3, h4⟩ := ixN_seq hj
  have hl := r.length
  have hn := line63
  have I' : Inv X pins σ (upd H p (.lst (xs.set j v))) { s with heap := s.heap.update p (Obj.mapSeq (·.setIfInBounds j u)) } :=
    I.lstUpd hp ho (mapSeq_set its n j u) (r.set rv j) (by rw [List.length_set]; exact hz) s.toks
  by_cases h0 : 0 ≤ k
  · have hk : k.toNat = j := by
      rw [seqIndex_of h0 h4] at h1
      exact Option.some.inj h1
    exact PySem.W.ki_setAt ho h0 (by omega) (by rw [List.size_toArray, ← hl]; exact h4) (by rw [hk]; exact ⟨_, I', q⟩)
  · have hk : (k + (its.toArray.size : Int)).toNat = j := by
      rw [seqIndex_neg (by omega) h3] at h1
      rw [List.size_toArray, ← hl]
      exact Option.some.inj h1
    exact PySem.W.ki_setBack ho (by omega) (by rw [List.size_toArray, ← hl]; exact h3) (by omega) (by rw [hk]; exact ⟨_, I', q⟩)
theorem slice_bounds (lo hi : Option Int) (n : Nat) : (sliceBounds lo hi none n).1 = ((HT.sIx n 0 lo : Nat) : Int) ∧ (sliceBounds lo hi none n).2.1 = ((HT.sIx n n hi : Nat) : Int) ∧ (sliceBounds lo hi none n).2.2 = 1 := by
  refine ⟨?_, ?_, rfl⟩
  · cases lo with
    | none => simp [sliceBounds, HT.sIx]
    | some i =>
      simp only [sliceBounds, HT.sIx, Option.getD_none, show (1 : Int) > 0 by decide, if_true]
      by_cases h : i < 0
      · simp only [h, if_true] <;> omega
      · simp only [h, if_false] <;> omega
  · cases hi with
    | none => simp [sliceBounds, HT.sIx]
    | some i =>
      simp only [sliceBounds, HT.sIx, Option.getD_none, show (1 : Int) > 0 by decide, if_true]
      by_cases h : i < 0
      · simp only [h, if_true] <;> omega
      · simp only [h, if_false] <;> omega
theorem slicePick_cut (its : List Value) (lo hi : Option Int) : slicePick its.toArray lo hi none = ((its.drop (HT.sIx its.length 0 lo)).take (HT.sIx its.length its.length hi - HT.sIx its.length 0 lo)).toArray := by
  obtain ⟨h1, h2, h3⟩ := slice_bounds lo hi its.toArray.size
  unfold slicePick
  rw [h1, h2, h3]
  simp only [sliceRange_one, pick_run, List.size_toArray] <;> rfl
def rSlL (K : PySem.W.Frag) : V → Option Int → Option Int → Hp → VK → Prop := fun x lo hi H Q => ∃ a xs, x = .ref a ∧ SqL K H a xs ∧ ∀ p, H p = none → Q (.ref p) (upd H p (.lst (cutV xs lo hi)))
theorem sl_list : SlR X (rSlL X.K) := by
  intro pins s σ H x v vl vu lo hi sl Q I rx hs pl pu h
  obtain ⟨a, xs, rfl, hx, q⟩ := h
  cases rx
  obtain ⟨its, r, ht, hz⟩ := I.list hx
  have hlen := r.length
  refine ⟨"list", _, slot_list_getitem.lookup, ht.isList.typeIs, ?_⟩
  refine wpAny_getItem_list_slice ht.isList hs pl pu .none (by simp) ?_ (by rw [List.size_toArray] <;> omega)
  rw [slicePick_cut, ← hlen]
  refine ⟨.ref s.heap.objs.size, _, I.laid (t' := s.toks) (o := .lst (cutV xs lo hi)) (fun b ob q => Heap.get?_push_of_some _ q) (Nat.le_refl _) ?_, rfl, q _ (I.hok.fresh (Nat.le_refl _))⟩
  exact ⟨Nat.le_trans (cutV_length xs lo hi) hz, _, 0, (r.drop (HT.sIx xs.length 0 lo)).take (HT.sIx xs.length xs.length hi - HT.sIx xs.length 0 lo), Heap.get?_push_size _ rfl⟩
def flatV : V → Bool
  | .non => true
  | .bl _ => true
  | .int _ => true
  | .str _ => true
  | _ => false
def eqV : V → V → Bool
  | .non, .non => true
  | .bl a, .bl b => a == b
  | .bl a, .int b => (if a then 1 else 0) == b
  | .int a, .bl b => a == (if b then 1 else 0)
  | .int a, .int b => a == b
  | .str a, .str b => a == b
  | _, _ => false
theorem eqAt_V {A : Around} {s : Shared} {y x : V} {u v : Value} (ry : RelV y u) (rx : RelV x v) (fy : flatV y = true) (fx : flatV x = true) : SeqAt.EqAt A s u v (eqV y x) := by
  cases y with
  | non =>
    cases ry
    cases x with
    | non => cases rx; exact SeqAt.EqAt.same _
    | bl b => cases rx; exact SeqAt.EqAt.none_bool b
    | int b => obtain ⟨t, rfl⟩ := rx; exact SeqAt.EqAt.none_int b t
    | str b => obtain ⟨t, rfl⟩ := rx; exact SeqAt.EqAt.none_str b t
    | _ => exact absurd (show false = true from fx) Bool.false_ne_true
  | bl a =>
    cases ry
    cases x with
    | non => cases rx; exact SeqAt.EqAt.bool_none a
    | bl b => cases rx; exact SeqAt.EqAt.bool_bool a b
    | int b => obtain ⟨t, rfl⟩ := rx; exact SeqAt.EqAt.bool_int a b t
    | str b => obtain ⟨t, rfl⟩ := rx; exact SeqAt.EqAt.bool_str a b t
    | _ => exact absurd (show false = true from fx) Bool.false_ne_true
  | int a =>
    obtain ⟨t', rfl⟩ := ry
    cases x with
    | non => cases rx; exact SeqAt.EqAt.int_none a t'
    | bl b => cases rx; exact SeqAt.EqAt.int_bool a t' b
    | int b => obtain ⟨t, rfl⟩ := rx; exact SeqAt.EqAt.int_int a t' b t
    | str b => obtain ⟨t, rfl⟩ := rx; exact SeqAt.EqAt.int_str a t' b t
    | _ => exact absurd (show false = true from fx) Bool.false_ne_true
  | str a =>
    obtain ⟨t', rfl⟩ := ry
    cases x with
    | non => cases rx; exact SeqAt.EqAt.str_none a t'
    | bl b => cases rx; exact SeqAt.EqAt.str_bool a t' b
    | int b => obtain ⟨t, rfl⟩ := rx; exact SeqAt.EqAt.str_int a t' b t
    | str b => obtain ⟨t, rfl⟩ := rx; exact SeqAt.EqAt.str_str a t' b t
    | _ => exact absurd (show false = true from fx) Bool.false_ne_true
  | _ => exact absurd (show false = true from fy) Bool.false_ne_true
def eqU (x : V) (u : Value) : Bool := match u with
  | .none => eqV .non x
  | .bool b => eqV (.bl b) x
  | .int i _ => eqV (.int i) x
  | .str z _ => eqV (.str z) x
  | _ => false
theorem eqU_of {x y : V} {u : Value} (r : RelV y u) (f : flatV y = true) : eqU x u = eqV y x := by
  cases y with
  | non => cases r; rfl
  | bl b => cases r; rfl
  | int i => obtain ⟨t, rfl⟩ := r; rfl
  | str z => obtain ⟨t, rfl⟩ := r; rfl
  | _ => exact absurd (show false = true from f) Bool.false_ne_true
theorem any_eqU {x : V} : ∀ {xs : List V} {us : List Value}, Vals xs us → xs.all flatV = true → us.any (eqU x) = xs.any fun y => eqV y x
  | _, _, .nil, _ => rfl
  | y :: xs, u :: us, .cons r t, f => by
    rw [List.all_cons, Bool.and_eq_true] at f
    rw [List.any_cons, List.any_cons, eqU_of r f.1, any_eqU t f.2]
theorem mem_eqAt {A : Around} {s : Shared} {x : V} {v : Value} (rx : RelV x v) (fx : flatV x = true) : ∀ {xs : List V} {us : List Value}, Vals xs us → xs.all flatV = true → ∀ u ∈ us, SeqAt.EqAt A s u v (eqU x u)
  | _, _, .nil, _ => fun u hu => by cases hu
  | y :: xs, u :: us, .cons r t, f => fun u' hu => by
    rw [List.all_cons, Bool.and_eq_true] at f
    rcases List.mem_cons.mp hu with rfl | hu
    · rw [eqU_of r f.1]; exact eqAt_V r rx f.1 fx
    · exact mem_eqAt rx fx t f.2 u' hu
def inV (x : V) (xs : List V) : Bool := xs.any fun y => eqV y x
def rIn (K : PySem.W.Frag) (neg : Bool) : R2 := fun x y H Q => ∃ p xs, y = .ref p ∧ (SqL K H p xs ∨ SqT K H p xs) ∧ flatV x = true ∧ xs.all flatV = true ∧ Q (.bl (if neg then !inV x xs else inV x xs)) H
theorem op_in_seq : OpR X (compareOp .In) (rIn X.K false) := by
  intro pins s σ H x y v u Q I rx ry h
  obtain ⟨p, xs, rfl, hq, fx, fs, q⟩ := h
  cases ry
  rcases hq with hq | hq
  · obtain ⟨its, r, pl, hz⟩ := I.list hq
    refine SeqAt.in_listAt (eqU x) pl.isList (fun w hw => mem_eqAt rx fx r fs w (by simpa using hw)) ⟨.bl _, H, I, rfl, ?_⟩
    rw [show its.toArray.any (eqU x) = its.any (eqU x) by simp, any_eqU r fs]
    exact q
  · obtain ⟨its, r, pl, hz⟩ := I.tuple hq
    refine SeqAt.in_tupleAt (eqU x) pl (fun w hw => mem_eqAt rx fx r fs w (by simpa using hw)) ⟨.bl _, H, I, rfl, ?_⟩
    rw [show its.toArray.any (eqU x) = its.any (eqU x) by simp, any_eqU r fs]
    exact q
theorem op_notIn_seq : OpR X (compareOp .NotIn) (rIn X.K true) := by
  intro pins s σ H x y v u Q I rx ry h
  obtain ⟨p, xs, rfl, hq, fx, fs, q⟩ := h
  cases ry
  rcases hq with hq | hq
  · obtain ⟨its, r, pl, hz⟩ := I.list hq
    refine SeqAt.notIn_listAt (eqU x) pl.isList (fun w hw => mem_eqAt rx fx r fs w (by simpa using hw)) ⟨.bl _, H, I, rfl, ?_⟩
    rw [show its.toArray.any (eqU x) = its.any (eqU x) by simp, any_eqU r fs]
    exact q
  · obtain ⟨its, r, pl, hz⟩ := I.tuple hq
    refine SeqAt.notIn_tupleAt (eqU x) pl (fun w hw => mem_eqAt rx fx r fs w (by simpa using hw)) ⟨.bl _, H, I, rfl, ?_⟩
    rw [show its.toArray.any (eqU x) = its.any (eqU x) by simp, any_eqU r fs]
    exact q
theorem call_len_seq : CallR X (.builtin "len") (fun xs H Q => ∃ p ys, xs = [.ref p] ∧ (SqL X.K H p ys ∨ SqT X.K H p ys) ∧ Q (.int ys.length) H) := by
  intro pins s σ H xs us Q I r h
  obtain ⟨p, ys, rfl, hq, q⟩ := h
  obtain ⟨u, rfl, rx⟩ := vals1 r
  cases rx
  have hn := line63
  rcases hq with hq | hq
  · obtain ⟨its, r', pl, hz⟩ := I.list hq
    have hlen := r'.length
    exact Calls.call_len_list pl.isList (by simp only [List.size_toArray] <;> omega) ⟨.int ys.length, H, I.tok _, ⟨s.toks + 1, by rw [List.size_toArray, hlen]⟩, q⟩
  · obtain ⟨its, r', pl, hz⟩ := I.tuple hq
    have hlen := r'.length
    exact len_tuple pl (by simp only [List.size_toArray] <;> omega) ⟨.int ys.length, H, I.tok _, ⟨s.toks + 1, by rw [List.size_toArray, hlen]⟩, q⟩
theorem call_list_of : CallR X (.type "list") (fun xs H Q => ∃ p ys, xs = [.ref p] ∧ (SqL X.K H p ys ∨ SqT X.K H p ys) ∧ ∀ l, H l = none → Q (.ref l) (upd H l (.lst ys))) := by
  intro pins s σ H xs us Q I r h
  obtain ⟨p, ys, rfl, hq, q⟩ := h
  obtain ⟨u, rfl, rx⟩ := vals1 r
  cases rx
  have fin : ∀ (its : List Value), Vals ys its → ys.length ≤ sizeLine → ∀ (h' : Heap) (c' : Nat), (∀ b o', s.heap.get? b = some o' → h'.get? b = some o') →
      h'.get? s.heap.objs.size = some { cls := .type "list", dict := none, data := .seq its.toArray c', slots := #[] } → EP X pins σ Q (.ref s.heap.objs.size) { s with heap := h' } := fun its r' hz h' c' kp e =>
    ⟨.ref s.heap.objs.size, _, I.laid (t' := s.toks) kp (Nat.le_refl _) (show ObjOk X.prog X.w _ h' _ (.lst ys) from ⟨hz, its, c', r', e⟩), rfl, q _ (I.hok.fresh (Nat.le_refl _))⟩
  rcases hq with hq | hq
  · obtain ⟨its, r', pl, hz⟩ := I.list hq
    have hlen := r'.length
    obtain ⟨o, ho, hc, n, hd⟩ := pl.isList
    exact call_list_seq p (.inl rfl) ho hc hd (fun h' c' kp e => fin its r' hz h' c' kp e) (by simp only [List.size_toArray] <;> omega)
  · obtain ⟨its, r', pl, hz⟩ := I.tuple hq
    have hlen := r'.length
    obtain ⟨o, ho, hc, n, hd⟩ := pl
    exact call_list_seq p (.inr rfl) ho hc hd (fun h' c' kp e => fin its r' hz h' c' kp e) (by simp only [List.size_toArray] <;> omega)
theorem call_tuple_of : CallR X (.type "tuple") (fun xs H Q => ∃ p ys, xs = [.ref p] ∧ ((SqL X.K H p ys ∧ ∀ l, H l = none → Q (.ref l) (upd H l (.tup ys))) ∨ (SqT X.K H p ys ∧ Q (.ref p) H))) := by
  intro pins s σ H xs us Q I r h
  obtain ⟨p, ys, rfl, h⟩ := h
  obtain ⟨u, rfl, rx⟩ := vals1 r
  cases rx
  rcases h with ⟨hq, q⟩ | ⟨hq, q⟩
  · obtain ⟨its, r', pl, hz⟩ := I.list hq
    have hlen := r'.length
    refine call_tuple_list pl.isList (fun h' kp => ?_) (by simp only [List.size_toArray] <;> omega)
    have I1 : Inv X pins σ H { s with heap := h' } := I.kept (t' := s.toks) kp
    have I2 : Inv X pins σ (upd H h'.objs.size (.tup ys)) { s with heap := h'.push { cls := .type "tuple", data := .seq its.toArray } } :=
      I1.laid (t' := s.toks) (fun b o e => Heap.get?_push_of_some _ e) (Nat.le_refl _) (show ObjOk X.prog X.w _ _ _ (.tup ys) from ⟨hz, its, r', IsTup.new _ _⟩)
    exact ⟨.ref h'.objs.size, _, I2, rfl, q _ (I1.hok.fresh (Nat.le_refl _))⟩
  · obtain ⟨its, r', pl, hz⟩ := I.tuple hq
    exact call_tuple_same pl ⟨.ref p, H, I, rfl, q⟩
def tyV (K : PySem.W.Frag) (T : String) (x : V) (H : Hp) : Prop := match x with
  | .str _ => T = "str"
  | .int _ => T = "int"
  | .ref p => (T = "list" ∧ ∃ xs, SqL K H p xs) ∨ (T = "tuple" ∧ ∃ o, K.lookup p = some o ∧ o.cls = .type "tuple" ∧ o.dict = none) ∨
      (T = "dict" ∧ ((∃ kvs, H p = some (.dK kvs)) ∨ ∃ kvs, H p = some (.dT kvs))) ∨ (T = "set" ∧ ∃ S n, H p = some (.set S n))
  | _ => False
theorem tyV_is {pins : List (Addr × Obj)} {σ : St} {H : Hp} {s : Shared} {T : String} {x : V} {v : Value} (I : Inv X pins σ H s) (r : RelV x v) (ty : tyV X.K T x H) :
    s.TypeIs v T ∧ ∀ a, v = .ref a → ∃ ob, s.heap.get? a = some ob ∧ ob.dict = none := by
  cases x with
  | str z =>
    obtain ⟨t, rfl⟩ := r
    cases (show T = "str" from ty)
    exact ⟨typeIs_str s z t, fun _ e => nomatch e⟩
  | int i =>
    obtain ⟨t, rfl⟩ := r
    cases (show T = "int" from ty)
    exact ⟨typeIs_int s i t, fun _ e => nomatch e⟩
  | ref p =>
    cases r
    rcases ty with ⟨rfl, xs, hq⟩ | ⟨rfl, o, hk, hc, hd⟩ | ⟨rfl, hk⟩ | ⟨rfl, S, n, hk⟩
    · obtain ⟨its, _, pl, _⟩ := I.list hq
      refine ⟨pl.isList.typeIs, fun a e => ?_⟩
      cases e
      obtain ⟨o, n, e, c, hd, _⟩ := pl
      exact ⟨o, e, hd⟩
    · refine ⟨⟨o, I.kIn p o hk, hc⟩, fun a e => ?_⟩
      cases e
      exact ⟨o, I.kIn _ o hk, hd⟩
    · have z : ∃ o, s.heap.get? p = some o ∧ o.ExactDict := by
        rcases hk with ⟨kvs, hk⟩ | ⟨kvs, hk⟩
        · obtain ⟨_, _, _, _, o, _, _, e, ex, _⟩ := I.hok p _ hk
          exact ⟨o, e, ex⟩
        · obtain ⟨_, _, _, _, o, _, _, e, ex, _⟩ := I.hok p _ hk
          exact ⟨o, e, ex⟩
      obtain ⟨o, e, ex⟩ := z
      refine ⟨⟨o, e, ex.1⟩, fun a e2 => ?_⟩
      cases e2
      exact ⟨o, e, ex.2.1⟩
    · obtain ⟨o, _, _, _, e, ex, _⟩ := I.hok p _ hk
      refine ⟨⟨o, e, ex.1⟩, fun a e2 => ?_⟩
      cases e2
      exact ⟨o, e, ex.2.1⟩
  | _ => exact False.elim ty
def tBM (K : PySem.W.Frag) (T : String) (r : V → List V → Hp → VK → Prop) (to : TE) (t : TA) : TE := fun σ H Q => to σ H fun x H1 => tyV K T x H1 ∧ t σ H1 fun xs H2 => r x xs H2 Q
variable {o e : Expr} {es : List Expr} {to : TE} {t : TA} {name : Str} {apos cpos : Pos} {T id : String} {r : V → List V → Hp → VK → Prop}
theorem pe_bm (pa : PlainAttrs T) (slot : Slot T name id) (hty : typeOf (.builtin id) = pure (.type "method_descriptor")) (hm : MtR X id r) (ho : PE X o to) (ha : PA X (e :: es) t)
    (hbase : attributeBase o name X.env (eval o X.env) = eval o X.env := by rfl)
    (hfew : ((backTo cpos (starEach (e :: es) X.env)).all (fun x => !x.1) && (backToKw cpos (keywordEach [] X.env)).all (fun x => x.1.isSome)
      && decide ((e :: es).length + ([] : List Keyword).length + (if ([] : List Keyword).isEmpty then 0 else 1) < 30)) = true := by rfl)
    (hline : (apos.endLine == cpos.line) = true := by rfl) (hs : starEach (e :: es) X.env = (false, eval e X.env) :: starEach es X.env := by rfl) (hplain : (backTo cpos (starEach es X.env)).any (·.1) = false := by rfl) :
    PE X (.Call (.Attribute o name apos) (e :: es) [] cpos) (tBM X.K T r to t) := by
  intro pins s σ H Q I h
  refine wpAny_Call_method_late hbase hfew hline rfl (thn (ho pins s σ H _ I h) fun v s1 ⟨x, H1, I1, r1, ty, q1⟩ => ?_)
  obtain ⟨h1, h2⟩ := tyV_is I1 r1 ty
  refine ⟨T, id, pa, slot, hty, h1, h2, ?_⟩
  have hA := ha cpos pins s1 σ H1 _ I1 q1
  rw [hs] at hA ⊢
  refine Calls.callWith_builtin (by show (false || (backTo cpos (starEach es X.env)).any (·.1)) = false; rw [hplain] <;> rfl) (Calls.evalArgs_plain ?_)
  exact thn hA fun us s2 ⟨vs, H2, I2, r2, q2⟩ => hm pins s2 σ H2 x vs v us Q I2 r1 r2 q2
/- xs.append(e), list.index on a module's tuple .. are MtR facts of 06m -/
end
end L2
namespace L2
open PySem PySem.Spec PyProof.Rows
def MtM (X : Cx) (id : String) (r : V → List V → Hp → VK → Prop) : Prop :=
  ∀ (pins : List (Addr × Obj)) (s : Shared) (σ : St) (H : Hp) (x : V) (xs : List V) (v : Value) (us : List Value) (Q : VK), Inv X pins σ H s → RelV x v → Vals xs us → r x xs H Q →
    wpAny (model X.prog X.w) X.A (call (.builtin id) (v :: us)) (EP X pins σ Q) X.xe s
theorem Vals.one : ∀ {x : V} {us : List Value}, Vals [x] us → ∃ u, us = [u] ∧ RelV x u
  | _, _, .cons r .nil => ⟨_, rfl, r⟩
section
variable {X : Cx} {pins : List (Addr × Obj)} {σ : St} {H : Hp} {s : Shared} {l b : Addr} {xs ys zs : List V}
theorem Inv.lset {its its' : List Value} {n : Nat} {f : Array Value → Array Value} {t' : Nat} (I : Inv X pins σ H s) (hH : H l = some (.lst xs))
    (e : s.heap.get? l = some { cls := .type "list", data := .seq its.toArray n }) (hf : f its.toArray = its'.toArray) (hv : Vals ys its') (hz : ys.length ≤ sizeLine) :
    Inv X pins σ (upd H l (.lst ys)) { s with heap := s.heap.update l (Obj.mapSeq f), toks := t' } := by
  have q := PySem.IsL.update e f
  rw [hf] at q
  refine I.write (x := l) (e := l) (by rw [hH]; exact trivial) (.inl rfl) (fun b' u hb hu => (Heap.get?_update_other s.heap (Obj.mapSeq f) (Ne.symm hb)).trans hu) ⟨_, q⟩ ?_
  exact ⟨hz, its', _, hv, q⟩
theorem Inv.lstM (I : Inv X pins σ H s) (hH : H l = some (.lst xs)) : xs.length ≤ sizeLine ∧ ∃ (its : List Value) (n : Nat), Vals xs its ∧ xs.length = its.length ∧ s.heap.get? l = some { cls := .type "list", data := .seq its.toArray n } := by
  obtain ⟨z, its, n, r, e⟩ := I.hok l _ hH
  exact ⟨z, its, n, r, r.length, e⟩
theorem notLongL {n : Nat} (h : n ≤ sizeLine) : Builtin.List.listTooLong n = false := by
  unfold Builtin.List.listTooLong
  exact decide_eq_false (by omega)
end
section
variable {X : Cx}
def rAppend : V → List V → Hp → VK → Prop := fun x vs H Q => ∃ l xs y, x = .ref l ∧ vs = [y] ∧ H l = some (.lst xs) ∧ xs.length < sizeLine ∧ Q .non (upd H l (.lst (xs ++ [y])))
theorem mt_append : MtM X "list.append" rAppend := by
  intro pins s σ H x vs v us Q I rx rv h
  obtain ⟨l, xs, y, rfl, rfl, hH, hz, q⟩ := h
  cases rx
  obtain ⟨u, rfl, ru⟩ := rv.one
  obtain ⟨z, its, n, r, hl, e⟩ := I.lstM hH
  refine call_meets F.slot_list_append ⟨_, e, rfl⟩ F.entry_list_append (F.args_list_append_2 _ _) (PySem.list_append l its.toArray n u (by rw [List.size_toArray]; omega)) ⟨e, ?_⟩
  refine ⟨.non, _, I.lset (its' := its ++ [u]) hH e (by simp) (r.append (.cons ru .nil)) ?_, rfl, q⟩
  rw [List.length_append, List.length_singleton]
  omega
def rExtend : V → List V → Hp → VK → Prop := fun x vs H Q => ∃ l b xs zs, x = .ref l ∧ vs = [.ref b] ∧ H l = some (.lst xs) ∧ H b = some (.lst zs) ∧ xs.length + zs.length ≤ sizeLine ∧ Q .non (upd H l (.lst (xs ++ zs)))
theorem mt_extend : MtM X "list.extend" rExtend := by
  intro pins s σ H x vs v us Q I rx rv h
  obtain ⟨l, b, xs, zs, rfl, rfl, hH, hB, hz, q⟩ := h
  cases rx
  obtain ⟨u, rfl, ru⟩ := rv.one
  cases ru
  obtain ⟨z, its, n, r, hl, e⟩ := I.lstM hH
  obtain ⟨z2, its2, n2, r2, hl2, e2⟩ := I.lstM hB
  have hsz : its.toArray.size + its2.toArray.size ≤ sizeLine := by rw [List.size_toArray, List.size_toArray]; omega
  have hlong : ¬ (!its.toArray.isEmpty && Builtin.List.listTooLong (its.toArray.size + its2.toArray.size)) = true := by
    rw [notLongL hsz, Bool.and_false]
    exact Bool.false_ne_true
  refine call_meets F.slot_list_extend ⟨_, e, rfl⟩ F.entry_list_extend (F.args_list_extend_2 _ _)
    (AutoSeq1.list_extend_list_list_0 l its.toArray n b its2.toArray n2 hlong (by rw [List.size_toArray]; omega) (by omega)) ⟨e, e2, ?_⟩
  refine ⟨.non, _, I.lset (its' := its ++ its2) hH e (by simp) (r.append r2) ?_, rfl, q⟩
  rw [List.length_append]
  omega
end
section
variable {prog : Program} {w : World} {A : Around} {E : Value → Shared → Prop} {s : Shared}
end
section
variable {X : Cx}
end
end L2
namespace L2
open PySem PySem.Spec PyProof.Rows
theorem Vals.ints : ∀ {ns : List Int} {us : List Value}, Vals (ns.map V.int) us → IntsAre us ns
  | [], us, h => by
    rw [List.map_nil] at h
    cases h
    exact IntsAre.nil
  | n :: ns, us, h => by
    rw [List.map_cons] at h
    cases h with
    | cons r t =>
      obtain ⟨k, rfl⟩ := r
      exact IntsAre.cons n k (Vals.ints t)
theorem vals_of_ints : ∀ {us : List Value} {ns : List Int}, IntsAre us ns → Vals (ns.map V.int) us
  | _, _, .nil => by rw [List.map_nil]; exact Paired.nil
  | _, _, .cons n t h => by rw [List.map_cons]; exact Paired.cons (show RelV (V.int n) (Value.int n t) from ⟨t, rfl⟩) (vals_of_ints h)
theorem Vals.bls : ∀ {bs : List Bool} {us : List Value}, Vals (bs.map V.bl) us → us = bs.map Value.bool
  | [], us, h => by
    rw [List.map_nil] at h
    cases h
    rfl
  | b :: bs, us, h => by
    rw [List.map_cons] at h
    cases h with
    | cons r t =>
      cases r
      rw [Vals.bls t, List.map_cons]
theorem Vals.ref1 {a : Addr} {us : List Value} (r : Vals [V.ref a] us) : us = [Value.ref a] := by
  cases r with
  | cons r t =>
    cases t
    cases r
    rfl
section
variable {prog : Program} {w : World} {A : Around} {E : Value → Shared → Prop} {s : Shared} {l : Addr} {its : List Value} {ns : List Int} {Q : Value → Shared → Prop}
end
section
variable {X : Cx}
end
section
variable {X : Cx}
end
section
variable {X : Cx}
end
theorem iter_any {prog : Program} {w : World} {A : Around} {E : Value → Shared → Prop} {s : Shared} {l : Addr} {items : Array Value} {Q : Value → Shared → Prop} (hl : s.heap.IsList l items)
    (h : ∀ s₂ : Shared, s₂ = { s with heap := s.heap.push { cls := .type "list_iterator", data := .fields #[.ref l, .int 0 0] } } →
      (s₂.heap.IsListIter s.heap.objs.size l 0 ∧ s₂.heap.IsList l items) → l ≠ s.heap.objs.size → Q (.ref s.heap.objs.size) s₂) : wpAny (model prog w) A (pyIter (.ref l)) Q E s := by
  have hlt : l < s.heap.objs.size := by obtain ⟨_, e, _⟩ := hl; exact Heap.lt_size e
  exact wpAny_pyIter_list hl (h _ rfl ⟨⟨_, Heap.get?_push_size _ rfl, rfl, rfl⟩, hl.push _⟩ (Nat.ne_of_lt hlt))
theorem truth_bools {prog : Program} {w : World} {A : Around} {bs : List Bool} {its : List Value} (e : its = bs.map Value.bool) :
    TruthOf prog w A (fun i v => its.toArray[i]? = some v) (fun i => bs.getD i false) := fun i v s Q E hv hq => by
  have hv' : its[i]? = some v := by simpa using hv
  rw [e, List.getElem?_map] at hv'
  obtain ⟨b, hb, rfl⟩ := Option.map_eq_some_iff.mp hv'
  have hg : bs.getD i false = b := by rw [List.getD_eq_getElem?_getD, hb] <;> rfl
  have hq' : Q (bs.getD i false) s := hq
  rw [hg] at hq'
  exact wpAny_truthy_bool hq'
theorem any_range : ∀ bs : List Bool, (List.range bs.length).any (fun i => bs.getD i false) = bs.any id
  | [] => rfl
  | b :: bs => by
    rw [List.length_cons, List.range_succ_eq_map, List.any_cons, List.any_map, List.any_cons, ← any_range bs]
    all_goals rfl
section
variable {X : Cx}
def rAny (K : PySem.W.Frag) : List V → Hp → VK → Prop := fun vs H Q => ∃ (a : Addr) (bs : List Bool), vs = [V.ref a] ∧ SqL K H a (bs.map V.bl) ∧ Q (.bl (bs.any id)) H
theorem cr_any (hc : X.calm = true) : CallR X (.builtin "any") (rAny X.K) := by
  intro pins s σ H vs us Q I r h
  obtain ⟨a, bs, rfl, hs, q⟩ := h
  obtain ⟨its, rv, hl, _⟩ := I.list hs
  rw [Vals.ref1 r]
  have hb := rv.bls
  refine call_any_walk (iter_any hl.isList fun s₂ e2 st hne => ?_)
  subst e2
  refine ⟨_, _, _, _, _, _, _, rfl, Walks.list (A := X.A.in1) (I.ok.hd hc) _ a hne its.toArray, st, truth_bools hb, fun h' tk hk => ?_⟩
  refine ⟨.bl _, H, I.kept fun b o eo => hk b o (fun hmem => ?_) (Heap.get?_push_of_some _ eo), ?_, q⟩
  · rcases List.mem_cons.mp hmem with e1 | hmem
    · exact absurd (e1 ▸ Heap.lt_size eo) (Nat.lt_irrefl _)
    · cases hmem
  · show Value.bool _ = Value.bool _
    rw [← any_range, hb, List.size_toArray, List.length_map]
end
mutual
inductive Dp (K : PySem.W.Frag) (H : Hp) : V → PyData → Prop
  | non : Dp K H .non .none
  | bl (b : Bool) : Dp K H (.bl b) (.bool b)
  | int (i : Int) : Dp K H (.int i) (.int i)
  | str (x : Str) : Dp K H (.str x) (.str x)
  | lst {a : Addr} {xs : List V} {ds : List PyData} : SqL K H a xs → DpAll K H xs ds → Dp K H (.ref a) (.list ds)
  | tup {a : Addr} {xs : List V} {ds : List PyData} : SqT K H a xs → DpAll K H xs ds → Dp K H (.ref a) (.tuple ds)
inductive DpAll (K : PySem.W.Frag) (H : Hp) : List V → List PyData → Prop
  | nil : DpAll K H [] []
  | cons {v : V} {vs : List V} {d : PyData} {ds : List PyData} : Dp K H v d → DpAll K H vs ds → DpAll K H (v :: vs) (d :: ds)
end
section
variable {X : Cx} {pins : List (Addr × Obj)} {σ : St} {H : Hp} {s : Shared}
mutual
theorem Dp.reads (I : Inv X pins σ H s) : ∀ (d : PyData) (v : V) (u : Value), Dp X.K H v d → RelV v u → ∃ as, Reads s.heap u d as
  | .none, _, _, h, r => by
    cases h
    cases r
    exact ⟨_, Reads.none⟩
  | .bool b, _, _, h, r => by
    cases h
    cases r
    exact ⟨_, Reads.bool b⟩
  | .int i, _, _, h, r => by
    cases h
    obtain ⟨t, rfl⟩ := r
    exact ⟨_, Reads.int i t⟩
  | .str x, _, _, h, r => by
    cases h
    obtain ⟨t, rfl⟩ := r
    exact ⟨_, Reads.str x t⟩
  | .list ds, _, _, h, r => by
    cases h with
    | lst hs ha =>
      cases r
      obtain ⟨its, rv, ⟨o, n, ho, hc, _, hd⟩, _⟩ := I.list hs
      obtain ⟨as, hr⟩ := Dp.readsAll I ds _ its ha rv
      exact ⟨_, Reads.list ho hc hd hr⟩
  | .tuple ds, _, _, h, r => by
    cases h with
    | tup hs ha =>
      cases r
      obtain ⟨its, rv, ⟨o, ho, hc, n, hd⟩, _⟩ := I.tuple hs
      obtain ⟨as, hr⟩ := Dp.readsAll I ds _ its ha rv
      exact ⟨_, Reads.tuple ho hc hd hr⟩
  | .dict _, _, _, h, _ => by cases h
theorem Dp.readsAll (I : Inv X pins σ H s) : ∀ (ds : List PyData) (vs : List V) (us : List Value), DpAll X.K H vs ds → Vals vs us → ∃ as, ReadsAll s.heap us ds as
  | [], _, _, h, r => by
    cases h
    cases r
    exact ⟨_, ReadsAll.nil⟩
  | d :: ds, _, _, h, r => by
    cases h with
    | cons h1 h2 =>
      cases r with
      | cons r1 r2 =>
        obtain ⟨as, q1⟩ := Dp.reads I d _ _ h1 r1
        obtain ⟨bs, q2⟩ := Dp.readsAll I ds _ _ h2 r2
        exact ⟨_, ReadsAll.cons q1 q2⟩
end
end
section
variable {X : Cx}
end
end L2
namespace L2
open PySem PySem.Spec PyProof.Rows
abbrev CellAt (h : Heap) (c : Addr) (v : Option Value) : Prop := h.IsCell c v
def relS (scope sc : Scope) : Scope :=
  { scope with names := scope.names.map fun (n, k) => if (k == .free && sc.kind == .function && sc.names.lookup n == some .cell) then (n, .cell) else (n, k) }
def cloFrom (cells : List (Str × Addr)) : List (Str × NameKind) → List (Str × Addr) → List (Str × Addr)
  | [], acc => acc
  | (n, k) :: r, acc => if k == .free then cloFrom cells r ((n, (cells.lookup n).getD 0) :: acc) else cloFrom cells r acc
theorem closure_loop (env : Env) (f : Str × NameKind → List (Str × Addr) → Sem (ForInStep (List (Str × Addr))))
    (hf : ∀ n k c, f (n, k) c = if k == .free then (do let a ← cellOf env n; pure (.yield ((n, a) :: c))) else pure (.yield c)) :
    ∀ (names : List (Str × NameKind)) (acc : List (Str × Addr)), (∀ y ∈ names, y.2 = .free → ∃ c, env.cells.lookup y.1 = some c) → forIn names acc f = pure (cloFrom env.cells names acc)
  | [], acc, _ => by rw [List.forIn_nil]; rfl
  | (n, k) :: r, acc, h => by
    rw [List.forIn_cons, hf]
    have ih := fun acc => closure_loop env f hf r acc fun y hy => h y (List.mem_cons_of_mem _ hy)
    unfold cloFrom
    by_cases hk : (k == NameKind.free) = true
    · rw [if_pos hk, if_pos hk]
      obtain ⟨c, hc⟩ := h (n, k) List.mem_cons_self (by simpa using hk)
      have e : cellOf env n = pure c := by unfold cellOf; rw [hc]
      rw [e]
      have e2 : (env.cells.lookup n).getD 0 = c := by rw [hc]; rfl
      rw [e2]
      exact ih _
    · rw [if_neg hk, if_neg hk]
      exact ih _
theorem closure_ok {scope : Scope} {env : Env} (h : ∀ y ∈ scope.names, y.2 = .free → ∃ c, env.cells.lookup y.1 = some c) : closureFor scope env = pure (cloFrom env.cells scope.names []) := by
  simp only [closureFor]
  rw [closure_loop env _ (fun n k c => rfl) scope.names [] h]
  rfl
theorem mem_lookup {α : Type} : ∀ {l : List (Str × α)} {n : Str} {c : α}, (n, c) ∈ l → ∃ c', l.lookup n = some c'
  | (k, v) :: r, n, c, h => by
    rw [List.lookup_cons]
    cases hb : n == k with
    | true => exact ⟨_, rfl⟩
    | false =>
      rcases List.mem_cons.mp h with e | h
      · cases e; simp at hb
      · exact mem_lookup h
theorem cloFrom_mem {cells : List (Str × Addr)} : ∀ {names : List (Str × NameKind)} {acc : List (Str × Addr)} {n : Str} {c : Addr}, (n, c) ∈ cloFrom cells names acc → (n, c) ∈ acc ∨ ((n, .free) ∈ names ∧ c = (cells.lookup n).getD 0)
  | [], _, _, _, h => .inl h
  | (m, k) :: r, acc, n, c, h => by
    unfold cloFrom at h
    split at h
    · rename_i hk
      have hk : k = .free := by simpa using hk
      rcases cloFrom_mem h with h | ⟨h1, h2⟩
      · rcases List.mem_cons.mp h with e | h
        · cases e; exact .inr ⟨hk ▸ List.mem_cons_self, rfl⟩
        · exact .inl h
      · exact .inr ⟨List.mem_cons_of_mem _ h1, h2⟩
    · rcases cloFrom_mem h with h | ⟨h1, h2⟩
      · exact .inl h
      · exact .inr ⟨List.mem_cons_of_mem _ h1, h2⟩
theorem cloFrom_acc {cells : List (Str × Addr)} : ∀ {names : List (Str × NameKind)} {acc : List (Str × Addr)} {p : Str × Addr}, p ∈ acc → p ∈ cloFrom cells names acc
  | [], _, _, h => h
  | (m, k) :: r, acc, p, h => by
    unfold cloFrom
    split
    · exact cloFrom_acc (List.mem_cons_of_mem _ h)
    · exact cloFrom_acc h
theorem cloFrom_has {cells : List (Str × Addr)} : ∀ {names : List (Str × NameKind)} {acc : List (Str × Addr)} {n : Str}, (n, .free) ∈ names → (n, (cells.lookup n).getD 0) ∈ cloFrom cells names acc
  | (m, k) :: r, acc, n, h => by
    unfold cloFrom
    rcases List.mem_cons.mp h with e | h
    · cases e
      exact cloFrom_acc List.mem_cons_self
    · split
      · exact cloFrom_has h
      · exact cloFrom_has h
theorem cells_mem : ∀ {names : List (Str × NameKind)} {h : Heap} {acc : List (Str × Addr)} {x : Str} {c : Addr}, (x, c) ∈ cellsFrom h.objs.size names acc →
    (x, c) ∈ acc ∨ ((x, .cell) ∈ names ∧ h.objs.size ≤ c ∧ CellAt (pushCells h names) c none)
  | [], _, _, _, _, h => .inl h
  | (n, k) :: r, h, acc, x, c, hm => by
    unfold cellsFrom at hm
    unfold pushCells
    split at hm
    · rename_i hk
      rw [if_pos hk]
      have hk : k = .cell := by simpa using hk
      rw [← Heap.size_push h { cls := .type "cell", data := .cell none }] at hm
      rcases cells_mem hm with hm | ⟨h1, h2, h3⟩
      · rcases List.mem_cons.mp hm with e | hm
        · cases e
          exact .inr ⟨hk ▸ List.mem_cons_self, Nat.le_refl _, _, pushCells_keeps r _ _ _ (Heap.get?_push_size _ rfl), rfl⟩
        · exact .inl hm
      · rw [Heap.size_push] at h2
        exact .inr ⟨List.mem_cons_of_mem _ h1, Nat.le_of_succ_le h2, h3⟩
    · rename_i hk
      rw [if_neg hk]
      rcases cells_mem hm with hm | ⟨h1, h2, h3⟩
      · exact .inl hm
      · exact .inr ⟨List.mem_cons_of_mem _ h1, h2, h3⟩
theorem cells_acc : ∀ {names : List (Str × NameKind)} {n : Nat} {acc : List (Str × Addr)} {p : Str × Addr}, p ∈ acc → p ∈ cellsFrom n names acc
  | [], _, _, _, h => h
  | (m, k) :: r, n, acc, p, h => by
    unfold cellsFrom
    split
    · exact cells_acc (List.mem_cons_of_mem _ h)
    · exact cells_acc h
theorem cells_has : ∀ {names : List (Str × NameKind)} {n : Nat} {acc : List (Str × Addr)} {x : Str}, (x, .cell) ∈ names → ∃ c, (x, c) ∈ cellsFrom n names acc
  | (m, k) :: r, n, acc, x, h => by
    unfold cellsFrom
    rcases List.mem_cons.mp h with e | h
    · cases e
      exact ⟨n, cells_acc List.mem_cons_self⟩
    · split
      · exact cells_has h
      · exact cells_has h
theorem cells_inj : ∀ {names : List (Str × NameKind)} {h : Heap} {acc : List (Str × Addr)} {x y : Str} {c : Addr}, (∀ p ∈ acc, p.2 < h.objs.size) → (∀ x y c, (x, c) ∈ acc → (y, c) ∈ acc → x = y) →
    (x, c) ∈ cellsFrom h.objs.size names acc → (y, c) ∈ cellsFrom h.objs.size names acc → x = y
  | [], _, _, _, _, _, _, hi, h1, h2 => hi _ _ _ h1 h2
  | (n, k) :: r, h, acc, x, y, c, hl, hi, h1, h2 => by
    unfold cellsFrom at h1 h2
    split at h1
    · rename_i hk
      rw [if_pos hk] at h2
      rw [← Heap.size_push h { cls := .type "cell", data := .cell none }] at h1 h2
      refine cells_inj (h := h.push _) (fun p hp => ?_) (fun x y c a b => ?_) h1 h2
      · rw [Heap.size_push]
        rcases List.mem_cons.mp hp with rfl | hp
        · exact Nat.lt_succ_self _
        · exact Nat.lt_succ_of_lt (hl p hp)
      · rcases List.mem_cons.mp a with e | a <;> rcases List.mem_cons.mp b with e' | b
        · cases e; cases e'; rfl
        · cases e; exact absurd (hl _ b) (Nat.lt_irrefl _)
        · cases e'; exact absurd (hl _ a) (Nat.lt_irrefl _)
        · exact hi _ _ _ a b
    · rename_i hk
      rw [if_neg hk] at h2
      exact cells_inj hl hi h1 h2
theorem newEnv_comp {M : Model} {A : Around} {E : Value → Shared → Prop} {s : Shared} {scope : Scope} {globals : Addr} {closure : List (Str × Addr)} {qual : Str} {func : Option Addr} {code : Value} {around : Env} {builtins : Addr} {Q : Env → Shared → Prop}
    (h : Q (newEnv scope s.heap.objs.size globals (cellsFrom (s.heap.objs.size + 1) scope.names closure) qual func code (some around) builtins)
      { s with heap := pushCells (s.heap.push { cls := .type "dict", data := .dict #[] }) scope.names }) :
    wpAny M A (newFunctionEnv scope globals closure [] qual func code (some around) builtins) Q E s := by
  simp only [newFunctionEnv, Option.isSome_some, if_true]
  refine wpAny_bind (wpAny_alloc ?_)
  refine wpAny_bind (wpAny_layCells _ (fun n k c => rfl) scope.names closure _ _ ?_)
  rw [show ({ s with heap := s.heap.push { cls := .type "dict", data := .dict #[] } } : Shared).heap.objs.size = s.heap.objs.size + 1 from Heap.size_push ..]
  rw [List.forIn_nil]
  exact wpAny_bind (wpAny_pure (wpAny_pure h))
theorem lookup_relS {sc : Scope} : ∀ {names : List (Str × NameKind)} {x : Str} {k : NameKind},
    (names.map fun (n, k) => if (k == NameKind.free && sc.kind == .function && sc.names.lookup n == some .cell) then (n, NameKind.cell) else (n, k)).lookup x = some k →
    ∃ k', names.lookup x = some k' ∧ (k = k' ∨ (k' = .free ∧ k = .cell))
  | [], _, _, h => by simp at h
  | (n, k₀) :: r, x, k, h => by
    have ih := @lookup_relS sc r x k
    have h' : List.lookup x ((if (k₀ == NameKind.free && sc.kind == .function && sc.names.lookup n == some .cell) = true then (n, NameKind.cell) else (n, k₀)) :: (r.map _)) = some k := h
    cases hx : x == n with
    | true =>
      simp only [List.lookup_cons, hx]
      by_cases hc : (k₀ == NameKind.free && sc.kind == .function && sc.names.lookup n == some .cell) = true
      · rw [if_pos hc] at h'
        simp only [List.lookup_cons, hx] at h'
        cases h'
        simp only [Bool.and_eq_true, beq_iff_eq] at hc
        exact ⟨k₀, rfl, .inr ⟨hc.1.1, rfl⟩⟩
      · rw [if_neg hc] at h'
        simp only [List.lookup_cons, hx] at h'
        cases h'
        exact ⟨_, rfl, .inl rfl⟩
    | false =>
      simp only [List.lookup_cons, hx]
      by_cases hc : (k₀ == NameKind.free && sc.kind == .function && sc.names.lookup n == some .cell) = true
      · rw [if_pos hc] at h'
        simp only [List.lookup_cons, hx] at h'
        exact ih h'
      · rw [if_neg hc] at h'
        simp only [List.lookup_cons, hx] at h'
        exact ih h'
structure BlkOk (N : List Str) (sc scope : Scope) (own : List (Str × Nat)) : Prop where
  kind : scope.kind = .function
  uniq : ∀ y ∈ scope.names, scope.names.lookup y.1 = some y.2
  ix : ∀ p ∈ own, N[p.2]? = some p.1
  free : ∀ y ∈ scope.names, y.2 = .free → sc.names.lookup y.1 = some .cell ∨ sc.names.lookup y.1 = some .free
  own : ∀ y ∈ scope.names, y.2 = .local ∨ y.2 = .cell → y.1 ∈ own.map (·.1) ∨ y.1 ∉ N
def wipe (σ : St) : List Nat → St
  | [] => σ
  | v :: vs => (wipe σ vs).set v none
theorem wipe_length (σ : St) : ∀ vs : List Nat, (wipe σ vs).length = σ.length
  | [] => rfl
  | v :: vs => by unfold wipe; rw [List.length_set, wipe_length σ vs]
theorem wipe_some {σ : St} {i : Nat} {x : V} : ∀ {vs : List Nat}, (wipe σ vs)[i]? = some (some x) → σ[i]? = some (some x) ∧ i ∉ vs
  | [], h => ⟨h, by simp⟩
  | v :: vs, h => by
    unfold wipe at h
    by_cases hi : v = i
    · subst hi
      by_cases hv : v < (wipe σ vs).length
      · rw [List.getElem?_set_self hv] at h; cases h
      · rw [List.getElem?_eq_none (by simpa using hv)] at h; cases h
    · rw [List.getElem?_set_ne hi] at h
      obtain ⟨h1, h2⟩ := wipe_some h
      exact ⟨h1, by simp only [List.mem_cons, not_or]; exact ⟨fun e => hi e.symm, h2⟩⟩
abbrev Cx.blk (X : Cx) (s : Shared) (H : Hp) (scope : Scope) (cenv : Env) (fp : List Addr) : Cx := { X with s₀ := s, H₀ := H, env := cenv, outer := X.stack, ex := fp, fn := fun x => scope.names.lookup x == some .cell, pn := [], xe := fun _ _ => False }
section
variable {X : Cx} {pins : List (Addr × Obj)} {σ : St} {H : Hp} {s : Shared}
theorem block_start {scope : Scope} {own : List (Str × Nat)} {fp : List Addr} (I : Inv X pins σ H s) (ok : BlkOk X.N X.env.scope scope own) (hN : X.N.Nodup) (hfp : ∀ b ∈ fp, FpOk X pins H b ∧ b < s.heap.objs.size) :
    Inv (X.blk s H scope (compEnvC scope (cellsFrom (s.heap.objs.size + 1) scope.names (cloFrom X.env.cells scope.names [])) s.heap.objs.size X.env) fp) [] (wipe σ (own.map (·.2))) H { s with heap := pushCells (s.heap.push { cls := .type "dict", data := .dict #[] }) scope.names } := by
  have hfree : ∀ y ∈ scope.names, y.2 = .free → ∃ c, X.env.cells.lookup y.1 = some c := fun y hy e => by
    rcases ok.free y hy e with k | k
    · exact I.ok.has _ (.inl k)
    · exact I.ok.has _ (.inr k)
  generalize hcenv : compEnvC scope (cellsFrom (s.heap.objs.size + 1) scope.names (cloFrom X.env.cells scope.names [])) s.heap.objs.size X.env = cenv
  have kp : ∀ b o, s.heap.get? b = some o → (pushCells (s.heap.push { cls := .type "dict", data := .dict #[] }) scope.names).get? b = some o := fun b o e => pushCells_keeps _ _ _ _ (Heap.get?_push_of_some _ e)
  have hL : cenv.locals = s.heap.objs.size := by rw [← hcenv]; rfl
  have hcl : cenv.cells = cellsFrom (s.heap.objs.size + 1) scope.names (cloFrom X.env.cells scope.names []) := by rw [← hcenv]; rfl
  have hsc : cenv.scope = relS scope X.env.scope := by rw [← hcenv]; rfl
  rw [← Heap.size_push s.heap { cls := .type "dict", data := .dict #[] }] at hcl
  have cm : ∀ {y c}, (y, c) ∈ cloFrom X.env.cells scope.names [] → X.env.cells.lookup y = some c ∧ c < s.heap.objs.size := fun {y c} hm => by
    rcases cloFrom_mem hm with hm | ⟨h1, rfl⟩
    · cases hm
    · obtain ⟨c, hc⟩ := hfree _ h1 rfl
      rw [hc]
      obtain ⟨w, z⟩ := I.cell _ _ hc
      exact ⟨rfl, z.lt⟩
  have mem : ∀ {y c}, cenv.cells.lookup y = some c → (X.env.cells.lookup y = some c ∧ c < s.heap.objs.size) ∨ (s.heap.objs.size + 1 ≤ c ∧ CellAt (pushCells (s.heap.push { cls := .type "dict", data := .dict #[] }) scope.names) c none) := fun {y c} e => by
    rw [hcl] at e
    rcases cells_mem (PySem.mem_of_lookup e) with hm | ⟨_, h2, h3⟩
    · exact .inl (cm hm)
    · rw [Heap.size_push] at h2; exact .inr ⟨h2, h3⟩
  have look : ∀ {y}, scope.names.lookup y = some .free → ∃ c, cenv.cells.lookup y = some c ∧ X.env.cells.lookup y = some c := fun {y} hl => by
    have hy : (y, NameKind.free) ∈ scope.names := PySem.mem_of_lookup hl
    obtain ⟨c', e'⟩ := mem_lookup (cells_acc (names := scope.names) (n := (s.heap.push { cls := .type "dict", data := .dict #[] }).objs.size) (cloFrom_has (cells := X.env.cells) (acc := []) hy))
    rw [← hcl] at e'
    refine ⟨c', e', ?_⟩
    rw [hcl] at e'
    rcases cells_mem (PySem.mem_of_lookup e') with hm | ⟨h1, _, _⟩
    · exact (cm hm).1
    · have := ok.uniq _ h1
      rw [hl] at this; cases this
  have okB : (X.blk s H scope cenv fp).Ok := by
    refine ⟨I.ok.mod, by show cenv.scope.kind = _; rw [hsc]; exact ok.kind, by show cenv.globals = _; rw [← hcenv]; exact I.ok.glob, by show cenv.builtins = _; rw [← hcenv]; exact I.ok.blt, by show s.heap.objs.size ≤ cenv.locals; rw [hL]; exact Nat.le_refl _,
      fun y z c e1 e2 => ?_, fun y hy => ?_, fun y c z e => ?_, I.ok.hd, I.ok.frames, .inl rfl, fun b hb => ⟨?_, fun y c e z => ?_⟩, I.bs, Nat.le_trans I.ok.bsz I.sz, fun b o e hb => ?_, fun b hb z => ?_, I.stack, I.stkFree⟩
    · have e1 : cenv.cells.lookup y = some c := e1
      have e2 : cenv.cells.lookup z = some c := e2
      rw [hcl] at e1 e2
      refine cells_inj (fun p hp => ?_) (fun y z c a b => I.ok.inj y z c (cm a).1 (cm b).1) (PySem.mem_of_lookup e1) (PySem.mem_of_lookup e2)
      rw [Heap.size_push]
      exact Nat.lt_succ_of_lt (cm (y := p.1) (c := p.2) hp).2
    · show ∃ c, cenv.cells.lookup y = some c
      have key : ∀ k, cenv.kindOf y = some k → (k = .cell ∨ k = .free) → ∃ c, cenv.cells.lookup y = some c := fun k hk hk' => by
        unfold Env.kindOf at hk
        rw [hsc] at hk
        obtain ⟨k', e, r⟩ := lookup_relS hk
        have : k' = .cell ∨ k' = .free := by
          rcases r with rfl | ⟨rfl, _⟩
          · exact hk'
          · exact .inr rfl
        rcases this with rfl | rfl
        · obtain ⟨c, hm⟩ := cells_has (n := (s.heap.push { cls := .type "dict", data := .dict #[] }).objs.size) (acc := cloFrom X.env.cells scope.names []) (PySem.mem_of_lookup e)
          obtain ⟨c', e'⟩ := mem_lookup hm
          exact ⟨c', by rw [hcl]; exact e'⟩
        · obtain ⟨c, h1, _⟩ := look e
          exact ⟨c, h1⟩
      rcases hy with hy | hy
      · exact key _ hy (.inl rfl)
      · exact key _ hy (.inr rfl)
    · have z : (scope.names.lookup y == some NameKind.cell) = true := z
      have z : scope.names.lookup y = some .cell := by simpa using z
      have e : cenv.cells.lookup y = some c := e
      rw [hcl] at e
      rcases cells_mem (PySem.mem_of_lookup e) with hm | ⟨_, h2, _⟩
      · rcases cloFrom_mem hm with hm | ⟨h1, _⟩
        · cases hm
        · have q := ok.uniq _ h1
          rw [z] at q; cases q
      · rw [Heap.size_push] at h2
        exact Nat.le_of_succ_le h2
    · show b ≠ cenv.locals
      rw [hL]; exact Nat.ne_of_lt (hfp b hb).2
    · have e : cenv.cells.lookup y = some c := e
      rcases mem e with ⟨h1, _⟩ | ⟨h1, _⟩
      · exact (hfp b hb).1.2.2.2.2.1 y c h1 z
      · have h2 : s.heap.objs.size + 1 ≤ b := by rw [← z]; exact h1
        exact absurd (Nat.lt_of_lt_of_le (hfp b hb).2 (Nat.le_of_succ_le h2)) (Nat.lt_irrefl _)
    · rcases (hfp b hb).1.2.2.2.1 with z | z
      · exact I.ok.noex b o e z
      · exact absurd (Nat.lt_of_lt_of_le (Heap.lt_size e) (Nat.le_trans I.ok.bsz z)) (Nat.lt_irrefl _)
    · rcases List.mem_cons.mp (I.stkSub b z) with z | z
      · exact (hfp b hb).1.2.1 z
      · exact (hfp b hb).1.2.2.1 z
  refine ⟨okB, rfl, I.bare, Un.kept kp, ⟨fun _ => none, ?_, fun i y av e1 e2 e3 => ?_⟩, fun y c e => ?_, ?_, fun y c e => ?_, fun p hp => ?_, I.hok.kept kp, by rw [wipe_length]; exact I.len⟩
  · show Heap.Ns _ cenv.locals _
    rw [hL]
    exact Heap.Ns.keeps (Heap.Ns.new ..) fun b o e => pushCells_keeps _ _ _ _ e
  · obtain ⟨e2, hne⟩ := wipe_some e2
    have hfr : scope.names.lookup y = some .free ∧ (cenv.kindOf y = some .cell ∨ cenv.kindOf y = some .free) := by
      have key : ∀ k, cenv.scope.names.lookup y = some k → k = .local ∨ k = .cell ∨ k = .free → scope.names.lookup y = some .free ∧ (cenv.kindOf y = some .cell ∨ cenv.kindOf y = some .free) := fun k hk hk' => by
        have hk0 := hk
        rw [hsc] at hk
        obtain ⟨k', e, r⟩ := lookup_relS hk
        have no : ¬ (k' = .local ∨ k' = .cell) := fun hh => by
          rcases ok.own _ (PySem.mem_of_lookup e) hh with e' | e'
          · obtain ⟨p, hp, hpy⟩ := List.mem_map.mp e'
            have e3 := ok.ix p hp
            have : p.1 = y := hpy
            rw [this] at e3
            exact hne (List.mem_map.mpr ⟨p, hp, nodup_ix hN e3 e1⟩)
          · exact e' (List.mem_of_getElem? e1)
        rcases r with rfl | ⟨rfl, rfl⟩
        · rcases hk' with rfl | rfl | rfl
          · exact absurd (.inl rfl) no
          · exact absurd (.inr rfl) no
          · exact ⟨e, .inr hk0⟩
        · exact ⟨e, .inl hk0⟩
      have e3 : Vis cenv.scope y := e3
      rcases e3 with e3 | e3 | e3
      · exact key _ e3 (.inl rfl)
      · exact key _ e3 (.inr (.inl rfl))
      · exact key _ e3 (.inr (.inr rfl))
    obtain ⟨m, hn, hl⟩ := I.loc
    have hvis : Vis X.env.scope y := (ok.free _ (PySem.mem_of_lookup hfr.1) rfl).elim (fun k => .inr (.inl k)) (fun k => .inr (.inr k))
    obtain ⟨w, r, q⟩ := hl i y av e1 e2 hvis
    refine ⟨w, r, .inr ⟨hfr.2, ?_⟩⟩
    obtain ⟨c, h1, h2⟩ := look hfr.1
    rcases q with ⟨k, _⟩ | ⟨_, c', e', z⟩
    · have k : X.env.scope.names.lookup y = some .local := k
      rcases ok.free _ (PySem.mem_of_lookup hfr.1) rfl with k' | k' <;> rw [show X.env.scope.names.lookup y = _ from k'] at k <;> cases k
    · rw [h2] at e'; cases e'
      exact ⟨c, h1, z.keeps kp⟩
  · have e : cenv.cells.lookup y = some c := e
    rcases mem e with ⟨h1, _⟩ | ⟨_, z⟩
    · obtain ⟨w, z⟩ := I.cell y c h1
      exact ⟨w, z.keeps kp⟩
    · exact ⟨_, z⟩
  · show H cenv.locals = none
    rw [hL]; exact I.hok.fresh (Nat.le_refl _)
  · have e : cenv.cells.lookup y = some c := e
    rcases mem e with ⟨h1, _⟩ | ⟨h1, _⟩
    · exact I.freeC y c h1
    · exact I.hok.fresh (Nat.le_of_succ_le h1)
  · exact absurd (show p ∈ ([] : List (Addr × Obj)) ++ [] from hp) (by simp)
theorem app_ok {E : Value → Shared → Prop} {D : Addr} {xs : List V} {y : V} {v : Value} {Q : Value → Shared → Prop} (I : Inv X pins σ H s) (hD : H D = some (.lst xs)) (hz : xs.length < sizeLine) (r : RelV y v)
    (h : ∀ s', Inv X pins σ (upd H D (.lst (xs ++ [y]))) s' → Q .none s') : wpAny (model X.prog X.w) X.A (call (.builtin "list.append") [.ref D, v]) Q E s := by
  obtain ⟨hz', its, n, ri, e⟩ := I.hok D _ hD
  have hl := ri.length
  refine append_at (hsz := by rw [List.size_toArray]; omega) e fun h' sb ho' => ?_
  refine h { s with heap := h' } (I.write (t' := s.toks) (by rw [hD]; trivial) (.inl rfl) (fun b u hb q => (sb.2 b hb).trans q) ⟨_, ho'⟩ ⟨by rw [List.length_append]; exact hz, its ++ [v], n + 1, ri.append (.cons r .nil), ?_⟩)
  rw [ho']
  simp
def PTs (X : Cx) (ifs : List Expr) (t : TT) : Prop :=
  ∀ (pins : List (Addr × Obj)) (s : Shared) (σ : St) (H : Hp) (Q : Bool → Hp → Prop), Inv X pins σ H s → t σ H Q →
    wpAny (model X.prog X.w) X.A (forIn ifs true fun c r => if r = true then do let ok ← isTrue c X.env (eval c X.env); pure (ForInStep.yield ok) else pure (ForInStep.yield r)) (TP X pins σ Q) X.xe s
def tYes : TT := fun _ H Q => Q true H
theorem pts_nil : PTs X [] tYes := fun _ _ _ H _ I h => wpAny_tests_nil ⟨H, I, h⟩
end
theorem thnF {α : Type} {t : Sem α} {Q Q' : α → Shared → Prop} {M : Model} {A : Around} {E : Value → Shared → Prop} {s : Shared} (h : wpAny M A t Q (fun _ _ => False) s) (hQ : ∀ a s, Q a s → Q' a s) : wpAny M A t Q' E s := wpAny_mono h hQ fun _ _ z => False.elim z
theorem compLoop_any {prog : Program} {w : World} {A : Around} {R : Result → Shared → Prop} {s : Shared} {elt target iter : Expr} {ifs : List Expr} {scope : Scope} {pos : Pos} {it acc : Value} {env : Env} (I : Nat → Shared → Prop)
    (turn : ∀ n s, I n s → wpAny (model prog w) A (pyNext it) (fun r s₁ => match r with
      | none => R (.ok .next) s₁
      | some v => wpAny (model prog w) A (letOwnedTupleGo target it v) (fun _ s₁' => wpAny (model prog w) A (assign target env v) (fun _ s₂ =>
          wpAny (model prog w) A (forIn ifs true fun c r => if r = true then do let ok ← isTrue c env (eval c env); pure (ForInStep.yield ok) else pure (ForInStep.yield r)) (fun ok s₃ =>
            if ok = true then wpAny (model prog w) A (eval elt env) (fun x s₄ =>
              wpAny (model prog w) A (call (.builtin "list.append") [acc, x]) (fun _ s₅ => ∃ m, m < n ∧ I m s₅) (notedBy (model prog w) A env fun e s' => R (.error e) s') s₄) (notedBy (model prog w) A env fun e s' => R (.error e) s') s₃
            else ∃ m, m < n ∧ I m s₃) (notedBy (model prog w) A env fun e s' => R (.error e) s') s₂) (notedBy (model prog w) A env fun e s' => R (.error e) s') s₁') (notedBy (model prog w) A env fun e s' => R (.error e) s') s₁) (notedBy (model prog w) A env fun e s' => R (.error e) s') s)
    (n : Nat) (h : I n s) :
    codeAny (model prog w) A (.compLoop (.ListComp elt [⟨target, iter, ifs, 0⟩] scope pos) 0 it acc env) R s := by
  refine codeAny_loop rfl I (fun n s hI => ?_) n h
  show wpAny _ A ((compTurn (.ListComp elt [⟨target, iter, ifs, 0⟩] scope pos) 0 it acc env).onRaise (fun x => do noteFrame x env; theTreesLotGoes x)) _ _ s
  refine wpAny_noted ?_
  rw [compTurn_list]
  refine wpAny_bind (wpAny_standAt (wpAny_bind (wpAny_mono (turn n s hI) (fun r s₁ h₁ => ?_) fun _ _ h' => h')))
  cases r with
  | none => exact wpAny_pure h₁
  | some v =>
    refine wpAny_bind (wpAny_mono h₁ (fun _ s₁' h₁' => ?_) fun _ _ h' => h')
    refine wpAny_bind (wpAny_mono h₁' (fun _ s₂ h₂ => wpAny_bind (wpAny_mono h₂ (fun ok s₃ h₃ => ?_) fun _ _ h' => h')) fun _ _ h' => h')
    cases ok with
    | false => exact wpAny_pure ⟨rfl, h₃⟩
    | true =>
      exact wpAny_bind (wpAny_bind (wpAny_mono h₃ (fun x s₄ h₄ => wpAny_bind (wpAny_mono h₄ (fun _ s₅ h₅ => wpAny_pure (wpAny_pure ⟨rfl, h₅⟩)) fun _ _ h' => h')) fun _ _ h' => h'))
section
variable {X : Cx}
def tLc (wi : TI) (g : TG) (tt : TT) (te : TE) (vs : List Nat) : TE := fun σ H Q => wi σ H fun J H1 => ∀ D, H1 D = none → ∃ W : Nat → Nat → Hp → Prop, (∃ m, W 0 m (upd H1 D (.lst []))) ∧ ∀ i m H, W i m H →
  (J.stop i H ∧ Q (.ref D) H) ∨ (J.go i H ∧ ∃ Nx : Hp → Prop, (∀ H', Nx H' → ∃ m', m' < m ∧ W (i + 1) m' H') ∧ ∀ x H', J.yld i H x H' → g x (wipe σ vs) H' fun σ2 H2 => wipe σ2 vs = wipe σ vs ∧ tt σ2 H2 fun b H3 =>
    if b = true then te σ2 H3 fun y H4 => ∃ acc, H4 D = some (.lst acc) ∧ acc.length < sizeLine ∧ Nx (upd H4 D (.lst (acc ++ [y]))) else Nx H3)
theorem lc_core {pins : List (Addr × Obj)} {s : Shared} {σ : St} {H : Hp} {Q : VK} {elt tg iter : Expr} {ifs : List Expr} {scope : Scope} {own : List (Str × Nat)} {pos pos' : Pos} {wi : TI} {g : TG} {tt : TT} {te : TE} {use : Option (Value → Sem Unit)} {Qf : Value → Shared → Prop}
    (hc : X.calm = true) (hN : X.N.Nodup) (I : Inv X pins σ H s) (hi : PI X tg iter wi) (ok : BlkOk X.N X.env.scope scope own)
    (hg : ∀ (s : Shared) (H : Hp) (C : Addr) (cl : List (Str × Addr)) (fp : List Addr), PG (X.blk s H scope (compEnvC scope cl C X.env) fp) tg g) (ht : ∀ (s : Shared) (H : Hp) (C : Addr) (cl : List (Str × Addr)) (fp : List Addr), PTs (X.blk s H scope (compEnvC scope cl C X.env) fp) ifs tt)
    (he : ∀ (s : Shared) (H : Hp) (C : Addr) (cl : List (Str × Addr)) (fp : List Addr), PE (X.blk s H scope (compEnvC scope cl C X.env) fp) elt te) (hs : ∀ x, foldedSetIterable iter X.env x = pure x)
    (h : tLc wi g tt te (own.map (·.2)) σ H Q)
    (hRR : ∀ D C s' m H', Inv X pins σ H' s' → Q (.ref D) H' → s'.heap.Ns C m → FpOk X pins H' C → compPost (model X.prog X.w) X.A X.xe use Qf (.ref D) C (.ok .next) s') :
    wpAny (model X.prog X.w) X.A (comprehension (.ListComp elt [⟨tg, iter, ifs, 0⟩] scope pos) scope X.env pos' (newList []) false (eval iter X.env) use) Qf X.xe s := by
  have hfree : ∀ y ∈ scope.names, y.2 = .free → ∃ c, X.env.cells.lookup y.1 = some c := fun y hy e => by
    rcases ok.free y hy e with k | k
    · exact I.ok.has _ (.inl k)
    · exact I.ok.has _ (.inr k)
  refine wpAny_comprehension_free (use := use) rfl hs (closure_ok hfree) ok.kind (fun y hy e => by rw [ok.uniq y hy, e])
    (thn (hi pins s σ H _ I h) fun xv s1 hx => thn hx fun itv s2 h2 => ?_)
  obtain ⟨it, fp, tn, J, H2, e, I2, T, st2, f2, q⟩ := h2
  subst e
  refine wpAny_newObj_type (newEnv_comp ?_) (by show 0 ≤ sizeLine; decide)
  generalize hD : s2.heap.objs.size = D
  have hDn : H2 D = none := I2.hok.fresh (Nat.le_of_eq hD)
  obtain ⟨W, ⟨m0, w0⟩, turn⟩ := q D hDn
  generalize hs3 : ({ s2 with heap := s2.heap.push { cls := .type "list", data := .seq ([] : List Value).toArray } } : Shared) = s3
  have I3 : Inv X pins σ (upd H2 D (.lst [])) s3 := by
    rw [← hs3]
    refine I2.laid (t' := s2.toks) (fun b o e => Heap.get?_push_of_some _ e) (Nat.le_of_eq hD) ⟨Nat.zero_le _, [], 0, .nil, ?_⟩
    rw [← hD]
    exact Heap.get?_push_size _ rfl
  have h3 : s3.heap = s2.heap.push { cls := .type "list", data := .seq ([] : List Value).toArray } := by rw [← hs3]
  have sz : ∀ b ∈ fp, b < s2.heap.objs.size := fun b hb => by
    obtain ⟨o, e, _⟩ := T.obj _ _ st2 b hb
    exact Heap.lt_size e
  have f3 : ∀ b ∈ fp, FpOk X pins (upd H2 D (.lst [])) b ∧ b < s3.heap.objs.size := fun b hb => by
    have hlt := sz b hb
    refine ⟨⟨?_, (f2 b hb).2⟩, by rw [h3, Heap.size_push]; exact Nat.lt_succ_of_lt hlt⟩
    rw [upd_ne (by rw [← hD]; exact Nat.ne_of_lt hlt)]
    exact (f2 b hb).1
  have st3 : tn 0 s3.heap := T.keep _ _ _ st2 fun b _ o e => by rw [h3]; exact Heap.get?_push_of_some _ e
  have I4 := block_start I3 ok hN f3
  have pg := hg s3 (upd H2 D (.lst [])) s3.heap.objs.size (cellsFrom (s3.heap.objs.size + 1) scope.names (cloFrom X.env.cells scope.names [])) fp
  have pt := ht s3 (upd H2 D (.lst [])) s3.heap.objs.size (cellsFrom (s3.heap.objs.size + 1) scope.names (cloFrom X.env.cells scope.names [])) fp
  have pe := he s3 (upd H2 D (.lst [])) s3.heap.objs.size (cellsFrom (s3.heap.objs.size + 1) scope.names (cloFrom X.env.cells scope.names [])) fp
  show codeAny _ _ (.compStart (.ListComp elt [⟨tg, iter, ifs, 0⟩] scope pos) 0 (.ref it) (.ref D) (compEnvC scope (cellsFrom (s3.heap.objs.size + 1) scope.names (cloFrom X.env.cells scope.names [])) s3.heap.objs.size X.env)) (compPost (model X.prog X.w) X.A X.xe use Qf (.ref D) s3.heap.objs.size) { s3 with heap := pushCells (s3.heap.push { cls := .type "dict", data := .dict #[] }) scope.names }
  have nfp : ∀ b ∈ fp, (upd H2 D (.lst [])) b = none := fun b hb => (f3 b hb).1.1
  generalize hce : compEnvC scope (cellsFrom (s3.heap.objs.size + 1) scope.names (cloFrom X.env.cells scope.names [])) s3.heap.objs.size X.env = ce at I4 pg pt pe ⊢
  have cL : ce.locals = s3.heap.objs.size := by subst hce; rfl
  generalize hH3 : upd H2 D (.lst []) = H3 at I3 I4 pg pt pe w0 nfp f3
  generalize hs4 : ({ s3 with heap := pushCells (s3.heap.push { cls := .type "dict", data := .dict #[] }) scope.names } : Shared) = s4 at I4 ⊢
  have st4 : tn 0 s4.heap := T.keep _ _ _ st3 fun b _ o e => by rw [← hs4]; exact pushCells_keeps _ _ _ _ (Heap.get?_push_of_some _ e)
  have stat : ∀ {σ' : St} {H' : Hp} {s' : Shared}, Inv (X.blk s3 H3 scope ce fp) [] σ' H' s' → (∀ b ∈ fp, H' b = none) → ∀ b ∈ fp, FpOk (X.blk s3 H3 scope ce fp) [] H' b := fun {σ' H' s'} I' hn b hb =>
    ⟨hn b hb, (I'.ok.exf b hb).1, I'.ok.exfs b hb, .inl hb, fun x c e => (I'.ok.exf b hb).2 x c e, fun p hp => absurd (show p ∈ ([] : List (Addr × Obj)) ++ [] from hp) (by simp)⟩
  have loop : codeAny (model X.prog X.w) X.A (.compLoop (.ListComp elt [⟨tg, iter, ifs, 0⟩] scope pos) 0 (.ref it) (.ref D) ce) (compPost (model X.prog X.w) X.A X.xe use Qf (.ref D) s3.heap.objs.size) s4 := by
    refine compLoop_any (fun n s' => ∃ i H', Inv (X.blk s3 H3 scope ce fp) [] (wipe σ (own.map (·.2))) H' s' ∧ tn i s'.heap ∧ (∀ b ∈ fp, H' b = none) ∧ W i n H') ?_ m0 ⟨0, H3, I4, st4, nfp, w0⟩
    rintro n s5 ⟨i, H5, I5, st5, n5, w5⟩
    rcases turn i n H5 w5 with ⟨stop, qq⟩ | ⟨go, Nx, hNx, step⟩
    · have td := T.done (X.blk s3 H3 scope ce fp) rfl rfl rfl hc i [] s5 _ H5 (fun _ _ => False) I5 (stat I5 n5) st5 stop
      refine thnF td fun r s6 ⟨hr, I6⟩ => ?_
      subst hr
      have I7 : Inv X pins σ H5 s6 := I3.call' (ch := fp) I6.os I6.base I6.hok I6.bare fun b hb => ⟨(f3 b hb).1.2.2.2.1, (f3 b hb).1.2.1, (f3 b hb).1.2.2.2.2.1, (f3 b hb).1.2.2.2.2.2⟩
      have nC : H5 s3.heap.objs.size = none := by
        have z : H5 ce.locals = none := I6.free
        rw [cL] at z
        exact z
      obtain ⟨m, hn, _⟩ := I6.loc
      have hn : s6.heap.Ns ce.locals m := hn
      rw [cL] at hn
      exact hRR D s3.heap.objs.size s6 m H5 I7 qq hn (I3.fpOk (Nat.le_refl _) nC)
    · have ti := T.item (X.blk s3 H3 scope ce fp) rfl rfl rfl hc i [] s5 _ H5 (fun _ _ => False) I5 (stat I5 n5) st5 go
      refine thnF ti fun r s6 ⟨u, hr, h6⟩ => ?_
      subst hr
      refine thnF h6 fun _ s7 ⟨x, H7, I7, r7, y7, st7, n7⟩ => ?_
      have I7' := I7.pinned (stat I7 n7) (T.obj _ _ st7)
      refine thnF (pg _ s7 _ H7 x u _ I7' r7 (step x H7 y7)) fun _ s8 ⟨σ8, H8, I8, hw8, q8⟩ => ?_
      refine thnF (pt _ s8 σ8 H8 _ I8 q8) fun b s9 ⟨H9, I9, q9⟩ => ?_
      have fin : ∀ {s' : Shared} {H' : Hp}, Inv (X.blk s3 H3 scope ce fp) ([] ++ pinsAt fp s7.heap) σ8 H' s' → Nx H' → ∃ m, m < n ∧ ∃ i H', Inv (X.blk s3 H3 scope ce fp) [] (wipe σ (own.map (·.2))) H' s' ∧ tn i s'.heap ∧ (∀ b ∈ fp, H' b = none) ∧ W i m H' := fun {s' H'} I' nx => by
        obtain ⟨m', hm, w'⟩ := hNx H' nx
        have pin' : ∀ b ∈ fp, ∀ o, s7.heap.get? b = some o → s'.heap.get? b = some o ∧ H' b = none := fun b hb o e =>
          let z := I'.pin (b, o) (List.mem_append_right _ (List.mem_append_right _ (mem_pinsAt hb e)))
          ⟨z.1, z.2.1⟩
        have hl : (wipe σ (own.map (·.2))).length = σ8.length := by rw [← hw8, wipe_length]
        refine ⟨m', hm, i + 1, H', (I'.unpinned (pins := [])).weak hl (fun j v e => ?_), T.keep _ _ _ st7 fun b hb o e => (pin' b hb o e).1, fun b hb => ?_, w'⟩
        · rw [← hw8] at e
          exact (wipe_some e).1
        · obtain ⟨o, e, _⟩ := T.obj _ _ st7 b hb
          exact (pin' b hb o e).2
      cases b with
      | false =>
        simp only [Bool.false_eq_true, if_false] at q9 ⊢
        exact fin I9 q9
      | true =>
        simp only [if_true] at q9 ⊢
        refine thnF (pe _ s9 σ8 H9 _ I9 q9) fun z s10 ⟨yv, H10, I10, r10, acc, hD10, hz10, nx⟩ => ?_
        exact app_ok (X := X.blk s3 H3 scope ce fp) I10 hD10 hz10 r10 fun s11 I11 => fin I11 nx
  exact codeAny_compStart_list loop (T.self X.A 0 _ _ _ st4 loop)
theorem pe_lc {elt tg iter : Expr} {ifs : List Expr} {scope : Scope} {own : List (Str × Nat)} {pos : Pos} {wi : TI} {g : TG} {tt : TT} {te : TE} (hc : X.calm = true) (hN : X.N.Nodup) (hi : PI X tg iter wi) (ok : BlkOk X.N X.env.scope scope own)
    (hg : ∀ (s : Shared) (H : Hp) (C : Addr) (cl : List (Str × Addr)) (fp : List Addr), PG (X.blk s H scope (compEnvC scope cl C X.env) fp) tg g) (ht : ∀ (s : Shared) (H : Hp) (C : Addr) (cl : List (Str × Addr)) (fp : List Addr), PTs (X.blk s H scope (compEnvC scope cl C X.env) fp) ifs tt)
    (he : ∀ (s : Shared) (H : Hp) (C : Addr) (cl : List (Str × Addr)) (fp : List Addr), PE (X.blk s H scope (compEnvC scope cl C X.env) fp) elt te) (hs : ∀ x, foldedSetIterable iter X.env x = pure x := by intro _; rfl) :
    PE X (.ListComp elt [⟨tg, iter, ifs, 0⟩] scope pos) (tLc wi g tt te (own.map (·.2))) := by
  intro pins s σ H Q I h
  rw [eval_ListComp]
  refine lc_core hc hN I hi ok hg ht he hs h fun D C s' m H' I' q hn f => ⟨m, hn, fun h'' sb => ?_⟩
  obtain ⟨f0, f1, f2, f3, f4, f5⟩ := f
  exact ⟨.ref D, H', I'.turned (t' := s'.toks) (fun b o hb e => (sb.2 b hb).trans e) f0 f1 f3 f4 f5, rfl, q⟩
end
theorem lc_list {K : PySem.W.Frag} {a : Addr} {xs : List V} {g : TG} {tt : TT} {te : TE} {vs : List Nat} {σ : St} {H1 : Hp} {D : Addr} {Qd : Hp → Prop} (Pv : Nat → Hp → Prop) (h0 : Pv 0 (upd H1 D (.lst []))) (hl : ∀ i H, i ≤ xs.length → Pv i H → SqL K H a xs)
    (hs : ∀ i x H, xs[i]? = some x → Pv i H → g x (wipe σ vs) H fun σ2 H2 => wipe σ2 vs = wipe σ vs ∧ tt σ2 H2 fun b H3 =>
      if b = true then te σ2 H3 fun y H4 => ∃ acc, H4 D = some (.lst acc) ∧ acc.length < sizeLine ∧ Pv (i + 1) (upd H4 D (.lst (acc ++ [y]))) else Pv (i + 1) H3) (hd : ∀ H, Pv xs.length H → Qd H) :
    ∃ W : Nat → Nat → Hp → Prop, (∃ m, W 0 m (upd H1 D (.lst []))) ∧ ∀ i m H, W i m H →
      ((Itl K a).stop i H ∧ Qd H) ∨ ((Itl K a).go i H ∧ ∃ Nx : Hp → Prop, (∀ H', Nx H' → ∃ m', m' < m ∧ W (i + 1) m' H') ∧ ∀ x H', (Itl K a).yld i H x H' → g x (wipe σ vs) H' fun σ2 H2 => wipe σ2 vs = wipe σ vs ∧ tt σ2 H2 fun b H3 =>
        if b = true then te σ2 H3 fun y H4 => ∃ acc, H4 D = some (.lst acc) ∧ acc.length < sizeLine ∧ Nx (upd H4 D (.lst (acc ++ [y]))) else Nx H3) := by
  refine ⟨fun i m H => m = xs.length - i ∧ i ≤ xs.length ∧ Pv i H, ⟨xs.length, by simp, Nat.zero_le _, h0⟩, ?_⟩
  rintro i m H ⟨rfl, hi, p⟩
  have q := hl i H hi p
  by_cases hlt : i < xs.length
  · refine .inr ⟨⟨xs, xs[i], q, by simp [hlt]⟩, Pv (i + 1), fun H' p' => ⟨xs.length - (i + 1), by omega, rfl, hlt, p'⟩, fun x H' y => ?_⟩
    obtain ⟨e, y⟩ := y
    subst e
    exact hs i x _ (y xs q) p
  · have e : i = xs.length := by omega
    subst e
    exact .inl ⟨⟨xs, q, Nat.le_refl _⟩, hd H p⟩
theorem lc_tup {K : PySem.W.Frag} {a : Addr} {xs : List V} {g : TG} {tt : TT} {te : TE} {vs : List Nat} {σ : St} {H1 : Hp} {D : Addr} {Qd : Hp → Prop} (Pv : Nat → Hp → Prop) (h0 : Pv 0 (upd H1 D (.lst []))) (hl : ∀ i H, i ≤ xs.length → Pv i H → SqT K H a xs)
    (hs : ∀ i x H, xs[i]? = some x → Pv i H → g x (wipe σ vs) H fun σ2 H2 => wipe σ2 vs = wipe σ vs ∧ tt σ2 H2 fun b H3 =>
      if b = true then te σ2 H3 fun y H4 => ∃ acc, H4 D = some (.lst acc) ∧ acc.length < sizeLine ∧ Pv (i + 1) (upd H4 D (.lst (acc ++ [y]))) else Pv (i + 1) H3) (hd : ∀ H, Pv xs.length H → Qd H) :
    ∃ W : Nat → Nat → Hp → Prop, (∃ m, W 0 m (upd H1 D (.lst []))) ∧ ∀ i m H, W i m H →
      ((Itt K a).stop i H ∧ Qd H) ∨ ((Itt K a).go i H ∧ ∃ Nx : Hp → Prop, (∀ H', Nx H' → ∃ m', m' < m ∧ W (i + 1) m' H') ∧ ∀ x H', (Itt K a).yld i H x H' → g x (wipe σ vs) H' fun σ2 H2 => wipe σ2 vs = wipe σ vs ∧ tt σ2 H2 fun b H3 =>
        if b = true then te σ2 H3 fun y H4 => ∃ acc, H4 D = some (.lst acc) ∧ acc.length < sizeLine ∧ Nx (upd H4 D (.lst (acc ++ [y]))) else Nx H3) := by
  refine ⟨fun i m H => m = xs.length - i ∧ i ≤ xs.length ∧ Pv i H, ⟨xs.length, by simp, Nat.zero_le _, h0⟩, ?_⟩
  rintro i m H ⟨rfl, hi, p⟩
  have q := hl i H hi p
  by_cases hlt : i < xs.length
  · refine .inr ⟨⟨xs, xs[i], q, by simp [hlt]⟩, Pv (i + 1), fun H' p' => ⟨xs.length - (i + 1), by omega, rfl, hlt, p'⟩, fun x H' y => ?_⟩
    obtain ⟨e, y⟩ := y
    subst e
    exact hs i x _ (y xs q) p
  · have e : i = xs.length := by omega
    subst e
    exact .inl ⟨⟨xs, q, Nat.le_refl _⟩, hd H p⟩
def blkC (N : List Str) (sc scope : Scope) (own : List (Str × Nat)) : Bool :=
  (match scope.kind with | .function => true | _ => false) && (scope.names.all fun y => decide (scope.names.lookup y.1 = some y.2)) && (own.all fun p => decide (N[p.2]? = some p.1)) &&
    (scope.names.all fun y => match y.2 with
      | .free => (match sc.names.lookup y.1 with | some .cell => true | some .free => true | _ => false)
      | .local => decide (y.1 ∈ own.map (·.1)) || decide (y.1 ∉ N)
      | .cell => decide (y.1 ∈ own.map (·.1)) || decide (y.1 ∉ N)
      | _ => true)
theorem blkOk_by {N : List Str} {sc scope : Scope} {own : List (Str × Nat)} (h : blkC N sc scope own = true) : BlkOk N sc scope own := by
  unfold blkC at h
  simp only [Bool.and_eq_true, List.all_eq_true, decide_eq_true_eq] at h
  obtain ⟨⟨⟨h1, h2⟩, h3⟩, h4⟩ := h
  refine ⟨?_, h2, h3, fun y hy e => ?_, fun y hy e => ?_⟩
  · split at h1
    · assumption
    · cases h1
  · have q := h4 y hy
    simp only [e] at q
    split at q <;> first | exact .inl (by assumption) | exact .inr (by assumption) | cases q
  · have q := h4 y hy
    rcases e with e | e <;> (simp only [e, Bool.or_eq_true, decide_eq_true_eq] at q; exact q)
end L2
namespace L2
open PySem PySem.Spec PyProof.Rows
section
variable {prog : Program} {w : World} {A : Around} {R : Result → Shared → Prop} {s : Shared} {elt t0 i0 t1 i1 : Expr} {ifs0 ifs1 : List Expr} {scope : Scope} {pos : Pos} {it acc : Value} {env : Env}
end
section
variable {X : Cx}
end
end L2
namespace L2
open PySem PySem.Spec PyProof.Rows
section
variable {κ : Type} [DecidableEq κ]
def valV (kvs : List (κ × V)) (k : κ) : Option V := (kvs.find? fun kv => decide (kv.1 = k)).map (·.2)
def putK (kvs : List (κ × V)) (k : κ) (v : V) : List (κ × V) :=
  if (kvs.any fun kv => decide (kv.1 = k)) = true then kvs.map (fun kv => if kv.1 = k then (kv.1, v) else kv) else kvs ++ [(k, v)]
theorem valV_pos {p : κ × V} {r : List (κ × V)} {k : κ} (e : p.1 = k) : valV (p :: r) k = some p.2 := by simp [valV, List.find?_cons, e]
theorem valV_neg {p : κ × V} {r : List (κ × V)} {k : κ} (e : ¬ p.1 = k) : valV (p :: r) k = valV r k := by simp [valV, List.find?_cons, e]
theorem valV_any (k : κ) : ∀ kvs : List (κ × V), (kvs.any fun kv => decide (kv.1 = k)) = (valV kvs k).isSome
  | [] => rfl
  | p :: r => by
    rw [List.any_cons]
    by_cases e : p.1 = k
    · simp only [valV_pos e, decide_eq_true e, Bool.true_or, Option.isSome_some]
    · rw [valV_neg e, decide_eq_false e, Bool.false_or]; exact valV_any k r
theorem valV_map (k j : κ) (y : V) : ∀ kvs : List (κ × V), valV (kvs.map fun kv => if kv.1 = k then (kv.1, y) else kv) j = (valV kvs j).map fun x => if j = k then y else x
  | [] => rfl
  | p :: r => by
    have ih := valV_map k j y r
    rw [List.map_cons]
    by_cases h : p.1 = k
    · rw [if_pos h]
      by_cases e : p.1 = j
      · rw [valV_pos (p := (p.1, y)) e, valV_pos e, Option.map_some, if_pos (e.symm.trans h)]
      · rw [valV_neg (p := (p.1, y)) e, valV_neg e, ih]
    · rw [if_neg h]
      by_cases e : p.1 = j
      · rw [valV_pos (p := p) e, valV_pos e, Option.map_some, if_neg (fun z => h (e.trans z))]
      · rw [valV_neg (p := p) e, valV_neg e, ih]
theorem valV_snoc (k j : κ) (y : V) : ∀ kvs : List (κ × V), valV kvs k = none → valV (kvs ++ [(k, y)]) j = if j = k then some y else valV kvs j
  | [], _ => by
    by_cases e : k = j
    · rw [if_pos e.symm]; exact valV_pos (p := (k, y)) e
    · rw [if_neg (fun z => e z.symm)]; exact valV_neg (p := (k, y)) e
  | p :: r, hn => by
    rw [List.cons_append]
    have hk : ¬ p.1 = k := fun z => by rw [valV_pos z] at hn; cases hn
    rw [valV_neg hk] at hn
    have ih := valV_snoc k j y r hn
    by_cases e : p.1 = j
    · rw [valV_pos e, valV_pos e, if_neg (fun z => hk (e.trans z))]
    · rw [valV_neg e, valV_neg e, ih]
theorem valV_put (kvs : List (κ × V)) (k j : κ) (y : V) : valV (putK kvs k y) j = if j = k then some y else valV kvs j := by
  unfold putK
  by_cases a : (kvs.any fun kv => decide (kv.1 = k)) = true
  · rw [if_pos a, valV_map]
    rw [valV_any] at a
    by_cases e : j = k
    · obtain ⟨x, hx⟩ := Option.isSome_iff_exists.mp a
      rw [if_pos e, e, hx, Option.map_some, if_pos rfl]
    · rw [if_neg e]
      cases valV kvs j with
      | none => rfl
      | some x => rw [Option.map_some, if_neg e]
  · rw [if_neg a]
    refine valV_snoc k j y kvs ?_
    rw [valV_any] at a
    cases q : valV kvs k with
    | none => rfl
    | some x => rw [q] at a; exact (a rfl).elim
theorem length_putK (kvs : List (κ × V)) (k : κ) (v : V) : (putK kvs k v).length ≤ kvs.length + 1 := by
  unfold putK
  split
  · rw [List.length_map]; omega
  · rw [List.length_append, List.length_cons, List.length_nil]; omega
theorem RelO.isSome_eq {o : Option V} {u : Option Value} (r : RelO o u) : o.isSome = u.isSome := by
  cases o with
  | none => cases u with
    | none => rfl
    | some _ => exact (show False from r).elim
  | some _ => cases u with
    | none => exact (show False from r).elim
    | some _ => rfl
theorem RelO.getD {o : Option V} {u : Option Value} {d : V} {d' : Value} (r : RelO o u) (rd : RelV d d') : RelV (o.getD d) (u.getD d') := by
  cases o with
  | none => cases u with
    | none => exact rd
    | some _ => exact (show False from r).elim
  | some _ => cases u with
    | none => exact (show False from r).elim
    | some _ => exact r
theorem KV.val {kvs : List (κ × V)} {vs : List (κ × Value)} (r : KV kvs vs) (k : κ) : RelO (valV kvs k) (valueAt vs k) := by
  unfold KV at r
  induction r with
  | nil => exact True.intro
  | @cons p q ps qs h t ih =>
    obtain ⟨h1, h2⟩ := h
    by_cases e : p.1 = k
    · have e' : q.1 = k := h1.symm.trans e
      have b : valueAt (q :: qs) k = some q.2 := by simp [valueAt, List.find?_cons, e']
      rw [valV_pos e, b]; exact h2
    · have e' : ¬ q.1 = k := fun z => e (h1.trans z)
      have b : valueAt (q :: qs) k = valueAt qs k := by simp [valueAt, List.find?_cons, e']
      rw [valV_neg e, b]; exact ih
theorem KV.any {kvs : List (κ × V)} {vs : List (κ × Value)} (r : KV kvs vs) (k : κ) : (kvs.any fun kv => decide (kv.1 = k)) = vs.any fun kv => decide (kv.1 = k) := by
  unfold KV at r
  induction r with
  | nil => rfl
  | cons h t ih => rw [List.any_cons, List.any_cons, ih, h.1]
theorem KV.repl {kvs : List (κ × V)} {vs : List (κ × Value)} (r : KV kvs vs) (k : κ) {y : V} {u : Value} (ry : RelV y u) :
    KV (kvs.map fun kv => if kv.1 = k then (kv.1, y) else kv) (vs.map fun kv => if kv.1 = k then (kv.1, u) else kv) := by
  unfold KV at r ⊢
  induction r with
  | nil => exact .nil
  | @cons p q ps qs h t ih =>
    rw [List.map_cons, List.map_cons]
    refine .cons ?_ ih
    obtain ⟨h1, h2⟩ := h
    by_cases e : p.1 = k
    · rw [if_pos e, if_pos (h1.symm.trans e)]; exact ⟨h1, ry⟩
    · rw [if_neg e, if_neg (fun z => e (h1.trans z))]; exact ⟨h1, h2⟩
theorem KV.put {kvs : List (κ × V)} {vs : List (κ × Value)} (r : KV kvs vs) (k : κ) {y : V} {u : Value} (ry : RelV y u) : KV (putK kvs k y) (stored vs k u) := by
  unfold putK stored
  rw [r.any k]
  by_cases e : (vs.any fun kv => decide (kv.1 = k)) = true
  · rw [if_pos e, if_pos e]; exact r.repl k ry
  · rw [if_neg e, if_neg e]; exact Paired.snoc r ⟨rfl, ry⟩
theorem KV.length {kvs : List (κ × V)} {vs : List (κ × Value)} (r : KV kvs vs) : kvs.length = vs.length := Paired.length r
end
theorem kV_is {P : Program} {w : World} {k : Key} {u : Value} (r : RelV (kV k) u) : (mixKind P w).is k u = true := by
  cases k with
  | inl i => obtain ⟨t, e⟩ := (show ∃ t, u = Value.int i t from r); subst e; exact mixKind_int P w i t
  | inr x => obtain ⟨t, e⟩ := (show ∃ t, u = Value.str x t from r); subst e; exact mixKind_str P w x t
theorem items_are {P : Program} {w : World} : ∀ {ks : List Key} {us : List Value}, Vals (ks.map kV) us → ItemsAre (mixKind P w) ks us
  | [], _, r => by rw [List.map_nil] at r; cases r; exact .nil
  | k :: ks, _, r => by
    rw [List.map_cons] at r
    cases r with
    | cons h t => exact .cons (kV_is h) (items_are t)
abbrev KT (H : Hp) : List (List Key × V) → List (List Key × Addr × Value) → Prop := Paired fun p q => p.1 = q.1 ∧ H q.2.1 = some (.tup (p.1.map kV)) ∧ RelV p.2 q.2.2
theorem KT.val {H : Hp} {kvs : List (List Key × V)} {xs : List (List Key × Addr × Value)} (r : KT H kvs xs) (k : List Key) : RelO (valV kvs k) ((atKey xs k).map (·.2)) := by
  induction r with
  | nil => exact True.intro
  | @cons p q ps qs h t ih =>
    obtain ⟨h1, _, h2⟩ := h
    by_cases e : p.1 = k
    · have e' : q.1 = k := h1.symm.trans e
      have b : atKey (q :: qs) k = some q.2 := by simp [atKey, List.find?_cons, e']
      rw [valV_pos e, b]; exact h2
    · have e' : ¬ q.1 = k := fun z => e (h1.trans z)
      have b : atKey (q :: qs) k = atKey qs k := by simp [atKey, List.find?_cons, e']
      rw [valV_neg e, b]; exact ih
theorem KT.repl {H : Hp} {kvs : List (List Key × V)} {xs : List (List Key × Addr × Value)} (r : KT H kvs xs) (k : List Key) {y : V} {u : Value} (ry : RelV y u) :
    KT H (kvs.map fun kv => if kv.1 = k then (kv.1, y) else kv) (xs.map (putAt k u)) := by
  induction r with
  | nil => exact .nil
  | @cons p q ps qs h t ih =>
    rw [List.map_cons, List.map_cons]
    refine .cons ?_ ih
    obtain ⟨h1, h2, h3⟩ := h
    unfold putAt
    by_cases e : p.1 = k
    · rw [if_pos e, if_pos (h1.symm.trans e)]; exact ⟨h1, h2, ry⟩
    · rw [if_neg e, if_neg (fun z => e (h1.trans z))]; exact ⟨h1, h2, h3⟩
theorem KT.put {H : Hp} {kvs : List (List Key × V)} {xs : List (List Key × Addr × Value)} (r : KT H kvs xs) (k : List Key) {b : Addr} {y : V} {u : Value} (hb : H b = some (.tup (k.map kV))) (ry : RelV y u) :
    KT H (putK kvs k y) (storedH xs k b u) := by
  have e : (kvs.any fun kv => decide (kv.1 = k)) = (atKey xs k).isSome := by
    rw [valV_any, (r.val k).isSome_eq, Option.isSome_map]
  unfold putK storedH
  rw [e]
  by_cases q : (atKey xs k).isSome = true
  · rw [if_pos q, if_pos q]; exact r.repl k ry
  · rw [if_neg q, if_neg q]; exact Paired.snoc r ⟨rfl, hb, ry⟩
theorem KT.keeps {H H' : Hp} {kvs : List (List Key × V)} {xs : List (List Key × Addr × Value)} (r : KT H kvs xs) (ht : ∀ b ys, H b = some (.tup ys) → H' b = some (.tup ys)) : KT H' kvs xs :=
  Paired.mapP r fun _ _ z => ⟨z.1, ht _ _ z.2.1, z.2.2⟩
section
variable {P : Program} {w : World} {H : Hp} {h : Heap} {a : Addr}
theorem rd_of {u : HO} (ok : HOk P w H h) (e : Rd H a u) : ObjOk P w H h a u := e.ok ok
theorem dk_rd {kvs : List (Key × V)} (ok : HOk P w H h) (e : Rd H a (.dK kvs)) : kvs.length ≤ sizeLine ∧ (a == sysModules) = false ∧ ∃ vs, KV kvs vs ∧ h.DictOf (mixKind P w) a vs :=
  show ObjOk P w H h a (.dK kvs) from rd_of ok e
theorem dk_of {kvs : List (Key × V)} (ok : HOk P w H h) (e : H a = some (.dK kvs)) : kvs.length ≤ sizeLine ∧ (a == sysModules) = false ∧ ∃ vs, KV kvs vs ∧ h.DictOf (mixKind P w) a vs := dk_rd ok (.inl e)
theorem key_of {ks : List Key} (ok : HOk P w H h) (e : H a = some (.tup (ks.map kV))) : (tupleKind (mixKind P w)).is h ks a := by
  obtain ⟨_, its, r, o, h1, h2, n, h3⟩ := (show ObjOk P w H h a (.tup (ks.map kV)) from ok a _ e)
  exact ⟨o, its.toArray, n, h1, h2, h3, by simpa using items_are r⟩
theorem dt_rd {kvs : List (List Key × V)} (ok : HOk P w H h) (e : Rd H a (.dT kvs)) : kvs.length ≤ sizeLine ∧ (a == sysModules) = false ∧
    ∃ xs, KT H kvs xs ∧ h.DictOfH (tupleKind (mixKind P w)) a xs := by
  obtain ⟨z, y, xs, r, o, es, ep, h1, h2, h3, h4, h5⟩ := (show ObjOk P w H h a (.dT kvs) from rd_of ok e)
  refine ⟨z, y, xs, r, o, es, ep, h1, h2, h3, h4, fun x hx => ?_, h5⟩
  have all : ∀ {l : List (List Key × V)} {m : List (List Key × Addr × Value)}, KT H l m → ∀ x ∈ m, (tupleKind (mixKind P w)).is h x.1 x.2.1 := by
    intro l m q
    induction q with
    | nil => intro x hx; exact nomatch hx
    | @cons p q ps qs hq t ih =>
      intro x hx
      rcases List.mem_cons.mp hx with e | hx
      · subst e
        exact key_of ok (by rw [← hq.1]; exact hq.2.1)
      · exact ih x hx
  exact all r x hx
theorem dt_of {kvs : List (List Key × V)} (ok : HOk P w H h) (e : H a = some (.dT kvs)) : kvs.length ≤ sizeLine ∧ (a == sysModules) = false ∧
    ∃ xs, KT H kvs xs ∧ h.DictOfH (tupleKind (mixKind P w)) a xs := dt_rd ok (.inl e)
end
def DGet (H : Hp) (a : Addr) (y : V) (r : Option V) : Prop :=
  (∃ kvs k, Rd H a (.dK kvs) ∧ y = kV k ∧ r = valV kvs k) ∨ ∃ kvs k b, Rd H a (.dT kvs) ∧ y = .ref b ∧ H b = some (.tup (k.map kV)) ∧ r = valV kvs k
def DPut (H : Hp) (a : Addr) (y v : V) (H' : Hp) : Prop :=
  (∃ kvs k, H a = some (.dK kvs) ∧ y = kV k ∧ kvs.length < sizeLine ∧ H' = upd H a (.dK (putK kvs k v))) ∨
  ∃ kvs k b, H a = some (.dT kvs) ∧ y = .ref b ∧ H b = some (.tup (k.map kV)) ∧ kvs.length < sizeLine ∧ H' = upd H a (.dT (putK kvs k v))
theorem DGet.k {H : Hp} {a : Addr} {kvs : List (Key × V)} {k : Key} (e : H a = some (.dK kvs)) : DGet H a (kV k) (valV kvs k) := .inl ⟨kvs, k, .inl e, rfl, rfl⟩
theorem DPut.k {H : Hp} {a : Addr} {kvs : List (Key × V)} {k : Key} {v : V} (e : H a = some (.dK kvs)) (hl : kvs.length < sizeLine) : DPut H a (kV k) v (upd H a (.dK (putK kvs k v))) := .inl ⟨kvs, k, e, rfl, hl, rfl⟩
section
variable {X : Cx} {pins : List (Addr × Obj)} {σ : St} {H : Hp} {s : Shared} {a : Addr} {y v : V} {u r : Value} {o : Option V} {A : Around} {E : Value → Shared → Prop}
theorem Inv.big (I : Inv X pins σ H s) : sysModules < s.heap.objs.size := by
  have h : mainGlobals < s.heap.objs.size := (I.mod.glob.keeps I.bk).lt
  exact Nat.lt_trans (by decide) h
theorem d_getItem {Q : Value → Shared → Prop} (hu : A.units + 1 < cLine) (I : Inv X pins σ H s) (g : DGet H a y (some v)) (ry : RelV y u) (h : ∀ w' s', Inv X pins σ H s' → RelV v w' → Q w' s') :
    wpAny (model X.prog X.w) A (getItem (.ref a) u) Q E s := by
  rcases g with ⟨kvs, k, e, ey, l⟩ | ⟨kvs, k, b, e, ey, eb, l⟩
  · subst ey
    obtain ⟨z, hd, vs, rel, dd⟩ := dk_rd I.hok e
    obtain ⟨w', hw, rw'⟩ := RelO.some_of (v := v) (o := valueAt vs k) (by rw [l]; exact rel.val k)
    exact wpAny_getItem_of (kV_is ry) dd.mapOf hw (h w' _ (I.tok _) rw')
  · subst ey
    cases (show u = Value.ref b from ry)
    obtain ⟨z, hd, xs, rel, dd⟩ := dt_rd I.hok e
    obtain ⟨w', hw, rw'⟩ := RelO.some_of (v := v) (o := (atKey xs k).map (·.2)) (by rw [l]; exact rel.val k)
    obtain ⟨p, hp, hp2⟩ := Option.map_eq_some_iff.mp hw
    refine wpAny_getItem_heap (tupleKind_room_in1 hu) (key_of I.hok eb) dd hp ?_
    rw [hp2]
    exact h w' _ (I.tok _) rw'
theorem d_in {Q : Value → Shared → Prop} (hu : A.units + 1 < cLine) (I : Inv X pins σ H s) (g : DGet H a y o) (ry : RelV y u) (h : ∀ s', Inv X pins σ H s' → Q (.bool o.isSome) s') :
    wpAny (model X.prog X.w) A (compareOp .In u (.ref a)) Q E s := by
  rcases g with ⟨kvs, k, e, ey, l⟩ | ⟨kvs, k, b, e, ey, eb, l⟩
  · subst ey
    obtain ⟨z, hd, vs, rel, dd⟩ := dk_rd I.hok e
    refine wpAny_in_of (kV_is ry) hd dd.mapOf ?_
    rw [← (rel.val k).isSome_eq, ← l]
    exact h _ (I.tok _)
  · subst ey
    cases (show u = Value.ref b from ry)
    obtain ⟨z, hd, xs, rel, dd⟩ := dt_rd I.hok e
    refine wpAny_in_heap (tupleKind_room_in1 hu) (key_of I.hok eb) hd dd ?_
    have q := (rel.val k).isSome_eq
    rw [Option.isSome_map] at q
    rw [← q, ← l]
    exact h _ (I.tok _)
theorem d_notIn {Q : Value → Shared → Prop} (hu : A.units + 1 < cLine) (I : Inv X pins σ H s) (g : DGet H a y o) (ry : RelV y u) (h : ∀ s', Inv X pins σ H s' → Q (.bool (!o.isSome)) s') :
    wpAny (model X.prog X.w) A (compareOp .NotIn u (.ref a)) Q E s := by
  rcases g with ⟨kvs, k, e, ey, l⟩ | ⟨kvs, k, b, e, ey, eb, l⟩
  · subst ey
    obtain ⟨z, hd, vs, rel, dd⟩ := dk_rd I.hok e
    refine wpAny_notIn_of (kV_is ry) hd dd.mapOf ?_
    rw [← (rel.val k).isSome_eq, ← l]
    exact h _ (I.tok _)
  · subst ey
    cases (show u = Value.ref b from ry)
    obtain ⟨z, hd, xs, rel, dd⟩ := dt_rd I.hok e
    refine wpAny_notIn_heap (tupleKind_room_in1 hu) (key_of I.hok eb) hd dd ?_
    have q := (rel.val k).isSome_eq
    rw [Option.isSome_map] at q
    rw [← q, ← l]
    exact h _ (I.tok _)
theorem d_write {h' : Heap} {t' : Nat} {ob : HO} (I : Inv X pins σ H s) (mu : Mut (H a)) (hs : Heap.SameBut a s.heap h') (he : ∃ q, h'.get? a = some q) (new : ObjOk X.prog X.w (upd H a ob) h' a ob) :
    Inv X pins σ (upd H a ob) { s with heap := h', toks := t' } :=
  I.write (x := a) (e := a) mu (.inl rfl) (fun b q hb z => (hs.2 b hb).trans z) he new
theorem dk_new {P : Program} {w : World} {H' : Hp} {h' : Heap} {kvs : List (Key × V)} {vs : List (Key × Value)} (z : kvs.length ≤ sizeLine) (hd : (a == sysModules) = false) (rel : KV kvs vs) (dd : h'.DictOf (mixKind P w) a vs) :
    ObjOk P w H' h' a (.dK kvs) := ⟨z, hd, vs, rel, dd⟩
theorem d_setItem {H' : Hp} {Q : Unit → Shared → Prop} (hu : A.units + 1 < cLine) (I : Inv X pins σ H s) (g : DPut H a y v H') (ry : RelV y u) (rv : RelV v r) (h : ∀ s', Inv X pins σ H' s' → Q () s') :
    wpAny (model X.prog X.w) A (setItem (.ref a) u r) Q E s := by
  rcases g with ⟨kvs, k, e, ey, l, eH⟩ | ⟨kvs, k, b, e, ey, eb, l, eH⟩
  · subst ey eH
    obtain ⟨z, hd, vs, rel, dd⟩ := dk_of I.hok e
    have hz : vs.length ≤ sizeLine := by rw [← rel.length]; exact z
    have hl : (putK kvs k v).length ≤ sizeLine := by have := length_putK kvs k v; omega
    refine wpAny_setItem_pairs (hsz := hz) (kV_is ry) dd fun h' dd' hs => h _ ?_
    have he : ∃ q, h'.get? a = some q := let ⟨q, _, _, hq, _⟩ := dd'; ⟨q, hq⟩
    exact d_write I (by rw [e]; exact True.intro) hs he (dk_new hl hd (rel.put k rv) dd')
  · subst ey eH
    cases (show u = Value.ref b from ry)
    obtain ⟨z, hd, xs, rel, dd⟩ := dt_of I.hok e
    have hz : xs.length ≤ sizeLine := by rw [← Paired.length rel]; exact z
    have hl : (putK kvs k v).length ≤ sizeLine := by have := length_putK kvs k v; omega
    refine wpAny_setItem_heap (hsz := hz) (tupleKind_room_in1 hu) (key_of I.hok eb) dd fun h' dd' hs => h _ ?_
    obtain ⟨q, es, ep, hq, h2, h3, h4, _, h5⟩ := dd'
    refine d_write I (by rw [e]; exact True.intro) hs ⟨q, hq⟩ ⟨hl, hd, _, (rel.put k eb rv).keeps fun c ys ec => ?_, q, es, ep, hq, h2, h3, h4, h5⟩
    rw [upd_ne (ne_of ec e (fun z => nomatch z))]
    exact ec
end
section
variable {X : Cx} {pins : List (Addr × Obj)} {σ : St} {H : Hp} {s : Shared} {a : Addr} {kvs : List (Key × V)} {k : Key} {u : Value} {A : Around} {E : Value → Shared → Prop}
end
def NoSl (i : Expr) : Prop := ∀ ov iv, subscripted i false ov iv = operate [ov, iv] (getItem ov iv)
theorem subD_of {prog : Program} {w : World} {A : Around} {E : Value → Shared → Prop} {s : Shared} {env : Env} {value slice : Expr} {pos : Pos} {T id : String} {Q : Value → Shared → Prop}
    (hl : typeLookup (.type T) "__getitem__" = pure (some (.builtin id))) (hs : NoSl slice)
    (h : wpAny (model prog w) A (eval value env) (fun o s₁ => wpAny (model prog w) A (eval slice env) (fun i s₂ => s₂.TypeIs o T ∧ wpAny (model prog w) A (getItem o i) Q E s₂) E s₁) E s) :
    wpAny (model prog w) A (eval (.Subscript value slice pos) env) Q E s := by
  refine Subscript_ (wpAny_mono h (fun o s₁ h₁ => wpAny_mono h₁ (fun i s₂ h₂ => ?_) fun _ _ x => x) fun _ _ x => x)
  obtain ⟨hT, h₂⟩ := h₂
  unfold subscriptTail
  refine wpAny_bind ?_
  rw [getitemInPython_of_ne hT.not_modules]
  refine wpAny_bind (wpAny_specialOf hT hl ?_)
  have fin : wpAny (model prog w) A (subscripted slice false o i) (fun r s₃ => wpAny (model prog w) A (letTemporaryGo value o r >>= fun _ => pure r) Q E s₃) E s₂ := by
    rw [hs o i]
    exact wpAny_operating (wpAny_mono h₂ (fun r s₃ h₃ => wpAny_bind (wpAny_letTemporaryGo (wpAny_pure h₃))) fun _ _ x => x)
  first
    | exact wpAny_pure (wpAny_bind fin)
    | exact wpAny_bind (wpAny_pure (wpAny_bind fin))
    | exact wpAny_bind fin
theorem dict_typeIs {X : Cx} {pins : List (Addr × Obj)} {σ : St} {H : Hp} {s : Shared} {a : Addr} {y : V} {o : Option V} (I : Inv X pins σ H s) (g : DGet H a y o) : s.TypeIs (.ref a) "dict" := by
  rcases g with ⟨kvs, k, e, _, _⟩ | ⟨kvs, k, b, e, _, _, _⟩
  · obtain ⟨_, _, vs, _, dd⟩ := dk_rd I.hok e
    exact dd.typeIs
  · obtain ⟨_, _, xs, _, dd⟩ := dt_rd I.hok e
    exact dd.typeIs
def tDGet (td ty : TE) : TE := fun σ H Q => td σ H fun x H1 => ty σ H1 fun y H2 => ∃ a v, x = .ref a ∧ DGet H2 a y (some v) ∧ Q v H2
def tDIn (ty td : TE) : TE := fun σ H Q => ty σ H fun y H1 => td σ H1 fun x H2 => ∃ a o, x = .ref a ∧ DGet H2 a y o ∧ Q (.bl o.isSome) H2
def tDNotIn (ty td : TE) : TE := fun σ H Q => ty σ H fun y H1 => td σ H1 fun x H2 => ∃ a o, x = .ref a ∧ DGet H2 a y o ∧ Q (.bl (!o.isSome)) H2
def sDPut (td ty tv : TE) : TS := fun D σ H => tv σ H fun v H1 => td σ H1 fun x H2 => ty σ H2 fun y H3 => ∃ a H4, x = .ref a ∧ DPut H3 a y v H4 ∧ D.nx σ H4
section
variable {X : Cx} {o i e value : Expr} {pos pos' tpos : Pos} {td ty tv : TE}
theorem pe_dget (hu : X.A.units + 1 < cLine) (ho : PE X o td) (hi : PE X i ty) (hs : NoSl i) : PE X (.Subscript o i pos) (tDGet td ty) := by
  intro pins s σ H Q I h
  refine subD_of PySem.F.slot_dict_getitem.lookup hs (thn (ho pins s σ H _ I h) fun u s1 ⟨x, H1, I1, rx, q1⟩ => thn (hi pins s1 σ H1 _ I1 q1) fun iv s2 ⟨y, H2, I2, ry, a, v, ex, g, q2⟩ => ?_)
  subst ex
  obtain rfl : u = Value.ref a := rx
  exact ⟨dict_typeIs I2 g, d_getItem hu I2 g ry fun w' s3 I3 rw' => ⟨v, H2, I3, rw', q2⟩⟩
theorem pc_din (hu : X.A.units + 1 < cLine) (hi : PE X i ty) (ho : PE X o td) : PC X .In i o (tDIn ty td) := by
  intro pins s σ H Q I h
  refine thn (hi pins s σ H _ I h) fun iv s1 ⟨y, H1, I1, ry, q1⟩ => thn (ho pins s1 σ H1 _ I1 q1) fun u s2 ⟨x, H2, I2, rx, a, ov, ex, g, q2⟩ => ?_
  subst ex
  obtain rfl : u = Value.ref a := rx
  exact d_in hu I2 g ry fun s3 I3 => ⟨.bl ov.isSome, H2, I3, rfl, q2⟩
theorem pc_dnotin (hu : X.A.units + 1 < cLine) (hi : PE X i ty) (ho : PE X o td) : PC X .NotIn i o (tDNotIn ty td) := by
  intro pins s σ H Q I h
  refine thn (hi pins s σ H _ I h) fun iv s1 ⟨y, H1, I1, ry, q1⟩ => thn (ho pins s1 σ H1 _ I1 q1) fun u s2 ⟨x, H2, I2, rx, a, ov, ex, g, q2⟩ => ?_
  subst ex
  obtain rfl : u = Value.ref a := rx
  exact d_notIn hu I2 g ry fun s3 I3 => ⟨.bl (!ov.isSome), H2, I3, rfl, q2⟩
theorem ps_dput (hu : X.A.units + 1 < cLine) (ho : PE X o td) (hi : PE X i ty) (hv : PE X value tv) (hs : swapsWith value (some (.Subscript o i pos')) pos.line X.env = pure false) :
    PS X (.Assign [.Subscript o i pos'] value pos) (sDPut td ty tv) := by
  intro pins s σ H D I h
  refine wpAny_Assign_Subscript (thn (hv pins s σ H _ I h) fun r s1 ⟨v, H1, I1, rv, q1⟩ => thn (ho pins s1 σ H1 _ I1 q1) fun u s2 ⟨x, H2, I2, rx, q2⟩ => thn (hi pins s2 σ H2 _ I2 q2) fun iv s3 ⟨y, H3, I3, ry, a, H4, ex, g, q3⟩ => ?_) hs
  subst ex
  obtain rfl : u = Value.ref a := rx
  exact d_setItem hu I3 g ry rv fun s4 I4 => ⟨σ, H4, I4, q3⟩
end
theorem dk_empty {P : Program} {w : World} {H : Hp} (h : Heap) (hb : sysModules < h.objs.size) : ObjOk P w H (h.push { cls := .type "dict", data := .dict #[] }) h.objs.size (.dK []) :=
  ⟨Nat.zero_le _, beq_eq_false_iff_ne.mpr (Ne.symm (Nat.ne_of_lt hb)), [], .nil, Heap.DictOf.new h⟩
def tDNewK : TE := fun _ H Q => ∀ p, H p = none → Q (.ref p) (upd H p (.dK []))
section
variable {X : Cx} {pos : Pos}
theorem pe_dnewK : PE X (.Dict [] [] pos) tDNewK := fun pins s σ H Q I h =>
  wpAny_Dict_empty ⟨.ref s.heap.objs.size, _, I.laid (a := s.heap.objs.size) (o := .dK []) (t' := s.toks) (fun _ _ q => Heap.get?_push_of_some _ q) (Nat.le_refl _) (dk_empty s.heap I.big), rfl, h _ (I.hok.fresh (Nat.le_refl _))⟩
end
structure M1 (X : Cx) (o : Expr) (m : Str) (apos : Pos) (e : Expr) (cpos : Pos) : Prop where
  base : attributeBase o m X.env (eval o X.env) = eval o X.env
  few : ((backTo cpos (starEach [e] X.env)).all (fun x => !x.1) && (backToKw cpos (keywordEach [] X.env)).all (fun x => x.1.isSome)
    && decide (([e] : List Expr).length + ([] : List Keyword).length + (if ([] : List Keyword).isEmpty then 0 else 1) < 30)) = true
  line : (apos.endLine == cpos.line) = true
  trees : backTo cpos (starEach [e] X.env) = [(false, eval e X.env)]
structure M2 (X : Cx) (o : Expr) (m : Str) (apos : Pos) (e f : Expr) (cpos : Pos) : Prop where
  base : attributeBase o m X.env (eval o X.env) = eval o X.env
  few : ((backTo cpos (starEach [e, f] X.env)).all (fun x => !x.1) && (backToKw cpos (keywordEach [] X.env)).all (fun x => x.1.isSome)
    && decide (([e, f] : List Expr).length + ([] : List Keyword).length + (if ([] : List Keyword).isEmpty then 0 else 1) < 30)) = true
  line : (apos.endLine == cpos.line) = true
  trees : backTo cpos (starEach [e, f] X.env) = [(false, eval e X.env), (false, eval f X.env)]
def IsD (H : Hp) (a : Addr) : Prop := (∃ kvs, Rd H a (.dK kvs)) ∨ ∃ kvs, Rd H a (.dT kvs)
theorem isD_at {X : Cx} {pins : List (Addr × Obj)} {σ : St} {H : Hp} {s : Shared} {a : Addr} (I : Inv X pins σ H s) (d : IsD H a) :
    s.TypeIs (.ref a) "dict" ∧ (∀ b, Value.ref a = .ref b → ∃ ob, s.heap.get? b = some ob ∧ ob.dict = none) ∧ (a == sysModules) = false := by
  rcases d with ⟨kvs, e⟩ | ⟨kvs, e⟩
  · obtain ⟨_, hd, vs, _, dd⟩ := dk_rd I.hok e
    refine ⟨dd.typeIs, fun b q => ?_, hd⟩
    cases q
    obtain ⟨ob, _, _, h1, h2, _⟩ := dd
    exact ⟨ob, h1, h2.2.1⟩
  · obtain ⟨_, hd, xs, _, dd⟩ := dt_rd I.hok e
    refine ⟨dd.typeIs, fun b q => ?_, hd⟩
    cases q
    obtain ⟨ob, _, _, h1, h2, _⟩ := dd
    exact ⟨ob, h1, h2.2.1⟩
section
variable {X : Cx} {pins : List (Addr × Obj)} {σ : St} {H : Hp} {s : Shared} {a : Addr} {y d : V} {u r : Value} {o : Option V} {A : Around} {E : Value → Shared → Prop}
theorem d_get1 {Q : Value → Shared → Prop} (hu : A.units + 1 < cLine) (I : Inv X pins σ H s) (g : DGet H a y o) (ry : RelV y u) (h : ∀ w' s', Inv X pins σ H s' → RelV (o.getD .non) w' → Q w' s') :
    wpAny (model X.prog X.w) A (call (.builtin "dict.get") [.ref a, u]) Q E s := by
  rcases g with ⟨kvs, k, e, ey, l⟩ | ⟨kvs, k, b, e, ey, eb, l⟩
  · subst ey
    obtain ⟨z, hd, vs, rel, dd⟩ := dk_rd I.hok e
    refine call_meetsIn PySem.F.slot_dict_get dd.typeIs PySem.F.entry_dict_get (PySem.F.args_dict_get_2 _ _) (meets_dict_get (mixKind X.prog X.w) a (kV_is ry) hd) ⟨_, dd.mapOf, h _ _ (I.tok _) ?_⟩
    rw [l]
    exact (rel.val k).getD rfl
  · subst ey
    cases (show u = Value.ref b from ry)
    obtain ⟨z, hd, xs, rel, dd⟩ := dt_rd I.hok e
    refine call_meetsIn PySem.F.slot_dict_get dd.typeIs PySem.F.entry_dict_get (PySem.F.args_dict_get_2 _ _) (meetsH_dict_get (tupleKind (mixKind X.prog X.w)) a b hd) ⟨tupleKind_room_in1 hu, k, xs, key_of I.hok eb, dd, h _ _ (I.tok _) ?_⟩
    rw [l]
    exact (rel.val k).getD rfl
theorem d_get2 {Q : Value → Shared → Prop} (hu : A.units + 1 < cLine) (I : Inv X pins σ H s) (g : DGet H a y o) (ry : RelV y u) (rd : RelV d r) (h : ∀ w' s', Inv X pins σ H s' → RelV (o.getD d) w' → Q w' s') :
    wpAny (model X.prog X.w) A (call (.builtin "dict.get") [.ref a, u, r]) Q E s := by
  rcases g with ⟨kvs, k, e, ey, l⟩ | ⟨kvs, k, b, e, ey, eb, l⟩
  · subst ey
    obtain ⟨z, hd, vs, rel, dd⟩ := dk_rd I.hok e
    refine call_meetsIn PySem.F.slot_dict_get dd.typeIs PySem.F.entry_dict_get (PySem.F.args_dict_get_3 _ _ _) (meets_dict_get_default (mixKind X.prog X.w) a (kV_is ry) hd r) ⟨_, dd.mapOf, h _ _ (I.tok _) ?_⟩
    rw [l]
    exact (rel.val k).getD rd
  · subst ey
    cases (show u = Value.ref b from ry)
    obtain ⟨z, hd, xs, rel, dd⟩ := dt_rd I.hok e
    refine call_meetsIn PySem.F.slot_dict_get dd.typeIs PySem.F.entry_dict_get (PySem.F.args_dict_get_3 _ _ _) (meetsH_dict_get_default (tupleKind (mixKind X.prog X.w)) a b hd r) ⟨tupleKind_room_in1 hu, k, xs, key_of I.hok eb, dd, h _ _ (I.tok _) ?_⟩
    rw [l]
    exact (rel.val k).getD rd
end
def tDGet1 (td ty : TE) : TE := fun σ H Q => td σ H fun x H1 => ∃ a, x = .ref a ∧ IsD H1 a ∧ ty σ H1 fun y H2 => ∃ o, DGet H2 a y o ∧ Q (o.getD .non) H2
def tDGet2 (td ty tx : TE) : TE := fun σ H Q => td σ H fun x H1 => ∃ a, x = .ref a ∧ IsD H1 a ∧ ty σ H1 fun y H2 => tx σ H2 fun z H3 => ∃ o, DGet H3 a y o ∧ Q (o.getD z) H3
section
variable {X : Cx} {o e f : Expr} {apos cpos : Pos} {td ty tx : TE}
theorem pe_dget1 (hu : X.A.units + 1 < cLine) (ho : PE X o td) (he : PE X e ty) (m : M1 X o "get" apos e cpos) : PE X (.Call (.Attribute o "get" apos) [e] [] cpos) (tDGet1 td ty) := by
  intro pins s σ H Q I h
  refine wpAny_Call_method m.base m.few m.line PySem.F.plainAttrs_dict PySem.F.slot_dict_get PySem.F.type_dict_get (thn (ho pins s σ H _ I h) fun u s1 ⟨x, H1, I1, rx, a, ex, d, q1⟩ => ?_)
  subst ex
  obtain rfl : u = Value.ref a := rx
  obtain ⟨t1, t2, _⟩ := isD_at I1 d
  refine ⟨t1, t2, ?_⟩
  rw [m.trees]
  refine Calls.callWith_builtin rfl (Calls.evalArgs_plain (Calls.spliced_cons (thn (he pins s1 σ H1 _ I1 q1) fun iv s2 ⟨y, H2, I2, ry, ov, g, q2⟩ => Calls.spliced_nil ?_)))
  exact d_get1 hu I2 g ry fun w' s3 I3 rw' => ⟨_, H2, I3, rw', q2⟩
theorem pe_dget2 (hu : X.A.units + 1 < cLine) (ho : PE X o td) (he : PE X e ty) (hf : PE X f tx) (m : M2 X o "get" apos e f cpos) : PE X (.Call (.Attribute o "get" apos) [e, f] [] cpos) (tDGet2 td ty tx) := by
  intro pins s σ H Q I h
  refine wpAny_Call_method m.base m.few m.line PySem.F.plainAttrs_dict PySem.F.slot_dict_get PySem.F.type_dict_get (thn (ho pins s σ H _ I h) fun u s1 ⟨x, H1, I1, rx, a, ex, d, q1⟩ => ?_)
  subst ex
  obtain rfl : u = Value.ref a := rx
  obtain ⟨t1, t2, _⟩ := isD_at I1 d
  refine ⟨t1, t2, ?_⟩
  rw [m.trees]
  refine Calls.callWith_builtin rfl (Calls.evalArgs_plain (Calls.spliced_cons (thn (he pins s1 σ H1 _ I1 q1) fun iv s2 ⟨y, H2, I2, ry, q2⟩ =>
    Calls.spliced_cons (thn (hf pins s2 σ H2 _ I2 q2) fun fv s3 ⟨z, H3, I3, rz, ov, g, q3⟩ => Calls.spliced_nil ?_))))
  exact d_get2 hu I3 g ry rz fun w' s4 I4 rw' => ⟨_, H3, I4, rw', q3⟩
end
section
variable {X : Cx} {pins : List (Addr × Obj)} {σ : St} {H : Hp} {s : Shared} {a : Addr} {kvs : List (Key × V)} {A : Around} {E : Value → Shared → Prop}
end
section
variable {X : Cx} {pins : List (Addr × Obj)} {σ : St} {H : Hp} {s : Shared} {a : Addr} {y : V} {u : Value} {A : Around} {E : Value → Shared → Prop}
end
end L2
namespace L2
open PySem PySem.Spec PyProof.Rows
section
variable {prog : Program} {w : World} {A : Around} {E : Value → Shared → Prop}
end
section
variable {X : Cx}
end
end L2
namespace L2
open PySem PySem.Spec PyProof.Rows
section
variable {X : Cx} {pins : List (Addr × Obj)} {σ : St} {H : Hp} {s : Shared} {h' : Heap}
end
section
variable {X : Cx}
theorem pi_one {tg : Expr} {pins : List (Addr × Obj)} {σ : St} {H : Hp} {s : Shared} {R : It → Hp → Prop} {J : It} {tn : Nat → Heap → Prop} {tk : Nat} (I : Inv X pins σ H s) (o : Obj)
    (T : Turn X.prog X.w X.K tg J [s.heap.objs.size] s.heap.objs.size tn) (st : tn 0 (s.heap.push o)) (q : R J H) : PIE X pins σ tg R (.ref s.heap.objs.size) { s with heap := s.heap.push o, toks := tk } := by
  refine ⟨s.heap.objs.size, [s.heap.objs.size], tn, J, H, rfl, I.kept fun b ob e => Heap.get?_push_of_some _ e, T, st, fun b hb => ?_, q⟩
  have e : b = s.heap.objs.size := by simpa using hb
  subst e
  exact I.fpOk (Nat.le_refl _) (I.hok.fresh (Nat.le_refl _))
end
section
variable {X : Cx} {tg : Expr}
end
section
variable {X : Cx} {tg : Expr}
end
def Its (x : Str) : It := ⟨fun i _ => i < x.cps.size, fun i H v H' => H' = H ∧ ∃ c, x.cps[i]? = some c ∧ v = .str ⟨#[c]⟩, fun i _ => x.cps.size ≤ i⟩
theorem turn_str {P : Program} {w : World} {K : PySem.W.Frag} {tg : Expr} (it : Addr) (x : Str) (t : Tok) (ty : String) (hty : ty = "str_ascii_iterator" ∨ ty = "str_iterator") :
    Turn P w K tg (Its x) [it] it (fun i h => h.IsStrIter it ty x t i) where
  mem := by simp
  obj := fun i h st b hb => by
    have e : b = it := by simpa using hb
    subst e
    obtain ⟨o, e, c, d⟩ := st
    exact ⟨o, e, fun v z => by rw [d] at z; cases z⟩
  keep := fun i h h' st k => let ⟨o, ho, r⟩ := st; ⟨o, k it (by simp) o ho, r⟩
  item := by
    intro X hP hw hK hc i pins s σ H E I hf st hg
    subst hP hw hK
    obtain ⟨f0, f1, f2, f3, f4, f5⟩ := hf it (by simp)
    have W : Walks X.prog X.w X.A it [it] [it] x.cps.size (SignAt x) (fun i h => h.IsStrIter it ty x t i) := by
      rcases hty with e | e
      · rw [e]; exact Walks.strAscii (I.ok.hd hc) it x t
      · rw [e]; exact Walks.strWide (I.ok.hd hc) it x t
    have hno : ["enumerate", "zip", "dict_itemiterator", "dict_reverseitemiterator", "odict_iterator", "itertools.zip_longest", "itertools.pairwise"].contains ty = false := by
      rcases hty with e | e
      · rw [e]; decide
      · rw [e]; decide
    refine W.item i s _ _ hg st fun v h' tk hv st' kk => ?_
    obtain ⟨c, u, hcx, rfl⟩ := hv
    have I1 : Inv X pins σ H { s with heap := h', toks := tk } := I.turned (fun b o hb e => kk b o (by simpa using hb) e) f0 f1 f3 f4 f5
    obtain ⟨oi, e, cc, dd⟩ := id st'
    exact ⟨_, rfl, go_of (s := { s with heap := h', toks := tk }) e cc dd hno ⟨.str ⟨#[c]⟩, H, I1, ⟨u, rfl⟩, ⟨rfl, c, hcx, rfl⟩, st', fun b hb => (hf b hb).1⟩⟩
  done := by
    intro X hP hw hK hc i pins s σ H E I hf st hg
    subst hP hw hK
    obtain ⟨f0, f1, f2, f3, f4, f5⟩ := hf it (by simp)
    have hx : x.cps[i]? = none := Array.getElem?_eq_none hg
    rcases hty with e | e
    · rw [e] at st
      exact wpAny_pyNext_ascii_end (I.ok.hd hc) st hx fun h' eb => ⟨rfl, I.turned (t' := s.toks) (fun b o hb e => eb b o hb e) f0 f1 f3 f4 f5⟩
    · rw [e] at st
      exact wpAny_pyNext_wide_end (I.ok.hd hc) st hx fun h' eb => ⟨rfl, I.turned (t' := s.toks) (fun b o hb e => eb b o hb e) f0 f1 f3 f4 f5⟩
  self := fun A i s Q E st h => by
    rcases hty with e | e
    · rw [e] at st; exact wpAny_pyIter_striter_ascii st h
    · rw [e] at st; exact wpAny_pyIter_striter_wide st h
def iStr (te : TE) : TI := fun σ H R => te σ H fun v H1 => ∃ x, v = .str x ∧ R (Its x) H1
theorem pi_str {X : Cx} {tg e : Expr} {te : TE} (he : PE X e te) : PI X tg e (iStr te) := by
  intro pins s σ H R I h
  refine thn (he pins s σ H _ I h) fun v s1 ⟨y, H1, I1, r1, x, ex, q⟩ => ?_
  subst ex
  obtain ⟨t, rfl⟩ := r1
  cases ha : x.cps.all (· < 128)
  · exact wpAny_pyIter_wide ha (pi_one (tk := s1.toks) I1 _ (turn_str _ x t "str_iterator" (.inr rfl)) ⟨_, Heap.get?_push_size _ rfl, rfl, rfl⟩ q)
  · exact wpAny_pyIter_ascii ha (pi_one (tk := s1.toks) I1 _ (turn_str _ x t "str_ascii_iterator" (.inl rfl)) ⟨_, Heap.get?_push_size _ rfl, rfl, rfl⟩ q)
section
variable {prog : Program} {w : World} {A : Around} {E : Value → Shared → Prop} {s : Shared}
end
section
variable {X : Cx} {pins : List (Addr × Obj)} {σ : St} {H : Hp} {s : Shared} {d : Addr} {o : Obj}
end
section
variable {P : Program} {w : World} {K : PySem.W.Frag} {tg : Expr} {d : Addr} {o : Obj} {es : Array DictEntry} {ep : Nat}
end
section
variable {X : Cx} {tg e : Expr} {td : TE} {apos cpos : Pos}
end
end L2
section 
namespace Bits
open PySem PyProof.Rows
end Bits
end 
section 
namespace TL
open PySem PySem.Builtin PySem.Builtin.Str PySem.StrLaws
end TL
end 
namespace L2
open PySem PySem.Spec PyProof.Rows
theorem notLong {n : Nat} (h : n ≤ 16777216) : Builtin.Str.tooLong n = false := by
  have e : (2 : Nat) ^ 24 = 16777216 := by decide
  unfold Builtin.Str.tooLong sizeLine
  exact decide_eq_false (by omega)
section
variable {X : Cx} {pins : List (Addr × Obj)} {σ : St} {H : Hp} {s : Shared} {Q : VK}
end
section
variable {X : Cx}
theorem mt0 {id : String} {C : Str → Prop} {g : Str → V} (rule : ∀ (a : Str) (t : Tok) (s : Shared) (Q : Value → Shared → Prop), C a → (∀ (u : Value) (k : Nat), RelV (g a) u → Q u { s with toks := k }) →
    wpAny (model X.prog X.w) X.A (call (.builtin id) [.str a t]) Q X.xe s) : MtR X id (fun x xs H Q => ∃ a, x = .str a ∧ xs = [] ∧ C a ∧ Q (g a) H) := by
  intro pins s σ H x xs v us Q I rx rs h
  obtain ⟨a, rfl, rfl, hc, h⟩ := h
  obtain ⟨t, rfl⟩ := rx
  cases rs
  exact rule a t s _ hc fun u k r => ⟨g a, H, I.tok k, r, h⟩
theorem mt_lower : MtR X "str.lower" (fun x xs H Q => ∃ a, x = .str a ∧ xs = [] ∧ a.length ≤ 5592405 ∧ Q (.str (Txt.lower a)) H) :=
  mt0 (C := fun a => a.length ≤ 5592405) (g := fun a => .str (Txt.lower a)) fun a _ s _ hc h =>
    PySem.SC.lower (notLong (by have h1 : a.length ≤ 5592405 := hc; have := PyProof.Rows.len_lower a; omega)) (h _ (s.toks + 1) ⟨_, rfl⟩)
end
section
variable {X : Cx} {o e : Expr} {to te : TE}
def tM0 (r : V → List V → Hp → VK → Prop) (to : TE) : TE := fun σ H Q => to σ H fun x H1 => (∃ a, x = .str a) ∧ r x [] H1 Q
theorem pe_m0 {id : String} {name : Str} {apos pos : Pos} {r : V → List V → Hp → VK → Prop} (slot : Slot "str" name id) (ty : typeOf (.builtin id) = pure (.type "method_descriptor")) (rule : MtR X id r) (ho : PE X o to)
    (hbase : attributeBase o name X.env (eval o X.env) = eval o X.env := by rfl) (hline : (apos.endLine == pos.line) = true := by rfl) : PE X (.Call (.Attribute o name apos) [] [] pos) (tM0 r to) := by
  intro pins s σ H Q I h
  refine PySem.Call_method0 hbase hline (thn (ho pins s σ H _ I h) fun v s1 ⟨x, H1, I1, r1, q1⟩ => ?_)
  obtain ⟨⟨a, rfl⟩, q1⟩ := q1
  obtain ⟨t, rfl⟩ := _root_.id r1
  exact ⟨"str", _, F.plainAttrs_str, slot, ty, typeIs_str _ _ _, (fun _ e => nomatch e), Calls.callWith_builtin rfl (PySem.evalArgs_none (rule pins s1 σ H1 _ [] _ [] Q I1 r1 .nil q1))⟩
theorem pe_lower {apos pos : Pos} (ho : PE X o to) (hbase : attributeBase o "lower" X.env (eval o X.env) = eval o X.env := by rfl) (hline : (apos.endLine == pos.line) = true := by rfl) :
    PE X (.Call (.Attribute o "lower" apos) [] [] pos) (tM0 (fun x xs H Q => ∃ a, x = .str a ∧ xs = [] ∧ a.length ≤ 5592405 ∧ Q (.str (Txt.lower a)) H) to) :=
  pe_m0 F.slot_str_lower F.type_str_lower mt_lower ho hbase hline
end
end L2
namespace L2
open PySem PySem.Spec PyProof.Rows
section
variable {X : Cx}
theorem op_in_sign : OpR X (compareOp .In) (fun x y H Q => ∃ (c : Nat) (z : Str), x = .str ⟨#[c]⟩ ∧ y = .str z ∧ Q (.bl (decide (c ∈ z.cps.toList))) H) := by
  intro pins s σ H x y v u Q I rx ry h
  obtain ⟨c, z, rfl, rfl, q⟩ := h
  obtain ⟨t, rfl⟩ := rx
  obtain ⟨t', rfl⟩ := ry
  exact PyProof.Rows.in_str (fin_bl I q (PySem.StrLaws.found_one z c).symm)
end
end L2
namespace Att
open PySem PySem.W PySem.Calls PyProof.Rows
theorem ints_of_wellAll {P : Params} {h : Heap} : ∀ (ns : List Int) (vs : List Value), WellAll P h vs (ns.map WData.int) → IntsAre vs ns := by
  intro ns
  induction ns with
  | nil =>
    intro vs w
    rw [List.map_nil] at w
    cases w
    exact .nil
  | cons n ns ih =>
    intro vs w
    rw [List.map_cons] at w
    cases w with
    | cons a b =>
      cases a
      exact .cons _ _ (ih _ b)
section
variable {prog : Program} {w : World} {A : Around} {E : Value → Shared → Prop} {s : Shared} {K : Frag}
end
end Att
namespace L2
open PySem PySem.Spec PyProof.Rows
theorem vals_ints : ∀ {vs : List Value} {ns : List Int}, IntsAre vs ns → Vals (ns.map V.int) vs
  | _, _, .nil => .nil
  | _, _, .cons n t h => .cons ⟨t, rfl⟩ (vals_ints h)
def Only (H : Hp) : Prop := ∀ b, H b = none ∨ ∃ o xs, H b = some (.frz o (.lst xs))
end L2
namespace L2
open PySem PySem.Spec PyProof.Rows
end L2
namespace L2
open PySem PySem.Spec PyProof.Rows
def inClass (s : Stmt) (j : Nat) : Stmt := match s with
  | .ClassDef _ _ _ body _ _ _ _ _ _ _ => body.getD j (.Pass ⟨0, 0, 0, 0⟩)
  | _ => .Pass ⟨0, 0, 0, 0⟩
def defArgs (s : Stmt) : Arguments := match s with
  | .FunctionDef _ a _ _ _ _ _ _ _ _ => a
  | _ => { posonlyargs := [], args := [], vararg := none, kwonlyargs := [], kw_defaults := [], kwarg := none, defaults := [] }
def defBody (s : Stmt) : List Stmt := match s with
  | .FunctionDef _ _ b _ _ _ _ _ _ _ => b
  | _ => []
def defScope (s : Stmt) : Scope := match s with
  | .FunctionDef _ _ _ _ _ _ sc _ _ _ => sc
  | _ => { kind := .function, names := [], isGenerator := false, isCoroutine := false }
abbrev CX0 : CXT := fun _ _ _ _ _ _ => False
abbrev E0 : XK := fun _ _ _ => False
theorem pass0 {X : Cx} : Passes CX0 X E0 := fun _ _ _ _ _ _ _ h => h.elim
structure Fun (K : PySem.W.Frag) (x qual : Str) (st : Stmt) (f : Addr) (fd : FuncData) : Prop where
  ex : ∃ (oc : Value) (od : Option Addr) (kV doc pm : Value) (an : Option Addr) (cdv ct : Value) (osl : Array (Option Value)),
    fd = PySem.W.fnOf x qual (defArgs st) (defBody st) (defScope st) .none kV doc pm an cdv ct ∧ K.lookup f = some ⟨oc, od, .func fd, osl⟩ ∧ PySem.W.codeIn K cdv qual = true
  kp : PySem.W.keepIn K (.ref f) = true
section
variable {P : Program} {w : World} {K : PySem.W.Frag} {mg : Str → Option Value} {base : Heap}
theorem Fun.ok {x qual : Str} {st : Stmt} {f : Addr} {fd : FuncData} {N ps : List Str} {k : Nat} {sp : Sp} (F : Fun K x qual st f fd) (S : FnScope N ps (defScope st)) (len : ∀ vs H Q E, sp vs H Q E → vs.length = ps.length)
    (hbody : ∀ (cdv : Value) (A : Around) (outer : List Env) (s : Shared) (H : Hp) (vs : List V) (Q : VK) (E : XK), Room k (A.deeper (envOfC qual (defScope st) s.heap.objs.size f cdv)) → sp vs H Q E →
      ∃ t, PSs (cxOf CX0 P w K mg base N qual (defScope st) f cdv A outer s H E).nox (defBody st) t ∧ t { nx := fun _ H' => Q .non H', rt := Q } (start N vs) H) : FnOk P w K mg base CX0 (k + 1) f fd ps sp := by
  obtain ⟨oc, od, kV, doc, pm, an, cdv, ct, osl, rfl, lk, hcd⟩ := F.ex
  refine fn_of lk hcd S len fun A outer s H vs Q E hr hsp => ?_
  obtain ⟨t, h, q⟩ := hbody cdv A outer s H vs Q E hr hsp
  exact ⟨t, h.nox, q⟩
theorem Fun.binds {x qual : Str} {st : Stmt} {f : Addr} {fd : FuncData} {ps : List Str} (F : Fun K x qual st f fd)
    (h : ∀ (kV doc pm : Value) (an : Option Addr) (cdv ct : Value) (us : List Value), us.length = ps.length → bindArgs (PySem.W.fnOf x qual (defArgs st) (defBody st) (defScope st) .none kV doc pm an cdv ct) ⟨us, []⟩ = pure (ps.zip us)) : Binds K fd ps [] := by
  obtain ⟨oc, od, kV, doc, pm, an, cdv, ct, osl, rfl, lk, hcd⟩ := F.ex
  exact .all (h kV doc pm an cdv ct)
theorem fun_mk {x qual : Str} {st : Stmt} {f : Addr} {oc : Value} {od an : Option Addr} {osl : Array (Option Value)} {kV doc pm cdv ct : Value} (l : K.lookup f = some ⟨oc, od, .func (PySem.W.fnOf x qual (defArgs st) (defBody st) (defScope st) .none kV doc pm an cdv ct), osl⟩)
    (c : PySem.W.codeIn K cdv qual = true) (k : PySem.W.keepIn K (.ref f) = true) : Fun K x qual st f (PySem.W.fnOf x qual (defArgs st) (defBody st) (defScope st) .none kV doc pm an cdv ct) := ⟨⟨oc, od, kV, doc, pm, an, cdv, ct, osl, rfl, l, c⟩, k⟩
end
theorem hu_of {A : Around} {k : Nat} (hr : Room k A) : A.units + 1 < cLine := Nat.lt_of_le_of_lt (Nat.add_le_add_left (by decide : 1 ≤ 64) _) hr.units
section
variable {X : Cx}
theorem pv (i : Nat) {x : Str} {pos : Pos} (hN : X.N[i]? = some x := by rfl) (hv : Vis X.env.scope x := by first | exact Or.inl rfl | exact Or.inr (Or.inl rfl) | exact Or.inr (Or.inr rfl)) (hd : (x == ("__debug__" : Str)) = false := by decide)
    (hcd : (x == ("__classdict__" : Str)) = false := by decide) : PE X (.Name x pos) (tVar i) := pe_var hN hv hd hcd
end
theorem iteF {A B : Prop} (h : B) : if false = true then A else B := by
  rw [if_neg Bool.false_ne_true]
  exact h
theorem iteT {A B : Prop} (h : A) : if true = true then A else B := by
  rw [if_pos rfl]
  exact h
def Same (H H' : Hp) : Prop := ∀ b o, H b = some o → H' b = some o
theorem Same.refl (H : Hp) : Same H H := fun _ _ h => h
theorem Same.trans {H H1 H2 : Hp} (a : Same H H1) (b : Same H1 H2) : Same H H2 := fun c o h => b c o (a c o h)
theorem Same.free {H H' : Hp} (e : Same H H') {l : Addr} (h : H' l = Option.none) : H l = Option.none := by
  cases q : H l with
  | none => rfl
  | some o =>
    rw [e l o q] at h
    cases h
theorem Same.seq {K : PySem.W.Frag} {H H' : Hp} {a : Addr} {xs : List V} (e : Same H H') (h : SqL K H a xs) : SqL K H' a xs := by
  rcases h with (h | ⟨o, h⟩) | h
  · exact .inl (.inl (e _ _ h))
  · exact .inl (.inr ⟨o, e _ _ h⟩)
  · exact .inr h
section
variable {κ : Type} [DecidableEq κ]
end
theorem at_of {xs : List V} {z : Int} {j : Nat} {v : V} (e : z = (j : Int)) (h : xs[j]? = some v) : atI xs z = some v := by
  rw [e]
  exact atI_nat h
theorem Same.made {H H1 : Hp} {x dx C : Addr} (nx : H x = Option.none) (nd : H dx = Option.none) (k : ∀ b o, (upd (upd H dx (.own x)) x (.ins C dx [])) b = some o → b ≠ x → H1 b = some o) : Same H H1 := fun b o e =>
  k b o (by rw [upd_ne (ne_of_none e nx), upd_ne (ne_of_none e nd)]; exact e) (ne_of_none e nx)
end L2
section
namespace MH
open PySem PySem.W
def sxl : Nat → Nat → List Nat
  | 0, _ => []
  | k + 1, n => match Nat.beq n 0 with
    | true => []
    | false => Nat.mod n 256 :: sxl k (Nat.div n 256)
def sx (n : Nat) : Str := ⟨⟨sxl 64 n⟩⟩
def vs (n t : Nat) : Value := .str (sx n) t
def vi (n t : Nat) : Value := .int (Int.ofNat n) t
def vr (a : Nat) : Value := .ref a
def oT (l : List Value) : Obj := { cls := .type "tuple", data := .seq ⟨l⟩ }
def oF (l : List Value) : Obj := { cls := .none, data := .fields ⟨l⟩ }
def oC (l : List Value) : Obj := { cls := .type "code", data := .fields ⟨l⟩ }
def oD (l : List DictEntry) (e : Nat) : Obj := { cls := .type "dict", data := .dict ⟨l⟩ e }
def de (P : Params) (n t : Nat) (v : Value) : DictEntry := ⟨PyData.keyHash P (sx n), .str (sx n) t, v⟩
def di (n t : Nat) (v : Value) : DictEntry := ⟨Int.ofNat n, vi n t, v⟩
def tp (p : Program) (i : Nat) : Stmt := p.main.body.getD i (.Pass ⟨0, 0, 0, 0⟩)
def oU (c : Value) (st : Stmt) (nm qn g : Nat) (md cd : Value) : Obj :=
  { cls := c, data := .func { name := sx nm, qualname := sx qn, params := L2.defArgs st, body := .stmts (L2.defBody st), scope := L2.defScope st, globals := g, closure := [], defaults := .none, kwdefaults := .none, pyModule := md, code := cd } }
def bt (f : Nat → Obj) (n : Nat) : Nat → Nat → Nat → BT
  | 0, _, _ => .nil
  | k + 1, a, b => match Nat.blt b n with
    | true => .node (f b) (bt f n k (Nat.mul 2 a) (Nat.add a b)) (bt f n k (Nat.mul 2 a) (Nat.add (Nat.mul 2 a) b))
    | false => .nil
end MH
set_option maxRecDepth 100000
set_option maxHeartbeats 0
namespace MH
open PySem PySem.W
noncomputable def g3l (P : Params) : List DictEntry :=
  [de P 0x5f5f636f645f5f 166 (.none),
   de P 0x5f5f6567616b6361705f5f 167 (.none),
   de P 0x5f5f726564616f6c5f5f 168 (.builtin "__main__.__loader__#opaque"),
   de P 0x5f5f636570735f5f 169 (.none),
   de P 0x5f5f736e6f697461746f6e6e615f5f 170 (vr 6),
   de P 0x5f5f736e69746c6975625f5f 171 (vr 4),
   de P 0x5f5f656c69665f5f 173 (vs 0x79702e7475632f6d69616c632f 172),
   de P 0x5f5f6465686361635f5f 174 (.none),
   de P 0x53455254454d494c4c494d 190 (vi 10 189),
   de P 0x534548434e49 192 (vi 254 191),
   de P 0x53454c4f48 196 (vr 15),
   de P 0x656e696863614d 268 (vr 60),
   de P 0x424154 272 (vi 9 271),
   de P 0x444545465f454e494c 274 (vi 10 273),
   de P 0x4e5255544552 276 (vi 13 275),
   de P 0x4b4e414c42 278 (vi 32 277),
   de P 0x544e4543524550 280 (vi 37 279),
   de P 0x534e494745425f45544f4e 282 (vi 40 281),
   de P 0x53444e455f45544f4e 284 (vi 41 283),
   de P 0x53554c50 286 (vi 43 285),
   de P 0x53554e494d 288 (vi 45 287),
   de P 0x544e494f50 290 (vi 46 289),
   de P 0x4853414c53 292 (vi 47 291),
   de P 0x4f52455a 294 (vi 48 293),
   de P 0x454e494e 296 (vi 57 295),
   de P 0x4e4f4c4f43494d4553 298 (vi 59 297),
   de P 0x544e494f505f45524f4645425f54534f4d 300 (vi 6 299),
   de P 0x544e494f505f444e494845425f54534f4d 302 (vi 4 301),
   de P 0x454e4f 304 (vi 10000 303),
   de P 0x5352455454454c 306 (vs 0x4e5453465051524b4a495a59584d47 305),
   de P 0x4f52455a5f574f4c45425f524556454e 308 (vs 0x4e50545346 307),
   de P 0x5350554f52475f47 381 (vr 65),
   de P 0x5350554f52475f4d 415 (vr 67),
   de P 0x6542746f6e6e6143656e694c 433 (vr 77),
   de P 0x7364726f57 497 (vr 123),
   de P 0x73656e696c5f74696c7073 507 (vr 134),
   de P 0x74615f64656b6f6f6c5f74726170 516 (vr 141),
   de P 0x7364726f775f64616572 527 (vr 148),
   de P 0x666f5f72657474656c 535 (vr 155),
   de P 0x736b6e616c625f74736170 543 (vr 162),
   de P 0x65746f6e5f74736170 551 (vr 169),
   de P 0x7374696769645f74736170 559 (vr 176),
   de P 0x7265626d756e5f74736170 571 (vr 183),
   de P 0x736874646e6173756f68745f6e6574 582 (vr 190),
   de P 0x53455841 586 (vs 0x5a5958 585),
   de P 0x534552544e4543 588 (vs 0x4b4a49 587),
   de P 0x53435241 591 (vr 191),
   de P 0x53454e414c50 607 (vr 192),
   de P 0x45434e455245464649445f54534f4d 609 (vi 200 608),
   de P 0x534b4345505f54534f4d 611 (vi 1000 610),
   de P 0x4b4345505f5453414c5f45564f4241 613 (vi 25000 612),
   de P 0x65766f6d5f74736166 620 (vr 202),
   de P 0x65766f6d5f7468676961727473 628 (vr 209),
   de P 0x65766f6d5f726568746f 637 (vr 216),
   de P 0x7365766f6d5f6e6f69746f6d 647 (vr 223),
   de P 0x656c637269635f736c6c6574 654 (vr 230),
   de P 0x7365766f6d5f656e696c 662 (vr 237),
   de P 0x646565665f65726975716572 669 (vr 244),
   de P 0x6563616c705f646e65 675 (vr 249),
   de P 0x736978615f6e6f5f646e65 685 (vr 256),
   de P 0x7365766f6d5f637261 699 (vr 263),
   de P 0x736978615f6e6f5f6572746e6563 708 (vr 270),
   de P 0x65636e61747369645f666f5f657261757173 717 (vr 277),
   de P 0x7261656e5f6572615f73746f6f72 728 (vr 284),
   de P 0x7365766f6d5f73656c6f68 740 (vr 291),
   de P 0x737265626d756e5f656c6f685f656b6174 750 (vr 298),
   de P 0x656c6f685f65726975716572 757 (vr 305),
   de P 0x7365766f6d5f6b636570 772 (vr 312),
   de P 0x4e494749524f5f5453524946 776 (vi 54 775),
   de P 0x656e696c5f666f5f7365766f6d 785 (vr 319),
   de P 0x6d6172676f72705f73646e65 792 (vr 326),
   de P 0x656c74746573 801 (vr 333),
   de P 0x7365766f6d5f65646973 811 (vr 340),
   de P 0x7365766f6d5f6e69616d 820 (vr 347),
   de P 0x65766f6d5f74696177 827 (vr 354),
   de P 0x736563616c705f66666f5f747570 833 (vr 359),
   de P 0x736978615f6e6f5f66666f5f747570 843 (vr 366),
   de P 0x5241454c43 847 (vi 1 846),
   de P 0x4e494749524f 849 (vi 2 848),
   de P 0x4e5552 851 (vi 3 850),
   de P 0x534e494749524f 853 (vi 6 852),
   de P 0x4e494749524f5f54534f4d 855 (vi 1000000000000 854),
   de P 0x5345564f4d5f54534f4d 857 (vi 65536 856),
   de P 0x455a49535f45564f4d 859 (vi 1152921504606846976 858),
   de P 0x444553554645525f4e5552 861 (vi 4000000 860),
   de P 0x54534f4d5f4e4148545f45524f4d 863 (vi 2000000 862),
   de P 0x6c6c694d 929 (vr 409),
   de P 0x666f5f737265626d756e 938 (vr 420),
   de P 0x656772616c5f736168 945 (vr 427),
   de P 0x73726577736e61 956 (vr 434),
   de P 0x6c6c61635f666f5f726577736e61 965 (vr 441),
   de P 0x6c6c61635f74736170 973 (vr 448)]
noncomputable def g3 (P : Params) (nm : Value) (k e : Nat) : Obj := oD (de P 0x5f5f656d616e5f5f 165 nm :: (g3l P).take k) e
noncomputable def l12 : List Value :=
  [vi 5 0, vi 0 0, vr 21, vi 71 0, vi 0 0, vr 73, vi 73 0, vi 0 0, vr 86, vi 105 0, vi 0 0, vr 133, vi 116 0, vi 0 0, vr 140, vi 123 0, vi 0 0, vr 147, vi 137 0, vi 0 0, vr 154, vi 142 0, vi 0 0, vr 161, vi 146 0, vi 0 0, vr 168, vi 152 0, vi 0 0, vr 175, vi 156 0, vi 0 0, vr 182, vi 169 0, vi 0 0, vr 189, vi 191 0, vi 0 0, vr 201, vi 193 0, vi 0 0, vr 208, vi 195 0, vi 0 0, vr 215, vi 197 0, vi 0 0, vr 222, vi 212 0, vi 0 0, vr 229, vi 214 0, vi 0 0, vr 236, vi 220 0, vi 0 0, vr 243, vi 223 0, vi 0 0, vr 248, vi 225 0, vi 0 0, vr 255, vi 234 0, vi 0 0, vr 262, vi 248 0, vi 0 0, vr 269, vi 250 0, vi 0 0, vr 276, vi 252 0, vi 0 0, vr 283, vi 257 0, vi 0 0, vr 290, vi 276 0, vi 0 0, vr 297, vi 287 0, vi 0 0, vr 304, vi 295 0, vi 0 0, vr 311, vi 312 0, vi 0 0, vr 318, vi 319 0, vi 0 0, vr 325, vi 321 0, vi 0 0, vr 332, vi 333 0, vi 0 0, vr 339, vi 344 0, vi 0 0, vr 346, vi 352 0, vi 0 0, vr 353, vi 356 0, vi 0 0, vr 358, vi 360 0, vi 0 0, vr 365, vi 375 0, vi 0 0, vr 372, vi 418 0, vi 0 0, vr 419, vi 423 0, vi 0 0, vr 426, vi 425 0, vi 0 0, vr 433, vi 435 0, vi 0 0, vr 440, vi 443 0, vi 0 0, vr 447]
noncomputable def c0 (p : Program) (B : List Obj) (P : Params) : List Obj :=
  [B.getD 0 default,
   B.getD 1 default,
   B.getD 2 default,
   g3 P (vs 0x656e696863616d2e7364726f776c6c696d 844) 92 93,
   B.getD 4 default,
   B.getD 5 default,
   B.getD 6 default,
   B.getD 7 default,
   B.getD 8 default,
   B.getD 9 default,
   B.getD 10 default,
   oT [],
   oF l12,
   oC [vs 0x3e656c75646f6d3c 182, vs 0x3e656c75646f6d3c 183, vs 0x79702e7475632f6d69616c632f 184, vi 1 0, vi 0 0, vi 0 0, vi 0 0, vi 0 0, vr 11, .bool false, vi 181 0, vr 12, .none, .none, .none, .none, vi 185 0, vi 1 0, vs 0x79702e7475632f6d69616c632f 186],
   { cls := .type "frame", slots := ⟨[some (vr 13), some (vr 3), some (vr 3), none, some (vs 0x5f5f6e69616d5f5f 164), none, some (vr 0)]⟩ },
   oT [vi 81 193, vi 82 194, vi 83 195],
   oT [],
   { cls := .type "builtin_function_or_method", data := .fields ⟨[.builtin "type.__prepare__", .type "type"]⟩ },
   oD [de P 0x5f5f656c75646f6d5f5f 204 (vs 0x65746174732e7364726f776c6c696d 187), de P 0x5f5f656d616e6c6175715f5f 206 (vs 0x656e696863614d 205), de P 0x5f5f6f6e656e696c74737269665f5f 208 (vi 5 207), de P 0x5f5f74696e695f5f 215 (vr 29), de P 0x73656c6f685f6e69676562 222 (vr 36), de P 0x6e697774 230 (vr 43), de P 0x6874676e656c 238 (vr 50), de P 0x6f72657a5f6d6172676f7270 246 (vr 57), de P 0x5f5f736574756269727474615f6369746174735f5f 261 (vr 58)] 9,
   oT [],
   oF [vi 7 0, vi 4 0, vr 28, vi 19 0, vi 4 0, vr 35, vi 26 0, vi 4 0, vr 42, vi 44 0, vi 4 0, vr 49, vi 47 0, vi 4 0, vr 56],
   oC [vs 0x656e696863614d 199, vs 0x656e696863614d 200, vs 0x79702e7475632f6d69616c632f 201, vi 5 0, vi 0 0, vi 0 0, vi 0 0, vi 0 0, vr 19, .bool false, vi 181 0, vr 20, .none, .none, .none, .none, vi 202 0, vi 5 0, vs 0x79702e7475632f6d69616c632f 203],
   { cls := .type "frame", slots := ⟨[some (vr 21), some (vr 3), some (vr 18), none, some (vs 0x65746174732e7364726f776c6c696d 187), none, some (vr 0)]⟩ },
   oT [],
   oF [],
   oT [vs 0x666c6573 212],
   oT [],
   oU (.none) (L2.inClass (tp p 4) 0) 0x5f5f74696e695f5f 0x5f5f74696e695f5f2e656e696863614d 0 (.none) (.none),
   oC [vs 0x5f5f74696e695f5f 209, vs 0x5f5f74696e695f5f2e656e696863614d 210, vs 0x79702e7475632f6d69616c632f 211, vi 7 0, vi 1 0, vi 0 0, vi 0 0, vi 3 0, vr 23, .bool true, vi 181 0, vr 24, .none, vr 25, vr 26, vr 27, vi 213 0, vi 7 0, vs 0x79702e7475632f6d69616c632f 214],
   oU (.type "function") (L2.inClass (tp p 4) 0) 0x5f5f74696e695f5f 0x5f5f74696e695f5f2e656e696863614d 3 (vs 0x65746174732e7364726f776c6c696d 187) (vr 28),
   oT [],
   oF []]
noncomputable def c1 (p : Program) (B : List Obj) (P : Params) : List Obj :=
  [oT [vs 0x666c6573 219],
   oT [],
   oU (.none) (L2.inClass (tp p 4) 1) 0x73656c6f685f6e69676562 0x73656c6f685f6e696765622e656e696863614d 0 (.none) (.none),
   oC [vs 0x73656c6f685f6e69676562 216, vs 0x73656c6f685f6e696765622e656e696863614d 217, vs 0x79702e7475632f6d69616c632f 218, vi 19 0, vi 1 0, vi 0 0, vi 0 0, vi 3 0, vr 30, .bool true, vi 181 0, vr 31, .none, vr 32, vr 33, vr 34, vi 220 0, vi 19 0, vs 0x79702e7475632f6d69616c632f 221],
   oU (.type "function") (L2.inClass (tp p 4) 1) 0x73656c6f685f6e69676562 0x73656c6f685f6e696765622e656e696863614d 3 (vs 0x65746174732e7364726f776c6c696d 187) (vr 35),
   oT [],
   oF [],
   oT [vs 0x666c6573 226, vs 0x726568746f 227],
   oT [],
   oU (.none) (L2.inClass (tp p 4) 2) 0x6e697774 0x6e6977742e656e696863614d 0 (.none) (.none),
   oC [vs 0x6e697774 223, vs 0x6e6977742e656e696863614d 224, vs 0x79702e7475632f6d69616c632f 225, vi 26 0, vi 1 0, vi 0 0, vi 0 0, vi 3 0, vr 37, .bool true, vi 181 0, vr 38, .none, vr 39, vr 40, vr 41, vi 228 0, vi 26 0, vs 0x79702e7475632f6d69616c632f 229],
   oU (.type "function") (L2.inClass (tp p 4) 2) 0x6e697774 0x6e6977742e656e696863614d 3 (vs 0x65746174732e7364726f776c6c696d 187) (vr 42),
   oT [],
   oF [],
   oT [vs 0x666c6573 234, vs 0x7265626d756e 235],
   oT [],
   oU (.none) (L2.inClass (tp p 4) 3) 0x6874676e656c 0x6874676e656c2e656e696863614d 0 (.none) (.none),
   oC [vs 0x6874676e656c 231, vs 0x6874676e656c2e656e696863614d 232, vs 0x79702e7475632f6d69616c632f 233, vi 44 0, vi 2 0, vi 0 0, vi 0 0, vi 3 0, vr 44, .bool true, vi 181 0, vr 45, .none, vr 46, vr 47, vr 48, vi 236 0, vi 44 0, vs 0x79702e7475632f6d69616c632f 237],
   oU (.type "function") (L2.inClass (tp p 4) 3) 0x6874676e656c 0x6874676e656c2e656e696863614d 3 (vs 0x65746174732e7364726f776c6c696d 187) (vr 49),
   oT [],
   oF [],
   oT [vs 0x666c6573 242, vs 0x73697861 243],
   oT [],
   oU (.none) (L2.inClass (tp p 4) 4) 0x6f72657a5f6d6172676f7270 0x6f72657a5f6d6172676f72702e656e696863614d 0 (.none) (.none),
   oC [vs 0x6f72657a5f6d6172676f7270 239, vs 0x6f72657a5f6d6172676f72702e656e696863614d 240, vs 0x79702e7475632f6d69616c632f 241, vi 47 0, vi 2 0, vi 0 0, vi 0 0, vi 3 0, vr 51, .bool true, vi 181 0, vr 52, .none, vr 53, vr 54, vr 55, vi 244 0, vi 47 0, vs 0x79702e7475632f6d69616c632f 245],
   oU (.type "function") (L2.inClass (tp p 4) 4) 0x6f72657a5f6d6172676f7270 0x6f72657a5f6d6172676f72702e656e696863614d 3 (vs 0x65746174732e7364726f776c6c696d 187) (vr 56),
   oT [vs 0x6874706564 247, vs 0x64656566 248, vs 0x746867696568 249, vs 0x6c6576656c 250, vs 0x6e6f69746f6d 251, vs 0x6e696769726f 252, vs 0x736e696769726f 253, vs 0x6b636570 254, vs 0x6563616c70 255, vs 0x656e616c70 256, vs 0x66666f5f747570 257, vs 0x7370657473 258, vs 0x74696e75 259, vs 0x74696177 260],
   oD [de P 0x5f5f656c75646f6d5f5f 204 (vs 0x65746174732e7364726f776c6c696d 187), de P 0x5f5f6f6e656e696c74737269665f5f 208 (vi 5 207), de P 0x5f5f74696e695f5f 215 (vr 29), de P 0x73656c6f685f6e69676562 222 (vr 36), de P 0x6e697774 230 (vr 43), de P 0x6874676e656c 238 (vr 50), de P 0x6f72657a5f6d6172676f7270 246 (vr 57), de P 0x5f5f736574756269727474615f6369746174735f5f 261 (vr 58), de P 0x5f5f746369645f5f 263 (vr 61), de P 0x5f5f6665726b6165775f5f 265 (vr 62), de P 0x5f5f636f645f5f 266 (.none)] 4,
   { cls := .type "type", data := .cls { name := sx 0x656e696863614d, bases := [.type "object"], mro := [vr 60, .type "object"], ns := 59, qualname := sx 0x656e696863614d }, slots := ⟨[none, none, some (vs 0x656e696863614d 197), some (vs 0x656e696863614d 205), some (.builtin "object.__new__"), some (.bool true)]⟩ },
   { cls := .type "getset_descriptor", data := .fields ⟨[vs 0x5f5f746369645f5f 262, vr 60, .builtin "function.__dict__", .builtin "function.__dict__#set"]⟩ },
   { cls := .type "getset_descriptor", data := .fields ⟨[vs 0x5f5f6665726b6165775f5f 264, vr 60, .builtin "ExceptionGroup.__weakref__", .none]⟩ },
   { cls := .type "super", data := .fields ⟨[vr 60, vr 60, vr 60]⟩ }]
noncomputable def c2 (p : Program) (B : List Obj) (P : Params) : List Obj :=
  [{ cls := .type "builtin_function_or_method", data := .fields ⟨[.builtin "object.__init_subclass__", vr 60]⟩ },
   oD [di 0 309 (vs 0x6e6f69746f6d 310), di 1 312 (vs 0x6e6f69746f6d 313), di 2 315 (vs 0x6e6f69746f6d 316), di 3 318 (vs 0x6e6f69746f6d 319), di 80 321 (vs 0x6e6f69746f6d 322), di 81 324 (vs 0x6e6f69746f6d 325), di 82 327 (vs 0x6e6f69746f6d 328), di 83 330 (vs 0x6e6f69746f6d 331), di 17 333 (vs 0x656e616c70 334), di 18 336 (vs 0x656e616c70 337), di 19 339 (vs 0x656e616c70 340), di 20 342 (vs 0x74696e75 343), di 21 345 (vs 0x74696e75 346), di 54 348 (vs 0x6e696769726f 349), di 55 351 (vs 0x6e696769726f 352), di 56 354 (vs 0x6e696769726f 355), di 57 357 (vs 0x6e696769726f 358), di 58 360 (vs 0x6e696769726f 361), di 59 362 (vs 0x6e696769726f 363), di 90 364 (vs 0x796177 365), di 91 366 (vs 0x796177 367), di 4 368 (vs 0x6c616963657073 369), di 53 370 (vs 0x6c616963657073 371), di 92 372 (vs 0x6c616963657073 373)] 24,
   oD [di 58 360 (vs 0x6e696769726f 361), di 59 362 (vs 0x6e696769726f 363), di 90 364 (vs 0x796177 365), di 91 366 (vs 0x796177 367), di 4 368 (vs 0x6c616963657073 369), di 53 370 (vs 0x6c616963657073 371), di 92 372 (vs 0x6c616963657073 373)] 7,
   oD [di 6 382 (vs 0x6c6f6f74 383), di 3 384 (vs 0x656c646e697073 385), di 4 386 (vs 0x656c646e697073 387), di 5 388 (vs 0x656c646e697073 389), di 7 390 (vs 0x676e696c6f6f63 391), di 8 392 (vs 0x676e696c6f6f63 393), di 9 394 (vs 0x676e696c6f6f63 395), di 0 396 (vs 0x706f7473 397), di 1 398 (vs 0x706f7473 399), di 2 400 (vs 0x706f7473 401), di 30 402 (vs 0x706f7473 403)] 11,
   oT [.type "ValueError"],
   { cls := .type "builtin_function_or_method", data := .fields ⟨[.builtin "type.__prepare__", .type "type"]⟩ },
   oD [de P 0x5f5f656c75646f6d5f5f 423 (vs 0x7364726f772e7364726f776c6c696d 269), de P 0x5f5f656d616e6c6175715f5f 425 (vs 0x6542746f6e6e6143656e694c 424), de P 0x5f5f6f6e656e696c74737269665f5f 427 (vi 71 426), de P 0x5f5f736574756269727474615f6369746174735f5f 428 (vr 75)] 4,
   oT [],
   oF [],
   oC [vs 0x6542746f6e6e6143656e694c 418, vs 0x6542746f6e6e6143656e694c 419, vs 0x79702e7475632f6d69616c632f 420, vi 71 0, vi 0 0, vi 0 0, vi 0 0, vi 0 0, vr 71, .bool false, vi 181 0, vr 72, .none, .none, .none, .none, vi 421 0, vi 71 0, vs 0x79702e7475632f6d69616c632f 422],
   { cls := .type "frame", slots := ⟨[some (vr 73), some (vr 3), some (vr 70), none, some (vs 0x7364726f772e7364726f776c6c696d 269), none, some (vr 0)]⟩ },
   oT [],
   oD [de P 0x5f5f656c75646f6d5f5f 423 (vs 0x7364726f772e7364726f776c6c696d 269), de P 0x5f5f6f6e656e696c74737269665f5f 427 (vi 71 426), de P 0x5f5f736574756269727474615f6369746174735f5f 428 (vr 75), de P 0x5f5f6665726b6165775f5f 430 (vr 78), de P 0x5f5f636f645f5f 431 (.none)] 3,
   { cls := .type "type", data := .cls { name := sx 0x6542746f6e6e6143656e694c, bases := [.type "ValueError"], mro := [vr 77, .type "ValueError", .type "Exception", .type "BaseException", .type "object"], ns := 76, qualname := sx 0x6542746f6e6e6143656e694c }, slots := ⟨[some (vr 68), none, some (vs 0x6542746f6e6e6143656e694c 416), some (vs 0x6542746f6e6e6143656e694c 424), some (.builtin "ValueError.__new__"), some (.bool true)]⟩ },
   { cls := .type "getset_descriptor", data := .fields ⟨[vs 0x5f5f6665726b6165775f5f 429, vr 77, .builtin "ExceptionGroup.__weakref__", .none]⟩ },
   { cls := .type "super", data := .fields ⟨[vr 77, vr 77, vr 77]⟩ },
   { cls := .type "builtin_function_or_method", data := .fields ⟨[.builtin "object.__init_subclass__", vr 77]⟩ },
   oT [],
   { cls := .type "builtin_function_or_method", data := .fields ⟨[.builtin "type.__prepare__", .type "type"]⟩ },
   oD [de P 0x5f5f656c75646f6d5f5f 441 (vs 0x7364726f772e7364726f776c6c696d 269), de P 0x5f5f656d616e6c6175715f5f 443 (vs 0x7364726f57 442), de P 0x5f5f6f6e656e696c74737269665f5f 445 (vi 73 444), de P 0x5f5f74696e695f5f 452 (vr 94), de P 0x656b6174 461 (vr 101), de P 0x7265626d756e5f656b6174 470 (vr 108), de P 0x65646f635f656b6174 481 (vr 115), de P 0x666f5f656e6f5f736c6c6574 487 (vr 120), de P 0x5f5f736574756269727474615f6369746174735f5f 490 (vr 121)] 9,
   oT [],
   oF [vi 75 0, vi 4 0, vr 93, vi 79 0, vi 4 0, vr 100, vi 85 0, vi 4 0, vr 107, vi 92 0, vi 4 0, vr 114, vi 103 0, vi 4 0, vr 119],
   oC [vs 0x7364726f57 436, vs 0x7364726f57 437, vs 0x79702e7475632f6d69616c632f 438, vi 73 0, vi 0 0, vi 0 0, vi 0 0, vi 0 0, vr 84, .bool false, vi 181 0, vr 85, .none, .none, .none, .none, vi 439 0, vi 73 0, vs 0x79702e7475632f6d69616c632f 440],
   { cls := .type "frame", slots := ⟨[some (vr 86), some (vr 3), some (vr 83), none, some (vs 0x7364726f772e7364726f776c6c696d 269), none, some (vr 0)]⟩ },
   oT [],
   oF [],
   oT [vs 0x666c6573 449],
   oT [],
   oU (.none) (L2.inClass (tp p 28) 0) 0x5f5f74696e695f5f 0x5f5f74696e695f5f2e7364726f57 0 (.none) (.none),
   oC [vs 0x5f5f74696e695f5f 446, vs 0x5f5f74696e695f5f2e7364726f57 447, vs 0x79702e7475632f6d69616c632f 448, vi 75 0, vi 1 0, vi 0 0, vi 0 0, vi 3 0, vr 88, .bool true, vi 181 0, vr 89, .none, vr 90, vr 91, vr 92, vi 450 0, vi 75 0, vs 0x79702e7475632f6d69616c632f 451],
   oU (.type "function") (L2.inClass (tp p 28) 0) 0x5f5f74696e695f5f 0x5f5f74696e695f5f2e7364726f57 3 (vs 0x7364726f772e7364726f776c6c696d 269) (vr 93),
   oT []]
noncomputable def c3 (p : Program) (B : List Obj) (P : Params) : List Obj :=
  [oF [],
   oT [vs 0x666c6573 456, vs 0x72657474656c 457, vs 0x7265626d756e 458],
   oT [],
   oU (.none) (L2.inClass (tp p 28) 1) 0x656b6174 0x656b61742e7364726f57 0 (.none) (.none),
   oC [vs 0x656b6174 453, vs 0x656b61742e7364726f57 454, vs 0x79702e7475632f6d69616c632f 455, vi 79 0, vi 3 0, vi 0 0, vi 0 0, vi 3 0, vr 95, .bool true, vi 181 0, vr 96, .none, vr 97, vr 98, vr 99, vi 459 0, vi 79 0, vs 0x79702e7475632f6d69616c632f 460],
   oU (.type "function") (L2.inClass (tp p 28) 1) 0x656b6174 0x656b61742e7364726f57 3 (vs 0x7364726f772e7364726f776c6c696d 269) (vr 100),
   oT [],
   oF [],
   oT [vs 0x666c6573 465, vs 0x72657474656c 466, vs 0x7265626d756e 467],
   oT [],
   oU (.none) (L2.inClass (tp p 28) 2) 0x7265626d756e5f656b6174 0x7265626d756e5f656b61742e7364726f57 0 (.none) (.none),
   oC [vs 0x7265626d756e5f656b6174 462, vs 0x7265626d756e5f656b61742e7364726f57 463, vs 0x79702e7475632f6d69616c632f 464, vi 85 0, vi 3 0, vi 0 0, vi 0 0, vi 3 0, vr 102, .bool true, vi 181 0, vr 103, .none, vr 104, vr 105, vr 106, vi 468 0, vi 85 0, vs 0x79702e7475632f6d69616c632f 469],
   oU (.type "function") (L2.inClass (tp p 28) 2) 0x7265626d756e5f656b6174 0x7265626d756e5f656b61742e7364726f57 3 (vs 0x7364726f772e7364726f776c6c696d 269) (vr 107),
   oT [],
   oF [],
   oT [vs 0x666c6573 474, vs 0x72657474656c 475, vs 0x7265626d756e 476, vs 0x65646f63 477, vs 0x70756f7267 478],
   oT [],
   oU (.none) (L2.inClass (tp p 28) 3) 0x65646f635f656b6174 0x65646f635f656b61742e7364726f57 0 (.none) (.none),
   oC [vs 0x65646f635f656b6174 471, vs 0x65646f635f656b61742e7364726f57 472, vs 0x79702e7475632f6d69616c632f 473, vi 92 0, vi 3 0, vi 0 0, vi 0 0, vi 3 0, vr 109, .bool true, vi 181 0, vr 110, .none, vr 111, vr 112, vr 113, vi 479 0, vi 92 0, vs 0x79702e7475632f6d69616c632f 480],
   oU (.type "function") (L2.inClass (tp p 28) 3) 0x65646f635f656b6174 0x65646f635f656b61742e7364726f57 3 (vs 0x7364726f772e7364726f776c6c696d 269) (vr 114),
   oT [],
   oF [],
   oU (.none) (L2.inClass (tp p 28) 4) 0x666f5f656e6f5f736c6c6574 0x666f5f656e6f5f736c6c65742e7364726f57 0 (.none) (.none),
   oC [vs 0x666f5f656e6f5f736c6c6574 482, vs 0x666f5f656e6f5f736c6c65742e7364726f57 483, vs 0x79702e7475632f6d69616c632f 484, vi 103 0, vi 2 0, vi 0 0, vi 0 0, vi 3 0, vr 116, .bool true, vi 181 0, vr 117, .none, .none, .none, vr 118, vi 485 0, vi 103 0, vs 0x79702e7475632f6d69616c632f 486],
   oU (.type "function") (L2.inClass (tp p 28) 4) 0x666f5f656e6f5f736c6c6574 0x666f5f656e6f5f736c6c65742e7364726f57 3 (vs 0x7364726f772e7364726f776c6c696d 269) (vr 119),
   oT [vs 0x7365646f63 488, vs 0x737265626d756e 489],
   oD [de P 0x5f5f656c75646f6d5f5f 441 (vs 0x7364726f772e7364726f776c6c696d 269), de P 0x5f5f6f6e656e696c74737269665f5f 445 (vi 73 444), de P 0x5f5f74696e695f5f 452 (vr 94), de P 0x656b6174 461 (vr 101), de P 0x7265626d756e5f656b6174 470 (vr 108), de P 0x65646f635f656b6174 481 (vr 115), de P 0x666f5f656e6f5f736c6c6574 487 (vr 120), de P 0x5f5f736574756269727474615f6369746174735f5f 490 (vr 121), de P 0x5f5f746369645f5f 492 (vr 124), de P 0x5f5f6665726b6165775f5f 494 (vr 125), de P 0x5f5f636f645f5f 495 (.none)] 4,
   { cls := .type "type", data := .cls { name := sx 0x7364726f57, bases := [.type "object"], mro := [vr 123, .type "object"], ns := 122, qualname := sx 0x7364726f57 }, slots := ⟨[none, none, some (vs 0x7364726f57 434), some (vs 0x7364726f57 442), some (.builtin "object.__new__"), some (.bool true)]⟩ },
   { cls := .type "getset_descriptor", data := .fields ⟨[vs 0x5f5f746369645f5f 491, vr 123, .builtin "function.__dict__", .builtin "function.__dict__#set"]⟩ },
   { cls := .type "getset_descriptor", data := .fields ⟨[vs 0x5f5f6665726b6165775f5f 493, vr 123, .builtin "ExceptionGroup.__weakref__", .none]⟩ },
   { cls := .type "super", data := .fields ⟨[vr 123, vr 123, vr 123]⟩ },
   { cls := .type "builtin_function_or_method", data := .fields ⟨[.builtin "object.__init_subclass__", vr 123]⟩ }]
noncomputable def c4 (p : Program) (B : List Obj) (P : Params) : List Obj :=
  [oT [],
   oF [],
   oT [vs 0x74786574 501, vs 0x73656e696c 502, vs 0x656e696c 503, vs 0x65747962 504],
   oT [],
   oU (.none) (tp p 29) 0x73656e696c5f74696c7073 0x73656e696c5f74696c7073 0 (.none) (.none),
   oC [vs 0x73656e696c5f74696c7073 498, vs 0x73656e696c5f74696c7073 499, vs 0x79702e7475632f6d69616c632f 500, vi 105 0, vi 1 0, vi 0 0, vi 0 0, vi 3 0, vr 128, .bool true, vi 181 0, vr 129, .none, vr 130, vr 131, vr 132, vi 505 0, vi 105 0, vs 0x79702e7475632f6d69616c632f 506],
   oU (.type "function") (tp p 29) 0x73656e696c5f74696c7073 0x73656e696c5f74696c7073 3 (vs 0x7364726f772e7364726f776c6c696d 269) (vr 133),
   oT [],
   oF [],
   oT [vs 0x656e696c 511, vs 0x70696b73 512, vs 0x7473726966 513],
   oT [],
   oU (.none) (tp p 30) 0x74615f64656b6f6f6c5f74726170 0x74615f64656b6f6f6c5f74726170 0 (.none) (.none),
   oC [vs 0x74615f64656b6f6f6c5f74726170 508, vs 0x74615f64656b6f6f6c5f74726170 509, vs 0x79702e7475632f6d69616c632f 510, vi 116 0, vi 2 0, vi 0 0, vi 0 0, vi 3 0, vr 135, .bool true, vi 181 0, vr 136, .none, vr 137, vr 138, vr 139, vi 514 0, vi 116 0, vs 0x79702e7475632f6d69616c632f 515],
   oU (.type "function") (tp p 30) 0x74615f64656b6f6f6c5f74726170 0x74615f64656b6f6f6c5f74726170 3 (vs 0x7364726f772e7364726f776c6c696d 269) (vr 140),
   oT [],
   oF [],
   oT [vs 0x656e696c 520, vs 0x7364726f77 521, vs 0x7461 522, vs 0x72657474656c 523, vs 0x7472617473 524],
   oT [],
   oU (.none) (tp p 31) 0x7364726f775f64616572 0x7364726f775f64616572 0 (.none) (.none),
   oC [vs 0x7364726f775f64616572 517, vs 0x7364726f775f64616572 518, vs 0x79702e7475632f6d69616c632f 519, vi 123 0, vi 1 0, vi 0 0, vi 0 0, vi 3 0, vr 142, .bool true, vi 181 0, vr 143, .none, vr 144, vr 145, vr 146, vi 525 0, vi 123 0, vs 0x79702e7475632f6d69616c632f 526],
   oU (.type "function") (tp p 31) 0x7364726f775f64616572 0x7364726f775f64616572 3 (vs 0x7364726f772e7364726f776c6c696d 269) (vr 147),
   oT [],
   oF [],
   oT [vs 0x65747962 531, vs 0x72657474656c 532],
   oT [],
   oU (.none) (tp p 32) 0x666f5f72657474656c 0x666f5f72657474656c 0 (.none) (.none),
   oC [vs 0x666f5f72657474656c 528, vs 0x666f5f72657474656c 529, vs 0x79702e7475632f6d69616c632f 530, vi 137 0, vi 1 0, vi 0 0, vi 0 0, vi 3 0, vr 149, .bool true, vi 181 0, vr 150, .none, vr 151, vr 152, vr 153, vi 533 0, vi 137 0, vs 0x79702e7475632f6d69616c632f 534],
   oU (.type "function") (tp p 32) 0x666f5f72657474656c 0x666f5f72657474656c 3 (vs 0x7364726f772e7364726f776c6c696d 269) (vr 154),
   oT [],
   oF [],
   oT [vs 0x656e696c 539, vs 0x7461 540],
   oT []]
noncomputable def c5 (p : Program) (B : List Obj) (P : Params) : List Obj :=
  [oU (.none) (tp p 33) 0x736b6e616c625f74736170 0x736b6e616c625f74736170 0 (.none) (.none),
   oC [vs 0x736b6e616c625f74736170 536, vs 0x736b6e616c625f74736170 537, vs 0x79702e7475632f6d69616c632f 538, vi 142 0, vi 2 0, vi 0 0, vi 0 0, vi 3 0, vr 156, .bool true, vi 181 0, vr 157, .none, vr 158, vr 159, vr 160, vi 541 0, vi 142 0, vs 0x79702e7475632f6d69616c632f 542],
   oU (.type "function") (tp p 33) 0x736b6e616c625f74736170 0x736b6e616c625f74736170 3 (vs 0x7364726f772e7364726f776c6c696d 269) (vr 161),
   oT [],
   oF [],
   oT [vs 0x656e696c 547, vs 0x7461 548],
   oT [],
   oU (.none) (tp p 34) 0x65746f6e5f74736170 0x65746f6e5f74736170 0 (.none) (.none),
   oC [vs 0x65746f6e5f74736170 544, vs 0x65746f6e5f74736170 545, vs 0x79702e7475632f6d69616c632f 546, vi 146 0, vi 2 0, vi 0 0, vi 0 0, vi 3 0, vr 163, .bool true, vi 181 0, vr 164, .none, vr 165, vr 166, vr 167, vi 549 0, vi 146 0, vs 0x79702e7475632f6d69616c632f 550],
   oU (.type "function") (tp p 34) 0x65746f6e5f74736170 0x65746f6e5f74736170 3 (vs 0x7364726f772e7364726f776c6c696d 269) (vr 168),
   oT [],
   oF [],
   oT [vs 0x656e696c 555, vs 0x7461 556],
   oT [],
   oU (.none) (tp p 35) 0x7374696769645f74736170 0x7374696769645f74736170 0 (.none) (.none),
   oC [vs 0x7374696769645f74736170 552, vs 0x7374696769645f74736170 553, vs 0x79702e7475632f6d69616c632f 554, vi 152 0, vi 2 0, vi 0 0, vi 0 0, vi 3 0, vr 170, .bool true, vi 181 0, vr 171, .none, vr 172, vr 173, vr 174, vi 557 0, vi 152 0, vs 0x79702e7475632f6d69616c632f 558],
   oU (.type "function") (tp p 35) 0x7374696769645f74736170 0x7374696769645f74736170 3 (vs 0x7364726f772e7364726f776c6c696d 269) (vr 175),
   oT [],
   oF [],
   oT [vs 0x656e696c 563, vs 0x7461 564, vs 0x646e65 565, vs 0x65726f666562 566, vs 0x646e69686562 567, vs 0x7473726966 568],
   oT [],
   oU (.none) (tp p 36) 0x7265626d756e5f74736170 0x7265626d756e5f74736170 0 (.none) (.none),
   oC [vs 0x7265626d756e5f74736170 560, vs 0x7265626d756e5f74736170 561, vs 0x79702e7475632f6d69616c632f 562, vi 156 0, vi 2 0, vi 0 0, vi 0 0, vi 3 0, vr 177, .bool true, vi 181 0, vr 178, .none, vr 179, vr 180, vr 181, vi 569 0, vi 156 0, vs 0x79702e7475632f6d69616c632f 570],
   oU (.type "function") (tp p 36) 0x7265626d756e5f74736170 0x7265626d756e5f74736170 3 (vs 0x7364726f772e7364726f776c6c696d 269) (vr 182),
   oT [],
   oF [],
   oT [vs 0x7265626d756e 575, vs 0x65756c6176 576, vs 0x74696e75 577, vs 0x746e696f705f646e69686562 578, vs 0x65747962 579],
   oT [],
   oU (.none) (tp p 37) 0x736874646e6173756f68745f6e6574 0x736874646e6173756f68745f6e6574 0 (.none) (.none),
   oC [vs 0x736874646e6173756f68745f6e6574 572, vs 0x736874646e6173756f68745f6e6574 573, vs 0x79702e7475632f6d69616c632f 574, vi 169 0, vi 1 0, vi 0 0, vi 0 0, vi 3 0, vr 184, .bool true, vi 181 0, vr 185, .none, vr 186, vr 187, vr 188, vi 580 0, vi 169 0, vs 0x79702e7475632f6d69616c632f 581],
   oU (.type "function") (tp p 37) 0x736874646e6173756f68745f6e6574 0x736874646e6173756f68745f6e6574 3 (vs 0x7364726f772e7364726f776c6c696d 269) (vr 189),
   oT [vi 2 589, vi 3 590]]
noncomputable def c6 (p : Program) (B : List Obj) (P : Params) : List Obj :=
  [oD [di 17 592 (vr 193), di 18 596 (vr 194), di 19 600 (vr 195)] 3,
   oT [vi 0 593, vi 1 594, vi 2 595],
   oT [vi 2 597, vi 0 598, vi 1 599],
   oT [vi 1 601, vi 2 602, vi 0 603],
   oT [],
   oF [],
   oT [vs 0x6563616c70 617],
   oT [],
   oU (.none) (tp p 46) 0x65766f6d5f74736166 0x65766f6d5f74736166 0 (.none) (.none),
   oC [vs 0x65766f6d5f74736166 614, vs 0x65766f6d5f74736166 615, vs 0x79702e7475632f6d69616c632f 616, vi 191 0, vi 1 0, vi 0 0, vi 0 0, vi 3 0, vr 196, .bool true, vi 181 0, vr 197, .none, vr 198, vr 199, vr 200, vi 618 0, vi 191 0, vs 0x79702e7475632f6d69616c632f 619],
   oU (.type "function") (tp p 46) 0x65766f6d5f74736166 0x65766f6d5f74736166 3 (vs 0x736e6f69746f6d2e7364726f776c6c696d 583) (vr 201),
   oT [],
   oF [],
   oT [vs 0x6563616c70 624, vs 0x64656566 625],
   oT [],
   oU (.none) (tp p 47) 0x65766f6d5f7468676961727473 0x65766f6d5f7468676961727473 0 (.none) (.none),
   oC [vs 0x65766f6d5f7468676961727473 621, vs 0x65766f6d5f7468676961727473 622, vs 0x79702e7475632f6d69616c632f 623, vi 193 0, vi 2 0, vi 0 0, vi 0 0, vi 3 0, vr 203, .bool true, vi 181 0, vr 204, .none, vr 205, vr 206, vr 207, vi 626 0, vi 193 0, vs 0x79702e7475632f6d69616c632f 627],
   oU (.type "function") (tp p 47) 0x65766f6d5f7468676961727473 0x65766f6d5f7468676961727473 3 (vs 0x736e6f69746f6d2e7364726f776c6c696d 583) (vr 208),
   oT [],
   oF [],
   oT [vs 0x646e696b 632, vs 0x7473726966 633, vs 0x646e6f636573 634],
   oT [],
   oU (.none) (tp p 48) 0x65766f6d5f726568746f 0x65766f6d5f726568746f 0 (.none) (.none),
   oC [vs 0x65766f6d5f726568746f 629, vs 0x65766f6d5f726568746f 630, vs 0x79702e7475632f6d69616c632f 631, vi 195 0, vi 3 0, vi 0 0, vi 0 0, vi 3 0, vr 210, .bool true, vi 181 0, vr 211, .none, vr 212, vr 213, vr 214, vi 635 0, vi 195 0, vs 0x79702e7475632f6d69616c632f 636],
   oU (.type "function") (tp p 48) 0x65766f6d5f726568746f 0x65766f6d5f726568746f 3 (vs 0x736e6f69746f6d2e7364726f776c6c696d 583) (vr 215),
   oT [],
   oF [],
   oT [vs 0x656e696863616d 641, vs 0x7364726f77 642, vs 0x65726f666562 643, vs 0x736461656c 644],
   oT [],
   oU (.none) (tp p 49) 0x7365766f6d5f6e6f69746f6d 0x7365766f6d5f6e6f69746f6d 0 (.none) (.none),
   oC [vs 0x7365766f6d5f6e6f69746f6d 638, vs 0x7365766f6d5f6e6f69746f6d 639, vs 0x79702e7475632f6d69616c632f 640, vi 197 0, vi 2 0, vi 0 0, vi 0 0, vi 3 0, vr 217, .bool true, vi 181 0, vr 218, .none, vr 219, vr 220, vr 221, vi 645 0, vi 197 0, vs 0x79702e7475632f6d69616c632f 646],
   oU (.type "function") (tp p 49) 0x7365766f6d5f6e6f69746f6d 0x7365766f6d5f6e6f69746f6d 3 (vs 0x736e6f69746f6d2e7364726f776c6c696d 583) (vr 222)]
noncomputable def c7 (p : Program) (B : List Obj) (P : Params) : List Obj :=
  [oT [],
   oF [],
   oT [vs 0x7364726f77 651],
   oT [],
   oU (.none) (tp p 50) 0x656c637269635f736c6c6574 0x656c637269635f736c6c6574 0 (.none) (.none),
   oC [vs 0x656c637269635f736c6c6574 648, vs 0x656c637269635f736c6c6574 649, vs 0x79702e7475632f6d69616c632f 650, vi 212 0, vi 1 0, vi 0 0, vi 0 0, vi 3 0, vr 224, .bool true, vi 181 0, vr 225, .none, vr 226, vr 227, vr 228, vi 652 0, vi 212 0, vs 0x79702e7475632f6d69616c632f 653],
   oU (.type "function") (tp p 50) 0x656c637269635f736c6c6574 0x656c637269635f736c6c6574 3 (vs 0x736e6f69746f6d2e7364726f776c6c696d 583) (vr 229),
   oT [],
   oF [],
   oT [vs 0x656e696863616d 658, vs 0x7364726f77 659],
   oT [],
   oU (.none) (tp p 51) 0x7365766f6d5f656e696c 0x7365766f6d5f656e696c 0 (.none) (.none),
   oC [vs 0x7365766f6d5f656e696c 655, vs 0x7365766f6d5f656e696c 656, vs 0x79702e7475632f6d69616c632f 657, vi 214 0, vi 2 0, vi 0 0, vi 0 0, vi 3 0, vr 231, .bool true, vi 181 0, vr 232, .none, vr 233, vr 234, vr 235, vi 660 0, vi 214 0, vs 0x79702e7475632f6d69616c632f 661],
   oU (.type "function") (tp p 51) 0x7365766f6d5f656e696c 0x7365766f6d5f656e696c 3 (vs 0x736e6f69746f6d2e7364726f776c6c696d 583) (vr 236),
   oT [],
   oF [],
   oT [vs 0x656e696863616d 666],
   oT [],
   oU (.none) (tp p 52) 0x646565665f65726975716572 0x646565665f65726975716572 0 (.none) (.none),
   oC [vs 0x646565665f65726975716572 663, vs 0x646565665f65726975716572 664, vs 0x79702e7475632f6d69616c632f 665, vi 220 0, vi 1 0, vi 0 0, vi 0 0, vi 3 0, vr 238, .bool true, vi 181 0, vr 239, .none, vr 240, vr 241, vr 242, vi 667 0, vi 220 0, vs 0x79702e7475632f6d69616c632f 668],
   oU (.type "function") (tp p 52) 0x646565665f65726975716572 0x646565665f65726975716572 3 (vs 0x736e6f69746f6d2e7364726f776c6c696d 583) (vr 243),
   oT [],
   oF [],
   oU (.none) (tp p 53) 0x6563616c705f646e65 0x6563616c705f646e65 0 (.none) (.none),
   oC [vs 0x6563616c705f646e65 670, vs 0x6563616c705f646e65 671, vs 0x79702e7475632f6d69616c632f 672, vi 223 0, vi 2 0, vi 0 0, vi 0 0, vi 3 0, vr 245, .bool true, vi 181 0, vr 246, .none, .none, .none, vr 247, vi 673 0, vi 223 0, vs 0x79702e7475632f6d69616c632f 674],
   oU (.type "function") (tp p 53) 0x6563616c705f646e65 0x6563616c705f646e65 3 (vs 0x736e6f69746f6d2e7364726f776c6c696d 583) (vr 248),
   oT [],
   oF [],
   oT [vs 0x656e696863616d 679, vs 0x7364726f77 680, vs 0x73697861 681, vs 0x646c6f74 682],
   oT [],
   oU (.none) (tp p 54) 0x736978615f6e6f5f646e65 0x736978615f6e6f5f646e65 0 (.none) (.none),
   oC [vs 0x736978615f6e6f5f646e65 676, vs 0x736978615f6e6f5f646e65 677, vs 0x79702e7475632f6d69616c632f 678, vi 225 0, vi 3 0, vi 0 0, vi 0 0, vi 3 0, vr 250, .bool true, vi 181 0, vr 251, .none, vr 252, vr 253, vr 254, vi 683 0, vi 225 0, vs 0x79702e7475632f6d69616c632f 684]]
noncomputable def c8 (p : Program) (B : List Obj) (P : Params) : List Obj :=
  [oU (.type "function") (tp p 54) 0x736978615f6e6f5f646e65 0x736978615f6e6f5f646e65 3 (vs 0x736e6f69746f6d2e7364726f776c6c696d 583) (vr 255),
   oT [],
   oF [],
   oT [vs 0x656e696863616d 689, vs 0x7364726f77 690, vs 0x73657861 691, vs 0x6572746e6563 692, vs 0x7472617473 693, vs 0x646e65 694, vs 0x74726174735f6d6f7266 695, vs 0x646e655f6f74 696],
   oT [],
   oU (.none) (tp p 55) 0x7365766f6d5f637261 0x7365766f6d5f637261 0 (.none) (.none),
   oC [vs 0x7365766f6d5f637261 686, vs 0x7365766f6d5f637261 687, vs 0x79702e7475632f6d69616c632f 688, vi 234 0, vi 2 0, vi 0 0, vi 0 0, vi 3 0, vr 257, .bool true, vi 181 0, vr 258, .none, vr 259, vr 260, vr 261, vi 697 0, vi 234 0, vs 0x79702e7475632f6d69616c632f 698],
   oU (.type "function") (tp p 55) 0x7365766f6d5f637261 0x7365766f6d5f637261 3 (vs 0x736e6f69746f6d2e7364726f776c6c696d 583) (vr 262),
   oT [],
   oF [],
   oT [vs 0x656e696863616d 703, vs 0x7364726f77 704, vs 0x73697861 705],
   oT [],
   oU (.none) (tp p 56) 0x736978615f6e6f5f6572746e6563 0x736978615f6e6f5f6572746e6563 0 (.none) (.none),
   oC [vs 0x736978615f6e6f5f6572746e6563 700, vs 0x736978615f6e6f5f6572746e6563 701, vs 0x79702e7475632f6d69616c632f 702, vi 248 0, vi 3 0, vi 0 0, vi 0 0, vi 3 0, vr 264, .bool true, vi 181 0, vr 265, .none, vr 266, vr 267, vr 268, vi 706 0, vi 248 0, vs 0x79702e7475632f6d69616c632f 707],
   oU (.type "function") (tp p 56) 0x736978615f6e6f5f6572746e6563 0x736978615f6e6f5f6572746e6563 3 (vs 0x736e6f69746f6d2e7364726f776c6c696d 583) (vr 269),
   oT [],
   oF [],
   oT [vs 0x6572746e6563 712, vs 0x7473726966 713, vs 0x646e6f636573 714],
   oT [],
   oU (.none) (tp p 57) 0x65636e61747369645f666f5f657261757173 0x65636e61747369645f666f5f657261757173 0 (.none) (.none),
   oC [vs 0x65636e61747369645f666f5f657261757173 709, vs 0x65636e61747369645f666f5f657261757173 710, vs 0x79702e7475632f6d69616c632f 711, vi 250 0, vi 3 0, vi 0 0, vi 0 0, vi 3 0, vr 271, .bool true, vi 181 0, vr 272, .none, vr 273, vr 274, vr 275, vi 715 0, vi 250 0, vs 0x79702e7475632f6d69616c632f 716],
   oU (.type "function") (tp p 57) 0x65636e61747369645f666f5f657261757173 0x65636e61747369645f666f5f657261757173 3 (vs 0x736e6f69746f6d2e7364726f776c6c696d 583) (vr 276),
   oT [],
   oF [],
   oT [vs 0x656e6f 721, vs 0x726568746f6e61 722, vs 0x72657461657267 723, vs 0x72657373656c 724, vs 0x74736572 725],
   oT [],
   oU (.none) (tp p 58) 0x7261656e5f6572615f73746f6f72 0x7261656e5f6572615f73746f6f72 0 (.none) (.none),
   oC [vs 0x7261656e5f6572615f73746f6f72 718, vs 0x7261656e5f6572615f73746f6f72 719, vs 0x79702e7475632f6d69616c632f 720, vi 252 0, vi 2 0, vi 0 0, vi 0 0, vi 3 0, vr 278, .bool true, vi 181 0, vr 279, .none, vr 280, vr 281, vr 282, vi 726 0, vi 252 0, vs 0x79702e7475632f6d69616c632f 727],
   oU (.type "function") (tp p 58) 0x7261656e5f6572615f73746f6f72 0x7261656e5f6572615f73746f6f72 3 (vs 0x736e6f69746f6d2e7364726f776c6c696d 583) (vr 283),
   oT [],
   oF [],
   oT [vs 0x656e696863616d 732, vs 0x7364726f77 733, vs 0x65726f666562 734, vs 0x78 735, vs 0x79 736, vs 0x7365766f6d 737]]
noncomputable def c9 (p : Program) (B : List Obj) (P : Params) : List Obj :=
  [oT [],
   oU (.none) (tp p 59) 0x7365766f6d5f73656c6f68 0x7365766f6d5f73656c6f68 0 (.none) (.none),
   oC [vs 0x7365766f6d5f73656c6f68 729, vs 0x7365766f6d5f73656c6f68 730, vs 0x79702e7475632f6d69616c632f 731, vi 257 0, vi 3 0, vi 0 0, vi 0 0, vi 3 0, vr 285, .bool true, vi 181 0, vr 286, .none, vr 287, vr 288, vr 289, vi 738 0, vi 257 0, vs 0x79702e7475632f6d69616c632f 739],
   oU (.type "function") (tp p 59) 0x7365766f6d5f73656c6f68 0x7365766f6d5f73656c6f68 3 (vs 0x736e6f69746f6d2e7364726f776c6c696d 583) (vr 290),
   oT [],
   oF [],
   oT [vs 0x656e696863616d 744, vs 0x7364726f77 745, vs 0x737265626d756e 746, vs 0x65736162 747],
   oT [],
   oU (.none) (tp p 60) 0x737265626d756e5f656c6f685f656b6174 0x737265626d756e5f656c6f685f656b6174 0 (.none) (.none),
   oC [vs 0x737265626d756e5f656c6f685f656b6174 741, vs 0x737265626d756e5f656c6f685f656b6174 742, vs 0x79702e7475632f6d69616c632f 743, vi 276 0, vi 2 0, vi 0 0, vi 0 0, vi 3 0, vr 292, .bool true, vi 181 0, vr 293, .none, vr 294, vr 295, vr 296, vi 748 0, vi 276 0, vs 0x79702e7475632f6d69616c632f 749],
   oU (.type "function") (tp p 60) 0x737265626d756e5f656c6f685f656b6174 0x737265626d756e5f656c6f685f656b6174 3 (vs 0x736e6f69746f6d2e7364726f776c6c696d 583) (vr 297),
   oT [],
   oF [],
   oT [vs 0x656e696863616d 754],
   oT [],
   oU (.none) (tp p 61) 0x656c6f685f65726975716572 0x656c6f685f65726975716572 0 (.none) (.none),
   oC [vs 0x656c6f685f65726975716572 751, vs 0x656c6f685f65726975716572 752, vs 0x79702e7475632f6d69616c632f 753, vi 287 0, vi 1 0, vi 0 0, vi 0 0, vi 3 0, vr 299, .bool true, vi 181 0, vr 300, .none, vr 301, vr 302, vr 303, vi 755 0, vi 287 0, vs 0x79702e7475632f6d69616c632f 756],
   oU (.type "function") (tp p 61) 0x656c6f685f65726975716572 0x656c6f685f65726975716572 3 (vs 0x736e6f69746f6d2e7364726f776c6c696d 583) (vr 304),
   oT [],
   oF [],
   oT [vs 0x656e696863616d 761, vs 0x78 762, vs 0x79 763, vs 0x6c6576656c 764, vs 0x6874706564 765, vs 0x6b636570 766, vs 0x6b636162 767, vs 0x7a 768, vs 0x7365766f6d 769],
   oT [],
   oU (.none) (tp p 62) 0x7365766f6d5f6b636570 0x7365766f6d5f6b636570 0 (.none) (.none),
   oC [vs 0x7365766f6d5f6b636570 758, vs 0x7365766f6d5f6b636570 759, vs 0x79702e7475632f6d69616c632f 760, vi 295 0, vi 3 0, vi 0 0, vi 0 0, vi 3 0, vr 306, .bool true, vi 181 0, vr 307, .none, vr 308, vr 309, vr 310, vi 770 0, vi 295 0, vs 0x79702e7475632f6d69616c632f 771],
   oU (.type "function") (tp p 62) 0x7365766f6d5f6b636570 0x7365766f6d5f6b636570 3 (vs 0x736e6f69746f6d2e7364726f776c6c696d 583) (vr 311),
   oT [],
   oF [],
   oT [vs 0x656e696863616d 780, vs 0x7364726f77 781, vs 0x7365766f6d 782],
   oT [],
   oU (.none) (tp p 65) 0x656e696c5f666f5f7365766f6d 0x656e696c5f666f5f7365766f6d 0 (.none) (.none),
   oC [vs 0x656e696c5f666f5f7365766f6d 777, vs 0x656e696c5f666f5f7365766f6d 778, vs 0x79702e7475632f6d69616c632f 779, vi 312 0, vi 2 0, vi 0 0, vi 0 0, vi 3 0, vr 313, .bool true, vi 181 0, vr 314, .none, vr 315, vr 316, vr 317, vi 783 0, vi 312 0, vs 0x79702e7475632f6d69616c632f 784],
   oU (.type "function") (tp p 65) 0x656e696c5f666f5f7365766f6d 0x656e696c5f666f5f7365766f6d 3 (vs 0x73656e696c2e7364726f776c6c696d 773) (vr 318)]
noncomputable def c10 (p : Program) (B : List Obj) (P : Params) : List Obj :=
  [oT [],
   oF [],
   oT [vs 0x7364726f77 789],
   oT [],
   oU (.none) (tp p 66) 0x6d6172676f72705f73646e65 0x6d6172676f72705f73646e65 0 (.none) (.none),
   oC [vs 0x6d6172676f72705f73646e65 786, vs 0x6d6172676f72705f73646e65 787, vs 0x79702e7475632f6d69616c632f 788, vi 319 0, vi 1 0, vi 0 0, vi 0 0, vi 3 0, vr 320, .bool true, vi 181 0, vr 321, .none, vr 322, vr 323, vr 324, vi 790 0, vi 319 0, vs 0x79702e7475632f6d69616c632f 791],
   oU (.type "function") (tp p 66) 0x6d6172676f72705f73646e65 0x6d6172676f72705f73646e65 3 (vs 0x73656e696c2e7364726f776c6c696d 773) (vr 325),
   oT [],
   oF [],
   oT [vs 0x656e696863616d 796, vs 0x7364726f77 797, vs 0x7365646f63 798],
   oT [],
   oU (.none) (tp p 67) 0x656c74746573 0x656c74746573 0 (.none) (.none),
   oC [vs 0x656c74746573 793, vs 0x656c74746573 794, vs 0x79702e7475632f6d69616c632f 795, vi 321 0, vi 2 0, vi 0 0, vi 0 0, vi 3 0, vr 327, .bool true, vi 181 0, vr 328, .none, vr 329, vr 330, vr 331, vi 799 0, vi 321 0, vs 0x79702e7475632f6d69616c632f 800],
   oU (.type "function") (tp p 67) 0x656c74746573 0x656c74746573 3 (vs 0x73656e696c2e7364726f776c6c696d 773) (vr 332),
   oT [],
   oF [],
   oT [vs 0x7364726f77 805, vs 0x7365646f63 806, vs 0x7365766f6d 807, vs 0x6c6f6f74 808],
   oT [],
   oU (.none) (tp p 68) 0x7365766f6d5f65646973 0x7365766f6d5f65646973 0 (.none) (.none),
   oC [vs 0x7365766f6d5f65646973 802, vs 0x7365766f6d5f65646973 803, vs 0x79702e7475632f6d69616c632f 804, vi 333 0, vi 1 0, vi 0 0, vi 0 0, vi 3 0, vr 334, .bool true, vi 181 0, vr 335, .none, vr 336, vr 337, vr 338, vi 809 0, vi 333 0, vs 0x79702e7475632f6d69616c632f 810],
   oU (.type "function") (tp p 68) 0x7365766f6d5f65646973 0x7365766f6d5f65646973 3 (vs 0x73656e696c2e7364726f776c6c696d 773) (vr 339),
   oT [],
   oF [],
   oT [vs 0x656e696863616d 815, vs 0x7364726f77 816, vs 0x6c616963657073 817],
   oT [],
   oU (.none) (tp p 69) 0x7365766f6d5f6e69616d 0x7365766f6d5f6e69616d 0 (.none) (.none),
   oC [vs 0x7365766f6d5f6e69616d 812, vs 0x7365766f6d5f6e69616d 813, vs 0x79702e7475632f6d69616c632f 814, vi 344 0, vi 2 0, vi 0 0, vi 0 0, vi 3 0, vr 341, .bool true, vi 181 0, vr 342, .none, vr 343, vr 344, vr 345, vi 818 0, vi 344 0, vs 0x79702e7475632f6d69616c632f 819],
   oU (.type "function") (tp p 69) 0x7365766f6d5f6e69616d 0x7365766f6d5f6e69616d 3 (vs 0x73656e696c2e7364726f776c6c696d 773) (vr 346),
   oT [],
   oF [],
   oT [vs 0x7364726f77 824],
   oT []]
noncomputable def c11 (p : Program) (B : List Obj) (P : Params) : List Obj :=
  [oU (.none) (tp p 70) 0x65766f6d5f74696177 0x65766f6d5f74696177 0 (.none) (.none),
   oC [vs 0x65766f6d5f74696177 821, vs 0x65766f6d5f74696177 822, vs 0x79702e7475632f6d69616c632f 823, vi 352 0, vi 1 0, vi 0 0, vi 0 0, vi 3 0, vr 348, .bool true, vi 181 0, vr 349, .none, vr 350, vr 351, vr 352, vi 825 0, vi 352 0, vs 0x79702e7475632f6d69616c632f 826],
   oU (.type "function") (tp p 70) 0x65766f6d5f74696177 0x65766f6d5f74696177 3 (vs 0x73656e696c2e7364726f776c6c696d 773) (vr 353),
   oT [],
   oF [],
   oU (.none) (tp p 71) 0x736563616c705f66666f5f747570 0x736563616c705f66666f5f747570 0 (.none) (.none),
   oC [vs 0x736563616c705f66666f5f747570 828, vs 0x736563616c705f66666f5f747570 829, vs 0x79702e7475632f6d69616c632f 830, vi 356 0, vi 2 0, vi 0 0, vi 0 0, vi 3 0, vr 355, .bool true, vi 181 0, vr 356, .none, .none, .none, vr 357, vi 831 0, vi 356 0, vs 0x79702e7475632f6d69616c632f 832],
   oU (.type "function") (tp p 71) 0x736563616c705f66666f5f747570 0x736563616c705f66666f5f747570 3 (vs 0x73656e696c2e7364726f776c6c696d 773) (vr 358),
   oT [],
   oF [],
   oT [vs 0x656e696863616d 837, vs 0x7364726f77 838, vs 0x73697861 839, vs 0x646c6f74 840],
   oT [],
   oU (.none) (tp p 72) 0x736978615f6e6f5f66666f5f747570 0x736978615f6e6f5f66666f5f747570 0 (.none) (.none),
   oC [vs 0x736978615f6e6f5f66666f5f747570 834, vs 0x736978615f6e6f5f66666f5f747570 835, vs 0x79702e7475632f6d69616c632f 836, vi 360 0, vi 3 0, vi 0 0, vi 0 0, vi 3 0, vr 360, .bool true, vi 181 0, vr 361, .none, vr 362, vr 363, vr 364, vi 841 0, vi 360 0, vs 0x79702e7475632f6d69616c632f 842],
   oU (.type "function") (tp p 72) 0x736978615f6e6f5f66666f5f747570 0x736978615f6e6f5f66666f5f747570 3 (vs 0x73656e696c2e7364726f776c6c696d 773) (vr 365),
   oT [],
   { cls := .type "builtin_function_or_method", data := .fields ⟨[.builtin "type.__prepare__", .type "type"]⟩ },
   oD [de P 0x5f5f656c75646f6d5f5f 871 (vs 0x656e696863616d2e7364726f776c6c696d 844), de P 0x5f5f656d616e6c6175715f5f 873 (vs 0x6c6c694d 872), de P 0x5f5f6f6e656e696c74737269665f5f 875 (vi 375 874), de P 0x5f5f74696e695f5f 882 (vr 380), de P 0x7261656c635f6367 889 (vr 387), de P 0x6e696769726f5f6367 895 (vr 392), de P 0x6e75725f6367 912 (vr 399), de P 0x6563616c705f6367 920 (vr 406), de P 0x5f5f736574756269727474615f6369746174735f5f 922 (vr 407)] 9,
   oT [],
   oF [vi 377 0, vi 4 0, vr 379, vi 380 0, vi 4 0, vr 386, vi 384 0, vi 4 0, vr 391, vi 390 0, vi 4 0, vr 398, vi 415 0, vi 4 0, vr 405],
   oC [vs 0x6c6c694d 866, vs 0x6c6c694d 867, vs 0x79702e7475632f6d69616c632f 868, vi 375 0, vi 0 0, vi 0 0, vi 0 0, vi 0 0, vr 370, .bool false, vi 181 0, vr 371, .none, .none, .none, .none, vi 869 0, vi 375 0, vs 0x79702e7475632f6d69616c632f 870],
   { cls := .type "frame", slots := ⟨[some (vr 372), some (vr 3), some (vr 369), none, some (vs 0x656e696863616d2e7364726f776c6c696d 844), none, some (vr 0)]⟩ },
   oT [],
   oF [],
   oT [vs 0x666c6573 879],
   oT [],
   oU (.none) (L2.inClass (tp p 83) 0) 0x5f5f74696e695f5f 0x5f5f74696e695f5f2e6c6c694d 0 (.none) (.none),
   oC [vs 0x5f5f74696e695f5f 876, vs 0x5f5f74696e695f5f2e6c6c694d 877, vs 0x79702e7475632f6d69616c632f 878, vi 377 0, vi 1 0, vi 0 0, vi 0 0, vi 3 0, vr 374, .bool true, vi 181 0, vr 375, .none, vr 376, vr 377, vr 378, vi 880 0, vi 377 0, vs 0x79702e7475632f6d69616c632f 881],
   oU (.type "function") (L2.inClass (tp p 83) 0) 0x5f5f74696e695f5f 0x5f5f74696e695f5f2e6c6c694d 3 (vs 0x656e696863616d2e7364726f776c6c696d 844) (vr 379),
   oT [],
   oF [],
   oT [vs 0x666c6573 886]]
noncomputable def c12 (p : Program) (B : List Obj) (P : Params) : List Obj :=
  [oT [],
   oU (.none) (L2.inClass (tp p 83) 1) 0x7261656c635f6367 0x7261656c635f63672e6c6c694d 0 (.none) (.none),
   oC [vs 0x7261656c635f6367 883, vs 0x7261656c635f63672e6c6c694d 884, vs 0x79702e7475632f6d69616c632f 885, vi 380 0, vi 1 0, vi 0 0, vi 0 0, vi 3 0, vr 381, .bool true, vi 181 0, vr 382, .none, vr 383, vr 384, vr 385, vi 887 0, vi 380 0, vs 0x79702e7475632f6d69616c632f 888],
   oU (.type "function") (L2.inClass (tp p 83) 1) 0x7261656c635f6367 0x7261656c635f63672e6c6c694d 3 (vs 0x656e696863616d2e7364726f776c6c696d 844) (vr 386),
   oT [],
   oF [],
   oU (.none) (L2.inClass (tp p 83) 2) 0x6e696769726f5f6367 0x6e696769726f5f63672e6c6c694d 0 (.none) (.none),
   oC [vs 0x6e696769726f5f6367 890, vs 0x6e696769726f5f63672e6c6c694d 891, vs 0x79702e7475632f6d69616c632f 892, vi 384 0, vi 3 0, vi 0 0, vi 0 0, vi 3 0, vr 388, .bool true, vi 181 0, vr 389, .none, .none, .none, vr 390, vi 893 0, vi 384 0, vs 0x79702e7475632f6d69616c632f 894],
   oU (.type "function") (L2.inClass (tp p 83) 2) 0x6e696769726f5f6367 0x6e696769726f5f63672e6c6c694d 3 (vs 0x656e696863616d2e7364726f776c6c696d 844) (vr 391),
   oT [],
   oF [],
   oT [vs 0x666c6573 899, vs 0x70696b73 900, vs 0x74736f6d 901, vs 0x74786574 902, vs 0x6e697774 903, vs 0x726577736e61 904, vs 0x7265626d756e5f656e696c 905, vs 0x656e696c 906, vs 0x7364726f77 907, vs 0x7365766f6d 908, vs 0x737265626d756e 909],
   oT [],
   oU (.none) (L2.inClass (tp p 83) 3) 0x6e75725f6367 0x6e75725f63672e6c6c694d 0 (.none) (.none),
   oC [vs 0x6e75725f6367 896, vs 0x6e75725f63672e6c6c694d 897, vs 0x79702e7475632f6d69616c632f 898, vi 390 0, vi 4 0, vi 0 0, vi 0 0, vi 3 0, vr 393, .bool true, vi 181 0, vr 394, .none, vr 395, vr 396, vr 397, vi 910 0, vi 390 0, vs 0x79702e7475632f6d69616c632f 911],
   oU (.type "function") (L2.inClass (tp p 83) 3) 0x6e75725f6367 0x6e75725f63672e6c6c694d 3 (vs 0x656e696863616d2e7364726f776c6c696d 844) (vr 398),
   oT [],
   oF [],
   oT [vs 0x666c6573 916, vs 0x6563616c70 917],
   oT [],
   oU (.none) (L2.inClass (tp p 83) 4) 0x6563616c705f6367 0x6563616c705f63672e6c6c694d 0 (.none) (.none),
   oC [vs 0x6563616c705f6367 913, vs 0x6563616c705f63672e6c6c694d 914, vs 0x79702e7475632f6d69616c632f 915, vi 415 0, vi 1 0, vi 0 0, vi 0 0, vi 3 0, vr 400, .bool true, vi 181 0, vr 401, .none, vr 402, vr 403, vr 404, vi 918 0, vi 415 0, vs 0x79702e7475632f6d69616c632f 919],
   oU (.type "function") (L2.inClass (tp p 83) 4) 0x6563616c705f6367 0x6563616c705f63672e6c6c694d 3 (vs 0x656e696863616d2e7364726f776c6c696d 844) (vr 405),
   oT [vs 0x656e696863616d 921],
   oD [de P 0x5f5f656c75646f6d5f5f 871 (vs 0x656e696863616d2e7364726f776c6c696d 844), de P 0x5f5f6f6e656e696c74737269665f5f 875 (vi 375 874), de P 0x5f5f74696e695f5f 882 (vr 380), de P 0x7261656c635f6367 889 (vr 387), de P 0x6e696769726f5f6367 895 (vr 392), de P 0x6e75725f6367 912 (vr 399), de P 0x6563616c705f6367 920 (vr 406), de P 0x5f5f736574756269727474615f6369746174735f5f 922 (vr 407), de P 0x5f5f746369645f5f 924 (vr 410), de P 0x5f5f6665726b6165775f5f 926 (vr 411), de P 0x5f5f636f645f5f 927 (.none)] 4,
   { cls := .type "type", data := .cls { name := sx 0x6c6c694d, bases := [.type "object"], mro := [vr 409, .type "object"], ns := 408, qualname := sx 0x6c6c694d }, slots := ⟨[none, none, some (vs 0x6c6c694d 864), some (vs 0x6c6c694d 872), some (.builtin "object.__new__"), some (.bool true)]⟩ },
   { cls := .type "getset_descriptor", data := .fields ⟨[vs 0x5f5f746369645f5f 923, vr 409, .builtin "function.__dict__", .builtin "function.__dict__#set"]⟩ },
   { cls := .type "getset_descriptor", data := .fields ⟨[vs 0x5f5f6665726b6165775f5f 925, vr 409, .builtin "ExceptionGroup.__weakref__", .none]⟩ },
   { cls := .type "super", data := .fields ⟨[vr 409, vr 409, vr 409]⟩ },
   { cls := .type "builtin_function_or_method", data := .fields ⟨[.builtin "object.__init_subclass__", vr 409]⟩ },
   oT [],
   oF []]
noncomputable def c13 (p : Program) (B : List Obj) (P : Params) : List Obj :=
  [oT [vs 0x7365766f6d 933, vs 0x737265626d756e 934, vs 0x65766f6d 935],
   oT [],
   oU (.none) (tp p 84) 0x666f5f737265626d756e 0x666f5f737265626d756e 0 (.none) (.none),
   oC [vs 0x666f5f737265626d756e 930, vs 0x666f5f737265626d756e 931, vs 0x79702e7475632f6d69616c632f 932, vi 418 0, vi 1 0, vi 0 0, vi 0 0, vi 3 0, vr 414, .bool true, vi 181 0, vr 415, .none, vr 416, vr 417, vr 418, vi 936 0, vi 418 0, vs 0x79702e7475632f6d69616c632f 937],
   oU (.type "function") (tp p 84) 0x666f5f737265626d756e 0x666f5f737265626d756e 3 (vs 0x656e696863616d2e7364726f776c6c696d 844) (vr 419),
   oT [],
   oF [],
   oT [vs 0x737265626d756e 942],
   oT [],
   oU (.none) (tp p 85) 0x656772616c5f736168 0x656772616c5f736168 0 (.none) (.none),
   oC [vs 0x656772616c5f736168 939, vs 0x656772616c5f736168 940, vs 0x79702e7475632f6d69616c632f 941, vi 423 0, vi 1 0, vi 0 0, vi 0 0, vi 3 0, vr 421, .bool true, vi 181 0, vr 422, .none, vr 423, vr 424, vr 425, vi 943 0, vi 423 0, vs 0x79702e7475632f6d69616c632f 944],
   oU (.type "function") (tp p 85) 0x656772616c5f736168 0x656772616c5f736168 3 (vs 0x656e696863616d2e7364726f776c6c696d 844) (vr 426),
   oT [],
   oF [],
   oT [vs 0x736c6c6163 949, vs 0x6c6c696d 950, vs 0x6e65766967 951, vs 0x7461 952, vs 0x726577736e61 953],
   oT [],
   oU (.none) (tp p 86) 0x73726577736e61 0x73726577736e61 0 (.none) (.none),
   oC [vs 0x73726577736e61 946, vs 0x73726577736e61 947, vs 0x79702e7475632f6d69616c632f 948, vi 425 0, vi 1 0, vi 0 0, vi 0 0, vi 3 0, vr 428, .bool true, vi 181 0, vr 429, .none, vr 430, vr 431, vr 432, vi 954 0, vi 425 0, vs 0x79702e7475632f6d69616c632f 955],
   oU (.type "function") (tp p 86) 0x73726577736e61 0x73726577736e61 3 (vs 0x656e696863616d2e7364726f776c6c696d 844) (vr 433),
   oT [],
   oF [],
   oT [vs 0x6c6c696d 960, vs 0x736c6c6163 961, vs 0x7461 962],
   oT [],
   oU (.none) (tp p 87) 0x6c6c61635f666f5f726577736e61 0x6c6c61635f666f5f726577736e61 0 (.none) (.none),
   oC [vs 0x6c6c61635f666f5f726577736e61 957, vs 0x6c6c61635f666f5f726577736e61 958, vs 0x79702e7475632f6d69616c632f 959, vi 435 0, vi 3 0, vi 0 0, vi 0 0, vi 3 0, vr 435, .bool true, vi 181 0, vr 436, .none, vr 437, vr 438, vr 439, vi 963 0, vi 435 0, vs 0x79702e7475632f6d69616c632f 964],
   oU (.type "function") (tp p 87) 0x6c6c61635f666f5f726577736e61 0x6c6c61635f666f5f726577736e61 3 (vs 0x656e696863616d2e7364726f776c6c696d 844) (vr 440),
   oT [],
   oF [],
   oT [vs 0x736c6c6163 969, vs 0x7461 970],
   oT [],
   oU (.none) (tp p 88) 0x6c6c61635f74736170 0x6c6c61635f74736170 0 (.none) (.none),
   oC [vs 0x6c6c61635f74736170 966, vs 0x6c6c61635f74736170 967, vs 0x79702e7475632f6d69616c632f 968, vi 443 0, vi 2 0, vi 0 0, vi 0 0, vi 3 0, vr 442, .bool true, vi 181 0, vr 443, .none, vr 444, vr 445, vr 446, vi 971 0, vi 443 0, vs 0x79702e7475632f6d69616c632f 972]]
noncomputable def c14 (p : Program) (B : List Obj) (P : Params) : List Obj :=
  [oU (.type "function") (tp p 88) 0x6c6c61635f74736170 0x6c6c61635f74736170 3 (vs 0x656e696863616d2e7364726f776c6c696d 844) (vr 447)]
noncomputable def chs (p : Program) (B : List Obj) (P : Params) : List (List Obj) := [c0 p B P, c1 p B P, c2 p B P, c3 p B P, c4 p B P, c5 p B P, c6 p B P, c7 p B P, c8 p B P, c9 p B P, c10 p B P, c11 p B P, c12 p B P, c13 p B P, c14 p B P]
end MH
set_option maxRecDepth 1000000
set_option maxHeartbeats 0
lay_quick PySem.Challenge.pw_millwords_s01_answers
noncomputable section
namespace MH
open PySem PySem.W PyProof.Rows
def obk (p : Program) (B : List Obj) (P : Params) (nm : Value) (k e f i : Nat) : Obj := match Nat.beq i 3 with
  | true => g3 P nm k e
  | false => match Nat.beq i 12 with
    | true => oF (l12.take f)
    | false => ((chs p B P).getD (Nat.div i 32) []).getD (Nat.mod i 32) default
def bl (P : Params) : List Obj := [boot_o_0 P, boot_o_1 P, boot_o_2 P, default, boot_o_4 P, boot_o_5 P, boot_o_6 P, boot_o_7 P, boot_o_8 P, boot_o_9 P, boot_o_10 P]
structure Sp where
  n : Nat
  t : Nat
  nm : Value
  k : Nat
  e : Nat
  f : Nat
  pos : Pos
def Sp.tr (x : Sp) (p : Program) (P : Params) : BT := bt (obk p (bl P) P x.nm x.k x.e x.f) x.n 10 1 0
def Sp.at (x : Sp) (p : Program) (w : World) (os : OsState) : SharedT := ⟨x.tr p w.params, x.n, {}, ⟨[]⟩, {}, x.t, os⟩
def envT (p : Program) : Env := { scope := p.main.scope, locals := mainNs, globals := mainNs, cells := [], code := .ref 13, frame := some 14 }
def cdT (p : Program) : Code := .body (behindTheImports p) (envT p)
def gr (p : Program) (a n : Nat) : List Stmt := ((behindTheImports p).drop a).take n
def q0 : Pos := ⟨0, 0, 0, 0⟩
abbrev SgT := (String → Option Builtin) → Program → World → Nat → Option Value → Nat → Nat → SharedT → Thread → Option (Flow × SharedT × Code × Pos)
abbrev SG (sg : SgT) (tb : String → Option Builtin) (p : Program) (w : World) (os : OsState) (a n st : Nat) (x y : Sp) : Prop :=
  sg tb p w 11 (some (.ref 6)) 1 st (x.at p w os) (piecesOf (gr p a n) (envT p) (cdT p) x.pos [topFrame q0]) = some (Flow.next, y.at p w os, cdT p, y.pos)
theorem SG.tw {w : World} {os : OsState} {a n st : Nat} {x y : Sp} (h : SG Fast.tw10110043849684766642 Fast.tw14364793385576792824 Fast.tw17693970362041243447 w os a n st x y) :
    SG segRunT treeTable PySem.Challenge.pw_millwords_s01_answers w os a n st x y := by
  rw [Fast.te10110043849684766642, Fast.te14364793385576792824, Fast.te17693970362041243447]
  exact h
def s0 : Sp := ⟨15, 187, vs 0x5f5f6e69616d5f5f 164, 8, 9, 0, ⟨0, 0, 0, 0⟩⟩
def s1 : Sp := ⟨16, 197, vs 0x65746174732e7364726f776c6c696d 187, 11, 12, 0, ⟨4, 0, 4, 5⟩⟩
def s2 : Sp := ⟨65, 277, vs 0x7364726f772e7364726f776c6c696d 269, 15, 16, 3, ⟨52, 0, 52, 6⟩⟩
def s3 : Sp := ⟨65, 309, vs 0x7364726f772e7364726f776c6c696d 269, 31, 32, 3, ⟨68, 0, 68, 16⟩⟩
def s4 : Sp := ⟨67, 382, vs 0x7364726f772e7364726f776c6c696d 269, 32, 33, 3, ⟨69, 0, 69, 8⟩⟩
def s5 : Sp := ⟨81, 434, vs 0x7364726f772e7364726f776c6c696d 269, 34, 35, 6, ⟨71, 0, 72, 8⟩⟩
def s6 : Sp := ⟨135, 508, vs 0x7364726f772e7364726f776c6c696d 269, 36, 37, 12, ⟨105, 0, 115, 16⟩⟩
def s7 : Sp := ⟨196, 614, vs 0x736e6f69746f6d2e7364726f776c6c696d 583, 51, 52, 36, ⟨190, 0, 190, 15⟩⟩
def s8 : Sp := ⟨285, 729, vs 0x736e6f69746f6d2e7364726f776c6c696d 583, 64, 65, 75, ⟨252, 0, 256, 70⟩⟩
def s9 : Sp := ⟨367, 846, vs 0x656e696863616d2e7364726f776c6c696d 844, 77, 78, 111, ⟨365, 0, 365, 8⟩⟩
def s10 : Sp := ⟨367, 864, vs 0x656e696863616d2e7364726f776c6c696d 844, 86, 87, 111, ⟨374, 0, 374, 14⟩⟩
def s11 : Sp := ⟨421, 939, vs 0x656e696863616d2e7364726f776c6c696d 844, 88, 89, 117, ⟨418, 0, 422, 18⟩⟩
def s12 : Sp := ⟨449, 974, vs 0x656e696863616d2e7364726f776c6c696d 844, 92, 93, 129, ⟨443, 0, 448, 17⟩⟩
end MH
end
set_option maxRecDepth 1000000
set_option maxHeartbeats 0
namespace MH
open PySem PySem.W PyProof.Rows
theorem h0 (w : World) (os : OsState) : SG Fast.tw10110043849684766642 Fast.tw14364793385576792824 Fast.tw17693970362041243447 w os 0 4 41 s0 s1 := by kernel_rfl
theorem h1 (w : World) (os : OsState) : SG Fast.tw10110043849684766642 Fast.tw14364793385576792824 Fast.tw17693970362041243447 w os 4 5 398 s1 s2 := by kernel_rfl
theorem h2 (w : World) (os : OsState) : SG Fast.tw10110043849684766642 Fast.tw14364793385576792824 Fast.tw17693970362041243447 w os 9 16 145 s2 s3 := by kernel_rfl
theorem h3_f (w : World) (os : OsState) : SG Fast.tw10110043849684766642 Fast.tw14364793385576792824 Fast.tw17693970362041243447 (w.withFollow "special-get-raises" false) os 25 1 372 s3 s4 := by kernel_rfl
theorem h3_t (w : World) (os : OsState) : SG Fast.tw10110043849684766642 Fast.tw14364793385576792824 Fast.tw17693970362041243447 (w.withFollow "special-get-raises" true) os 25 1 372 s3 s4 := by kernel_rfl
theorem h3 (w : World) (os : OsState) : SG Fast.tw10110043849684766642 Fast.tw14364793385576792824 Fast.tw17693970362041243447 w os 25 1 372 s3 s4 := byRow2 "special-get-raises" (P := fun w => SG Fast.tw10110043849684766642 Fast.tw14364793385576792824 Fast.tw17693970362041243447 w os 25 1 372 s3 s4) (fun w => h3_f w os) (fun w => h3_t w os) w
theorem h4_f (w : World) (os : OsState) : SG Fast.tw10110043849684766642 Fast.tw14364793385576792824 Fast.tw17693970362041243447 (w.withFollow "special-get-raises" false) os 26 2 340 s4 s5 := by kernel_rfl
theorem h4_t (w : World) (os : OsState) : SG Fast.tw10110043849684766642 Fast.tw14364793385576792824 Fast.tw17693970362041243447 (w.withFollow "special-get-raises" true) os 26 2 340 s4 s5 := by kernel_rfl
theorem h4 (w : World) (os : OsState) : SG Fast.tw10110043849684766642 Fast.tw14364793385576792824 Fast.tw17693970362041243447 w os 26 2 340 s4 s5 := byRow2 "special-get-raises" (P := fun w => SG Fast.tw10110043849684766642 Fast.tw14364793385576792824 Fast.tw17693970362041243447 w os 26 2 340 s4 s5) (fun w => h4_f w os) (fun w => h4_t w os) w
theorem h5 (w : World) (os : OsState) : SG Fast.tw10110043849684766642 Fast.tw14364793385576792824 Fast.tw17693970362041243447 w os 28 2 384 s5 s6 := by kernel_rfl
theorem h6_f (w : World) (os : OsState) : SG Fast.tw10110043849684766642 Fast.tw14364793385576792824 Fast.tw17693970362041243447 (w.withFollow "special-get-raises" false) os 30 16 379 s6 s7 := by kernel_rfl
theorem h6_t (w : World) (os : OsState) : SG Fast.tw10110043849684766642 Fast.tw14364793385576792824 Fast.tw17693970362041243447 (w.withFollow "special-get-raises" true) os 30 16 379 s6 s7 := by kernel_rfl
theorem h6 (w : World) (os : OsState) : SG Fast.tw10110043849684766642 Fast.tw14364793385576792824 Fast.tw17693970362041243447 w os 30 16 379 s6 s7 := byRow2 "special-get-raises" (P := fun w => SG Fast.tw10110043849684766642 Fast.tw14364793385576792824 Fast.tw17693970362041243447 w os 30 16 379 s6 s7) (fun w => h6_f w os) (fun w => h6_t w os) w
theorem h7 (w : World) (os : OsState) : SG Fast.tw10110043849684766642 Fast.tw14364793385576792824 Fast.tw17693970362041243447 w os 46 13 400 s7 s8 := by kernel_rfl
theorem h8 (w : World) (os : OsState) : SG Fast.tw10110043849684766642 Fast.tw14364793385576792824 Fast.tw17693970362041243447 w os 59 15 401 s8 s9 := by kernel_rfl
theorem h9 (w : World) (os : OsState) : SG Fast.tw10110043849684766642 Fast.tw14364793385576792824 Fast.tw17693970362041243447 w os 74 9 82 s9 s10 := by kernel_rfl
theorem h10 (w : World) (os : OsState) : SG Fast.tw10110043849684766642 Fast.tw14364793385576792824 Fast.tw17693970362041243447 w os 83 2 385 s10 s11 := by kernel_rfl
theorem h11 (w : World) (os : OsState) : SG Fast.tw10110043849684766642 Fast.tw14364793385576792824 Fast.tw17693970362041243447 w os 85 4 124 s11 s12 := by kernel_rfl
theorem stp {p : Program} {w : World} {os : OsState} {N a n st : Nat} {x y : Sp} {r : Shared} (g : SG segRunT treeTable p w os a n st x y)
    (k : topRun treeTable p w 11 (some (.ref 6)) N (y.at p w os).abs (restOf ((behindTheImports p).drop (a + n)) (envT p) (cdT p) y.pos [topFrame q0]) = some r) :
    topRun treeTable p w 11 (some (.ref 6)) (st + N) (x.at p w os).abs (restOf ((behindTheImports p).drop a) (envT p) (cdT p) x.pos [topFrame q0]) = some r := by
  have e : (behindTheImports p).drop a = gr p a n ++ (behindTheImports p).drop (a + n) := by
    unfold gr
    rw [← List.drop_drop, List.take_append_drop]
  rw [e]
  exact piece_app (segRun_of g) k
theorem pre_tw (w : World) (os : OsState) : Fast.tw15667345088766844465 Fast.tw14364793385576792824 Fast.tw17693970362041243447 w 11 (some (.ref 6)) 12 ⟨boot_heap w.params, ⟨[]⟩, boot_drawn, boot_toks, os⟩ (topStub Fast.tw17693970362041243447) =
    some ((s0.at Fast.tw17693970362041243447 w os).abs, ⟨Fast.tw11892475500146522536 Fast.tw14364793385576792824 (cdT Fast.tw17693970362041243447), cdT Fast.tw17693970362041243447, q0, [topFrame q0]⟩) := by kernel_rfl
theorem pre_ok (w : World) (os : OsState) : topGo treeTable PySem.Challenge.pw_millwords_s01_answers w 11 (some (.ref 6)) 12 ⟨boot_heap w.params, ⟨[]⟩, boot_drawn, boot_toks, os⟩ (topStub PySem.Challenge.pw_millwords_s01_answers) =
    some ((s0.at PySem.Challenge.pw_millwords_s01_answers w os).abs, ⟨denote treeTable (cdT PySem.Challenge.pw_millwords_s01_answers), cdT PySem.Challenge.pw_millwords_s01_answers, q0, [topFrame q0]⟩) := by
  rw [Fast.te15667345088766844465, Fast.te11892475500146522536, Fast.te14364793385576792824, Fast.te17693970362041243447]
  exact pre_tw w os
theorem blk_tw (w : World) (os : OsState) : Fast.tw10110043849684766642 Fast.tw14364793385576792824 Fast.tw17693970362041243447 w 11 (some (.ref 6)) 1 1 (s0.at Fast.tw17693970362041243447 w os) (blockOf (behindTheImports Fast.tw17693970362041243447) (envT Fast.tw17693970362041243447) (cdT Fast.tw17693970362041243447) q0 [topFrame q0]) =
    some (Flow.next, s0.at Fast.tw17693970362041243447 w os, cdT Fast.tw17693970362041243447, q0) := by kernel_rfl
theorem blk_ok (w : World) (os : OsState) : segRunT treeTable PySem.Challenge.pw_millwords_s01_answers w 11 (some (.ref 6)) 1 1 (s0.at PySem.Challenge.pw_millwords_s01_answers w os) (blockOf (behindTheImports PySem.Challenge.pw_millwords_s01_answers) (envT PySem.Challenge.pw_millwords_s01_answers) (cdT PySem.Challenge.pw_millwords_s01_answers) q0 [topFrame q0]) =
    some (Flow.next, s0.at PySem.Challenge.pw_millwords_s01_answers w os, cdT PySem.Challenge.pw_millwords_s01_answers, q0) := by
  rw [Fast.te10110043849684766642, Fast.te14364793385576792824, Fast.te17693970362041243447]
  exact blk_tw w os
theorem fin_tw (w : World) (os : OsState) : Fast.tw14082659384304107361 Fast.tw14364793385576792824 Fast.tw17693970362041243447 w 11 (some (.ref 6)) 2 (s12.at Fast.tw17693970362041243447 w os).abs (restOf ((behindTheImports Fast.tw17693970362041243447).drop 89) (envT Fast.tw17693970362041243447) (cdT Fast.tw17693970362041243447) s12.pos [topFrame q0]) =
    some (s12.at Fast.tw17693970362041243447 w os).abs := by kernel_rfl
theorem fin_ok (w : World) (os : OsState) : topRun treeTable PySem.Challenge.pw_millwords_s01_answers w 11 (some (.ref 6)) 2 (s12.at PySem.Challenge.pw_millwords_s01_answers w os).abs (restOf ((behindTheImports PySem.Challenge.pw_millwords_s01_answers).drop 89) (envT PySem.Challenge.pw_millwords_s01_answers) (cdT PySem.Challenge.pw_millwords_s01_answers) s12.pos [topFrame q0]) =
    some (s12.at PySem.Challenge.pw_millwords_s01_answers w os).abs := by
  rw [Fast.te14082659384304107361, Fast.te14364793385576792824, Fast.te17693970362041243447]
  exact fin_tw w os
theorem run_of {p : Program} {w : World} {os : OsState}
    (g0 : SG segRunT treeTable p w os 0 4 41 s0 s1)
    (g1 : SG segRunT treeTable p w os 4 5 398 s1 s2)
    (g2 : SG segRunT treeTable p w os 9 16 145 s2 s3)
    (g3 : SG segRunT treeTable p w os 25 1 372 s3 s4)
    (g4 : SG segRunT treeTable p w os 26 2 340 s4 s5)
    (g5 : SG segRunT treeTable p w os 28 2 384 s5 s6)
    (g6 : SG segRunT treeTable p w os 30 16 379 s6 s7)
    (g7 : SG segRunT treeTable p w os 46 13 400 s7 s8)
    (g8 : SG segRunT treeTable p w os 59 15 401 s8 s9)
    (g9 : SG segRunT treeTable p w os 74 9 82 s9 s10)
    (g10 : SG segRunT treeTable p w os 83 2 385 s10 s11)
    (g11 : SG segRunT treeTable p w os 85 4 124 s11 s12)
    (pr : topGo treeTable p w 11 (some (.ref 6)) 12 ⟨boot_heap w.params, ⟨[]⟩, boot_drawn, boot_toks, os⟩ (topStub p) = some ((s0.at p w os).abs, ⟨denote treeTable (cdT p), cdT p, q0, [topFrame q0]⟩))
    (bk : segRunT treeTable p w 11 (some (.ref 6)) 1 1 (s0.at p w os) (blockOf (behindTheImports p) (envT p) (cdT p) q0 [topFrame q0]) = some (Flow.next, s0.at p w os, cdT p, q0))
    (fn : topRun treeTable p w 11 (some (.ref 6)) 2 (s12.at p w os).abs (restOf ((behindTheImports p).drop 89) (envT p) (cdT p) s12.pos [topFrame q0]) = some (s12.at p w os).abs) :
    topRun treeTable p w 11 (some (.ref 6)) (12 + (1 + (41 + (398 + (145 + (372 + (340 + (384 + (379 + (400 + (401 + (82 + (385 + (124 + 2)))))))))))))) ⟨boot_heap w.params, ⟨[]⟩, boot_drawn, boot_toks, os⟩ (topStub p) = some (s12.at p w os).abs :=
  go_top pr (piece_block (segRun_of bk) (stp g0 (stp g1 (stp g2 (stp g3 (stp g4 (stp g5 (stp g6 (stp g7 (stp g8 (stp g9 (stp g10 (stp g11 fn)))))))))))))
theorem run_ok (w : World) (os : OsState) : topRun treeTable PySem.Challenge.pw_millwords_s01_answers w 11 (some (.ref 6)) (12 + (1 + (41 + (398 + (145 + (372 + (340 + (384 + (379 + (400 + (401 + (82 + (385 + (124 + 2)))))))))))))) ⟨boot_heap w.params, ⟨[]⟩, boot_drawn, boot_toks, os⟩ (topStub PySem.Challenge.pw_millwords_s01_answers) = some (s12.at PySem.Challenge.pw_millwords_s01_answers w os).abs :=
  run_of (SG.tw (h0 w os)) (SG.tw (h1 w os)) (SG.tw (h2 w os)) (SG.tw (h3 w os)) (SG.tw (h4 w os)) (SG.tw (h5 w os)) (SG.tw (h6 w os)) (SG.tw (h7 w os)) (SG.tw (h8 w os)) (SG.tw (h9 w os)) (SG.tw (h10 w os)) (SG.tw (h11 w os)) (pre_ok w os) (blk_ok w os) (fin_ok w os)
end MH
set_option maxRecDepth 1000000
set_option maxHeartbeats 0
namespace MH
open PySem PySem.W PyProof.Rows
noncomputable def keepL : List Nat := [1, 2, 3, 4, 6, 7, 8, 9, 10, 11, 12, 13, 14, 15, 16, 17, 18, 19, 20, 21, 22, 23, 24, 25, 26, 27, 28, 29, 30, 31, 32, 33, 34, 35, 36, 37, 39, 40, 41, 42, 43, 44, 45, 46, 47, 48, 49, 50, 51, 52, 53, 54, 55, 56, 57, 58, 59, 60, 61, 62, 64, 65, 66, 67, 68, 69, 70, 71, 72, 74, 75, 76, 77, 78, 79, 80, 81, 82, 83, 84, 85, 86, 87, 88]
noncomputable def vw (p : Program) : Program := PySem.W.view p keepL
noncomputable def ls : List Str := [sx 0x5350554f52475f47, sx 0x5350554f52475f4d, sx 0x53454e414c50]
noncomputable def xt (p : Program) (s : Shared) : Bool := xlAt (vw p) [] s && recOk [] s
noncomputable def asL : List Addr := List.range 449
noncomputable def kf (p : Program) (P : Params) : Frag := asL.map fun a => (a, obk p (bl P) P s12.nm s12.k s12.e s12.f a)
theorem kf_as (p : Program) (P : Params) : asL = (kf p P).map (·.1) := by
  unfold kf
  rw [List.map_map]
  exact (List.map_id _).symm
noncomputable def H1 (p : Program) (P : Params) : Heap := absHeap (s12.tr p P) 449 {}
noncomputable def shT (p : Program) (P : Params) (os : OsState) : Shared := ⟨H1 p P, ⟨[]⟩, {}, 974, os⟩
noncomputable abbrev twP : Program := Fast.tw17693970362041243447
theorem sz_tw (w : World) : ((boot_heap w.params).isNs mainGlobals && (Array.mk ([] : List GenState)).size == 0, (boot_heap w.params).objs.size, Fast.tw8920871248978507458 (boot_heap w.params) mainGlobals "__annotations__") = (true, 11, some (.ref 6)) := by kernel_rfl
theorem lk1_tw (w : World) (os : OsState) : (staticsOk (Fast.tw5923862056798008813 twP.main.body) (boot_heap w.params) (H1 twP w.params) && namesBound twP (H1 twP w.params) && gensDone (shT twP w.params os) && laidKept (boot_heap w.params) (H1 twP w.params)) = true := by kernel_rfl
theorem lk2_tw (w : World) (os : OsState) : Fast.tw4187177175401517315 (vw twP) ls (Fast.tw5923862056798008813 twP.main.body) (xt twP) true (shT twP w.params os) = openGood (vw twP) ls := by kernel_rfl
theorem lk3 (p : Program) (P : Params) : asL.map (H1 p P).get? = (kf p P).map fun x => some x.2 := by kernel_rfl
noncomputable abbrev hk (p : Program) : Hook := kHook (kf p) asL (kf_as p)
theorem sz_ok (w : World) : ((boot_heap w.params).isNs mainGlobals && (Array.mk ([] : List GenState)).size == 0, (boot_heap w.params).objs.size, (boot_heap w.params).nsMap mainGlobals "__annotations__") = (true, 11, some (.ref 6)) := by
  rw [Fast.te8920871248978507458]
  exact sz_tw w
theorem lk1 (w : World) (os : OsState) : (staticsOk (importedModules PySem.Challenge.pw_millwords_s01_answers.main.body) (boot_heap w.params) (H1 PySem.Challenge.pw_millwords_s01_answers w.params) && namesBound PySem.Challenge.pw_millwords_s01_answers (H1 PySem.Challenge.pw_millwords_s01_answers w.params) && gensDone (shT PySem.Challenge.pw_millwords_s01_answers w.params os) && laidKept (boot_heap w.params) (H1 PySem.Challenge.pw_millwords_s01_answers w.params)) = true := by
  rw [Fast.te5923862056798008813, Fast.te17693970362041243447]
  exact lk1_tw w os
theorem lk2 (w : World) (os : OsState) : openSeen (vw PySem.Challenge.pw_millwords_s01_answers) ls (importedModules PySem.Challenge.pw_millwords_s01_answers.main.body) (xt PySem.Challenge.pw_millwords_s01_answers) true (shT PySem.Challenge.pw_millwords_s01_answers w.params os) = openGood (vw PySem.Challenge.pw_millwords_s01_answers) ls := by
  rw [Fast.te4187177175401517315, Fast.te5923862056798008813, Fast.te17693970362041243447]
  exact lk2_tw w os
theorem opn : opening PySem.Challenge.pw_millwords_s01_answers = plainProg PySem.Challenge.pw_millwords_s01_answers.main.scope.names := by kernel_rfl
theorem fnc (s : Shared) : fenceModules? PySem.Challenge.pw_millwords_s01_answers s = some s := by kernel_rfl
theorem at_abs (p : Program) (w : World) (os : OsState) : (s12.at p w os).abs = shT p w.params os := rfl
theorem run_sh (w : World) (os : OsState) : topRun treeTable PySem.Challenge.pw_millwords_s01_answers w 11 (some (.ref 6)) (12 + (1 + (41 + (398 + (145 + (372 + (340 + (384 + (379 + (400 + (401 + (82 + (385 + (124 + 2)))))))))))))) ⟨boot_heap w.params, ⟨[]⟩, boot_drawn, boot_toks, os⟩ (topStub PySem.Challenge.pw_millwords_s01_answers) = some (shT PySem.Challenge.pw_millwords_s01_answers w.params os) :=
  (run_ok w os).trans (congrArg some (at_abs _ w os))
theorem left_of {p : Program} (o : ∀ w : World, (fencedOpening treeTable p w 7004).map (fun s => (s.heap, s.gens, s.drawn, s.toks)) = some (boot_heap w.params, Array.mk [], boot_drawn, boot_toks))
    (r : ∀ (w : World) (os : OsState), topRun treeTable p w 11 (some (.ref 6)) (12 + (1 + (41 + (398 + (145 + (372 + (340 + (384 + (379 + (400 + (401 + (82 + (385 + (124 + 2)))))))))))))) ⟨boot_heap w.params, ⟨[]⟩, boot_drawn, boot_toks, os⟩ (topStub p) = some (shT p w.params os))
    (a : ∀ (w : World) (os : OsState), (staticsOk (importedModules p.main.body) (boot_heap w.params) (H1 p w.params) && namesBound p (H1 p w.params) && gensDone (shT p w.params os) && laidKept (boot_heap w.params) (H1 p w.params)) = true)
    (b : ∀ (w : World) (os : OsState), openSeen (vw p) ls (importedModules p.main.body) (xt p) true (shT p w.params os) = openGood (vw p) ls) :
    LeftO p (vw p) ls (xt p) (Hook.obs (hk p)) (Hook.val (hk p)) 7004 true :=
  LeftO.of_pieces (H₀ := boot_heap) (H₁ := H1 p) (gs₀ := ⟨[]⟩) (gs₁ := ⟨[]⟩) (d₀ := boot_drawn) (d₁ := {}) (k₀ := boot_toks) (k₁ := 974) (m₀ := 11) (ann := some (.ref 6)) (M := (12 + (1 + (41 + (398 + (145 + (372 + (340 + (384 + (379 + (400 + (401 + (82 + (385 + (124 + 2)))))))))))))))
    o sz_ok r (by decide) fun w => funext fun os => Prod.ext (a w os) (Prod.ext (b w os) (lk3 p w.params))
theorem left : LeftO PySem.Challenge.pw_millwords_s01_answers (vw PySem.Challenge.pw_millwords_s01_answers) ls (xt PySem.Challenge.pw_millwords_s01_answers) (Hook.obs (hk PySem.Challenge.pw_millwords_s01_answers)) (Hook.val (hk PySem.Challenge.pw_millwords_s01_answers)) 7004 true :=
  left_of (boot_open opn (by decide) fnc) run_sh lk1 lk2
end MH
end
set_option maxRecDepth 100000
set_option maxHeartbeats 1000000
namespace L2
open PySem PySem.Spec PyProof.Rows
abbrev vErr : List Value := [.type "ValueError", .type "Exception", .type "BaseException", .type "object"]
structure Exc (K : PySem.W.Frag) (mg : Str → Option Value) (x : Str) (C : Addr) : Prop where
  at_ : mg x = some (.ref C)
  cls : PySem.W.excIn K C vErr "ValueError.__new__" = true
theorem exc_obj {K : PySem.W.Frag} {h : Heap} {C : Addr} {bmB : List Value} {newId : String} (X : K.In h) (q : PySem.W.excIn K C bmB newId = true) :
    ∃ bm N nm qn bs hdct sn sub ab col dd k0 k1 k2 k3 k5 mN, h.get? C = some (excClassObj nm qn C N bs bm hdct sn sub ab col dd k0 k1 k2 k3 k5 newId) ∧ h.Ns N mN ∧ mN "__init__" = none ∧ OwnTail h bmB bm := by
  unfold PySem.W.excIn at q
  split at q
  · rename_i dd cd sl ho
    split at q
    · rename_i C' bm k0 k1 k2 k3 n k5 hm hs
      simp only [Bool.and_eq_true, beq_iff_eq, Bool.not_eq_true'] at q
      obtain ⟨⟨⟨⟨⟨rfl, rfl⟩, hdel⟩, ht⟩, hok⟩, hni⟩ := q
      obtain ⟨nm, bs, mro, ns, qn, hd, sn, sub, ab, col, del⟩ := cd
      dsimp only at hm hdel hok hni
      subst hm hdel
      have hsl : sl = #[k0, k1, k2, k3, some (.builtin n), k5] := by
        obtain ⟨l⟩ := sl
        simp only at hs
        rw [hs]
      subst hsl
      exact ⟨bm, ns, nm, qn, bs, hd, sn, sub, ab, col, dd, k0, k1, k2, k3, k5, _, X _ _ ho, .of_isNs (PySem.W.isNs_of_in X hok), PySem.W.nsMap_none_of_in X hok hni, PySem.W.tail_of_in X ht⟩
    · cases q
  · cases q
def CXE (P : Program) (w : World) (C : Addr) : CXT := fun outer H s E e s' => ∃ (a : Addr) (a0 : Value) (B : Heap) (H' : Hp), e = .ref a ∧ s'.os = s.os ∧ AllBare s'.gens ∧ Heap.FlyingW B outer a (.ref C) a0 s'.heap ∧
  Un (frs outer) [] H H' s.heap s'.heap ∧ HOk P w H' B ∧ (∀ b o, s.heap.get? b = some o → b ∉ frs outer → (H b = none → B.get? b = some o) ∧ ∃ o', B.get? b = some o') ∧ E (.ref C) none H'
theorem Un.fly {fs : List Addr} {H H' : Hp} {h h1 h2 B : Heap} (U : Un fs [] H H' h h1) (KB : ∀ b o, h.get? b = some o → b ∉ fs → (H b = none → B.get? b = some o) ∧ ∃ o', B.get? b = some o')
    (st : B.StaysIn h2) (sm : h1.UpToSlots h2) (nf : ∀ b ∈ fs, H b = none ∧ ∀ o, h.get? b = some o → ∀ vs, o.data ≠ .fields vs) : Un fs [] H H' h h2 where
  keep := fun b o q n hb _ => st b o ((KB b o q hb).1 n)
  slot := fun b o q n hb _ => by
    obtain ⟨sl, e⟩ := U.slot b o q n hb (by simp)
    obtain ⟨sl', e'⟩ := sm b _ e ((nf b hb).2 o q)
    exact ⟨sl', e'⟩
  free := U.free
  there := fun b o q _ => by
    by_cases hb : b ∈ fs
    · obtain ⟨sl, e⟩ := U.slot b o q (nf b hb).1 hb (by simp)
      obtain ⟨sl', e'⟩ := sm b _ e ((nf b hb).2 o q)
      exact ⟨_, e'⟩
    · obtain ⟨o', e'⟩ := (KB b o q hb).2
      exact ⟨o', st b o' e'⟩
  tups := U.tups
  frzs := U.frzs
  tbls := U.tbls
section
variable {P : Program} {w : World} {K : PySem.W.Frag} {mg : Str → Option Value} {base : Heap} {N : List Str} {qual : Str} {scope : Scope} {f : Addr} {cd : Value} {A : Around} {outer : List Env} {s₀ : Shared} {H₀ : Hp} {E : XK} {C : Addr}
theorem un_entry {CX : CXT} {pins : List (Addr × Obj)} {σ : St} {H H' : Hp} {s : Shared} {h1 h2 B : Heap} (I : Inv (cxOf CX P w K mg base N qual scope f cd A outer s₀ H₀ E) pins σ H s)
    (U : Un (frs (cxOf CX P w K mg base N qual scope f cd A outer s₀ H₀ E).stack) [] H H' s.heap h1)
    (KB : ∀ b o, s.heap.get? b = some o → b ∉ frs (cxOf CX P w K mg base N qual scope f cd A outer s₀ H₀ E).stack → (H b = none → B.get? b = some o) ∧ ∃ o', B.get? b = some o')
    (st : B.StaysIn h2) (sm : h1.UpToSlots h2) :
    Un (frs outer) [] H₀ H' s₀.heap h2 ∧ ∀ b o, s₀.heap.get? b = some o → b ∉ frs outer → (H₀ b = none → B.get? b = some o) ∧ ∃ o', B.get? b = some o' := by
  have U0 : Un (frs outer) [] H₀ H s₀.heap s.heap := I.base
  have inS : ∀ b, b ∈ frs (cxOf CX P w K mg base N qual scope f cd A outer s₀ H₀ E).stack ↔ b = s₀.heap.objs.size ∨ b ∈ frs outer := fun b => by
    show b ∈ (envOfC qual scope s₀.heap.objs.size f cd :: outer).filterMap (·.frame) ↔ _
    rw [List.filterMap_cons]
    show b ∈ s₀.heap.objs.size :: frs outer ↔ _
    exact List.mem_cons
  have neL : ∀ b o, s₀.heap.get? b = some o → b ≠ s₀.heap.objs.size := fun b o q => Nat.ne_of_lt (Heap.lt_size q)
  have KB0 : ∀ b o, s₀.heap.get? b = some o → b ∉ frs outer → (H₀ b = none → B.get? b = some o) ∧ ∃ o', B.get? b = some o' := fun b o q hb => by
    have hns : b ∉ frs (cxOf CX P w K mg base N qual scope f cd A outer s₀ H₀ E).stack := fun z => ((inS b).mp z).elim (neL b o q) hb
    refine ⟨fun n => (KB b o (U0.keep b o q n hb (by simp)) hns).1 (U0.free b o q n (by simp)), ?_⟩
    obtain ⟨o1, q1⟩ := U0.there b o q (by simp)
    exact (KB b o1 q1 hns).2
  have slot : ∀ b o, s₀.heap.get? b = some o → H₀ b = none → b ∈ frs outer → ∃ sl, h2.get? b = some { o with slots := sl } := fun b o q n hb => by
    obtain ⟨sl, q1⟩ := U0.slot b o q n hb (by simp)
    obtain ⟨sl2, q2⟩ := U.slot b _ q1 (U0.free b o q n (by simp)) ((inS b).mpr (.inr hb)) (by simp)
    obtain ⟨_, o', ho', hnf⟩ := I.ok.funs.mem hb
    have e : o' = o := Option.some.inj (ho'.symm.trans q)
    subst e
    obtain ⟨sl3, q3⟩ := sm b _ q2 hnf
    exact ⟨sl3, q3⟩
  refine ⟨⟨fun b o q n hb _ => st b o ((KB0 b o q hb).1 n), fun b o q n hb _ => slot b o q n hb, fun b o q n _ => ?_, fun b o q _ => ?_, fun b xs q => U.tups b xs (U0.tups b xs q), fun b o u q => U.frzs b o u (U0.frzs b o u q), fun b ps q => ?_⟩, KB0⟩
  · obtain ⟨o1, q1⟩ := U0.there b o q (by simp)
    exact U.free b o1 q1 (U0.free b o q n (by simp)) (by simp)
  · by_cases hb : b ∈ frs outer
    · obtain ⟨sl, e⟩ := slot b o q (I.ok.frf b hb) hb
      exact ⟨_, e⟩
    · obtain ⟨o', e'⟩ := (KB0 b o q hb).2
      exact ⟨o', st b o' e'⟩
  · obtain ⟨m1, e1⟩ := U0.tbls b ps q
    obtain ⟨m2, e2⟩ := U.tbls b _ e1
    exact ⟨m1 ++ m2, by rw [e2, Array.append_assoc]⟩
theorem passE : Passes (CXE P w C) (cxOf (CXE P w C) P w K mg base N qual scope f cd A outer s₀ H₀ E) E := by
  intro pins σ H s e s' I hcx
  obtain ⟨a, a0, B, H', rfl, os, bare, fl, U, HB, KB, q⟩ := hcx
  refine wpAny_leaves_onW (outer := outer) I.ok.frames rfl fl fun h' fl' sm => ?_
  obtain ⟨U2, KB2⟩ := un_entry I U KB fl'.1 sm
  exact ⟨a, a0, B, H', rfl, os.trans I.os, bare, fl', U2, HB, KB2, q⟩
def Raises (X : Cx) (C : Addr) (E : XK) : Prop := ∀ (pins : List (Addr × Obj)) (σ : St) (H : Hp) (s : Shared) (vs : List Value) (e : Addr) (h' : Heap), Inv X pins σ H s → Heap.MadeExcOf s.heap h' e (.ref C) vs → E (.ref C) none H → X.xe (.ref e) { s with heap := h' }
theorem raiseE : Raises (cxOf (CXE P w C) P w K mg base N qual scope f cd A outer s₀ H₀ E) C E := by
  intro pins σ H s vs e h' I hx q
  have hin : ∀ env ∈ (cxOf (CXE P w C) P w K mg base N qual scope f cd A outer s₀ H₀ E).stack, ∀ b, env.frame = some b → b ∈ frs (cxOf (CXE P w C) P w K mg base N qual scope f cd A outer s₀ H₀ E).stack := fun env he b hb => List.mem_filterMap.mpr ⟨env, he, hb⟩
  have fun1 := PySem.W.funFrames_hide (as := frs (cxOf (CXE P w C) P w K mg base N qual scope f cd A outer s₀ H₀ E).stack) I.stack hin
  refine wpAny_leaves_madeW (outer := outer) (base := PySem.W.hideAll s.heap (frs (cxOf (CXE P w C) P w K mg base N qual scope f cd A outer s₀ H₀ E).stack)) I.ok.frames rfl (fun b o q => PySem.W.of_hideAll _ q) fun1 hx fun h'' t fl _ _ sm => ?_
  have HB : HOk P w H (PySem.W.hideAll s.heap (frs (cxOf (CXE P w C) P w K mg base N qual scope f cd A outer s₀ H₀ E).stack)) := fun a o ea =>
    (I.hok a o ea).stay (fun b u hb qb => PySem.W.hideAll_get _ qb fun hm => by
      have hn := I.stkFree b hm
      rcases hb with rfl | hb
      · rw [hn] at ea; cases ea
      · rw [hn] at hb; cases hb) (fun _ z => z) fun _ _ z => z
  have KB : ∀ b o, s.heap.get? b = some o → b ∉ frs (cxOf (CXE P w C) P w K mg base N qual scope f cd A outer s₀ H₀ E).stack → (H b = none → (PySem.W.hideAll s.heap (frs (cxOf (CXE P w C) P w K mg base N qual scope f cd A outer s₀ H₀ E).stack)).get? b = some o) ∧
      ∃ o', (PySem.W.hideAll s.heap (frs (cxOf (CXE P w C) P w K mg base N qual scope f cd A outer s₀ H₀ E).stack)).get? b = some o' := fun b o qb hb => ⟨fun _ => PySem.W.hideAll_get _ qb hb, o, PySem.W.hideAll_get _ qb hb⟩
  have U : Un (frs (cxOf (CXE P w C) P w K mg base N qual scope f cd A outer s₀ H₀ E).stack) [] H H s.heap h' := Un.kept hx.keeps
  obtain ⟨U2, KB2⟩ := un_entry I U KB fl.1 sm
  exact ⟨e, .ref t, _, H, rfl, I.os, I.bare, fl, U2, HB, KB2, q⟩
end
def tRaise (C : Addr) (E : XK) (t : TA) : TS := fun _ σ H => t σ H fun vs H1 => vs.length ≤ sizeLine ∧ E (.ref C) none H1
theorem ps_raise {X : Cx} {x : Str} {C : Addr} {E : XK} {e₀ : Expr} {rest : List Expr} {np cpos pos : Pos} {t : TA} (Ex : Exc X.K X.mg x C) (hc : X.calm = true) (hr : Raises X C E) (hg : Gl X x) (ha : PA X (e₀ :: rest) t)
    (he : starEach (e₀ :: rest) X.env = (false, eval e₀ X.env) :: starEach rest X.env := by rfl) (hpl : (backTo cpos (starEach rest X.env)).any (·.1) = false := by rfl) (hd : (x == ("__debug__" : Str)) = false := by decide) :
    PS X (.Raise (some (.Call (.Name x np) (e₀ :: rest) [] cpos)) none pos) (tRaise C E t) := by
  intro pins s σ H D I h
  obtain ⟨tl, N, nm, q, bs, hdct, sn, sub, ab, col, dd, k0, k1, k2, k3, k5, mN, hC, hN, hni, T⟩ := exc_obj I.ok.mod.kin Ex.cls
  refine wpAny_Raise_call_subT (C := C) (nm := nm) (q := q) (N := N) (bs := bs) (bm := tl) (hdct := hdct) (sn := sn) (sub := sub) (ab := ab) (col := col) (dd := dd) (k0 := k0) (k1 := k1) (k2 := k2) (k3 := k3) (k5 := k5)
    PySem.F.excBase_ValueError (mN := mN) (T.hasType PySem.F.excBase_ValueError.hasBase) (I.ok.hd hc) (by rw [he]; show (false || (backTo cpos (starEach rest X.env)).any (·.1)) = false; rw [hpl]; rfl) hni (ld_glob I hg Ex.at_ ⟨rfl, ?_⟩ hd)
  have ha' := ha cpos pins s σ H _ I h
  rw [he] at ha' ⊢
  exact Calls.evalArgs_plain (wpAny_mono ha' (fun us s₂ ⟨vs, H2, I2, r, hz, q2⟩ => ⟨rfl, by rw [← r.length]; exact hz, I2.bk _ _ hC, hN.keeps I2.bk, T.keeps I2.bk, fun h' e hm => hr pins σ H2 s₂ us e h' I2 hm q2⟩) fun _ _ y => y)
def PassesS (CX : CXT) (X : Cx) (E : St → XK) : Prop := ∀ (pins : List (Addr × Obj)) (σ : St) (H : Hp) (s : Shared) (e : Value) (s' : Shared), Inv X pins σ H s → CX X.stack H s (E σ) e s' → X.xe e s'
def tCallS (sp : Sp) (E : St → XK) (t : TA) : TE := fun σ H Q => t σ H fun vs H1 => sp vs H1 Q (E σ)
theorem pe_callS {X : Cx} {CX : CXT} {k : Nat} {f : Addr} {fd : FuncData} {ps : List Str} {sp : Sp} {E : St → XK} {x : Str} {p pos : Pos} {e : Expr} {es : List Expr} {t : TA} (F : FnOk X.prog X.w X.K X.mg X.base CX k f fd ps sp) (hr : Room k X.A) (hg : Gl X x) (hm : X.mg x = some (.ref f)) (hk : PySem.W.keepIn X.K (.ref f) = true) (hb : Binds X.K fd ps []) (hx : PassesS CX X E)
    (ha : PA X (e :: es) t) (hdb : (x == ("__debug__" : Str)) = false := by decide) (he : starEach (e :: es) X.env = (false, eval e X.env) :: starEach es X.env := by rfl) (hpl : (backTo pos (starEach es X.env)).any (·.1) = false := by rfl) :
    PE X (.Call (.Name x p) (e :: es) [] pos) (tCallS sp E t) := by
  intro pins s σ H Q I h
  refine wpAny_Call_Name_kw (ld_glob I hg hm ?_ hdb)
  refine PySem.W.callWith_K (h₀ := X.base) I.ok.mod.kin hk (thn (ha pos pins s σ H _ I h) fun us s1 ⟨vs, H1, I1, r, q⟩ => ⟨I1.kIn, ?_⟩) he hpl
  have hl : us.length = ps.length := by rw [← r.length]; exact F.len _ _ _ _ q
  have hb' := hb s1 us I1.kIn (by rw [List.append_nil]; exact hl)
  rw [List.append_nil] at hb'
  refine wpAny_call (codeAny_mono (F.run X.A X.stack s1 H1 ⟨us, []⟩ us vs Q (E σ) hr I1.env0 hb' r q) fun r s' hq => ?_)
  cases r with
  | error e => exact hx pins σ H1 s1 e s' I1 hq
  | ok fl =>
    cases fl with
    | ret u => exact I1.after hq
    | next => exact False.elim hq
    | brk => exact False.elim hq
    | cont => exact False.elim hq
abbrev Cx.marked (X : Cx) (e : Addr) : Cx := { X with A := X.A.mark (some (.ref e)), calm := false }
theorem Inv.marked {X : Cx} {pins : List (Addr × Obj)} {σ : St} {H : Hp} {s : Shared} (I : Inv X pins σ H s) (e : Addr) : Inv (X.marked e) pins σ H s :=
  ⟨⟨I.ok.mod, I.ok.kind, I.ok.glob, I.ok.blt, I.ok.above, I.ok.inj, I.ok.has, I.ok.cab, (fun z => nomatch z), I.ok.frames, I.ok.stk, I.ok.exf, I.ok.bs, I.ok.bsz, I.ok.noex, I.ok.exfs, I.ok.funs, I.ok.frf⟩, I.os, I.bare, I.base, I.loc, I.cell, I.free, I.freeC, I.pin, I.hok, I.len⟩
theorem Inv.unmarked {X : Cx} {pins : List (Addr × Obj)} {σ : St} {H : Hp} {s : Shared} {e : Addr} (ok : X.Ok) (I : Inv (X.marked e) pins σ H s) : Inv X pins σ H s :=
  ⟨ok, I.os, I.bare, I.base, I.loc, I.cell, I.free, I.freeC, I.pin, I.hok, I.len⟩
abbrev Cx.tried (X : Cx) (xe : Value → Shared → Prop) (pn : List (Addr × Obj)) : Cx := { X with xe := xe, pn := pn }
theorem Inv.tried {X : Cx} {pins : List (Addr × Obj)} {σ : St} {H : Hp} {s : Shared} (I : Inv X pins σ H s) (xe : Value → Shared → Prop) : Inv (X.tried xe (X.pn ++ pins)) [] σ H s :=
  ⟨⟨I.ok.mod, I.ok.kind, I.ok.glob, I.ok.blt, I.ok.above, I.ok.inj, I.ok.has, I.ok.cab, I.ok.hd, I.ok.frames, I.ok.stk, I.ok.exf, I.ok.bs, I.ok.bsz, I.ok.noex, I.ok.exfs, I.ok.funs, I.ok.frf⟩, I.os, I.bare, I.base, I.loc, I.cell, I.free, I.freeC, fun p hp => I.pin p (by rw [List.append_nil] at hp; exact hp), I.hok, I.len⟩
theorem Inv.untried {X : Cx} {pins pins1 : List (Addr × Obj)} {σ : St} {H : Hp} {s : Shared} {xe : Value → Shared → Prop} (I : Inv (X.tried xe (X.pn ++ pins)) pins1 σ H s) : Inv X pins σ H s :=
  ⟨⟨I.ok.mod, I.ok.kind, I.ok.glob, I.ok.blt, I.ok.above, I.ok.inj, I.ok.has, I.ok.cab, I.ok.hd, I.ok.frames, I.ok.stk, I.ok.exf, I.ok.bs, I.ok.bsz, I.ok.noex, I.ok.exfs, I.ok.funs, I.ok.frf⟩, I.os, I.bare, I.base, I.loc, I.cell, I.free, I.freeC, fun p hp => I.pin p (List.mem_append_left _ hp), I.hok, I.len⟩
theorem ps_try {X : Cx} {x : Str} {C : Addr} {body suite : List Stmt} {b₀ : Stmt} {np hpos pos : Pos} {tb : Ends → TS} {th : TS} (Ex : Exc X.K X.mg x C) (hg : Gl X x) (hst : X.stack = X.env :: X.outer) (hfr : X.env.frame = some X.env.locals)
    (hb : ∀ (D : Ends) (xe : Value → Shared → Prop) (pn : List (Addr × Obj)), PassesS (CXE X.prog X.w C) (X.tried xe pn) (fun σ _ _ H' => th D σ H') → PSs (X.tried xe pn) body (tb D))
    (hs : ∀ e, PSs (X.marked e) (b₀ :: suite) th) (hE : ∀ e : Addr, PassesOwnAt (model X.prog X.w) (X.A.mark (some (.ref e))) X.A X.env X.xe) (hd : (x == ("__debug__" : Str)) = false := by decide) :
    PS X (.Try body [.ExceptHandler (some (.Name x np)) none (b₀ :: suite) hpos] [] [] pos) (fun D σ H => tb D D σ H) := by
  intro pins s σ H D I h
  refine wpAny_Try_except ?_
  have hp : PassesS (CXE X.prog X.w C) (X.tried (fun e s₁ => wpAny (model X.prog X.w) X.A (noteFrame e X.env) (fun _ s₂ => wpAny (model X.prog X.w) X.A (setFlight e none) (fun _ s₃ => wpAny (model X.prog X.w) X.A (handleBy e X.env [.ExceptHandler (some (.Name x np)) none (b₀ :: suite) hpos]) (SP X pins D) X.xe s₃) X.xe s₂) X.xe s₁) (X.pn ++ pins))
      (fun σ _ _ H' => th D σ H') := by
    intro pins1 σ1 H1 s1 e s' I1 hcx
    obtain ⟨a, a0, B, H', rfl, os, bare, fl, U, HB, KB, q⟩ := hcx
    have IX : Inv X pins σ1 H1 s1 := I1.untried
    have hfrm : X.A.frames = some (X.env :: X.outer) := by rw [IX.ok.frames, hst]
    have fl : Heap.FlyingW B (X.env :: X.outer) a (.ref C) a0 s'.heap := by rw [← hst]; exact fl
    have U : Un (frs X.stack) [] H1 H' s1.heap s'.heap := U
    have nf : ∀ b ∈ frs X.stack, H1 b = none ∧ ∀ o, s1.heap.get? b = some o → ∀ vs, o.data ≠ .fields vs := fun b hb => ⟨IX.stkFree b hb, fun o ho => by
      obtain ⟨_, o', ho', hnf⟩ := IX.stack.mem hb
      rw [ho] at ho'
      cases ho'
      exact hnf⟩
    have at_ : ∀ h2 : Heap, B.StaysIn h2 → s'.heap.UpToSlots h2 → Inv X pins σ1 H' { s' with heap := h2 } := fun h2 st sm =>
      IX.call' (s' := { s' with heap := h2 }) (ch := []) os (U.fly KB st sm nf) (HB.kept st) bare (fun b z => absurd z (by simp))
    refine wpAny_looks_onW hfrm hfr fl fun h4 held4 sm4 => ?_
    refine wpAny_landsW held4 fun h5 fl5 sm5 => ?_
    have I5 := at_ h5 fl5.1 (sm4.trans sm5)
    obtain ⟨ob, hob, hobc⟩ := fl5.there
    refine wpAny_handleBy_cons (codeAny_handlers_test (ld_glob (X := X.marked a) (I5.marked a) hg Ex.at_ ?_ hd)) (by intro q; cases q)
    obtain ⟨bm, N, nm, qn, bs, hdct, sn, sub, ab, col, dd, k0, k1, k2, k3, k5, mN, hC, hN, hni, TL⟩ := exc_obj I5.kIn Ex.cls
    refine wpAny_excMatches_sub_self hC hob hobc (TL.hasType PySem.F.excBase_ValueError.hasBase) (codeAny_handlers_suite ?_)
    refine lands_againW fl5 fun h6 fl6 sm6 => ?_
    have I6 := at_ h6 fl6.1 ((sm4.trans sm5).trans sm6)
    refine wpAny_passesOwnAt (hE a) (wpAny_mono (hs a pins _ σ1 H' D (I6.marked a) q) (fun fl s2 hsp => ?_) fun _ _ z => z)
    cases fl with
    | next => obtain ⟨σ', H2, I', q⟩ := hsp; exact ⟨σ', H2, I'.unmarked IX.ok, q⟩
    | brk => obtain ⟨σ', H2, I', q⟩ := hsp; exact ⟨σ', H2, I'.unmarked IX.ok, q⟩
    | cont => obtain ⟨σ', H2, I', q⟩ := hsp; exact ⟨σ', H2, I'.unmarked IX.ok, q⟩
    | ret u => obtain ⟨v, σ', H2, I', r, q⟩ := hsp; exact ⟨v, σ', H2, I'.unmarked IX.ok, r, q⟩
  refine wpAny_mono (hb D _ _ hp [] s σ H D (I.tried _) h) (fun fl s2 hsp => ?_) fun _ _ z => z
  cases fl with
  | next => obtain ⟨σ', H2, I', q⟩ := hsp; exact wpAny_execs_nil ⟨σ', H2, I'.untried, q⟩
  | brk => obtain ⟨σ', H2, I', q⟩ := hsp; exact ⟨σ', H2, I'.untried, q⟩
  | cont => obtain ⟨σ', H2, I', q⟩ := hsp; exact ⟨σ', H2, I'.untried, q⟩
  | ret u => obtain ⟨v, σ', H2, I', r, q⟩ := hsp; exact ⟨v, σ', H2, I'.untried, r, q⟩
theorem Fun.okE {P : Program} {w : World} {K : PySem.W.Frag} {mg : Str → Option Value} {base : Heap} {C : Addr} {x qual : Str} {st : Stmt} {f : Addr} {fd : FuncData} {N ps : List Str} {k : Nat} {sp : Sp} (F : Fun K x qual st f fd) (S : FnScope N ps (defScope st)) (len : ∀ vs H Q E, sp vs H Q E → vs.length = ps.length)
    (hbody : ∀ (cdv : Value) (A : Around) (outer : List Env) (s : Shared) (H : Hp) (vs : List V) (Q : VK) (E : XK), Room k (A.deeper (envOfC qual (defScope st) s.heap.objs.size f cdv)) → sp vs H Q E →
      ∃ t, PSs (cxOf (CXE P w C) P w K mg base N qual (defScope st) f cdv A outer s H E) (defBody st) t ∧ t { nx := fun _ H' => Q .non H', rt := Q } (start N vs) H) : FnOk P w K mg base (CXE P w C) (k + 1) f fd ps sp := by
  obtain ⟨oc, od, kV, doc, pm, an, cdv, ct, osl, rfl, lk, hcd⟩ := F.ex
  exact fn_of lk hcd S len fun A outer s H vs Q E hr hsp => hbody cdv A outer s H vs Q E hr hsp
end L2
set_option maxRecDepth 100000
namespace PySem
open Sem (wp)
section
variable {prog : Program} {w : World} {A : Around} {R : Result → Shared → Prop} {I : Addr} {fp wr : List Addr} {n : Nat} {P : Nat → Value → Prop} {St : Nat → Heap → Prop}
theorem maxD_loop (d : Value) (W : Walks prog w A.in1 I fp wr n P St) (bt : Nat → Nat → Bool) (cm : CmpOf prog w A.in1 .Gt P bt) (S : Addr) (nS : S ∉ fp) :
    ∀ (k j : Nat) (s : Shared) (b0 : Value) (c : Nat), n - (j + 1) = k → j + 1 ≤ n → St (j + 1) s.heap → P (argBest bt j) b0 →
      s.heap.get? S = some { cls := .type "list", dict := none, data := .seq #[b0, b0] c, slots := #[] } →
      (∀ v h' tk, P (argBest bt (n - 1)) v → (∀ b o, b ∉ wr → b ≠ S → s.heap.get? b = some o → h'.get? b = some o) → R (.ok (.ret v)) { s with heap := h', toks := tk }) →
      codeAny (model prog w) A (.builtin "max.loop" ⟨[.ref I, .none, .ref S], [("default", d)]⟩) R s := by
  have nSw : S ∉ wr := fun z => nS (W.sub _ z)
  have nm : (toString "max" ++ toString ".loop" : String) = "max.loop" := by decide
  intro k
  induction k with
  | zero =>
    intro j s b0 c ek jn st pb sS out
    have ej : j + 1 = n := by omega
    refine codeAny_builtin F.entry_max_loop ?_
    rw [Around.under_plainId F.plain_max_loop _]
    show wpAny _ A.in1 (seqItems? (.ref S) >>= _) _ _ s
    refine wpAny_bind (wpAny_seqItems sS rfl ?_)
    show wpAny _ A.in1 (tryCatch (pyNext (.ref I)) _ >>= _) _ _ s
    refine wpAny_bind (wpAny_tryCatch (W.done s _ _ (ej ▸ st) fun h1 t1 k1 => ?_))
    have sS1 := k1 S _ nSw sS
    show wpAny _ A.in1 (updateSeq S (fun _ => #[]) >>= _) _ _ _
    refine wpAny_bind ?_
    refine wpAny_updateSeq sS1 rfl (wpAny_bind (wpAny_letGo (wpAny_pure ?_)))
    exact out b0 _ t1 (by rw [← ej]; exact pb) fun b o q1 q2 e => (Heap.get?_update_other _ _ (Ne.symm q2)).trans (k1 b o q1 e)
  | succ k ih =>
    intro j s b0 c ek jn st pb sS out
    have jlt : j + 1 < n := by omega
    refine codeAny_builtin F.entry_max_loop ?_
    rw [Around.under_plainId F.plain_max_loop _]
    show wpAny _ A.in1 (seqItems? (.ref S) >>= _) _ _ s
    refine wpAny_bind (wpAny_seqItems sS rfl ?_)
    show wpAny _ A.in1 (tryCatch (pyNext (.ref I)) _ >>= _) _ _ s
    refine wpAny_bind (wpAny_tryCatch (W.item (j + 1) s _ _ jlt st fun v h1 t1 pv st1 k1 => ?_))
    have sS1 := k1 S _ nSw sS
    show wpAny _ A.in1 (tryCatch (holding [v, v] (richCompare .Gt v b0 >>= _)) _ >>= _) _ _ _
    refine wpAny_bind (wpAny_tryCatch (wpAny_holding (wpAny_bind (cm (j + 1) (argBest bt j) v b0 _ _ _ pv pb ?_))))
    refine wpAny_bind (wpAny_holding (wpAny_truthy_bool ?_))
    refine wpAny_bind (wpAny_letGo (wpAny_pure ?_))
    cases q : bt (j + 1) (argBest bt j) with
    | true =>
      simp only [if_true]
      refine wpAny_bind ?_
      refine wpAny_updateSeq sS1 rfl (wpAny_bind (wpAny_letGo ?_))
      rw [nm]
      refine wpAny_pure ⟨plainId_quiet F.plain_max_loop _, ih (j + 1) _ v _ (by omega) jlt (W.frame _ _ _ st1 fun b m o e => ?_) (by simp only [argBest, q, if_true]; exact pv) (Heap.get?_update_self _ sS1 rfl) fun v2 h2 t2 p2 k2 => ?_⟩
      · exact (Heap.get?_update_other _ _ (fun z : S = b => nS (by rw [z]; exact m))).trans e
      · exact out v2 h2 t2 p2 fun b o q1 q2 e => k2 b o q1 q2 ((Heap.get?_update_other _ _ (Ne.symm q2)).trans (k1 b o q1 e))
    | false =>
      simp only [Bool.false_eq_true, if_false]
      refine wpAny_bind (wpAny_letGo ?_)
      rw [nm]
      refine wpAny_pure ⟨plainId_quiet F.plain_max_loop _, ih (j + 1) _ b0 c (by omega) jlt st1 (by simp only [argBest, q, Bool.false_eq_true, if_false]; exact pb) sS1 fun v2 h2 t2 p2 k2 => ?_⟩
      exact out v2 h2 t2 p2 fun b o q1 q2 e => k2 b o q1 q2 (k1 b o q1 e)
theorem maxD_first (d : Value) (W : Walks prog w A.in1 I fp wr n P St) (bt : Nat → Nat → Bool) (cm : CmpOf prog w A.in1 .Gt P bt) (S : Addr) (nS : S ∉ fp) (pn : 0 < n) {s : Shared} {c : Nat} (st : St 0 s.heap)
    (sS : s.heap.get? S = some { cls := .type "list", dict := none, data := .seq #[] c, slots := #[] })
    (out : ∀ v h' tk, P (argBest bt (n - 1)) v → (∀ b o, b ∉ wr → b ≠ S → s.heap.get? b = some o → h'.get? b = some o) → R (.ok (.ret v)) { s with heap := h', toks := tk }) :
    codeAny (model prog w) A (.builtin "max.loop" ⟨[.ref I, .none, .ref S], [("default", d)]⟩) R s := by
  have nSw : S ∉ wr := fun z => nS (W.sub _ z)
  have nm : (toString "max" ++ toString ".loop" : String) = "max.loop" := by decide
  refine codeAny_builtin F.entry_max_loop ?_
  rw [Around.under_plainId F.plain_max_loop _]
  show wpAny _ A.in1 (seqItems? (.ref S) >>= _) _ _ s
  refine wpAny_bind (wpAny_seqItems sS rfl ?_)
  show wpAny _ A.in1 (tryCatch (pyNext (.ref I)) _ >>= _) _ _ s
  refine wpAny_bind (wpAny_tryCatch (W.item 0 s _ _ pn st fun v h1 t1 pv st1 k1 => ?_))
  have sS1 := k1 S _ nSw sS
  show wpAny _ A.in1 (updateSeq S (fun _ => #[v, v]) >>= _) _ _ _
  refine wpAny_bind ?_
  refine wpAny_updateSeq sS1 rfl ?_
  rw [nm]
  refine wpAny_pure ⟨plainId_quiet F.plain_max_loop _, maxD_loop d W bt cm S nS _ 0 _ v _ rfl pn (W.frame _ _ _ st1 fun b m o e => ?_) pv (Heap.get?_update_self _ sS1 rfl) fun v2 h2 t2 p2 k2 => ?_⟩
  · exact (Heap.get?_update_other _ _ (fun z : S = b => nS (by rw [z]; exact m))).trans e
  · exact out v2 h2 t2 p2 fun b o q1 q2 e => k2 b o q1 q2 ((Heap.get?_update_other _ _ (Ne.symm q2)).trans (k1 b o q1 e))
theorem maxD_empty (d : Value) (W : Walks prog w A.in1 I fp wr 0 P St) (S : Addr) (nS : S ∉ fp) {s : Shared} {c : Nat} (st : St 0 s.heap)
    (sS : s.heap.get? S = some { cls := .type "list", dict := none, data := .seq #[] c, slots := #[] })
    (out : ∀ h' tk, (∀ b o, b ∉ wr → b ≠ S → s.heap.get? b = some o → h'.get? b = some o) → R (.ok (.ret d)) { s with heap := h', toks := tk }) :
    codeAny (model prog w) A (.builtin "max.loop" ⟨[.ref I, .none, .ref S], [("default", d)]⟩) R s := by
  have nSw : S ∉ wr := fun z => nS (W.sub _ z)
  refine codeAny_builtin F.entry_max_loop ?_
  rw [Around.under_plainId F.plain_max_loop _]
  show wpAny _ A.in1 (seqItems? (.ref S) >>= _) _ _ s
  refine wpAny_bind (wpAny_seqItems sS rfl ?_)
  show wpAny _ A.in1 (tryCatch (pyNext (.ref I)) _ >>= _) _ _ s
  refine wpAny_bind (wpAny_tryCatch (W.done s _ _ st fun h1 t1 k1 => ?_))
  refine wpAny_bind (wpAny_rule ?_)
  exact wpAny_pure (out h1 t1 fun b o q1 _ e => k1 b o q1 e)
end
section
variable {prog : Program} {w : World} {A : Around} {E : Value → Shared → Prop} {s : Shared} {l : Addr} {xs : Array (Int × Tok)}
theorem args_maxD (a d : Value) : argsOk "max" ⟨[a], [("default", d)]⟩ := by unfold argsOk; kernel_rfl
theorem maxD_call {d : Value} {Q : Value → Shared → Prop} (hh : A.handled = none) (hl : s.heap.IsList l (intItems xs))
    (q0 : xs.size = 0 → ∀ h' tk, (∀ b o, s.heap.get? b = some o → h'.get? b = some o) → Q d { s with heap := h', toks := tk })
    (q1 : 0 < xs.size → ∀ v h' tk, (intItems xs)[argBest (fun i j => decide (numAt xs i > numAt xs j)) (xs.size - 1)]? = some v → (∀ b o, s.heap.get? b = some o → h'.get? b = some o) → Q v { s with heap := h', toks := tk }) :
    wpAny (model prog w) A (call (.builtin "max") [.ref l] [("default", d)]) Q E s := by
  have nm : (toString "max" ++ toString ".loop" : String) = "max.loop" := by decide
  refine PyProof.Rows.kmk_tree F.kind_max F.plain_max F.entry_max (args_maxD _ _) ?_
  show wpAny _ A.in1 (Builtin.Builtins.bindParams "max" ["key", "default"] 0 ⟨[], [("default", d)]⟩ >>= _) _ _ s
  refine wpAny_bind (wpAny_of_eq (show Builtin.Builtins.bindParams "max" ["key", "default"] 0 ⟨[], [("default", d)]⟩ = pure [none, some d] from rfl) ?_)
  refine wpAny_bind (wpAny_pure ?_)
  refine wpAny_bind (iter_intList hl fun s2 e st hfp hlI => ?_)
  subst e
  have W := Walks.list (prog := prog) (w := w) (A := A.in1) hh s.heap.objs.size l hlI (intItems xs)
  have nS : (s.heap.push { cls := .type "list_iterator", data := .fields #[.ref l, .int 0 0] }).objs.size ∉ [s.heap.objs.size, l] := fun m => Nat.lt_irrefl _ (hfp _ m)
  refine wpAny_bind (wpAny_newObj_type ?_)
  rw [nm]
  rcases Nat.eq_zero_or_pos xs.size with z | z
  · have z' : (intItems xs).size = 0 := by simpa [intItems] using z
    rw [z'] at W
    refine wpAny_pure ⟨plainId_quiet F.plain_max_loop _, maxD_empty d W _ nS (W.frame _ _ _ st fun b _ o e => Heap.get?_push_of_some _ e) (Heap.get?_push_size _ rfl) fun h' tk hk => ?_⟩
    exact q0 z h' tk (old_kept fun b o q e => hk b o q (Nat.ne_of_lt (Heap.lt_size e)) (Heap.get?_push_of_some _ e))
  · have z' : 0 < (intItems xs).size := by simpa [intItems] using z
    refine wpAny_pure ⟨plainId_quiet F.plain_max_loop _, maxD_first d W (fun i j => decide (numAt xs i > numAt xs j)) (CmpOf.ints_gt (numAt xs) (fun _ _ => intItems_at)) _ nS z' (W.frame _ _ _ st fun b _ o e => Heap.get?_push_of_some _ e) (Heap.get?_push_size _ rfl) fun v h' tk hP hk => ?_⟩
    exact q1 z v h' tk (by simpa [intItems] using hP) (old_kept fun b o q e => hk b o q (Nat.ne_of_lt (Heap.lt_size e)) (Heap.get?_push_of_some _ e))
end
section
variable {prog : Program} {w : World} {A : Around} {R : Result → Shared → Prop} {I : Addr} {fp wr : List Addr} {n : Nat} {P : Nat → Value → Prop} {St : Nat → Heap → Prop}
theorem minD_loop (d : Value) (W : Walks prog w A.in1 I fp wr n P St) (bt : Nat → Nat → Bool) (cm : CmpOf prog w A.in1 .Lt P bt) (S : Addr) (nS : S ∉ fp) :
    ∀ (k j : Nat) (s : Shared) (b0 : Value) (c : Nat), n - (j + 1) = k → j + 1 ≤ n → St (j + 1) s.heap → P (argBest bt j) b0 →
      s.heap.get? S = some { cls := .type "list", dict := none, data := .seq #[b0, b0] c, slots := #[] } →
      (∀ v h' tk, P (argBest bt (n - 1)) v → (∀ b o, b ∉ wr → b ≠ S → s.heap.get? b = some o → h'.get? b = some o) → R (.ok (.ret v)) { s with heap := h', toks := tk }) →
      codeAny (model prog w) A (.builtin "min.loop" ⟨[.ref I, .none, .ref S], [("default", d)]⟩) R s := by
  have nSw : S ∉ wr := fun z => nS (W.sub _ z)
  have nm : (toString "min" ++ toString ".loop" : String) = "min.loop" := by decide
  intro k
  induction k with
  | zero =>
    intro j s b0 c ek jn st pb sS out
    have ej : j + 1 = n := by omega
    refine codeAny_builtin F.entry_min_loop ?_
    rw [Around.under_plainId F.plain_min_loop _]
    show wpAny _ A.in1 (seqItems? (.ref S) >>= _) _ _ s
    refine wpAny_bind (wpAny_seqItems sS rfl ?_)
    show wpAny _ A.in1 (tryCatch (pyNext (.ref I)) _ >>= _) _ _ s
    refine wpAny_bind (wpAny_tryCatch (W.done s _ _ (ej ▸ st) fun h1 t1 k1 => ?_))
    have sS1 := k1 S _ nSw sS
    show wpAny _ A.in1 (updateSeq S (fun _ => #[]) >>= _) _ _ _
    refine wpAny_bind ?_
    refine wpAny_updateSeq sS1 rfl (wpAny_bind (wpAny_letGo (wpAny_pure ?_)))
    exact out b0 _ t1 (by rw [← ej]; exact pb) fun b o q1 q2 e => (Heap.get?_update_other _ _ (Ne.symm q2)).trans (k1 b o q1 e)
  | succ k ih =>
    intro j s b0 c ek jn st pb sS out
    have jlt : j + 1 < n := by omega
    refine codeAny_builtin F.entry_min_loop ?_
    rw [Around.under_plainId F.plain_min_loop _]
    show wpAny _ A.in1 (seqItems? (.ref S) >>= _) _ _ s
    refine wpAny_bind (wpAny_seqItems sS rfl ?_)
    show wpAny _ A.in1 (tryCatch (pyNext (.ref I)) _ >>= _) _ _ s
    refine wpAny_bind (wpAny_tryCatch (W.item (j + 1) s _ _ jlt st fun v h1 t1 pv st1 k1 => ?_))
    have sS1 := k1 S _ nSw sS
    show wpAny _ A.in1 (tryCatch (holding [v, v] (richCompare .Lt v b0 >>= _)) _ >>= _) _ _ _
    refine wpAny_bind (wpAny_tryCatch (wpAny_holding (wpAny_bind (cm (j + 1) (argBest bt j) v b0 _ _ _ pv pb ?_))))
    refine wpAny_bind (wpAny_holding (wpAny_truthy_bool ?_))
    refine wpAny_bind (wpAny_letGo (wpAny_pure ?_))
    cases q : bt (j + 1) (argBest bt j) with
    | true =>
      simp only [if_true]
      refine wpAny_bind ?_
      refine wpAny_updateSeq sS1 rfl (wpAny_bind (wpAny_letGo ?_))
      rw [nm]
      refine wpAny_pure ⟨plainId_quiet F.plain_min_loop _, ih (j + 1) _ v _ (by omega) jlt (W.frame _ _ _ st1 fun b m o e => ?_) (by simp only [argBest, q, if_true]; exact pv) (Heap.get?_update_self _ sS1 rfl) fun v2 h2 t2 p2 k2 => ?_⟩
      · exact (Heap.get?_update_other _ _ (fun z : S = b => nS (by rw [z]; exact m))).trans e
      · exact out v2 h2 t2 p2 fun b o q1 q2 e => k2 b o q1 q2 ((Heap.get?_update_other _ _ (Ne.symm q2)).trans (k1 b o q1 e))
    | false =>
      simp only [Bool.false_eq_true, if_false]
      refine wpAny_bind (wpAny_letGo ?_)
      rw [nm]
      refine wpAny_pure ⟨plainId_quiet F.plain_min_loop _, ih (j + 1) _ b0 c (by omega) jlt st1 (by simp only [argBest, q, Bool.false_eq_true, if_false]; exact pb) sS1 fun v2 h2 t2 p2 k2 => ?_⟩
      exact out v2 h2 t2 p2 fun b o q1 q2 e => k2 b o q1 q2 (k1 b o q1 e)
theorem minD_first (d : Value) (W : Walks prog w A.in1 I fp wr n P St) (bt : Nat → Nat → Bool) (cm : CmpOf prog w A.in1 .Lt P bt) (S : Addr) (nS : S ∉ fp) (pn : 0 < n) {s : Shared} {c : Nat} (st : St 0 s.heap)
    (sS : s.heap.get? S = some { cls := .type "list", dict := none, data := .seq #[] c, slots := #[] })
    (out : ∀ v h' tk, P (argBest bt (n - 1)) v → (∀ b o, b ∉ wr → b ≠ S → s.heap.get? b = some o → h'.get? b = some o) → R (.ok (.ret v)) { s with heap := h', toks := tk }) :
    codeAny (model prog w) A (.builtin "min.loop" ⟨[.ref I, .none, .ref S], [("default", d)]⟩) R s := by
  have nSw : S ∉ wr := fun z => nS (W.sub _ z)
  have nm : (toString "min" ++ toString ".loop" : String) = "min.loop" := by decide
  refine codeAny_builtin F.entry_min_loop ?_
  rw [Around.under_plainId F.plain_min_loop _]
  show wpAny _ A.in1 (seqItems? (.ref S) >>= _) _ _ s
  refine wpAny_bind (wpAny_seqItems sS rfl ?_)
  show wpAny _ A.in1 (tryCatch (pyNext (.ref I)) _ >>= _) _ _ s
  refine wpAny_bind (wpAny_tryCatch (W.item 0 s _ _ pn st fun v h1 t1 pv st1 k1 => ?_))
  have sS1 := k1 S _ nSw sS
  show wpAny _ A.in1 (updateSeq S (fun _ => #[v, v]) >>= _) _ _ _
  refine wpAny_bind ?_
  refine wpAny_updateSeq sS1 rfl ?_
  rw [nm]
  refine wpAny_pure ⟨plainId_quiet F.plain_min_loop _, minD_loop d W bt cm S nS _ 0 _ v _ rfl pn (W.frame _ _ _ st1 fun b m o e => ?_) pv (Heap.get?_update_self _ sS1 rfl) fun v2 h2 t2 p2 k2 => ?_⟩
  · exact (Heap.get?_update_other _ _ (fun z : S = b => nS (by rw [z]; exact m))).trans e
  · exact out v2 h2 t2 p2 fun b o q1 q2 e => k2 b o q1 q2 ((Heap.get?_update_other _ _ (Ne.symm q2)).trans (k1 b o q1 e))
theorem minD_empty (d : Value) (W : Walks prog w A.in1 I fp wr 0 P St) (S : Addr) (nS : S ∉ fp) {s : Shared} {c : Nat} (st : St 0 s.heap)
    (sS : s.heap.get? S = some { cls := .type "list", dict := none, data := .seq #[] c, slots := #[] })
    (out : ∀ h' tk, (∀ b o, b ∉ wr → b ≠ S → s.heap.get? b = some o → h'.get? b = some o) → R (.ok (.ret d)) { s with heap := h', toks := tk }) :
    codeAny (model prog w) A (.builtin "min.loop" ⟨[.ref I, .none, .ref S], [("default", d)]⟩) R s := by
  have nSw : S ∉ wr := fun z => nS (W.sub _ z)
  refine codeAny_builtin F.entry_min_loop ?_
  rw [Around.under_plainId F.plain_min_loop _]
  show wpAny _ A.in1 (seqItems? (.ref S) >>= _) _ _ s
  refine wpAny_bind (wpAny_seqItems sS rfl ?_)
  show wpAny _ A.in1 (tryCatch (pyNext (.ref I)) _ >>= _) _ _ s
  refine wpAny_bind (wpAny_tryCatch (W.done s _ _ st fun h1 t1 k1 => ?_))
  refine wpAny_bind (wpAny_rule ?_)
  exact wpAny_pure (out h1 t1 fun b o q1 _ e => k1 b o q1 e)
end
section
variable {prog : Program} {w : World} {A : Around} {E : Value → Shared → Prop} {s : Shared} {l : Addr} {xs : Array (Int × Tok)}
theorem args_minD (a d : Value) : argsOk "min" ⟨[a], [("default", d)]⟩ := by unfold argsOk; kernel_rfl
theorem minD_call {d : Value} {Q : Value → Shared → Prop} (hh : A.handled = none) (hl : s.heap.IsList l (intItems xs))
    (q0 : xs.size = 0 → ∀ h' tk, (∀ b o, s.heap.get? b = some o → h'.get? b = some o) → Q d { s with heap := h', toks := tk })
    (q1 : 0 < xs.size → ∀ v h' tk, (intItems xs)[argBest (fun i j => decide (numAt xs i < numAt xs j)) (xs.size - 1)]? = some v → (∀ b o, s.heap.get? b = some o → h'.get? b = some o) → Q v { s with heap := h', toks := tk }) :
    wpAny (model prog w) A (call (.builtin "min") [.ref l] [("default", d)]) Q E s := by
  have nm : (toString "min" ++ toString ".loop" : String) = "min.loop" := by decide
  refine PyProof.Rows.kmk_tree F.kind_min F.plain_min F.entry_min (args_minD _ _) ?_
  show wpAny _ A.in1 (Builtin.Builtins.bindParams "min" ["key", "default"] 0 ⟨[], [("default", d)]⟩ >>= _) _ _ s
  refine wpAny_bind (wpAny_of_eq (show Builtin.Builtins.bindParams "min" ["key", "default"] 0 ⟨[], [("default", d)]⟩ = pure [none, some d] from rfl) ?_)
  refine wpAny_bind (wpAny_pure ?_)
  refine wpAny_bind (iter_intList hl fun s2 e st hfp hlI => ?_)
  subst e
  have W := Walks.list (prog := prog) (w := w) (A := A.in1) hh s.heap.objs.size l hlI (intItems xs)
  have nS : (s.heap.push { cls := .type "list_iterator", data := .fields #[.ref l, .int 0 0] }).objs.size ∉ [s.heap.objs.size, l] := fun m => Nat.lt_irrefl _ (hfp _ m)
  refine wpAny_bind (wpAny_newObj_type ?_)
  rw [nm]
  rcases Nat.eq_zero_or_pos xs.size with z | z
  · have z' : (intItems xs).size = 0 := by simpa [intItems] using z
    rw [z'] at W
    refine wpAny_pure ⟨plainId_quiet F.plain_min_loop _, minD_empty d W _ nS (W.frame _ _ _ st fun b _ o e => Heap.get?_push_of_some _ e) (Heap.get?_push_size _ rfl) fun h' tk hk => ?_⟩
    exact q0 z h' tk (old_kept fun b o q e => hk b o q (Nat.ne_of_lt (Heap.lt_size e)) (Heap.get?_push_of_some _ e))
  · have z' : 0 < (intItems xs).size := by simpa [intItems] using z
    refine wpAny_pure ⟨plainId_quiet F.plain_min_loop _, minD_first d W (fun i j => decide (numAt xs i < numAt xs j)) (CmpOf.ints_lt (numAt xs) (fun _ _ => intItems_at)) _ nS z' (W.frame _ _ _ st fun b _ o e => Heap.get?_push_of_some _ e) (Heap.get?_push_size _ rfl) fun v h' tk hP hk => ?_⟩
    exact q1 z v h' tk (by simpa [intItems] using hP) (old_kept fun b o q e => hk b o q (Nat.ne_of_lt (Heap.lt_size e)) (Heap.get?_push_of_some _ e))
end
end PySem
set_option maxRecDepth 100000
set_option maxHeartbeats 1000000
namespace L2
open PySem PySem.Spec PyProof.Rows
structure KD (K : PySem.W.Frag) (a : Addr) (kvs : List (Key × V)) : Prop where
  nm : (a == sysModules) = false
  ob : ∃ o, K.lookup a = some o ∧ o.dict = none ∧ ∀ (P : Program) (w : World) (h : Heap), h.get? a = some o → ∃ vs, KV kvs vs ∧ h.DictOf (mixKind P w) a vs
section
variable {X : Cx} {o e : Expr} {apos cpos pos : Pos} {td ty : TE}
def tKGet1 (K : PySem.W.Frag) (td ty : TE) : TE := fun σ H Q => td σ H fun x H1 => ∃ a kvs, x = .ref a ∧ KD K a kvs ∧ ty σ H1 fun y H2 => ∃ k, y = kV k ∧ Q ((valV kvs k).getD .non) H2
theorem pe_kget1 (ho : PE X o td) (he : PE X e ty) (m : M1 X o "get" apos e cpos) : PE X (.Call (.Attribute o "get" apos) [e] [] cpos) (tKGet1 X.K td ty) := by
  intro pins s σ H Q I h
  refine wpAny_Call_method m.base m.few m.line PySem.F.plainAttrs_dict PySem.F.slot_dict_get PySem.F.type_dict_get (thn (ho pins s σ H _ I h) fun u s1 ⟨x, H1, I1, rx, a, kvs, ex, d, q1⟩ => ?_)
  subst ex
  obtain rfl : u = Value.ref a := rx
  obtain ⟨ob, lo, od, hv⟩ := d.ob
  have g1 : s1.heap.get? a = some ob := I1.kIn a ob lo
  obtain ⟨vs, rel, dd⟩ := hv X.prog X.w s1.heap g1
  refine ⟨dd.typeIs, fun b eb => ?_, ?_⟩
  · cases eb
    exact ⟨ob, g1, od⟩
  · rw [m.trees]
    refine Calls.callWith_builtin rfl (Calls.evalArgs_plain (Calls.spliced_cons (thn (he pins s1 σ H1 _ I1 q1) fun iv s2 ⟨y, H2, I2, ry, k, ek, q2⟩ => Calls.spliced_nil ?_)))
    subst ek
    obtain ⟨vs2, rel2, dd2⟩ := hv X.prog X.w s2.heap (I2.kIn a ob lo)
    refine call_meetsIn PySem.F.slot_dict_get dd2.typeIs PySem.F.entry_dict_get (PySem.F.args_dict_get_2 _ _) (meets_dict_get (mixKind X.prog X.w) a (kV_is ry) d.nm) ⟨_, dd2.mapOf, ?_⟩
    exact ⟨(valV kvs k).getD .non, H2, I2.tok _, (rel2.val k).getD (show RelV V.non Value.none from rfl), q2⟩
def tKIx (K : PySem.W.Frag) (td ty : TE) : TE := fun σ H Q => td σ H fun x H1 => ty σ H1 fun y H2 => ∃ a kvs k v, x = .ref a ∧ KD K a kvs ∧ y = kV k ∧ valV kvs k = some v ∧ Q v H2
theorem pe_kix (ho : PE X o td) (hi : PE X e ty) (hs : NoSl e) : PE X (.Subscript o e pos) (tKIx X.K td ty) := by
  intro pins s σ H Q I h
  refine subD_of PySem.F.slot_dict_getitem.lookup hs (thn (ho pins s σ H _ I h) fun u s1 ⟨x, H1, I1, rx, q1⟩ => thn (hi pins s1 σ H1 _ I1 q1) fun iv s2 ⟨y, H2, I2, ry, a, kvs, k, v, ex, d, ek, l, q2⟩ => ?_)
  subst ex ek
  obtain rfl : u = Value.ref a := rx
  obtain ⟨ob, lo, od, hv⟩ := d.ob
  obtain ⟨vs, rel, dd⟩ := hv X.prog X.w s2.heap (I2.kIn a ob lo)
  obtain ⟨w', hw, rw'⟩ := RelO.some_of (v := v) (o := valueAt vs k) (by rw [← l]; exact rel.val k)
  exact ⟨dd.typeIs, wpAny_getItem_of (kV_is ry) dd.mapOf hw ⟨v, H2, I2.tok _, rw', q2⟩⟩
end
def CPowB (i j : Int) : Prop := j = 2 ∧ i.natAbs < 2 ^ 1000
theorem bits_le {i : Int} {n : Nat} (h : i.natAbs < 2 ^ n) : Builtin.Int.intBits i ≤ n := by
  unfold Builtin.Int.intBits
  split
  · exact Nat.zero_le _
  · rename_i h0
    have h1 : i.natAbs ≠ 0 := by
      intro z
      exact h0 (by simpa using z)
    have := (Nat.log2_lt h1).mpr h
    omega
theorem op_sq {X : Cx} : OpR X (binaryOp .Pow) (rI CPowB fun i j => .int (i ^ j.toNat)) := opI fun i j _ _ s _ _ hc q => by
  obtain ⟨rfl, h⟩ := hc
  have hb := bits_le h
  exact pow_int (by decide) (by omega) q
theorem ints_items {its : List Value} {ns : List Int} (hi : IntsAre its ns) : ∃ xs : Array (Int × Tok), its.toArray = intItems xs ∧ xs.toList.map (·.1) = ns := by
  obtain ⟨xs, e⟩ := hi.allInts.items
  have hn : numsOf (intItems xs).toList = ns := by rw [← e]; exact hi.numsOf
  rw [nums_intItems] at hn
  exact ⟨xs, e, hn⟩
def tMaxD (K : PySem.W.Frag) (te td : TE) : TE := fun σ H Q => te σ H fun x H1 => td σ H1 fun y H2 => ∃ a ns, x = V.ref a ∧ SqL K H2 a (ns.map V.int) ∧ (ns = [] → Q y H2) ∧ ∀ m, m ∈ ns → (∀ z, z ∈ ns → z ≤ m) → Q (.int m) H2
def tMinD (K : PySem.W.Frag) (te td : TE) : TE := fun σ H Q => te σ H fun x H1 => td σ H1 fun y H2 => ∃ a ns, x = V.ref a ∧ SqL K H2 a (ns.map V.int) ∧ (ns = [] → Q y H2) ∧ ∀ m, m ∈ ns → (∀ z, z ∈ ns → m ≤ z) → Q (.int m) H2
section
variable {X : Cx} {e d : Expr} {p kp pos : Pos} {te td : TE}
theorem pe_maxD (hc : X.calm = true) (hg : Gl X "max") (hm : X.mg "max" = none) (he : PE X e te) (hd : PE X d td)
    (hpl : (backTo pos (starEach [e] X.env)).any (·.1) = false := by rfl) (hba : backTo pos (starEach [e] X.env) = [(false, eval e X.env)] := by rfl) : PE X (.Call (.Name "max" p) [e] [⟨some "default", d, kp⟩] pos) (tMaxD X.K te td) := by
  intro pins s σ H Q I h
  refine wpAny_Call_Name_kw (ld_blt I hg hm boot_max ?_)
  refine callWith_kw ?_ hba hpl
  rw [hba]
  refine Calls.spliced_cons (thn (he pins s σ H _ I h) fun u s1 ⟨x, H1, I1, rx, q1⟩ => Calls.spliced_nil ?_)
  refine kws_cons (thn (hd pins s1 σ H1 _ I1 q1) fun dv s2 ⟨y, H2, I2, ry, a, ns, ex, hs, q2, q3⟩ => kws_nil ?_)
  subst ex
  obtain rfl : u = Value.ref a := rx
  obtain ⟨its, rv, hl, _⟩ := I2.list hs
  obtain ⟨xs, e1, e2⟩ := ints_items rv.ints
  have hl' := hl.isList
  rw [e1] at hl'
  show wpAny _ _ (call (.builtin "max") [.ref a] [("default", dv)]) _ _ s2
  refine maxD_call (I2.ok.hd hc) hl' (fun z h' tk hk => ⟨y, H2, I2.kept hk, ry, q2 ?_⟩) fun z v h' tk hv hk => ?_
  · rw [← e2]
    have : xs.toList = [] := List.length_eq_zero_iff.mp (by simpa using z)
    rw [this]
    rfl
  · obtain ⟨t, rfl⟩ := intItems_at hv
    obtain ⟨h1, h2⟩ := argBest_gt (numAt xs) (xs.size - 1)
    refine ⟨.int _, H2, I2.kept hk, ⟨_, rfl⟩, q3 _ ?_ fun b hb => ?_⟩
    · rw [← e2, numAt_eq]; exact PySem.getD_mem (by rw [List.length_map, Array.length_toList]; omega)
    · rw [← e2] at hb
      obtain ⟨j, hj, rfl⟩ := mem_getD hb
      rw [List.length_map, Array.length_toList] at hj
      rw [← numAt_eq]; exact h2 j (by omega)
theorem pe_minD (hc : X.calm = true) (hg : Gl X "min") (hm : X.mg "min" = none) (he : PE X e te) (hd : PE X d td)
    (hpl : (backTo pos (starEach [e] X.env)).any (·.1) = false := by rfl) (hba : backTo pos (starEach [e] X.env) = [(false, eval e X.env)] := by rfl) : PE X (.Call (.Name "min" p) [e] [⟨some "default", d, kp⟩] pos) (tMinD X.K te td) := by
  intro pins s σ H Q I h
  refine wpAny_Call_Name_kw (ld_blt I hg hm boot_min ?_)
  refine callWith_kw ?_ hba hpl
  rw [hba]
  refine Calls.spliced_cons (thn (he pins s σ H _ I h) fun u s1 ⟨x, H1, I1, rx, q1⟩ => Calls.spliced_nil ?_)
  refine kws_cons (thn (hd pins s1 σ H1 _ I1 q1) fun dv s2 ⟨y, H2, I2, ry, a, ns, ex, hs, q2, q3⟩ => kws_nil ?_)
  subst ex
  obtain rfl : u = Value.ref a := rx
  obtain ⟨its, rv, hl, _⟩ := I2.list hs
  obtain ⟨xs, e1, e2⟩ := ints_items rv.ints
  have hl' := hl.isList
  rw [e1] at hl'
  show wpAny _ _ (call (.builtin "min") [.ref a] [("default", dv)]) _ _ s2
  refine minD_call (I2.ok.hd hc) hl' (fun z h' tk hk => ⟨y, H2, I2.kept hk, ry, q2 ?_⟩) fun z v h' tk hv hk => ?_
  · rw [← e2]
    have : xs.toList = [] := List.length_eq_zero_iff.mp (by simpa using z)
    rw [this]
    rfl
  · obtain ⟨t, rfl⟩ := intItems_at hv
    obtain ⟨h1, h2⟩ := argBest_lt (numAt xs) (xs.size - 1)
    refine ⟨.int _, H2, I2.kept hk, ⟨_, rfl⟩, q3 _ ?_ fun b hb => ?_⟩
    · rw [← e2, numAt_eq]; exact PySem.getD_mem (by rw [List.length_map, Array.length_toList]; omega)
    · rw [← e2] at hb
      obtain ⟨j, hj, rfl⟩ := mem_getD hb
      rw [List.length_map, Array.length_toList] at hj
      rw [← numAt_eq]; exact h2 j (by omega)
end
def GI (mg : Str → Option Value) (x : Str) (n : Int) : Prop := ∃ t, mg x = some (Value.int n t)
def GS (mg : Str → Option Value) (x : Str) (z : Str) : Prop := ∃ t, mg x = some (Value.str z t)
theorem pgi {X : Cx} {x : Str} {n : Int} {pos : Pos} (h : GI X.mg x n) (hg : Gl X x := by rfl) (hd : (x == ("__debug__" : Str)) = false := by decide) : PE X (.Name x pos) (tC (.int n)) := by
  obtain ⟨t, h⟩ := h
  exact pe_glob hg h ⟨t, rfl⟩ hd
theorem pgs {X : Cx} {x z : Str} {pos : Pos} (h : GS X.mg x z) (hg : Gl X x := by rfl) (hd : (x == ("__debug__" : Str)) = false := by decide) : PE X (.Name x pos) (tC (.str z)) := by
  obtain ⟨t, h⟩ := h
  exact pe_glob hg h ⟨t, rfl⟩ hd
theorem pgr {X : Cx} {x : Str} {a : Addr} {pos : Pos} (h : X.mg x = some (.ref a)) (hg : Gl X x := by rfl) (hd : (x == ("__debug__" : Str)) = false := by decide) : PE X (.Name x pos) (tC (.ref a)) := pe_glob hg h rfl hd
end L2
set_option maxHeartbeats 1000000
namespace MW
open Sz30
def posOk (l : List Word) (c : Char) : Bool := match get l c with
  | some x => decide (0 ≤ x)
  | none => true
def valid (l : List Word) : Bool := allowed l && (sound (all l 'G') groups && (sound (all l 'M') mgroups && (posOk l 'F' && (posOk l 'S' && (posOk l 'T' && (posOk l 'P' && posOk l 'N'))))))
def inL (c : Nat) : Bool := "GMXYZIJKRQPFSTN".toList.any (fun k => letter k == c)
theorem inL_iff (c : Nat) : inL c = true ↔ c = 71 ∨ c = 77 ∨ c = 88 ∨ c = 89 ∨ c = 90 ∨ c = 73 ∨ c = 74 ∨ c = 75 ∨ c = 82 ∨ c = 81 ∨ c = 80 ∨ c = 70 ∨ c = 83 ∨ c = 84 ∨ c = 78 := by
  have e : "GMXYZIJKRQPFSTN".toList = ['G', 'M', 'X', 'Y', 'Z', 'I', 'J', 'K', 'R', 'Q', 'P', 'F', 'S', 'T', 'N'] := by decide
  unfold inL
  rw [e]
  have e2 : (['G', 'M', 'X', 'Y', 'Z', 'I', 'J', 'K', 'R', 'Q', 'P', 'F', 'S', 'T', 'N'].any (fun k => letter k == c)) = [71, 77, 88, 89, 90, 73, 74, 75, 82, 81, 80, 70, 83, 84, 78].any (fun k => k == c) := rfl
  rw [e2]
  simp only [List.any_cons, List.any_nil, Bool.or_false, Bool.or_eq_true, beq_iff_eq]
  omega
theorem get_snoc (l : List Word) (c : Nat) (x : Int) (k : Char) : get (l ++ [(c, x)]) k = (get l k).or (if c = letter k then some x else none) := by
  unfold Sz30.get
  rw [List.find?_append]
  cases h : l.find? fun w => w.1 == letter k with
  | some w => simp
  | none =>
    by_cases e : c = letter k
    · simp [e]
    · simp [e]
theorem all_snoc (l : List Word) (c : Nat) (x : Int) (k : Char) : all (l ++ [(c, x)]) k = all l k ++ (if c = letter k then [x] else []) := by
  unfold all
  rw [List.filter_append, List.map_append]
  by_cases e : c = letter k
  · simp [e]
  · simp [e]
theorem get_none_iff (l : List Word) (k : Char) : get l k = none ↔ ∀ w ∈ l, w.1 ≠ letter k := by
  unfold Sz30.get
  simp
def codeOk (g : List Int) (x : Int) (gs : List (List Int)) : Bool :=
  x % 10000 == 0 && (gs.any (fun G => G.contains (x / 10000)) && gs.all (fun G => !(G.contains (x / 10000)) || (g.filter fun y => G.contains (y / 10000)).isEmpty))
theorem sound_snoc (g : List Int) (x : Int) (gs : List (List Int)) : sound (g ++ [x]) gs = (sound g gs && codeOk g x gs) := by
  rw [Bool.eq_iff_iff]
  unfold sound codeOk
  simp only [Bool.and_eq_true, List.all_eq_true, List.mem_append, List.mem_singleton, List.filter_append, List.length_append, decide_eq_true_eq, List.any_eq_true, Bool.or_eq_true, Bool.not_eq_true', List.isEmpty_iff, beq_iff_eq]
  constructor
  · rintro ⟨h1, h2⟩
    refine ⟨⟨fun y hy => h1 y (.inl hy), fun G hG => ?_⟩, (h1 x (.inr rfl)).1, (h1 x (.inr rfl)).2, fun G hG => ?_⟩
    · have := h2 G hG
      omega
    · have := h2 G hG
      by_cases e : G.contains (x / 10000) = true
      · right
        rw [List.filter_cons, if_pos e] at this
        simp only [List.filter_nil, List.length_cons, List.length_nil] at this
        exact List.length_eq_zero_iff.mp (by omega)
      · left
        simpa using e
  · rintro ⟨⟨h1, h2⟩, h3, h4, h5⟩
    refine ⟨fun y hy => ?_, fun G hG => ?_⟩
    · rcases hy with hy | rfl
      · exact h1 y hy
      · exact ⟨h3, h4⟩
    · rcases h5 G hG with e | e
      · rw [List.filter_cons, if_neg (by rw [e]; decide)]
        have := h2 G hG
        simp only [List.filter_nil, List.length_nil]
        omega
      · rw [e]
        have := List.length_filter_le (fun y => G.contains (y / 10000)) [x]
        simp only [List.length_nil, List.length_cons] at this ⊢
        omega
theorem sound_nil (gs : List (List Int)) : sound [] gs = true := by
  unfold sound
  simp
def letOk (l : List Word) (c : Nat) : Bool := inL c && (c == 71 || (c == 77 || l.all fun v => v.1 != c))
theorem cnt (l : List Word) (c : Nat) (w : Word) : ((l ++ [w]).filter fun v => v.1 == c).length = (l.filter fun v => v.1 == c).length + (if w.1 = c then 1 else 0) := by
  rw [List.filter_append, List.length_append]
  by_cases e : w.1 = c
  · simp [e]
  · simp [e]
theorem allowed_snoc (l : List Word) (c : Nat) (x : Int) : allowed (l ++ [(c, x)]) = (allowed l && letOk l c) := by
  rw [Bool.eq_iff_iff]
  unfold allowed letOk
  have hG : letter 'G' = 71 := rfl
  have hM : letter 'M' = 77 := rfl
  simp only [Bool.and_eq_true, List.all_eq_true, List.mem_append, List.mem_singleton, Bool.or_eq_true, beq_iff_eq, hG, hM, bne_iff_ne, ne_eq, cnt]
  constructor
  · intro h
    refine ⟨fun w hw => ?_, ?_⟩
    · obtain ⟨h1, h2⟩ := h w (.inl hw)
      refine ⟨h1, ?_⟩
      rcases h2 with h2 | h2 | h2
      · exact .inl h2
      · exact .inr (.inl h2)
      · refine .inr (.inr ?_)
        have : 1 ≤ (l.filter fun v => v.1 == w.1).length := List.length_pos_of_mem (List.mem_filter.mpr ⟨hw, by simp⟩)
        omega
    · obtain ⟨h1, h2⟩ := h (c, x) (.inr rfl)
      refine ⟨h1, ?_⟩
      rcases h2 with h2 | h2 | h2
      · exact .inl h2
      · exact .inr (.inl h2)
      · refine .inr (.inr fun v hv e => ?_)
        have : 1 ≤ (l.filter fun v => v.1 == c).length := List.length_pos_of_mem (List.mem_filter.mpr ⟨hv, by simp [e]⟩)
        simp only [if_true] at h2
        omega
  · rintro ⟨h1, h2, h3⟩ w hw
    rcases hw with hw | rfl
    · obtain ⟨h4, h5⟩ := h1 w hw
      refine ⟨h4, ?_⟩
      rcases h5 with h5 | h5 | h5
      · exact .inl h5
      · exact .inr (.inl h5)
      · by_cases e : c = w.1
        · rcases h3 with h3 | h3 | h3
          · left; omega
          · right; left; omega
          · exact absurd e.symm (h3 w hw)
        · right; right
          rw [if_neg e]
          omega
    · refine ⟨h2, ?_⟩
      rcases h3 with h3 | h3 | h3
      · exact .inl h3
      · exact .inr (.inl h3)
      · right; right
        have : (l.filter fun v => v.1 == c) = [] := by
          rw [List.filter_eq_nil_iff]
          intro v hv
          simpa using h3 v hv
        simp [this]
def nneg (c : Nat) (x : Int) : Bool := !(c == 70 || c == 83 || c == 84 || c == 80 || c == 78) || decide (0 ≤ x)
theorem posOk_snoc (l : List Word) (c : Nat) (x : Int) (k : Char) (h : (l.all fun v => v.1 != letter k) = true ∨ c ≠ letter k) : posOk (l ++ [(c, x)]) k = (posOk l k && (!(c == letter k) || decide (0 ≤ x))) := by
  unfold posOk
  rw [get_snoc]
  by_cases e : c = letter k
  · have h' : get l k = none := (get_none_iff l k).mpr (by
      rcases h with h | h
      · simpa using h
      · exact absurd e h)
    rw [h', if_pos e]
    simp [e]
  · rw [if_neg e]
    cases get l k <;> simp [e]
def okTake (l : List Word) (c : Nat) (x : Int) : Bool :=
  if c = 71 then codeOk (all l 'G') x groups else if c = 77 then codeOk (all l 'M') x mgroups else inL c && ((l.all fun v => v.1 != c) && nneg c x)
theorem valid_nil : valid [] = true := by decide
theorem valid_snoc (l : List Word) (c : Nat) (x : Int) : valid (l ++ [(c, x)]) = (valid l && okTake l c x) := by
  unfold valid okTake
  have hG : letter 'G' = 71 := rfl
  have hM : letter 'M' = 77 := rfl
  rw [allowed_snoc, all_snoc, all_snoc]
  by_cases e1 : c = 71
  · subst e1
    have a : ∀ k, letter k ≠ 71 → posOk (l ++ [(71, x)]) k = posOk l k := fun k hk => by
      rw [posOk_snoc _ _ _ _ (.inr (Ne.symm hk))]
      simp [Ne.symm hk]
    rw [a 'F' (by decide), a 'S' (by decide), a 'T' (by decide), a 'P' (by decide), a 'N' (by decide), if_pos rfl, if_pos (by decide), if_neg (by decide), sound_snoc, List.append_nil]
    have : letOk l 71 = true := by simp [letOk, inL_iff]
    rw [this]
    simp only [Bool.and_true]
    generalize allowed l = b1; generalize sound (all l 'G') groups = b2; generalize sound (all l 'M') mgroups = b3; generalize codeOk (all l 'G') x groups = b4
    generalize (posOk l 'F' && (posOk l 'S' && (posOk l 'T' && (posOk l 'P' && posOk l 'N')))) = b5
    cases b1 <;> cases b2 <;> cases b3 <;> cases b4 <;> cases b5 <;> rfl
  · by_cases e2 : c = 77
    · subst e2
      have a : ∀ k, letter k ≠ 77 → posOk (l ++ [(77, x)]) k = posOk l k := fun k hk => by
        rw [posOk_snoc _ _ _ _ (.inr (Ne.symm hk))]
        simp [Ne.symm hk]
      rw [a 'F' (by decide), a 'S' (by decide), a 'T' (by decide), a 'P' (by decide), a 'N' (by decide), if_neg (show ¬ 77 = letter 'G' by decide), if_pos (show 77 = letter 'M' by decide), if_neg (show ¬ 77 = 71 by decide), if_pos rfl, sound_snoc, List.append_nil]
      have : letOk l 77 = true := by simp [letOk, inL_iff]
      rw [this]
      simp only [Bool.and_true]
      generalize allowed l = b1; generalize sound (all l 'G') groups = b2; generalize sound (all l 'M') mgroups = b3; generalize codeOk (all l 'M') x mgroups = b4
      generalize (posOk l 'F' && (posOk l 'S' && (posOk l 'T' && (posOk l 'P' && posOk l 'N')))) = b5
      cases b1 <;> cases b2 <;> cases b3 <;> cases b4 <;> cases b5 <;> rfl
    · rw [if_neg e1, if_neg e2, if_neg (by rw [hG]; exact e1), if_neg (by rw [hM]; exact e2), List.append_nil, List.append_nil]
      have e3 : letOk l c = (inL c && l.all fun v => v.1 != c) := by
        have q1 : (c == 71) = false := by simpa using e1
        have q2 : (c == 77) = false := by simpa using e2
        unfold letOk
        rw [q1, q2]
        rfl
      rw [e3]
      cases hl : (l.all fun v => v.1 != c) with
      | false => simp
      | true =>
        have a : ∀ k, posOk (l ++ [(c, x)]) k = (posOk l k && (!(c == letter k) || decide (0 ≤ x))) := fun k => by
          by_cases hk : c = letter k
          · exact posOk_snoc _ _ _ _ (.inl (by rw [← hk]; exact hl))
          · exact posOk_snoc _ _ _ _ (.inr hk)
        rw [a, a, a, a, a]
        have l1 : letter 'F' = 70 := rfl
        have l2 : letter 'S' = 83 := rfl
        have l3 : letter 'T' = 84 := rfl
        have l4 : letter 'P' = 80 := rfl
        have l5 : letter 'N' = 78 := rfl
        rw [l1, l2, l3, l4, l5]
        unfold nneg
        generalize allowed l = b1; generalize sound (all l 'G') groups = b2; generalize sound (all l 'M') mgroups = b3
        generalize posOk l 'F' = p1; generalize posOk l 'S' = p2; generalize posOk l 'T' = p3; generalize posOk l 'P' = p4; generalize posOk l 'N' = p5
        generalize (c == 70) = c1; generalize (c == 83) = c2; generalize (c == 84) = c3; generalize (c == 80) = c4; generalize (c == 78) = c5
        generalize decide (0 ≤ x) = d; generalize inL c = i
        revert b1 b2 b3 p1 p2 p3 p4 p5 c1 c2 c3 c4 c5 d i
        decide
theorem valid_prefix (l r : List Word) (h : valid (l ++ r) = true) : valid l = true := by
  induction r generalizing l with
  | nil => simpa using h
  | cons w r ih =>
    have : l ++ w :: r = (l ++ [w]) ++ r := by simp
    rw [this] at h
    have := ih _ h
    obtain ⟨c, x⟩ := w
    rw [valid_snoc, Bool.and_eq_true] at this
    exact this.1
theorem chosen_snoc (g : List Int) (x : Int) (G : List Int) : chosen (g ++ [x]) G = (chosen g G).or (if x % 10000 = 0 ∧ G.contains (x / 10000) = true then some (x / 10000) else none) := by
  unfold chosen
  rw [List.filter_append, List.head?_append]
  cases (g.filter fun x => x % 10000 == 0 && G.contains (x / 10000)).head? with
  | some w => simp
  | none =>
    by_cases e : x % 10000 = 0 ∧ G.contains (x / 10000) = true
    · rw [if_pos e]
      simp only [List.filter_cons, List.filter_nil]
      rw [if_pos (by simpa using e)]
      rfl
    · rw [if_neg e]
      simp only [List.filter_cons, List.filter_nil]
      rw [if_neg (by simpa using e)]
      rfl
theorem chosen_mem {g G : List Int} {x : Int} (h : chosen g G = some x) : x ∈ G := by
  unfold chosen at h
  obtain ⟨y, hy, rfl⟩ := Option.map_eq_some_iff.mp h
  have := List.mem_of_head? hy
  have := (List.mem_filter.mp this).2
  simp only [Bool.and_eq_true] at this
  simpa using this.2
theorem chosen_none_iff {g G : List Int} (hs : ∀ x ∈ g, x % 10000 = 0) : chosen g G = none ↔ (g.filter fun y => G.contains (y / 10000)).isEmpty = true := by
  unfold chosen
  rw [Option.map_eq_none_iff, List.head?_eq_none_iff, List.isEmpty_iff, List.filter_eq_nil_iff, List.filter_eq_nil_iff]
  constructor
  · intro h y hy
    have := h y hy
    simpa [hs y hy] using this
  · intro h y hy
    have := h y hy
    simp only [hs y hy, beq_self_eq_true, Bool.true_and]
    exact this
end MW
set_option maxHeartbeats 1000000
namespace MW
open Sz30
def tw (p : UInt8 → Bool) (t : Bytes) : Nat := (t.takeWhile p).length
theorem dropWhile_eq (p : UInt8 → Bool) : ∀ t : Bytes, t.dropWhile p = t.drop (tw p t)
  | [] => rfl
  | c :: r => by
    unfold tw
    rw [List.dropWhile_cons, List.takeWhile_cons]
    by_cases h : p c = true
    · rw [if_pos h, if_pos h, dropWhile_eq p r]
      rfl
    · rw [if_neg h, if_neg h]
      rfl
theorem takeWhile_eq (p : UInt8 → Bool) : ∀ t : Bytes, t.takeWhile p = t.take (tw p t)
  | [] => rfl
  | c :: r => by
    unfold tw
    rw [List.takeWhile_cons]
    by_cases h : p c = true
    · rw [if_pos h, List.length_cons, List.take_succ_cons]
      exact congrArg _ (takeWhile_eq p r)
    · rw [if_neg h]
      rfl
theorem tw_le (p : UInt8 → Bool) (t : Bytes) : tw p t ≤ t.length := (List.takeWhile_prefix p).length_le
theorem tw_nil (p : UInt8 → Bool) : tw p [] = 0 := rfl
theorem tw_cons (p : UInt8 → Bool) (c : UInt8) (r : Bytes) : tw p (c :: r) = if p c = true then tw p r + 1 else 0 := by
  unfold tw
  rw [List.takeWhile_cons]
  split <;> rfl
theorem drop_cons {t : Bytes} {i : Nat} {c : UInt8} (h : t[i]? = some c) : t.drop i = c :: t.drop (i + 1) := by
  obtain ⟨h1, h2⟩ := List.getElem?_eq_some_iff.mp h
  rw [List.drop_eq_getElem_cons h1, h2]
theorem tw_step {p : UInt8 → Bool} {t : Bytes} {i : Nat} {c : UInt8} (h : t[i]? = some c) (hp : p c = true) : i + tw p (t.drop i) = i + 1 + tw p (t.drop (i + 1)) := by
  rw [drop_cons h, tw_cons, if_pos hp]
  omega
theorem tw_stop {p : UInt8 → Bool} {t : Bytes} {i : Nat} {c : UInt8} (h : t[i]? = some c) (hp : ¬ p c = true) : i + tw p (t.drop i) = i := by
  rw [drop_cons h, tw_cons, if_neg hp]
  rfl
theorem tw_end {p : UInt8 → Bool} {t : Bytes} {i : Nat} (h : t.length ≤ i) : i + tw p (t.drop i) = i := by
  rw [List.drop_eq_nil_of_le h]
  rfl
def blank (b : UInt8) : Bool := b == 32 || b == 9
def dig (b : UInt8) : Bool := digit b.toNat
theorem u8_eq (b : UInt8) (n : Nat) (h : n < 256) : (b == UInt8.ofNat n) = decide (b.toNat = n) := by
  rw [Bool.eq_iff_iff]
  simp only [beq_iff_eq, decide_eq_true_eq]
  constructor
  · rintro rfl
    simp [Nat.mod_eq_of_lt h]
  · intro e
    rw [← e]
    simp
theorem blank_iff (b : UInt8) : blank b = true ↔ b.toNat = 32 ∨ b.toNat = 9 := by
  unfold blank
  have h1 := u8_eq b 32 (by decide)
  have h2 := u8_eq b 9 (by decide)
  have e1 : (UInt8.ofNat 32) = 32 := rfl
  have e2 : (UInt8.ofNat 9) = 9 := rfl
  rw [e1] at h1
  rw [e2] at h2
  rw [h1, h2]
  simp
def sgn (u : Bytes) : Nat := if (u.headD 0).toNat = 43 ∨ (u.headD 0).toNat = 45 then 1 else 0
def nA (u : Bytes) : Nat := tw dig (u.drop (sgn u))
def hasP (u : Bytes) : Bool := decide (((u.drop (sgn u + nA u)).headD 0).toNat = 46)
def nB (u : Bytes) : Nat := if hasP u = true then tw dig (u.drop (sgn u + nA u + 1)) else 0
def nEnd (u : Bytes) : Nat := if hasP u = true then sgn u + nA u + 1 + nB u else sgn u + nA u
def nBad (u : Bytes) : Prop := nA u + nB u = 0 ∨ 6 < nA u ∨ 4 < nB u
instance (u : Bytes) : Decidable (nBad u) := by unfold nBad; exact inferInstance
def nVal (u : Bytes) : Int :=
  let n : Int := ((value (u.drop (sgn u) |>.take (nA u)) * 10000 + value ((u.drop (sgn u + nA u + 1)).take (nB u)) * 10 ^ (4 - nB u) : Nat) : Int)
  if (u.headD 0).toNat = 45 then -n else n
theorem number_eq (u : Bytes) : number u = if nBad u then none else some (nVal u, u.drop (nEnd u)) := by
  unfold number digits
  have es : (if (u.headD 0).toNat = 43 ∨ (u.headD 0).toNat = 45 then u.drop 1 else u) = u.drop (sgn u) := by
    unfold sgn
    split <;> rfl
  simp only [es]
  have ed : (fun b : UInt8 => digit b.toNat) = dig := rfl
  rw [ed, takeWhile_eq dig (u.drop (sgn u))]
  have ea : tw dig (u.drop (sgn u)) = nA u := rfl
  rw [ea]
  have la : ((u.drop (sgn u)).take (nA u)).length = nA u := by
    rw [List.length_take]
    exact Nat.min_eq_left (tw_le _ _)
  rw [la, List.drop_drop]
  by_cases hp : hasP u = true
  · have hp' : ((u.drop (sgn u + nA u)).headD 0).toNat = 46 := by
      unfold hasP at hp
      exact of_decide_eq_true hp
    simp only [hp', decide_true, if_true, List.drop_drop]
    rw [takeWhile_eq dig]
    have eb : tw dig (u.drop (sgn u + nA u + 1)) = nB u := by
      unfold nB
      rw [if_pos hp]
    rw [eb]
    have lb : ((u.drop (sgn u + nA u + 1)).take (nB u)).length = nB u := by
      rw [List.length_take, ← eb]
      exact Nat.min_eq_left (tw_le _ _)
    rw [lb]
    have ee : nEnd u = sgn u + nA u + (1 + nB u) := by
      unfold nEnd
      rw [if_pos hp]
      omega
    rw [ee]
    rfl
  · have hp' : ¬ ((u.drop (sgn u + nA u)).headD 0).toNat = 46 := by
      unfold hasP at hp
      exact of_decide_eq_false (by simpa using hp)
    simp only [hp', decide_false, Bool.false_eq_true, if_false, List.length_nil]
    have eb : nB u = 0 := by
      unfold nB
      rw [if_neg hp]
    have ee : nEnd u = sgn u + nA u := by
      unfold nEnd
      rw [if_neg hp]
    have hv : nVal u = if (u.headD 0).toNat = 45 then -((value ((u.drop (sgn u)).take (nA u)) * 10000 + value [] * 10 ^ (4 - 0) : Nat) : Int) else ((value ((u.drop (sgn u)).take (nA u)) * 10000 + value [] * 10 ^ (4 - 0) : Nat) : Int) := by
      unfold nVal
      rw [eb]
      rfl
    have hb : nBad u ↔ (nA u + 0 = 0 ∨ 6 < nA u ∨ 4 < 0) := by
      unfold nBad
      rw [eb]
    by_cases q : nBad u
    · rw [if_pos q, if_pos (hb.mp q)]
    · rw [if_neg q, if_neg (fun z => q (hb.mpr z)), hv, ee]
theorem nEnd_le (u : Bytes) (h : ¬ nBad u) : nEnd u ≤ u.length ∧ 0 < nEnd u := by
  have h1 : nA u ≤ u.length - sgn u := by
    have := tw_le dig (u.drop (sgn u))
    rw [List.length_drop] at this
    exact this
  have h2 : nB u ≤ u.length - (sgn u + nA u + 1) := by
    unfold nB
    split
    · have := tw_le dig (u.drop (sgn u + nA u + 1))
      rw [List.length_drop] at this
      exact this
    · omega
  have h3 : hasP u = true → sgn u + nA u < u.length := fun hp => by
    unfold hasP at hp
    have hp := of_decide_eq_true hp
    rcases Nat.lt_or_ge (sgn u + nA u) u.length with q | q
    · exact q
    · rw [List.drop_eq_nil_of_le q] at hp
      exact absurd hp (by decide)
  have h4 : sgn u ≤ u.length := by
    unfold sgn
    split
    · rename_i q
      cases u with
      | nil => exact absurd q (by decide)
      | cons c r => simp
    · omega
  unfold nBad at h
  unfold nEnd
  split
  · rename_i hp
    have := h3 hp
    omega
  · rename_i hp
    have : nB u = 0 := by
      unfold nB
      rw [if_neg hp]
    omega
def tStep (s : Int × Int × Bool) (b : UInt8) : Int × Int × Bool :=
  if b.toNat = 46 then (s.1, s.2.1, true) else if dig b = true then (s.1 * 10 + (b.toNat : Int) - 48, if s.2.2 = true then s.2.1 / 10 else s.2.1, s.2.2) else s
def tVal (u : Bytes) : Int := let s := u.foldl tStep (0, 10000, false)
  (if (u.headD 0).toNat = 45 then -s.1 else s.1) * s.2.1
theorem dig_iff (b : UInt8) : dig b = true ↔ 48 ≤ b.toNat ∧ b.toNat ≤ 57 := by
  unfold dig digit
  simp
theorem foldl_value : ∀ (u : Bytes) (v : Nat), u.foldl (fun v b => 10 * v + (b.toNat - 48)) v = v * 10 ^ u.length + value u
  | [], v => by simp [value]
  | b :: r, v => by
    have e : value (b :: r) = r.foldl (fun v b => 10 * v + (b.toNat - 48)) (b.toNat - 48) := by
      show r.foldl (fun v b => 10 * v + (b.toNat - 48)) (10 * 0 + (b.toNat - 48)) = _
      rw [Nat.mul_zero, Nat.zero_add]
    rw [List.foldl_cons, foldl_value r, e, foldl_value r, List.length_cons, Nat.pow_succ]
    rw [Nat.add_mul]
    have : 10 * v * 10 ^ r.length = v * (10 ^ r.length * 10) := by
      rw [Nat.mul_comm 10 v, Nat.mul_assoc, Nat.mul_comm 10]
    omega
theorem foldA : ∀ (u : Bytes) (v : Int) (un : Int), (∀ b ∈ u, dig b = true) → u.foldl tStep (v, un, false) = (v * 10 ^ u.length + (value u : Int), un, false)
  | [], v, un, _ => by simp [value]
  | b :: r, v, un, h => by
    have hb := h b (List.mem_cons_self ..)
    have hb' := (dig_iff b).mp hb
    rw [List.foldl_cons]
    have e1 : tStep (v, un, false) b = (v * 10 + (b.toNat : Int) - 48, un, false) := by
      unfold tStep
      rw [if_neg (by omega), if_pos hb]
      rfl
    rw [e1, foldA r _ _ fun c hc => h c (List.mem_cons_of_mem _ hc)]
    have e : value (b :: r) = (b.toNat - 48) * 10 ^ r.length + value r := by
      have : value (b :: r) = r.foldl (fun v b => 10 * v + (b.toNat - 48)) (10 * 0 + (b.toNat - 48)) := rfl
      rw [this, foldl_value]
      simp
    rw [e, List.length_cons, Int.pow_succ]
    have e2 : (((b.toNat - 48) * 10 ^ r.length + value r : Nat) : Int) = ((b.toNat : Int) - 48) * 10 ^ r.length + (value r : Int) := by
      rw [Int.natCast_add, Int.natCast_mul, Int.natCast_sub (by omega), Int.natCast_pow]
      rfl
    rw [e2]
    have e3 : (v * 10 + (b.toNat : Int) - 48) * 10 ^ r.length = v * (10 ^ r.length * 10) + ((b.toNat : Int) - 48) * 10 ^ r.length := by
      have : v * 10 + (b.toNat : Int) - 48 = v * 10 + ((b.toNat : Int) - 48) := by omega
      rw [this, Int.add_mul, Int.mul_assoc, Int.mul_comm 10 (10 ^ r.length)]
    rw [e3, Int.add_assoc]
theorem foldB : ∀ (u : Bytes) (v : Int) (k : Nat), u.length + k ≤ 4 → (∀ b ∈ u, dig b = true) → u.foldl tStep (v, 10 ^ (4 - k), true) = (v * 10 ^ u.length + (value u : Int), 10 ^ (4 - (u.length + k)), true)
  | [], v, k, _, _ => by simp [value]
  | b :: r, v, k, hk, h => by
    have hb := h b (List.mem_cons_self ..)
    have hb' := (dig_iff b).mp hb
    rw [List.length_cons] at hk
    rw [List.foldl_cons]
    have e1 : tStep (v, 10 ^ (4 - k), true) b = (v * 10 + (b.toNat : Int) - 48, 10 ^ (4 - (k + 1)), true) := by
      unfold tStep
      rw [if_neg (by omega), if_pos hb]
      have : (10 : Int) ^ (4 - k) / 10 = 10 ^ (4 - (k + 1)) := by
        have q : k = 0 ∨ k = 1 ∨ k = 2 ∨ k = 3 := by omega
        rcases q with rfl | rfl | rfl | rfl <;> decide
      simp only [if_true, this]
    rw [e1, foldB r _ _ (by omega) fun c hc => h c (List.mem_cons_of_mem _ hc)]
    have e : value (b :: r) = (b.toNat - 48) * 10 ^ r.length + value r := by
      have : value (b :: r) = r.foldl (fun v b => 10 * v + (b.toNat - 48)) (10 * 0 + (b.toNat - 48)) := rfl
      rw [this, foldl_value]
      simp
    rw [e, List.length_cons, Int.pow_succ]
    have e2 : (((b.toNat - 48) * 10 ^ r.length + value r : Nat) : Int) = ((b.toNat : Int) - 48) * 10 ^ r.length + (value r : Int) := by
      rw [Int.natCast_add, Int.natCast_mul, Int.natCast_sub (by omega), Int.natCast_pow]
      rfl
    rw [e2]
    have e3 : (v * 10 + (b.toNat : Int) - 48) * 10 ^ r.length = v * (10 ^ r.length * 10) + ((b.toNat : Int) - 48) * 10 ^ r.length := by
      have : v * 10 + (b.toNat : Int) - 48 = v * 10 + ((b.toNat : Int) - 48) := by omega
      rw [this, Int.add_mul, Int.mul_assoc, Int.mul_comm 10 (10 ^ r.length)]
    rw [e3, Int.add_assoc]
    have e4 : 4 - (r.length + (k + 1)) = 4 - (r.length + 1 + k) := by omega
    rw [e4]
theorem take_dig (u : Bytes) (b : UInt8) (h : b ∈ u.take (tw dig u)) : dig b = true := by
  rw [← takeWhile_eq] at h
  exact List.all_eq_true.mp List.all_takeWhile b h
theorem take_split (u : Bytes) (a b : Nat) : u.take (a + b) = u.take a ++ (u.drop a).take b := List.take_add ..
theorem tVal_eq (u : Bytes) (h : ¬ nBad u) : tVal (u.take (nEnd u)) = nVal u := by
  obtain ⟨hle, hpos⟩ := nEnd_le u h
  have hs : (u.take (nEnd u)).headD 0 = u.headD 0 := by
    cases u with
    | nil => simp
    | cons c r =>
      obtain ⟨k, hk⟩ : ∃ k, nEnd (c :: r) = k + 1 := ⟨nEnd (c :: r) - 1, by omega⟩
      rw [hk]
      rfl
  have h0 : (u.take (sgn u)).foldl tStep (0, 10000, false) = (0, 10000, false) := by
    unfold sgn
    split
    · rename_i q
      cases u with
      | nil => rfl
      | cons c r =>
        have q' : c.toNat = 43 ∨ c.toNat = 45 := q
        show tStep (0, 10000, false) c = _
        unfold tStep
        rw [if_neg (by omega), if_neg (by rw [dig_iff]; omega)]
    · rfl
  have hA := foldA ((u.drop (sgn u)).take (nA u)) 0 10000 (fun b hb => take_dig _ b hb)
  have lA : ((u.drop (sgn u)).take (nA u)).length = nA u := by
    rw [List.length_take]
    exact Nat.min_eq_left (tw_le _ _)
  unfold tVal nVal
  rw [hs]
  by_cases hp : hasP u = true
  · have ee : nEnd u = sgn u + nA u + 1 + nB u := by
      unfold nEnd
      rw [if_pos hp]
    have hlt : sgn u + nA u < u.length := by
      rw [ee] at hle
      omega
    have hpt : (u.drop (sgn u + nA u)).take 1 = [u[sgn u + nA u]] := by
      rw [List.drop_eq_getElem_cons hlt]
      rfl
    have hp46 : (u[sgn u + nA u]).toNat = 46 := by
      unfold hasP at hp
      have hp := of_decide_eq_true hp
      rw [List.drop_eq_getElem_cons hlt] at hp
      exact hp
    have eb : tw dig (u.drop (sgn u + nA u + 1)) = nB u := by
      unfold nB
      rw [if_pos hp]
    have hB4 : nB u ≤ 4 := by
      unfold nBad at h
      omega
    have lB : ((u.drop (sgn u + nA u + 1)).take (nB u)).length = nB u := by
      rw [List.length_take, ← eb]
      exact Nat.min_eq_left (tw_le _ _)
    have hB := foldB ((u.drop (sgn u + nA u + 1)).take (nB u)) (0 * 10 ^ nA u + (value ((u.drop (sgn u)).take (nA u)) : Int)) 0 (by rw [lB]; omega) (fun b hb => take_dig _ b (by rw [eb]; exact hb))
    have hf : (u.take (nEnd u)).foldl tStep (0, 10000, false) = ((0 * 10 ^ nA u + (value ((u.drop (sgn u)).take (nA u)) : Int)) * 10 ^ nB u + (value ((u.drop (sgn u + nA u + 1)).take (nB u)) : Int), 10 ^ (4 - nB u), true) := by
      rw [ee, take_split, take_split, take_split, List.foldl_append, List.foldl_append, List.foldl_append, h0, hA, lA, hpt]
      have e1 : [u[sgn u + nA u]].foldl tStep (0 * 10 ^ nA u + (value ((u.drop (sgn u)).take (nA u)) : Int), 10000, false) = (0 * 10 ^ nA u + (value ((u.drop (sgn u)).take (nA u)) : Int), 10000, true) := by
        show tStep _ _ = _
        unfold tStep
        rw [if_pos hp46]
      rw [e1]
      have : (10000 : Int) = 10 ^ (4 - 0) := by decide
      rw [this, hB, lB]
      rfl
    rw [hf]
    have q : nB u = 0 ∨ nB u = 1 ∨ nB u = 2 ∨ nB u = 3 ∨ nB u = 4 := by omega
    generalize value ((u.drop (sgn u)).take (nA u)) = x
    have key : ∀ y : Nat, (0 * 10 ^ nA u + (x : Int)) * 10 ^ nB u * 10 ^ (4 - nB u) + (y : Int) * 10 ^ (4 - nB u) = ((x * 10000 + y * 10 ^ (4 - nB u) : Nat) : Int) := by
      intro y
      rcases q with q | q | q | q | q <;> rw [q] <;> simp <;> omega
    have := key (value ((u.drop (sgn u + nA u + 1)).take (nB u)))
    split
    · rw [← this, Int.neg_mul, Int.add_mul]
    · rw [← this, Int.add_mul]
  · have ee : nEnd u = sgn u + nA u := by
      unfold nEnd
      rw [if_neg hp]
    have eb : nB u = 0 := by
      unfold nB
      rw [if_neg hp]
    have hf : (u.take (nEnd u)).foldl tStep (0, 10000, false) = (0 * 10 ^ nA u + (value ((u.drop (sgn u)).take (nA u)) : Int), 10000, false) := by
      rw [ee, take_split, List.foldl_append, h0, hA, lA]
    rw [hf, eb]
    have v0 : value [] = 0 := rfl
    simp only [List.take_zero, v0, Nat.zero_mul, Nat.add_zero]
    split
    · rw [Int.neg_mul]
      simp
    · simp
theorem words_fuel : ∀ (n k k' : Nat) (r : Bytes), r.length ≤ n → r.length < k → r.length < k' → words k r = words k' r := by
  intro n
  induction n with
  | zero =>
    intro k k' r h1 h2 h3
    have e : r = [] := List.length_eq_zero_iff.mp (by omega)
    subst e
    cases k with
    | zero => simp at h2
    | succ k => cases k' with
      | zero => simp at h3
      | succ k' => simp [words]
  | succ n ih =>
    intro k k' r h1 h2 h3
    cases k with
    | zero => omega
    | succ k => cases k' with
      | zero => omega
      | succ k' =>
        cases r with
        | nil => simp [words]
        | cons c r =>
          rw [List.length_cons] at h1 h2 h3
          unfold words
          simp only
          have hd : ((r.dropWhile fun b => b != 41).drop 1).length ≤ r.length := by
            rw [dropWhile_eq, List.length_drop, List.length_drop]
            omega
          rw [ih k k' r (by omega) (by omega) (by omega), ih k k' ((r.dropWhile fun b => b != 41).drop 1) (by omega) (by omega) (by omega)]
          have hn : ∀ x : Int × Bytes, number (r.dropWhile fun b => b == 32 || b == 9) = some x → words k x.2 = words k' x.2 := fun x hx => by
            rw [number_eq] at hx
            split at hx
            · cases hx
            · have hx := Option.some.inj hx
              subst hx
              have hl : (List.drop (nEnd (r.dropWhile fun b => b == 32 || b == 9)) (r.dropWhile fun b => b == 32 || b == 9)).length ≤ r.length := by
                rw [List.length_drop, dropWhile_eq, List.length_drop]
                omega
              exact ih k k' (List.drop (nEnd (r.dropWhile fun b => b == 32 || b == 9)) (r.dropWhile fun b => b == 32 || b == 9)) (by omega) (by omega) (by omega)
          cases hq : number (r.dropWhile fun b => b == 32 || b == 9) with
          | none => rfl
          | some x =>
            simp only [Option.bind_some]
            rw [hn x hq]
def parse (r : Bytes) : Option (List Word) := words (r.length + 1) r
theorem words_parse {k : Nat} {r : Bytes} (h : r.length < k) : words k r = parse r := words_fuel r.length k (r.length + 1) r (Nat.le_refl _) h (Nat.lt_succ_self _)
theorem parse_nil : parse [] = some [] := rfl
def n41 (b : UInt8) : Bool := b != 41
theorem parse_cons (c : UInt8) (r : Bytes) : parse (c :: r) =
    if c.toNat = 32 ∨ c.toNat = 9 ∨ c.toNat = 13 then parse r
    else if c.toNat = 59 then some []
    else if c.toNat = 40 then (if tw n41 r < r.length then parse (r.drop (tw n41 r + 1)) else none)
    else if 65 ≤ upper c.toNat ∧ upper c.toNat ≤ 90 then
      (let u := r.drop (tw blank r)
       if nBad u then none else (parse (u.drop (nEnd u))).map fun l => (upper c.toNat, nVal u) :: l)
    else none := by
  have hd : ((r.dropWhile fun b => b != 41).drop 1) = r.drop (tw n41 r + 1) := by
    have : (fun b : UInt8 => b != 41) = n41 := rfl
    rw [this, dropWhile_eq, List.drop_drop]
  have hc : r.contains 41 = decide (tw n41 r < r.length) := by
    rw [Bool.eq_iff_iff]
    simp only [List.contains_eq_mem, decide_eq_true_eq]
    have key : ∀ l : Bytes, (41 : UInt8) ∈ l ↔ tw n41 l < l.length := by
      intro l
      induction l with
      | nil => simp [tw_nil]
      | cons a l ih =>
        rw [tw_cons]
        by_cases e : a = 41
        · subst e
          have : ¬ n41 41 = true := by decide
          rw [if_neg this]
          simp
        · have : n41 a = true := by
            unfold n41
            simpa using e
          rw [if_pos this, List.length_cons, List.mem_cons, ih]
          constructor
          · rintro (h | h)
            · exact absurd h.symm e
            · omega
          · intro h
            right
            omega
    exact key r
  have hb : (r.dropWhile fun b => b == 32 || b == 9) = r.drop (tw blank r) := by
    have : (fun b : UInt8 => b == 32 || b == 9) = blank := rfl
    rw [this, dropWhile_eq]
  unfold parse
  rw [List.length_cons]
  conv => lhs; unfold words
  simp only [hd, hc, hb, decide_eq_true_eq, number_eq]
  have h1 : words (r.length + 1) (r.drop (tw n41 r + 1)) = words ((r.drop (tw n41 r + 1)).length + 1) (r.drop (tw n41 r + 1)) := words_parse (by rw [List.length_drop]; omega)
  rw [h1]
  have h2 : ∀ m, words (r.length + 1) ((r.drop (tw blank r)).drop m) = words (((r.drop (tw blank r)).drop m).length + 1) ((r.drop (tw blank r)).drop m) := fun m => words_parse (by rw [List.length_drop, List.length_drop]; omega)
  by_cases hq : nBad (r.drop (tw blank r))
  · simp only [hq, if_true, Option.bind_none]
  · simp only [hq, if_false, Option.bind_some, h2]
def rd (l : List Word) (r : Bytes) : Option (List Word) := (parse r).bind fun m => if valid (l ++ m) = true then some (l ++ m) else none
theorem rd_nil {l : List Word} (h : valid l = true) : rd l [] = some l := by
  unfold rd
  rw [parse_nil]
  simp [h]
theorem rd_blank {l : List Word} {c : UInt8} {r : Bytes} (h : c.toNat = 32 ∨ c.toNat = 9 ∨ c.toNat = 13) : rd l (c :: r) = rd l r := by
  unfold rd
  rw [parse_cons, if_pos h]
theorem rd_semi {l : List Word} {c : UInt8} {r : Bytes} (h : c.toNat = 59) (hv : valid l = true) : rd l (c :: r) = some l := by
  unfold rd
  rw [parse_cons, if_neg (by omega), if_pos h]
  simp [hv]
theorem rd_note {l : List Word} {c : UInt8} {r : Bytes} (h : c.toNat = 40) : rd l (c :: r) = if tw n41 r < r.length then rd l (r.drop (tw n41 r + 1)) else none := by
  unfold rd
  rw [parse_cons, if_neg (by omega), if_neg (by omega), if_pos h]
  split <;> rfl
theorem upper_range {c : Nat} (h : inL (upper c) = true) : 65 ≤ upper c ∧ upper c ≤ 90 := by
  have := (inL_iff _).mp h
  omega
theorem okTake_inL {l : List Word} {c : Nat} {x : Int} (h : okTake l c x = true) : inL c = true := by
  unfold okTake at h
  split at h
  · rename_i e
    rw [inL_iff]
    omega
  · split at h
    · rename_i e
      rw [inL_iff]
      omega
    · simp only [Bool.and_eq_true] at h
      exact h.1
theorem rd_word {l : List Word} {c : UInt8} {r : Bytes} (h1 : ¬ (c.toNat = 32 ∨ c.toNat = 9 ∨ c.toNat = 13)) (h2 : ¬ c.toNat = 59) (h3 : ¬ c.toNat = 40) :
    rd l (c :: r) = (let u := r.drop (tw blank r)
      if inL (upper c.toNat) = true ∧ ¬ nBad u ∧ okTake l (upper c.toNat) (nVal u) = true then rd (l ++ [(upper c.toNat, nVal u)]) (u.drop (nEnd u)) else none) := by
  unfold rd
  rw [parse_cons, if_neg h1, if_neg h2, if_neg h3]
  generalize hu : r.drop (tw blank r) = u
  simp only
  have assoc : ∀ m, l ++ (upper c.toNat, nVal u) :: m = (l ++ [(upper c.toNat, nVal u)]) ++ m := fun m => by simp
  have bad : okTake l (upper c.toNat) (nVal u) ≠ true → ∀ m, ¬ valid (l ++ (upper c.toNat, nVal u) :: m) = true := fun h m hv => by
    rw [assoc] at hv
    have := valid_prefix _ _ hv
    rw [valid_snoc, Bool.and_eq_true] at this
    exact h this.2
  by_cases hr : 65 ≤ upper c.toNat ∧ upper c.toNat ≤ 90
  · rw [if_pos hr]
    by_cases hn : nBad u
    · rw [if_pos hn, if_neg (fun q => q.2.1 hn)]
      rfl
    · rw [if_neg hn]
      by_cases ht : okTake l (upper c.toNat) (nVal u) = true
      · rw [if_pos ⟨okTake_inL ht, hn, ht⟩]
        cases parse (u.drop (nEnd u)) with
        | none => rfl
        | some m =>
          simp only [Option.map_some, Option.bind_some]
          rw [assoc]
      · rw [if_neg (fun q => ht q.2.2)]
        cases parse (u.drop (nEnd u)) with
        | none => rfl
        | some m =>
          simp only [Option.map_some, Option.bind_some]
          rw [if_neg (bad ht m)]
  · rw [if_neg hr, if_neg (fun q => hr (upper_range q.1))]
    rfl
end MW
set_option maxHeartbeats 2000000
namespace MW
open Sz30
def cMotion (l : List Word) := chosen (all l 'G') [0, 1, 2, 3, 80, 81, 82, 83]
def cPlane (l : List Word) := chosen (all l 'G') [17, 18, 19]
def cUnit (l : List Word) := chosen (all l 'G') [20, 21]
def cOrigin (l : List Word) := chosen (all l 'G') [54, 55, 56, 57, 58, 59]
def cWay (l : List Word) := chosen (all l 'G') [90, 91]
def cSpecial (l : List Word) := chosen (all l 'G') [4, 53, 92]
def cTool (l : List Word) := chosen (all l 'M') [6]
def cSpindle (l : List Word) := chosen (all l 'M') [3, 4, 5]
def cCooling (l : List Word) := chosen (all l 'M') [7, 8, 9]
def cStop (l : List Word) := chosen (all l 'M') [0, 1, 2, 30]
def told (l : List Word) (c : Char) : Bool := (Sz30.get l c).isSome
def axT (l : List Word) : Bool := told l 'X' || (told l 'Y' || told l 'Z')
def ceT (l : List Word) : Bool := told l 'I' || (told l 'J' || told l 'K')
theorem anyAxis_eq (l : List Word) : anyAxis l = axT l := by
  unfold anyAxis names axT told
  simp [List.any_cons]
theorem anyCe_eq (l : List Word) : (['I', 'J', 'K'].any fun c => (Sz30.get l c).isSome) = ceT l := by
  unfold ceT told
  simp [List.any_cons]
def settle1 (s : St) (l : List Word) : St := match cUnit l with
  | some x => { s with inches := x == 20 }
  | none => s
def settle2 (u : St) (l : List Word) : St := match cPlane l with
  | some x => { u with plane := x.toNat }
  | none => u
def settle3 (u : St) (l : List Word) : St := match cOrigin l with
  | some x => { u with origin := (x - 54).toNat }
  | none => u
def settle4 (u : St) (l : List Word) : St := match cWay l with
  | some x => { u with steps := x == 91 }
  | none => u
def settle5 (u : St) (l : List Word) : St := match Sz30.get l 'F' with
  | some x => { u with feed := u.long x }
  | none => u
def settle (s : St) (l : List Word) : St := settle5 (settle4 (settle3 (settle2 (settle1 s l) l) l) l) l
def side5 (l : List Word) : List Move := if told l 'T' = true ∨ (cTool l).isSome = true then [plain 5 (if told l 'T' = true then (Sz30.get l 'T').getD 0 / 10000 else -1) (if (cTool l).isSome = true then 1 else 0)] else []
def side6 (l : List Word) : List Move := if told l 'S' = true ∨ (cSpindle l).isSome = true then [plain 6 ((cSpindle l).getD (-1)) ((Sz30.get l 'S').getD (-1))] else []
def side7 (l : List Word) : List Move := match cCooling l with
  | some x => [plain 7 x 0]
  | none => []
def side (l : List Word) : List Move := side5 l ++ (side6 l ++ side7 l)
def own (l : List Word) : Bool := decide (cSpecial l = some 53)
def endP (u : St) (l : List Word) : Place := place fun k => u.to (own l) l k
def offK (v : St) (l : List Word) (k : Nat) : Int := match Sz30.get l (names.getD k 'X') with
  | some x => axis v.at_ k - axis (v.origins.getD v.origin (0, 0, 0)) k - v.long x
  | none => axis v.off k
def lineM (u : St) (l : List Word) : Option (St × List Move) :=
  if u.motion = 0 then some ({ u with at_ := endP u l }, [straight 0 (endP u l) 0])
  else if u.feed = 0 then none
  else some ({ u with at_ := endP u l }, [straight 1 (endP u l) u.feed])
def nearP (a b : Int) : Bool := decide (max a b - min a b - 40000 ≤ 0) || decide ((max a b - min a b - 40000) * (max a b - min a b - 40000) ≤ 160000 * min a b)
def cen (u : St) (l : List Word) (k : Nat) : Int := axis u.at_ k + u.long ((Sz30.get l (centres.getD k 'I')).getD 0)
def arcM (u : St) (l : List Word) : Option (St × List Move) :=
  if u.feed = 0 then none
  else
    let x := axes u.plane
    if told l (centres.getD x.2.2 'I') = true then none
    else
      let c := cen u l x.1
      let d := cen u l x.2.1
      let p := endP u l
      let r := sq (axis u.at_ x.1 - c) + sq (axis u.at_ x.2.1 - d)
      let e := sq (axis p x.1 - c) + sq (axis p x.2.1 - d)
      if r = 0 ∨ nearP r e = false then none
      else some ({ u with at_ := p }, [[(u.motion : Int), p.1, p.2.1, p.2.2, u.feed, (u.plane : Int), c, d]])
def begin_ (u : St) : St := { u with height := axis u.at_ 2, level := none, depth := none, peck := none, wait := 0 }
def hole1 (u : St) (l : List Word) : St := match Sz30.get l 'R' with
  | some x => { u with level := some ((if u.steps = true then u.height else u.zero 2) + u.long x) }
  | none => u
def hole2 (u : St) (l : List Word) : St := match Sz30.get l 'Z' with
  | some x => { u with depth := some (u.zero 2 + u.long x) }
  | none => u
def hole3 (u : St) (l : List Word) : St := match Sz30.get l 'Q' with
  | some x => { u with peck := some (u.long x) }
  | none => u
def hole4 (u : St) (l : List Word) : St := match Sz30.get l 'P' with
  | some x => { u with wait := x }
  | none => u
def takeH (u : St) (l : List Word) : St := hole4 (hole3 (hole2 (hole1 u l) l) l) l
def pecksM (u : St) (x y r d : Int) : Option (List Move) := match u.peck with
  | some q => if q ≤ 0 ∨ 1000 * q < r - d then none else some (pecks x y r d q u.feed 1001 r)
  | none => none
def intoM (u : St) (x y r d : Int) : Option (List Move) :=
  if u.motion = 83 then pecksM u x y r d
  else if u.motion = 82 then some [straight 1 (x, y, d) u.feed, plain 4 u.wait 0]
  else some [straight 1 (x, y, d) u.feed]
def needH (u : St) : Option (Int × Int) :=
  if u.feed = 0 then none else if u.plane ≠ 17 then none else match u.level, u.depth with
    | some r, some d => if r < d then none else some (r, d)
    | _, _ => none
def holesM (u : St) (l : List Word) (before : Nat) : Option (St × List Move) :=
  let u := takeH (if before < 81 then begin_ u else u) l
  if axT l = false then some (u, [])
  else (needH u).bind fun rd =>
    let x := u.to (own l) l 0
    let y := u.to (own l) l 1
    (intoM u x y rd.1 rd.2).map fun m => ({ u with at_ := (x, y, max u.height rd.1) }, [straight 0 (x, y, axis u.at_ 2) 0, straight 0 (x, y, rd.1) 0] ++ (m ++ [straight 0 (x, y, max u.height rd.1) 0]))
def kindM (s : St) (l : List Word) : Nat := match cMotion l with
  | some x => x.toNat
  | none => s.motion
def motionM (u : St) (l : List Word) : Option (St × List Move) :=
  let k := kindM u l
  let v := { u with motion := k }
  if own l = true ∧ ¬ (axT l = true ∧ (k = 0 ∨ k = 1)) then none
  else if 81 ≤ k then holesM v l u.motion
  else if (k = 2 ∨ k = 3) ∧ (axT l = true ∨ ((cMotion l).isSome = true ∧ ceT l = true)) then arcM v l
  else if axT l = false then some (v, [])
  else if k = 80 then none
  else lineM v l
def mainM (u : St) (l : List Word) : Option (St × List Move) :=
  if cSpecial l = some 4 then (if told l 'P' = false ∨ axT l = true ∨ (cMotion l).isSome = true then none else some (u, [plain 4 ((Sz30.get l 'P').getD 0) 0]))
  else if cSpecial l = some 92 then (if axT l = false ∨ (cMotion l).isSome = true then none else some ({ u with off := place (offK u l) }, []))
  else motionM u l
def stopM (l : List Word) : List Move := match cStop l with
  | some x => [plain 8 x 0]
  | none => []
def endsM (l : List Word) : Bool := decide (cStop l = some 2) || decide (cStop l = some 30)
def doM (s : St) (l : List Word) : Option (St × List Move) := (mainM (settle s l) l).map fun r => (r.1, side l ++ (r.2 ++ stopM l))
theorem sq_id (a b D : Int) : (a + b - D) * (a + b - D) - 4 * a * b = (a - b - D) * (a - b - D) - 4 * D * b := by
  simp only [Int.sub_mul, Int.mul_sub, Int.add_mul, Int.mul_add]
  have h1 : a * b = b * a := Int.mul_comm a b
  have h2 : a * D = D * a := Int.mul_comm a D
  have h3 : b * D = D * b := Int.mul_comm b D
  have h4 : 4 * a * b = 4 * (b * a) := by rw [Int.mul_assoc, h1]
  have h5 : 4 * D * b = 4 * (D * b) := by rw [Int.mul_assoc]
  rw [h1, h2, h3, h4, h5]
  omega
theorem near_comm (a b : Int) : near a b = near b a := by
  unfold near
  rw [Int.add_comm a b]
  have : 4 * a * b = 4 * b * a := by rw [Int.mul_assoc, Int.mul_comm a b, Int.mul_assoc]
  rw [this]
theorem near_ge {a b : Int} (hb : 0 ≤ b) (h : b ≤ a) : near a b = (decide (a - b - 40000 ≤ 0) || decide ((a - b - 40000) * (a - b - 40000) ≤ 160000 * b)) := by
  have e := sq_id a b 40000
  unfold near
  rw [Bool.eq_iff_iff]
  simp only [Bool.or_eq_true, decide_eq_true_eq]
  have e2 : 4 * (40000 : Int) * b = 160000 * b := by
    have : 4 * (40000 : Int) = 160000 := by decide
    rw [this]
  rw [e2] at e
  generalize hX : (a + b - 40000) * (a + b - 40000) = X at *
  generalize hY : (a - b - 40000) * (a - b - 40000) = Y at *
  generalize hZ : 4 * a * b = Z at *
  constructor
  · rintro (q | q)
    · left; omega
    · right; omega
  · rintro (q | q)
    · by_cases h2 : a + b ≤ 40000
      · left; exact h2
      · right
        have hY0 : Y ≤ 40000 * 40000 := by
          rw [← hY]
          have h3 : a - b - 40000 ≤ 0 := q
          have h4 : -40000 ≤ a - b - 40000 := by omega
          have h5 : (-(a - b - 40000)) * (-(a - b - 40000)) = (a - b - 40000) * (a - b - 40000) := Int.neg_mul_neg _ _
          rw [← h5]
          generalize hn : -(a - b - 40000) = n at *
          have h6 : 0 ≤ n := by omega
          have h7 : n ≤ 40000 := by omega
          exact Int.mul_le_mul h7 h7 h6 (by decide)
        by_cases h8 : 10000 ≤ b
        · omega
        · have h9 : 40000 - b ≤ a := by omega
          have h10 : -(2 * b) ≤ a - b - 40000 := by omega
          have h11 : Y ≤ (2 * b) * (2 * b) := by
            rw [← hY]
            have h5 : (-(a - b - 40000)) * (-(a - b - 40000)) = (a - b - 40000) * (a - b - 40000) := Int.neg_mul_neg _ _
            rw [← h5]
            generalize hn : -(a - b - 40000) = n at *
            have h6 : 0 ≤ n := by omega
            have h7 : n ≤ 2 * b := by omega
            exact Int.mul_le_mul h7 h7 h6 (by omega)
          have h12 : (2 * b) * (2 * b) ≤ (2 * b) * 20000 := Int.mul_le_mul_of_nonneg_left (by omega) (by omega)
          omega
    · right; omega
theorem near_eq {a b : Int} (ha : 0 ≤ a) (hb : 0 ≤ b) : near a b = nearP a b := by
  unfold nearP
  rcases Int.le_total b a with h | h
  · rw [near_ge hb h, Int.max_eq_left h, Int.min_eq_right h]
  · rw [near_comm, near_ge ha h, Int.max_eq_right h, Int.min_eq_left h]
theorem sq_nn (x : Int) : 0 ≤ sq x := by
  unfold sq
  rcases Int.le_total 0 x with h | h
  · exact Int.mul_nonneg h h
  · exact Int.mul_nonneg_of_nonpos_of_nonpos h h
end MW
set_option maxHeartbeats 4000000
namespace MW
open Sz30
theorem valid_parts {l : List Word} (h : valid l = true) : allowed l = true ∧ sound (all l 'G') groups = true ∧ sound (all l 'M') mgroups = true ∧ posOk l 'F' = true ∧ posOk l 'S' = true ∧ posOk l 'T' = true ∧ posOk l 'P' = true ∧ posOk l 'N' = true := by
  unfold valid at h
  simp only [Bool.and_eq_true] at h
  exact h
theorem sound_mod {g : List Int} {gs : List (List Int)} (h : sound g gs = true) : ∀ x ∈ g, x % 10000 = 0 := fun x hx => by
  unfold sound at h
  simp only [Bool.and_eq_true, List.all_eq_true, beq_iff_eq] at h
  exact (h.1 x hx).1
theorem sound_one {g : List Int} {gs : List (List Int)} (h : sound g gs = true) {G : List Int} (hG : G ∈ gs) : (g.filter fun x => G.contains (x / 10000)).length ≤ 1 := by
  unfold sound at h
  simp only [Bool.and_eq_true, List.all_eq_true, decide_eq_true_eq] at h
  exact h.2 G hG
theorem chosen_iff {g : List Int} {gs : List (List Int)} (h : sound g gs = true) {G : List Int} (hG : G ∈ gs) {x : Int} (hx : x ∈ G) : chosen g G = some x ↔ g.contains (x * 10000) = true := by
  have hmod := sound_mod h
  have hone := sound_one h hG
  have e1 : (g.filter fun y => y % 10000 == 0 && G.contains (y / 10000)) = g.filter fun y => G.contains (y / 10000) := List.filter_congr fun y hy => by
    rw [hmod y hy]
    simp
  unfold chosen
  rw [e1]
  have hq : (x * 10000) / 10000 = x := Int.mul_ediv_cancel x (by decide)
  constructor
  · intro q
    obtain ⟨y, hy, he⟩ := Option.map_eq_some_iff.mp q
    have hy' := (List.mem_filter.mp (List.mem_of_head? hy)).1
    have : y = x * 10000 := by
      have := hmod y hy'
      have := Int.mul_ediv_add_emod y 10000
      omega
    rw [← this]
    simpa using hy'
  · intro q
    have q : x * 10000 ∈ g := by simpa using q
    have q2 : x * 10000 ∈ g.filter fun y => G.contains (y / 10000) := List.mem_filter.mpr ⟨q, by rw [hq]; simpa using hx⟩
    cases hf : g.filter fun y => G.contains (y / 10000) with
    | nil =>
      rw [hf] at q2
      cases q2
    | cons a r =>
      rw [hf] at q2 hone
      have hr : r = [] := List.length_eq_zero_iff.mp (by rw [List.length_cons] at hone; omega)
      subst hr
      have : x * 10000 = a := by simpa using q2
      rw [← this]
      simp [hq]
theorem tool_iff {l : List Word} (h : valid l = true) : (all l 'M').contains 60000 = (cTool l).isSome := by
  obtain ⟨_, _, hM, _⟩ := valid_parts h
  have q := chosen_iff hM (G := [6]) (by decide) (x := 6) (by decide)
  have e : (6 : Int) * 10000 = 60000 := by decide
  rw [e] at q
  unfold cTool
  cases hc : chosen (all l 'M') [6] with
  | none =>
    rw [hc] at q
    cases hb : (all l 'M').contains 60000 with
    | false => rfl
    | true =>
      have := q.mpr hb
      cases this
  | some y =>
    have : y = 6 := by simpa using chosen_mem hc
    subst this
    rw [q.mp hc]
    rfl
theorem ends_iff {l : List Word} (h : valid l = true) : ((all l 'M').contains 20000 = true ∨ (all l 'M').contains 300000 = true) ↔ endsM l = true := by
  obtain ⟨_, _, hM, _⟩ := valid_parts h
  have q1 := chosen_iff hM (G := [0, 1, 2, 30]) (by decide) (x := 2) (by decide)
  have q2 := chosen_iff hM (G := [0, 1, 2, 30]) (by decide) (x := 30) (by decide)
  have e1 : (2 : Int) * 10000 = 20000 := by decide
  have e2 : (30 : Int) * 10000 = 300000 := by decide
  rw [e1] at q1
  rw [e2] at q2
  unfold endsM cStop
  rw [Bool.or_eq_true, decide_eq_true_eq, decide_eq_true_eq, q1, q2]
def mOk (k : Nat) : Prop := k = 0 ∨ k = 1 ∨ k = 2 ∨ k = 3 ∨ k = 80 ∨ k = 81 ∨ k = 82 ∨ k = 83
theorem cMotion_ok {l : List Word} {x : Int} (h : cMotion l = some x) : mOk x.toNat ∧ (x.toNat : Int) = x := by
  have := chosen_mem h
  simp only [List.mem_cons, List.not_mem_nil, or_false] at this
  unfold mOk
  rcases this with rfl | rfl | rfl | rfl | rfl | rfl | rfl | rfl <;> decide
theorem kind_ok {s : St} {l : List Word} (h : mOk s.motion) : mOk (kindM s l) := by
  unfold kindM
  cases hc : cMotion l with
  | none => exact h
  | some x => exact (cMotion_ok hc).1
theorem settle_motion (s : St) (l : List Word) : (settle s l).motion = s.motion := by
  unfold settle settle5 settle4 settle3 settle2 settle1
  repeat (first | rfl | split)
theorem settle_same (s : St) (l : List Word) : (settle s l).at_ = s.at_ ∧ (settle s l).height = s.height ∧ (settle s l).level = s.level ∧ (settle s l).depth = s.depth ∧ (settle s l).peck = s.peck ∧ (settle s l).wait = s.wait ∧ (settle s l).ended = s.ended ∧ (settle s l).off = s.off ∧ (settle s l).origins = s.origins := by
  unfold settle settle5 settle4 settle3 settle2 settle1
  repeat (first | exact ⟨rfl, rfl, rfl, rfl, rfl, rfl, rfl, rfl, rfl⟩ | split)
def sideS (l : List Word) : List Move := (match Sz30.get l 'T' with
        | some x => [plain 5 (x / 10000) (if (all l 'M').contains 60000 = true then 1 else 0)]
        | none => if (all l 'M').contains 60000 = true then [plain 5 (-1) 1] else []) ++
      ((match chosen (all l 'M') [3, 4, 5] with
        | some x => [plain 6 x ((Sz30.get l 'S').getD (-1))]
        | none => match Sz30.get l 'S' with
          | some x => [plain 6 (-1) x]
          | none => []) ++
      (match chosen (all l 'M') [7, 8, 9] with
        | some x => [plain 7 x 0]
        | none => []))
theorem side_eq {l : List Word} (h : valid l = true) : sideS l = side l := by
  unfold sideS
  rw [tool_iff h]
  unfold side side5 side6 side7 cSpindle cCooling told
  congr 1
  · cases Sz30.get l 'T' <;> cases (cTool l).isSome <;> simp
  · congr 1
    cases chosen (all l 'M') [3, 4, 5] <;> cases Sz30.get l 'S' <;> simp
theorem arc_eq (u : St) (k : Nat) (p : Place) (l : List Word) (hk : u.motion = k) (hp : p = endP u l) :
    (match Sz30.arc u (k : Int) p l with
      | some x => if u.feed = 0 then none else some (({ u with at_ := p } : St), [x])
      | none => none) = arcM u l := by
  subst hp
  have hz : u.long 0 = 0 := by
    unfold St.long
    split <;> rfl
  have hd : ∀ c : Char, ((Sz30.get l c).map u.long).getD 0 = u.long ((Sz30.get l c).getD 0) := fun c => by
    cases Sz30.get l c with
    | none => exact hz.symm
    | some x => rfl
  unfold Sz30.arc arcM
  simp only [hd]
  generalize hx : axes u.plane = x
  obtain ⟨x1, x2, x3⟩ := x
  simp only
  have hc1 : axis u.at_ x1 + u.long ((Sz30.get l (centres.getD x1 'I')).getD 0) = cen u l x1 := rfl
  have hc2 : axis u.at_ x2 + u.long ((Sz30.get l (centres.getD x2 'I')).getD 0) = cen u l x2 := rfl
  rw [hc1, hc2]
  have hs : ∀ k, sq (u.long ((Sz30.get l (centres.getD k 'I')).getD 0)) = sq (axis u.at_ k - cen u l k) := fun k => by
    unfold cen sq
    generalize axis u.at_ k = a
    generalize u.long ((Sz30.get l (centres.getD k 'I')).getD 0) = b
    have : a - (a + b) = -b := by omega
    rw [this, Int.neg_mul_neg]
  rw [hs, hs]
  generalize hr : sq (axis u.at_ x1 - cen u l x1) + sq (axis u.at_ x2 - cen u l x2) = r
  generalize he : sq (axis (endP u l) x1 - cen u l x1) + sq (axis (endP u l) x2 - cen u l x2) = e
  have hn : near r e = nearP r e := near_eq (by rw [← hr]; exact Int.add_nonneg (sq_nn _) (sq_nn _)) (by rw [← he]; exact Int.add_nonneg (sq_nn _) (sq_nn _))
  rw [hn]
  have hboth : (Sz30.get l (centres.getD x1 'I')).isNone = true ∧ (Sz30.get l (centres.getD x2 'I')).isNone = true → r = 0 := fun ⟨h1, h2⟩ => by
    rw [← hr]
    have g1 : Sz30.get l (centres.getD x1 'I') = none := by simpa using h1
    have g2 : Sz30.get l (centres.getD x2 'I') = none := by simpa using h2
    unfold cen
    rw [g1, g2]
    simp only [Option.getD_none, hz, Int.add_zero, Int.sub_self]
    rfl
  unfold told
  by_cases hf : u.feed = 0
  · rw [if_pos hf]
    split
    · rw [if_pos hf]
    · rfl
  · rw [if_neg hf]
    by_cases h3 : (Sz30.get l (centres.getD x3 'I')).isSome = true
    · rw [if_pos h3, if_pos (.inr (.inr (.inl h3)))]
    · rw [if_neg h3]
      by_cases hq : r = 0 ∨ nearP r e = false
      · rw [if_pos hq, if_pos (by rcases hq with q | q; exact .inl q; exact .inr (.inl q))]
      · rw [if_neg hq, if_neg (by rintro (q | q | q | q); exact hq (.inl q); exact hq (.inr q); exact h3 q; exact hq (.inl (hboth q))), hk]
        simp only [if_neg hf]
theorem hole_eq (u : St) (x y r d : Int) : Sz30.hole u x y r d = (intoM u x y r d).map fun m => [straight 0 (x, y, axis u.at_ 2) 0, straight 0 (x, y, r) 0] ++ (m ++ [straight 0 (x, y, max u.height r) 0]) := by
  unfold Sz30.hole intoM pecksM
  rfl
def levS (s u : St) (l : List Word) : Option Int := match Sz30.get l 'R' with
  | some x => some (if u.steps = true then u.height + u.long x else u.zero 2 + u.long x)
  | none => if s.motion < 81 then none else u.level
def depS (s u : St) (l : List Word) : Option Int := match Sz30.get l 'Z' with
  | some x => some (u.zero 2 + u.long x)
  | none => if s.motion < 81 then none else u.depth
def pecS (s u : St) (l : List Word) : Option Int := match Sz30.get l 'Q' with
  | some x => some (u.long x)
  | none => if s.motion < 81 then none else u.peck
def waiS (s u : St) (l : List Word) : Int := match Sz30.get l 'P' with
  | some x => x
  | none => if s.motion < 81 then 0 else u.wait
def holS (s u : St) (l : List Word) : St := { u with level := levS s u l, depth := depS s u l, peck := pecS s u l, wait := waiS s u l }
def endsS (l : List Word) (w : St) : St := if (all l 'M').contains 20000 = true ∨ (all l 'M').contains 300000 = true then { w with ended := true } else w
def doneS (l : List Word) (w : St) (ms : List Move) : Option (St × List Move) := some (endsS l w, sideS l ++ (ms ++ stopM l))
def arcS (u : St) (k : Nat) (l : List Word) : Option (St × List Move) := match Sz30.arc u (k : Int) u.at_ l with
  | some x => if u.feed = 0 then none else doneS l u [x]
  | none => none
def holeS (u : St) (l : List Word) : Option (St × List Move) := match u.level, u.depth with
  | some r, some d => if r < d then none else
    let x := u.to false l 0
    let y := u.to false l 1
    match Sz30.hole u x y r d with
    | some ms => doneS l { u with at_ := (x, y, max u.height r) } ms
    | none => none
  | _, _ => none
def moveS (u : St) (k : Nat) (ow : Bool) (l : List Word) : Option (St × List Move) :=
  let p := place fun k => u.to ow l k
  if k = 0 then doneS l { u with at_ := p } [straight 0 p 0]
  else if u.feed = 0 then none
  else if k = 1 then doneS l { u with at_ := p } [straight 1 p u.feed]
  else match Sz30.arc u (k : Int) p l with
    | some x => doneS l { u with at_ := p } [x]
    | none => none
def bodyS (s : St) (l : List Word) : Option (St × List Move) :=
  let v := settle s l
  let kind := kindM s l
  let holes := decide (81 ≤ kind)
  let u := { v with motion := kind, height := if holes = true ∧ s.motion < 81 then axis v.at_ 2 else v.height }
  let u := if holes = true then holS s u l else u
  let own := decide (cSpecial l = some 53)
  if cSpecial l = some 4 then doneS l v [plain 4 ((Sz30.get l 'P').getD 0) 0]
  else if cSpecial l = some 92 then doneS l { v with off := place (offK v l) } []
  else if own = true ∧ (1 < kind ∨ anyAxis l = false) then none
  else if anyAxis l = false then (if kind = 80 ∨ (cMotion l).isNone = true ∨ kind ≤ 1 then doneS l u [] else if kind = 2 ∨ kind = 3 then (if ['I', 'J', 'K'].any (fun c => (Sz30.get l c).isSome) = true then arcS u kind l else doneS l u []) else doneS l u [])
  else if kind = 80 then none
  else if holes = true then (if u.plane ≠ 17 ∨ u.feed = 0 then none else holeS u l)
  else moveS u kind own l
theorem line_body (s : St) (l : List Word) : Sz30.line s l =
    if allowed l = false ∨ sound (all l 'G') groups = false ∨ sound (all l 'M') mgroups = false ∨ posOk l 'F' = false ∨ posOk l 'S' = false ∨ posOk l 'T' = false ∨ posOk l 'P' = false ∨ posOk l 'N' = false then none
    else if (cSpecial l = some 4 ∧ ((Sz30.get l 'P').isNone = true ∨ anyAxis l = true ∨ (cMotion l).isSome = true)) ∨ (cSpecial l = some 92 ∧ ((cMotion l).isSome = true ∨ anyAxis l = false)) then none
    else bodyS s l := rfl
theorem line_invalid (s : St) (l : List Word) (hv : ¬ valid l = true) : Sz30.line s l = none := by
  rw [line_body]
  split
  · rfl
  · rename_i h
    refine absurd ?_ hv
    unfold valid
    simp only [Bool.and_eq_true]
    simp only [not_or, Bool.not_eq_false] at h
    exact h
theorem ends_eq {l : List Word} (hv : valid l = true) (w : St) : endsS l w = if endsM l = true then { w with ended := true } else w := by
  unfold endsS
  by_cases h : endsM l = true
  · rw [if_pos h, if_pos ((ends_iff hv).mpr h)]
  · rw [if_neg h, if_neg (fun z => h ((ends_iff hv).mp z))]
theorem holS_eq (s u : St) (l : List Word) (k : Nat) : holS s { u with motion := k, height := if s.motion < 81 then axis u.at_ 2 else u.height } l = takeH (if s.motion < 81 then begin_ { u with motion := k } else { u with motion := k }) l := by
  have hz : ∀ (a b : St) (k : Nat), a.origins = b.origins → a.origin = b.origin → a.off = b.off → a.zero k = b.zero k := fun a b k h1 h2 h3 => by
    unfold St.zero
    rw [h1, h2, h3]
  unfold holS levS depS pecS waiS takeH hole4 hole3 hole2 hole1 begin_
  by_cases hb : s.motion < 81
  · simp only [if_pos hb]
    cases Sz30.get l 'R' <;> cases Sz30.get l 'Z' <;> cases Sz30.get l 'Q' <;> cases Sz30.get l 'P' <;> simp only [St.long, St.zero] <;> (try (congr 2; split <;> rfl))
  · simp only [if_neg hb]
    cases Sz30.get l 'R' <;> cases Sz30.get l 'Z' <;> cases Sz30.get l 'Q' <;> cases Sz30.get l 'P' <;> simp only [St.long, St.zero] <;> (try (congr 2; split <;> rfl))
theorem at_place (u : St) (l : List Word) (h : axT l = false) (ow : Bool) : (place fun k => u.to ow l k) = u.at_ := by
  unfold axT told at h
  simp only [Bool.or_eq_false_iff] at h
  have hx : Sz30.get l 'X' = none := by simpa using h.1
  have hy : Sz30.get l 'Y' = none := by simpa using h.2.1
  have hz : Sz30.get l 'Z' = none := by simpa using h.2.2
  have e0 : u.to ow l 0 = axis u.at_ 0 := by
    unfold St.to
    have : names.getD 0 'X' = 'X' := rfl
    rw [this, hx]
  have e1 : u.to ow l 1 = axis u.at_ 1 := by
    unfold St.to
    have : names.getD 1 'X' = 'Y' := rfl
    rw [this, hy]
  have e2 : u.to ow l 2 = axis u.at_ 2 := by
    unfold St.to
    have : names.getD 2 'X' = 'Z' := rfl
    rw [this, hz]
  show (u.to ow l 0, u.to ow l 1, u.to ow l 2) = u.at_
  rw [e0, e1, e2]
  rfl
theorem line_eq (s : St) (l : List Word) (hv : valid l = true) (hm : mOk s.motion) :
    Sz30.line s l = (doM s l).map fun r => (if endsM l = true then { r.1 with ended := true } else r.1, r.2) := by
  obtain ⟨v1, v2, v3, v4, v5, v6, v7, v8⟩ := valid_parts hv
  rw [line_body, if_neg (by
    rintro (q | q | q | q | q | q | q | q)
    · rw [v1] at q; cases q
    · rw [v2] at q; cases q
    · rw [v3] at q; cases q
    · rw [v4] at q; cases q
    · rw [v5] at q; cases q
    · rw [v6] at q; cases q
    · rw [v7] at q; cases q
    · rw [v8] at q; cases q), anyAxis_eq]
  have hdone : ∀ w ms, doneS l w ms = some (if endsM l = true then { w with ended := true } else w, side l ++ (ms ++ stopM l)) := fun w ms => by
    unfold doneS
    rw [ends_eq hv, side_eq hv]
  have hP : (Sz30.get l 'P').isNone = true ↔ told l 'P' = false := by
    unfold told
    cases Sz30.get l 'P' <;> simp
  unfold doM mainM bodyS
  simp only [hdone, anyAxis_eq, anyCe_eq]
  by_cases h4 : cSpecial l = some 4
  · have n92 : ¬ cSpecial l = some 92 := by rw [h4]; decide
    by_cases hc : told l 'P' = false ∨ axT l = true ∨ (cMotion l).isSome = true
    · rw [if_pos (.inl ⟨h4, by rw [hP]; exact hc⟩), if_pos h4, if_pos hc]
      rfl
    · rw [if_neg (by rintro (⟨_, q⟩ | ⟨q, _⟩); exact hc (by rw [hP] at q; exact q); exact n92 q), if_pos h4, if_pos h4, if_neg hc]
      rfl
  · by_cases h92 : cSpecial l = some 92
    · by_cases hc : axT l = false ∨ (cMotion l).isSome = true
      · rw [if_pos (.inr ⟨h92, hc.symm⟩), if_neg h4, if_pos h92, if_pos hc]
        rfl
      · rw [if_neg (by rintro (⟨q, _⟩ | ⟨_, q⟩); exact h4 q; exact hc q.symm), if_neg h4, if_pos h92, if_neg h4, if_pos h92, if_neg hc]
        rfl
    · rw [if_neg (by rintro (⟨q, _⟩ | ⟨q, _⟩); exact h4 q; exact h92 q), if_neg h4, if_neg h92, if_neg h4, if_neg h92]
      have hk := kind_ok (l := l) hm
      have hkind : kindM (settle s l) l = kindM s l := by
        unfold kindM
        rw [settle_motion]
      unfold motionM
      rw [hkind, settle_motion]
      unfold own
      generalize hw : settle s l = w
      generalize hkk : kindM s l = k at hk
      dsimp only
      by_cases hown : decide (cSpecial l = some 53) = true ∧ (1 < k ∨ axT l = false)
      · have hB : decide (cSpecial l = some 53) = true ∧ ¬ (axT l = true ∧ (k = 0 ∨ k = 1)) := ⟨hown.1, by
          rintro ⟨q1, q2⟩
          rcases hown.2 with q | q
          · omega
          · rw [q1] at q; exact absurd q (by decide)⟩
        rw [if_pos hown, if_pos hB]
        rfl
      · have hB : ¬ (decide (cSpecial l = some 53) = true ∧ ¬ (axT l = true ∧ (k = 0 ∨ k = 1))) := by
          rintro ⟨q1, q2⟩
          refine hown ⟨q1, ?_⟩
          by_cases ha : axT l = true
          · left
            unfold mOk at hk
            rcases Nat.lt_or_ge 1 k with z | z
            · exact z
            · exact absurd ⟨ha, by omega⟩ q2
          · right
            simpa using ha
        rw [if_neg hown, if_neg hB]
        by_cases h81 : 81 ≤ k
        · have hnown : decide (cSpecial l = some 53) = false := by
            cases hd : decide (cSpecial l = some 53) with
            | false => rfl
            | true => exact absurd ⟨hd, .inl (by omega)⟩ hown
          rw [if_pos h81, hnown]
          have d81 : decide (81 ≤ k) = true := decide_eq_true h81
          simp only [d81, if_true, true_and]
          rw [holS_eq s w l k]
          unfold holesM
          generalize hu : takeH (if s.motion < 81 then begin_ { w with motion := k } else { w with motion := k }) l = u
          simp only
          by_cases ha : axT l = false
          · rw [if_pos ha, if_pos ha]
            have n80 : ¬ k = 80 := by omega
            have n23 : ¬ (k = 2 ∨ k = 3) := by omega
            simp only [if_neg n23, ite_self]
            rfl
          · rw [if_neg ha, if_neg ha, if_neg (show ¬ k = 80 by omega)]
            unfold holeS needH
            simp only [hdone, hole_eq]
            unfold own
            rw [hnown]
            by_cases hf : u.feed = 0
            · rw [if_pos (.inr hf), if_pos hf]
              rfl
            · by_cases hp : u.plane ≠ 17
              · rw [if_pos (.inl hp), if_neg hf, if_pos hp]
                rfl
              · rw [if_neg (by rintro (q | q); exact hp q; exact hf q), if_neg hf, if_neg hp]
                cases hl : u.level with
                | none => rfl
                | some r =>
                  cases hd : u.depth with
                  | none => rfl
                  | some d =>
                    simp only
                    by_cases hrd : r < d
                    · rw [if_pos hrd, if_pos hrd]
                      rfl
                    · rw [if_neg hrd, if_neg hrd]
                      simp only [Option.bind_some]
                      cases intoM u (u.to false l 0) (u.to false l 1) r d with
                      | none => rfl
                      | some m => rfl
        · rw [if_neg h81]
          have d81 : decide (81 ≤ k) = false := decide_eq_false h81
          simp only [d81, Bool.false_eq_true, if_false, false_and]
          have hu : ({ w with motion := k, height := w.height } : St) = { w with motion := k } := rfl
          rw [hu]
          generalize hvv : ({ w with motion := k } : St) = u
          have humo : u.motion = k := by rw [← hvv]
          by_cases ha : axT l = false
          · rw [if_pos ha]
            have ha' : ¬ axT l = true := by rw [ha]; decide
            have hpl : endP u l = u.at_ := at_place u l ha _
            have hsame : ({ u with at_ := u.at_ } : St) = u := rfl
            by_cases h23 : k = 2 ∨ k = 3
            · cases hcm : cMotion l with
              | none =>
                rw [if_pos (.inr (.inl rfl)), if_neg (show ¬ ((k = 2 ∨ k = 3) ∧ (axT l = true ∨ ((none : Option Int).isSome = true ∧ ceT l = true))) from by rintro ⟨_, q | ⟨q, _⟩⟩; exact ha' q; cases q), if_pos ha]
                first | rfl | (subst hvv; rfl)
              | some x =>
                rw [if_neg (by rintro (q | q | q); omega; cases q; omega), if_pos h23]
                by_cases hce : ceT l = true
                · rw [if_pos hce, if_pos ⟨h23, .inr ⟨rfl, hce⟩⟩, ← arc_eq u k u.at_ l humo hpl.symm]
                  unfold arcS
                  simp only [hdone]
                  cases Sz30.arc u (k : Int) u.at_ l with
                  | none => rfl
                  | some z =>
                    simp only
                    split
                    · rfl
                    · first | rfl | (subst hvv; rfl)
                · rw [if_neg hce, if_neg (show ¬ ((k = 2 ∨ k = 3) ∧ (axT l = true ∨ ((some x).isSome = true ∧ ceT l = true))) from by rintro ⟨_, q | ⟨_, q⟩⟩; exact ha' q; exact hce q), if_pos ha]
                  first | rfl | (subst hvv; rfl)
            · rw [if_neg (show ¬ ((k = 2 ∨ k = 3) ∧ _) from fun q => h23 q.1), if_pos ha]
              rw [if_pos (by unfold mOk at hk; omega)]
              first | rfl | (subst hvv; rfl)
          · rw [if_neg ha]
            have ha' : axT l = true := by simpa using ha
            by_cases h80 : k = 80
            · rw [if_pos h80, if_neg (show ¬ ((k = 2 ∨ k = 3) ∧ (axT l = true ∨ ((cMotion l).isSome = true ∧ ceT l = true))) by omega), if_neg ha, if_pos h80]
              first | rfl | (subst hvv; rfl)
            · rw [if_neg h80]
              unfold moveS
              simp only [hdone]
              have hend : (place fun k => u.to (decide (cSpecial l = some 53)) l k) = endP u l := rfl
              rw [hend]
              by_cases h23 : k = 2 ∨ k = 3
              · rw [if_pos (show (k = 2 ∨ k = 3) ∧ (axT l = true ∨ ((cMotion l).isSome = true ∧ ceT l = true)) from ⟨h23, .inl ha'⟩), if_neg (show ¬ k = 0 by omega), if_neg (show ¬ k = 1 by omega), ← arc_eq u k (endP u l) l humo rfl]
                by_cases hf : u.feed = 0
                · simp only [if_pos hf]
                  cases Sz30.arc u (k : Int) (endP u l) l <;> first | rfl | (subst hvv; rfl)
                · simp only [if_neg hf]
                  cases Sz30.arc u (k : Int) (endP u l) l <;> first | rfl | (subst hvv; rfl)
              · rw [if_neg (show ¬ ((k = 2 ∨ k = 3) ∧ _) from fun q => h23 q.1), if_neg ha, if_neg h80]
                unfold lineM
                rw [humo]
                by_cases h0 : k = 0
                · rw [if_pos h0, if_pos h0]
                  first | rfl | (subst hvv; rfl)
                · rw [if_neg h0, if_neg h0, if_pos (show k = 1 by unfold mOk at hk; omega)]
                  by_cases hf : u.feed = 0
                  · rw [if_pos hf, if_pos hf]
                    first | rfl | (subst hvv; rfl)
                  · rw [if_neg hf, if_neg hf]
                    first | rfl | (subst hvv; rfl)
end MW
set_option maxHeartbeats 2000000
namespace MW
open Sz30
def spl : Bytes → List Bytes
  | [] => [[]]
  | c :: r => if c.toNat = 10 then [] :: spl r else match spl r with
    | x :: xs => (c :: x) :: xs
    | [] => [[c]]
theorem spl_ne (t : Bytes) : spl t ≠ [] := by
  cases t with
  | nil => simp [spl]
  | cons c r =>
    unfold spl
    split
    · simp
    · split <;> simp
def cat (ls : List Bytes) (cur rest : Bytes) : List Bytes := ls ++ (match spl rest with
  | x :: xs => (cur ++ x) :: xs
  | [] => [cur])
theorem cat_start (t : Bytes) : cat [] [] t = spl t := by
  unfold cat
  cases h : spl t with
  | nil => exact absurd h (spl_ne t)
  | cons x xs => simp
theorem cat_end (ls : List Bytes) (cur : Bytes) : cat ls cur [] = ls ++ [cur] := by
  unfold cat spl
  simp
theorem cat_feed (ls : List Bytes) (cur : Bytes) (c : UInt8) (r : Bytes) (h : c.toNat = 10) : cat ls cur (c :: r) = cat (ls ++ [cur]) [] r := by
  unfold cat
  have e : spl (c :: r) = [] :: spl r := by
    conv => lhs; unfold spl
    rw [if_pos h]
  rw [e]
  cases hs : spl r with
  | nil => exact absurd hs (spl_ne r)
  | cons x xs => simp
theorem cat_byte (ls : List Bytes) (cur : Bytes) (c : UInt8) (r : Bytes) (h : ¬ c.toNat = 10) : cat ls cur (c :: r) = cat ls (cur ++ [c]) r := by
  unfold cat
  cases hs : spl r with
  | nil => exact absurd hs (spl_ne r)
  | cons x xs =>
    have e : spl (c :: r) = (c :: x) :: xs := by
      conv => lhs; unfold spl
      rw [if_neg h, hs]
    rw [e]
    simp
def n10 (b : UInt8) : Bool := b != 10
theorem n10_iff (b : UInt8) : n10 b = true ↔ ¬ b.toNat = 10 := by
  unfold n10
  have h := u8_eq b 10 (by decide)
  have e : (UInt8.ofNat 10) = 10 := rfl
  rw [e] at h
  rw [bne, h]
  simp
theorem spl_take (t : Bytes) : spl t = t.takeWhile n10 :: (if tw n10 t < t.length then spl (t.drop (tw n10 t + 1)) else []) := by
  induction t with
  | nil => rfl
  | cons c r ih =>
    rw [tw_cons, List.takeWhile_cons]
    by_cases h : c.toNat = 10
    · have hn : ¬ n10 c = true := by rw [n10_iff]; simpa using h
      rw [if_neg hn, if_neg hn, if_pos (by simp)]
      conv => lhs; unfold spl
      rw [if_pos h]
      rfl
    · have hn : n10 c = true := by rw [n10_iff]; exact h
      rw [if_pos hn, if_pos hn]
      conv => lhs; unfold spl
      rw [if_neg h, ih]
      simp only [List.length_cons, Nat.add_lt_add_iff_right, List.drop_succ_cons]
theorem linesOf_nil (k : Nat) : linesOf k [] = [] := by
  cases k <;> simp [linesOf]
theorem spl_lines : ∀ (k : Nat) (t : Bytes), t.length < k → ∃ e, (e = [] ∨ e = [[]]) ∧ spl t = linesOf k t ++ e := by
  intro k
  induction k with
  | zero => intro t h; omega
  | succ k ih =>
    intro t h
    by_cases ht : t = []
    · subst ht
      exact ⟨[[]], .inr rfl, by rw [linesOf_nil]; rfl⟩
    · have hl : linesOf (k + 1) t = t.takeWhile n10 :: linesOf k (t.drop (tw n10 t + 1)) := by
        conv => lhs; unfold linesOf
        rw [if_neg ht]
        rfl
      rw [hl, spl_take]
      have hpos : 0 < t.length := List.length_pos_iff.mpr ht
      by_cases hq : tw n10 t < t.length
      · rw [if_pos hq]
        obtain ⟨e, he, h2⟩ := ih (t.drop (tw n10 t + 1)) (by rw [List.length_drop]; omega)
        exact ⟨e, he, by rw [h2]; rfl⟩
      · rw [if_neg hq]
        refine ⟨[], .inl rfl, ?_⟩
        rw [List.drop_eq_nil_of_le (by omega), linesOf_nil]
        rfl
def part (skip : Bool) (t : Bytes) : Bytes :=
  let f := tw blank t
  if f = t.length then [] else match t[f]? with
    | none => []
    | some c => if c.toNat = 37 then [] else if c.toNat = 47 then (if skip = true then [] else t.drop (f + 1)) else t
def lineOf (skip : Bool) (s : St) (t : Bytes) : Option (St × List Move) := (rd [] (part skip t)).bind fun l => Sz30.line s l
theorem parse_blanks (t : Bytes) : parse t = parse (t.drop (tw blank t)) := by
  induction t with
  | nil => rfl
  | cons c r ih =>
    rw [tw_cons]
    by_cases h : blank c = true
    · rw [if_pos h, List.drop_succ_cons, ← ih, parse_cons, if_pos (by have := (blank_iff c).mp h; omega)]
    · rw [if_neg h]
      rfl
theorem rd_line (t : Bytes) (s : St) : (rd [] t).bind (fun l => Sz30.line s l) = (parse t).bind fun l => Sz30.line s l := by
  unfold rd
  cases parse t with
  | none => rfl
  | some l =>
    simp only [Option.bind_some, List.nil_append]
    by_cases h : valid l = true
    · rw [if_pos h]
      rfl
    · rw [if_neg h, line_invalid s l h]
      rfl
theorem line_nil (s : St) (hm : mOk s.motion) : Sz30.line s [] = some (s, []) := by
  rw [line_eq s [] valid_nil hm]
  have e1 : endsM [] = false := by decide
  have e2 : settle s [] = s := rfl
  have e3 : kindM s [] = s.motion := rfl
  have e4 : own [] = false := by decide
  have e5 : axT [] = false := by decide
  have e6 : cSpecial [] = none := rfl
  have e7 : cMotion [] = none := rfl
  have e8 : side [] = [] := by decide
  have e9 : stopM [] = [] := rfl
  have es : ({ s with motion := s.motion } : St) = s := rfl
  unfold doM mainM
  rw [e2, e6, if_neg (by decide), if_neg (by decide)]
  unfold motionM
  simp only [e3, e4, e5, e7]
  rw [if_neg (by rintro ⟨q, _⟩; cases q)]
  by_cases h : 81 ≤ s.motion
  · rw [if_pos h]
    unfold holesM
    rw [if_neg (show ¬ s.motion < 81 by omega)]
    have : takeH s [] = s := rfl
    simp only [this, e5, if_true]
    simp [e8, e9, e1]
  · rw [if_neg h, if_neg (by rintro ⟨_, q | ⟨q, _⟩⟩ <;> cases q)]
    simp [e8, e9, e1]
theorem headD_drop (t : Bytes) (f : Nat) : (t.drop f).headD 0 = (t[f]?).getD 0 := by
  cases h : t[f]? with
  | none =>
    rw [List.drop_eq_nil_of_le (List.getElem?_eq_none_iff.mp h)]
    rfl
  | some c => rw [drop_cons h]; rfl
theorem u8n (b : UInt8) (n : Nat) (h : n < 256) : (b = UInt8.ofNat n) ↔ b.toNat = n := by
  have := u8_eq b n h
  rw [Bool.eq_iff_iff] at this
  simpa using this
theorem lineOf_eq (skip : Bool) (s : St) (hm : mOk s.motion) (t : Bytes) :
    lineOf skip s t = if skipped skip t = true then some (s, []) else (words (t.length + 1) (bare t)).bind fun l => Sz30.line s l := by
  unfold lineOf
  rw [rd_line]
  have hb : (t.dropWhile fun b => b == 32 || b == 9) = t.drop (tw blank t) := by
    have : (fun b : UInt8 => b == 32 || b == 9) = blank := rfl
    rw [this, dropWhile_eq]
  have hle := tw_le blank t
  have hw : words (t.length + 1) (bare t) = parse (bare t) := words_parse (by
    unfold bare
    simp only [hb]
    split
    · rw [List.length_drop, List.length_drop]; omega
    · rw [List.length_drop]; omega)
  rw [hw]
  have h37 := u8n
  unfold skipped bare part
  simp only [hb, headD_drop]
  by_cases hf : tw blank t = t.length
  · have hn : t[tw blank t]? = none := List.getElem?_eq_none_iff.mpr (by omega)
    rw [if_pos hf, hn]
    have k1 : (((none : Option UInt8).getD 0 == 37) || (skip && ((none : Option UInt8).getD 0 == 47))) = false := by cases skip <;> decide
    rw [k1, if_neg (by decide), if_neg (by decide), List.drop_eq_nil_of_le (by omega)]
  · rw [if_neg hf]
    have hlt : tw blank t < t.length := by omega
    have hs : t[tw blank t]? = some t[tw blank t] := List.getElem?_eq_getElem hlt
    rw [hs]
    generalize t[tw blank t] = c at hs
    simp only [Option.getD_some]
    have q37 : (c == 37) = decide (c.toNat = 37) := u8_eq c 37 (by decide)
    have q47 : (c == 47) = decide (c.toNat = 47) := u8_eq c 47 (by decide)
    have p47 : (c = 47) ↔ c.toNat = 47 := u8n c 47 (by decide)
    rw [q37, q47]
    by_cases c37 : c.toNat = 37
    · rw [if_pos c37, decide_eq_true c37]
      simp only [Bool.true_or, if_true, parse_nil, Option.bind_some]
      exact line_nil s hm
    · rw [if_neg c37, decide_eq_false c37, Bool.false_or]
      by_cases c47 : c.toNat = 47
      · rw [if_pos c47, decide_eq_true c47, Bool.and_true]
        cases skip with
        | true =>
          simp only [if_true, parse_nil, Option.bind_some]
          exact line_nil s hm
        | false =>
          simp only [Bool.false_eq_true, if_false]
          rw [if_pos (p47.mpr c47), List.drop_drop]
      · rw [if_neg c47, decide_eq_false c47, Bool.and_false, if_neg (by decide), if_neg (fun q => c47 (p47.mp q)), ← parse_blanks]
def big (ms : List Move) : Bool := !(ms.all fun m => m.all fun v => decide (-(2 : Int) ^ 60 < v) && decide (v < (2 : Int) ^ 60))
theorem prog_step (skip : Bool) (most i : Nat) (s : St) (t : Bytes) (r : List Bytes) (ms : List Move) (hm : mOk s.motion) (he : s.ended = false) (hl : ms.length ≤ most) :
    program skip most i s (t :: r) ms = match lineOf skip s t with
      | none => .error (-(i : Int))
      | some x => if most < ms.length + x.2.length then .error (-(i : Int) - 2000000) else if big x.2 = true then .error (-(i : Int)) else program skip most (i + 1) x.1 r (ms ++ x.2) := by
  rw [lineOf_eq skip s hm t]
  conv => lhs; unfold program
  rw [he, if_neg (by decide)]
  by_cases hs : skipped skip t = true
  · rw [if_pos hs, if_pos hs]
    simp only [List.length_nil, Nat.add_zero, List.append_nil]
    rw [if_neg (by omega), if_neg (by decide)]
  · rw [if_neg hs, if_neg hs]
    cases (words (t.length + 1) (bare t)).bind fun l => Sz30.line s l with
    | none => rfl
    | some x =>
      simp only
      unfold big
      cases (x.2.all fun m => m.all fun v => decide (-(2 : Int) ^ 60 < v) && decide (v < (2 : Int) ^ 60)) <;> rfl
theorem prog_ended (skip : Bool) (most i : Nat) (s : St) (ls : List Bytes) (ms : List Move) (he : s.ended = true) : program skip most i s ls ms = .ok (s, ms) := by
  cases ls with
  | nil => rfl
  | cons t r =>
    unfold program
    rw [he, if_pos rfl]
theorem prog_nil (skip : Bool) (most i : Nat) (s : St) (ms : List Move) : program skip most i s [] ms = .ok (s, ms) := rfl
theorem line_mOk {s : St} {l : List Word} {x : St × List Move} (hm : mOk s.motion) (h : Sz30.line s l = some x) : mOk x.1.motion := by
  by_cases hv : valid l = true
  · rw [line_eq s l hv hm] at h
    obtain ⟨y, hy, rfl⟩ := Option.map_eq_some_iff.mp h
    have : mOk y.1.motion := by
      unfold doM at hy
      obtain ⟨z, hz, rfl⟩ := Option.map_eq_some_iff.mp hy
      simp only
      have hsm := settle_motion s l
      have hk : mOk (kindM (settle s l) l) := kind_ok (by rw [hsm]; exact hm)
      have hs' : mOk (settle s l).motion := by rw [hsm]; exact hm
      generalize settle s l = u at *
      unfold mainM at hz
      split at hz
      · split at hz
        · cases hz
        · cases hz; exact hs'
      · split at hz
        · split at hz
          · cases hz
          · cases hz; exact hs'
        · unfold motionM at hz
          simp only at hz
          generalize kindM u l = k at *
          split at hz
          · cases hz
          · split at hz
            · unfold holesM at hz
              simp only at hz
              have ht : ∀ (b : Bool) (w : St), (takeH w l).motion = w.motion := fun _ w => by
                unfold takeH hole4 hole3 hole2 hole1
                repeat (first | rfl | split)
              have hb : (takeH (if u.motion < 81 then begin_ { u with motion := k } else { u with motion := k }) l).motion = k := by
                rw [ht true]
                split <;> rfl
              split at hz
              · cases hz
                exact (congrArg mOk hb).mpr hk
              · obtain ⟨q, hq, hz⟩ := Option.bind_eq_some_iff.mp hz
                obtain ⟨m, hm', hz⟩ := Option.map_eq_some_iff.mp hz
                cases hz
                exact (congrArg mOk hb).mpr hk
            · split at hz
              · unfold arcM at hz
                split at hz
                · cases hz
                · simp only at hz
                  split at hz
                  · cases hz
                  · split at hz
                    · cases hz
                    · cases hz; exact hk
              · split at hz
                · cases hz; exact hk
                · split at hz
                  · cases hz
                  · unfold lineM at hz
                    split at hz
                    · cases hz; exact hk
                    · split at hz
                      · cases hz
                      · cases hz; exact hk
    split
    · exact this
    · exact this
  · rw [line_invalid s l hv] at h
    cases h
theorem lineOf_mOk {skip : Bool} {s : St} {t : Bytes} {x : St × List Move} (hm : mOk s.motion) (h : lineOf skip s t = some x) : mOk x.1.motion := by
  unfold lineOf at h
  obtain ⟨l, _, h⟩ := Option.bind_eq_some_iff.mp h
  exact line_mOk hm h
theorem prog_empty (skip : Bool) (most : Nat) : ∀ (ls : List Bytes) (i : Nat) (s : St) (ms : List Move), mOk s.motion → ms.length ≤ most → program skip most i s (ls ++ [[]]) ms = program skip most i s ls ms
  | [], i, s, ms, hm, hl => by
    by_cases he : s.ended = true
    · rw [prog_ended _ _ _ _ _ _ he, prog_ended _ _ _ _ _ _ he]
    · have he : s.ended = false := by simpa using he
      rw [List.nil_append, prog_step skip most i s [] [] ms hm he hl, lineOf_eq skip s hm]
      have h1 : skipped skip [] = false := by cases skip <;> decide
      rw [h1, if_neg (by decide)]
      have h2 : words (([] : Bytes).length + 1) (bare []) = some [] := rfl
      rw [h2]
      simp only [Option.bind_some, line_nil s hm, List.length_nil, Nat.add_zero, List.append_nil]
      rw [if_neg (by omega), if_neg (by decide)]
      rfl
  | t :: r, i, s, ms, hm, hl => by
    by_cases he : s.ended = true
    · rw [prog_ended _ _ _ _ _ _ he, prog_ended _ _ _ _ _ _ he]
    · have he : s.ended = false := by simpa using he
      rw [List.cons_append, prog_step skip most i s t _ ms hm he hl, prog_step skip most i s t _ ms hm he hl]
      cases hq : lineOf skip s t with
      | none => rfl
      | some x =>
        simp only
        split
        · rfl
        · rename_i hlen
          split
          · rfl
          · exact prog_empty skip most r (i + 1) x.1 (ms ++ x.2) (lineOf_mOk hm hq) (by rw [List.length_append]; omega)
theorem prog_spl (skip : Bool) (most i : Nat) (s : St) (t : Bytes) (ms : List Move) (hm : mOk s.motion) (hl : ms.length ≤ most) :
    program skip most i s (linesOf (t.length + 1) t) ms = program skip most i s (spl t) ms := by
  obtain ⟨e, he, h⟩ := spl_lines (t.length + 1) t (Nat.lt_succ_self _)
  rw [h]
  rcases he with rfl | rfl
  · rw [List.append_nil]
  · rw [prog_empty skip most _ i s ms hm hl]
def tailP (x y level depth peck feed : Int) (k : Nat) (z : Int) : List Move :=
  if z = depth then [] else [straight 0 (x, y, level) 0, straight 0 (x, y, min level (z + 25000)) 0] ++ pecks x y level depth peck feed k z
theorem pecks_succ (x y level depth peck feed : Int) (k : Nat) (z : Int) :
    pecks x y level depth peck feed (k + 1) z = straight 1 (x, y, max depth (z - peck)) feed :: tailP x y level depth peck feed k (max depth (z - peck)) := by
  conv => lhs; unfold pecks
  unfold tailP
  simp only
  split <;> rfl
theorem tailP_step {x y level depth peck feed : Int} {k : Nat} {z : Int} (hz : ¬ z = depth) :
    tailP x y level depth peck feed (k + 1) z = [straight 0 (x, y, level) 0, straight 0 (x, y, min level (z + 25000)) 0, straight 1 (x, y, max depth (z - peck)) feed] ++ tailP x y level depth peck feed k (max depth (z - peck)) := by
  conv => lhs; unfold tailP
  rw [if_neg hz, pecks_succ]
  rfl
end MW
set_option maxHeartbeats 2000000
namespace MW
open Sz30
def IB (n x : Int) : Prop := -n ≤ x ∧ x ≤ n
def PB (n : Int) (p : Place) : Prop := IB n p.1 ∧ IB n p.2.1 ∧ IB n p.2.2
theorem PB.ax {n : Int} {p : Place} (h : PB n p) (k : Nat) : IB n (axis p k) := by
  unfold axis
  obtain ⟨h1, h2, h3⟩ := h
  split
  · exact h1
  · split
    · exact h2
    · exact h3
theorem IB.mono {m n x : Int} (h : IB m x) (hn : m ≤ n) : IB n x := ⟨by have := h.1; omega, by have := h.2; omega⟩
theorem IB.add {m n x y : Int} (h : IB m x) (h' : IB n y) : IB (m + n) (x + y) := ⟨by have := h.1; have := h'.1; omega, by have := h.2; have := h'.2; omega⟩
theorem IB.sub {m n x y : Int} (h : IB m x) (h' : IB n y) : IB (m + n) (x - y) := ⟨by have := h.1; have := h'.2; omega, by have := h.2; have := h'.1; omega⟩
def WB (l : List Word) : Prop := ∀ w ∈ l, IB 10000000000 w.2
structure SOk (s : St) : Prop where
  mo : mOk s.motion
  pl : s.plane = 17 ∨ s.plane = 18 ∨ s.plane = 19
  og : s.origin < 6
  ol : s.origins.length = 6
  ab : PB 1152921504606846976 s.at_
  ob : PB 4611686018427387904 s.off
  rb : ∀ p ∈ s.origins, PB 1000000000000 p
theorem get_WB {l : List Word} {c : Char} {x : Int} (h : WB l) (e : Sz30.get l c = some x) : IB 10000000000 x := by
  unfold Sz30.get at e
  obtain ⟨w, hw, rfl⟩ := Option.map_eq_some_iff.mp e
  exact h w (List.mem_of_find?_eq_some hw)
theorem get_WB0 {l : List Word} {c : Char} (h : WB l) : IB 10000000000 ((Sz30.get l c).getD 0) := by
  cases e : Sz30.get l c with
  | none => exact ⟨by decide, by decide⟩
  | some x => exact get_WB h e
theorem long_WB {s : St} {x : Int} (h : IB 10000000000 x) : IB 2540000000000 (s.long x) := by
  have h1 := h.1
  have h2 := h.2
  unfold St.long IB
  split
  · omega
  · omega
theorem getD_mem {α : Type} {l : List α} {i : Nat} {d : α} (h : i < l.length) : l.getD i d ∈ l := by
  rw [List.getD_eq_getElem?_getD, List.getElem?_eq_getElem h]
  exact List.getElem_mem h
theorem SOk.zero {s : St} (h : SOk s) (k : Nat) : IB 4611687018427387904 (s.zero k) := by
  unfold St.zero
  have h1 := (h.rb _ (getD_mem (d := (0, 0, 0)) (by rw [h.ol]; exact h.og))).ax k
  have h2 := h.ob.ax k
  exact (h1.add h2).mono (by omega)
theorem SOk.to {s : St} (h : SOk s) {l : List Word} (hl : WB l) (ow : Bool) (k : Nat) : IB 4611689558427387904 (s.to ow l k) := by
  unfold St.to
  have ha := h.ab.ax k
  have hz := h.zero k
  split
  · exact ha.mono (by omega)
  · rename_i x e
    have hx := long_WB (s := s) (get_WB hl e)
    split
    · exact hx.mono (by omega)
    · split
      · exact (ha.add hx).mono (by omega)
      · exact (hz.add hx).mono (by omega)
theorem SOk.endP {s : St} (h : SOk s) {l : List Word} (hl : WB l) : PB 4611689558427387904 (endP s l) := ⟨h.to hl _ 0, h.to hl _ 1, h.to hl _ 2⟩
theorem SOk.cen {s : St} (h : SOk s) {l : List Word} (hl : WB l) (k : Nat) : IB 1152924044606846976 (cen s l k) := by
  unfold MW.cen
  exact ((h.ab.ax k).add (long_WB (get_WB0 hl))).mono (by omega)
theorem value_lt : ∀ (u : Bytes), (∀ b ∈ u, dig b = true) → value u < 10 ^ u.length
  | [], _ => by simp [value]
  | b :: r, h => by
    have hb := (dig_iff b).mp (h b (List.mem_cons_self ..))
    have ih := value_lt r fun c hc => h c (List.mem_cons_of_mem _ hc)
    have e : value (b :: r) = (b.toNat - 48) * 10 ^ r.length + value r := by
      have : value (b :: r) = r.foldl (fun v b => 10 * v + (b.toNat - 48)) (10 * 0 + (b.toNat - 48)) := rfl
      rw [this, foldl_value]
      simp
    rw [e, List.length_cons, Nat.pow_succ]
    have : (b.toNat - 48) * 10 ^ r.length ≤ 9 * 10 ^ r.length := Nat.mul_le_mul_right _ (by omega)
    omega
theorem nVal_WB (u : Bytes) (h : ¬ nBad u) : IB 10000000000 (nVal u) := by
  have hA : nA u ≤ 6 := by unfold nBad at h; omega
  have hB : nB u ≤ 4 := by unfold nBad at h; omega
  have va := value_lt ((u.drop (sgn u)).take (nA u)) fun b hb => take_dig _ b hb
  have vb : value ((u.drop (sgn u + nA u + 1)).take (nB u)) < 10 ^ nB u := by
    by_cases hp : hasP u = true
    · have eb : tw dig (u.drop (sgn u + nA u + 1)) = nB u := by
        unfold nB
        rw [if_pos hp]
      have := value_lt ((u.drop (sgn u + nA u + 1)).take (nB u)) fun b hb => take_dig _ b (by rw [eb]; exact hb)
      have lB : ((u.drop (sgn u + nA u + 1)).take (nB u)).length = nB u := by
        rw [List.length_take, ← eb]
        exact Nat.min_eq_left (tw_le _ _)
      rw [lB] at this
      exact this
    · have eb : nB u = 0 := by
        unfold nB
        rw [if_neg hp]
      rw [eb, List.take_zero]
      exact Nat.lt_succ_self 0
  have lA : ((u.drop (sgn u)).take (nA u)).length = nA u := by
    rw [List.length_take]
    exact Nat.min_eq_left (tw_le _ _)
  rw [lA] at va
  have pa : 10 ^ nA u ≤ 10 ^ 6 := Nat.pow_le_pow_right (by decide) hA
  have key : value ((u.drop (sgn u)).take (nA u)) * 10000 + value ((u.drop (sgn u + nA u + 1)).take (nB u)) * 10 ^ (4 - nB u) ≤ 10000000000 := by
    generalize value ((u.drop (sgn u)).take (nA u)) = a at *
    generalize value ((u.drop (sgn u + nA u + 1)).take (nB u)) = b at *
    have q : nB u = 0 ∨ nB u = 1 ∨ nB u = 2 ∨ nB u = 3 ∨ nB u = 4 := by omega
    rcases q with q | q | q | q | q <;> rw [q] at vb ⊢ <;> simp at vb pa ⊢ <;> omega
  unfold nVal IB
  simp only
  generalize value ((u.drop (sgn u)).take (nA u)) * 10000 + value ((u.drop (sgn u + nA u + 1)).take (nB u)) * 10 ^ (4 - nB u) = n at *
  split <;> omega
theorem parse_WB : ∀ (n : Nat) (r : Bytes) (m : List Word), r.length ≤ n → parse r = some m → WB m := by
  intro n
  induction n with
  | zero =>
    intro r m h e
    have : r = [] := List.length_eq_zero_iff.mp (by omega)
    subst this
    rw [parse_nil] at e
    cases e
    intro w hw
    cases hw
  | succ n ih =>
    intro r m h e
    cases r with
    | nil =>
      rw [parse_nil] at e
      cases e
      intro w hw
      cases hw
    | cons c r =>
      rw [List.length_cons] at h
      rw [parse_cons] at e
      split at e
      · exact ih r m (by omega) e
      · split at e
        · cases e
          intro w hw
          cases hw
        · split at e
          · split at e
            · exact ih _ m (by rw [List.length_drop]; omega) e
            · cases e
          · split at e
            · simp only at e
              split at e
              · cases e
              · rename_i hn
                obtain ⟨m', hm', rfl⟩ := Option.map_eq_some_iff.mp e
                have := ih _ m' (by rw [List.length_drop, List.length_drop]; omega) hm'
                intro w hw
                rcases List.mem_cons.mp hw with rfl | hw
                · exact nVal_WB _ hn
                · exact this w hw
            · cases e
theorem rd_WB {r : Bytes} {m : List Word} (h : rd [] r = some m) : WB m ∧ valid m = true := by
  unfold rd at h
  obtain ⟨l, hl, h⟩ := Option.bind_eq_some_iff.mp h
  rw [List.nil_append] at h
  split at h
  · rename_i hv
    cases h
    exact ⟨parse_WB r.length r _ (Nat.le_refl _) hl, hv⟩
  · cases h
theorem SOk.settle {s : St} (h : SOk s) (l : List Word) : SOk (settle s l) := by
  obtain ⟨e1, e2, e3, e4, e5, e6, e7, e8, e9⟩ := settle_same s l
  refine ⟨by rw [settle_motion]; exact h.mo, ?_, ?_, by rw [e9]; exact h.ol, by rw [e1]; exact h.ab, by rw [e8]; exact h.ob, by rw [e9]; exact h.rb⟩
  · have : (MW.settle s l).plane = (settle2 (settle1 s l) l).plane := by
      unfold MW.settle settle5 settle4 settle3
      repeat (first | rfl | split)
    rw [this]
    have h1 : (settle1 s l).plane = s.plane := by
      unfold settle1
      split <;> rfl
    unfold settle2
    split
    · rename_i x hx
      have := chosen_mem hx
      simp only [List.mem_cons, List.not_mem_nil, or_false] at this
      rcases this with rfl | rfl | rfl
      · exact .inl rfl
      · exact .inr (.inl rfl)
      · exact .inr (.inr rfl)
    · rw [h1]; exact h.pl
  · have : (MW.settle s l).origin = (settle3 (settle2 (settle1 s l) l) l).origin := by
      unfold MW.settle settle5 settle4
      repeat (first | rfl | split)
    rw [this]
    have h1 : (settle2 (settle1 s l) l).origin = s.origin := by
      unfold settle2 settle1
      repeat (first | rfl | split)
    unfold settle3
    split
    · rename_i x hx
      have := chosen_mem hx
      simp only [List.mem_cons, List.not_mem_nil, or_false] at this
      show (x - 54).toNat < 6
      omega
    · rw [h1]; exact h.og
theorem takeH_same (w : St) (l : List Word) : (takeH w l).motion = w.motion ∧ (takeH w l).plane = w.plane ∧ (takeH w l).origin = w.origin ∧ (takeH w l).origins = w.origins ∧ (takeH w l).at_ = w.at_ ∧ (takeH w l).off = w.off ∧ (takeH w l).height = w.height ∧ (takeH w l).feed = w.feed ∧ (takeH w l).steps = w.steps := by
  unfold takeH hole4 hole3 hole2 hole1
  repeat (first | exact ⟨rfl, rfl, rfl, rfl, rfl, rfl, rfl, rfl, rfl⟩ | split)
theorem SOk.takeH {w : St} (h : SOk w) (l : List Word) : SOk (takeH w l) := by
  obtain ⟨e1, e2, e3, e4, e5, e6, _⟩ := takeH_same w l
  exact ⟨by rw [e1]; exact h.mo, by rw [e2]; exact h.pl, by rw [e3]; exact h.og, by rw [e4]; exact h.ol, by rw [e5]; exact h.ab, by rw [e6]; exact h.ob, by rw [e4]; exact h.rb⟩
theorem SOk.motion {s : St} (h : SOk s) {k : Nat} (hk : mOk k) : SOk { s with motion := k } := ⟨hk, h.pl, h.og, h.ol, h.ab, h.ob, h.rb⟩
theorem SOk.begin_ {s : St} (h : SOk s) : SOk (begin_ s) := ⟨h.mo, h.pl, h.og, h.ol, h.ab, h.ob, h.rb⟩
theorem SOk.at_ {s : St} (h : SOk s) {p : Place} (hp : PB 1152921504606846976 p) : SOk { s with at_ := p } := ⟨h.mo, h.pl, h.og, h.ol, hp, h.ob, h.rb⟩
theorem SOk.ended {s : St} (h : SOk s) (b : Bool) : SOk { s with ended := b } := ⟨h.mo, h.pl, h.og, h.ol, h.ab, h.ob, h.rb⟩
theorem big_mem {ms : List Move} (h : big ms = false) {m : Move} (hm : m ∈ ms) {v : Int} (hv : v ∈ m) : IB 1152921504606846976 v := by
  unfold big at h
  simp only [Bool.not_eq_false', List.all_eq_true, Bool.and_eq_true, decide_eq_true_eq] at h
  obtain ⟨h1, h2⟩ := h m hm v hv
  exact ⟨by omega, by omega⟩
theorem PB_of {ms : List Move} (h : big ms = false) {p : Place} (hm : ∃ m ∈ ms, p.1 ∈ m ∧ p.2.1 ∈ m ∧ p.2.2 ∈ m) : PB 1152921504606846976 p := by
  obtain ⟨m, hm, h1, h2, h3⟩ := hm
  exact ⟨big_mem h hm h1, big_mem h hm h2, big_mem h hm h3⟩
theorem straight_mem (k : Int) (p : Place) (f : Int) : p.1 ∈ straight k p f ∧ p.2.1 ∈ straight k p f ∧ p.2.2 ∈ straight k p f := by
  unfold straight
  simp
theorem SOk.doM {s : St} (h : SOk s) {l : List Word} (hl : WB l) {r : St × List Move} (e : doM s l = some r) (hb : big r.2 = false) : SOk r.1 := by
  unfold MW.doM at e
  obtain ⟨z, hz, rfl⟩ := Option.map_eq_some_iff.mp e
  simp only at hb ⊢
  have hs := h.settle l
  have hk : mOk (kindM (MW.settle s l) l) := kind_ok hs.mo
  generalize MW.settle s l = u at *
  have inM : ∀ m ∈ z.2, m ∈ side l ++ (z.2 ++ stopM l) := fun m hm => List.mem_append_right _ (List.mem_append_left _ hm)
  unfold mainM at hz
  split at hz
  · split at hz
    · cases hz
    · cases hz; exact hs
  · split at hz
    · split at hz
      · cases hz
      · cases hz
        have hoff : ∀ k, IB 4611686018427387904 (offK u l k) := fun k => by
          unfold offK
          split
          · rename_i x hx
            have h1 := hs.ab.ax k
            have h2 := (hs.rb _ (getD_mem (d := (0, 0, 0)) (by rw [hs.ol]; exact hs.og))).ax k
            have h3 := long_WB (s := u) (get_WB hl hx)
            exact ((h1.sub h2).sub h3).mono (by omega)
          · exact hs.ob.ax k
        exact ⟨hs.mo, hs.pl, hs.og, hs.ol, hs.ab, ⟨hoff 0, hoff 1, hoff 2⟩, hs.rb⟩
    · unfold motionM at hz
      simp only at hz
      have hv := hs.motion hk
      generalize kindM u l = k at *
      split at hz
      · cases hz
      · split at hz
        · unfold holesM at hz
          simp only at hz
          have hw : SOk (MW.takeH (if u.motion < 81 then MW.begin_ { u with motion := k } else { u with motion := k }) l) := by
            refine SOk.takeH ?_ l
            split
            · exact hv.begin_
            · exact hv
          split at hz
          · cases hz; exact hw
          · obtain ⟨q, hq, hz⟩ := Option.bind_eq_some_iff.mp hz
            obtain ⟨m, hm', hz⟩ := Option.map_eq_some_iff.mp hz
            cases hz
            refine hw.at_ (PB_of hb ⟨_, inM _ ?_, straight_mem 0 _ 0⟩)
            simp
        · split at hz
          · unfold arcM at hz
            split at hz
            · cases hz
            · simp only at hz
              split at hz
              · cases hz
              · split at hz
                · cases hz
                · cases hz
                  refine hv.at_ (PB_of hb ⟨_, inM _ List.mem_cons_self, ?_⟩)
                  simp
          · split at hz
            · cases hz; exact hv
            · split at hz
              · cases hz
              · unfold lineM at hz
                split at hz
                · cases hz
                  exact hv.at_ (PB_of hb ⟨_, inM _ List.mem_cons_self, straight_mem 0 _ 0⟩)
                · split at hz
                  · cases hz
                  · cases hz
                    exact hv.at_ (PB_of hb ⟨_, inM _ List.mem_cons_self, straight_mem 1 _ _⟩)
theorem SOk.fresh : SOk Sz30.fresh := by
  refine ⟨.inl rfl, .inl rfl, by decide, rfl, ?_, ?_, ?_⟩
  · exact ⟨⟨by decide, by decide⟩, ⟨by decide, by decide⟩, ⟨by decide, by decide⟩⟩
  · exact ⟨⟨by decide, by decide⟩, ⟨by decide, by decide⟩, ⟨by decide, by decide⟩⟩
  · intro p hp
    have : p = (0, 0, 0) := by
      have : p ∈ List.replicate 6 ((0, 0, 0) : Place) := hp
      exact (List.mem_replicate.mp this).2
    subst this
    exact ⟨⟨by decide, by decide⟩, ⟨by decide, by decide⟩, ⟨by decide, by decide⟩⟩
end MW
set_option maxHeartbeats 2000000
namespace MW
open Sz30
theorem row3 {b : List Int} (h : Sz30Neutral.long b 3 3 3 = true) : ∃ x y z, b = [x, y, z] := by
  unfold Sz30Neutral.long at h
  have h := of_decide_eq_true h
  rw [if_pos (by decide)] at h
  have h : b.length = 3 := by omega
  match b, h with
  | [x, y, z], _ => exact ⟨x, y, z, rfl⟩
def byteL (l : List Int) : Prop := ∀ x ∈ l, 0 ≤ x ∧ x < 256
def calls' := PyFlat.calls PySz30.shape
theorem row_eq {n : Int} {r x s : List Int} (h : PyFlat.row (n :: r) = some (x, s)) : n = (x.length : Int) ∧ r = x ++ s := by
  unfold PyFlat.row at h
  simp only at h
  split at h
  · rename_i q
    cases h
    refine ⟨?_, (List.take_append_drop _ _).symm⟩
    rw [List.length_take, Nat.min_eq_left q.2]
    omega
  · cases h
theorem calls_cases {f : Nat} {p : Int} {r : List Int} {cs : List (List (List Int))} (h : calls' f (p :: r) = some cs) (ha : ((cs.map PySz30.whole).all Sz30Neutral.asked1) = true) :
    ∃ f' cs', (cs'.map PySz30.whole).all Sz30Neutral.asked1 = true ∧ cs.length = cs'.length + 1 ∧
      ((p = 1 ∧ cs = [[1]] :: cs' ∧ calls' f' r = some cs') ∨
       (∃ k x y z t, p = 2 ∧ r = k :: 3 :: x :: y :: z :: t ∧ cs = [[2, k], [x, y, z]] :: cs' ∧ calls' f' t = some cs') ∨
       (∃ skip most txt t, p = 3 ∧ r = skip :: most :: (txt.length : Int) :: (txt ++ t) ∧ byteL txt ∧ cs = [[3, skip, most], txt] :: cs' ∧ calls' f' t = some cs') ∨
       (p = 4 ∧ cs = [[4]] :: cs' ∧ calls' f' r = some cs')) := by
  unfold calls' at h
  cases f with
  | zero => simp [PyFlat.calls] at h
  | succ f =>
    unfold PyFlat.calls at h
    cases hc : PyFlat.call PySz30.shape (p :: r) with
    | none => rw [hc] at h; cases h
    | some ct =>
      obtain ⟨c, t⟩ := ct
      rw [hc] at h
      simp only at h
      cases hr : PyFlat.calls PySz30.shape f t with
      | none => rw [hr] at h; cases h
      | some cs' =>
        rw [hr] at h
        have h := (Option.some.inj h).symm
        subst h
        simp only [List.map_cons, List.all_cons, Bool.and_eq_true] at ha
        obtain ⟨a1, a2⟩ := ha
        refine ⟨f, cs', a2, rfl, ?_⟩
        unfold PyFlat.call at hc
        simp only at hc
        unfold PySz30.shape at hc
        by_cases p1 : p = 1
        · subst p1
          left
          simp only [if_true, Nat.not_lt_zero, if_false, PyFlat.rows, List.drop_zero, List.take_zero] at hc
          cases hc
          exact ⟨rfl, rfl, hr⟩
        · rw [if_neg p1] at hc
          by_cases p2 : p = 2
          · subst p2
            right; left
            simp only [if_true] at hc
            split at hc
            · cases hc
            · rename_i hlen
              cases r with
              | nil => exact absurd (by simp) hlen
              | cons k r =>
                simp only [List.drop_succ_cons, List.drop_zero, List.take_succ_cons, List.take_zero, PyFlat.rows] at hc
                cases r with
                | nil => simp [PyFlat.row] at hc
                | cons n r =>
                  cases hrow : PyFlat.row (n :: r) with
                  | none => rw [hrow] at hc; cases hc
                  | some q =>
                    obtain ⟨x, s⟩ := q
                    rw [hrow] at hc
                    simp only at hc
                    cases hc
                    obtain ⟨e1, e2⟩ := row_eq hrow
                    simp only [PySz30.whole, Sz30Neutral.asked1, Bool.and_eq_true] at a1
                    obtain ⟨x0, y0, z0, rfl⟩ := row3 a1.2.2
                    refine ⟨k, x0, y0, z0, t, rfl, ?_, rfl, hr⟩
                    rw [e1, e2]
                    rfl
          · rw [if_neg p2] at hc
            by_cases p3 : p = 3
            · subst p3
              right; right; left
              simp only [if_true] at hc
              split at hc
              · cases hc
              · rename_i hlen
                match r, hlen with
                | [], hlen => exact absurd (by simp) hlen
                | [a], hlen => exact absurd (by simp) hlen
                | a :: b :: r, _ =>
                  simp only [List.drop_succ_cons, List.drop_zero, List.take_succ_cons, List.take_zero, PyFlat.rows] at hc
                  cases r with
                  | nil => simp [PyFlat.row] at hc
                  | cons n r =>
                    cases hrow : PyFlat.row (n :: r) with
                    | none => rw [hrow] at hc; cases hc
                    | some q =>
                      obtain ⟨x, s⟩ := q
                      rw [hrow] at hc
                      simp only at hc
                      cases hc
                      obtain ⟨e1, e2⟩ := row_eq hrow
                      simp only [PySz30.whole, Sz30Neutral.asked1, Bool.and_eq_true, List.all_eq_true] at a1
                      refine ⟨a, b, x, t, rfl, by rw [e1, e2], fun v hv => ?_, rfl, hr⟩
                      have := a1.2.2.2.1 v hv
                      unfold Sz30Neutral.natural at this
                      simp only [Bool.and_eq_true, decide_eq_true_eq] at this
                      exact ⟨this.1, by omega⟩
            · rw [if_neg p3] at hc
              by_cases p4 : p = 4
              · subst p4
                right; right; right
                simp only [if_true, Nat.not_lt_zero, if_false, PyFlat.rows, List.drop_zero, List.take_zero] at hc
                cases hc
                exact ⟨rfl, rfl, hr⟩
              · rw [if_neg p4] at hc
                cases hc
theorem octets_ints {l : List Int} (h : byteL l) : l = (Sz30Neutral.octets l).map fun b => (b.toNat : Int) := by
  unfold Sz30Neutral.octets
  rw [List.map_map]
  conv => lhs; rw [← List.map_id l]
  refine List.map_congr_left fun x hx => ?_
  obtain ⟨h1, h2⟩ := h x hx
  show x = ((UInt8.ofNat x.toNat).toNat : Int)
  have : (UInt8.ofNat x.toNat).toNat = x.toNat := by
    simp
    omega
  rw [this]
  omega
def ans (a : Ans) : List Int := a.value :: a.numbers
theorem step_clear (s : St) : Sz30Neutral.step s (PySz30.whole [[1]]) = (fresh, [0]) := rfl
theorem step_origin (s : St) (k x y z : Int) : Sz30Neutral.step s (PySz30.whole [[2, k], [x, y, z]]) = ((does s (.origin k [x, y, z])).1, ans (does s (.origin k [x, y, z])).2) := rfl
theorem step_run (s : St) (skip most : Int) (txt : List Int) : Sz30Neutral.step s (PySz30.whole [[3, skip, most], txt]) = ((does s (.run (Sz30Neutral.octets txt) (txt.length : Int) skip most)).1, ans (does s (.run (Sz30Neutral.octets txt) (txt.length : Int) skip most)).2) := rfl
theorem step_place (s : St) : Sz30Neutral.step s (PySz30.whole [[4]]) = (s, [(s.motion : Int), s.at_.1, s.at_.2.1, s.at_.2.2]) := rfl
def left (s : St) (cs : List (List (List Int))) : List Int := PyFlat.told (PyFlat.played Sz30Neutral.step s (cs.map PySz30.whole))
theorem left_nil (s : St) : left s [] = [] := rfl
theorem left_cons (s : St) (c : List (List Int)) (cs : List (List (List Int))) : left s (c :: cs) = ((Sz30Neutral.step s (PySz30.whole c)).2.length : Int) :: ((Sz30Neutral.step s (PySz30.whole c)).2 ++ left (Sz30Neutral.step s (PySz30.whole c)).1 cs) := by
  unfold left
  rw [List.map_cons]
  conv => lhs; unfold PyFlat.played
  unfold PyFlat.told
  rw [List.flatMap_cons]
  rfl
theorem asked_parts {l : List Int} (h : PySz30.answers_asked l = true) : ∃ cs, calls' l.length l = some cs ∧ (cs.map PySz30.whole).all Sz30Neutral.asked1 = true ∧ PySz30.answers l = left fresh cs ∧ (PySz30.answers l).length ≤ 10000000 ∧ cs.length ≤ 300 := by
  unfold PySz30.answers_asked PySz30.calls at h
  cases hc : PyFlat.calls PySz30.shape l.length l with
  | none => rw [hc] at h; cases h
  | some cs =>
    rw [hc] at h
    simp only [Bool.and_eq_true] at h
    obtain ⟨⟨h1, h2⟩, h3⟩ := h
    refine ⟨cs, hc, ?_, ?_, ?_, ?_⟩
    · unfold Sz30Neutral.asked at h2
      rw [Bool.and_eq_true] at h2
      exact h2.1
    · unfold PySz30.answers PySz30.calls
      rw [hc]
      rfl
    · unfold PyFlat.short at h3
      exact of_decide_eq_true h3
    · unfold PyFlat.atMost at h1
      have := of_decide_eq_true h1
      rw [List.length_map] at this
      exact this
end MW
set_option maxRecDepth 100000
set_option maxHeartbeats 1000000
namespace MV
open PySem L2
def top (i : Nat) : Stmt := PySem.Challenge.pw_millwords_s01_answers.main.body.getD i (.Pass ⟨0, 0, 0, 0⟩)
section
variable (P : Program) (w : World) (K : PySem.W.Frag) (mg : Str → Option Value) (base : Heap)
structure Fn (CX : CXT) (k : Nat) (x : Str) (ps : List Str) (sp : Sp) : Prop where
  ex : ∃ f fd, mg x = some (.ref f) ∧ PySem.W.keepIn K (.ref f) = true ∧ Binds K fd ps [] ∧ FnOk P w K mg base CX k f fd ps sp
structure Mt (CX : CXT) (k : Nat) (C : Addr) (x : Str) (ps : List Str) (sp : Sp) : Prop where
  ex : ∃ f fd, Meth K C x f ∧ Binds K fd ps [] ∧ FnOk P w K mg base CX k f fd ps sp
structure In (CX : CXT) (k : Nat) (C : Addr) (x : Str) (ps : List Str) (sp : Sp) : Prop where
  at_ : mg x = some (.ref C)
  ex : ∃ f fd, Mk K C f ∧ Binds K fd ps [] ∧ FnOk P w K mg base CX k f fd ps sp
end
structure Wr (K : PySem.W.Frag) (mg : Str → Option Value) (x : Str) (st : Stmt) : Prop where
  ex : ∃ f fd, mg x = some (.ref f) ∧ Fun K x x st f fd
structure WrM (K : PySem.W.Frag) (C : Addr) (x qual : Str) (st : Stmt) : Prop where
  ex : ∃ f fd, PySem.W.findIn K (.ref C) x = some (some (.ref f)) ∧ PySem.W.isFn K (.ref f) = true ∧ Fun K x qual st f fd
section
variable {X : Cx} {CX : CXT} {k k' : Nat} {C : Addr} {x m : Str} {ps : List Str} {sp : Sp} {E : XK} {p pos apos : Pos} {e o : Expr} {es : List Expr} {ta : TE} {t : TA}
theorem pcall (G : Fn X.prog X.w X.K X.mg X.base CX k x ps sp) (hr : Room k' X.A) (hx : Passes CX X E) (ha : PA X (e :: es) t) (hk : k ≤ k' := by decide) (hg : Gl X x := by rfl)
    (hdb : (x == ("__debug__" : Str)) = false := by decide) (he : starEach (e :: es) X.env = (false, eval e X.env) :: starEach es X.env := by rfl) (hpl : (backTo pos (starEach es X.env)).any (·.1) = false := by rfl) :
    PE X (.Call (.Name x p) (e :: es) [] pos) (tCall sp [] E t) := by
  obtain ⟨f, fd, hm, hkp, hb, F⟩ := G.ex
  exact pe_call F (hr.mono hk) hg hm hkp hb .nil hx ha hdb he hpl
theorem pcallS {E : St → XK} (G : Fn X.prog X.w X.K X.mg X.base CX k x ps sp) (hr : Room k' X.A) (hx : PassesS CX X E) (ha : PA X (e :: es) t) (hk : k ≤ k' := by decide) (hg : Gl X x := by rfl)
    (hdb : (x == ("__debug__" : Str)) = false := by decide) (he : starEach (e :: es) X.env = (false, eval e X.env) :: starEach es X.env := by rfl) (hpl : (backTo pos (starEach es X.env)).any (·.1) = false := by rfl) :
    PE X (.Call (.Name x p) (e :: es) [] pos) (tCallS sp E t) := by
  obtain ⟨f, fd, hm, hkp, hb, F⟩ := G.ex
  exact pe_callS F (hr.mono hk) hg hm hkp hb hx ha hdb he hpl
theorem pmeth {pl : Sem Bool} (he : PE X o ta) (c : Cls X.K C) (G : Mt X.prog X.w X.K X.mg X.base CX k C m ps sp) (hr : Room k' X.A) (hx : Passes CX X E) (ha : PA X (e :: es) t) (hk : k ≤ k' := by decide)
    (hst : starEach (e :: es) X.env = (false, eval e X.env) :: starEach es X.env := by rfl) (hpl : (backTo pos (starEach es X.env)).any (·.1) = false := by rfl)
    (ht : eval (.Call (.Attribute o m apos) (e :: es) [] pos) X.env = (do
      let ov ← eval o X.env
      standAt apos.atName
      let (f, first) ← holding [ov] (getMethod ov m pl)
      callWith pos f first (backTo pos (starEach (e :: es) X.env)) (backToKw pos (keywordEach [] X.env))) := by rfl) :
    PE X (.Call (.Attribute o m apos) (e :: es) [] pos) (tMeth C m sp [] E ta t) := by
  obtain ⟨f, fd, hm, hb, F⟩ := G.ex
  exact pe_meth he c hm F (hr.mono hk) hb .nil hx ha hst hpl ht
theorem pmeth0 {pl : Sem Bool} (he : PE X o ta) (c : Cls X.K C) (G : Mt X.prog X.w X.K X.mg X.base CX k C m ps sp) (hr : Room k' X.A) (hx : Passes CX X E) (hk : k ≤ k' := by decide)
    (ht : eval (.Call (.Attribute o m apos) [] [] pos) X.env = (do
      let ov ← eval o X.env
      standAt apos.atName
      let (f, first) ← holding [ov] (getMethod ov m pl)
      callWith pos f first (backTo pos (starEach [] X.env)) (backToKw pos (keywordEach [] X.env))) := by rfl) :
    PE X (.Call (.Attribute o m apos) [] [] pos) (tMeth C m sp [] E ta tNil) := by
  obtain ⟨f, fd, hm, hb, F⟩ := G.ex
  exact pe_meth0 he c hm F (hr.mono hk) hb .nil hx ht
theorem b_len : bootBuiltins "len" = some (.builtin "len") := by decide +kernel
theorem b_ord : bootBuiltins "ord" = some (.builtin "ord") := by decide +kernel
theorem b_any : bootBuiltins "any" = some (.builtin "any") := by decide +kernel
theorem b_abs : bootBuiltins "abs" = some (.builtin "abs") := by decide +kernel
theorem b_max : bootBuiltins "max" = some (.builtin "max") := by decide +kernel
theorem b_min : bootBuiltins "min" = some (.builtin "min") := by decide +kernel
theorem b_list : bootBuiltins "list" = some (.type "list") := by decide +kernel
theorem b_tuple : bootBuiltins "tuple" = some (.type "tuple") := by decide +kernel
theorem pmake0 (G : In X.prog X.w X.K X.mg X.base CX k C x ps sp) (hr : Room k' X.A) (hx : Passes CX X E) (hk : k + 1 ≤ k' := by decide) (hg : Gl X x := by rfl)
    (hdb : (x == ("__debug__" : Str)) = false := by decide) : PE X (.Call (.Name x p) [] [] pos) (tMake C sp [] E tNil) := by
  obtain ⟨f, fd, hM, hb, F⟩ := G.ex
  exact pe_make0 hM F (hr.mono hk) hg G.at_ hb .nil hx hdb
end
theorem lk_eq {f : Str} {v : V} {fs : List (Str × V)} : (putF f v fs).lookup f = some v := by rw [lookup_putF, if_pos rfl]
theorem lk_ne {f g : Str} {v u : V} {fs : List (Str × V)} (h : fs.lookup g = some u) (ne : ¬ g = f := by decide +kernel) : (putF f v fs).lookup g = some u := by rw [lookup_putF, if_neg ne]; exact h
theorem keys_same {f : Str} {v : V} : ∀ {fs : List (Str × V)}, f ∈ fs.map (·.1) → (putF f v fs).map (·.1) = fs.map (·.1)
  | [], h => by simp at h
  | (g, x) :: r, h => by
    unfold putF
    by_cases e : g = f
    · rw [if_pos e]; rfl
    · rw [if_neg e, List.map_cons, List.map_cons, keys_same]
      rcases List.mem_cons.mp h with q | q
      · exact absurd q.symm e
      · exact q
theorem keys_old {f : Str} {v : V} {fs : List (Str × V)} {ks : List Str} (h : fs.map (·.1) = ks) (m : f ∈ ks := by decide +kernel) : (putF f v fs).map (·.1) = ks := by
  rw [keys_same (by rw [h]; exact m), h]
theorem keys_new {f : Str} {v : V} : ∀ {fs : List (Str × V)} {ks : List Str}, fs.map (·.1) = ks → (f ∉ ks) → (putF f v fs).map (·.1) = ks ++ [f]
  | [], _, rfl, _ => rfl
  | (g, x) :: r, _, rfl, m => by
    unfold putF
    have e : ¬ g = f := fun e => m (by rw [← e]; exact List.mem_cons_self)
    rw [if_neg e, List.map_cons, keys_new (ks := r.map (·.1)) rfl fun q => m (List.mem_cons_of_mem _ q)]
    rfl
theorem lk_none {m : Str} : ∀ {fs : List (Str × V)} {ks : List Str}, fs.map (·.1) = ks → (m ∉ ks) → fs.lookup m = none
  | [], _, _, _ => rfl
  | (g, x) :: r, _, rfl, h => by
    have e : (m == g) = false := by
      refine beq_eq_false_iff_ne.mpr fun e => h ?_
      rw [e]
      exact List.mem_cons_self
    rw [List.lookup_cons, e]
    exact lk_none (ks := r.map (·.1)) rfl fun q => h (List.mem_cons_of_mem _ q)
theorem keys_len {fs : List (Str × V)} {ks : List Str} (h : fs.map (·.1) = ks) : fs.length = ks.length := by rw [← h, List.length_map]
def Kp (m : Addr) (H H' : Hp) : Prop := ∀ b o, H b = some o → b ≠ m → H' b = some o
theorem _root_.L2.Same.kp {H H' : Hp} (h : Same H H') (m : Addr) : Kp m H H' := fun b o e _ => h b o e
theorem Kp.refl (m : Addr) (H : Hp) : Kp m H H := fun _ _ h _ => h
theorem Kp.trans {m : Addr} {H H1 H2 : Hp} (a : Kp m H H1) (b : Kp m H1 H2) : Kp m H H2 := fun c o h n => b c o (a c o h n) n
theorem Kp.upd {m : Addr} {H H1 : Hp} {o : HO} (a : Kp m H H1) : Kp m H (L2.upd H1 m o) := fun c o h n => by rw [upd_ne n]; exact a c o h n
theorem Kp.new {m p : Addr} {H H1 : Hp} {o : HO} (a : Kp m H H1) (n : H p = none) : Kp m H (L2.upd H1 p o) := fun c o h nc => by rw [upd_ne (ne_of_none h n)]; exact a c o h nc
theorem _root_.L2.Same.new {H H1 : Hp} {p : Addr} {o : HO} (a : Same H H1) (n : H1 p = none) : Same H (L2.upd H1 p o) := fun c o h => by rw [upd_ne (ne_of_none (a c o h) n)]; exact a c o h
theorem _root_.L2.Same.upd {H H1 : Hp} {p : Addr} {o : HO} (a : Same H H1) (n : H p = none) : Same H (L2.upd H1 p o) := fun c o h => by rw [upd_ne (ne_of_none h n)]; exact a c o h
theorem _root_.L2.Same.tup {K : PySem.W.Frag} {H H' : Hp} {a : Addr} {xs : List V} (e : Same H H') (h : SqT K H a xs) : SqT K H' a xs := by
  rcases h with (h | ⟨o, h⟩) | h
  · exact .inl (.inl (e _ _ h))
  · exact .inl (.inr ⟨o, e _ _ h⟩)
  · exact .inr h
theorem cont {t u : TS} {D : Ends} {σ : L2.St} {H : Hp} (Pv : L2.St → Hp → Prop) (h2 : ∀ σ H, Pv σ H → u D σ H) (h1 : ∀ nx : L2.St → Hp → Prop, (∀ σ H, Pv σ H → nx σ H) → t { D with nx := nx } σ H) : tSeq t u D σ H := h1 _ h2
theorem asg0 {v : V} {i : Nat} {u : TS} {D : Ends} {σ : L2.St} {H : Hp} (h : u D (σ.set i (some v)) H) : tSeq (tAsg (tC v) (gName i)) u D σ H := h
theorem yes_ite {σ : L2.St} {H : Hp} {A B : Hp → Prop} (h : A H) : tYes σ H (fun b H3 => if b = true then A H3 else B H3) := iteT (A := A H) (B := B H) h
theorem iteB {c : Bool} {p A B : Prop} (h : c = true ↔ p) (h1 : p → A) (h2 : ¬ p → B) : if c = true then A else B := by
  by_cases q : c = true
  · rw [if_pos q]; exact h1 (h.mp q)
  · rw [if_neg q]; exact h2 fun z => q (h.mpr z)
theorem iteD {p A B : Prop} [Decidable p] (h1 : p → A) (h2 : ¬ p → B) : if decide p = true then A else B := iteB (by simp) h1 h2
theorem iteN {p A B : Prop} [Decidable p] (h1 : ¬ p → A) (h2 : p → B) : if (!decide p) = true then A else B := iteB (p := ¬ p) (by simp) h1 fun z => h2 (Decidable.not_not.mp z)
theorem eqI {a b : Int} : decide (V.int a = V.int b) = true ↔ a = b := by simp
theorem neI {a b : Int} : (!decide (V.int a = V.int b)) = true ↔ ¬ a = b := by simp
theorem in2 (n x y : Int) : inV (.int n) [.int x, .int y] = true ↔ n = x ∨ n = y := by
  unfold inV
  simp only [List.any_cons, List.any_nil, eqV, Bool.or_false, Bool.or_eq_true, beq_iff_eq]
  constructor <;> rintro (h | h) <;> simp [h]
theorem in3 (n x y z : Int) : inV (.int n) [.int x, .int y, .int z] = true ↔ n = x ∨ n = y ∨ n = z := by
  unfold inV
  simp only [List.any_cons, List.any_nil, eqV, Bool.or_false, Bool.or_eq_true, beq_iff_eq]
  constructor
  · rintro (h | h | h) <;> simp [h]
  · rintro (h | h | h) <;> simp [h]
theorem in2' (n x y : Int) : (if false = true then !inV (V.int n) [.int x, .int y] else inV (V.int n) [.int x, .int y]) = true ↔ n = x ∨ n = y := in2 n x y
theorem in3' (n x y z : Int) : (if false = true then !inV (V.int n) [.int x, .int y, .int z] else inV (V.int n) [.int x, .int y, .int z]) = true ↔ n = x ∨ n = y ∨ n = z := in3 n x y z
theorem for_str {x : Str} {g : TG} {tb : TS} {D : Ends} {σ : L2.St} {H : Hp} (Pv : Nat → L2.St → Hp → Prop) (h0 : Pv 0 σ H)
    (hs : ∀ i c σ H, x.cps[i]? = some c → Pv i σ H → g (.str ⟨#[c]⟩) σ H fun σ2 H2 => tb { D with nx := Pv (i + 1), ct := Pv (i + 1), bk := D.nx } σ2 H2) (hd : ∀ σ H, Pv x.cps.size σ H → D.nx σ H) :
    ∃ W : Nat → Nat → L2.St → Hp → Prop, (∃ m, W 0 m σ H) ∧ ∀ i m σ H, W i m σ H →
      ((Its x).stop i H ∧ D.nx σ H) ∨ ((Its x).go i H ∧ ∃ N : L2.St → Hp → Prop, (∀ σ' H', N σ' H' → ∃ m', m' < m ∧ W (i + 1) m' σ' H') ∧ ∀ y H', (Its x).yld i H y H' → g y σ H' fun σ2 H2 => tb { D with nx := N, ct := N, bk := D.nx } σ2 H2) := by
  refine ⟨fun i m σ H => m = x.cps.size - i ∧ i ≤ x.cps.size ∧ Pv i σ H, ⟨x.cps.size, by simp, Nat.zero_le _, h0⟩, ?_⟩
  rintro i m σ H ⟨rfl, hi, p⟩
  by_cases hlt : i < x.cps.size
  · refine .inr ⟨hlt, Pv (i + 1), fun σ' H' p' => ⟨x.cps.size - (i + 1), by omega, rfl, hlt, p'⟩, fun y H' q => ?_⟩
    obtain ⟨e, c, hc, rfl⟩ := q
    subst e
    exact hs i c σ _ hc p
  · have e : i = x.cps.size := by omega
    subst e
    exact .inl ⟨Nat.le_refl _, hd σ H p⟩
theorem lc_str {x : Str} {g : TG} {tt : TT} {te : TE} {vs : List Nat} {σ : L2.St} {H1 : Hp} {D : Addr} {Qd : Hp → Prop} (Pv : Nat → Hp → Prop) (h0 : Pv 0 (upd H1 D (.lst [])))
    (hs : ∀ i c H, x.cps[i]? = some c → Pv i H → g (.str ⟨#[c]⟩) (wipe σ vs) H fun σ2 H2 => wipe σ2 vs = wipe σ vs ∧ tt σ2 H2 fun b H3 =>
      if b = true then te σ2 H3 fun y H4 => ∃ acc, H4 D = some (.lst acc) ∧ acc.length < sizeLine ∧ Pv (i + 1) (upd H4 D (.lst (acc ++ [y]))) else Pv (i + 1) H3) (hd : ∀ H, Pv x.cps.size H → Qd H) :
    ∃ W : Nat → Nat → Hp → Prop, (∃ m, W 0 m (upd H1 D (.lst []))) ∧ ∀ i m H, W i m H →
      ((Its x).stop i H ∧ Qd H) ∨ ((Its x).go i H ∧ ∃ Nx : Hp → Prop, (∀ H', Nx H' → ∃ m', m' < m ∧ W (i + 1) m' H') ∧ ∀ y H', (Its x).yld i H y H' → g y (wipe σ vs) H' fun σ2 H2 => wipe σ2 vs = wipe σ vs ∧ tt σ2 H2 fun b H3 =>
        if b = true then te σ2 H3 fun y H4 => ∃ acc, H4 D = some (.lst acc) ∧ acc.length < sizeLine ∧ Nx (upd H4 D (.lst (acc ++ [y]))) else Nx H3) := by
  refine ⟨fun i m H => m = x.cps.size - i ∧ i ≤ x.cps.size ∧ Pv i H, ⟨x.cps.size, by simp, Nat.zero_le _, h0⟩, ?_⟩
  rintro i m H ⟨rfl, hi, p⟩
  by_cases hlt : i < x.cps.size
  · refine .inr ⟨hlt, Pv (i + 1), fun H' p' => ⟨x.cps.size - (i + 1), by omega, rfl, hlt, p'⟩, fun y H' q => ?_⟩
    obtain ⟨e, c, hc, rfl⟩ := q
    subst e
    exact hs i c _ hc p
  · have e : i = x.cps.size := by omega
    subst e
    exact .inl ⟨Nat.le_refl _, hd H p⟩
def tTupN (t : TA) : TE := fun σ H Q => t σ H fun xs H1 => xs.length ≤ sizeLine ∧ ∀ (p : Addr) (H' : Hp), H1 p = none → H' p = some (.tup xs) → Same H1 H' → Q (.ref p) H'
def tLstN (t : TA) : TE := fun σ H Q => t σ H fun xs H1 => xs.length ≤ sizeLine ∧ ∀ (p : Addr) (H' : Hp), H1 p = none → H' p = some (.lst xs) → Same H1 H' → Q (.ref p) H'
def sFldN (K : PySem.W.Frag) (ta tv : TE) (f : Str) : TS := fun D σ H => tv σ H fun y H1 => ta σ H1 fun x H2 => ∃ a C dx fs, x = .ref a ∧ H2 a = some (.ins C dx fs) ∧ Cls K C ∧ NoAttr K C f ∧ fs.length < 1000 ∧
  ∀ H' : Hp, H' a = some (.ins C dx (putF f y fs)) → Kp a H2 H' → D.nx σ H'
section
open PySem.Spec PyProof.Rows
variable {X : Cx} {es : List Expr} {t : TA} {pos pos' : Pos} {o value : Expr} {f : Str} {ta tv : TE}
theorem pe_tupN {x1} (h : PA X es t) : PE X (.Tuple es x1 pos) (tTupN t) := by
  intro pins s σ H Q I hq
  refine wpAny_Tuple_spliced (thn (h pos pins s σ H _ I hq) fun us s1 ⟨xs, H1, I1, r, z, q⟩ => ⟨by rw [← r.length]; exact z, ?_⟩)
  have hf : H1 s1.heap.objs.size = none := I1.hok.fresh (Nat.le_refl _)
  refine ⟨.ref s1.heap.objs.size, upd H1 s1.heap.objs.size (.tup xs), I1.laid (t' := s1.toks) (fun b u e => Heap.get?_push_of_some _ e) (Nat.le_refl _) ?_, rfl, q _ _ hf upd_same ((Same.refl H1).new hf)⟩
  exact ⟨z, us, r, ⟨_, Heap.get?_push_size _ rfl, rfl, _, rfl⟩⟩
theorem pe_lstN (h : PA X es t) : PE X (.List es pos) (tLstN t) := by
  intro pins s σ H Q I hq
  refine wpAny_List_spliced (thn (h pos pins s σ H _ I hq) fun us s1 ⟨xs, H1, I1, r, z, q⟩ => ⟨by rw [← r.length]; exact z, ?_⟩)
  have hf : H1 s1.heap.objs.size = none := I1.hok.fresh (Nat.le_refl _)
  refine ⟨.ref s1.heap.objs.size, upd H1 s1.heap.objs.size (.lst xs), I1.laid (t' := s1.toks) (fun b u e => Heap.get?_push_of_some _ e) (Nat.le_refl _) ?_, rfl, q _ _ hf upd_same ((Same.refl H1).new hf)⟩
  exact ⟨z, us, 0, r, Heap.get?_push_size _ rfl⟩
theorem ps_fldN (ha : PE X o ta) (hv : PE X value tv) (hs : swapsWith value (some (.Attribute o f pos')) pos.line X.env = pure false) : PS X (.Assign [.Attribute o f pos'] value pos) (sFldN X.K ta tv f) := by
  intro pins s σ H D I h
  refine plainObj_wpAny_Assign_Attribute (thn (hv pins s σ H _ I h) fun u s1 ⟨y, H1, I1, ry, q⟩ => thn (ha pins s1 σ H1 _ I1 q) fun ov s2 ⟨x, H2, I2, rx, a, C, dx, fs, ex, ea, c, n, l, q2⟩ => ?_) hs
  subst ex
  obtain rfl : ov = Value.ref a := rx
  exact setattr_ok I2 ea c n l ry fun s3 I3 => ⟨σ, _, I3, q2 _ upd_same (Kp.refl a H2).upd⟩
def rSlLN (K : PySem.W.Frag) : V → Option Int → Option Int → Hp → VK → Prop := fun x lo hi H Q => ∃ a xs, x = .ref a ∧ SqL K H a xs ∧ ∀ (p : Addr) (H' : Hp), H p = none → H' p = some (.lst (cutV xs lo hi)) → Same H H' → Q (.ref p) H'
theorem sl_listN : SlR X (rSlLN X.K) := fun pins s σ H x v vl vu lo hi sl Q I rx hs hl hh h => by
  obtain ⟨a, xs, ex, hq, q⟩ := h
  exact sl_list pins s σ H x v vl vu lo hi sl Q I rx hs hl hh ⟨a, xs, ex, hq, fun p hp => q p _ hp upd_same ((Same.refl H).new hp)⟩
theorem call_listN : CallR X (.type "list") (fun xs H Q => ∃ p ys, xs = [.ref p] ∧ (SqL X.K H p ys ∨ SqT X.K H p ys) ∧ ∀ (l : Addr) (H' : Hp), H l = none → H' l = some (.lst ys) → Same H H' → Q (.ref l) H') := fun pins s σ H xs us Q I r h => by
  obtain ⟨p, ys, ex, hq, q⟩ := h
  exact call_list_of pins s σ H xs us Q I r ⟨p, ys, ex, hq, fun l hl => q l _ hl upd_same ((Same.refl H).new hl)⟩
theorem call_tupleN : CallR X (.type "tuple") (fun xs H Q => ∃ p ys, xs = [.ref p] ∧ SqL X.K H p ys ∧ ∀ (l : Addr) (H' : Hp), H l = none → H' l = some (.tup ys) → Same H H' → Q (.ref l) H') := fun pins s σ H xs us Q I r h => by
  obtain ⟨p, ys, ex, hq, q⟩ := h
  exact call_tuple_of pins s σ H xs us Q I r ⟨p, ys, ex, .inl ⟨hq, fun l hl => q l _ hl upd_same ((Same.refl H).new hl)⟩⟩
end
def KTu (K : PySem.W.Frag) (a : Addr) (xs : List V) : Prop := ∃ (o : Obj) (its : Array Value) (n : Nat), K.lookup a = some o ∧ o.cls = .type "tuple" ∧ o.data = .seq its n ∧ its.size ≤ sizeLine ∧ Vals xs its.toList
theorem KTu.sq {K : PySem.W.Frag} {a : Addr} {xs : List V} (h : KTu K a xs) (H : Hp) : SqT K H a xs := .inr h
def gTab : List (Int × Str) := [(0, "motion"), (1, "motion"), (2, "motion"), (3, "motion"), (80, "motion"), (81, "motion"), (82, "motion"), (83, "motion"), (17, "plane"), (18, "plane"), (19, "plane"), (20, "unit"), (21, "unit"),
  (54, "origin"), (55, "origin"), (56, "origin"), (57, "origin"), (58, "origin"), (59, "origin"), (90, "way"), (91, "way"), (4, "special"), (53, "special"), (92, "special")]
def mTab : List (Int × Str) := [(6, "tool"), (3, "spindle"), (4, "spindle"), (5, "spindle"), (7, "cooling"), (8, "cooling"), (9, "cooling"), (0, "stop"), (1, "stop"), (2, "stop"), (30, "stop")]
def tabK (t : List (Int × Str)) : List (Key × V) := t.map fun p => (Sum.inl p.1, V.str p.2)
structure Tx (K : PySem.W.Frag) (mg : Str → Option Value) (C : Addr) : Prop where
  exc : Exc K mg "LineCannotBe" C
  len : mg "len" = none
  any : mg "any" = none
  max : mg "max" = none
  min : mg "min" = none
  abs : mg "abs" = none
  ord : mg "ord" = none
  list : mg "list" = none
  tuple : mg "tuple" = none
  tab : GI mg "TAB" 9
  lf : GI mg "LINE_FEED" 10
  ret : GI mg "RETURN" 13
  bl : GI mg "BLANK" 32
  pct : GI mg "PERCENT" 37
  nb : GI mg "NOTE_BEGINS" 40
  ne : GI mg "NOTE_ENDS" 41
  pl : GI mg "PLUS" 43
  mi : GI mg "MINUS" 45
  pt : GI mg "POINT" 46
  sl : GI mg "SLASH" 47
  ze : GI mg "ZERO" 48
  ni : GI mg "NINE" 57
  se : GI mg "SEMICOLON" 59
  mbf : GI mg "MOST_BEFORE_POINT" 6
  mbh : GI mg "MOST_BEHIND_POINT" 4
  one : GI mg "ONE" 10000
  let_ : GS mg "LETTERS" "GMXYZIJKRQPFSTN"
  nbz : GS mg "NEVER_BELOW_ZERO" "FSTPN"
  ax : GS mg "AXES" "XYZ"
  ce : GS mg "CENTRES" "IJK"
  mm : GI mg "MILLIMETRES" 10
  inc : GI mg "INCHES" 254
  md : GI mg "MOST_DIFFERENCE" 200
  mp : GI mg "MOST_PECKS" 1000
  alp : GI mg "ABOVE_LAST_PECK" 25000
  fo : GI mg "FIRST_ORIGIN" 54
  clear : GI mg "CLEAR" 1
  origin : GI mg "ORIGIN" 2
  run : GI mg "RUN" 3
  origins : GI mg "ORIGINS" 6
  mo : GI mg "MOST_ORIGIN" 1000000000000
  mm_ : GI mg "MOST_MOVES" 65536
  ms : GI mg "MOVE_SIZE" 1152921504606846976
  rr : GI mg "RUN_REFUSED" 4000000
  mtm : GI mg "MORE_THAN_MOST" 2000000
  holes : ∃ a, mg "HOLES" = some (.ref a) ∧ KTu K a [.int 81, .int 82, .int 83]
  arcs : ∃ a, mg "ARCS" = some (.ref a) ∧ KTu K a [.int 2, .int 3]
  gg : ∃ a, mg "G_GROUPS" = some (.ref a) ∧ KD K a (tabK gTab)
  mg_ : ∃ a, mg "M_GROUPS" = some (.ref a) ∧ KD K a (tabK mTab)
  planes : ∃ a t17 t18 t19, mg "PLANES" = some (.ref a) ∧ KD K a [(Sum.inl 17, .ref t17), (Sum.inl 18, .ref t18), (Sum.inl 19, .ref t19)] ∧
    KTu K t17 [.int 0, .int 1, .int 2] ∧ KTu K t18 [.int 2, .int 0, .int 1] ∧ KTu K t19 [.int 1, .int 2, .int 0]
open Sz30 (Bytes Word Move Place)
open MW (tw)
def bV (t : Bytes) : List V := t.map fun b => V.int (b.toNat : Int)
theorem bV_len (t : Bytes) : (bV t).length = t.length := List.length_map ..
theorem bV_get {t : Bytes} {i : Nat} {b : UInt8} (h : t[i]? = some b) : (bV t)[i]? = some (V.int (b.toNat : Int)) := by
  unfold bV
  rw [List.getElem?_map, h]
  rfl
theorem at_b {t : Bytes} {i : Nat} {b : UInt8} (h : t[i]? = some b) : atI (bV t) (i : Int) = some (V.int (b.toNat : Int)) := atI_nat (bV_get h)
theorem get_lt {t : Bytes} {i : Nat} (h : i < t.length) : ∃ b, t[i]? = some b := ⟨t[i], List.getElem?_eq_getElem h⟩
theorem bV_item {t : Bytes} {i : Nat} {y : V} (h : (bV t)[i]? = some y) : ∃ b, t[i]? = some b ∧ y = V.int (b.toNat : Int) := by
  unfold bV at h
  rw [List.getElem?_map] at h
  obtain ⟨b, hb, rfl⟩ := Option.map_eq_some_iff.mp h
  exact ⟨b, hb, rfl⟩
theorem bV_sz {t : Bytes} {n : Nat} (h : t.length ≤ n) : (bV t).length ≤ n := by rw [bV_len]; exact h
theorem cut_from (t : Bytes) (i : Nat) (h : i ≤ t.length) : cutV (bV t) (some (i : Int)) none = bV (t.drop i) := by
  unfold cutV
  rw [HT.sIx_nat, HT.sIx_none, bV_len, Nat.min_eq_left h]
  unfold bV
  rw [← List.map_drop, List.take_of_length_le (by rw [List.length_map, List.length_drop]; exact Nat.le_refl _)]
theorem cut_at (t : Bytes) (i j : Nat) (h : i ≤ j) (hj : j ≤ t.length) : cutV (bV t) (some (i : Int)) (some (j : Int)) = bV ((t.drop i).take (j - i)) := by
  unfold cutV
  rw [HT.sIx_nat, HT.sIx_nat, bV_len, Nat.min_eq_left hj, Nat.min_eq_left (Nat.le_trans h hj)]
  unfold bV
  rw [← List.map_drop, ← List.map_take]
def ch (c : Nat) : Str := ⟨#[c]⟩
end MV
set_option maxRecDepth 100000
set_option maxHeartbeats 1000000
namespace MV
open PySem L2
seal L2.PE L2.PA L2.PS L2.PSs L2.PT L2.PW L2.PC L2.PI L2.PG L2.PO
open Sz30 (Bytes Word Move Place)
open MW (tw blank dig n41 sgn nA nB hasP nEnd nBad tStep tVal)
section
variable {P : Program} {w : World} {K : PySem.W.Frag} {mg : Str → Option Value} {base : Heap} {C : Addr}
def spBlanks (K : PySem.W.Frag) : Sp := fun vs H Q _ => ∃ (a : Addr) (t : Bytes) (i : Nat), vs = [.ref a, .int (i : Int)] ∧ SqL K H a (bV t) ∧ i ≤ t.length ∧ ∀ H', Same H H' → Q (.int ((i + tw blank (t.drop i) : Nat) : Int)) H'
theorem scPB : FnScope ["line", "at"] ["line", "at"] (defScope (top 33)) := ⟨rfl, rfl, rfl, by decide +kernel, rfl, by decide +kernel, by decide +kernel⟩
theorem ok_past_blanks (F : Wr K mg "past_blanks" (top 33)) (T : Tx K mg C) : Fn P w K mg base CX0 1 "past_blanks" ["line", "at"] (spBlanks K) := by
  obtain ⟨f, fd, hm, F⟩ := F.ex
  refine ⟨f, fd, hm, F.kp, F.binds (ps := ["line", "at"]) (fun _ _ _ _ _ _ us hl => match us, hl with | [_, _], _ => rfl), ?_⟩
  refine F.ok scPB (fun vs H Q E h => ?_) (fun cdv A outer s H vs Q E hr h => ?_)
  · obtain ⟨a, t, i, rfl, _⟩ := h
    rfl
  · obtain ⟨a, t, i, rfl, hS, hi, k⟩ := h
    refine ⟨_, pss_cons (ps_while PassesOwn.never (pw_and (pt_cmpR op_lt (pv 1) (pe_callB call_len_seq (by rfl) T.len b_len (pa_cons (pv 0) pa_nil)) (nomark _))
        (pw_and1 (pt_cmpR op_in_seq (pe_ix ix_list (pv 0) (pv 1) (fun _ _ => rfl)) (pe_tup (pa_cons (pgi T.bl) (pa_cons (pgi T.tab) pa_nil))) rfl))).pt
        (pss_one (ps_aug (i := 1) scPB.nd rfl (Or.inl rfl) pe_int ip_add)))
      (pss_one (ps_ret (pv 1))), ?_⟩
    refine ⟨fun m σ H1 => ∃ j : Nat, σ = [some (.ref a), some (.int (j : Int))] ∧ m = t.length - j ∧ j ≤ t.length ∧ Same H H1 ∧ j + tw blank (t.drop j) = i + tw blank (t.drop i), ⟨_, i, rfl, rfl, hi, Same.refl H, rfl⟩, ?_⟩
    rintro m σ H1 ⟨j, rfl, rfl, hj, s1, e⟩
    refine ⟨_, rfl, _, rfl, a, _, rfl, .inl (s1.seq hS), _, _, rfl, rfl, _, rfl, ?_⟩
    refine iteD (fun hlt => ?_) (fun hge => ?_)
    · have hlt : j < t.length := by rw [bV_len] at hlt; omega
      obtain ⟨b, hb⟩ := get_lt hlt
      refine ⟨_, rfl, _, rfl, a, _, _, _, rfl, rfl, s1.seq hS, at_b hb, (by show 2 ≤ sizeLine; decide), fun p hp => ?_⟩
      refine ⟨p, _, rfl, .inr (SqT.of upd_same), rfl, rfl, _, rfl, ?_⟩
      refine iteB (p := blank b = true) ?_ (fun hbl => ?_) (fun hbl => ?_)
      · rw [in2', MW.blank_iff]
        omega
      · refine ⟨fun σ' H' => ∃ m', m' < t.length - j ∧ ∃ j : Nat, σ' = [some (.ref a), some (.int (j : Int))] ∧ m' = t.length - j ∧ j ≤ t.length ∧ Same H H' ∧ j + tw blank (t.drop j) = i + tw blank (t.drop i), fun _ _ z => z, ?_⟩
        refine ⟨_, rfl, _, _, rfl, rfl, t.length - (j + 1), by omega, j + 1, rfl, rfl, by omega, s1.new hp, ?_⟩
        rw [← MW.tw_step hb hbl]
        exact e
      · refine ⟨_, rfl, ?_⟩
        have := k _ (s1.new (o := .tup [.int 32, .int 9]) hp)
        rw [← e, MW.tw_stop hb hbl] at this
        exact this
    · refine iteF ⟨_, rfl, ?_⟩
      have := k _ s1
      rw [← e, MW.tw_end (by rw [bV_len] at hge; omega)] at this
      exact this
def spDigits (K : PySem.W.Frag) : Sp := fun vs H Q _ => ∃ (a : Addr) (t : Bytes) (i : Nat), vs = [.ref a, .int (i : Int)] ∧ SqL K H a (bV t) ∧ i ≤ t.length ∧ Q (.int ((i + tw dig (t.drop i) : Nat) : Int)) H
theorem scPD : FnScope ["line", "at"] ["line", "at"] (defScope (top 35)) := ⟨rfl, rfl, rfl, by decide +kernel, rfl, by decide +kernel, by decide +kernel⟩
theorem ok_past_digits (F : Wr K mg "past_digits" (top 35)) (T : Tx K mg C) : Fn P w K mg base CX0 1 "past_digits" ["line", "at"] (spDigits K) := by
  obtain ⟨f, fd, hm, F⟩ := F.ex
  refine ⟨f, fd, hm, F.kp, F.binds (ps := ["line", "at"]) (fun _ _ _ _ _ _ us hl => match us, hl with | [_, _], _ => rfl), ?_⟩
  refine F.ok scPD (fun vs H Q E h => ?_) (fun cdv A outer s H vs Q E hr h => ?_)
  · obtain ⟨a, t, i, rfl, _⟩ := h
    rfl
  · obtain ⟨a, t, i, rfl, hS, hi, k⟩ := h
    refine ⟨_, pss_cons (ps_while PassesOwn.never (pw_and (pt_cmpR op_lt (pv 1) (pe_callB call_len_seq (by rfl) T.len b_len (pa_cons (pv 0) pa_nil)) (nomark _))
        (pw_and1 (pt_chain op_le op_le (pgi T.ze) (pe_ix ix_list (pv 0) (pv 1) (fun _ _ => rfl)) (pgi T.ni)))).pt
        (pss_one (ps_aug (i := 1) scPD.nd rfl (Or.inl rfl) pe_int ip_add)))
      (pss_one (ps_ret (pv 1))), ?_⟩
    refine ⟨fun m σ H1 => ∃ j : Nat, σ = [some (.ref a), some (.int (j : Int))] ∧ m = t.length - j ∧ j ≤ t.length ∧ H1 = H ∧ j + tw dig (t.drop j) = i + tw dig (t.drop i), ⟨_, i, rfl, rfl, hi, rfl, rfl⟩, ?_⟩
    rintro m σ H1 ⟨j, rfl, rfl, hj, rfl, e⟩
    refine ⟨_, rfl, _, rfl, a, _, rfl, .inl hS, _, _, rfl, rfl, _, rfl, ?_⟩
    refine iteD (fun hlt => ?_) (fun hge => ?_)
    · have hlt : j < t.length := by rw [bV_len] at hlt; omega
      obtain ⟨b, hb⟩ := get_lt hlt
      have stop : ¬ dig b = true → tRet (tVar 1) { nx := fun _ H' => Q .non H', rt := Q } [some (.ref a), some (.int (j : Int))] H1 := fun hbl => by
        refine ⟨_, rfl, ?_⟩
        have := k
        rw [← e, MW.tw_stop hb hbl] at this
        exact this
      refine ⟨_, rfl, _, rfl, a, _, _, _, rfl, rfl, hS, at_b hb, _, _, rfl, rfl, _, rfl, ?_⟩
      refine iteD (fun h48 => ?_) (fun h48 => ?_)
      · refine ⟨_, _, rfl, rfl, _, rfl, ?_⟩
        refine iteD (fun h57 => ?_) (fun h57 => ?_)
        · have hd : dig b = true := by rw [MW.dig_iff]; omega
          refine ⟨fun σ' H' => ∃ m', m' < t.length - j ∧ ∃ j : Nat, σ' = [some (.ref a), some (.int (j : Int))] ∧ m' = t.length - j ∧ j ≤ t.length ∧ H' = H1 ∧ j + tw dig (t.drop j) = i + tw dig (t.drop i), fun _ _ z => z, ?_⟩
          refine ⟨_, rfl, _, _, rfl, rfl, t.length - (j + 1), by omega, j + 1, rfl, rfl, by omega, rfl, ?_⟩
          rw [← MW.tw_step hb hd]
          exact e
        · exact stop (by rw [MW.dig_iff]; omega)
      · exact ⟨_, rfl, iteF (stop (by rw [MW.dig_iff]; omega))⟩
    · refine iteF ⟨_, rfl, ?_⟩
      have := k
      rw [← e, MW.tw_end (by rw [bV_len] at hge; omega)] at this
      exact this
def spNote (K : PySem.W.Frag) (C : Addr) : Sp := fun vs H Q E => ∃ (a : Addr) (t : Bytes) (i : Nat), vs = [.ref a, .int (i : Int)] ∧ SqL K H a (bV t) ∧ i ≤ t.length ∧
  (i + tw n41 (t.drop i) < t.length → Q (.int ((i + tw n41 (t.drop i) + 1 : Nat) : Int)) H) ∧ (¬ i + tw n41 (t.drop i) < t.length → E (.ref C) none H)
theorem n41_iff (b : UInt8) : n41 b = true ↔ ¬ b.toNat = 41 := by
  unfold n41
  have h := MW.u8_eq b 41 (by decide)
  have e : (UInt8.ofNat 41) = 41 := rfl
  rw [e] at h
  rw [bne, h]
  simp
theorem scPN : FnScope ["line", "at"] ["line", "at"] (defScope (top 34)) := ⟨rfl, rfl, rfl, by decide +kernel, rfl, by decide +kernel, by decide +kernel⟩
theorem ok_past_note (F : Wr K mg "past_note" (top 34)) (T : Tx K mg C) : Fn P w K mg base (CXE P w C) 1 "past_note" ["line", "at"] (spNote K C) := by
  obtain ⟨f, fd, hm, F⟩ := F.ex
  refine ⟨f, fd, hm, F.kp, F.binds (ps := ["line", "at"]) (fun _ _ _ _ _ _ us hl => match us, hl with | [_, _], _ => rfl), ?_⟩
  refine F.okE scPN (fun vs H Q E h => ?_) (fun cdv A outer s H vs Q E hr h => ?_)
  · obtain ⟨a, t, i, rfl, _⟩ := h
    rfl
  · obtain ⟨a, t, i, rfl, hS, hi, k, kE⟩ := h
    refine ⟨_, pss_cons (ps_while PassesOwn.leaving (pt_cmpR op_lt (pv 1) (pe_callB call_len_seq (by rfl) T.len b_len (pa_cons (pv 0) pa_nil)) (nomark _))
        (pss_cons (ps_if (pt_cmpR op_eq (pe_ix ix_list (pv 0) (pv 1) (fun _ _ => rfl)) (pgi T.ne) (nomark _)) (pss_one (ps_ret (pe_op op_add (pv 1) pe_int))) pss_nil)
        (pss_one (ps_aug (i := 1) scPN.nd rfl (Or.inl rfl) pe_int ip_add))))
      (pss_one (ps_raise T.exc rfl raiseE rfl (pa_cons pe_str pa_nil))), ?_⟩
    refine ⟨fun m σ H1 => ∃ j : Nat, σ = [some (.ref a), some (.int (j : Int))] ∧ m = t.length - j ∧ j ≤ t.length ∧ H1 = H ∧ j + tw n41 (t.drop j) = i + tw n41 (t.drop i), ⟨_, i, rfl, rfl, hi, rfl, rfl⟩, ?_⟩
    rintro m σ H1 ⟨j, rfl, rfl, hj, rfl, e⟩
    refine ⟨_, rfl, _, rfl, a, _, rfl, .inl hS, _, _, rfl, rfl, _, rfl, ?_⟩
    refine iteD (fun hlt => ?_) (fun hge => ?_)
    · have hlt : j < t.length := by rw [bV_len] at hlt; omega
      obtain ⟨b, hb⟩ := get_lt hlt
      refine ⟨fun σ' H' => ∃ m', m' < t.length - j ∧ ∃ j : Nat, σ' = [some (.ref a), some (.int (j : Int))] ∧ m' = t.length - j ∧ j ≤ t.length ∧ H' = H1 ∧ j + tw n41 (t.drop j) = i + tw n41 (t.drop i), fun _ _ z => z, ?_⟩
      refine ⟨_, rfl, _, rfl, a, _, _, _, rfl, rfl, hS, at_b hb, rfl, _, rfl, ?_⟩
      refine iteB (p := b.toNat = 41) (by rw [eqI]; omega) (fun h41 => ?_) (fun h41 => ?_)
      · have hn : ¬ n41 b = true := by rw [n41_iff]; omega
        rw [MW.tw_stop hb hn] at e
        refine ⟨_, rfl, _, _, rfl, rfl, ?_⟩
        have := k (by omega)
        rw [← e] at this
        exact this
      · have hn : n41 b = true := by rw [n41_iff]; omega
        refine ⟨_, rfl, _, _, rfl, rfl, t.length - (j + 1), by omega, j + 1, rfl, rfl, by omega, rfl, ?_⟩
        rw [← MW.tw_step hb hn]
        exact e
    · rw [bV_len] at hge
      rw [MW.tw_end (by omega)] at e
      exact ⟨by show 1 ≤ sizeLine; decide, kE (by omega)⟩
def spNumber (K : PySem.W.Frag) (C : Addr) : Sp := fun vs H Q E => ∃ (a : Addr) (t : Bytes) (i : Nat), vs = [.ref a, .int (i : Int)] ∧ SqL K H a (bV t) ∧ i ≤ t.length ∧
  (¬ nBad (t.drop i) → ∀ H', Same H H' → Q (.int ((i + nEnd (t.drop i) : Nat) : Int)) H') ∧ (nBad (t.drop i) → ∀ H', Same H H' → E (.ref C) none H')
theorem head_drop (t : Bytes) (i : Nat) : (t.drop i).headD 0 = (t[i]?).getD 0 := MW.headD_drop t i
theorem scPNu : FnScope ["line", "at", "end", "before", "behind", "first"] ["line", "at"] (defScope (top 36)) := ⟨rfl, rfl, rfl, by decide +kernel, rfl, by decide +kernel, by decide +kernel⟩
theorem ok_past_number (F : Wr K mg "past_number" (top 36)) (T : Tx K mg C) (GD : Fn P w K mg base CX0 1 "past_digits" ["line", "at"] (spDigits K)) : Fn P w K mg base (CXE P w C) 2 "past_number" ["line", "at"] (spNumber K C) := by
  obtain ⟨f, fd, hm, F⟩ := F.ex
  refine ⟨f, fd, hm, F.kp, F.binds (ps := ["line", "at"]) (fun _ _ _ _ _ _ us hl => match us, hl with | [_, _], _ => rfl), ?_⟩
  refine F.okE scPNu (fun vs H Q E h => ?_) (fun cdv A outer s H vs Q E hr h => ?_)
  · obtain ⟨a, t, i, rfl, _⟩ := h
    rfl
  · obtain ⟨a, t, i, rfl, hS, hi, k, kE⟩ := h
    refine ⟨_, pss_cons (ps_if (pw_and (pt_cmpR op_lt (pv 1) (pe_callB call_len_seq (by rfl) T.len b_len (pa_cons (pv 0) pa_nil)) (nomark _))
          (pw_and1 (pt_cmpR op_in_seq (pe_ix ix_list (pv 0) (pv 1) (fun _ _ => rfl)) (pe_tup (pa_cons (pgi T.pl) (pa_cons (pgi T.mi) pa_nil))) rfl))).pt
          (pss_one (ps_aug (i := 1) scPNu.nd rfl (Or.inl rfl) pe_int ip_add)) pss_nil)
      (pss_cons (ps_set (i := 2) scPNu.nd rfl (Or.inl rfl) (pcall GD hr pass0 (pa_cons (pv 0) (pa_cons (pv 1) pa_nil))))
      (pss_cons (ps_set (i := 3) scPNu.nd rfl (Or.inl rfl) (pe_op op_sub (pv 2) (pv 1)))
      (pss_cons (ps_set (i := 4) scPNu.nd rfl (Or.inl rfl) pe_int)
      (pss_cons (ps_if (pw_and (pt_cmpR op_lt (pv 2) (pe_callB call_len_seq (by rfl) T.len b_len (pa_cons (pv 0) pa_nil)) (nomark _))
          (pw_and1 (pt_cmpR op_eq (pe_ix ix_list (pv 0) (pv 2) (fun _ _ => rfl)) (pgi T.pt) (nomark _)))).pt
          (pss_cons (ps_set (i := 5) scPNu.nd rfl (Or.inl rfl) (pe_op op_add (pv 2) pe_int))
          (pss_cons (ps_set (i := 2) scPNu.nd rfl (Or.inl rfl) (pcall GD hr pass0 (pa_cons (pv 0) (pa_cons (pv 5) pa_nil))))
          (pss_one (ps_set (i := 4) scPNu.nd rfl (Or.inl rfl) (pe_op op_sub (pv 2) (pv 5)))))) pss_nil)
      (pss_cons (ps_if (pw_or (pt_cmpR op_gt (pv 3) (pgi T.mbf) (nomark _)) (pw_or (pt_cmpR op_gt (pv 4) (pgi T.mbh) (nomark _)) (pw_or1 (pt_cmpR op_eq (pe_op op_add (pv 3) (pv 4)) pe_int (nomark _))))).pt
          (pss_one (ps_raise T.exc rfl raiseE rfl (pa_cons pe_str pa_nil))) pss_nil)
      (pss_one (ps_ret (pv 2)))))))), ?_⟩
    generalize hu : t.drop i = u at *
    have hget : ∀ j, u[j]? = t[i + j]? := fun j => by rw [← hu, List.getElem?_drop]
    have hdrop : ∀ j, u.drop j = t.drop (i + j) := fun j => by rw [← hu, List.drop_drop]
    have hul : u.length = t.length - i := by rw [← hu, List.length_drop]
    refine cont (Pv := fun σ H1 => σ = [some (.ref a), some (.int ((i + sgn u : Nat) : Int)), none, none, none, none] ∧ i + sgn u ≤ t.length ∧ Same H H1) ?_ ?_
    rotate_left
    · intro nx hnx
      refine ⟨_, rfl, _, rfl, a, _, rfl, .inl hS, _, _, rfl, rfl, _, rfl, ?_⟩
      refine iteD (fun hlt => ?_) (fun hge => ?_)
      · have hlt : i < t.length := by rw [bV_len] at hlt; omega
        obtain ⟨b, hb⟩ := get_lt hlt
        have hh : u.headD 0 = b := by rw [← hu, head_drop, hb]; rfl
        refine ⟨_, rfl, _, rfl, a, _, _, _, rfl, rfl, hS, at_b hb, (by show 2 ≤ sizeLine; decide), fun p hp => ?_⟩
        refine ⟨p, _, rfl, .inr (SqT.of upd_same), rfl, rfl, _, rfl, ?_⟩
        refine iteB (p := b.toNat = 43 ∨ b.toNat = 45) (by rw [in2']; omega) (fun hs => ?_) (fun hs => ?_)
        · have e : sgn u = 1 := by unfold sgn; rw [hh, if_pos hs]
          refine ⟨_, rfl, _, _, rfl, rfl, hnx _ _ ⟨?_, by omega, (Same.refl H).new hp⟩⟩
          rw [e]
          rfl
        · have e : sgn u = 0 := by unfold sgn; rw [hh, if_neg hs]
          refine hnx _ _ ⟨?_, by omega, (Same.refl H).new hp⟩
          rw [e]
          rfl
      · have e : sgn u = 0 := by
          rw [bV_len] at hge
          unfold sgn
          have : u = [] := List.length_eq_zero_iff.mp (by omega)
          rw [this, if_neg (by decide)]
        refine iteF (hnx _ _ ⟨?_, by omega, Same.refl H⟩)
        rw [e]
        rfl
    rintro σ H1 ⟨rfl, hle, s1⟩
    have eA : tw dig (t.drop (i + sgn u)) = nA u := by unfold nA; rw [hdrop]
    have hA : i + sgn u + nA u ≤ t.length := by
      have := MW.tw_le dig (t.drop (i + sgn u))
      rw [List.length_drop, eA] at this
      omega
    refine ⟨_, rfl, _, rfl, a, t, i + sgn u, rfl, s1.seq hS, hle, ?_⟩
    rw [eA]
    refine ⟨_, rfl, _, rfl, _, _, rfl, rfl, ?_⟩
    have ebf : (((i + sgn u + nA u : Nat) : Int) - ((i + sgn u : Nat) : Int)) = (nA u : Int) := by omega
    dsimp only [gName]
    rw [ebf]
    refine asg0 ?_
    refine cont (Pv := fun σ H1 => (∃ v, σ = [some (.ref a), some (.int ((i + sgn u : Nat) : Int)), some (.int ((i + nEnd u : Nat) : Int)), some (.int (nA u : Int)), some (.int (nB u : Int)), v]) ∧ Same H H1) ?_ ?_
    rotate_left
    · intro nx hnx
      refine ⟨_, rfl, _, rfl, a, _, rfl, .inl (s1.seq hS), _, _, rfl, rfl, _, rfl, ?_⟩
      have nP : ¬ hasP u = true → nx [some (.ref a), some (.int ((i + sgn u : Nat) : Int)), some (.int ((i + sgn u + nA u : Nat) : Int)), some (.int (nA u : Int)), some (.int 0), none] H1 := fun hp => by
        refine hnx _ _ ⟨⟨none, ?_⟩, s1⟩
        have e1 : nEnd u = sgn u + nA u := by unfold nEnd; rw [if_neg hp]
        have e2 : nB u = 0 := by unfold nB; rw [if_neg hp]
        rw [e1, e2, Nat.add_assoc]
        rfl
      refine iteD (fun hlt => ?_) (fun hge => ?_)
      · have hlt : i + sgn u + nA u < t.length := by rw [bV_len] at hlt; omega
        obtain ⟨b, hb⟩ := get_lt hlt
        have hh : (u.drop (sgn u + nA u)).headD 0 = b := by rw [hdrop, head_drop, ← Nat.add_assoc, hb]; rfl
        refine ⟨_, rfl, _, rfl, a, _, _, _, rfl, rfl, s1.seq hS, at_b hb, rfl, _, rfl, ?_⟩
        refine iteB (p := b.toNat = 46) (by rw [eqI]; omega) (fun h46 => ?_) (fun h46 => ?_)
        · have hp : hasP u = true := by unfold hasP; rw [hh]; exact decide_eq_true h46
          have eB : tw dig (t.drop (i + sgn u + nA u + 1)) = nB u := by
            unfold nB
            rw [if_pos hp, hdrop]
            congr 2
            omega
          refine ⟨_, rfl, _, _, rfl, rfl, _, rfl, _, rfl, a, t, i + sgn u + nA u + 1, rfl, s1.seq hS, by omega, ?_⟩
          rw [eB]
          refine ⟨_, rfl, _, rfl, _, _, rfl, rfl, hnx _ _ ⟨⟨some (.int (((i + sgn u + nA u : Nat) : Int) + 1)), ?_⟩, s1⟩⟩
          have e1 : i + nEnd u = i + sgn u + nA u + 1 + nB u := by unfold nEnd; rw [if_pos hp]; omega
          have e2 : (((i + sgn u + nA u + 1 + nB u : Nat) : Int) - ((i + sgn u + nA u : Nat) + 1 : Int)) = (nB u : Int) := by omega
          rw [e1, ← e2]
          rfl
        · exact nP (by unfold hasP; rw [hh]; simpa using h46)
      · rw [bV_len] at hge
        refine iteF (nP ?_)
        unfold hasP
        rw [hdrop, List.drop_eq_nil_of_le (by omega)]
        decide
    rintro σ H2 ⟨⟨v, rfl⟩, s2⟩
    have bad : nBad u → E (.ref C) none H2 := fun h => kE h H2 s2
    refine cont (Pv := fun σ' H' => ¬ nBad u ∧ σ' = [some (.ref a), some (.int ((i + sgn u : Nat) : Int)), some (.int ((i + nEnd u : Nat) : Int)), some (.int (nA u : Int)), some (.int (nB u : Int)), v] ∧ H' = H2) ?_ ?_
    · rintro σ' H' ⟨hn, rfl, rfl⟩
      exact ⟨_, rfl, k hn _ s2⟩
    · intro nx hnx
      have rs : nBad u → 1 ≤ sizeLine ∧ E (.ref C) none H2 := fun h => ⟨by decide, bad h⟩
      refine ⟨_, rfl, _, _, rfl, rfl, _, rfl, iteD (fun h6 => iteT (rs (by unfold nBad; omega))) (fun h6 => ?_)⟩
      refine ⟨_, rfl, _, _, rfl, rfl, _, rfl, iteD (fun h4 => iteT (rs (by unfold nBad; omega))) (fun h4 => ?_)⟩
      refine ⟨_, rfl, _, rfl, _, _, rfl, rfl, rfl, _, rfl, ?_⟩
      refine iteB (p := nA u + nB u = 0) (by rw [eqI]; omega) (fun h0 => rs (by unfold nBad; omega)) (fun h0 => ?_)
      exact hnx _ _ ⟨by unfold nBad; omega, rfl, rfl⟩
def spTen (K : PySem.W.Frag) : Sp := fun vs H Q _ => ∃ (a : Addr) (u : Bytes), vs = [.ref a] ∧ SqL K H a (bV u) ∧ u ≠ [] ∧ Q (.int (tVal u)) H
theorem tStep_unit (u : Bytes) : ∀ (s : Int × Int × Bool), 0 ≤ s.2.1 ∧ s.2.1 ≤ 10000 → 0 ≤ (u.foldl tStep s).2.1 ∧ (u.foldl tStep s).2.1 ≤ 10000 := by
  induction u with
  | nil => intro s h; exact h
  | cons b r ih =>
    intro s h
    rw [List.foldl_cons]
    refine ih _ ?_
    unfold tStep
    split
    · exact h
    · split
      · simp only
        split
        · omega
        · exact h
      · exact h
theorem fold_step {u : Bytes} {i : Nat} {b : UInt8} (h : u[i]? = some b) (s : Int × Int × Bool) : (u.take (i + 1)).foldl tStep s = tStep ((u.take i).foldl tStep s) b := by
  obtain ⟨h1, h2⟩ := List.getElem?_eq_some_iff.mp h
  rw [List.take_add_one, h, Option.toList_some, List.foldl_append]
  rfl
theorem scTT : FnScope ["number", "value", "unit", "behind_point", "byte"] ["number"] (defScope (top 37)) := ⟨rfl, rfl, rfl, by decide +kernel, rfl, by decide +kernel, by decide +kernel⟩
theorem ok_ten (F : Wr K mg "ten_thousandths" (top 37)) (T : Tx K mg C) : Fn P w K mg base CX0 1 "ten_thousandths" ["number"] (spTen K) := by
  obtain ⟨f, fd, hm, F⟩ := F.ex
  refine ⟨f, fd, hm, F.kp, F.binds (ps := ["number"]) (fun _ _ _ _ _ _ us hl => match us, hl with | [_], _ => rfl), ?_⟩
  refine F.ok scTT (fun vs H Q E h => ?_) (fun cdv A outer s H vs Q E hr h => ?_)
  · obtain ⟨a, u, rfl, _⟩ := h
    rfl
  · obtain ⟨a, u, rfl, hS, hne, k⟩ := h
    refine ⟨_, pss_cons (ps_set (i := 1) scTT.nd rfl (Or.inl rfl) pe_int) (pss_cons (ps_set (i := 2) scTT.nd rfl (Or.inl rfl) (pgi T.one)) (pss_cons (ps_set (i := 3) scTT.nd rfl (Or.inl rfl) pe_bl)
      (pss_cons (ps_for PassesOwn.never rfl (pi_list (pv 0)) (pg_name (i := 4) scTT.nd rfl (Or.inl rfl))
        (pss_one (ps_if (pt_cmpR op_eq (pv 4) (pgi T.pt) (nomark _)) (pss_one (ps_set (i := 3) scTT.nd rfl (Or.inl rfl) pe_bl))
          (pss_one (ps_if (pt_chain op_le op_le (pgi T.ze) (pv 4) (pgi T.ni))
            (pss_cons (ps_set (i := 1) scTT.nd rfl (Or.inl rfl) (pe_op op_sub (pe_op op_add (pe_op op_mul (pv 1) pe_int) (pv 4)) (pgi T.ze)))
              (pss_one (ps_if (pt_val (pv 3)) (pss_one (ps_set (i := 2) scTT.nd rfl (Or.inl rfl) (pe_op op_fdiv (pv 2) pe_int))) pss_nil))) pss_nil)))))
      (pss_cons (ps_if (pt_cmpR op_eq (pe_ix ix_list (pv 0) pe_int (fun _ _ => rfl)) (pgi T.mi) (nomark _)) (pss_one (ps_set (i := 1) scTT.nd rfl (Or.inl rfl) (pe_un un_neg (pv 1)))) pss_nil)
      (pss_one (ps_ret (pe_op op_mul (pv 1) (pv 2)))))))), ?_⟩
    refine ⟨_, rfl, a, rfl, ⟨_, hS⟩, for_list (K := K) (a := a) (xs := bV u) (fun i σ H2 => ∃ v : Option V, σ = [some (.ref a), some (.int ((u.take i).foldl tStep (0, 10000, false)).1), some (.int ((u.take i).foldl tStep (0, 10000, false)).2.1), some (.bl ((u.take i).foldl tStep (0, 10000, false)).2.2), v] ∧ H2 = H)
      ⟨none, rfl, rfl⟩ (fun i σ H2 _ ⟨_, _, e⟩ => by rw [e]; exact hS) ?_ ?_⟩
    · rintro i y σ H2 hi ⟨v, rfl, rfl⟩
      obtain ⟨b, hb, rfl⟩ := bV_item hi
      have fs := fold_step hb (0, 10000, false)
      have ub := tStep_unit (u.take i) (0, 10000, false) ⟨by decide, by decide⟩
      generalize (u.take i).foldl tStep (0, 10000, false) = q at *
      obtain ⟨q1, q2, q3⟩ := q
      simp only at ub
      refine ⟨_, rfl, rfl, _, rfl, ?_⟩
      refine iteB (p := b.toNat = 46) (by rw [eqI]; omega) (fun h46 => ?_) (fun h46 => ?_)
      · refine ⟨some (.int (b.toNat : Int)), ?_, rfl⟩
        rw [fs]
        unfold tStep
        rw [if_pos h46]
        rfl
      · have no : ¬ dig b = true → ∃ v : Option V, [some (V.ref a), some (.int q1), some (.int q2), some (.bl q3), some (.int (b.toNat : Int))] = [some (V.ref a), some (.int ((u.take (i + 1)).foldl tStep (0, 10000, false)).1), some (.int ((u.take (i + 1)).foldl tStep (0, 10000, false)).2.1), some (.bl ((u.take (i + 1)).foldl tStep (0, 10000, false)).2.2), v] ∧ H2 = H2 := fun hd => by
          refine ⟨some (.int (b.toNat : Int)), ?_, rfl⟩
          rw [fs]
          unfold tStep
          rw [if_neg h46, if_neg hd]
        refine ⟨_, rfl, _, _, rfl, rfl, _, rfl, ?_⟩
        refine iteD (fun h48 => ?_) (fun h48 => ⟨_, rfl, iteF (no (by rw [MW.dig_iff]; omega))⟩)
        refine ⟨_, _, rfl, rfl, _, rfl, ?_⟩
        refine iteD (fun h57 => ?_) (fun h57 => no (by rw [MW.dig_iff]; omega))
        have hd : dig b = true := by rw [MW.dig_iff]; omega
        refine ⟨_, rfl, _, _, rfl, rfl, .inr ⟨by decide, by decide⟩, _, rfl, _, _, rfl, rfl, _, _, rfl, rfl, ?_⟩
        refine ⟨_, rfl, _, rfl, ?_⟩
        cases q3 with
        | true =>
          refine iteT ⟨_, rfl, _, _, rfl, rfl, ⟨by decide, by decide⟩, some (.int (b.toNat : Int)), ?_, rfl⟩
          rw [fs]
          unfold tStep
          rw [if_neg h46, if_pos hd]
          rfl
        | false =>
          refine iteF ⟨some (.int (b.toNat : Int)), ?_, rfl⟩
          rw [fs]
          unfold tStep
          rw [if_neg h46, if_pos hd]
          rfl
    · rintro σ H2 ⟨v, rfl, rfl⟩
      rw [bV_len, List.take_length]
      have ub := tStep_unit u (0, 10000, false) ⟨by decide, by decide⟩
      obtain ⟨b, hb⟩ : ∃ b, u[0]? = some b := get_lt (by cases u with | nil => exact absurd rfl hne | cons _ _ => simp)
      have hh : u.headD 0 = b := by
        cases u with
        | nil => exact absurd rfl hne
        | cons c r => exact Option.some.inj hb
      have ev : tVal u = (if b.toNat = 45 then -(u.foldl tStep (0, 10000, false)).1 else (u.foldl tStep (0, 10000, false)).1) * (u.foldl tStep (0, 10000, false)).2.1 := by
        unfold tVal
        rw [hh]
      rw [ev] at k
      generalize u.foldl tStep (0, 10000, false) = q at *
      obtain ⟨q1, q2, q3⟩ := q
      simp only at ub k
      refine ⟨_, rfl, a, _, _, _, rfl, rfl, hS, at_b (i := 0) hb, rfl, _, rfl, ?_⟩
      refine iteB (p := b.toNat = 45) (by rw [eqI]; omega) (fun h45 => ?_) (fun h45 => ?_)
      · rw [if_pos h45] at k
        exact ⟨_, rfl, _, rfl, _, rfl, _, rfl, _, _, rfl, rfl, .inr ⟨by show -(2 ^ 64) < q2; omega, by show q2 < 2 ^ 64; omega⟩, k⟩
      · rw [if_neg h45] at k
        exact ⟨_, rfl, _, rfl, _, _, rfl, rfl, .inr ⟨by show -(2 ^ 64) < q2; omega, by show q2 < 2 ^ 64; omega⟩, k⟩
def lets : List Nat := [71, 77, 88, 89, 90, 73, 74, 75, 82, 81, 80, 70, 83, 84, 78]
theorem lets_eq : ("GMXYZIJKRQPFSTN" : Str).cps.toList = lets := by decide +kernel
theorem lets_low : ∀ c ∈ lets, Txt.lower ⟨#[c]⟩ = ⟨#[c + 32]⟩ := by decide +kernel
theorem lets_rng : ∀ c ∈ lets, 65 ≤ c ∧ c ≤ 90 := by decide +kernel
theorem inL_lets (c : Nat) : MW.inL c = true ↔ c ∈ lets := by
  rw [MW.inL_iff]
  unfold lets
  simp
theorem up_iff {n c : Nat} (h : 65 ≤ c ∧ c ≤ 90) : Sz30.upper n = c ↔ n = c ∨ n = c + 32 := by
  unfold Sz30.upper
  split <;> omega
def spLetter (C : Addr) : Sp := fun vs H Q E => ∃ n : Nat, vs = [.int (n : Int)] ∧ (MW.inL (Sz30.upper n) = true → Q (.str (ch (Sz30.upper n))) H) ∧ (¬ MW.inL (Sz30.upper n) = true → E (.ref C) none H)
theorem scLO : FnScope ["byte", "letter"] ["byte"] (defScope (top 32)) := ⟨rfl, rfl, rfl, by decide +kernel, rfl, by decide +kernel, by decide +kernel⟩
theorem ok_letter_of (F : Wr K mg "letter_of" (top 32)) (T : Tx K mg C) : Fn P w K mg base (CXE P w C) 1 "letter_of" ["byte"] (spLetter C) := by
  obtain ⟨f, fd, hm, F⟩ := F.ex
  refine ⟨f, fd, hm, F.kp, F.binds (ps := ["byte"]) (fun _ _ _ _ _ _ us hl => match us, hl with | [_], _ => rfl), ?_⟩
  refine F.okE scLO (fun vs H Q E h => ?_) (fun cdv A outer s H vs Q E hr h => ?_)
  · obtain ⟨n, rfl, _⟩ := h
    rfl
  · obtain ⟨n, rfl, k, kE⟩ := h
    refine ⟨_, pss_cons (ps_for PassesOwn.leaving rfl (pi_str (pgs T.let_)) (pg_name (i := 1) scLO.nd rfl (Or.inl rfl))
        (pss_one (ps_if (pw_or (pt_cmpR op_eq (pv 0) (pe_callB call_ord (by rfl) T.ord b_ord (pa_cons (pv 1) pa_nil)) (nomark _))
          (pw_or1 (pt_cmpR op_eq (pv 0) (pe_callB call_ord (by rfl) T.ord b_ord (pa_cons (pe_lower (pv 1)) pa_nil)) (nomark _)))).pt (pss_one (ps_ret (pv 1))) pss_nil)))
      (pss_one (ps_raise T.exc rfl raiseE rfl (pa_cons pe_str pa_nil))), ?_⟩
    refine ⟨_, rfl, for_str (fun i σ H2 => ∃ v : Option V, σ = [some (.int (n : Int)), v] ∧ H2 = H ∧ ∀ c ∈ lets.take i, ¬ Sz30.upper n = c) ⟨none, rfl, rfl, fun c hc => absurd hc (by simp)⟩ ?_ ?_⟩
    · rintro i c σ H2 hc ⟨v, rfl, rfl, hno⟩
      have hc' : lets[i]? = some c := by rw [← lets_eq, Array.getElem?_toList]; exact hc
      have hm := List.mem_of_getElem? hc'
      have hr := lets_rng c hm
      have yes : Sz30.upper n = c → tRet (tVar 1) { nx := fun _ H' => Q .non H', rt := Q } [some (.int (n : Int)), some (.str ⟨#[c]⟩)] H2 := fun e => by
        refine ⟨_, rfl, ?_⟩
        have := k (by rw [e, inL_lets]; exact hm)
        rw [e] at this
        exact this
      refine ⟨_, rfl, _, rfl, _, rfl, rfl, rfl, _, rfl, ?_⟩
      refine iteB (p := n = c) (by rw [eqI]; show (n : Int) = ((c : Nat) : Int) ↔ _; omega) (fun e => iteT (yes (by rw [up_iff hr]; omega))) (fun e1 => ?_)
      refine ⟨_, rfl, _, rfl, ⟨_, rfl⟩, _, rfl, rfl, (by show 1 ≤ 5592405; decide), _, rfl, ?_⟩
      rw [lets_low c hm]
      refine ⟨rfl, rfl, _, rfl, ?_⟩
      refine iteB (p := n = c + 32) (by rw [eqI]; show (n : Int) = ((c + 32 : Nat) : Int) ↔ _; omega) (fun e => yes (by rw [up_iff hr]; omega)) (fun e2 => ?_)
      refine ⟨_, rfl, rfl, fun d hd => ?_⟩
      rw [List.take_add_one, hc', Option.toList_some, List.mem_append, List.mem_singleton] at hd
      rcases hd with hd | rfl
      · exact hno d hd
      · rw [up_iff hr]; omega
    · rintro σ H2 ⟨v, rfl, rfl, hno⟩
      refine ⟨by show 1 ≤ sizeLine; decide, kE ?_⟩
      rw [inL_lets]
      intro hm
      exact hno _ (by rw [List.take_of_length_le (by decide)]; exact hm) rfl
end
end MV
set_option maxRecDepth 100000
set_option maxHeartbeats 1000000
namespace MV
open PySem L2
seal L2.PE L2.PA L2.PS L2.PSs L2.PT L2.PW L2.PC L2.PI L2.PG L2.PO
open Sz30 (Bytes Word Move Place)
open MW (tw blank dig n41 nEnd nBad nVal tVal spl cat part rd okTake inL)
section
variable {P : Program} {w : World} {K : PySem.W.Frag} {mg : Str → Option Value} {base : Heap} {C : Addr}
def spSplit (K : PySem.W.Frag) : Sp := fun vs H Q _ => ∃ (a : Addr) (t : Bytes), vs = [.ref a] ∧ SqL K H a (bV t) ∧ t.length ≤ 16000 ∧
  ∀ (ll : Addr) (ps : List (Addr × Bytes)) (H' : Hp), H' ll = some (.lst (ps.map fun p => V.ref p.1)) → (∀ p ∈ ps, H' p.1 = some (.lst (bV p.2))) → ps.map (·.2) = spl t → Same H H' → H ll = none → (∀ p ∈ ps, H p.1 = none) → Q (.ref ll) H'
theorem scSL : FnScope ["text", "lines", "line", "byte"] ["text"] (defScope (top 29)) := ⟨rfl, rfl, rfl, by decide +kernel, rfl, by decide +kernel, by decide +kernel⟩
structure SplI (H H2 : Hp) (t : Bytes) (i : Nat) (ll c : Addr) (ps : List (Addr × Bytes)) (cur : Bytes) : Prop where
  sm : Same H H2
  fl : H ll = none
  fc : H c = none
  ne : c ≠ ll
  hl : H2 ll = some (.lst (ps.map fun p => V.ref p.1))
  hc : H2 c = some (.lst (bV cur))
  hp : ∀ p ∈ ps, H2 p.1 = some (.lst (bV p.2)) ∧ p.1 ≠ c ∧ p.1 ≠ ll ∧ H p.1 = none
  ct : cat (ps.map (·.2)) cur (t.drop i) = spl t
  n1 : ps.length ≤ i
  n2 : cur.length ≤ i
theorem ok_split_lines (F : Wr K mg "split_lines" (top 29)) (T : Tx K mg C) : Fn P w K mg base CX0 1 "split_lines" ["text"] (spSplit K) := by
  obtain ⟨f, fd, hm, F⟩ := F.ex
  refine ⟨f, fd, hm, F.kp, F.binds (ps := ["text"]) (fun _ _ _ _ _ _ us hl => match us, hl with | [_], _ => rfl), ?_⟩
  refine F.ok scSL (fun vs H Q E h => ?_) (fun cdv A outer s H vs Q E hr h => ?_)
  · obtain ⟨a, t, rfl, _⟩ := h
    rfl
  · obtain ⟨a, t, rfl, hS, hlen, k⟩ := h
    refine ⟨_, pss_cons (ps_set (i := 1) scSL.nd rfl (Or.inl rfl) (pe_lst pa_nil)) (pss_cons (ps_set (i := 2) scSL.nd rfl (Or.inl rfl) (pe_lst pa_nil))
      (pss_cons (ps_for PassesOwn.never rfl (pi_list (pv 0)) (pg_name (i := 3) scSL.nd rfl (Or.inl rfl))
        (pss_one (ps_if (pt_cmpR op_eq (pv 3) (pgi T.lf) (nomark _))
          (pss_cons (ps_expr (pe_bm PySem.F.plainAttrs_list PySem.F.slot_list_append PySem.F.type_list_append mt_append (pv 1) (pa_cons (pv 2) pa_nil))) (pss_one (ps_set (i := 2) scSL.nd rfl (Or.inl rfl) (pe_lst pa_nil))))
          (pss_one (ps_expr (pe_bm PySem.F.plainAttrs_list PySem.F.slot_list_append PySem.F.type_list_append mt_append (pv 2) (pa_cons (pv 3) pa_nil)))))))
      (pss_cons (ps_expr (pe_bm PySem.F.plainAttrs_list PySem.F.slot_list_append PySem.F.type_list_append mt_append (pv 1) (pa_cons (pv 2) pa_nil)))
      (pss_one (ps_ret (pv 1)))))), ?_⟩
    refine ⟨by show 0 ≤ sizeLine; decide, fun ll hll => ⟨by show 0 ≤ sizeLine; decide, fun c hc => ?_⟩⟩
    have s1 : Same H (upd (upd H ll (.lst [])) c (.lst [])) := ((Same.refl H).new hll).new hc
    have ncl : c ≠ ll := fun e => by rw [e, upd_same] at hc; cases hc
    have fc : H c = none := by rw [upd_ne ncl] at hc; exact hc
    have I0 : SplI H (upd (upd H ll (.lst [])) c (.lst [])) t 0 ll c [] [] := ⟨s1, hll, fc, ncl, by rw [upd_ne ncl.symm]; exact upd_same, upd_same, fun p hp => absurd hp (by simp), by rw [List.drop_zero]; exact MW.cat_start t, Nat.le_refl _, Nat.le_refl _⟩
    refine ⟨_, rfl, a, rfl, ⟨_, s1.seq hS⟩, for_list (K := K) (a := a) (xs := bV t) (fun i σ H2 => ∃ (c : Addr) (ps : List (Addr × Bytes)) (cur : Bytes) (v : Option V), σ = [some (.ref a), some (.ref ll), some (.ref c), v] ∧ SplI H H2 t i ll c ps cur)
      ⟨c, [], [], none, rfl, I0⟩ (fun i σ H2 _ ⟨_, _, _, _, _, J⟩ => J.sm.seq hS) ?_ ?_⟩
    · rintro i y σ H2 hi ⟨c, ps, cur, v, rfl, J⟩
      obtain ⟨b, hb, rfl⟩ := bV_item hi
      have hit : i < t.length := (List.getElem?_eq_some_iff.mp hb).1
      have ed := MW.drop_cons hb
      have ct := J.ct
      rw [ed] at ct
      refine ⟨_, rfl, rfl, _, rfl, ?_⟩
      refine iteB (p := b.toNat = 10) (by rw [eqI]; omega) (fun h10 => ?_) (fun h10 => ?_)
      · refine ⟨_, rfl, .inl ⟨rfl, _, SqL.of J.hl⟩, _, rfl, ll, _, _, rfl, rfl, J.hl, ?_, ?_⟩
        · rw [List.length_map]
          have := J.n1
          show ps.length < 16777216
          omega
        refine ⟨by show 0 ≤ sizeLine; decide, fun c' hc' => ⟨c', ps ++ [(c, cur)], [], _, rfl, ?_⟩⟩
        have s2 : Same H (upd H2 ll (.lst ((ps.map fun p => V.ref p.1) ++ [.ref c]))) := J.sm.upd J.fl
        have n1 : c' ≠ ll := fun e => by rw [e, upd_same] at hc'; cases hc'
        have hc2 : H2 c' = none := by rw [upd_ne n1] at hc'; exact hc'
        have n2 : c ≠ c' := ne_of_none J.hc hc2
        refine ⟨s2.new hc', J.fl, s2.free hc', n1, ?_, upd_same, fun p hp => ?_, ?_, ?_, Nat.zero_le _⟩
        · rw [upd_ne n1.symm, upd_same, List.map_append]
          rfl
        · rcases List.mem_append.mp hp with hp | hp
          · obtain ⟨q1, q2, q3, q4⟩ := J.hp p hp
            have n3 : p.1 ≠ c' := ne_of_none q1 hc2
            exact ⟨by rw [upd_ne n3, upd_ne q3]; exact q1, n3, q3, q4⟩
          · obtain rfl := List.mem_singleton.mp hp
            exact ⟨by rw [upd_ne n2, upd_ne J.ne]; exact J.hc, n2, J.ne, J.fc⟩
        · rw [List.map_append]
          rw [MW.cat_feed _ _ _ _ h10] at ct
          exact ct
        · rw [List.length_append]
          have := J.n1
          show ps.length + 1 ≤ i + 1
          omega
      · refine ⟨_, rfl, .inl ⟨rfl, _, SqL.of J.hc⟩, _, rfl, c, _, _, rfl, rfl, J.hc, ?_, ?_⟩
        · rw [bV_len]
          have := J.n2
          show cur.length < 16777216
          omega
        refine ⟨c, ps, cur ++ [b], _, rfl, ?_⟩
        refine ⟨J.sm.upd J.fc, J.fl, J.fc, J.ne, by rw [upd_ne J.ne.symm]; exact J.hl, ?_, fun p hp => ?_, ?_, by have := J.n1; omega, by rw [List.length_append]; have := J.n2; show cur.length + 1 ≤ i + 1; omega⟩
        · rw [upd_same]
          unfold bV
          rw [List.map_append]
          rfl
        · obtain ⟨q1, q2, q3, q4⟩ := J.hp p hp
          exact ⟨by rw [upd_ne q2]; exact q1, q2, q3, q4⟩
        · rw [MW.cat_byte _ _ _ _ h10] at ct
          exact ct
    · rintro σ H2 ⟨c, ps, cur, v, rfl, J⟩
      have ct := J.ct
      rw [bV_len, List.drop_length, MW.cat_end] at ct
      refine ⟨_, rfl, .inl ⟨rfl, _, SqL.of J.hl⟩, _, rfl, ll, _, _, rfl, rfl, J.hl, ?_, _, rfl, ?_⟩
      · rw [List.length_map]
        have := J.n1
        rw [bV_len] at this
        show ps.length < 16777216
        omega
      refine k ll (ps ++ [(c, cur)]) _ ?_ (fun p hp => ?_) ?_ (J.sm.upd J.fl) J.fl (fun p hp => ?_)
      · rw [upd_same, List.map_append]
        rfl
      · rcases List.mem_append.mp hp with hp | hp
        · obtain ⟨q1, q2, q3, _⟩ := J.hp p hp
          rw [upd_ne q3]
          exact q1
        · obtain rfl := List.mem_singleton.mp hp
          rw [upd_ne J.ne]
          exact J.hc
      · rw [List.map_append]
        exact ct
      · rcases List.mem_append.mp hp with hp | hp
        · exact (J.hp p hp).2.2.2
        · obtain rfl := List.mem_singleton.mp hp
          exact J.fc
def spPart (K : PySem.W.Frag) : Sp := fun vs H Q _ => ∃ (a : Addr) (t : Bytes) (sk : Int), vs = [.ref a, .int sk] ∧ SqL K H a (bV t) ∧ ∀ (b : Addr) (H' : Hp), SqL K H' b (bV (part (decide (sk = 1)) t)) → Same H H' → Q (.ref b) H'
theorem scPLA : FnScope ["line", "skip", "first"] ["line", "skip"] (defScope (top 30)) := ⟨rfl, rfl, rfl, by decide +kernel, rfl, by decide +kernel, by decide +kernel⟩
theorem ok_part (F : Wr K mg "part_looked_at" (top 30)) (T : Tx K mg C) (GB : Fn P w K mg base CX0 1 "past_blanks" ["line", "at"] (spBlanks K)) : Fn P w K mg base CX0 2 "part_looked_at" ["line", "skip"] (spPart K) := by
  obtain ⟨f, fd, hm, F⟩ := F.ex
  refine ⟨f, fd, hm, F.kp, F.binds (ps := ["line", "skip"]) (fun _ _ _ _ _ _ us hl => match us, hl with | [_, _], _ => rfl), ?_⟩
  refine F.ok scPLA (fun vs H Q E h => ?_) (fun cdv A outer s H vs Q E hr h => ?_)
  · obtain ⟨a, t, sk, rfl, _⟩ := h
    rfl
  · obtain ⟨a, t, sk, rfl, hS, k⟩ := h
    refine ⟨_, pss_cons (ps_set (i := 2) scPLA.nd rfl (Or.inl rfl) (pcall GB hr pass0 (pa_cons (pv 0) (pa_cons pe_int pa_nil))))
      (pss_cons (ps_if (pw_or (pt_cmpR op_eq (pv 2) (pe_callB call_len_seq (by rfl) T.len b_len (pa_cons (pv 0) pa_nil)) (nomark _))
          (pw_or1 (pt_cmpR op_eq (pe_ix ix_list (pv 0) (pv 2) (fun _ _ => rfl)) (pgi T.pct) (nomark _)))).pt (pss_one (ps_ret (pe_lst pa_nil))) pss_nil)
      (pss_cons (ps_if (pt_cmpR op_ne (pe_ix ix_list (pv 0) (pv 2) (fun _ _ => rfl)) (pgi T.sl) (nomark _)) (pss_one (ps_ret (pv 0))) pss_nil)
      (pss_one (ps_ret (pe_ifExp (pt_cmpR op_eq (pv 1) pe_int (nomark _)) (pe_lst pa_nil) (pe_slice sl_list (pv 0) (po_some (pe_op op_add (pv 2) pe_int)) po_none)))))), ?_⟩
    refine ⟨_, rfl, a, t, 0, rfl, hS, Nat.zero_le _, fun H1 s1 => ?_⟩
    rw [Nat.zero_add, List.drop_zero]
    have hle := MW.tw_le blank t
    have emp : part (decide (sk = 1)) t = [] → ∀ p, H1 p = none → Q (.ref p) (upd H1 p (.lst [])) := fun e p hp => k p _ (by rw [e]; exact SqL.of upd_same) (s1.new hp)
    refine ⟨_, rfl, _, rfl, a, _, rfl, .inl (s1.seq hS), rfl, _, rfl, ?_⟩
    refine iteB (p := tw blank t = t.length) (by rw [eqI, bV_len]; omega) (fun e => ?_) (fun hn => ?_)
    · refine iteT ⟨by show 0 ≤ sizeLine; decide, emp ?_⟩
      unfold part
      simp only
      rw [if_pos e]
    · have hlt : tw blank t < t.length := by omega
      obtain ⟨b, hb⟩ := get_lt hlt
      have ep : part (decide (sk = 1)) t = if b.toNat = 37 then [] else if b.toNat = 47 then (if decide (sk = 1) = true then [] else t.drop (tw blank t + 1)) else t := by
        unfold part
        simp only
        rw [if_neg hn, hb]
      refine ⟨_, rfl, _, rfl, a, _, _, _, rfl, rfl, s1.seq hS, at_b hb, rfl, _, rfl, ?_⟩
      refine iteB (p := b.toNat = 37) (by rw [eqI]; omega) (fun e => ?_) (fun n37 => ?_)
      · exact ⟨by show 0 ≤ sizeLine; decide, emp (by rw [ep, if_pos e])⟩
      · refine ⟨_, rfl, _, rfl, a, _, _, _, rfl, rfl, s1.seq hS, at_b hb, rfl, _, rfl, ?_⟩
        refine iteB (p := ¬ b.toNat = 47) (by rw [neI]; omega) (fun e => ?_) (fun n47 => ?_)
        · exact ⟨_, rfl, k a H1 (by rw [ep, if_neg n37, if_neg e]; exact s1.seq hS) s1⟩
        · have e47 : b.toNat = 47 := by omega
          rw [if_neg n37, if_pos e47] at ep
          refine ⟨_, rfl, rfl, _, rfl, ?_⟩
          refine iteB (p := sk = 1) (by rw [eqI]) (fun e => ?_) (fun e => ?_)
          · exact ⟨by show 0 ≤ sizeLine; decide, emp (by rw [ep, if_pos (by simpa using e)])⟩
          · refine ⟨_, rfl, _, rfl, _, _, rfl, rfl, _, rfl, a, _, rfl, s1.seq hS, fun p hp => k p _ ?_ (s1.new hp)⟩
            refine SqL.of ?_
            rw [upd_same, ep, if_neg (by simpa using e)]
            have := cut_from t (tw blank t + 1) (by omega)
            rw [← this]
            rfl
def fnd (l : List Word) (c : Nat) : Option Int := (l.find? fun w => w.1 == c).map (·.2)
theorem get_fnd (l : List Word) (c : Char) : Sz30.get l c = fnd l (Sz30.letter c) := rfl
theorem fnd_snoc (l : List Word) (c : Nat) (x : Int) (d : Nat) : fnd (l ++ [(c, x)]) d = (fnd l d).or (if c = d then some x else none) := by
  unfold fnd
  rw [List.find?_append]
  cases h : l.find? fun w => w.1 == d with
  | some w => simp
  | none =>
    by_cases e : c = d
    · simp [e]
    · simp [e]
theorem fnd_none (l : List Word) (c : Nat) : fnd l c = none ↔ (l.all fun v => v.1 != c) = true := by
  unfold fnd
  simp
def gt : List (Str × Char × List Int) := [("motion", 'G', [0, 1, 2, 3, 80, 81, 82, 83]), ("plane", 'G', [17, 18, 19]), ("unit", 'G', [20, 21]), ("origin", 'G', [54, 55, 56, 57, 58, 59]), ("way", 'G', [90, 91]), ("special", 'G', [4, 53, 92]),
  ("tool", 'M', [6]), ("spindle", 'M', [3, 4, 5]), ("cooling", 'M', [7, 8, 9]), ("stop", 'M', [0, 1, 2, 30])]
def CodesAt (kvs : List (Key × V)) (l : List Word) : Prop := ∀ e ∈ gt, valV kvs (Sum.inr e.1) = (Sz30.chosen (Sz30.all l e.2.1) e.2.2).map V.int
def NumsAt (kvs : List (Key × V)) (l : List Word) : Prop := ∀ c : Nat, c ≠ 71 → c ≠ 77 → valV kvs (Sum.inr (ch c)) = (fnd l c).map V.int
structure WAt (W : Addr) (H : Hp) (wd nd cd : Addr) (l : List Word) : Prop where
  ob : ∃ dx fs, H wd = some (.ins W dx fs) ∧ fs.map (·.1) = (["numbers", "codes"] : List Str) ∧ fs.lookup ("numbers" : Str) = some (.ref nd) ∧ fs.lookup ("codes" : Str) = some (.ref cd)
  num : ∃ kvs, H nd = some (.dK kvs) ∧ kvs.length ≤ l.length ∧ NumsAt kvs l
  cod : ∃ kvs, H cd = some (.dK kvs) ∧ kvs.length ≤ l.length ∧ CodesAt kvs l
  ne : nd ≠ cd
structure TW (K : PySem.W.Frag) (W : Addr) : Prop where
  cl : Cls K W
  nNu : NoAttr K W "numbers"
  nCo : NoAttr K W "codes"
theorem WAt.same {W : Addr} {H H' : Hp} {wd nd cd : Addr} {l : List Word} (h : WAt W H wd nd cd l) (s : Same H H') : WAt W H' wd nd cd l := by
  obtain ⟨⟨dx, fs, h1, h2⟩, ⟨kv, h3, h4⟩, ⟨kv', h5, h6⟩, ne⟩ := h
  exact ⟨⟨dx, fs, s _ _ h1, h2⟩, ⟨kv, s _ _ h3, h4⟩, ⟨kv', s _ _ h5, h6⟩, ne⟩
def spWInit (W : Addr) : Sp := fun vs H Q _ => ∃ (wd dx : Addr), vs = [.ref wd] ∧ H wd = some (.ins W dx []) ∧ ∀ (nd cd : Addr) (H' : Hp), WAt W H' wd nd cd [] → H nd = none → H cd = none → Kp wd H H' → Q .non H'
theorem scWI : FnScope ["self"] ["self"] (defScope (inClass (top 28) 0)) := ⟨rfl, rfl, rfl, by decide +kernel, rfl, by decide +kernel, by decide +kernel⟩
theorem ok_winit {W : Addr} {f : Addr} {fd : FuncData} (F : Fun K "__init__" "Words.__init__" (inClass (top 28) 0) f fd) (T : TW K W) : FnOk P w K mg base CX0 1 f fd ["self"] (spWInit W) := by
  refine F.ok scWI (fun vs H Q E h => ?_) (fun cdv A outer s H vs Q E hr h => ?_)
  · obtain ⟨wd, dx, rfl, _⟩ := h
    rfl
  · obtain ⟨wd, dx, rfl, hw, k⟩ := h
    refine ⟨_, pss_cons (ps_fld (pv 0) pe_dnewK rfl) (pss_one (ps_fld (pv 0) pe_dnewK rfl)), ?_⟩
    intro nd hnd
    have n1 : wd ≠ nd := ne_of_none hw hnd
    refine ⟨_, rfl, wd, W, dx, [], rfl, by rw [upd_ne n1]; exact hw, T.cl, T.nNu, by show 0 < 1000; decide, ?_⟩
    intro cd hcd
    have n2 : wd ≠ cd := fun e => by rw [← e, upd_same] at hcd; cases hcd
    have hcd' : (upd H nd (.dK [])) cd = none := by rw [upd_ne n2.symm] at hcd; exact hcd
    have n3 : nd ≠ cd := fun e => by rw [← e, upd_same] at hcd'; cases hcd'
    have hcd2 : H cd = none := by rw [upd_ne n3.symm] at hcd'; exact hcd'
    refine ⟨_, rfl, wd, W, dx, _, rfl, by rw [upd_ne n2]; exact upd_same, T.cl, T.nCo, by show 1 < 1000; decide, ?_⟩
    refine k nd cd _ ⟨⟨dx, _, upd_same, ?_, lk_ne lk_eq, lk_eq⟩, ⟨[], ?_, Nat.le_refl _, fun c _ _ => rfl⟩, ⟨[], ?_, Nat.le_refl _, ?_⟩, n3⟩ hnd hcd2 (((Kp.refl wd H).new hnd).upd.new hcd2).upd
    · exact keys_new (ks := ["numbers"]) (keys_new (ks := []) rfl (by simp)) (by decide +kernel)
    · rw [upd_ne n1.symm, upd_ne n3, upd_ne n1.symm]
      exact upd_same
    · rw [upd_ne n2.symm]
      exact upd_same
    · intro e he
      have hz : ∀ c : Char, Sz30.all [] c = [] := fun _ => rfl
      rw [hz]
      rfl
def spTakeN (W C : Addr) : Sp := fun vs H Q E => ∃ (wd nd cd : Addr) (l : List Word) (c : Nat) (x : Int), vs = [.ref wd, .str (ch c), .int x] ∧ WAt W H wd nd cd l ∧ c ≠ 71 ∧ c ≠ 77 ∧ inL c = true ∧ l.length < 16000 ∧
  (okTake l c x = true → ∀ H', WAt W H' wd nd cd (l ++ [(c, x)]) → (∀ b o, H b = some o → b ≠ nd → H' b = some o) → Q .non H') ∧ (¬ okTake l c x = true → E (.ref C) none H)
theorem ch_inj {a b : Nat} (h : ch a = ch b) : a = b := by
  unfold ch at h
  injection h with h
  injection h with h
  injection h
def nbl : List Nat := [70, 83, 84, 80, 78]
theorem nbl_eq : ("FSTPN" : Str).cps.toList = nbl := by decide +kernel
theorem nneg_iff (c : Nat) (x : Int) : MW.nneg c x = true ↔ ¬ (x < 0 ∧ c ∈ nbl) := by
  unfold MW.nneg nbl
  simp only [Bool.or_eq_true, Bool.not_eq_true', Bool.or_eq_false_iff, beq_eq_false_iff_ne, ne_eq, decide_eq_true_eq, List.mem_cons, List.not_mem_nil, or_false]
  omega
theorem scTN : FnScope ["self", "letter", "number"] ["self", "letter", "number"] (defScope (inClass (top 28) 2)) := ⟨rfl, rfl, rfl, by decide +kernel, rfl, by decide +kernel, by decide +kernel⟩
theorem all_other (l : List Word) (c : Nat) (x : Int) (k : Char) (h : c ≠ Sz30.letter k) : Sz30.all (l ++ [(c, x)]) k = Sz30.all l k := by
  rw [MW.all_snoc, if_neg h, List.append_nil]
theorem ok_take_number {W : Addr} (F : WrM K W "take_number" "Words.take_number" (inClass (top 28) 2)) (T : Tx K mg C) (TW' : TW K W) : Mt P w K mg base (CXE P w C) 1 W "take_number" ["self", "letter", "number"] (spTakeN W C) := by
  obtain ⟨f, fd, hf, hi, F⟩ := F.ex
  refine ⟨f, fd, ⟨hf, hi, F.kp⟩, F.binds (ps := ["self", "letter", "number"]) (fun _ _ _ _ _ _ us hl => match us, hl with | [_, _, _], _ => rfl), ?_⟩
  refine F.okE scTN (fun vs H Q E h => ?_) (fun cdv A outer s H vs Q E hr h => ?_)
  · obtain ⟨wd, nd, cd, l, c, x, rfl, _⟩ := h
    rfl
  · obtain ⟨wd, nd, cd, l, c, x, rfl, hW, h71, h77, hin, hlen, k, kE⟩ := h
    have hu := hu_of hr
    obtain ⟨⟨dx, fs, ho, hk, hn, hc⟩, ⟨kv, h1, hl1, hN⟩, ⟨kv', h2, hl2, hC⟩, ne⟩ := id hW
    have ov : okTake l c x = true ↔ (fnd l c = none ∧ ¬ (x < 0 ∧ c ∈ nbl)) := by
      unfold okTake
      rw [if_neg h71, if_neg h77, Bool.and_eq_true, Bool.and_eq_true, nneg_iff, fnd_none]
      constructor
      · rintro ⟨_, q⟩; exact q
      · intro q; exact ⟨hin, q⟩
    refine ⟨_, pss_cons (ps_if (pt_cmp (pc_din hu (pv 1) (pe_fld (pv 0) rfl))) (pss_one (ps_raise T.exc rfl raiseE rfl (pa_cons pe_str pa_nil))) pss_nil)
      (pss_cons (ps_if (pw_and (pt_cmpR op_lt (pv 2) pe_int (nomark _)) (pw_and1 (pt_cmpR op_in_sign (pv 1) (pgs T.nbz) rfl))).pt (pss_one (ps_raise T.exc rfl raiseE rfl (pa_cons pe_str pa_nil))) pss_nil)
      (pss_one (ps_dput hu (pe_fld (pv 0) rfl) (pv 1) (pv 2) rfl))), ?_⟩
    have e1 := hN c h71 h77
    refine cont (Pv := fun σ H' => fnd l c = none ∧ σ = [some (.ref wd), some (.str (ch c)), some (.int x)] ∧ H = H') ?_ ?_
    rotate_left
    · intro nx hnx
      refine ⟨_, rfl, _, rfl, wd, W, dx, fs, _, rfl, ho, TW'.cl, TW'.nNu, hn, nd, _, rfl, DGet.k (k := Sum.inr (ch c)) h1, _, rfl, ?_⟩
      rw [e1]
      cases hf' : fnd l c with
      | some y =>
        refine iteT ⟨by show 1 ≤ sizeLine; decide, kE fun q => ?_⟩
        have := (ov.mp q).1
        rw [hf'] at this
        cases this
      | none => exact iteF (hnx _ _ ⟨hf', rfl, rfl⟩)
    · rintro σ H1 ⟨hf', rfl, rfl⟩
      refine cont (Pv := fun σ H' => ¬ (x < 0 ∧ c ∈ nbl) ∧ σ = [some (.ref wd), some (.str (ch c)), some (.int x)] ∧ H = H') ?_ ?_
      · rintro σ H' ⟨hx, rfl, rfl⟩
        refine ⟨_, rfl, _, rfl, wd, W, dx, fs, _, rfl, ho, TW'.cl, TW'.nNu, hn, _, rfl, nd, _, rfl, DPut.k (k := Sum.inr (ch c)) h1 ?_, ?_⟩
        · show kv.length < 16777216
          omega
        · have nw : wd ≠ nd := ne_of ho h1 (by intro z; cases z)
          refine k (ov.mpr ⟨hf', hx⟩) _ ⟨⟨dx, fs, by rw [upd_ne nw]; exact ho, hk, hn, hc⟩, ⟨_, upd_same, ?_, ?_⟩, ⟨kv', by rw [upd_ne ne.symm]; exact h2, ?_, ?_⟩, ne⟩ fun b o hb hne => by rw [upd_ne hne]; exact hb
          · have := length_putK kv (Sum.inr (ch c)) (V.int x)
            rw [List.length_append]
            show _ ≤ l.length + 1
            omega
          · intro d hd1 hd2
            rw [valV_put, fnd_snoc]
            by_cases e : d = c
            · subst e
              rw [if_pos rfl, if_pos rfl, hf']
              rfl
            · rw [if_neg (fun z => e (ch_inj (Sum.inr.inj z))), if_neg (fun z => e z.symm), Option.or_none]
              exact hN d hd1 hd2
          · rw [List.length_append]
            omega
          · intro e he
            rw [all_other _ _ _ _ (by
              have : ∀ e ∈ gt, e.2.1 = 'G' ∨ e.2.1 = 'M' := by decide
              rcases this e he with q | q <;> rw [q]
              · exact h71
              · exact h77)]
            exact hC e he
      · intro nx hnx
        refine ⟨_, rfl, _, _, rfl, rfl, _, rfl, iteD (fun hx => ?_) (fun hx => iteF (hnx _ _ ⟨fun q => hx q.1, rfl, rfl⟩))⟩
        refine ⟨_, rfl, c, _, rfl, rfl, _, rfl, ?_⟩
        rw [nbl_eq]
        refine iteD (fun hm => ⟨by show 1 ≤ sizeLine; decide, kE fun q => (ov.mp q).2 ⟨hx, hm⟩⟩) (fun hm => hnx _ _ ⟨fun q => hm q.2, rfl, rfl⟩)
end
end MV
set_option maxRecDepth 100000
set_option maxHeartbeats 1000000
namespace MV
open PySem L2
seal L2.PE L2.PA L2.PS L2.PSs L2.PT L2.PW L2.PC L2.PI L2.PG L2.PO
open Sz30 (Bytes Word Move Place)
open MW (tw blank dig n41 nEnd nBad nVal tVal spl cat part rd okTake inL valid codeOk)
theorem tab_val (c : Int) : ∀ t : List (Int × Str), valV (tabK t) (Sum.inl c) = (t.lookup c).map V.str
  | [] => rfl
  | (d, x) :: r => by
    show valV ((Sum.inl d, V.str x) :: tabK r) (Sum.inl c) = _
    rw [List.lookup_cons]
    by_cases e : d = c
    · subst e
      rw [valV_pos rfl, beq_self_eq_true]
      rfl
    · rw [valV_neg (fun z => e (Sum.inl.inj z)), tab_val c r]
      have : (c == d) = false := beq_eq_false_iff_ne.mpr fun z => e z.symm
      rw [this]
theorem look_mem {c : Int} {x : Str} : ∀ {t : List (Int × Str)}, t.lookup c = some x → (c, x) ∈ t
  | [], h => by simp at h
  | (d, y) :: r, h => by
    rw [List.lookup_cons] at h
    cases e : c == d with
    | true =>
      rw [e] at h
      have e : c = d := beq_iff_eq.mp e
      cases h
      rw [e]
      exact List.mem_cons_self
    | false =>
      rw [e] at h
      exact List.mem_cons_of_mem _ (look_mem h)
theorem g_none : ∀ G ∈ Sz30.groups, ∀ c ∈ G, (gTab.lookup c).isSome = true := by decide +kernel
theorem m_none : ∀ G ∈ Sz30.mgroups, ∀ c ∈ G, (mTab.lookup c).isSome = true := by decide +kernel
theorem g_some : ∀ p ∈ gTab, ∃ e ∈ gt, e.1 = p.2 ∧ e.2.1 = 'G' ∧ e.2.2 ∈ Sz30.groups ∧ e.2.2.contains p.1 = true ∧ (∀ G ∈ Sz30.groups, G.contains p.1 = true → G = e.2.2) ∧ (∀ e' ∈ gt, e'.1 = p.2 → e' = e) ∧ (∀ e' ∈ gt, e'.2.1 = 'G' → e'.2.2.contains p.1 = true → e' = e) := by decide +kernel
theorem m_some : ∀ p ∈ mTab, ∃ e ∈ gt, e.1 = p.2 ∧ e.2.1 = 'M' ∧ e.2.2 ∈ Sz30.mgroups ∧ e.2.2.contains p.1 = true ∧ (∀ G ∈ Sz30.mgroups, G.contains p.1 = true → G = e.2.2) ∧ (∀ e' ∈ gt, e'.1 = p.2 → e' = e) ∧ (∀ e' ∈ gt, e'.2.1 = 'M' → e'.2.2.contains p.1 = true → e' = e) := by decide +kernel
theorem gt_let : ∀ e ∈ gt, e.2.1 = 'G' ∨ e.2.1 = 'M' := by decide +kernel
structure Grp (L : Char) (gs : List (List Int)) (c : Int) (e : Str × Char × List Int) : Prop where
  mem : e ∈ gt
  let_ : e.2.1 = L
  gm : e.2.2 ∈ gs
  has : e.2.2.contains c = true
  one : ∀ G ∈ gs, G.contains c = true → G = e.2.2
  nm : ∀ e' ∈ gt, e'.1 = e.1 → e' = e
  un : ∀ e' ∈ gt, e'.2.1 = L → e'.2.2.contains c = true → e' = e
theorem code_some {l : List Word} {L : Char} {gs : List (List Int)} {x : Int} {e : Str × Char × List Int} (hm : x % 10000 = 0) (hg : ∀ y ∈ Sz30.all l L, y % 10000 = 0) (G : Grp L gs (x / 10000) e) :
    codeOk (Sz30.all l L) x gs = true ↔ Sz30.chosen (Sz30.all l L) e.2.2 = none := by
  unfold codeOk
  rw [Bool.and_eq_true, Bool.and_eq_true, beq_iff_eq, MW.chosen_none_iff hg]
  constructor
  · rintro ⟨_, _, h⟩
    have := List.all_eq_true.mp h _ G.gm
    rw [G.has] at this
    simpa using this
  · intro h
    refine ⟨hm, List.any_eq_true.mpr ⟨_, G.gm, G.has⟩, List.all_eq_true.mpr fun G' hG' => ?_⟩
    cases q : G'.contains (x / 10000) with
    | false => rfl
    | true =>
      rw [G.one G' hG' q, h]
      rfl
theorem codes_put {kv : List (Key × V)} {l : List Word} {L : Char} {gs : List (List Int)} {x : Int} {e : Str × Char × List Int} (hm : x % 10000 = 0) (G : Grp L gs (x / 10000) e) (hC : CodesAt kv l)
    (hn : Sz30.chosen (Sz30.all l L) e.2.2 = none) : CodesAt (putK kv (Sum.inr e.1) (.int (x / 10000))) (l ++ [(Sz30.letter L, x)]) := by
  intro e' he'
  rw [valV_put, MW.all_snoc]
  by_cases q : e'.1 = e.1
  · have := G.nm e' he' q
    subst this
    rw [if_pos rfl, G.let_, if_pos rfl, MW.chosen_snoc, hn, if_pos ⟨hm, G.has⟩]
    rfl
  · rw [if_neg (fun z => q (Sum.inr.inj z)), hC e' he']
    by_cases hl : Sz30.letter L = Sz30.letter e'.2.1
    · have hL : e'.2.1 = L := by
        rcases gt_let e' he' with q1 | q1 <;> rcases gt_let e G.mem with q2 | q2 <;> rw [← G.let_, q2] at hl ⊢ <;> rw [q1] at hl ⊢ <;> first | rfl | exact absurd hl (by decide)
      rw [if_pos hl, MW.chosen_snoc, if_neg (fun z => q (by rw [G.un e' he' hL z.2])), Option.or_none]
    · rw [if_neg hl, List.append_nil]
section
variable {P : Program} {w : World} {K : PySem.W.Frag} {mg : Str → Option Value} {base : Heap} {C : Addr}
def spTakeC (W C : Addr) : Sp := fun vs H Q E => ∃ (wd nd cd : Addr) (l : List Word) (c : Nat) (x : Int), vs = [.ref wd, .str (ch c), .int x] ∧ WAt W H wd nd cd l ∧ valid l = true ∧ (c = 71 ∨ c = 77) ∧ l.length < 16000 ∧
  (okTake l c x = true → ∀ H', WAt W H' wd nd cd (l ++ [(c, x)]) → (∀ b o, H b = some o → b ≠ cd → H' b = some o) → Q .non H') ∧ (¬ okTake l c x = true → E (.ref C) none H)
theorem scTC : FnScope ["self", "letter", "number", "code", "group"] ["self", "letter", "number"] (defScope (inClass (top 28) 3)) := ⟨rfl, rfl, rfl, by decide +kernel, rfl, by decide +kernel, by decide +kernel⟩
theorem nums_code {kv : List (Key × V)} {l : List Word} {c : Nat} {x : Int} (h : NumsAt kv l) (hc : c = 71 ∨ c = 77) : NumsAt kv (l ++ [(c, x)]) := by
  intro d h1 h2
  rw [fnd_snoc, if_neg (by omega), Option.or_none]
  exact h d h1 h2
theorem sG : ("G" : Str) = ch 71 := by decide +kernel
theorem sM : ("M" : Str) = ch 77 := by decide +kernel
theorem chS {a b : Nat} : decide (V.str (ch a) = V.str (ch b)) = true ↔ a = b := by
  rw [decide_eq_true_eq]
  constructor
  · intro h; exact ch_inj (V.str.inj h)
  · rintro rfl; rfl
theorem ok_take_code {W : Addr} (F : WrM K W "take_code" "Words.take_code" (inClass (top 28) 3)) (T : Tx K mg C) (TW' : TW K W) : Mt P w K mg base (CXE P w C) 1 W "take_code" ["self", "letter", "number"] (spTakeC W C) := by
  obtain ⟨f, fd, hf, hi, F⟩ := F.ex
  refine ⟨f, fd, ⟨hf, hi, F.kp⟩, F.binds (ps := ["self", "letter", "number"]) (fun _ _ _ _ _ _ us hl => match us, hl with | [_, _, _], _ => rfl), ?_⟩
  refine F.okE scTC (fun vs H Q E h => ?_) (fun cdv A outer s H vs Q E hr h => ?_)
  · obtain ⟨wd, nd, cd, l, c, x, rfl, _⟩ := h
    rfl
  · obtain ⟨wd, nd, cd, l, c, x, rfl, hW, hv, hc, hlen, k, kE⟩ := h
    have hu := hu_of hr
    obtain ⟨⟨dx, fs, ho, hk, hn, hcd⟩, ⟨kv, h1, hl1, hN⟩, ⟨kv', h2, hl2, hC⟩, ne⟩ := id hW
    obtain ⟨ag, hag, kg⟩ := T.gg
    obtain ⟨am, ham, km⟩ := T.mg_
    refine ⟨_, pss_cons (ps_if (pt_cmpR op_ne (pe_op op_mod (pv 2) (pgi T.one)) pe_int (nomark _)) (pss_one (ps_raise T.exc rfl raiseE rfl (pa_cons pe_str pa_nil))) pss_nil)
      (pss_cons (ps_set (i := 3) scTC.nd rfl (Or.inl rfl) (pe_op op_fdiv (pv 2) (pgi T.one)))
      (pss_cons (ps_set (i := 4) scTC.nd rfl (Or.inl rfl) (pe_ifExp (pt_cmpR op_eq (pv 1) pe_str (nomark _)) (pe_kget1 (pgr hag) (pv 3) ⟨rfl, rfl, rfl, rfl⟩) (pe_kget1 (pgr ham) (pv 3) ⟨rfl, rfl, rfl, rfl⟩)))
      (pss_cons (ps_if (pt_cmp (pc_isN (pv 4))) (pss_one (ps_raise T.exc rfl raiseE rfl (pa_cons pe_str pa_nil))) pss_nil)
      (pss_cons (ps_if (pt_cmp (pc_din hu (pv 4) (pe_fld (pv 0) rfl))) (pss_one (ps_raise T.exc rfl raiseE rfl (pa_cons pe_str pa_nil))) pss_nil)
      (pss_one (ps_dput hu (pe_fld (pv 0) rfl) (pv 4) (pv 3) rfl)))))), ?_⟩
    obtain ⟨L, gs, tab, hL, hok, hsome, hnone, hmods⟩ : ∃ (L : Char) (gs : List (List Int)) (tab : List (Int × Str)), c = Sz30.letter L ∧ okTake l c x = codeOk (Sz30.all l L) x gs ∧ (∀ cc nm, tab.lookup cc = some nm → ∃ e, e.1 = nm ∧ Grp L gs cc e) ∧ (∀ cc, tab.lookup cc = none → gs.any (fun G => G.contains cc) = false) ∧ (∀ y ∈ Sz30.all l L, y % 10000 = 0) ∧ tab = (if c = 71 then gTab else mTab) := by
      obtain ⟨_, vG, vM, _⟩ := MW.valid_parts hv
      have nn : ∀ (gs : List (List Int)) (tab : List (Int × Str)), (∀ G ∈ gs, ∀ c ∈ G, (tab.lookup c).isSome = true) → ∀ cc, tab.lookup cc = none → gs.any (fun G => G.contains cc) = false := fun gs tab h cc hcc => by
        rw [List.any_eq_false]
        intro G hG q
        have := h G hG cc (by simpa using q)
        rw [hcc] at this
        cases this
      rcases hc with rfl | rfl
      · refine ⟨'G', Sz30.groups, gTab, rfl, ?_, fun cc nm h => ?_, nn _ _ g_none, MW.sound_mod vG, rfl⟩
        · unfold okTake
          rw [if_pos rfl]
        · obtain ⟨e, he, e1, e2, e3, e4, e5, e6, e7⟩ := g_some _ (look_mem h)
          exact ⟨e, e1, he, e2, e3, e4, e5, fun e' he' q => e6 e' he' (q.trans e1), e7⟩
      · refine ⟨'M', Sz30.mgroups, mTab, rfl, ?_, fun cc nm h => ?_, nn _ _ m_none, MW.sound_mod vM, rfl⟩
        · unfold okTake
          rw [if_neg (by decide), if_pos rfl]
        · obtain ⟨e, he, e1, e2, e3, e4, e5, e6, e7⟩ := m_some _ (look_mem h)
          exact ⟨e, e1, he, e2, e3, e4, e5, fun e' he' q => e6 e' he' (q.trans e1), e7⟩
    obtain ⟨hmods, htab⟩ := hmods
    have rs : ¬ okTake l c x = true → 1 ≤ sizeLine ∧ E (.ref C) none H := fun h => ⟨by decide, kE h⟩
    have bad0 : ¬ x % 10000 = 0 → ¬ okTake l c x = true := fun h q => by
      rw [hok] at q
      unfold codeOk at q
      simp only [Bool.and_eq_true, beq_iff_eq] at q
      exact h q.1
    refine ⟨_, rfl, _, _, rfl, rfl, (by show (0 : Int) < 10000; decide), rfl, _, rfl, ?_⟩
    refine iteB (p := ¬ x % 10000 = 0) (by rw [neI]) (fun h => rs (bad0 h)) (fun hm => ?_)
    have hm : x % 10000 = 0 := by omega
    refine ⟨_, rfl, _, _, rfl, rfl, ⟨by decide, by decide⟩, ?_⟩
    have grp : ∀ nx : L2.St → Hp → Prop, nx [some (.ref wd), some (.str (ch c)), some (.int x), some (.int (x / 10000)), some (((tab.lookup (x / 10000)).map V.str).getD .non)] H →
        tIf (tTest (tOp rEq (tVar 1) (tC (.str "G")))) (tKGet1 K (tC (.ref ag)) (tVar 3)) (tKGet1 K (tC (.ref am)) (tVar 3)) [some (.ref wd), some (.str (ch c)), some (.int x), some (.int (x / 10000)), none] H (fun v H1 => nx ([some (.ref wd), some (.str (ch c)), some (.int x), some (.int (x / 10000)), none].set 4 (some v)) H1) := by
      intro nx hnx
      refine ⟨_, rfl, rfl, _, rfl, ?_⟩
      rw [sG]
      refine iteB (p := c = 71) chS (fun e => ?_) (fun e => ?_)
      · rw [htab, if_pos e] at hnx
        refine ⟨ag, _, rfl, kg, _, rfl, Sum.inl (x / 10000), rfl, ?_⟩
        rw [tab_val]
        exact hnx
      · rw [htab, if_neg e] at hnx
        refine ⟨am, _, rfl, km, _, rfl, Sum.inl (x / 10000), rfl, ?_⟩
        rw [tab_val]
        exact hnx
    refine grp _ ?_
    cases hlk : tab.lookup (x / 10000) with
    | none =>
      refine ⟨_, rfl, _, rfl, iteB (p := True) (by simp) (fun _ => rs fun q => ?_) (fun z => absurd trivial z)⟩
      rw [hok] at q
      unfold codeOk at q
      rw [hnone _ hlk] at q
      simp at q
    | some nm =>
      obtain ⟨e, rfl, G⟩ := hsome _ _ hlk
      have hcs := code_some (l := l) hm hmods G
      rw [← hok] at hcs
      refine ⟨_, rfl, _, rfl, iteB (p := False) (by simp) (fun z => z.elim) (fun _ => ?_)⟩
      have ev : valV kv' (Sum.inr e.1) = (Sz30.chosen (Sz30.all l L) e.2.2).map V.int := by rw [hC e G.mem, G.let_]
      refine ⟨_, rfl, _, rfl, wd, W, dx, fs, _, rfl, ho, TW'.cl, TW'.nCo, hcd, cd, _, rfl, DGet.k (k := Sum.inr e.1) h2, _, rfl, ?_⟩
      rw [ev]
      cases hch : Sz30.chosen (Sz30.all l L) e.2.2 with
      | some y =>
        refine iteT (rs fun q => ?_)
        have := hcs.mp q
        rw [hch] at this
        cases this
      | none =>
        refine iteF ?_
        refine ⟨_, rfl, _, rfl, wd, W, dx, fs, _, rfl, ho, TW'.cl, TW'.nCo, hcd, _, rfl, cd, _, rfl, DPut.k (k := Sum.inr e.1) h2 ?_, ?_⟩
        · show kv'.length < 16777216
          omega
        · have nw : wd ≠ cd := ne_of ho h2 (by intro z; cases z)
          refine k (hcs.mpr hch) _ ⟨⟨dx, fs, by rw [upd_ne nw]; exact ho, hk, hn, hcd⟩, ⟨kv, by rw [upd_ne ne]; exact h1, ?_, nums_code hN hc⟩, ⟨_, upd_same, ?_, ?_⟩, ne⟩ fun b o hb hne => by rw [upd_ne hne]; exact hb
          · rw [List.length_append]
            omega
          · have := length_putK kv' (Sum.inr e.1) (V.int (x / 10000))
            rw [List.length_append]
            show _ ≤ l.length + 1
            omega
          · rw [hL]
            exact codes_put hm G hC hch
def spTake (W C : Addr) : Sp := fun vs H Q E => ∃ (wd nd cd : Addr) (l : List Word) (c : Nat) (x : Int), vs = [.ref wd, .str (ch c), .int x] ∧ WAt W H wd nd cd l ∧ valid l = true ∧ inL c = true ∧ l.length < 16000 ∧
  (okTake l c x = true → ∀ H', WAt W H' wd nd cd (l ++ [(c, x)]) → (∀ b o, H b = some o → b ≠ nd → b ≠ cd → H' b = some o) → Q .non H') ∧ (¬ okTake l c x = true → E (.ref C) none H)
theorem scTa : FnScope ["self", "letter", "number"] ["self", "letter", "number"] (defScope (inClass (top 28) 1)) := ⟨rfl, rfl, rfl, by decide +kernel, rfl, by decide +kernel, by decide +kernel⟩
theorem ok_take {W : Addr} (F : WrM K W "take" "Words.take" (inClass (top 28) 1)) (TW' : TW K W) (GN : Mt P w K mg base (CXE P w C) 1 W "take_number" ["self", "letter", "number"] (spTakeN W C))
    (GC : Mt P w K mg base (CXE P w C) 1 W "take_code" ["self", "letter", "number"] (spTakeC W C)) : Mt P w K mg base (CXE P w C) 2 W "take" ["self", "letter", "number"] (spTake W C) := by
  obtain ⟨f, fd, hf, hi, F⟩ := F.ex
  refine ⟨f, fd, ⟨hf, hi, F.kp⟩, F.binds (ps := ["self", "letter", "number"]) (fun _ _ _ _ _ _ us hl => match us, hl with | [_, _, _], _ => rfl), ?_⟩
  refine F.okE scTa (fun vs H Q E h => ?_) (fun cdv A outer s H vs Q E hr h => ?_)
  · obtain ⟨wd, nd, cd, l, c, x, rfl, _⟩ := h
    rfl
  · obtain ⟨wd, nd, cd, l, c, x, rfl, hW, hv, hin, hlen, k, kE⟩ := h
    obtain ⟨⟨dx, fs, ho, hk, hn, hcd⟩, _, _, ne⟩ := id hW
    refine ⟨_, pss_one (ps_if (pw_or (pt_cmpR op_eq (pv 1) pe_str (nomark _)) (pw_or1 (pt_cmpR op_eq (pv 1) pe_str (nomark _)))).pt
      (pss_one (ps_expr (pmeth (pv 0) TW'.cl GC hr passE (pa_cons (pv 1) (pa_cons (pv 2) pa_nil)))))
      (pss_one (ps_expr (pmeth (pv 0) TW'.cl GN hr passE (pa_cons (pv 1) (pa_cons (pv 2) pa_nil)))))), ?_⟩
    have code : (c = 71 ∨ c = 77) → tDrop (tMeth W "take_code" (spTakeC W C) [] E (tVar 0) (tCons (tVar 1) (tCons (tVar 2) tNil))) { nx := fun _ H' => Q .non H', rt := Q } [some (.ref wd), some (.str (ch c)), some (.int x)] H := fun hc => by
      refine ⟨_, rfl, wd, dx, fs, rfl, ho, lk_none hk (by decide +kernel), _, rfl, _, rfl, wd, nd, cd, l, c, x, rfl, hW, hv, hc, hlen, fun h H' q1 q2 => ?_, kE⟩
      exact k h H' q1 fun b o hb h1 h2 => q2 b o hb h2
    refine ⟨_, rfl, rfl, _, rfl, ?_⟩
    rw [sG]
    refine iteB (p := c = 71) chS (fun e => iteT (code (.inl e))) (fun e1 => ?_)
    refine ⟨_, rfl, rfl, _, rfl, ?_⟩
    rw [sM]
    refine iteB (p := c = 77) chS (fun e => code (.inr e)) (fun e2 => ?_)
    refine ⟨_, rfl, wd, dx, fs, rfl, ho, lk_none hk (by decide +kernel), _, rfl, _, rfl, wd, nd, cd, l, c, x, rfl, hW, e1, e2, hin, hlen, fun h H' q1 q2 => ?_, kE⟩
    exact k h H' q1 fun b o hb h1 h2 => q2 b o hb h1
def tells (l : List Word) (z : Str) : Bool := z.cps.toList.any fun c => (fnd l c).isSome
def spTells (W : Addr) : Sp := fun vs H Q _ => ∃ (wd nd cd : Addr) (l : List Word) (z : Str), vs = [.ref wd, .str z] ∧ WAt W H wd nd cd l ∧ (∀ c ∈ z.cps.toList, c ≠ 71 ∧ c ≠ 77) ∧ z.cps.size ≤ 1000 ∧ ∀ H', Same H H' → Q (.bl (tells l z)) H'
theorem scTO : FnScope ["self", "letters", "letter"] ["self", "letters"] (defScope (inClass (top 28) 4)) := ⟨rfl, rfl, rfl, by decide +kernel, rfl, by decide +kernel, by decide +kernel⟩
theorem any_map (l : List Word) (z : List Nat) : ((z.map fun c => (fnd l c).isSome).any id) = z.any fun c => (fnd l c).isSome := by
  rw [List.any_map]
  rfl
theorem ok_tells {W : Addr} (F : WrM K W "tells_one_of" "Words.tells_one_of" (inClass (top 28) 4)) (T : Tx K mg C) (TW' : TW K W) : Mt P w K mg base CX0 1 W "tells_one_of" ["self", "letters"] (spTells W) := by
  obtain ⟨f, fd, hf, hi, F⟩ := F.ex
  refine ⟨f, fd, ⟨hf, hi, F.kp⟩, F.binds (ps := ["self", "letters"]) (fun _ _ _ _ _ _ us hl => match us, hl with | [_, _], _ => rfl), ?_⟩
  refine F.ok scTO (fun vs H Q E h => ?_) (fun cdv A outer s H vs Q E hr h => ?_)
  · obtain ⟨wd, nd, cd, l, z, rfl, _⟩ := h
    rfl
  · obtain ⟨wd, nd, cd, l, z, rfl, hW, hz, hsz, k⟩ := h
    have hu := hu_of hr
    obtain ⟨⟨dx, fs, ho, hk, hn, hcd⟩, ⟨kv, h1, hl1, hN⟩, _, ne⟩ := id hW
    refine ⟨_, pss_one (ps_ret (pe_callB (cr_any rfl) (by rfl) T.any b_any (pa_cons (pe_lc (own := [("letter", 2)]) (te := tDIn (tVar 2) (tFld K (tVar 0) "numbers")) rfl scTO.nd (pi_str (pv 1)) (blkOk_by (show blkC ["self", "letters", "letter"] (defScope (inClass (top 28) 4)) _ _ = true by decide +kernel)) (fun _ _ _ _ _ => pg_name (i := 2) scTO.nd rfl (Or.inl rfl)) (fun _ _ _ _ _ => pts_nil)
      (fun _ _ _ _ _ => pe_cmp (pc_din hu (pv 2) (pe_fld (pv 0) rfl)))) pa_nil))), ?_⟩
    refine ⟨_, rfl, z, rfl, fun D hD => ?_⟩
    refine lc_str (fun i H2 => H2 = upd H D (.lst ((z.cps.toList.take i).map fun c => V.bl (fnd l c).isSome))) (by simp) ?_ ?_
    · rintro i c H2 hc rfl
      have hc' : z.cps.toList[i]? = some c := by rw [Array.getElem?_toList]; exact hc
      obtain ⟨c1, c2⟩ := hz c (List.mem_of_getElem? hc')
      have nD : ∀ {b o}, H b = some o → b ≠ D := fun e => ne_of_none e hD
      refine ⟨rfl, yes_ite ?_⟩
      refine ⟨_, rfl, _, rfl, wd, W, dx, fs, _, rfl, by rw [upd_ne (nD ho)]; exact ho, TW'.cl, TW'.nNu, hn, nd, _, rfl, DGet.k (k := Sum.inr (ch c)) (by rw [upd_ne (nD h1)]; exact h1), _, upd_same, ?_, ?_⟩
      · rw [List.length_map, List.length_take]
        show _ < 16777216
        have : z.cps.toList.length = z.cps.size := Array.length_toList
        omega
      · rw [upd_upd, List.take_add_one, hc', Option.toList_some, List.map_append, hN c c1 c2]
        congr 2
        congr 1
        simp
    · rintro H2 rfl
      have e : z.cps.toList.take z.cps.size = z.cps.toList := by rw [← Array.length_toList, List.take_length]
      rw [e]
      refine ⟨D, z.cps.toList.map fun c => (fnd l c).isSome, rfl, ?_, ?_⟩
      · refine SqL.of ?_
        rw [upd_same, List.map_map]
        rfl
      · rw [any_map]
        exact k _ ((Same.refl H).new hD)
def spRead (K : PySem.W.Frag) (W C : Addr) : Sp := fun vs H Q E => ∃ (a : Addr) (t : Bytes), vs = [.ref a] ∧ SqL K H a (bV t) ∧ t.length ≤ 16000 ∧
  (∀ l, rd [] t = some l → ∀ (wd nd cd : Addr) (H' : Hp), WAt W H' wd nd cd l → Same H H' → Q (.ref wd) H') ∧ (rd [] t = none → ∀ H', Same H H' → E (.ref C) none H')
theorem scRW : FnScope ["line", "words", "at", "letter", "start"] ["line"] (defScope (top 31)) := ⟨rfl, rfl, rfl, by decide +kernel, rfl, by decide +kernel, by decide +kernel⟩
structure RdI (W : Addr) (H H1 : Hp) (t : Bytes) (wd nd cd : Addr) (j : Nat) (l : List Word) : Prop where
  le : j ≤ t.length
  wa : WAt W H1 wd nd cd l
  va : valid l = true
  ln : l.length ≤ j
  sm : Same H H1
  rd : MW.rd l (t.drop j) = MW.rd [] t
theorem ok_read_words {W : Addr} (F : Wr K mg "read_words" (top 31)) (T : Tx K mg C) (TW' : TW K W) (GW : In P w K mg base CX0 1 W "Words" ["self"] (spWInit W)) (GT : Mt P w K mg base (CXE P w C) 2 W "take" ["self", "letter", "number"] (spTake W C))
    (GB : Fn P w K mg base CX0 1 "past_blanks" ["line", "at"] (spBlanks K)) (GNo : Fn P w K mg base (CXE P w C) 1 "past_note" ["line", "at"] (spNote K C)) (GL : Fn P w K mg base (CXE P w C) 1 "letter_of" ["byte"] (spLetter C))
    (GNu : Fn P w K mg base (CXE P w C) 2 "past_number" ["line", "at"] (spNumber K C)) (GTe : Fn P w K mg base CX0 1 "ten_thousandths" ["number"] (spTen K)) : Fn P w K mg base (CXE P w C) 4 "read_words" ["line"] (spRead K W C) := by
  obtain ⟨f, fd, hm, F⟩ := F.ex
  refine ⟨f, fd, hm, F.kp, F.binds (ps := ["line"]) (fun _ _ _ _ _ _ us hl => match us, hl with | [_], _ => rfl), ?_⟩
  refine F.okE scRW (fun vs H Q E h => ?_) (fun cdv A outer s H vs Q E hr h => ?_)
  · obtain ⟨a, t, rfl, _⟩ := h
    rfl
  · obtain ⟨a, t, rfl, hS, hlen, k, kE⟩ := h
    refine ⟨_, pss_cons (ps_set (i := 1) scRW.nd rfl (Or.inl rfl) (pmake0 GW hr pass0)) (pss_cons (ps_set (i := 2) scRW.nd rfl (Or.inl rfl) pe_int)
      (pss_cons (ps_while PassesOwn.leaving (pw_and (pt_cmpR op_lt (pv 2) (pe_callB call_len_seq (by rfl) T.len b_len (pa_cons (pv 0) pa_nil)) (nomark _))
          (pw_and1 (pt_cmpR op_ne (pe_ix ix_list (pv 0) (pv 2) (fun _ _ => rfl)) (pgi T.se) (nomark _)))).pt
        (pss_one (ps_if (pt_cmpR op_in_seq (pe_ix ix_list (pv 0) (pv 2) (fun _ _ => rfl)) (pe_tup (pa_cons (pgi T.bl) (pa_cons (pgi T.tab) (pa_cons (pgi T.ret) pa_nil)))) rfl)
          (pss_one (ps_aug (i := 2) scRW.nd rfl (Or.inl rfl) pe_int ip_add))
          (pss_one (ps_if (pt_cmpR op_eq (pe_ix ix_list (pv 0) (pv 2) (fun _ _ => rfl)) (pgi T.nb) (nomark _))
            (pss_one (ps_set (i := 2) scRW.nd rfl (Or.inl rfl) (pcall GNo hr passE (pa_cons (pv 0) (pa_cons (pv 2) pa_nil)))))
            (pss_cons (ps_set (i := 3) scRW.nd rfl (Or.inl rfl) (pcall GL hr passE (pa_cons (pe_ix ix_list (pv 0) (pv 2) (fun _ _ => rfl)) pa_nil)))
            (pss_cons (ps_set (i := 4) scRW.nd rfl (Or.inl rfl) (pcall GB hr pass0 (pa_cons (pv 0) (pa_cons (pe_op op_add (pv 2) pe_int) pa_nil))))
            (pss_cons (ps_set (i := 2) scRW.nd rfl (Or.inl rfl) (pcall GNu hr passE (pa_cons (pv 0) (pa_cons (pv 4) pa_nil))))
            (pss_one (ps_expr (pmeth (pv 1) TW'.cl GT hr passE (pa_cons (pv 3) (pa_cons (pcall GTe hr pass0 (pa_cons (pe_slice sl_listN (pv 0) (po_some (pv 4)) (po_some (pv 2))) pa_nil)) pa_nil)))))))))))))
      (pss_one (ps_ret (pv 1))))), ?_⟩
    intro wd dx n1 n2 n3
    refine ⟨wd, dx, rfl, upd_same, fun nd cd H1 hW fn fc kp => ⟨rfl, ?_⟩⟩
    have s0 : Same H (upd (upd H dx (.own wd)) wd (.ins W dx [])) := ((Same.refl H).upd n2).upd n1
    have s1 : Same H H1 := Same.made n1 n2 kp
    have fnd' : H nd = none := s0.free fn
    have fcd' : H cd = none := s0.free fc
    refine ⟨fun m σ H2 => ∃ (j : Nat) (l : List Word) (v3 v4 : Option V), σ = [some (.ref a), some (.ref wd), some (.int (j : Int)), v3, v4] ∧ m = t.length - j ∧ RdI W H H2 t wd nd cd j l,
      ⟨_, 0, [], none, none, rfl, rfl, Nat.zero_le _, hW, MW.valid_nil, Nat.le_refl _, s1, by rw [List.drop_zero]⟩, ?_⟩
    rintro m σ H2 ⟨j, l, v3, v4, rfl, rfl, J⟩
    refine ⟨_, rfl, _, rfl, a, _, rfl, .inl (J.sm.seq hS), _, _, rfl, rfl, _, rfl, ?_⟩
    refine iteD (fun hlt => ?_) (fun hge => ?_)
    rotate_left
    · rw [bV_len] at hge
      refine iteF ⟨_, rfl, k l ?_ wd nd cd _ J.wa J.sm⟩
      rw [← J.rd, List.drop_eq_nil_of_le (by omega), MW.rd_nil J.va]
    · have hlt : j < t.length := by rw [bV_len] at hlt; omega
      obtain ⟨b, hb⟩ := get_lt hlt
      have hrd := J.rd
      rw [MW.drop_cons hb] at hrd
      have hSj := J.sm.seq hS
      refine ⟨_, rfl, _, rfl, a, _, _, _, rfl, rfl, hSj, at_b hb, rfl, _, rfl, ?_⟩
      refine iteB (p := ¬ b.toNat = 59) (by rw [neI]; omega) (fun n59 => ?_) (fun e59 => ?_)
      rotate_left
      · refine ⟨_, rfl, k l ?_ wd nd cd _ J.wa J.sm⟩
        rw [← hrd, MW.rd_semi (by omega) J.va]
      refine ⟨fun σ' H' => ∃ m', m' < t.length - j ∧ ∃ (j : Nat) (l : List Word) (v3 v4 : Option V), σ' = [some (.ref a), some (.ref wd), some (.int (j : Int)), v3, v4] ∧ m' = t.length - j ∧ RdI W H H' t wd nd cd j l, fun _ _ z => z, ?_⟩
      refine ⟨_, rfl, _, rfl, a, _, _, _, rfl, rfl, hSj, at_b hb, (by show 3 ≤ sizeLine; decide), fun p hp => ?_⟩
      refine ⟨p, _, rfl, .inr (SqT.of upd_same), rfl, rfl, _, rfl, ?_⟩
      have J1 : RdI W H (upd H2 p (.tup [.int 32, .int 9, .int 13])) t wd nd cd j l := ⟨J.le, J.wa.same ((Same.refl H2).new hp), J.va, J.ln, J.sm.new hp, J.rd⟩
      revert J1
      generalize upd H2 p (.tup [.int 32, .int 9, .int 13]) = H3
      intro J1
      have hS3 := J1.sm.seq hS
      refine iteB (p := b.toNat = 32 ∨ b.toNat = 9 ∨ b.toNat = 13) (by rw [in3']; omega) (fun hbl => ?_) (fun nbl => ?_)
      · refine ⟨_, rfl, _, _, rfl, rfl, t.length - (j + 1), by omega, j + 1, l, v3, v4, rfl, rfl, by omega, J1.wa, J1.va, by have := J1.ln; omega, J1.sm, ?_⟩
        rw [MW.rd_blank hbl] at hrd
        exact hrd
      · refine ⟨_, rfl, _, rfl, a, _, _, _, rfl, rfl, hS3, at_b hb, rfl, _, rfl, ?_⟩
        refine iteB (p := b.toNat = 40) (by rw [eqI]; omega) (fun e40 => ?_) (fun n40 => ?_)
        · have ht : tw n41 (t.drop j) = 1 + tw n41 (t.drop (j + 1)) := by
            have := MW.tw_step hb (show n41 b = true by rw [n41_iff]; omega)
            omega
          have hr2 : (t.drop (j + 1)).length = t.length - (j + 1) := List.length_drop
          rw [MW.rd_note e40, hr2] at hrd
          refine ⟨_, rfl, _, rfl, a, t, j, rfl, hS3, J1.le, fun hq => ?_, fun hq => ?_⟩
          · rw [if_pos (by omega), List.drop_drop] at hrd
            refine ⟨t.length - (j + tw n41 (t.drop j) + 1), by omega, j + tw n41 (t.drop j) + 1, l, v3, v4, rfl, rfl, by omega, J1.wa, J1.va, by have := J1.ln; omega, J1.sm, ?_⟩
            rw [ht]
            have e : j + 1 + (tw n41 (t.drop (j + 1)) + 1) = j + (1 + tw n41 (t.drop (j + 1))) + 1 := by omega
            rw [e] at hrd
            exact hrd
          · rw [if_neg (by omega)] at hrd
            exact kE hrd.symm _ J1.sm
        · rw [MW.rd_word nbl (by omega) n40] at hrd
          simp only at hrd
          refine ⟨_, rfl, _, rfl, a, _, _, _, rfl, rfl, hS3, at_b hb, b.toNat, rfl, fun hin => ?_, fun hin => ?_⟩
          rotate_left
          · rw [if_neg (fun q => hin q.1)] at hrd
            exact kE hrd.symm _ J1.sm
          refine ⟨_, rfl, _, rfl, _, _, rfl, rfl, a, t, j + 1, rfl, hS3, by omega, fun H4 s4 => ?_⟩
          have hu : (t.drop (j + 1)).drop (tw blank (t.drop (j + 1))) = t.drop (j + 1 + tw blank (t.drop (j + 1))) := List.drop_drop
          rw [hu] at hrd
          have hsl : j + 1 + tw blank (t.drop (j + 1)) ≤ t.length := by
            have := MW.tw_le blank (t.drop (j + 1))
            rw [List.length_drop] at this
            omega
          obtain ⟨st, hst⟩ : ∃ st, st = j + 1 + tw blank (t.drop (j + 1)) := ⟨_, rfl⟩
          rw [← hst] at hrd hsl ⊢
          have hjs : j + 1 ≤ st := by omega
          have S4 : Same H H4 := J1.sm.trans s4
          refine ⟨_, rfl, _, rfl, a, t, st, rfl, S4.seq hS, hsl, fun hnb H5 s5 => ?_, fun hb' H5 s5 => kE ?_ _ (S4.trans s5)⟩
          rotate_left
          · rw [if_neg (fun q => q.2.1 hb')] at hrd
            exact hrd.symm
          obtain ⟨hne1, hne2⟩ := MW.nEnd_le (t.drop st) hnb
          rw [List.length_drop] at hne1
          have S5 : Same H H5 := S4.trans s5
          have hW5 := J1.wa.same (s4.trans s5)
          obtain ⟨⟨dw, fw, hw, hwk, hwn, hwc⟩, _⟩ := id hW5
          refine ⟨_, rfl, wd, dw, fw, rfl, hw, lk_none hwk (by decide +kernel), _, rfl, _, rfl, _, rfl, _, rfl, _, rfl, _, rfl, a, _, rfl, S5.seq hS, fun ns H6 n6 a6 s6 => ?_⟩
          rw [cut_at t st (st + nEnd (t.drop st)) (by omega) (by omega), Nat.add_sub_cancel_left] at a6
          refine ⟨ns, (t.drop st).take (nEnd (t.drop st)), rfl, SqL.of a6, ?_, ?_⟩
          · intro e
            have := congrArg List.length e
            rw [List.length_take, List.length_drop, List.length_nil] at this
            omega
          rw [MW.tVal_eq _ hnb]
          have ln := J1.ln
          refine ⟨wd, nd, cd, l, Sz30.upper b.toNat, nVal (t.drop st), rfl, hW5.same s6, J1.va, hin, by omega, fun hok H7 hW7 k7 => ?_, fun hok => kE ?_ _ (S5.trans s6)⟩
          · rw [if_pos ⟨hin, hnb, hok⟩, List.drop_drop] at hrd
            refine ⟨t.length - (st + nEnd (t.drop st)), by omega, st + nEnd (t.drop st), l ++ [(Sz30.upper b.toNat, nVal (t.drop st))], _, _, rfl, rfl, by omega, hW7, ?_, ?_, ?_, hrd⟩
            · rw [MW.valid_snoc, J1.va, hok]
              rfl
            · rw [List.length_append]
              show l.length + 1 ≤ _
              omega
            · intro c o hc
              exact k7 c o (S5.trans s6 c o hc) (ne_of_none hc fnd') (ne_of_none hc fcd')
          · rw [if_neg (fun q => hok q.2.2)] at hrd
            exact hrd.symm
end
end MV
set_option maxRecDepth 100000
set_option maxHeartbeats 1000000
namespace MV
open PySem L2
seal L2.PE L2.PA L2.PS L2.PSs L2.PT L2.PW L2.PC L2.PI L2.PG L2.PO
open Sz30 (Bytes Word Move)
theorem star_tup {a : List Expr} {b : Nat} {c : Pos} {es : List Expr} {env : Env} : starEach (Expr.Tuple a b c :: es) env = (false, eval (.Tuple a b c) env) :: starEach es env := rfl
theorem pe_000 {X : Cx} {a b c : Int} {i j k n : Nat} {p q r pos : Pos} : PE X (.Tuple [.Constant (.int a) i p, .Constant (.int b) j q, .Constant (.int c) k r] n pos) (tTupN (tCons (tC (.int a)) (tCons (tC (.int b)) (tCons (tC (.int c)) tNil)))) :=
  pe_tupN (pa_cons pe_int (pa_cons pe_int (pa_cons pe_int pa_nil)))
abbrev Pl := Sz30.Place
def pV (p : Pl) : List V := [.int p.1, .int p.2.1, .int p.2.2]
theorem pV_at (p : Pl) {k : Nat} (h : k < 3) : atI (pV p) (k : Int) = some (V.int (Sz30.axis p k)) := by
  refine atI_nat ?_
  match k, h with
  | 0, _ => rfl
  | 1, _ => rfl
  | 2, _ => rfl
def oV : Option Int → V
  | none => .non
  | some x => .int x
def unitOf (s : Sz30.St) : Int := if s.inches = true then 254 else 10
theorem long_eq (s : Sz30.St) (x : Int) : s.long x = x * unitOf s := by
  unfold Sz30.St.long unitOf
  split <;> rfl
def mNames : List Str := ["place", "origins", "origin", "put_off", "motion", "plane", "unit", "steps", "feed", "height", "level", "depth", "peck", "wait"]
structure MF (fs : List (Str × V)) (po ol pf : Addr) (s : Sz30.St) : Prop where
  keys : fs.map (·.1) = mNames
  place : fs.lookup ("place" : Str) = some (.ref po)
  origins : fs.lookup ("origins" : Str) = some (.ref ol)
  origin : fs.lookup ("origin" : Str) = some (.int (s.origin : Int))
  put_off : fs.lookup ("put_off" : Str) = some (.ref pf)
  motion : fs.lookup ("motion" : Str) = some (.int (s.motion : Int))
  plane : fs.lookup ("plane" : Str) = some (.int (s.plane : Int))
  unit : fs.lookup ("unit" : Str) = some (.int (unitOf s))
  steps : fs.lookup ("steps" : Str) = some (.bl s.steps)
  feed : fs.lookup ("feed" : Str) = some (.int s.feed)
  height : fs.lookup ("height" : Str) = some (.int s.height)
  level : fs.lookup ("level" : Str) = some (oV s.level)
  depth : fs.lookup ("depth" : Str) = some (oV s.depth)
  peck : fs.lookup ("peck" : Str) = some (oV s.peck)
  wait : fs.lookup ("wait" : Str) = some (.int s.wait)
theorem MF.len {fs : List (Str × V)} {po ol pf : Addr} {s : Sz30.St} (h : MF fs po ol pf s) : fs.length < 1000 := by
  rw [keys_len h.keys]
  decide
section
variable {fs : List (Str × V)} {po ol pf : Addr} {s : Sz30.St}
theorem MF.sPlace (h : MF fs po ol pf s) (p : Pl) (q : Addr) : MF (putF "place" (.ref q) fs) q ol pf { s with at_ := p } :=
  ⟨keys_old h.keys, lk_eq, lk_ne h.origins, lk_ne h.origin, lk_ne h.put_off, lk_ne h.motion, lk_ne h.plane, lk_ne h.unit, lk_ne h.steps, lk_ne h.feed, lk_ne h.height, lk_ne h.level, lk_ne h.depth, lk_ne h.peck, lk_ne h.wait⟩
theorem MF.sOrigins (h : MF fs po ol pf s) (l : List Pl) (q : Addr) : MF (putF "origins" (.ref q) fs) po q pf { s with origins := l } :=
  ⟨keys_old h.keys, lk_ne h.place, lk_eq, lk_ne h.origin, lk_ne h.put_off, lk_ne h.motion, lk_ne h.plane, lk_ne h.unit, lk_ne h.steps, lk_ne h.feed, lk_ne h.height, lk_ne h.level, lk_ne h.depth, lk_ne h.peck, lk_ne h.wait⟩
theorem MF.sOrigin (h : MF fs po ol pf s) (k : Nat) : MF (putF "origin" (.int (k : Int)) fs) po ol pf { s with origin := k } :=
  ⟨keys_old h.keys, lk_ne h.place, lk_ne h.origins, lk_eq, lk_ne h.put_off, lk_ne h.motion, lk_ne h.plane, lk_ne h.unit, lk_ne h.steps, lk_ne h.feed, lk_ne h.height, lk_ne h.level, lk_ne h.depth, lk_ne h.peck, lk_ne h.wait⟩
theorem MF.sOff (h : MF fs po ol pf s) (p : Pl) (q : Addr) : MF (putF "put_off" (.ref q) fs) po ol q { s with off := p } :=
  ⟨keys_old h.keys, lk_ne h.place, lk_ne h.origins, lk_ne h.origin, lk_eq, lk_ne h.motion, lk_ne h.plane, lk_ne h.unit, lk_ne h.steps, lk_ne h.feed, lk_ne h.height, lk_ne h.level, lk_ne h.depth, lk_ne h.peck, lk_ne h.wait⟩
theorem MF.sMotion (h : MF fs po ol pf s) (k : Nat) : MF (putF "motion" (.int (k : Int)) fs) po ol pf { s with motion := k } :=
  ⟨keys_old h.keys, lk_ne h.place, lk_ne h.origins, lk_ne h.origin, lk_ne h.put_off, lk_eq, lk_ne h.plane, lk_ne h.unit, lk_ne h.steps, lk_ne h.feed, lk_ne h.height, lk_ne h.level, lk_ne h.depth, lk_ne h.peck, lk_ne h.wait⟩
theorem MF.sPlane (h : MF fs po ol pf s) (k : Nat) : MF (putF "plane" (.int (k : Int)) fs) po ol pf { s with plane := k } :=
  ⟨keys_old h.keys, lk_ne h.place, lk_ne h.origins, lk_ne h.origin, lk_ne h.put_off, lk_ne h.motion, lk_eq, lk_ne h.unit, lk_ne h.steps, lk_ne h.feed, lk_ne h.height, lk_ne h.level, lk_ne h.depth, lk_ne h.peck, lk_ne h.wait⟩
theorem MF.sUnit (h : MF fs po ol pf s) (b : Bool) : MF (putF "unit" (.int (if b = true then 254 else 10)) fs) po ol pf { s with inches := b } :=
  ⟨keys_old h.keys, lk_ne h.place, lk_ne h.origins, lk_ne h.origin, lk_ne h.put_off, lk_ne h.motion, lk_ne h.plane, lk_eq, lk_ne h.steps, lk_ne h.feed, lk_ne h.height, lk_ne h.level, lk_ne h.depth, lk_ne h.peck, lk_ne h.wait⟩
theorem MF.sSteps (h : MF fs po ol pf s) (b : Bool) : MF (putF "steps" (.bl b) fs) po ol pf { s with steps := b } :=
  ⟨keys_old h.keys, lk_ne h.place, lk_ne h.origins, lk_ne h.origin, lk_ne h.put_off, lk_ne h.motion, lk_ne h.plane, lk_ne h.unit, lk_eq, lk_ne h.feed, lk_ne h.height, lk_ne h.level, lk_ne h.depth, lk_ne h.peck, lk_ne h.wait⟩
theorem MF.sFeed (h : MF fs po ol pf s) (x : Int) : MF (putF "feed" (.int x) fs) po ol pf { s with feed := x } :=
  ⟨keys_old h.keys, lk_ne h.place, lk_ne h.origins, lk_ne h.origin, lk_ne h.put_off, lk_ne h.motion, lk_ne h.plane, lk_ne h.unit, lk_ne h.steps, lk_eq, lk_ne h.height, lk_ne h.level, lk_ne h.depth, lk_ne h.peck, lk_ne h.wait⟩
theorem MF.sHeight (h : MF fs po ol pf s) (x : Int) : MF (putF "height" (.int x) fs) po ol pf { s with height := x } :=
  ⟨keys_old h.keys, lk_ne h.place, lk_ne h.origins, lk_ne h.origin, lk_ne h.put_off, lk_ne h.motion, lk_ne h.plane, lk_ne h.unit, lk_ne h.steps, lk_ne h.feed, lk_eq, lk_ne h.level, lk_ne h.depth, lk_ne h.peck, lk_ne h.wait⟩
theorem MF.sLevel (h : MF fs po ol pf s) (x : Option Int) : MF (putF "level" (oV x) fs) po ol pf { s with level := x } :=
  ⟨keys_old h.keys, lk_ne h.place, lk_ne h.origins, lk_ne h.origin, lk_ne h.put_off, lk_ne h.motion, lk_ne h.plane, lk_ne h.unit, lk_ne h.steps, lk_ne h.feed, lk_ne h.height, lk_eq, lk_ne h.depth, lk_ne h.peck, lk_ne h.wait⟩
theorem MF.sDepth (h : MF fs po ol pf s) (x : Option Int) : MF (putF "depth" (oV x) fs) po ol pf { s with depth := x } :=
  ⟨keys_old h.keys, lk_ne h.place, lk_ne h.origins, lk_ne h.origin, lk_ne h.put_off, lk_ne h.motion, lk_ne h.plane, lk_ne h.unit, lk_ne h.steps, lk_ne h.feed, lk_ne h.height, lk_ne h.level, lk_eq, lk_ne h.peck, lk_ne h.wait⟩
theorem MF.sPeck (h : MF fs po ol pf s) (x : Option Int) : MF (putF "peck" (oV x) fs) po ol pf { s with peck := x } :=
  ⟨keys_old h.keys, lk_ne h.place, lk_ne h.origins, lk_ne h.origin, lk_ne h.put_off, lk_ne h.motion, lk_ne h.plane, lk_ne h.unit, lk_ne h.steps, lk_ne h.feed, lk_ne h.height, lk_ne h.level, lk_ne h.depth, lk_eq, lk_ne h.wait⟩
theorem MF.sWait (h : MF fs po ol pf s) (x : Int) : MF (putF "wait" (.int x) fs) po ol pf { s with wait := x } :=
  ⟨keys_old h.keys, lk_ne h.place, lk_ne h.origins, lk_ne h.origin, lk_ne h.put_off, lk_ne h.motion, lk_ne h.plane, lk_ne h.unit, lk_ne h.steps, lk_ne h.feed, lk_ne h.height, lk_ne h.level, lk_ne h.depth, lk_ne h.peck, lk_eq⟩
end
structure MP (H : Hp) (po ol pf : Addr) (ps : List (Addr × Pl)) (s : Sz30.St) : Prop where
  po : H po = some (.tup (pV s.at_))
  pf : H pf = some (.tup (pV s.off))
  ol : H ol = some (.lst (ps.map fun p => V.ref p.1))
  tp : ∀ p ∈ ps, H p.1 = some (.tup (pV p.2))
  og : ps.map (·.2) = s.origins
structure MAt (M : Addr) (H : Hp) (m : Addr) (s : Sz30.St) : Prop where
  ex : ∃ dx fs po ol pf ps, H m = some (.ins M dx fs) ∧ MF fs po ol pf s ∧ MP H po ol pf ps s
structure TM (K : PySem.W.Frag) (M : Addr) : Prop where
  cl : Cls K M
  place : NoAttr K M "place"
  origins : NoAttr K M "origins"
  origin : NoAttr K M "origin"
  put_off : NoAttr K M "put_off"
  motion : NoAttr K M "motion"
  plane : NoAttr K M "plane"
  unit : NoAttr K M "unit"
  steps : NoAttr K M "steps"
  feed : NoAttr K M "feed"
  height : NoAttr K M "height"
  level : NoAttr K M "level"
  depth : NoAttr K M "depth"
  peck : NoAttr K M "peck"
  wait : NoAttr K M "wait"
section
variable {M : Addr} {H H' : Hp} {m : Addr} {s : Sz30.St} {po ol pf : Addr} {ps : List (Addr × Pl)} {dx : Addr} {fs : List (Str × V)}
theorem MP.kp (h : MP H po ol pf ps s) (k : Kp m H H') (hm : H m = some (.ins M dx fs)) : MP H' po ol pf ps s :=
  ⟨k _ _ h.po (ne_of h.po hm (by intro z; cases z)), k _ _ h.pf (ne_of h.pf hm (by intro z; cases z)), k _ _ h.ol (ne_of h.ol hm (by intro z; cases z)), fun p hp => k _ _ (h.tp p hp) (ne_of (h.tp p hp) hm (by intro z; cases z)), h.og⟩
theorem MP.same (h : MP H po ol pf ps s) (k : Same H H') : MP H' po ol pf ps s := ⟨k _ _ h.po, k _ _ h.pf, k _ _ h.ol, fun p hp => k _ _ (h.tp p hp), h.og⟩
theorem MP.updL {ll : Addr} {xs ys : List V} (h : MP H po ol pf ps s) (hl : H ll = some (.lst xs)) (ne : ol ≠ ll) : MP (upd H ll (.lst ys)) po ol pf ps s :=
  ⟨by rw [upd_ne (ne_of h.po hl (by intro z; cases z))]; exact h.po, by rw [upd_ne (ne_of h.pf hl (by intro z; cases z))]; exact h.pf, by rw [upd_ne ne]; exact h.ol, fun p hp => by rw [upd_ne (ne_of (h.tp p hp) hl (by intro z; cases z))]; exact h.tp p hp, h.og⟩
theorem MAt.same (h : MAt M H m s) (k : Same H H') : MAt M H' m s := by
  obtain ⟨dx, fs, po, ol, pf, ps, h1, h2, h3⟩ := h
  exact ⟨dx, fs, po, ol, pf, ps, k _ _ h1, h2, h3.same k⟩
theorem MAt.kp {m' M' dx' : Addr} {fs' : List (Str × V)} (h : MAt M H m s) (k : Kp m' H H') (hm : H m' = some (.ins M' dx' fs')) (ne : m ≠ m') : MAt M H' m s := by
  obtain ⟨dx, fs, po, ol, pf, ps, h1, h2, h3⟩ := h
  exact ⟨dx, fs, po, ol, pf, ps, k _ _ h1 ne, h2, h3.kp k hm⟩
theorem WAt.kp {W : Addr} {wd nd cd : Addr} {l : List Word} {m' M' dx' : Addr} {fs' : List (Str × V)} (h : WAt W H wd nd cd l) (k : Kp m' H H') (hm : H m' = some (.ins M' dx' fs')) (ne : wd ≠ m') : WAt W H' wd nd cd l := by
  obtain ⟨⟨dx, fs, h1, h2⟩, ⟨kv, h3, h4⟩, ⟨kv', h5, h6⟩, n⟩ := h
  exact ⟨⟨dx, fs, k _ _ h1 ne, h2⟩, ⟨kv, k _ _ h3 (ne_of h3 hm (by intro z; cases z)), h4⟩, ⟨kv', k _ _ h5 (ne_of h5 hm (by intro z; cases z)), h6⟩, n⟩
theorem mw_ne {W : Addr} {wd nd cd : Addr} {l : List Word} (h : WAt W H wd nd cd l) (h' : MAt M H m s) : wd ≠ m := by
  obtain ⟨⟨dx, fs, h1, h2, _⟩, _⟩ := h
  obtain ⟨dx', fs', po, ol, pf, ps, h3, h4, _⟩ := h'
  refine ne_of h1 h3 fun z => ?_
  injection z with _ _ z
  rw [z, h4.keys] at h2
  exact absurd h2 (by decide +kernel)
theorem MAt.put {s' : Sz30.St} {fs' : List (Str × V)} (hm : H m = some (.ins M dx fs)) (hf : MF fs' po ol pf s') (hp : MP H po ol pf ps s') : MAt M (upd H m (.ins M dx fs')) m s' :=
  ⟨dx, fs', po, ol, pf, ps, upd_same, hf, hp.kp ((Kp.refl m H).upd) hm⟩
end
section
variable {P : Program} {w : World} {K : PySem.W.Frag} {mg : Str → Option Value} {base : Heap} {C M : Addr}
def begF (z : Int) (fs : List (Str × V)) : List (Str × V) := putF "wait" (.int 0) (putF "peck" .non (putF "depth" .non (putF "level" .non (putF "height" (.int z) fs))))
def spBegin (M : Addr) : Sp := fun vs H Q _ => ∃ (m dx po : Addr) (fs : List (Str × V)) (p : Pl), vs = [.ref m] ∧ H m = some (.ins M dx fs) ∧ fs.lookup ("place" : Str) = some (.ref po) ∧ H po = some (.tup (pV p)) ∧ fs.length < 100 ∧
  Q .non (upd H m (.ins M dx (begF (Sz30.axis p 2) fs)))
theorem scBH : FnScope ["self"] ["self"] (defScope (inClass (top 4) 1)) := ⟨rfl, rfl, rfl, by decide +kernel, rfl, by decide +kernel, by decide +kernel⟩
theorem ok_begin (F : WrM K M "begin_holes" "Machine.begin_holes" (inClass (top 4) 1)) (T : TM K M) : Mt P w K mg base CX0 1 M "begin_holes" ["self"] (spBegin M) := by
  obtain ⟨f, fd, hf, hi, F⟩ := F.ex
  refine ⟨f, fd, ⟨hf, hi, F.kp⟩, F.binds (ps := ["self"]) (fun _ _ _ _ _ _ us hl => match us, hl with | [_], _ => rfl), ?_⟩
  refine F.ok scBH (fun vs H Q E h => ?_) (fun cdv A outer s H vs Q E hr h => ?_)
  · obtain ⟨m, dx, po, fs, p, rfl, _⟩ := h
    rfl
  · obtain ⟨m, dx, po, fs, p, rfl, hm, hpl, hpo, hlen, k⟩ := h
    refine ⟨_, pss_cons (ps_fld (pv 0) (pe_ix ix_tup (pe_fld (pv 0) rfl) pe_int (fun _ _ => rfl)) rfl) (pss_cons (ps_fld (pv 0) pe_non rfl) (pss_cons (ps_fld (pv 0) pe_non rfl) (pss_cons (ps_fld (pv 0) pe_non rfl) (pss_one (ps_fld (pv 0) pe_int rfl))))), ?_⟩
    refine ⟨_, rfl, m, M, dx, fs, _, rfl, hm, T.cl, T.place, hpl, po, _, _, _, rfl, rfl, SqT.of hpo, pV_at p (k := 2) (by decide), _, rfl, m, M, dx, fs, rfl, hm, T.cl, T.height, by omega, ?_⟩
    have l1 := length_putF "height" (.int (Sz30.axis p 2)) fs
    refine ⟨_, rfl, m, M, dx, _, rfl, upd_same, T.cl, T.level, by omega, ?_⟩
    rw [upd_upd]
    have l2 := length_putF "level" .non (putF "height" (.int (Sz30.axis p 2)) fs)
    refine ⟨_, rfl, m, M, dx, _, rfl, upd_same, T.cl, T.depth, by omega, ?_⟩
    rw [upd_upd]
    have l3 := length_putF "depth" .non (putF "level" .non (putF "height" (.int (Sz30.axis p 2)) fs))
    refine ⟨_, rfl, m, M, dx, _, rfl, upd_same, T.cl, T.peck, by omega, ?_⟩
    rw [upd_upd]
    have l4 := length_putF "peck" .non (putF "depth" .non (putF "level" .non (putF "height" (.int (Sz30.axis p 2)) fs)))
    refine ⟨_, rfl, m, M, dx, _, rfl, upd_same, T.cl, T.wait, by omega, ?_⟩
    rw [upd_upd]
    exact k
theorem MF.beg {fs : List (Str × V)} {po ol pf : Addr} {s : Sz30.St} (h : MF fs po ol pf s) : MF (begF (Sz30.axis s.at_ 2) fs) po ol pf (MW.begin_ s) :=
  ((((h.sHeight (Sz30.axis s.at_ 2)).sLevel none).sDepth none).sPeck none).sWait 0
def spLength (M : Addr) : Sp := fun vs H Q _ => ∃ (m : Addr) (s : Sz30.St) (x : Int), vs = [.ref m, .int x] ∧ MAt M H m s ∧ Q (.int (s.long x)) H
theorem unit_b (s : Sz30.St) : -(2 ^ 64) < unitOf s ∧ unitOf s < 2 ^ 64 := by
  unfold unitOf
  split <;> exact ⟨by decide, by decide⟩
theorem scLe : FnScope ["self", "number"] ["self", "number"] (defScope (inClass (top 4) 3)) := ⟨rfl, rfl, rfl, by decide +kernel, rfl, by decide +kernel, by decide +kernel⟩
theorem ok_length (F : WrM K M "length" "Machine.length" (inClass (top 4) 3)) (T : TM K M) : Mt P w K mg base CX0 1 M "length" ["self", "number"] (spLength M) := by
  obtain ⟨f, fd, hf, hi, F⟩ := F.ex
  refine ⟨f, fd, ⟨hf, hi, F.kp⟩, F.binds (ps := ["self", "number"]) (fun _ _ _ _ _ _ us hl => match us, hl with | [_, _], _ => rfl), ?_⟩
  refine F.ok scLe (fun vs H Q E h => ?_) (fun cdv A outer s H vs Q E hr h => ?_)
  · obtain ⟨m, s, x, rfl, _⟩ := h
    rfl
  · obtain ⟨m, s, x, rfl, ⟨dx, fs, po, ol, pf, ps, hm, hf', hp⟩, k⟩ := h
    refine ⟨_, pss_one (ps_ret (pe_op op_mul (pv 1) (pe_fld (pv 0) rfl))), ?_⟩
    rw [long_eq] at k
    exact ⟨_, rfl, _, rfl, m, M, dx, fs, _, rfl, hm, T.cl, T.unit, hf'.unit, _, _, rfl, rfl, .inr (unit_b s), k⟩
def spZero (M : Addr) : Sp := fun vs H Q _ => ∃ (m : Addr) (s : Sz30.St) (k : Nat), vs = [.ref m, .int (k : Int)] ∧ MAt M H m s ∧ s.origin < s.origins.length ∧ k < 3 ∧ Q (.int (s.zero k)) H
theorem org_at {ps : List (Addr × Pl)} {l : List Pl} {i : Nat} (h : ps.map (·.2) = l) (hi : i < l.length) : ∃ a p, ps[i]? = some (a, p) ∧ (a, p) ∈ ps ∧ l.getD i (0, 0, 0) = p := by
  have hi' : i < ps.length := by rw [← h, List.length_map] at hi; exact hi
  refine ⟨(ps[i]).1, (ps[i]).2, List.getElem?_eq_getElem hi', List.getElem_mem hi', ?_⟩
  rw [← h, List.getD_eq_getElem?_getD, List.getElem?_map, List.getElem?_eq_getElem hi']
  rfl
theorem ref_at {ps : List (Addr × Pl)} {i : Nat} {a : Addr} {p : Pl} (h : ps[i]? = some (a, p)) : atI (ps.map fun p => V.ref p.1) (i : Int) = some (V.ref a) := by
  refine atI_nat ?_
  rw [List.getElem?_map, h]
  rfl
theorem scPZ : FnScope ["self", "axis"] ["self", "axis"] (defScope (inClass (top 4) 4)) := ⟨rfl, rfl, rfl, by decide +kernel, rfl, by decide +kernel, by decide +kernel⟩
theorem ok_zero (F : WrM K M "program_zero" "Machine.program_zero" (inClass (top 4) 4)) (T : TM K M) : Mt P w K mg base CX0 1 M "program_zero" ["self", "axis"] (spZero M) := by
  obtain ⟨f, fd, hf, hi, F⟩ := F.ex
  refine ⟨f, fd, ⟨hf, hi, F.kp⟩, F.binds (ps := ["self", "axis"]) (fun _ _ _ _ _ _ us hl => match us, hl with | [_, _], _ => rfl), ?_⟩
  refine F.ok scPZ (fun vs H Q E h => ?_) (fun cdv A outer s H vs Q E hr h => ?_)
  · obtain ⟨m, s, x, rfl, _⟩ := h
    rfl
  · obtain ⟨m, s, k, rfl, ⟨dx, fs, po, ol, pf, ps, hm, hf', hp⟩, hlt, hk, kk⟩ := h
    obtain ⟨a, p, h1, h2, h3⟩ := org_at hp.og hlt
    refine ⟨_, pss_one (ps_ret (pe_op op_add (pe_ix ix_tup (pe_ix ix_list (pe_fld (pv 0) rfl) (pe_fld (pv 0) rfl) (fun _ _ => rfl)) (pv 1) (fun _ _ => rfl)) (pe_ix ix_tup (pe_fld (pv 0) rfl) (pv 1) (fun _ _ => rfl)))), ?_⟩
    refine ⟨_, rfl, m, M, dx, fs, _, rfl, hm, T.cl, T.origins, hf'.origins, _, rfl, m, M, dx, fs, _, rfl, hm, T.cl, T.origin, hf'.origin, ol, _, _, _, rfl, rfl, SqL.of hp.ol, ref_at h1, _, rfl, a, _, _, _, rfl, rfl, SqT.of (hp.tp _ h2), pV_at p hk,
      _, rfl, m, M, dx, fs, _, rfl, hm, T.cl, T.put_off, hf'.put_off, _, rfl, pf, _, _, _, rfl, rfl, SqT.of hp.pf, pV_at s.off hk, _, _, rfl, rfl, ?_⟩
    unfold Sz30.St.zero at kk
    rw [h3] at kk
    exact kk
def spMInit (M : Addr) : Sp := fun vs H Q _ => ∃ (m dx : Addr), vs = [.ref m] ∧ H m = some (.ins M dx []) ∧ ∀ H', MAt M H' m Sz30.fresh → Kp m H H' → Q .non H'
theorem scMI : FnScope ["self"] ["self"] (defScope (inClass (top 4) 0)) := ⟨rfl, rfl, rfl, by decide +kernel, rfl, by decide +kernel, by decide +kernel⟩
def Fx (m : Addr) (H : Hp) (l : List (Addr × HO)) : Prop := ∀ q ∈ l, H q.1 = some q.2 ∧ q.1 ≠ m
theorem Fx.nil (m : Addr) (H : Hp) : Fx m H [] := fun q h => absurd h (by simp)
theorem Fx.kp {m : Addr} {H H' : Hp} {l : List (Addr × HO)} (h : Fx m H l) (k : Kp m H H') : Fx m H' l := fun q hq => ⟨k _ _ (h q hq).1 (h q hq).2, (h q hq).2⟩
theorem Fx.new {m p : Addr} {H H' : Hp} {l : List (Addr × HO)} {o u : HO} (h : Fx m H l) (hm : H m = some u) (hp : H p = none) (a : H' p = some o) (s : Same H H') : Fx m H' ((p, o) :: l) := fun q hq => by
  rcases List.mem_cons.mp hq with rfl | hq
  · exact ⟨a, fun e => by rw [show p = m from e] at hp; rw [hm] at hp; cases hp⟩
  · exact ⟨s _ _ (h q hq).1, (h q hq).2⟩
theorem ok_minit {f : Addr} {fd : FuncData} (F : Fun K "__init__" "Machine.__init__" (inClass (top 4) 0) f fd) (T : Tx K mg C) (TM' : TM K M) (GB : Mt P w K mg base CX0 1 M "begin_holes" ["self"] (spBegin M)) : FnOk P w K mg base CX0 2 f fd ["self"] (spMInit M) := by
  refine F.ok scMI (fun vs H Q E h => ?_) (fun cdv A outer s H vs Q E hr h => ?_)
  · obtain ⟨m, dx, rfl, _⟩ := h
    rfl
  · obtain ⟨m, dx, rfl, hm, k⟩ := h
    have T' := TM'
    refine ⟨_, pss_cons (ps_fldN (pv 0) pe_000 rfl)
      (pss_cons (ps_fldN (pv 0) (pe_lstN (pa_cons pe_000 (pa_cons pe_000 (pa_cons pe_000 (pa_cons pe_000 (pa_cons pe_000 (pa_cons pe_000 pa_nil star_tup) star_tup) star_tup) star_tup) star_tup) star_tup)) rfl)
      (pss_cons (ps_fldN (pv 0) pe_int rfl)
      (pss_cons (ps_fldN (pv 0) pe_000 rfl)
      (pss_cons (ps_fldN (pv 0) pe_int rfl) (pss_cons (ps_fldN (pv 0) pe_int rfl) (pss_cons (ps_fldN (pv 0) (pgi T.mm) rfl) (pss_cons (ps_fldN (pv 0) pe_bl rfl) (pss_cons (ps_fldN (pv 0) pe_int rfl)
      (pss_one (ps_expr (pmeth0 (pv 0) T'.cl GB hr pass0))))))))))), ?_⟩
    have z3 : 3 ≤ sizeLine := by decide
    refine ⟨z3, fun p0 H1 n0 a0 s1 => ?_⟩
    refine ⟨_, rfl, m, M, dx, [], rfl, s1 _ _ hm, T'.cl, T'.place, by show 0 < 1000; decide, fun H2 hm2 k2 => ?_⟩
    have f1 := ((Fx.nil m H).new hm n0 a0 s1).kp k2
    have K2 : Kp m H H2 := (s1.kp m).trans k2
    refine ⟨z3, fun t1 H3 n1 a1 s3 => ⟨z3, fun t2 H4 n2 a2 s4 => ⟨z3, fun t3 H5 n3 a3 s5 => ⟨z3, fun t4 H6 n4 a4 s6 => ⟨z3, fun t5 H7 n5 a5 s7 => ⟨z3, fun t6 H8 n6 a6 s8 => ?_⟩⟩⟩⟩⟩⟩
    have f3 := f1.new hm2 n1 a1 s3
    have f4 := f3.new (s3 _ _ hm2) n2 a2 s4
    have f5 := f4.new (s4 _ _ (s3 _ _ hm2)) n3 a3 s5
    have f6 := f5.new (s5 _ _ (s4 _ _ (s3 _ _ hm2))) n4 a4 s6
    have f7 := f6.new (s6 _ _ (s5 _ _ (s4 _ _ (s3 _ _ hm2)))) n5 a5 s7
    have hm7 := s7 _ _ (s6 _ _ (s5 _ _ (s4 _ _ (s3 _ _ hm2))))
    have f8 := f7.new hm7 n6 a6 s8
    have hm8 := s8 _ _ hm7
    have s28 : Same H2 H8 := ((((s3.trans s4).trans s5).trans s6).trans s7).trans s8
    refine ⟨by show 6 ≤ sizeLine; decide, fun ol H9 n9 a9 s9 => ?_⟩
    have f9 := f8.new hm8 n9 a9 s9
    have hm9 := s9 _ _ hm8
    refine ⟨_, rfl, m, M, dx, _, rfl, hm9, T'.cl, T'.origins, by show 1 < 1000; decide, fun H10 hm10 k10 => ?_⟩
    refine ⟨_, rfl, m, M, dx, _, rfl, hm10, T'.cl, T'.origin, ?_, fun H11 hm11 k11 => ?_⟩
    · rw [keys_len (keys_new (ks := ["place"]) (keys_new (ks := []) rfl (by simp)) (by decide +kernel))]; decide
    have K11 : Kp m H H11 := ((K2.trans ((s28.trans s9).kp m)).trans k10).trans k11
    have f11 := (f9.kp k10).kp k11
    refine ⟨z3, fun pf H12 n12 a12 s12 => ?_⟩
    have f12 := f11.new hm11 n12 a12 s12
    have q3 : (putF "origin" (V.int 0) (putF "origins" (V.ref ol) (putF "place" (V.ref p0) []))).map (·.1) = (["place", "origins", "origin"] : List Str) := keys_new (ks := ["place", "origins"]) (keys_new (ks := ["place"]) (keys_new (ks := []) rfl (by simp)) (by decide +kernel)) (by decide +kernel)
    refine ⟨_, rfl, m, M, dx, _, rfl, s12 _ _ hm11, T'.cl, T'.put_off, by rw [keys_len q3]; decide, fun H13 hm13 k13 => ?_⟩
    have q4 := keys_new (f := "put_off") (v := V.ref pf) q3 (by decide +kernel)
    refine ⟨_, rfl, m, M, dx, _, rfl, hm13, T'.cl, T'.motion, by rw [keys_len q4]; decide, fun H14 hm14 k14 => ?_⟩
    have q5 := keys_new (f := "motion") (v := V.int 0) q4 (by decide +kernel)
    refine ⟨_, rfl, m, M, dx, _, rfl, hm14, T'.cl, T'.plane, by rw [keys_len q5]; decide, fun H15 hm15 k15 => ?_⟩
    have q6 := keys_new (f := "plane") (v := V.int 17) q5 (by decide +kernel)
    refine ⟨_, rfl, m, M, dx, _, rfl, hm15, T'.cl, T'.unit, by rw [keys_len q6]; decide, fun H16 hm16 k16 => ?_⟩
    have q7 := keys_new (f := "unit") (v := V.int 10) q6 (by decide +kernel)
    refine ⟨_, rfl, m, M, dx, _, rfl, hm16, T'.cl, T'.steps, by rw [keys_len q7]; decide, fun H17 hm17 k17 => ?_⟩
    have q8 := keys_new (f := "steps") (v := V.bl false) q7 (by decide +kernel)
    refine ⟨_, rfl, m, M, dx, _, rfl, hm17, T'.cl, T'.feed, by rw [keys_len q8]; decide, fun H18 hm18 k18 => ?_⟩
    have q9 := keys_new (f := "feed") (v := V.int 0) q8 (by decide +kernel)
    have f18 := ((((((f12.kp k13).kp k14).kp k15).kp k16).kp k17).kp k18)
    have K18 : Kp m H H18 := ((((((K11.trans (s12.kp m)).trans k13).trans k14).trans k15).trans k16).trans k17).trans k18
    have hp0 : H18 p0 = some (.tup (pV (0, 0, 0))) := (f18 (p0, HO.tup [.int 0, .int 0, .int 0]) (by simp)).1
    refine ⟨_, rfl, m, dx, _, rfl, hm18, lk_none q9 (by decide +kernel), m, dx, p0, _, (0, 0, 0), rfl, hm18, ?_, hp0, by rw [keys_len q9]; decide, ?_⟩
    · exact lk_ne (lk_ne (lk_ne (lk_ne (lk_ne (lk_ne (lk_ne (lk_ne lk_eq)))))))
    refine k _ ?_ (K18.upd)
    have r10 := keys_new (f := "height") (v := V.int 0) q9 (by decide +kernel)
    have r11 := keys_new (f := "level") (v := V.non) r10 (by decide +kernel)
    have r12 := keys_new (f := "depth") (v := V.non) r11 (by decide +kernel)
    have r13 := keys_new (f := "peck") (v := V.non) r12 (by decide +kernel)
    have r14 := keys_new (f := "wait") (v := V.int 0) r13 (by decide +kernel)
    refine MAt.put (po := p0) (ol := ol) (pf := pf) (ps := [(t1, (0, 0, 0)), (t2, (0, 0, 0)), (t3, (0, 0, 0)), (t4, (0, 0, 0)), (t5, (0, 0, 0)), (t6, (0, 0, 0))]) hm18 ⟨r14, ?_, ?_, ?_, ?_, ?_, ?_, ?_, ?_, ?_, ?_, ?_, ?_, ?_, lk_eq⟩ ⟨hp0, (f18 (pf, HO.tup [.int 0, .int 0, .int 0]) (by simp)).1, (f18 (ol, _) (by simp)).1, ?_, rfl⟩
    · exact lk_ne (lk_ne (lk_ne (lk_ne (lk_ne (lk_ne (lk_ne (lk_ne (lk_ne (lk_ne (lk_ne (lk_ne (lk_ne lk_eq))))))))))))
    · exact lk_ne (lk_ne (lk_ne (lk_ne (lk_ne (lk_ne (lk_ne (lk_ne (lk_ne (lk_ne (lk_ne (lk_ne lk_eq)))))))))))
    · exact lk_ne (lk_ne (lk_ne (lk_ne (lk_ne (lk_ne (lk_ne (lk_ne (lk_ne (lk_ne (lk_ne lk_eq))))))))))
    · exact lk_ne (lk_ne (lk_ne (lk_ne (lk_ne (lk_ne (lk_ne (lk_ne (lk_ne (lk_ne lk_eq)))))))))
    · exact lk_ne (lk_ne (lk_ne (lk_ne (lk_ne (lk_ne (lk_ne (lk_ne (lk_ne lk_eq))))))))
    · exact lk_ne (lk_ne (lk_ne (lk_ne (lk_ne (lk_ne (lk_ne (lk_ne lk_eq)))))))
    · exact lk_ne (lk_ne (lk_ne (lk_ne (lk_ne (lk_ne (lk_ne lk_eq))))))
    · exact lk_ne (lk_ne (lk_ne (lk_ne (lk_ne (lk_ne lk_eq)))))
    · exact lk_ne (lk_ne (lk_ne (lk_ne (lk_ne lk_eq))))
    · exact lk_ne (lk_ne (lk_ne (lk_ne lk_eq)))
    · exact lk_ne (lk_ne (lk_ne lk_eq))
    · exact lk_ne (lk_ne lk_eq)
    · exact lk_ne lk_eq
    · intro p hp
      simp only [List.mem_cons, List.not_mem_nil, or_false] at hp
      rcases hp with rfl | rfl | rfl | rfl | rfl | rfl
      · exact (f18 (t1, HO.tup [.int 0, .int 0, .int 0]) (by simp)).1
      · exact (f18 (t2, HO.tup [.int 0, .int 0, .int 0]) (by simp)).1
      · exact (f18 (t3, HO.tup [.int 0, .int 0, .int 0]) (by simp)).1
      · exact (f18 (t4, HO.tup [.int 0, .int 0, .int 0]) (by simp)).1
      · exact (f18 (t5, HO.tup [.int 0, .int 0, .int 0]) (by simp)).1
      · exact (f18 (t6, HO.tup [.int 0, .int 0, .int 0]) (by simp)).1
def spTwin (M : Addr) : Sp := fun vs H Q _ => ∃ (m : Addr) (s : Sz30.St), vs = [.ref m] ∧ MAt M H m s ∧ ∀ (t : Addr) (H' : Hp), MAt M H' t s → Same H H' → H t = none → Q (.ref t) H'
theorem scTw : FnScope ["self", "other"] ["self"] (defScope (inClass (top 4) 2)) := ⟨rfl, rfl, rfl, by decide +kernel, rfl, by decide +kernel, by decide +kernel⟩
theorem ok_twin (F : WrM K M "twin" "Machine.twin" (inClass (top 4) 2)) (T : Tx K mg C) (TM' : TM K M) (GM : In P w K mg base CX0 2 M "Machine" ["self"] (spMInit M)) : Mt P w K mg base CX0 4 M "twin" ["self"] (spTwin M) := by
  obtain ⟨f, fd, hf, hi, F⟩ := F.ex
  refine ⟨f, fd, ⟨hf, hi, F.kp⟩, F.binds (ps := ["self"]) (fun _ _ _ _ _ _ us hl => match us, hl with | [_], _ => rfl), ?_⟩
  refine F.ok scTw (fun vs H Q E h => ?_) (fun cdv A outer s H vs Q E hr h => ?_)
  · obtain ⟨m, s, rfl, _⟩ := h
    rfl
  · obtain ⟨m, s, rfl, hM, k⟩ := h
    refine ⟨_, pss_cons (ps_set (i := 1) scTw.nd rfl (Or.inl rfl) (pmake0 GM hr pass0))
      (pss_cons (ps_fldN (pv 1) (pe_fld (pv 0) rfl) rfl) (pss_cons (ps_fldN (pv 1) (pe_callTy call_listN (by rfl) T.list b_list (pa_cons (pe_fld (pv 0) rfl) pa_nil)) rfl)
      (pss_cons (ps_fldN (pv 1) (pe_fld (pv 0) rfl) rfl) (pss_cons (ps_fldN (pv 1) (pe_fld (pv 0) rfl) rfl) (pss_cons (ps_fldN (pv 1) (pe_fld (pv 0) rfl) rfl) (pss_cons (ps_fldN (pv 1) (pe_fld (pv 0) rfl) rfl)
      (pss_cons (ps_fldN (pv 1) (pe_fld (pv 0) rfl) rfl) (pss_cons (ps_fldN (pv 1) (pe_fld (pv 0) rfl) rfl) (pss_cons (ps_fldN (pv 1) (pe_fld (pv 0) rfl) rfl) (pss_cons (ps_fldN (pv 1) (pe_fld (pv 0) rfl) rfl)
      (pss_cons (ps_fldN (pv 1) (pe_fld (pv 0) rfl) rfl) (pss_cons (ps_fldN (pv 1) (pe_fld (pv 0) rfl) rfl) (pss_cons (ps_fldN (pv 1) (pe_fld (pv 0) rfl) rfl) (pss_cons (ps_fldN (pv 1) (pe_fld (pv 0) rfl) rfl)
      (pss_one (ps_ret (pv 1))))))))))))))))), ?_⟩
    obtain ⟨dx, fs, po, ol, pf, ps, hm, hf', hp⟩ := id hM
    have T' := TM'
    intro t dt n1 n2 n3
    refine ⟨t, dt, rfl, upd_same, fun H1 hT kp => ⟨rfl, ?_⟩⟩
    have s1 : Same H H1 := Same.made n1 n2 kp
    have nm : m ≠ t := ne_of_none hm n1
    obtain ⟨dt', ft, po', ol', pf', ps', ht, g0, _⟩ := hT
    have m1 := s1 _ _ hm
    have p1 := hp.same s1
    refine ⟨_, rfl, m, M, dx, fs, _, rfl, m1, T'.cl, T'.place, hf'.place, _, rfl, t, M, dt', ft, rfl, ht, T'.cl, T'.place, g0.len, fun H2 ht2 k2 => ?_⟩
    have g1 := g0.sPlace s.at_ po
    have m2 := k2 _ _ m1 nm
    have p2 := p1.kp k2 ht
    refine ⟨_, rfl, m, M, dx, fs, _, rfl, m2, T'.cl, T'.origins, hf'.origins, ol, _, rfl, .inl (SqL.of p2.ol), fun ol2 H3 n3' a3 s3 => ?_⟩
    have m3 := s3 _ _ m2
    have ht3 := s3 _ _ ht2
    have p3 := p2.same s3
    refine ⟨_, rfl, t, M, dt', _, rfl, ht3, T'.cl, T'.origins, g1.len, fun H4 ht4 k4 => ?_⟩
    have g2 := g1.sOrigins s.origins ol2
    have m4 := k4 _ _ m3 nm
    have p4 := p3.kp k4 ht3
    have a4 := k4 _ _ a3 (ne_of a3 ht3 (by intro z; cases z))
    refine ⟨_, rfl, m, M, dx, fs, _, rfl, m4, T'.cl, T'.origin, hf'.origin, _, rfl, t, M, dt', _, rfl, ht4, T'.cl, T'.origin, g2.len, fun H5 ht5 k5 => ?_⟩
    have g3 := g2.sOrigin s.origin
    have m5 := k5 _ _ m4 nm
    refine ⟨_, rfl, m, M, dx, fs, _, rfl, m5, T'.cl, T'.put_off, hf'.put_off, _, rfl, t, M, dt', _, rfl, ht5, T'.cl, T'.put_off, g3.len, fun H6 ht6 k6 => ?_⟩
    have g4 := g3.sOff s.off pf
    have m6 := k6 _ _ m5 nm
    refine ⟨_, rfl, m, M, dx, fs, _, rfl, m6, T'.cl, T'.motion, hf'.motion, _, rfl, t, M, dt', _, rfl, ht6, T'.cl, T'.motion, g4.len, fun H7 ht7 k7 => ?_⟩
    have g5 := g4.sMotion s.motion
    have m7 := k7 _ _ m6 nm
    refine ⟨_, rfl, m, M, dx, fs, _, rfl, m7, T'.cl, T'.plane, hf'.plane, _, rfl, t, M, dt', _, rfl, ht7, T'.cl, T'.plane, g5.len, fun H8 ht8 k8 => ?_⟩
    have g6 := g5.sPlane s.plane
    have m8 := k8 _ _ m7 nm
    refine ⟨_, rfl, m, M, dx, fs, _, rfl, m8, T'.cl, T'.unit, hf'.unit, _, rfl, t, M, dt', _, rfl, ht8, T'.cl, T'.unit, g6.len, fun H9 ht9 k9 => ?_⟩
    have g7 := g6.sUnit s.inches
    have m9 := k9 _ _ m8 nm
    refine ⟨_, rfl, m, M, dx, fs, _, rfl, m9, T'.cl, T'.steps, hf'.steps, _, rfl, t, M, dt', _, rfl, ht9, T'.cl, T'.steps, g7.len, fun H10 ht10 k10 => ?_⟩
    have g8 := g7.sSteps s.steps
    have m10 := k10 _ _ m9 nm
    refine ⟨_, rfl, m, M, dx, fs, _, rfl, m10, T'.cl, T'.feed, hf'.feed, _, rfl, t, M, dt', _, rfl, ht10, T'.cl, T'.feed, g8.len, fun H11 ht11 k11 => ?_⟩
    have g9 := g8.sFeed s.feed
    have m11 := k11 _ _ m10 nm
    refine ⟨_, rfl, m, M, dx, fs, _, rfl, m11, T'.cl, T'.height, hf'.height, _, rfl, t, M, dt', _, rfl, ht11, T'.cl, T'.height, g9.len, fun H12 ht12 k12 => ?_⟩
    have g10 := g9.sHeight s.height
    have m12 := k12 _ _ m11 nm
    refine ⟨_, rfl, m, M, dx, fs, _, rfl, m12, T'.cl, T'.level, hf'.level, _, rfl, t, M, dt', _, rfl, ht12, T'.cl, T'.level, g10.len, fun H13 ht13 k13 => ?_⟩
    have g11 := g10.sLevel s.level
    have m13 := k13 _ _ m12 nm
    refine ⟨_, rfl, m, M, dx, fs, _, rfl, m13, T'.cl, T'.depth, hf'.depth, _, rfl, t, M, dt', _, rfl, ht13, T'.cl, T'.depth, g11.len, fun H14 ht14 k14 => ?_⟩
    have g12 := g11.sDepth s.depth
    have m14 := k14 _ _ m13 nm
    refine ⟨_, rfl, m, M, dx, fs, _, rfl, m14, T'.cl, T'.peck, hf'.peck, _, rfl, t, M, dt', _, rfl, ht14, T'.cl, T'.peck, g12.len, fun H15 ht15 k15 => ?_⟩
    have g13 := g12.sPeck s.peck
    have m15 := k15 _ _ m14 nm
    refine ⟨_, rfl, m, M, dx, fs, _, rfl, m15, T'.cl, T'.wait, hf'.wait, _, rfl, t, M, dt', _, rfl, ht15, T'.cl, T'.wait, g13.len, fun H16 ht16 k16 => ?_⟩
    have g14 := g13.sWait s.wait
    have kk : Kp t H4 H16 := ((((((((((k5.trans k6).trans k7).trans k8).trans k9).trans k10).trans k11).trans k12).trans k13).trans k14).trans k15).trans k16
    have p16 := p4.kp kk ht4
    have a16 := kk _ _ a4 (ne_of a4 ht4 (by intro z; cases z))
    refine ⟨_, rfl, k t H16 ⟨dt', _, po, ol2, pf, ps, ht16, ⟨g14.keys, g14.place, g14.origins, g14.origin, g14.put_off, g14.motion, g14.plane, g14.unit, g14.steps, g14.feed, g14.height, g14.level, g14.depth, g14.peck, g14.wait⟩, ⟨p16.po, p16.pf, a16, p16.tp, p16.og⟩⟩ (fun b o e => ?_) n1⟩
    have nb : b ≠ t := ne_of_none e n1
    exact kk _ _ (k4 _ _ (s3 _ _ (k2 _ _ (s1 _ _ e) nb)) nb) nb
end
end MV
set_option maxRecDepth 100000
set_option maxHeartbeats 1000000
namespace MV
open PySem L2
seal L2.PE L2.PA L2.PS L2.PSs L2.PT L2.PW L2.PC L2.PI L2.PG L2.PO
open Sz30 (Bytes Word straight plain axis)
open MW (SOk WB axT ceT cSpecial cMotion own endP told)
abbrev Mv := Sz30.Move
section
variable {W : Addr} {H : Hp} {wd nd cd : Addr} {l : List Word}
theorem WAt.gN (h : WAt W H wd nd cd l) {c : Nat} (h1 : c ≠ 71 := by decide) (h2 : c ≠ 77 := by decide) : DGet H nd (.str (ch c)) ((fnd l c).map V.int) := by
  obtain ⟨_, ⟨kv, q, _, hN⟩, _⟩ := h
  rw [← hN c h1 h2]
  exact DGet.k (k := Sum.inr (ch c)) q
theorem WAt.gC (h : WAt W H wd nd cd l) (e : Str × Char × List Int) (he : e ∈ gt := by decide +kernel) : DGet H cd (.str e.1) ((Sz30.chosen (Sz30.all l e.2.1) e.2.2).map V.int) := by
  obtain ⟨_, _, ⟨kv, q, _, hC⟩, _⟩ := h
  rw [← hC e he]
  exact DGet.k (k := Sum.inr e.1) q
theorem WAt.dC (h : WAt W H wd nd cd l) : IsD H cd := by
  obtain ⟨_, _, ⟨kv, q, _⟩, _⟩ := h
  exact .inl ⟨kv, .inl q⟩
theorem WAt.dN (h : WAt W H wd nd cd l) : IsD H nd := by
  obtain ⟨_, ⟨kv, q, _⟩, _⟩ := h
  exact .inl ⟨kv, .inl q⟩
theorem _root_.L2.DGet.to {a : Addr} {y : V} {o o' : Option V} (h : DGet H a y o) (e : o = o') : DGet H a y o' := e ▸ h
end
def nO (o : Option Int) : V := (o.map V.int).getD .non
theorem scal_o (o : Option Int) (n : Int) : scal ((o.map V.int).getD .non) (.int n) = true := by cases o <;> rfl
theorem eq_o {o : Option Int} {n : Int} : decide ((o.map V.int).getD .non = V.int n) = true ↔ o = some n := by
  cases o with
  | none => simp
  | some x => simp
theorem isSome_map {o : Option Int} : (o.map V.int).isSome = o.isSome := by cases o <;> rfl
theorem sX : ("X" : Str) = ch 88 := by decide +kernel
theorem sP : ("P" : Str) = ch 80 := by decide +kernel
theorem sR : ("R" : Str) = ch 82 := by decide +kernel
theorem sZ : ("Z" : Str) = ch 90 := by decide +kernel
theorem sQ : ("Q" : Str) = ch 81 := by decide +kernel
theorem sF : ("F" : Str) = ch 70 := by decide +kernel
theorem sT : ("T" : Str) = ch 84 := by decide +kernel
theorem sS : ("S" : Str) = ch 83 := by decide +kernel
theorem cXYZ : ("XYZ" : Str).cps.toList = [88, 89, 90] := by decide +kernel
theorem cIJK : ("IJK" : Str).cps.toList = [73, 74, 75] := by decide +kernel
theorem tells_ax (l : List Word) : tells l "XYZ" = axT l := by
  unfold tells axT told
  rw [cXYZ]
  simp only [List.any_cons, List.any_nil, Bool.or_false]
  rfl
theorem tells_ce (l : List Word) : tells l "IJK" = ceT l := by
  unfold tells ceT told
  rw [cIJK]
  simp only [List.any_cons, List.any_nil, Bool.or_false]
  rfl
theorem ax_let {k : Nat} (h : k < 3) : atI ("XYZ" : Str).cps.toList (k : Int) = some (88 + k) := by
  rw [cXYZ]
  refine atI_nat ?_
  match k, h with
  | 0, _ => rfl
  | 1, _ => rfl
  | 2, _ => rfl
theorem ax_get (l : List Word) {k : Nat} (h : k < 3) : Sz30.get l (Sz30.names.getD k 'X') = fnd l (88 + k) := by
  match k, h with
  | 0, _ => rfl
  | 1, _ => rfl
  | 2, _ => rfl
theorem ce_let {k : Nat} (h : k < 3) : atI ("IJK" : Str).cps.toList (k : Int) = some (73 + k) := by
  rw [cIJK]
  refine atI_nat ?_
  match k, h with
  | 0, _ => rfl
  | 1, _ => rfl
  | 2, _ => rfl
theorem ce_get (l : List Word) {k : Nat} (h : k < 3) : Sz30.get l (Sz30.centres.getD k 'I') = fnd l (73 + k) := by
  match k, h with
  | 0, _ => rfl
  | 1, _ => rfl
  | 2, _ => rfl
def mV (m : Mv) : List V := m.map V.int
structure LsAt (H : Hp) (a : Addr) (ms : List Mv) : Prop where
  ex : ∃ ps : List (Addr × Mv), H a = some (.lst (ps.map fun p => V.ref p.1)) ∧ (∀ p ∈ ps, H p.1 = some (.tup (mV p.2))) ∧ ps.map (·.2) = ms
theorem LsAt.same {H H' : Hp} {a : Addr} {ms : List Mv} (h : LsAt H a ms) (s : Same H H') : LsAt H' a ms := by
  obtain ⟨ps, h1, h2, h3⟩ := h
  exact ⟨ps, s _ _ h1, fun p hp => s _ _ (h2 p hp), h3⟩
theorem LsAt.kp {H H' : Hp} {a m M dx : Addr} {fs : List (Str × V)} {ms : List Mv} (h : LsAt H a ms) (k : Kp m H H') (hm : H m = some (.ins M dx fs)) : LsAt H' a ms := by
  obtain ⟨ps, h1, h2, h3⟩ := h
  exact ⟨ps, k _ _ h1 (ne_of h1 hm (by intro z; cases z)), fun p hp => k _ _ (h2 p hp) (ne_of (h2 p hp) hm (by intro z; cases z)), h3⟩
theorem LsAt.nil {H : Hp} {a : Addr} (h : H a = some (.lst [])) : LsAt H a [] := ⟨[], h, fun _ h => absurd h (by simp), rfl⟩
theorem LsAt.one {H : Hp} {a q : Addr} {mv : Mv} (h : H a = some (.lst [.ref q])) (hq : H q = some (.tup (mV mv))) : LsAt H a [mv] :=
  ⟨[(q, mv)], h, fun p hp => by obtain rfl := List.mem_singleton.mp hp; exact hq, rfl⟩
theorem LsAt.two {H : Hp} {a q q' : Addr} {mv mv' : Mv} (h : H a = some (.lst [.ref q, .ref q'])) (hq : H q = some (.tup (mV mv))) (hq' : H q' = some (.tup (mV mv'))) : LsAt H a [mv, mv'] :=
  ⟨[(q, mv), (q', mv')], h, fun p hp => by
    simp only [List.mem_cons, List.not_mem_nil, or_false] at hp
    rcases hp with rfl | rfl
    · exact hq
    · exact hq', rfl⟩
theorem LsAt.app {H : Hp} {a q : Addr} {ms : List Mv} {mv : Mv} (h : LsAt H a ms) (hq : H q = some (.tup (mV mv))) : ∃ xs, H a = some (.lst xs) ∧ xs.length = ms.length ∧ LsAt (upd H a (.lst (xs ++ [.ref q]))) a (ms ++ [mv]) := by
  obtain ⟨ps, h1, h2, h3⟩ := h
  refine ⟨_, h1, by rw [List.length_map, ← h3, List.length_map], ⟨ps ++ [(q, mv)], by rw [upd_same, List.map_append]; rfl, fun p hp => ?_, by rw [List.map_append, h3]; rfl⟩⟩
  rcases List.mem_append.mp hp with hp | hp
  · rw [upd_ne (ne_of (h2 p hp) h1 (by intro z; cases z))]
    exact h2 p hp
  · obtain rfl := List.mem_singleton.mp hp
    rw [upd_ne (ne_of hq h1 (by intro z; cases z))]
    exact hq
theorem LsAt.ext {H : Hp} {a b : Addr} {ms ms' : List Mv} (h : LsAt H a ms) (hb : LsAt H b ms') : ∃ xs ys, H a = some (.lst xs) ∧ H b = some (.lst ys) ∧ xs.length = ms.length ∧ ys.length = ms'.length ∧ LsAt (upd H a (.lst (xs ++ ys))) a (ms ++ ms') := by
  obtain ⟨ps, h1, h2, h3⟩ := h
  obtain ⟨ps', g1, g2, g3⟩ := hb
  refine ⟨_, _, h1, g1, by rw [List.length_map, ← h3, List.length_map], by rw [List.length_map, ← g3, List.length_map], ⟨ps ++ ps', by rw [upd_same, List.map_append], fun p hp => ?_, by rw [List.map_append, h3, g3]⟩⟩
  rcases List.mem_append.mp hp with hp | hp
  · rw [upd_ne (ne_of (h2 p hp) h1 (by intro z; cases z))]
    exact h2 p hp
  · rw [upd_ne (ne_of (g2 p hp) h1 (by intro z; cases z))]
    exact g2 p hp
section
variable {P : Program} {w : World} {K : PySem.W.Frag} {mg : Str → Option Value} {base : Heap} {C M W : Addr}
def spFast : Sp := fun vs H Q _ => ∃ (a : Addr) (p : Pl), vs = [.ref a] ∧ H a = some (.tup (pV p)) ∧ ∀ q H', H' q = some (.tup (mV (straight 0 p 0))) → Same H H' → Q (.ref q) H'
theorem scFM : FnScope ["place"] ["place"] (defScope (top 46)) := ⟨rfl, rfl, rfl, by decide +kernel, rfl, by decide +kernel, by decide +kernel⟩
theorem ok_fast (F : Wr K mg "fast_move" (top 46)) : Fn P w K mg base CX0 1 "fast_move" ["place"] spFast := by
  obtain ⟨f, fd, hm, F⟩ := F.ex
  refine ⟨f, fd, hm, F.kp, F.binds (ps := ["place"]) (fun _ _ _ _ _ _ us hl => match us, hl with | [_], _ => rfl), ?_⟩
  refine F.ok scFM (fun vs H Q E h => ?_) (fun cdv A outer s H vs Q E hr h => ?_)
  · obtain ⟨a, p, rfl, _⟩ := h
    rfl
  · obtain ⟨a, p, rfl, ha, k⟩ := h
    refine ⟨_, pss_one (ps_ret (pe_tupN (pa_cons pe_int (pa_cons (pe_ix ix_tup (pv 0) pe_int (fun _ _ => rfl)) (pa_cons (pe_ix ix_tup (pv 0) pe_int (fun _ _ => rfl)) (pa_cons (pe_ix ix_tup (pv 0) pe_int (fun _ _ => rfl))
      (pa_cons pe_int (pa_cons pe_int (pa_cons pe_int (pa_cons pe_int pa_nil)))))))))), ?_⟩
    refine ⟨_, rfl, a, _, _, _, rfl, rfl, SqT.of ha, pV_at p (k := 0) (by decide), _, rfl, a, _, _, _, rfl, rfl, SqT.of ha, pV_at p (k := 1) (by decide), _, rfl, a, _, _, _, rfl, rfl, SqT.of ha, pV_at p (k := 2) (by decide), by show 8 ≤ sizeLine; decide, fun q H' n a' s' => k q H' ?_ s'⟩
    rw [a']
    rfl
def spStraight : Sp := fun vs H Q _ => ∃ (a : Addr) (p : Pl) (f : Int), vs = [.ref a, .int f] ∧ H a = some (.tup (pV p)) ∧ ∀ q H', H' q = some (.tup (mV (straight 1 p f))) → Same H H' → Q (.ref q) H'
theorem scSM : FnScope ["place", "feed"] ["place", "feed"] (defScope (top 47)) := ⟨rfl, rfl, rfl, by decide +kernel, rfl, by decide +kernel, by decide +kernel⟩
theorem ok_straight (F : Wr K mg "straight_move" (top 47)) : Fn P w K mg base CX0 1 "straight_move" ["place", "feed"] spStraight := by
  obtain ⟨f, fd, hm, F⟩ := F.ex
  refine ⟨f, fd, hm, F.kp, F.binds (ps := ["place", "feed"]) (fun _ _ _ _ _ _ us hl => match us, hl with | [_, _], _ => rfl), ?_⟩
  refine F.ok scSM (fun vs H Q E h => ?_) (fun cdv A outer s H vs Q E hr h => ?_)
  · obtain ⟨a, p, f, rfl, _⟩ := h
    rfl
  · obtain ⟨a, p, fe, rfl, ha, k⟩ := h
    refine ⟨_, pss_one (ps_ret (pe_tupN (pa_cons pe_int (pa_cons (pe_ix ix_tup (pv 0) pe_int (fun _ _ => rfl)) (pa_cons (pe_ix ix_tup (pv 0) pe_int (fun _ _ => rfl)) (pa_cons (pe_ix ix_tup (pv 0) pe_int (fun _ _ => rfl))
      (pa_cons (pv 1) (pa_cons pe_int (pa_cons pe_int (pa_cons pe_int pa_nil)))))))))), ?_⟩
    refine ⟨_, rfl, a, _, _, _, rfl, rfl, SqT.of ha, pV_at p (k := 0) (by decide), _, rfl, a, _, _, _, rfl, rfl, SqT.of ha, pV_at p (k := 1) (by decide), _, rfl, a, _, _, _, rfl, rfl, SqT.of ha, pV_at p (k := 2) (by decide), _, rfl, by show 8 ≤ sizeLine; decide, fun q H' n a' s' => k q H' ?_ s'⟩
    rw [a']
    rfl
def spOther : Sp := fun vs H Q _ => ∃ (k a b : Int), vs = [.int k, .int a, .int b] ∧ ∀ q H', H' q = some (.tup (mV (plain k a b))) → Same H H' → Q (.ref q) H'
theorem scOM : FnScope ["kind", "first", "second"] ["kind", "first", "second"] (defScope (top 48)) := ⟨rfl, rfl, rfl, by decide +kernel, rfl, by decide +kernel, by decide +kernel⟩
theorem ok_other (F : Wr K mg "other_move" (top 48)) : Fn P w K mg base CX0 1 "other_move" ["kind", "first", "second"] spOther := by
  obtain ⟨f, fd, hm, F⟩ := F.ex
  refine ⟨f, fd, hm, F.kp, F.binds (ps := ["kind", "first", "second"]) (fun _ _ _ _ _ _ us hl => match us, hl with | [_, _, _], _ => rfl), ?_⟩
  refine F.ok scOM (fun vs H Q E h => ?_) (fun cdv A outer s H vs Q E hr h => ?_)
  · obtain ⟨a, p, f, rfl, _⟩ := h
    rfl
  · obtain ⟨a, b, c, rfl, k⟩ := h
    refine ⟨_, pss_one (ps_ret (pe_tupN (pa_cons (pv 0) (pa_cons (pv 1) (pa_cons (pv 2) (pa_cons pe_int (pa_cons pe_int (pa_cons pe_int (pa_cons pe_int (pa_cons pe_int pa_nil)))))))))), ?_⟩
    refine ⟨_, rfl, _, rfl, _, rfl, by show 8 ≤ sizeLine; decide, fun q H' n a' s' => k q H' ?_ s'⟩
    rw [a']
    rfl
def spFeed (M C : Addr) : Sp := fun vs H Q E => ∃ (m : Addr) (s : Sz30.St), vs = [.ref m] ∧ MAt M H m s ∧ (¬ s.feed = 0 → Q .non H) ∧ (s.feed = 0 → E (.ref C) none H)
theorem scRF : FnScope ["machine"] ["machine"] (defScope (top 52)) := ⟨rfl, rfl, rfl, by decide +kernel, rfl, by decide +kernel, by decide +kernel⟩
theorem ok_feed (F : Wr K mg "require_feed" (top 52)) (T : Tx K mg C) (T' : TM K M) : Fn P w K mg base (CXE P w C) 1 "require_feed" ["machine"] (spFeed M C) := by
  obtain ⟨f, fd, hm, F⟩ := F.ex
  refine ⟨f, fd, hm, F.kp, F.binds (ps := ["machine"]) (fun _ _ _ _ _ _ us hl => match us, hl with | [_], _ => rfl), ?_⟩
  refine F.okE scRF (fun vs H Q E h => ?_) (fun cdv A outer s H vs Q E hr h => ?_)
  · obtain ⟨a, p, rfl, _⟩ := h
    rfl
  · obtain ⟨m, s, rfl, ⟨dx, fs, po, ol, pf, ps, hm, hf, hp⟩, k, kE⟩ := h
    refine ⟨_, pss_one (ps_if (pt_cmpR op_eq (pe_fld (pv 0) rfl) pe_int (nomark _)) (pss_one (ps_raise T.exc rfl raiseE rfl (pa_cons pe_str pa_nil))) pss_nil), ?_⟩
    refine ⟨_, rfl, m, M, dx, fs, _, rfl, hm, T'.cl, T'.feed, hf.feed, rfl, _, rfl, iteB (p := s.feed = 0) eqI (fun e => ⟨by show 1 ≤ sizeLine; decide, kE e⟩) (fun e => k e)⟩
def spEndA (M W : Addr) : Sp := fun vs H Q _ => ∃ (m wd nd cd : Addr) (s : Sz30.St) (l : List Word) (k : Nat), vs = [.ref m, .ref wd, .int (k : Int)] ∧ MAt M H m s ∧ WAt W H wd nd cd l ∧ s.origin < s.origins.length ∧ k < 3 ∧ Q (.int (s.to (own l) l k)) H
theorem scEA : FnScope ["machine", "words", "axis", "told"] ["machine", "words", "axis"] (defScope (top 54)) := ⟨rfl, rfl, rfl, by decide +kernel, rfl, by decide +kernel, by decide +kernel⟩
theorem ok_end_axis (F : Wr K mg "end_on_axis" (top 54)) (T : Tx K mg C) (T' : TM K M) (TW' : TW K W) (GL : Mt P w K mg base CX0 1 M "length" ["self", "number"] (spLength M)) (GZ : Mt P w K mg base CX0 1 M "program_zero" ["self", "axis"] (spZero M)) :
    Fn P w K mg base CX0 2 "end_on_axis" ["machine", "words", "axis"] (spEndA M W) := by
  obtain ⟨f, fd, hm, F⟩ := F.ex
  refine ⟨f, fd, hm, F.kp, F.binds (ps := ["machine", "words", "axis"]) (fun _ _ _ _ _ _ us hl => match us, hl with | [_, _, _], _ => rfl), ?_⟩
  refine F.ok scEA (fun vs H Q E h => ?_) (fun cdv A outer s H vs Q E hr h => ?_)
  · obtain ⟨_, _, _, _, _, _, _, rfl, _⟩ := h
    rfl
  · obtain ⟨m, wd, nd, cd, s, l, k, rfl, hM, hW, hlt, hk, kk⟩ := h
    have hu := hu_of hr
    obtain ⟨dx, fs, po, ol, pf, ps, hm, hf, hp⟩ := id hM
    obtain ⟨dw, fw, hw, hwk, hwn, hwc⟩ := hW.ob
    refine ⟨_, pss_cons (ps_if (pt_cmp (pc_dnotin hu (pe_ix ix_str (pgs T.ax) (pv 2) (fun _ _ => rfl)) (pe_fld (pv 1) rfl))) (pss_one (ps_ret (pe_ix ix_tup (pe_fld (pv 0) rfl) (pv 2) (fun _ _ => rfl)))) pss_nil)
      (pss_cons (ps_set (i := 3) scEA.nd rfl (Or.inl rfl) (pmeth (pv 0) T'.cl GL hr pass0 (pa_cons (pe_dget hu (pe_fld (pv 1) rfl) (pe_ix ix_str (pgs T.ax) (pv 2) (fun _ _ => rfl)) (fun _ _ => rfl)) pa_nil)))
      (pss_cons (ps_if (pt_cmpR op_eq (pe_dget1 hu (pe_fld (pv 1) rfl) pe_str ⟨rfl, rfl, rfl, rfl⟩) pe_int (nomark _)) (pss_one (ps_ret (pv 3))) pss_nil)
      (pss_cons (ps_if (pt_val (pe_fld (pv 0) rfl)) (pss_one (ps_ret (pe_op op_add (pe_ix ix_tup (pe_fld (pv 0) rfl) (pv 2) (fun _ _ => rfl)) (pv 3)))) pss_nil)
      (pss_one (ps_ret (pe_op op_add (pmeth (pv 0) T'.cl GZ hr pass0 (pa_cons (pv 2) pa_nil)) (pv 3))))))), ?_⟩
    have z3 : ("XYZ" : Str).length ≤ sizeLine := by decide +kernel
    have gx := hW.gN (c := 88 + k) (by omega) (by omega)
    unfold Sz30.St.to at kk
    rw [ax_get l hk] at kk
    refine ⟨_, rfl, _, _, _, rfl, rfl, z3, ax_let hk, _, rfl, wd, W, dw, fw, _, rfl, hw, TW'.cl, TW'.nNu, hwn, nd, _, rfl, gx, _, rfl, ?_⟩
    cases hx : fnd l (88 + k) with
    | none =>
      rw [hx] at kk
      exact iteT ⟨_, rfl, m, M, dx, fs, _, rfl, hm, T'.cl, T'.place, hf.place, _, rfl, po, _, _, _, rfl, rfl, SqT.of hp.po, pV_at s.at_ hk, kk⟩
    | some x =>
      rw [hx] at kk gx
      refine iteF ?_
      refine ⟨_, rfl, m, dx, fs, rfl, hm, lk_none hf.keys (by decide +kernel), _, rfl, wd, W, dw, fw, _, rfl, hw, TW'.cl, TW'.nNu, hwn, _, rfl, _, _, _, rfl, rfl, z3, ax_let hk, nd, _, rfl, gx, m, s, x, rfl, hM, ?_⟩
      refine ⟨_, rfl, wd, W, dw, fw, _, rfl, hw, TW'.cl, TW'.nCo, hwc, cd, rfl, hW.dC, _, hW.gC ("special", 'G', [4, 53, 92]), scal_o _ _, _, rfl, ?_⟩
      refine iteB (p := cSpecial l = some 53) eq_o (fun e => ?_) (fun e => ?_)
      · have : own l = true := decide_eq_true e
        simp only [this, if_true] at kk
        exact ⟨_, rfl, kk⟩
      · have : own l = false := decide_eq_false e
        simp only [this, Bool.false_eq_true, if_false] at kk
        refine ⟨_, rfl, m, M, dx, fs, _, rfl, hm, T'.cl, T'.steps, hf.steps, _, rfl, ?_⟩
        cases hs : s.steps with
        | true =>
          rw [hs, if_pos rfl] at kk
          exact iteT ⟨_, rfl, m, M, dx, fs, _, rfl, hm, T'.cl, T'.place, hf.place, _, rfl, po, _, _, _, rfl, rfl, SqT.of hp.po, pV_at s.at_ hk, _, rfl, _, _, rfl, rfl, kk⟩
        | false =>
          rw [hs, if_neg (by decide)] at kk
          exact iteF ⟨_, rfl, m, dx, fs, rfl, hm, lk_none hf.keys (by decide +kernel), _, rfl, m, s, k, rfl, hM, hlt, hk, _, rfl, _, _, rfl, rfl, kk⟩
def spEndP (M W : Addr) : Sp := fun vs H Q _ => ∃ (m wd nd cd : Addr) (s : Sz30.St) (l : List Word), vs = [.ref m, .ref wd] ∧ MAt M H m s ∧ WAt W H wd nd cd l ∧ s.origin < s.origins.length ∧
  ∀ q H', H' q = some (.tup (pV (endP s l))) → Same H H' → Q (.ref q) H'
theorem scEP : FnScope ["machine", "words", "axis"] ["machine", "words"] (defScope (top 53)) := ⟨rfl, rfl, rfl, by decide +kernel, rfl, by decide +kernel, by decide +kernel⟩
theorem three {i : Nat} {x : V} (h : ([V.int 0, V.int 1, V.int 2] : List V)[i]? = some x) : i < 3 ∧ x = V.int (i : Int) := by
  match i, h with
  | 0, h => exact ⟨by decide, (Option.some.inj h).symm⟩
  | 1, h => exact ⟨by decide, (Option.some.inj h).symm⟩
  | 2, h => exact ⟨by decide, (Option.some.inj h).symm⟩
  | n + 3, h => simp at h
theorem ok_end_place (F : Wr K mg "end_place" (top 53)) (T : Tx K mg C) (GE : Fn P w K mg base CX0 2 "end_on_axis" ["machine", "words", "axis"] (spEndA M W)) : Fn P w K mg base CX0 3 "end_place" ["machine", "words"] (spEndP M W) := by
  obtain ⟨f, fd, hm, F⟩ := F.ex
  refine ⟨f, fd, hm, F.kp, F.binds (ps := ["machine", "words"]) (fun _ _ _ _ _ _ us hl => match us, hl with | [_, _], _ => rfl), ?_⟩
  refine F.ok scEP (fun vs H Q E h => ?_) (fun cdv A outer s H vs Q E hr h => ?_)
  · obtain ⟨_, _, _, _, _, _, rfl, _⟩ := h
    rfl
  · obtain ⟨m, wd, nd, cd, s, l, rfl, hM, hW, hlt, k⟩ := h
    refine ⟨_, pss_one (ps_ret (pe_callTy call_tupleN (by rfl) T.tuple b_tuple (pa_cons (pe_lc (own := [("axis", 2)]) rfl scEP.nd (pi_tup (pe_tupN (pa_cons pe_int (pa_cons pe_int (pa_cons pe_int pa_nil))))) (blkOk_by (show blkC ["machine", "words", "axis"] (defScope (top 53)) _ _ = true by decide +kernel))
      (fun _ _ _ _ _ => pg_name (i := 2) scEP.nd rfl (Or.inl rfl)) (fun _ _ _ _ _ => pts_nil) (fun _ _ _ _ _ => pcall GE hr pass0 (pa_cons (pv 0) (pa_cons (pv 1) (pa_cons (pv 2) pa_nil))))) pa_nil))), ?_⟩
    refine ⟨by show 3 ≤ sizeLine; decide, fun ta H1 n1 a1 s1 => ⟨ta, rfl, ⟨_, SqT.of a1⟩, fun D hD => ?_⟩⟩
    have sD : ∀ o, Same H (upd H1 D o) := fun o => s1.new hD
    refine lc_tup (K := K) (a := ta) (xs := [.int 0, .int 1, .int 2]) (fun i H2 => H2 = upd H1 D (.lst ((List.range i).map fun k => V.int (s.to (own l) l k)))) rfl (fun i H2 _ e => by rw [e]; exact SqT.of (by rw [upd_ne (ne_of_none a1 hD)]; exact a1)) ?_ ?_
    · rintro i x H2 hx rfl
      obtain ⟨hi, rfl⟩ := three hx
      refine ⟨rfl, yes_ite ⟨_, rfl, _, rfl, _, rfl, m, wd, nd, cd, s, l, i, rfl, hM.same (sD _), hW.same (sD _), hlt, hi, _, upd_same, ?_, ?_⟩⟩
      · rw [List.length_map, List.length_range]
        show i < 16777216
        omega
      · rw [upd_upd, List.range_succ, List.map_append]
        rfl
    · rintro H2 rfl
      refine ⟨D, _, rfl, SqL.of upd_same, fun q H3 n3 a3 s3 => k q H3 ?_ ((sD _).trans s3)⟩
      rw [a3]
      rfl
end
end MV
set_option maxRecDepth 100000
set_option maxHeartbeats 1000000
namespace MV
open PySem L2
seal L2.PE L2.PA L2.PS L2.PSs L2.PT L2.PW L2.PC L2.PI L2.PG L2.PO
open Sz30 (Bytes Word straight plain axis sq)
open MW (SOk WB IB PB axT ceT cSpecial cMotion own endP told lineM arcM cen nearP)
def spMot (M W C : Addr) (f : Sz30.St → List Word → Option (Sz30.St × List Mv)) : Sp := fun vs H Q E => ∃ (m wd nd cd : Addr) (s : Sz30.St) (l : List Word), vs = [.ref m, .ref wd] ∧ MAt M H m s ∧ WAt W H wd nd cd l ∧ SOk s ∧ WB l ∧
  (∀ r, f s l = some r → ∀ (ll : Addr) (H' : Hp), LsAt H' ll r.2 → MAt M H' m r.1 → Kp m H H' → H ll = none → Q (.ref ll) H') ∧ (f s l = none → ∀ H', Kp m H H' → E (.ref C) none H')
theorem Kp.free {m b M dx : Addr} {H H' : Hp} {fs : List (Str × V)} (k : Kp m H H') (hb : H' b = none) (hm : H' m = some (.ins M dx fs)) : H b = none := by
  cases q : H b with
  | none => rfl
  | some o =>
    have ne : b ≠ m := fun e => by rw [e, hm] at hb; cases hb
    rw [k b o q ne] at hb
    cases hb
theorem SOk.lt {s : Sz30.St} (h : SOk s) : s.origin < s.origins.length := by rw [h.ol]; exact h.og
theorem MAt.ins {M : Addr} {H : Hp} {m : Addr} {s : Sz30.St} (h : MAt M H m s) : ∃ dx fs, H m = some (.ins M dx fs) := by
  obtain ⟨dx, fs, _, _, _, _, h1, _⟩ := h
  exact ⟨dx, fs, h1⟩
section
variable {P : Program} {w : World} {K : PySem.W.Frag} {mg : Str → Option Value} {base : Heap} {C M W : Addr}
theorem scLM : FnScope ["machine", "words"] ["machine", "words"] (defScope (top 51)) := ⟨rfl, rfl, rfl, by decide +kernel, rfl, by decide +kernel, by decide +kernel⟩
theorem ok_line_moves (F : Wr K mg "line_moves" (top 51)) (T' : TM K M) (GE : Fn P w K mg base CX0 3 "end_place" ["machine", "words"] (spEndP M W)) (GF : Fn P w K mg base CX0 1 "fast_move" ["place"] spFast)
    (GS : Fn P w K mg base CX0 1 "straight_move" ["place", "feed"] spStraight) (GR : Fn P w K mg base (CXE P w C) 1 "require_feed" ["machine"] (spFeed M C)) : Fn P w K mg base (CXE P w C) 4 "line_moves" ["machine", "words"] (spMot M W C lineM) := by
  obtain ⟨f, fd, hm, F⟩ := F.ex
  refine ⟨f, fd, hm, F.kp, F.binds (ps := ["machine", "words"]) (fun _ _ _ _ _ _ us hl => match us, hl with | [_, _], _ => rfl), ?_⟩
  refine F.okE scLM (fun vs H Q E h => ?_) (fun cdv A outer s H vs Q E hr h => ?_)
  · obtain ⟨_, _, _, _, _, _, rfl, _⟩ := h
    rfl
  · obtain ⟨m, wd, nd, cd, s, l, rfl, hM, hW, hs, hl, k, kE⟩ := h
    obtain ⟨dx, fs, po, ol, pf, ps, hm, hf, hp⟩ := id hM
    refine ⟨_, pss_cons (ps_fldN (pv 0) (pcall GE hr pass0 (pa_cons (pv 0) (pa_cons (pv 1) pa_nil))) rfl)
      (pss_cons (ps_if (pt_cmpR op_eq (pe_fld (pv 0) rfl) pe_int (nomark _)) (pss_one (ps_ret (pe_lstN (pa_cons (pcall GF hr pass0 (pa_cons (pe_fld (pv 0) rfl) pa_nil)) pa_nil)))) pss_nil)
      (pss_cons (ps_expr (pcall GR hr passE (pa_cons (pv 0) pa_nil)))
      (pss_one (ps_ret (pe_lstN (pa_cons (pcall GS hr pass0 (pa_cons (pe_fld (pv 0) rfl) (pa_cons (pe_fld (pv 0) rfl) pa_nil))) pa_nil)))))), ?_⟩
    refine ⟨_, rfl, _, rfl, m, wd, nd, cd, s, l, rfl, hM, hW, SOk.lt hs, fun q H1 a1 s1 => ?_⟩
    have m1 := s1 _ _ hm
    refine ⟨_, rfl, m, M, dx, fs, rfl, m1, T'.cl, T'.place, hf.len, fun H2 m2 k2 => ?_⟩
    have g2 := hf.sPlace (endP s l) q
    have a2 := k2 _ _ a1 (ne_of a1 m1 (by intro z; cases z))
    have p2 := (hp.same s1).kp k2 m1
    have M2 : MAt M H2 m { s with at_ := endP s l } := ⟨dx, _, q, ol, pf, ps, m2, g2, ⟨a2, p2.pf, p2.ol, p2.tp, p2.og⟩⟩
    have K2 : Kp m H H2 := (s1.kp m).trans k2
    have fin : ∀ (mv : Mv) (r : Sz30.St × List Mv), lineM s l = some r → r = ({ s with at_ := endP s l }, [mv]) → ∀ (q' : Addr) (H3 : Hp), H3 q' = some (.tup (mV mv)) → Same H2 H3 → [V.ref q'].length ≤ sizeLine ∧ ∀ (p : Addr) (H' : Hp), H3 p = none → H' p = some (.lst [.ref q']) → Same H3 H' → Q (.ref p) H' := by
      rintro mv r hr' rfl q' H3 a3 s3
      refine ⟨by show 1 ≤ sizeLine; decide, fun ll H4 n4 a4 s4 => k _ hr' ll H4 (LsAt.one a4 (s4 _ _ a3)) (M2.same (s3.trans s4)) (K2.trans ((s3.trans s4).kp m)) ?_⟩
      exact (K2.trans (s3.kp m)).free n4 (s3 _ _ m2)
    refine ⟨_, rfl, m, M, dx, _, _, rfl, m2, T'.cl, T'.motion, g2.motion, rfl, _, rfl, ?_⟩
    refine iteB (p := s.motion = 0) (by rw [eqI]; show (s.motion : Int) = 0 ↔ _; omega) (fun e => ?_) (fun e => ?_)
    · refine ⟨_, rfl, m, M, dx, _, _, rfl, m2, T'.cl, T'.place, g2.place, q, endP s l, rfl, a2, fun q' H3 a3 s3 => fin _ _ ?_ rfl q' H3 a3 s3⟩
      unfold lineM
      rw [if_pos e]
    · refine ⟨_, rfl, m, _, rfl, M2, fun hfe => ?_, fun hfe => kE ?_ _ K2⟩
      · have hfe : ¬ s.feed = 0 := hfe
        refine ⟨_, rfl, m, M, dx, _, _, rfl, m2, T'.cl, T'.place, g2.place, _, rfl, m, M, dx, _, _, rfl, m2, T'.cl, T'.feed, g2.feed, q, endP s l, s.feed, rfl, a2, fun q' H3 a3 s3 => fin _ _ ?_ rfl q' H3 a3 s3⟩
        unfold lineM
        rw [if_neg e, if_neg hfe]
      · have hfe : s.feed = 0 := hfe
        unfold lineM
        rw [if_neg e, if_pos hfe]
def spCen (M W : Addr) : Sp := fun vs H Q _ => ∃ (m wd nd cd : Addr) (s : Sz30.St) (l : List Word) (k : Nat), vs = [.ref m, .ref wd, .int (k : Int)] ∧ MAt M H m s ∧ WAt W H wd nd cd l ∧ k < 3 ∧ Q (.int (cen s l k)) H
theorem scCA : FnScope ["machine", "words", "axis"] ["machine", "words", "axis"] (defScope (top 56)) := ⟨rfl, rfl, rfl, by decide +kernel, rfl, by decide +kernel, by decide +kernel⟩
theorem getD_map (o : Option Int) (n : Int) : (o.map V.int).getD (.int n) = V.int (o.getD n) := by cases o <;> rfl
theorem ok_cen (F : Wr K mg "centre_on_axis" (top 56)) (T : Tx K mg C) (T' : TM K M) (TW' : TW K W) (GL : Mt P w K mg base CX0 1 M "length" ["self", "number"] (spLength M)) : Fn P w K mg base CX0 2 "centre_on_axis" ["machine", "words", "axis"] (spCen M W) := by
  obtain ⟨f, fd, hm, F⟩ := F.ex
  refine ⟨f, fd, hm, F.kp, F.binds (ps := ["machine", "words", "axis"]) (fun _ _ _ _ _ _ us hl => match us, hl with | [_, _, _], _ => rfl), ?_⟩
  refine F.ok scCA (fun vs H Q E h => ?_) (fun cdv A outer s H vs Q E hr h => ?_)
  · obtain ⟨_, _, _, _, _, _, _, rfl, _⟩ := h
    rfl
  · obtain ⟨m, wd, nd, cd, s, l, k, rfl, hM, hW, hk, kk⟩ := h
    have hu := hu_of hr
    obtain ⟨dx, fs, po, ol, pf, ps, hm, hf, hp⟩ := id hM
    obtain ⟨dw, fw, hw, hwk, hwn, hwc⟩ := hW.ob
    refine ⟨_, pss_one (ps_ret (pe_op op_add (pe_ix ix_tup (pe_fld (pv 0) rfl) (pv 2) (fun _ _ => rfl))
      (pmeth (pv 0) T'.cl GL hr pass0 (pa_cons (pe_dget2 hu (pe_fld (pv 1) rfl) (pe_ix ix_str (pgs T.ce) (pv 2) (fun _ _ => rfl)) pe_int ⟨rfl, rfl, rfl, rfl⟩) pa_nil)))), ?_⟩
    have z3 : ("IJK" : Str).length ≤ sizeLine := by decide +kernel
    unfold cen at kk
    rw [ce_get l hk] at kk
    refine ⟨_, rfl, m, M, dx, fs, _, rfl, hm, T'.cl, T'.place, hf.place, _, rfl, po, _, _, _, rfl, rfl, SqT.of hp.po, pV_at s.at_ hk, _, rfl, m, dx, fs, rfl, hm, lk_none hf.keys (by decide +kernel),
      _, rfl, wd, W, dw, fw, _, rfl, hw, TW'.cl, TW'.nNu, hwn, nd, rfl, hW.dN, _, rfl, _, _, _, rfl, rfl, z3, ce_let hk, _, hW.gN (c := 73 + k) (by omega) (by omega), m, s, (fnd l (73 + k)).getD 0, ?_, hM, _, _, rfl, rfl, kk⟩
    show [V.ref m, ((fnd l (73 + k)).map V.int).getD (.int 0)] = _
    rw [getD_map]
def spSq : Sp := fun vs H Q _ => ∃ (a : Addr) (c d x y : Int), vs = [.ref a, .int x, .int y] ∧ H a = some (.tup [.int c, .int d]) ∧ (x - c).natAbs < 2 ^ 1000 ∧ (y - d).natAbs < 2 ^ 1000 ∧ Q (.int (sq (x - c) + sq (y - d))) H
theorem scSq : FnScope ["centre", "first", "second"] ["centre", "first", "second"] (defScope (top 57)) := ⟨rfl, rfl, rfl, by decide +kernel, rfl, by decide +kernel, by decide +kernel⟩
theorem pow2 (x : Int) : x ^ (2 : Int).toNat = sq x := by
  show x ^ 2 = x * x
  rw [Int.pow_succ, Int.pow_succ, Int.pow_zero, Int.one_mul]
theorem ok_sq (F : Wr K mg "square_of_distance" (top 57)) : Fn P w K mg base CX0 1 "square_of_distance" ["centre", "first", "second"] spSq := by
  obtain ⟨f, fd, hm, F⟩ := F.ex
  refine ⟨f, fd, hm, F.kp, F.binds (ps := ["centre", "first", "second"]) (fun _ _ _ _ _ _ us hl => match us, hl with | [_, _, _], _ => rfl), ?_⟩
  refine F.ok scSq (fun vs H Q E h => ?_) (fun cdv A outer s H vs Q E hr h => ?_)
  · obtain ⟨_, _, _, _, _, rfl, _⟩ := h
    rfl
  · obtain ⟨a, c, d, x, y, rfl, ha, b1, b2, k⟩ := h
    refine ⟨_, pss_one (ps_ret (pe_op op_add (pe_op op_sq (pe_op op_sub (pv 1) (pe_ix ix_tup (pv 0) pe_int (fun _ _ => rfl))) pe_int) (pe_op op_sq (pe_op op_sub (pv 2) (pe_ix ix_tup (pv 0) pe_int (fun _ _ => rfl))) pe_int))), ?_⟩
    refine ⟨_, rfl, _, rfl, a, _, _, _, rfl, rfl, SqT.of ha, atI_nat (j := 0) rfl, _, _, rfl, rfl, _, _, rfl, rfl, ⟨rfl, b1⟩, _, rfl, _, rfl, a, _, _, _, rfl, rfl, SqT.of ha, atI_nat (j := 1) rfl, _, _, rfl, rfl, _, _, rfl, rfl, ⟨rfl, b2⟩, _, _, rfl, rfl, ?_⟩
    rw [pow2, pow2]
    exact k
def spNear : Sp := fun vs H Q _ => ∃ (a b : Int), vs = [.int a, .int b] ∧ a.natAbs < 2 ^ 900 ∧ b.natAbs < 2 ^ 900 ∧ Q (.bl (nearP a b)) H
theorem scNe : FnScope ["one", "another", "greater", "lesser", "rest"] ["one", "another"] (defScope (top 58)) := ⟨rfl, rfl, rfl, by decide +kernel, rfl, by decide +kernel, by decide +kernel⟩
theorem max_if (i j : Int) : (if j > i then j else i) = max i j := by
  split <;> omega
theorem min_if (i j : Int) : (if j < i then j else i) = min i j := by
  split <;> omega
theorem big2 : (2 : Nat) ^ 900 + 2 ^ 900 + 40000 < 2 ^ 1000 := by decide +kernel
theorem rest_b {a b : Int} (ha : a.natAbs < 2 ^ 900) (hb : b.natAbs < 2 ^ 900) : (max a b - min a b - 40000).natAbs < 2 ^ 1000 := by
  have := big2
  generalize (2 : Nat) ^ 900 = n at *
  generalize (2 : Nat) ^ 1000 = N at *
  omega
theorem ok_near (F : Wr K mg "roots_are_near" (top 58)) (T : Tx K mg C) : Fn P w K mg base CX0 1 "roots_are_near" ["one", "another"] spNear := by
  obtain ⟨f, fd, hm, F⟩ := F.ex
  refine ⟨f, fd, hm, F.kp, F.binds (ps := ["one", "another"]) (fun _ _ _ _ _ _ us hl => match us, hl with | [_, _], _ => rfl), ?_⟩
  refine F.ok scNe (fun vs H Q E h => ?_) (fun cdv A outer s H vs Q E hr h => ?_)
  · obtain ⟨_, _, rfl, _⟩ := h
    rfl
  · obtain ⟨a, b, rfl, ha, hb, k⟩ := h
    refine ⟨_, pss_cons (ps_set (i := 2) scNe.nd rfl (Or.inl rfl) (pe_callB (call_max2 rfl) (by rfl) T.max b_max (pa_cons (pv 0) (pa_cons (pv 1) pa_nil))))
      (pss_cons (ps_set (i := 3) scNe.nd rfl (Or.inl rfl) (pe_callB (call_min2 rfl) (by rfl) T.min b_min (pa_cons (pv 0) (pa_cons (pv 1) pa_nil))))
      (pss_cons (ps_set (i := 4) scNe.nd rfl (Or.inl rfl) (pe_op op_sub (pe_op op_sub (pv 2) (pv 3)) (pe_op op_sq (pgi T.md) pe_int)))
      (pss_one (ps_ret (pe_or (pe_cmpR op_le (pv 4) pe_int (nomark _)) (pe_one (pe_cmpR op_le (pe_op op_sq (pv 4) pe_int) (pe_op op_mul (pe_op op_mul pe_int (pe_op op_sq (pgi T.md) pe_int)) (pv 3)) (nomark _)))))))), ?_⟩
    have e200 : (200 : Int) ^ (2 : Int).toNat = 40000 := by decide
    have b200 : (200 : Int).natAbs < 2 ^ 1000 := by decide +kernel
    refine ⟨_, rfl, _, rfl, _, _, rfl, ?_⟩
    rw [max_if]
    refine ⟨_, rfl, _, rfl, _, _, rfl, ?_⟩
    rw [min_if]
    refine ⟨_, rfl, _, rfl, _, _, rfl, rfl, _, _, rfl, rfl, ⟨rfl, b200⟩, _, _, rfl, rfl, ?_⟩
    rw [e200]
    have hb2 := rest_b ha hb
    unfold nearP at k
    refine ⟨_, rfl, _, _, rfl, rfl, _, rfl, ?_⟩
    by_cases h0 : max a b - min a b - 40000 ≤ 0
    · rw [decide_eq_true h0] at k ⊢
      exact iteT k
    · rw [decide_eq_false h0] at k ⊢
      refine iteF ⟨_, rfl, _, _, rfl, rfl, ⟨rfl, hb2⟩, _, _, rfl, rfl, ⟨rfl, b200⟩, _, _, rfl, rfl, .inl ⟨by decide, by decide⟩, _, rfl, _, _, rfl, rfl, ?_, _, _, rfl, rfl, ?_⟩
      · rw [e200]
        exact .inl ⟨by decide, by decide⟩
      · rw [pow2, e200]
        exact k
theorem plane_ax {s : Sz30.St} (h : s.plane = 17 ∨ s.plane = 18 ∨ s.plane = 19) : (Sz30.axes s.plane).1 < 3 ∧ (Sz30.axes s.plane).2.1 < 3 ∧ (Sz30.axes s.plane).2.2 < 3 := by
  rcases h with e | e | e <;> rw [e] <;> decide
theorem val3 (a b c : V) : valV [(Sum.inl 17, a), (Sum.inl 18, b), (Sum.inl 19, c)] (Sum.inl 17 : Key) = some a ∧ valV [(Sum.inl 17, a), (Sum.inl 18, b), (Sum.inl 19, c)] (Sum.inl 18 : Key) = some b ∧ valV [(Sum.inl 17, a), (Sum.inl 18, b), (Sum.inl 19, c)] (Sum.inl 19 : Key) = some c :=
  ⟨valV_pos rfl, (valV_neg (show ¬ (Sum.inl 17 : Key) = Sum.inl 18 by decide)).trans (valV_pos rfl), (valV_neg (show ¬ (Sum.inl 17 : Key) = Sum.inl 19 by decide)).trans ((valV_neg (show ¬ (Sum.inl 18 : Key) = Sum.inl 19 by decide)).trans (valV_pos rfl))⟩
theorem nb {a b : Int} (ha : IB 4611689558427387904 a) (hb : IB 1152924044606846976 b) : (a - b).natAbs < 2 ^ 100 := by
  have := ha.1; have := ha.2; have := hb.1; have := hb.2
  have : (2 : Nat) ^ 100 = 1267650600228229401496703205376 := by decide
  omega
theorem sq_b {a b : Int} (ha : a.natAbs < 2 ^ 100) (hb : b.natAbs < 2 ^ 100) : (sq a + sq b).natAbs < 2 ^ 900 := by
  have h1 : (sq a).natAbs < 2 ^ 200 := by
    unfold sq
    rw [Int.natAbs_mul]
    calc a.natAbs * a.natAbs < 2 ^ 100 * 2 ^ 100 := Nat.mul_lt_mul'' ha ha
      _ = 2 ^ 200 := by rw [← Nat.pow_add]
  have h2 : (sq b).natAbs < 2 ^ 200 := by
    unfold sq
    rw [Int.natAbs_mul]
    calc b.natAbs * b.natAbs < 2 ^ 100 * 2 ^ 100 := Nat.mul_lt_mul'' hb hb
      _ = 2 ^ 200 := by rw [← Nat.pow_add]
  have h3 : (2 : Nat) ^ 200 + 2 ^ 200 < 2 ^ 900 := by decide +kernel
  generalize (2 : Nat) ^ 200 = n at *
  generalize (2 : Nat) ^ 900 = N at *
  omega
theorem lt_k {n : Nat} (h : n < 2 ^ 100) : n < 2 ^ 1000 := Nat.lt_of_lt_of_le h (Nat.pow_le_pow_right (by decide) (by decide))
theorem scAM : FnScope ["machine", "words", "axes", "centre", "start", "end", "from_start", "to_end"] ["machine", "words"] (defScope (top 55)) := ⟨rfl, rfl, rfl, by decide +kernel, rfl, by decide +kernel, by decide +kernel⟩
theorem ok_arc (F : Wr K mg "arc_moves" (top 55)) (T : Tx K mg C) (T' : TM K M) (TW' : TW K W) (GR : Fn P w K mg base (CXE P w C) 1 "require_feed" ["machine"] (spFeed M C)) (GC : Fn P w K mg base CX0 2 "centre_on_axis" ["machine", "words", "axis"] (spCen M W))
    (GE : Fn P w K mg base CX0 3 "end_place" ["machine", "words"] (spEndP M W)) (GSq : Fn P w K mg base CX0 1 "square_of_distance" ["centre", "first", "second"] spSq) (GN : Fn P w K mg base CX0 1 "roots_are_near" ["one", "another"] spNear) :
    Fn P w K mg base (CXE P w C) 4 "arc_moves" ["machine", "words"] (spMot M W C arcM) := by
  obtain ⟨f, fd, hm, F⟩ := F.ex
  refine ⟨f, fd, hm, F.kp, F.binds (ps := ["machine", "words"]) (fun _ _ _ _ _ _ us hl => match us, hl with | [_, _], _ => rfl), ?_⟩
  refine F.okE scAM (fun vs H Q E h => ?_) (fun cdv A outer s H vs Q E hr h => ?_)
  · obtain ⟨_, _, _, _, _, _, rfl, _⟩ := h
    rfl
  · obtain ⟨m, wd, nd, cd, s, l, rfl, hM, hW, hs, hl, k, kE⟩ := h
    have hu := hu_of hr
    obtain ⟨dx, fs, po, ol, pf, ps, hm, hf, hp⟩ := id hM
    obtain ⟨dw, fw, hw, hwk, hwn, hwc⟩ := hW.ob
    obtain ⟨apl, t17, t18, t19, hpl, kpl, k17, k18, k19⟩ := T.planes
    refine ⟨_, pss_cons (ps_expr (pcall GR hr passE (pa_cons (pv 0) pa_nil)))
      (pss_cons (ps_set (i := 2) scAM.nd rfl (Or.inl rfl) (pe_kix (pgr hpl) (pe_fld (pv 0) rfl) (fun _ _ => rfl)))
      (pss_cons (ps_if (pt_cmp (pc_din hu (pe_ix ix_str (pgs T.ce) (pe_ix ix_tup (pv 2) pe_int (fun _ _ => rfl)) (fun _ _ => rfl)) (pe_fld (pv 1) rfl))) (pss_one (ps_raise T.exc rfl raiseE rfl (pa_cons pe_str pa_nil))) pss_nil)
      (pss_cons (ps_set (i := 3) scAM.nd rfl (Or.inl rfl) (pe_tupN (pa_cons (pcall GC hr pass0 (pa_cons (pv 0) (pa_cons (pv 1) (pa_cons (pe_ix ix_tup (pv 2) pe_int (fun _ _ => rfl)) pa_nil)))) (pa_cons (pcall GC hr pass0 (pa_cons (pv 0) (pa_cons (pv 1) (pa_cons (pe_ix ix_tup (pv 2) pe_int (fun _ _ => rfl)) pa_nil)))) pa_nil))))
      (pss_cons (ps_set (i := 4) scAM.nd rfl (Or.inl rfl) (pe_fld (pv 0) rfl))
      (pss_cons (ps_set (i := 5) scAM.nd rfl (Or.inl rfl) (pcall GE hr pass0 (pa_cons (pv 0) (pa_cons (pv 1) pa_nil))))
      (pss_cons (ps_set (i := 6) scAM.nd rfl (Or.inl rfl) (pcall GSq hr pass0 (pa_cons (pv 3) (pa_cons (pe_ix ix_tup (pv 4) (pe_ix ix_tup (pv 2) pe_int (fun _ _ => rfl)) (fun _ _ => rfl)) (pa_cons (pe_ix ix_tup (pv 4) (pe_ix ix_tup (pv 2) pe_int (fun _ _ => rfl)) (fun _ _ => rfl)) pa_nil)))))
      (pss_cons (ps_set (i := 7) scAM.nd rfl (Or.inl rfl) (pcall GSq hr pass0 (pa_cons (pv 3) (pa_cons (pe_ix ix_tup (pv 5) (pe_ix ix_tup (pv 2) pe_int (fun _ _ => rfl)) (fun _ _ => rfl)) (pa_cons (pe_ix ix_tup (pv 5) (pe_ix ix_tup (pv 2) pe_int (fun _ _ => rfl)) (fun _ _ => rfl)) pa_nil)))))
      (pss_cons (ps_if (pw_or (pt_cmpR op_eq (pv 6) pe_int (nomark _)) (pw_or1 (pt_not (pt_val (pcall GN hr pass0 (pa_cons (pv 6) (pa_cons (pv 7) pa_nil))))))).pt (pss_one (ps_raise T.exc rfl raiseE rfl (pa_cons pe_str pa_nil))) pss_nil)
      (pss_cons (ps_fldN (pv 0) (pv 5) rfl)
      (pss_one (ps_ret (pe_lstN (pa_cons (pe_tupN (pa_cons (pe_fld (pv 0) rfl) (pa_cons (pe_ix ix_tup (pv 5) pe_int (fun _ _ => rfl)) (pa_cons (pe_ix ix_tup (pv 5) pe_int (fun _ _ => rfl)) (pa_cons (pe_ix ix_tup (pv 5) pe_int (fun _ _ => rfl))
        (pa_cons (pe_fld (pv 0) rfl) (pa_cons (pe_fld (pv 0) rfl) (pa_cons (pe_ix ix_tup (pv 3) pe_int (fun _ _ => rfl)) (pa_cons (pe_ix ix_tup (pv 3) pe_int (fun _ _ => rfl)) pa_nil))))))))) pa_nil))))))))))))), ?_⟩
    refine ⟨_, rfl, m, s, rfl, hM, fun hfe => ?_, fun hfe => kE (by unfold arcM; rw [if_pos hfe]) _ (Kp.refl m H)⟩
    obtain ⟨ta, hta, kta⟩ : ∃ ta, valV [(Sum.inl 17, V.ref t17), (Sum.inl 18, .ref t18), (Sum.inl 19, .ref t19)] (Sum.inl (s.plane : Int) : Key) = some (.ref ta) ∧ KTu K ta [.int (Sz30.axes s.plane).1, .int (Sz30.axes s.plane).2.1, .int (Sz30.axes s.plane).2.2] := by
      rcases hs.pl with e | e | e <;> rw [e]
      · exact ⟨t17, (val3 _ _ _).1, k17⟩
      · exact ⟨t18, (val3 _ _ _).2.1, k18⟩
      · exact ⟨t19, (val3 _ _ _).2.2, k19⟩
    obtain ⟨x1, x2, x3⟩ := plane_ax hs.pl
    have arc := show arcM s l = _ from rfl
    unfold arcM at k kE
    rw [if_neg hfe] at k kE
    simp only at k kE
    generalize Sz30.axes s.plane = ax at *
    obtain ⟨a1, a2, a3⟩ := ax
    simp only at *
    rw [show told l (Sz30.centres.getD a3 'I') = (fnd l (73 + a3)).isSome by unfold told; rw [ce_get l x3]] at k kE
    refine ⟨_, rfl, m, M, dx, fs, _, rfl, hm, T'.cl, T'.plane, hf.plane, apl, _, Sum.inl (s.plane : Int), _, rfl, kpl, rfl, hta, ?_⟩
    have z3 : ("IJK" : Str).length ≤ sizeLine := by decide +kernel
    have q2 : ∀ H', SqT K H' ta _ := fun H' => kta.sq H'
    refine ⟨_, rfl, ta, _, _, _, rfl, rfl, q2 _, atI_nat (j := 2) rfl, _, _, _, rfl, rfl, z3, ce_let x3, _, rfl, wd, W, dw, fw, _, rfl, hw, TW'.cl, TW'.nNu, hwn, nd, _, rfl, hW.gN (c := 73 + a3) (by omega) (by omega), _, rfl, ?_⟩
    rw [isSome_map]
    cases hx : (fnd l (73 + a3)).isSome with
    | true =>
      rw [hx, if_pos rfl] at kE
      exact iteT ⟨by show 1 ≤ sizeLine; decide, kE rfl _ (Kp.refl m H)⟩
    | false =>
      rw [hx, if_neg (by decide)] at k kE
      refine iteF ?_
      refine ⟨_, rfl, _, rfl, _, rfl, ta, _, _, _, rfl, rfl, q2 _, atI_nat (j := 0) rfl, m, wd, nd, cd, s, l, a1, rfl, hM, hW, x1, _, rfl, _, rfl, _, rfl, ta, _, _, _, rfl, rfl, q2 _, atI_nat (j := 1) rfl, m, wd, nd, cd, s, l, a2, rfl, hM, hW, x2,
        by show 2 ≤ sizeLine; decide, fun ce H1 n1 c1 s1 => ?_⟩
      have m1 := s1 _ _ hm
      have p1 := hp.same s1
      refine ⟨_, rfl, m, M, dx, fs, _, rfl, m1, T'.cl, T'.place, hf.place, ?_⟩
      refine ⟨_, rfl, _, rfl, m, wd, nd, cd, s, l, rfl, hM.same s1, hW.same s1, SOk.lt hs, fun q H2 q2' s2 => ?_⟩
      have c2 := s2 _ _ c1
      have p2 := p1.same s2
      have hen := hs.endP hl
      have b1 := nb (hs.ab.ax a1 |>.mono (by decide)) (hs.cen hl a1)
      have b2 := nb (hs.ab.ax a2 |>.mono (by decide)) (hs.cen hl a2)
      have b3 := nb (hen.ax a1) (hs.cen hl a1)
      have b4 := nb (hen.ax a2) (hs.cen hl a2)
      refine ⟨_, rfl, _, rfl, _, rfl, ta, _, _, _, rfl, rfl, q2 _, atI_nat (j := 0) rfl, po, _, _, _, rfl, rfl, SqT.of p2.po, pV_at s.at_ x1, _, rfl, _, rfl, ta, _, _, _, rfl, rfl, q2 _, atI_nat (j := 1) rfl, po, _, _, _, rfl, rfl, SqT.of p2.po, pV_at s.at_ x2,
        ce, _, _, _, _, rfl, c2, lt_k b1, lt_k b2, ?_⟩
      refine ⟨_, rfl, _, rfl, _, rfl, ta, _, _, _, rfl, rfl, q2 _, atI_nat (j := 0) rfl, q, _, _, _, rfl, rfl, SqT.of q2', pV_at (endP s l) x1, _, rfl, _, rfl, ta, _, _, _, rfl, rfl, q2 _, atI_nat (j := 1) rfl, q, _, _, _, rfl, rfl, SqT.of q2', pV_at (endP s l) x2,
        ce, _, _, _, _, rfl, c2, lt_k b3, lt_k b4, ?_⟩
      have sb1 := sq_b b1 b2
      have sb2 := sq_b b3 b4
      have K2 : Kp m H H2 := (s1.trans s2).kp m
      revert k kE sb1 sb2
      generalize sq (axis s.at_ a1 - cen s l a1) + sq (axis s.at_ a2 - cen s l a2) = r
      generalize sq (axis (endP s l) a1 - cen s l a1) + sq (axis (endP s l) a2 - cen s l a2) = e
      intro k kE sb1 sb2
      have bad : (r = 0 ∨ nearP r e = false) → 1 ≤ sizeLine ∧ E (.ref C) none H2 := fun h => ⟨by decide, kE (by rw [if_pos h]) _ K2⟩
      refine ⟨_, rfl, rfl, _, rfl, iteB (p := r = 0) eqI (fun h => iteT (bad (.inl h))) (fun hr0 => ?_)⟩
      refine ⟨_, rfl, _, rfl, r, e, rfl, sb1, sb2, _, rfl, ?_⟩
      cases hn : nearP r e with
      | false => exact iteT (bad (.inr hn))
      | true =>
        rw [if_neg (by rintro (h | h); exact hr0 h; rw [hn] at h; cases h)] at k
        refine iteF ?_
        have m2 := s2 _ _ m1
        refine ⟨_, rfl, _, rfl, m, M, dx, fs, rfl, m2, T'.cl, T'.place, hf.len, fun H3 m3 k3 => ?_⟩
        have g3 := hf.sPlace (endP s l) q
        have q3 := k3 _ _ q2' (ne_of q2' m2 (by intro z; cases z))
        have c3 := k3 _ _ c2 (ne_of c2 m2 (by intro z; cases z))
        have p3 := p2.kp k3 m2
        have M3 : MAt M H3 m { s with at_ := endP s l } := ⟨dx, _, q, ol, pf, ps, m3, g3, ⟨q3, p3.pf, p3.ol, p3.tp, p3.og⟩⟩
        have K3 := K2.trans k3
        refine ⟨_, rfl, m, M, dx, _, _, rfl, m3, T'.cl, T'.motion, g3.motion, _, rfl, q, _, _, _, rfl, rfl, SqT.of q3, pV_at (endP s l) (k := 0) (by decide), _, rfl, q, _, _, _, rfl, rfl, SqT.of q3, pV_at (endP s l) (k := 1) (by decide), _, rfl, q, _, _, _, rfl, rfl, SqT.of q3, pV_at (endP s l) (k := 2) (by decide),
          _, rfl, m, M, dx, _, _, rfl, m3, T'.cl, T'.feed, g3.feed, _, rfl, m, M, dx, _, _, rfl, m3, T'.cl, T'.plane, g3.plane, _, rfl, ce, _, _, _, rfl, rfl, SqT.of c3, atI_nat (j := 0) rfl, _, rfl, ce, _, _, _, rfl, rfl, SqT.of c3, atI_nat (j := 1) rfl,
          by show 8 ≤ sizeLine; decide, fun mv H4 n4 a4 s4 => ⟨by show 1 ≤ sizeLine; decide, fun ll H5 n5 a5 s5 => ?_⟩⟩
        refine k _ rfl ll H5 (LsAt.one (mv := [(s.motion : Int), (endP s l).1, (endP s l).2.1, (endP s l).2.2, s.feed, (s.plane : Int), cen s l a1, cen s l a2]) a5 (s5 _ _ a4)) (M3.same (s4.trans s5)) (K3.trans ((s4.trans s5).kp m)) ?_
        exact (K3.trans (s4.kp m)).free n5 (s4 _ _ m3)
end
end MV
set_option maxRecDepth 100000
set_option maxHeartbeats 1000000
namespace MV
open PySem L2
seal L2.PE L2.PA L2.PS L2.PSs L2.PT L2.PW L2.PC L2.PI L2.PG L2.PO
open Sz30 (Bytes Word straight plain axis sq pecks)
open MW (SOk WB IB PB axT ceT cSpecial cMotion own endP told lineM arcM holesM motionM hole1 hole2 hole3 hole4 takeH begin_ needH pecksM intoM kindM mOk)
theorem WAt.gNs {W : Addr} {H : Hp} {wd nd cd : Addr} {l : List Word} (h : WAt W H wd nd cd l) {z : Str} {c : Nat} (e : z = ch c) (h1 : c ≠ 71 := by decide) (h2 : c ≠ 77 := by decide) : DGet H nd (.str z) ((fnd l c).map V.int) := by
  rw [e]
  exact h.gN h1 h2
theorem WAt.gNx {W : Addr} {H : Hp} {wd nd cd : Addr} {l : List Word} (h : WAt W H wd nd cd l) {z : Str} {c : Nat} {x : Int} (e : z = ch c) (hx : fnd l c = some x) (h1 : c ≠ 71 := by decide) (h2 : c ≠ 77 := by decide) : DGet H nd (.str z) (some (.int x)) :=
  (h.gNs e h1 h2).to (by rw [hx]; rfl)
section
variable {P : Program} {w : World} {K : PySem.W.Frag} {mg : Str → Option Value} {base : Heap} {C M W : Addr}
def spTakeH (M W : Addr) : Sp := fun vs H Q _ => ∃ (m wd nd cd : Addr) (s : Sz30.St) (l : List Word), vs = [.ref m, .ref wd] ∧ MAt M H m s ∧ WAt W H wd nd cd l ∧ s.origin < s.origins.length ∧ ∀ H', MAt M H' m (takeH s l) → Kp m H H' → Q .non H'
theorem scTH : FnScope ["machine", "words", "numbers", "base"] ["machine", "words"] (defScope (top 60)) := ⟨rfl, rfl, rfl, by decide +kernel, rfl, by decide +kernel, by decide +kernel⟩
theorem ok_take_holes (F : Wr K mg "take_hole_numbers" (top 60)) (T' : TM K M) (TW' : TW K W) (GL : Mt P w K mg base CX0 1 M "length" ["self", "number"] (spLength M)) (GZ : Mt P w K mg base CX0 1 M "program_zero" ["self", "axis"] (spZero M)) :
    Fn P w K mg base CX0 2 "take_hole_numbers" ["machine", "words"] (spTakeH M W) := by
  obtain ⟨f, fd, hm, F⟩ := F.ex
  refine ⟨f, fd, hm, F.kp, F.binds (ps := ["machine", "words"]) (fun _ _ _ _ _ _ us hl => match us, hl with | [_, _], _ => rfl), ?_⟩
  refine F.ok scTH (fun vs H Q E h => ?_) (fun cdv A outer s H vs Q E hr h => ?_)
  · obtain ⟨_, _, _, _, _, _, rfl, _⟩ := h
    rfl
  · obtain ⟨m, wd, nd, cd, s, l, rfl, hM, hW, hlt, k⟩ := h
    have hu := hu_of hr
    obtain ⟨dw, fw, hw, hwk, hwn, hwc⟩ := hW.ob
    obtain ⟨dm, fm, hmi⟩ := hM.ins
    have nwm := mw_ne hW hM
    refine ⟨_, pss_cons (ps_set (i := 2) scTH.nd rfl (Or.inl rfl) (pe_fld (pv 1) rfl))
      (pss_cons (ps_if (pt_cmp (pc_din hu pe_str (pv 2)))
        (pss_cons (ps_set (i := 3) scTH.nd rfl (Or.inl rfl) (pe_ifExp (pt_val (pe_fld (pv 0) rfl)) (pe_fld (pv 0) rfl) (pmeth (pv 0) T'.cl GZ hr pass0 (pa_cons pe_int pa_nil))))
        (pss_one (ps_fld (pv 0) (pe_op op_add (pv 3) (pmeth (pv 0) T'.cl GL hr pass0 (pa_cons (pe_dget hu (pv 2) pe_str (fun _ _ => rfl)) pa_nil))) rfl))) pss_nil)
      (pss_cons (ps_if (pt_cmp (pc_din hu pe_str (pv 2)))
        (pss_one (ps_fld (pv 0) (pe_op op_add (pmeth (pv 0) T'.cl GZ hr pass0 (pa_cons pe_int pa_nil)) (pmeth (pv 0) T'.cl GL hr pass0 (pa_cons (pe_dget hu (pv 2) pe_str (fun _ _ => rfl)) pa_nil))) rfl)) pss_nil)
      (pss_cons (ps_if (pt_cmp (pc_din hu pe_str (pv 2))) (pss_one (ps_fld (pv 0) (pmeth (pv 0) T'.cl GL hr pass0 (pa_cons (pe_dget hu (pv 2) pe_str (fun _ _ => rfl)) pa_nil)) rfl)) pss_nil)
      (pss_one (ps_if (pt_cmp (pc_din hu pe_str (pv 2))) (pss_one (ps_fld (pv 0) (pe_dget hu (pv 2) pe_str (fun _ _ => rfl)) rfl)) pss_nil))))), ?_⟩
    refine ⟨_, rfl, wd, W, dw, fw, _, rfl, hw, TW'.cl, TW'.nNu, hwn, ?_⟩
    dsimp only [gName]
    refine cont (Pv := fun σ H1 => ∃ v, σ = [some (.ref m), some (.ref wd), some (.ref nd), v] ∧ MAt M H1 m (hole1 s l) ∧ Kp m H H1) ?_ ?_
    rotate_left
    · intro nx hnx
      refine ⟨_, rfl, nd, _, rfl, hW.gNs sR, _, rfl, ?_⟩
      rw [isSome_map]
      cases hx : fnd l 82 with
      | none =>
        have e : hole1 s l = s := by unfold hole1; rw [get_fnd, show fnd l (Sz30.letter 'R') = none from hx]
        exact iteF (hnx _ _ ⟨none, rfl, by rw [e]; exact hM, Kp.refl m H⟩)
      | some x =>
        have e : hole1 s l = { s with level := some ((if s.steps = true then s.height else s.zero 2) + s.long x) } := by unfold hole1; rw [get_fnd, show fnd l (Sz30.letter 'R') = some x from hx]
        obtain ⟨dx, fs, po, ol, pf, ps, hm, hf, hp⟩ := id hM
        refine iteT ?_
        have go : ∀ b : Int, b = (if s.steps = true then s.height else s.zero 2) → sFld K (tVar 0) (tOp (rI0 fun i j => .int (i + j)) (tVar 3) (tMeth M "length" (spLength M) [] E0 (tVar 0) (tCons (tDGet (tVar 2) (tC (.str "R"))) tNil))) "level" { nx := nx, rt := Q } [some (.ref m), some (.ref wd), some (.ref nd), some (.int b)] H := by
          rintro b rfl
          refine ⟨_, rfl, _, rfl, m, dx, fs, rfl, hm, lk_none hf.keys (by decide +kernel), _, rfl, nd, _, rfl, hW.gNx sR hx, m, s, x, rfl, hM, _, _, rfl, rfl, _, rfl, m, M, dx, fs, rfl, hm, T'.cl, T'.level, hf.len, hnx _ _ ⟨_, rfl, ?_, (Kp.refl m H).upd⟩⟩
          rw [e]
          exact MAt.put hm (hf.sLevel (some _)) ⟨hp.po, hp.pf, hp.ol, hp.tp, hp.og⟩
        refine ⟨_, rfl, m, M, dx, fs, _, rfl, hm, T'.cl, T'.steps, hf.steps, _, rfl, ?_⟩
        cases hst : s.steps with
        | true => exact iteT ⟨_, rfl, m, M, dx, fs, _, rfl, hm, T'.cl, T'.height, hf.height, go _ (by rw [hst, if_pos rfl])⟩
        | false => exact iteF ⟨_, rfl, m, dx, fs, rfl, hm, lk_none hf.keys (by decide +kernel), m, s, 2, rfl, hM, hlt, by decide, go _ (by rw [hst, if_neg (by decide)])⟩
    rintro σ H1 ⟨v1, rfl, M1, K1⟩
    have hW1 := hW.kp K1 hmi nwm
    have lt1 : (hole1 s l).origin < (hole1 s l).origins.length := by
      unfold hole1
      split <;> exact hlt
    generalize g1 : hole1 s l = s1 at M1 lt1
    refine cont (Pv := fun σ H2 => σ = [some (.ref m), some (.ref wd), some (.ref nd), v1] ∧ MAt M H2 m (hole2 s1 l) ∧ Kp m H H2) ?_ ?_
    rotate_left
    · intro nx hnx
      refine ⟨_, rfl, nd, _, rfl, hW1.gNs sZ, _, rfl, ?_⟩
      rw [isSome_map]
      cases hx : fnd l 90 with
      | none =>
        have e : hole2 s1 l = s1 := by unfold hole2; rw [get_fnd, show fnd l (Sz30.letter 'Z') = none from hx]
        exact iteF (hnx _ _ ⟨rfl, by rw [e]; exact M1, K1⟩)
      | some x =>
        have e : hole2 s1 l = { s1 with depth := some (s1.zero 2 + s1.long x) } := by unfold hole2; rw [get_fnd, show fnd l (Sz30.letter 'Z') = some x from hx]
        obtain ⟨dx, fs, po, ol, pf, ps, hm, hf, hp⟩ := id M1
        refine iteT ?_
        refine ⟨_, rfl, m, dx, fs, rfl, hm, lk_none hf.keys (by decide +kernel), m, s1, 2, rfl, M1, lt1, by decide, _, rfl, m, dx, fs, rfl, hm, lk_none hf.keys (by decide +kernel), _, rfl, nd, _, rfl, hW1.gNx sZ hx, m, s1, x, rfl, M1, _, _, rfl, rfl, _, rfl, m, M, dx, fs, rfl, hm, T'.cl, T'.depth, hf.len, hnx _ _ ⟨rfl, ?_, K1.upd⟩⟩
        rw [e]
        exact MAt.put hm (hf.sDepth (some _)) ⟨hp.po, hp.pf, hp.ol, hp.tp, hp.og⟩
    rintro σ H2 ⟨rfl, M2, K2⟩
    have hW2 := hW.kp K2 hmi nwm
    generalize g2 : hole2 s1 l = s2 at M2
    refine cont (Pv := fun σ H3 => σ = [some (.ref m), some (.ref wd), some (.ref nd), v1] ∧ MAt M H3 m (hole3 s2 l) ∧ Kp m H H3) ?_ ?_
    rotate_left
    · intro nx hnx
      refine ⟨_, rfl, nd, _, rfl, hW2.gNs sQ, _, rfl, ?_⟩
      rw [isSome_map]
      cases hx : fnd l 81 with
      | none =>
        have e : hole3 s2 l = s2 := by unfold hole3; rw [get_fnd, show fnd l (Sz30.letter 'Q') = none from hx]
        exact iteF (hnx _ _ ⟨rfl, by rw [e]; exact M2, K2⟩)
      | some x =>
        have e : hole3 s2 l = { s2 with peck := some (s2.long x) } := by unfold hole3; rw [get_fnd, show fnd l (Sz30.letter 'Q') = some x from hx]
        obtain ⟨dx, fs, po, ol, pf, ps, hm, hf, hp⟩ := id M2
        refine iteT ?_
        refine ⟨_, rfl, m, dx, fs, rfl, hm, lk_none hf.keys (by decide +kernel), _, rfl, nd, _, rfl, hW2.gNx sQ hx, m, s2, x, rfl, M2, _, rfl, m, M, dx, fs, rfl, hm, T'.cl, T'.peck, hf.len, hnx _ _ ⟨rfl, ?_, K2.upd⟩⟩
        rw [e]
        exact MAt.put hm (hf.sPeck (some _)) ⟨hp.po, hp.pf, hp.ol, hp.tp, hp.og⟩
    rintro σ H3 ⟨rfl, M3, K3⟩
    have hW3 := hW.kp K3 hmi nwm
    have ks : ∀ H', MAt M H' m (hole4 (hole3 s2 l) l) → Kp m H H' → Q .non H' := fun H' q1 q2 => k H' (by unfold takeH; rw [g1, g2]; exact q1) q2
    generalize hole3 s2 l = s3 at M3 ks
    refine ⟨_, rfl, nd, _, rfl, hW3.gNs sP, _, rfl, ?_⟩
    rw [isSome_map]
    cases hx : fnd l 80 with
    | none =>
      have e : hole4 s3 l = s3 := by unfold hole4; rw [get_fnd, show fnd l (Sz30.letter 'P') = none from hx]
      exact iteF (ks _ (by rw [e]; exact M3) K3)
    | some x =>
      have e : hole4 s3 l = { s3 with wait := x } := by unfold hole4; rw [get_fnd, show fnd l (Sz30.letter 'P') = some x from hx]
      obtain ⟨dx, fs, po, ol, pf, ps, hm, hf, hp⟩ := id M3
      refine iteT ?_
      refine ⟨_, rfl, nd, _, rfl, hW3.gNx sP hx, _, rfl, m, M, dx, fs, rfl, hm, T'.cl, T'.wait, hf.len, ks _ ?_ K3.upd⟩
      rw [e]
      exact MAt.put hm (hf.sWait x) ⟨hp.po, hp.pf, hp.ol, hp.tp, hp.og⟩
def spReqH (M C : Addr) : Sp := fun vs H Q E => ∃ (m : Addr) (s : Sz30.St), vs = [.ref m] ∧ MAt M H m s ∧ (∀ rd, needH s = some rd → Q .non H) ∧ (needH s = none → E (.ref C) none H)
theorem scRH : FnScope ["machine"] ["machine"] (defScope (top 61)) := ⟨rfl, rfl, rfl, by decide +kernel, rfl, by decide +kernel, by decide +kernel⟩
theorem ok_req_hole (F : Wr K mg "require_hole" (top 61)) (T : Tx K mg C) (T' : TM K M) (GR : Fn P w K mg base (CXE P w C) 1 "require_feed" ["machine"] (spFeed M C)) : Fn P w K mg base (CXE P w C) 2 "require_hole" ["machine"] (spReqH M C) := by
  obtain ⟨f, fd, hm, F⟩ := F.ex
  refine ⟨f, fd, hm, F.kp, F.binds (ps := ["machine"]) (fun _ _ _ _ _ _ us hl => match us, hl with | [_], _ => rfl), ?_⟩
  refine F.okE scRH (fun vs H Q E h => ?_) (fun cdv A outer s H vs Q E hr h => ?_)
  · obtain ⟨_, _, rfl, _⟩ := h
    rfl
  · obtain ⟨m, s, rfl, hM, k, kE⟩ := h
    obtain ⟨dx, fs, po, ol, pf, ps, hm, hf, hp⟩ := id hM
    refine ⟨_, pss_cons (ps_expr (pcall GR hr passE (pa_cons (pv 0) pa_nil)))
      (pss_cons (ps_if (pt_cmpR op_ne (pe_fld (pv 0) rfl) pe_int (nomark _)) (pss_one (ps_raise T.exc rfl raiseE rfl (pa_cons pe_str pa_nil))) pss_nil)
      (pss_cons (ps_if (pw_or (pt_cmp (pc_isN (pe_fld (pv 0) rfl))) (pw_or1 (pt_cmp (pc_isN (pe_fld (pv 0) rfl))))).pt (pss_one (ps_raise T.exc rfl raiseE rfl (pa_cons pe_str pa_nil))) pss_nil)
      (pss_one (ps_if (pt_cmpR op_lt (pe_fld (pv 0) rfl) (pe_fld (pv 0) rfl) (nomark _)) (pss_one (ps_raise T.exc rfl raiseE rfl (pa_cons pe_str pa_nil))) pss_nil)))), ?_⟩
    unfold needH at k kE
    have bad : E (.ref C) none H → 1 ≤ sizeLine ∧ E (.ref C) none H := fun h => ⟨by decide, h⟩
    refine ⟨_, rfl, m, s, rfl, hM, fun hfe => ?_, fun hfe => kE (by rw [if_pos hfe])⟩
    rw [if_neg hfe] at k kE
    refine ⟨_, rfl, m, M, dx, fs, _, rfl, hm, T'.cl, T'.plane, hf.plane, rfl, _, rfl, iteB (p := ¬ s.plane = 17) (by rw [neI]; omega) (fun h => bad (kE (by rw [if_pos h]))) (fun h17 => ?_)⟩
    rw [if_neg h17] at k kE
    refine ⟨_, rfl, m, M, dx, fs, _, rfl, hm, T'.cl, T'.level, hf.level, _, rfl, ?_⟩
    cases hl : s.level with
    | none =>
      rw [hl] at kE
      exact iteB (p := True) (by simp [oV]) (fun _ => iteT (bad (kE rfl))) (fun z => absurd trivial z)
    | some r =>
      refine iteB (p := False) (by simp [oV]) (fun z => z.elim) (fun _ => ?_)
      refine ⟨_, rfl, m, M, dx, fs, _, rfl, hm, T'.cl, T'.depth, hf.depth, _, rfl, ?_⟩
      cases hd : s.depth with
      | none =>
        rw [hl, hd] at kE
        exact iteB (p := True) (by simp [oV]) (fun _ => bad (kE rfl)) (fun z => absurd trivial z)
      | some d =>
        rw [hl, hd] at k kE
        simp only at k kE
        refine iteB (p := False) (by simp [oV]) (fun z => z.elim) (fun _ => ?_)
        have e1 := hf.level
        have e2 := hf.depth
        rw [hl] at e1
        rw [hd] at e2
        refine ⟨_, rfl, m, M, dx, fs, _, rfl, hm, T'.cl, T'.level, e1, _, rfl, m, M, dx, fs, _, rfl, hm, T'.cl, T'.depth, e2, _, _, rfl, rfl, _, rfl, iteD (fun h => bad (kE (by rw [if_pos h]))) (fun h => k _ (by rw [if_neg h]))⟩
def spPeck (M C : Addr) : Sp := fun vs H Q E => ∃ (m : Addr) (s : Sz30.St) (x y r d : Int), vs = [.ref m, .int x, .int y] ∧ MAt M H m s ∧ s.level = some r ∧ s.depth = some d ∧ d ≤ r ∧
  (∀ ms, pecksM s x y r d = some ms → ∀ (ll : Addr) (H' : Hp), LsAt H' ll ms → Same H H' → H ll = none → ms.length ≤ 3003 → Q (.ref ll) H') ∧ (pecksM s x y r d = none → E (.ref C) none H)
theorem scPM : FnScope ["machine", "x", "y", "level", "depth", "peck", "back", "z", "moves"] ["machine", "x", "y"] (defScope (top 62)) := ⟨rfl, rfl, rfl, by decide +kernel, rfl, by decide +kernel, by decide +kernel⟩
structure PkI (H H1 : Hp) (x y r d q f : Int) (ms : List Mv) (bk ll : Addr) (n : Nat) (z : Int) (dn : List Mv) : Prop where
  sm : Same H H1
  fl : H ll = none
  ls : LsAt H1 ll dn
  bk : H1 bk = some (.tup (mV (straight 0 (x, y, r) 0)))
  eq : dn ++ MW.tailP x y r d q f n z = ms
  le : z - d ≤ q * (n : Int)
  ge : d ≤ z
  ln : dn.length + 3 * n ≤ 3001
theorem ok_peck (F : Wr K mg "peck_moves" (top 62)) (T : Tx K mg C) (T' : TM K M) (GF : Fn P w K mg base CX0 1 "fast_move" ["place"] spFast) (GS : Fn P w K mg base CX0 1 "straight_move" ["place", "feed"] spStraight) :
    Fn P w K mg base (CXE P w C) 2 "peck_moves" ["machine", "x", "y"] (spPeck M C) := by
  obtain ⟨f, fd, hm, F⟩ := F.ex
  refine ⟨f, fd, hm, F.kp, F.binds (ps := ["machine", "x", "y"]) (fun _ _ _ _ _ _ us hl => match us, hl with | [_, _, _], _ => rfl), ?_⟩
  refine F.okE scPM (fun vs H Q E h => ?_) (fun cdv A outer s H vs Q E hr h => ?_)
  · obtain ⟨_, _, _, _, _, _, rfl, _⟩ := h
    rfl
  · obtain ⟨m, s, x, y, r, d, rfl, hM, hl, hd, hdr, k, kE⟩ := h
    obtain ⟨dx, fs, po, ol, pf, ps, hm, hf, hp⟩ := id hM
    have e1 := hf.level
    have e2 := hf.depth
    rw [hl] at e1
    rw [hd] at e2
    refine ⟨_, pss_cons (ps_set (i := 3) scPM.nd rfl (Or.inl rfl) (pe_fld (pv 0) rfl)) (pss_cons (ps_set (i := 4) scPM.nd rfl (Or.inl rfl) (pe_fld (pv 0) rfl)) (pss_cons (ps_set (i := 5) scPM.nd rfl (Or.inl rfl) (pe_fld (pv 0) rfl))
      (pss_cons (ps_if (pw_or (pt_cmp (pc_isN (pv 5))) (pw_or (pt_cmpR op_le (pv 5) pe_int (nomark _)) (pw_or1 (pt_cmpR op_gt (pe_op op_sub (pv 3) (pv 4)) (pe_op op_mul (pgi T.mp) (pv 5)) (nomark _))))).pt (pss_one (ps_raise T.exc rfl raiseE rfl (pa_cons pe_str pa_nil))) pss_nil)
      (pss_cons (ps_set (i := 6) scPM.nd rfl (Or.inl rfl) (pcall GF hr pass0 (pa_cons (pe_tupN (pa_cons (pv 1) (pa_cons (pv 2) (pa_cons (pv 3) pa_nil)))) pa_nil)))
      (pss_cons (ps_set (i := 7) scPM.nd rfl (Or.inl rfl) (pe_callB (call_max2 rfl) (by rfl) T.max b_max (pa_cons (pe_op op_sub (pv 3) (pv 5)) (pa_cons (pv 4) pa_nil))))
      (pss_cons (ps_set (i := 8) scPM.nd rfl (Or.inl rfl) (pe_lstN (pa_cons (pcall GS hr pass0 (pa_cons (pe_tupN (pa_cons (pv 1) (pa_cons (pv 2) (pa_cons (pv 7) pa_nil)))) (pa_cons (pe_fld (pv 0) rfl) pa_nil))) pa_nil)))
      (pss_cons (ps_while PassesOwn.leaving (pt_cmpR op_ne (pv 7) (pv 4) (nomark _))
        (pss_cons (ps_expr (pe_bm PySem.F.plainAttrs_list PySem.F.slot_list_append PySem.F.type_list_append mt_append (pv 8) (pa_cons (pv 6) pa_nil)))
        (pss_cons (ps_expr (pe_bm PySem.F.plainAttrs_list PySem.F.slot_list_append PySem.F.type_list_append mt_append (pv 8) (pa_cons (pcall GF hr pass0 (pa_cons (pe_tupN (pa_cons (pv 1) (pa_cons (pv 2) (pa_cons (pe_callB (call_min2 rfl) (by rfl) T.min b_min (pa_cons (pe_op op_add (pv 7) (pgi T.alp)) (pa_cons (pv 3) pa_nil))) pa_nil)))) pa_nil)) pa_nil)))
        (pss_cons (ps_set (i := 7) scPM.nd rfl (Or.inl rfl) (pe_callB (call_max2 rfl) (by rfl) T.max b_max (pa_cons (pe_op op_sub (pv 7) (pv 5)) (pa_cons (pv 4) pa_nil))))
        (pss_one (ps_expr (pe_bm PySem.F.plainAttrs_list PySem.F.slot_list_append PySem.F.type_list_append mt_append (pv 8) (pa_cons (pcall GS hr pass0 (pa_cons (pe_tupN (pa_cons (pv 1) (pa_cons (pv 2) (pa_cons (pv 7) pa_nil)))) (pa_cons (pe_fld (pv 0) rfl) pa_nil))) pa_nil))))))))
      (pss_one (ps_ret (pv 8)))))))))), ?_⟩
    refine ⟨_, rfl, m, M, dx, fs, _, rfl, hm, T'.cl, T'.level, e1, _, rfl, m, M, dx, fs, _, rfl, hm, T'.cl, T'.depth, e2, _, rfl, m, M, dx, fs, _, rfl, hm, T'.cl, T'.peck, hf.peck, ?_⟩
    unfold pecksM at k kE
    have bad : E (.ref C) none H → 1 ≤ sizeLine ∧ E (.ref C) none H := fun h => ⟨by decide, h⟩
    cases hq : s.peck with
    | none =>
      rw [hq] at kE
      exact ⟨_, rfl, _, rfl, iteB (p := True) (by simp [oV]) (fun _ => iteT (bad (kE rfl))) (fun z => absurd trivial z)⟩
    | some q =>
      rw [hq] at k kE
      simp only at k kE
      refine ⟨_, rfl, _, rfl, iteB (p := False) (by simp [oV]) (fun z => z.elim) (fun _ => ?_)⟩
      refine ⟨_, rfl, _, _, rfl, rfl, _, rfl, iteD (fun h => iteT (bad (kE (by rw [if_pos (.inl h)])))) (fun hq0 => ?_)⟩
      refine ⟨_, rfl, _, rfl, _, _, rfl, rfl, _, rfl, _, _, rfl, rfl, .inl ⟨by decide, by decide⟩, _, _, rfl, rfl, _, rfl, iteD (fun h => bad (kE (by rw [if_pos (.inr h)]))) (fun hq1 => ?_)⟩
      rw [if_neg (by rintro (h | h); exact hq0 h; exact hq1 h)] at k
      have z3 : 3 ≤ sizeLine := by decide
      refine ⟨_, rfl, _, rfl, _, rfl, z3, fun t1 H1 n1 a1 s1 => ⟨t1, (x, y, r), rfl, a1, fun bk H2 b2 s2 => ?_⟩⟩
      refine ⟨_, rfl, _, rfl, _, _, rfl, rfl, _, rfl, _, _, rfl, ?_⟩
      rw [max_if]
      refine ⟨_, rfl, _, rfl, _, rfl, z3, fun t3 H3 n3 a3 s3 => ⟨_, rfl, m, M, dx, fs, _, rfl, s3 _ _ (s2 _ _ (s1 _ _ hm)), T'.cl, T'.feed, hf.feed, t3, (x, y, max (r - q) d), s.feed, rfl, a3, fun mv H4 a4 s4 => ?_⟩⟩
      refine ⟨by show 1 ≤ sizeLine; decide, fun ll H5 n5 a5 s5 => ?_⟩
      have s25 := s3.trans (s4.trans s5)
      have s05 : Same H H5 := s1.trans (s2.trans s25)
      have mxc : max (r - q) d = max d (r - q) := Int.max_comm _ _
      have I0 : PkI H H5 x y r d q s.feed (pecks x y r d q s.feed 1001 r) bk ll 1000 (max (r - q) d) [straight 1 (x, y, max (r - q) d) s.feed] := by
        refine ⟨s05, (s1.trans (s2.trans (s3.trans s4))).free n5, LsAt.one a5 (s5 _ _ a4), s25 _ _ b2, ?_, ?_, by omega, by show 1 + 3 * 1000 ≤ 3001; decide⟩
        · rw [mxc, MW.pecks_succ]
          rfl
        · show max (r - q) d - d ≤ q * 1000
          omega
      refine ⟨fun n σ H6 => ∃ z dn, σ = [some (.ref m), some (.int x), some (.int y), some (.int r), some (.int d), some (.int q), some (.ref bk), some (.int z), some (.ref ll)] ∧ PkI H H6 x y r d q s.feed (pecks x y r d q s.feed 1001 r) bk ll n z dn,
        ⟨1000, _, _, rfl, I0⟩, ?_⟩
      rintro n σ H6 ⟨z, dn, rfl, J⟩
      refine ⟨_, rfl, _, rfl, rfl, _, rfl, iteB (p := ¬ z = d) (by rw [neI]) (fun hz => ?_) (fun hz => ?_)⟩
      · obtain ⟨n, rfl⟩ : ∃ n', n = n' + 1 := by
          cases n with
          | zero => have h1 := J.le; have h2 := J.ge; rw [show ((0 : Nat) : Int) = 0 from rfl, Int.mul_zero] at h1; omega
          | succ n => exact ⟨n, rfl⟩
        refine ⟨fun σ' H' => ∃ n', n' < n + 1 ∧ ∃ z dn, σ' = [some (.ref m), some (.int x), some (.int y), some (.int r), some (.int d), some (.int q), some (.ref bk), some (.int z), some (.ref ll)] ∧ PkI H H' x y r d q s.feed (pecks x y r d q s.feed 1001 r) bk ll n' z dn, fun _ _ z => z, ?_⟩
        obtain ⟨xs, l1, l2, l3⟩ := J.ls.app J.bk
        have hln := J.ln
        refine ⟨_, rfl, .inl ⟨rfl, _, SqL.of l1⟩, _, rfl, ll, _, _, rfl, rfl, l1, by show xs.length < 16777216; omega, ?_⟩
        have s6 : Same H (upd H6 ll (.lst (xs ++ [.ref bk]))) := J.sm.upd J.fl
        have b6 : (upd H6 ll (.lst (xs ++ [.ref bk]))) bk = some (.tup (mV (straight 0 (x, y, r) 0))) := by rw [upd_ne (ne_of J.bk l1 (by intro z; cases z))]; exact J.bk
        revert l3 s6 b6
        generalize upd H6 ll (.lst (xs ++ [.ref bk])) = H7
        intro l3 s6 b6
        refine ⟨_, rfl, .inl ⟨rfl, _, SqL.of (l3.ex.choose_spec.1)⟩, _, rfl, _, rfl, _, rfl, _, _, rfl, rfl, _, rfl, _, _, rfl, ?_⟩
        rw [min_if]
        refine ⟨z3, fun t8 H8 n8 a8 s8 => ⟨t8, (x, y, min (z + 25000) r), rfl, a8, fun m9 H9 a9 s9 => ?_⟩⟩
        obtain ⟨ys, r1, r2, r3⟩ := (l3.same (s8.trans s9)).app a9
        rw [List.length_append, List.length_singleton] at r2
        refine ⟨ll, _, _, rfl, rfl, r1, by show ys.length < 16777216; omega, ?_⟩
        have s10 : Same H (upd H9 ll (.lst (ys ++ [.ref m9]))) := (s6.trans (s8.trans s9)).upd J.fl
        have b10 : (upd H9 ll (.lst (ys ++ [.ref m9]))) bk = some (.tup (mV (straight 0 (x, y, r) 0))) := by rw [upd_ne (ne_of (s9 _ _ (s8 _ _ b6)) r1 (by intro z; cases z))]; exact s9 _ _ (s8 _ _ b6)
        revert r3 s10 b10
        generalize upd H9 ll (.lst (ys ++ [.ref m9])) = H10
        intro r3 s10 b10
        refine ⟨_, rfl, _, rfl, _, _, rfl, rfl, _, rfl, _, _, rfl, ?_⟩
        rw [max_if]
        refine ⟨_, rfl, .inl ⟨rfl, _, SqL.of (r3.ex.choose_spec.1)⟩, _, rfl, _, rfl, _, rfl, z3, fun t11 H11 n11 a11 s11 => ⟨_, rfl, m, M, dx, fs, _, rfl, s11 _ _ (s10 _ _ hm), T'.cl, T'.feed, hf.feed, t11, (x, y, max (z - q) d), s.feed, rfl, a11, fun m12 H12 a12 s12 => ?_⟩⟩
        obtain ⟨us, u1, u2, u3⟩ := (r3.same (s11.trans s12)).app a12
        rw [List.length_append, List.length_append, List.length_singleton, List.length_singleton] at u2
        refine ⟨ll, _, _, rfl, rfl, u1, by show us.length < 16777216; omega, ?_⟩
        refine ⟨n, by omega, max (z - q) d, _, rfl, (s10.trans (s11.trans s12)).upd J.fl, J.fl, u3, ?_, ?_, ?_, by omega, ?_⟩
        · rw [upd_ne (ne_of (s12 _ _ (s11 _ _ b10)) u1 (by intro z; cases z))]
          exact s12 _ _ (s11 _ _ b10)
        · have he := J.eq
          rw [MW.tailP_step hz] at he
          rw [← he, Int.max_comm (z - q) d, Int.min_comm (z + 25000) r]
          simp
        · have h1 := J.le
          have h2 := J.ge
          rw [show ((n + 1 : Nat) : Int) = (n : Int) + 1 from rfl, Int.mul_add, Int.mul_one] at h1
          have h3 : 0 ≤ q * (n : Int) := Int.mul_nonneg (by omega) (by omega)
          omega
        · simp only [List.length_append, List.length_singleton]
          omega
      · have hz : z = d := by omega
        refine ⟨_, rfl, k _ rfl ll H6 ?_ J.sm J.fl ?_⟩
        · have he := J.eq
          unfold MW.tailP at he
          rw [if_pos hz, List.append_nil] at he
          rw [← he]
          exact J.ls
        · have he := J.eq
          unfold MW.tailP at he
          rw [if_pos hz, List.append_nil] at he
          rw [← he]
          have := J.ln
          omega
end
end MV
set_option maxRecDepth 100000
set_option maxHeartbeats 1000000
namespace MV
open PySem L2
seal L2.PE L2.PA L2.PS L2.PSs L2.PT L2.PW L2.PC L2.PI L2.PG L2.PO
open Sz30 (Bytes Word straight plain axis sq pecks)
open MW (SOk WB IB PB axT ceT cSpecial cMotion own endP told lineM arcM holesM motionM hole1 hole2 hole3 hole4 takeH begin_ needH pecksM intoM kindM mOk)
theorem not3 {n : Int} {x y z : Int} : (if true = true then !inV (V.int n) [.int x, .int y, .int z] else inV (V.int n) [.int x, .int y, .int z]) = true ↔ ¬ (n = x ∨ n = y ∨ n = z) := by
  show (!inV (V.int n) [.int x, .int y, .int z]) = true ↔ _
  rw [Bool.not_eq_true', ← Bool.not_eq_true, in3]
theorem not2 {n : Int} {x y : Int} : (if true = true then !inV (V.int n) [.int x, .int y] else inV (V.int n) [.int x, .int y]) = true ↔ ¬ (n = x ∨ n = y) := by
  show (!inV (V.int n) [.int x, .int y]) = true ↔ _
  rw [Bool.not_eq_true', ← Bool.not_eq_true, in2]
theorem axc : ∀ c ∈ ("XYZ" : Str).cps.toList, c ≠ 71 ∧ c ≠ 77 := by decide +kernel
theorem cec : ∀ c ∈ ("IJK" : Str).cps.toList, c ≠ 71 ∧ c ≠ 77 := by decide +kernel
theorem axs : ("XYZ" : Str).cps.size ≤ 1000 := by decide +kernel
theorem ces : ("IJK" : Str).cps.size ≤ 1000 := by decide +kernel
section
variable {P : Program} {w : World} {K : PySem.W.Frag} {mg : Str → Option Value} {base : Heap} {C M W : Addr}
def spHoles (M W C : Addr) : Sp := fun vs H Q E => ∃ (m wd nd cd : Addr) (s : Sz30.St) (l : List Word) (b : Nat), vs = [.ref m, .ref wd, .int (b : Int)] ∧ mOk b ∧ MAt M H m s ∧ WAt W H wd nd cd l ∧ SOk s ∧ WB l ∧ 81 ≤ s.motion ∧
  (∀ r, holesM s l b = some r → ∀ (ll : Addr) (H' : Hp), LsAt H' ll r.2 → MAt M H' m r.1 → Kp m H H' → H ll = none → r.2.length ≤ 4000 → Q (.ref ll) H') ∧ (holesM s l b = none → ∀ H', Kp m H H' → E (.ref C) none H')
theorem scHM : FnScope ["machine", "words", "before", "x", "y", "moves"] ["machine", "words", "before"] (defScope (top 59)) := ⟨rfl, rfl, rfl, by decide +kernel, rfl, by decide +kernel, by decide +kernel⟩
theorem ok_holes (F : Wr K mg "holes_moves" (top 59)) (T : Tx K mg C) (T' : TM K M) (TW' : TW K W) (GB : Mt P w K mg base CX0 1 M "begin_holes" ["self"] (spBegin M)) (GT : Fn P w K mg base CX0 2 "take_hole_numbers" ["machine", "words"] (spTakeH M W))
    (GTe : Mt P w K mg base CX0 1 W "tells_one_of" ["self", "letters"] (spTells W)) (GRH : Fn P w K mg base (CXE P w C) 2 "require_hole" ["machine"] (spReqH M C)) (GE : Fn P w K mg base CX0 2 "end_on_axis" ["machine", "words", "axis"] (spEndA M W))
    (GF : Fn P w K mg base CX0 1 "fast_move" ["place"] spFast) (GS : Fn P w K mg base CX0 1 "straight_move" ["place", "feed"] spStraight) (GO : Fn P w K mg base CX0 1 "other_move" ["kind", "first", "second"] spOther)
    (GP : Fn P w K mg base (CXE P w C) 2 "peck_moves" ["machine", "x", "y"] (spPeck M C)) : Fn P w K mg base (CXE P w C) 3 "holes_moves" ["machine", "words", "before"] (spHoles M W C) := by
  obtain ⟨f, fd, hm, F⟩ := F.ex
  refine ⟨f, fd, hm, F.kp, F.binds (ps := ["machine", "words", "before"]) (fun _ _ _ _ _ _ us hl => match us, hl with | [_, _, _], _ => rfl), ?_⟩
  refine F.okE scHM (fun vs H Q E h => ?_) (fun cdv A outer s H vs Q E hr h => ?_)
  · obtain ⟨_, _, _, _, _, _, _, rfl, _⟩ := h
    rfl
  · obtain ⟨m, wd, nd, cd, s, l, b, rfl, hb, hM, hW, hs, hl, h81, k, kE⟩ := h
    obtain ⟨ah, hah, kah⟩ := T.holes
    obtain ⟨dm, fm, hmi⟩ := hM.ins
    have nwm := mw_ne hW hM
    refine ⟨_, pss_cons (ps_if (pt_cmpR op_notIn_seq (pv 2) (pgr hah) rfl) (pss_one (ps_expr (pmeth0 (pv 0) T'.cl GB hr pass0))) pss_nil)
      (pss_cons (ps_expr (pcall GT hr pass0 (pa_cons (pv 0) (pa_cons (pv 1) pa_nil))))
      (pss_cons (ps_if (pt_not (pt_val (pmeth (pv 1) TW'.cl GTe hr pass0 (pa_cons (pgs T.ax) pa_nil)))) (pss_one (ps_ret (pe_lstN pa_nil))) pss_nil)
      (pss_cons (ps_expr (pcall GRH hr passE (pa_cons (pv 0) pa_nil)))
      (pss_cons (ps_set (i := 3) scHM.nd rfl (Or.inl rfl) (pcall GE hr pass0 (pa_cons (pv 0) (pa_cons (pv 1) (pa_cons pe_int pa_nil)))))
      (pss_cons (ps_set (i := 4) scHM.nd rfl (Or.inl rfl) (pcall GE hr pass0 (pa_cons (pv 0) (pa_cons (pv 1) (pa_cons pe_int pa_nil)))))
      (pss_cons (ps_set (i := 5) scHM.nd rfl (Or.inl rfl) (pe_lstN (pa_cons (pcall GF hr pass0 (pa_cons (pe_tupN (pa_cons (pv 3) (pa_cons (pv 4) (pa_cons (pe_ix ix_tup (pe_fld (pv 0) rfl) pe_int (fun _ _ => rfl)) pa_nil)))) pa_nil)) (pa_cons (pcall GF hr pass0 (pa_cons (pe_tupN (pa_cons (pv 3) (pa_cons (pv 4) (pa_cons (pe_fld (pv 0) rfl) pa_nil)))) pa_nil)) pa_nil))))
      (pss_cons (ps_if (pt_cmpR op_eq (pe_fld (pv 0) rfl) pe_int (nomark _))
          (pss_one (ps_expr (pe_bm PySem.F.plainAttrs_list PySem.F.slot_list_extend PySem.F.type_list_extend mt_extend (pv 5) (pa_cons (pcall GP hr passE (pa_cons (pv 0) (pa_cons (pv 3) (pa_cons (pv 4) pa_nil)))) pa_nil))))
          (pss_one (ps_expr (pe_bm PySem.F.plainAttrs_list PySem.F.slot_list_append PySem.F.type_list_append mt_append (pv 5) (pa_cons (pcall GS hr pass0 (pa_cons (pe_tupN (pa_cons (pv 3) (pa_cons (pv 4) (pa_cons (pe_fld (pv 0) rfl) pa_nil)))) (pa_cons (pe_fld (pv 0) rfl) pa_nil))) pa_nil)))))
      (pss_cons (ps_if (pt_cmpR op_eq (pe_fld (pv 0) rfl) pe_int (nomark _))
          (pss_one (ps_expr (pe_bm PySem.F.plainAttrs_list PySem.F.slot_list_append PySem.F.type_list_append mt_append (pv 5) (pa_cons (pcall GO hr pass0 (pa_cons pe_int (pa_cons (pe_fld (pv 0) rfl) (pa_cons pe_int pa_nil)))) pa_nil)))) pss_nil)
      (pss_cons (ps_fldN (pv 0) (pe_tupN (pa_cons (pv 3) (pa_cons (pv 4) (pa_cons (pe_callB (call_max2 rfl) (by rfl) T.max b_max (pa_cons (pe_fld (pv 0) rfl) (pa_cons (pe_fld (pv 0) rfl) pa_nil))) pa_nil)))) rfl)
      (pss_cons (ps_expr (pe_bm PySem.F.plainAttrs_list PySem.F.slot_list_append PySem.F.type_list_append mt_append (pv 5) (pa_cons (pcall GF hr pass0 (pa_cons (pe_fld (pv 0) rfl) pa_nil)) pa_nil)))
      (pss_one (ps_ret (pv 5))))))))))))), ?_⟩
    have hbb : ((b : Int) = 81 ∨ (b : Int) = 82 ∨ (b : Int) = 83) ↔ ¬ b < 81 := by
      unfold mOk at hb
      omega
    refine cont (Pv := fun σ H1 => σ = [some (.ref m), some (.ref wd), some (.int (b : Int)), none, none, none] ∧ MAt M H1 m (if b < 81 then begin_ s else s) ∧ Kp m H H1) ?_ ?_
    rotate_left
    · intro nx hnx
      obtain ⟨dx, fs, po, ol, pf, ps, hm, hf, hp⟩ := id hM
      refine ⟨_, rfl, ah, _, rfl, .inr (kah.sq H), rfl, rfl, _, rfl, ?_⟩
      refine iteB (p := b < 81) (by rw [not3, hbb]; omega) (fun h => ?_) (fun h => ?_)
      · refine ⟨_, rfl, m, dx, fs, rfl, hm, lk_none hf.keys (by decide +kernel), m, dx, po, fs, s.at_, rfl, hm, hf.place, hp.po, by rw [keys_len hf.keys]; decide, hnx _ _ ⟨rfl, ?_, (Kp.refl m H).upd⟩⟩
        rw [if_pos h]
        exact MAt.put hm hf.beg ⟨hp.po, hp.pf, hp.ol, hp.tp, hp.og⟩
      · exact hnx _ _ ⟨rfl, by rw [if_neg h]; exact hM, Kp.refl m H⟩
    rintro σ H1 ⟨rfl, M1, K1⟩
    have hs1 : SOk (if b < 81 then begin_ s else s) := by
      split
      · exact hs.begin_
      · exact hs
    have hW1 := hW.kp K1 hmi nwm
    refine ⟨_, rfl, _, rfl, m, wd, nd, cd, _, l, rfl, M1, hW1, SOk.lt hs1, fun H2 M2 k2 => ?_⟩
    have K2 := K1.trans k2
    have hs2 := hs1.takeH l
    have hW2 := hW.kp K2 hmi nwm
    have em : (takeH (if b < 81 then begin_ s else s) l).motion = s.motion := by
      rw [(MW.takeH_same _ l).1]
      split <;> rfl
    unfold holesM at k kE
    simp only at k kE
    generalize takeH (if b < 81 then begin_ s else s) l = u at *
    obtain ⟨dw, fw, hw, hwk, hwn, hwc⟩ := hW2.ob
    refine ⟨_, rfl, wd, dw, fw, rfl, hw, lk_none hwk (by decide +kernel), wd, nd, cd, l, _, rfl, hW2, axc, axs, fun H3 s3 => ?_⟩
    rw [tells_ax]
    have M3 := M2.same s3
    have K3 := K2.trans (s3.kp m)
    have hW3 := hW2.same s3
    obtain ⟨dx, fs, po, ol, pf, ps, hm, hf, hp⟩ := id M3
    refine ⟨_, rfl, ?_⟩
    cases hax : axT l with
    | false =>
      rw [hax, if_pos rfl] at k
      refine iteT ⟨by show 0 ≤ sizeLine; decide, fun ll H4 n4 a4 s4 => k _ rfl ll H4 (LsAt.nil a4) (M3.same s4) (K3.trans (s4.kp m)) (K3.free n4 hm) (by simp)⟩
    | true =>
      rw [hax, if_neg (by decide)] at k kE
      refine iteF ?_
      refine ⟨_, rfl, m, u, rfl, M3, fun rdp hn => ?_, fun hn => kE (by rw [hn]; rfl) _ K3⟩
      obtain ⟨r, d⟩ := rdp
      rw [hn] at k kE
      simp only [Option.bind_some] at k kE
      have hneed : ¬ u.feed = 0 ∧ u.level = some r ∧ u.depth = some d ∧ ¬ r < d := by
        unfold needH at hn
        split at hn
        · cases hn
        · rename_i hf0
          split at hn
          · cases hn
          · split at hn
            · rename_i r' d' e1 e2
              split at hn
              · cases hn
              · cases hn
                exact ⟨hf0, e1, e2, by assumption⟩
            · cases hn
      obtain ⟨hf0, hlv, hdp, hrd⟩ := hneed
      refine ⟨_, rfl, _, rfl, m, wd, nd, cd, u, l, 0, rfl, M3, hW3, SOk.lt hs2, by decide, _, rfl, _, rfl, m, wd, nd, cd, u, l, 1, rfl, M3, hW3, SOk.lt hs2, by decide, ?_⟩
      generalize u.to (own l) l 0 = x at *
      generalize u.to (own l) l 1 = y at *
      have z3 : 3 ≤ sizeLine := by decide
      have e1 := hf.level
      have e2 := hf.depth
      rw [hlv] at e1
      rw [hdp] at e2
      refine ⟨_, rfl, _, rfl, _, rfl, m, M, dx, fs, _, rfl, hm, T'.cl, T'.place, hf.place, po, _, _, _, rfl, rfl, SqT.of hp.po, pV_at u.at_ (k := 2) (by decide), z3, fun t4 H4 n4 a4 s4 => ⟨t4, (x, y, axis u.at_ 2), rfl, a4, fun q5 H5 a5 s5 => ?_⟩⟩
      refine ⟨_, rfl, _, rfl, _, rfl, m, M, dx, fs, _, rfl, s5 _ _ (s4 _ _ hm), T'.cl, T'.level, e1, z3, fun t6 H6 n6 a6 s6 => ⟨t6, (x, y, r), rfl, a6, fun q7 H7 a7 s7 => ?_⟩⟩
      refine ⟨by show 2 ≤ sizeLine; decide, fun ll H8 n8 a8 s8 => ?_⟩
      have s37 : Same H3 H7 := (s4.trans s5).trans (s6.trans s7)
      have s38 : Same H3 H8 := s37.trans s8
      have L8 : LsAt H8 ll [straight 0 (x, y, axis u.at_ 2) 0, straight 0 (x, y, r) 0] := LsAt.two a8 (s8 _ _ (s7 _ _ (s6 _ _ a5))) (s8 _ _ a7)
      have fll : H ll = none := (K3.trans (s37.kp m)).free n8 (s37 _ _ hm)
      have fl3 : H3 ll = none := s37.free n8
      dsimp only [gName]
      refine cont (Pv := fun σ H9 => ∃ dn, σ = [some (.ref m), some (.ref wd), some (.int (b : Int)), some (.int x), some (.int y), some (.ref ll)] ∧ Same H3 H9 ∧ LsAt H9 ll ([straight 0 (x, y, axis u.at_ 2) 0, straight 0 (x, y, r) 0] ++ dn) ∧ dn.length ≤ 3003 ∧
        (if u.motion = 82 then dn = [straight 1 (x, y, d) u.feed] else intoM u x y r d = some dn)) ?_ ?_
      rotate_left
      · intro nx hnx
        refine ⟨_, rfl, m, M, dx, fs, _, rfl, s38 _ _ hm, T'.cl, T'.motion, hf.motion, rfl, _, rfl, ?_⟩
        refine iteB (p := u.motion = 83) (by rw [eqI]; omega) (fun h83 => ?_) (fun h83 => ?_)
        · refine ⟨_, rfl, .inl ⟨rfl, _, SqL.of a8⟩, _, rfl, _, rfl, _, rfl, m, u, x, y, r, d, rfl, M3.same s38, hlv, hdp, by omega, fun ms hms l9 H9 L9 s9 f9 ln9 => ?_, fun hnone => ?_⟩
          · obtain ⟨xs, ys, x1, y1, x2, y2, L10⟩ := (L8.same s9).ext L9
            rw [List.length_cons, List.length_cons, List.length_nil] at x2
            refine ⟨ll, l9, _, _, rfl, rfl, x1, y1, by show xs.length + ys.length ≤ 16777216; omega, hnx _ _ ⟨ms, rfl, (s38.trans s9).upd fl3, L10, ln9, ?_⟩⟩
            rw [if_neg (by omega)]
            unfold intoM
            rw [if_pos h83, hms]
          · refine kE ?_ _ (K3.trans (s38.kp m))
            unfold intoM
            rw [if_pos h83, hnone]
            rfl
        · refine ⟨_, rfl, .inl ⟨rfl, _, SqL.of a8⟩, _, rfl, _, rfl, _, rfl, m, M, dx, fs, _, rfl, s38 _ _ hm, T'.cl, T'.depth, e2, z3, fun t9 H9 n9 a9 s9 => ⟨_, rfl, m, M, dx, fs, _, rfl, s9 _ _ (s38 _ _ hm), T'.cl, T'.feed, hf.feed, t9, (x, y, d), u.feed, rfl, a9, fun q10 H10 a10 s10 => ?_⟩⟩
          obtain ⟨xs, x1, x2, L11⟩ := (L8.same (s9.trans s10)).app a10
          rw [List.length_cons, List.length_cons, List.length_nil] at x2
          refine ⟨ll, _, _, rfl, rfl, x1, by show xs.length < 16777216; omega, hnx _ _ ⟨[straight 1 (x, y, d) u.feed], rfl, (s38.trans (s9.trans s10)).upd fl3, L11, by simp, ?_⟩⟩
          split
          · rfl
          · rename_i h82
            unfold intoM
            rw [if_neg h83, if_neg h82]
      rintro σ H9 ⟨dn, rfl, s39, L9, ln9, hdn⟩
      refine cont (Pv := fun σ H10 => ∃ ms, σ = [some (.ref m), some (.ref wd), some (.int (b : Int)), some (.int x), some (.int y), some (.ref ll)] ∧ Same H3 H10 ∧ LsAt H10 ll ([straight 0 (x, y, axis u.at_ 2) 0, straight 0 (x, y, r) 0] ++ ms) ∧ ms.length ≤ 3004 ∧ intoM u x y r d = some ms) ?_ ?_
      rotate_left
      · intro nx hnx
        refine ⟨_, rfl, m, M, dx, fs, _, rfl, s39 _ _ hm, T'.cl, T'.motion, hf.motion, rfl, _, rfl, ?_⟩
        refine iteB (p := u.motion = 82) (by rw [eqI]; omega) (fun h82 => ?_) (fun h82 => ?_)
        · rw [if_pos h82] at hdn
          subst hdn
          obtain ⟨ps9, y1, y2, y3⟩ := id L9.ex
          refine ⟨_, rfl, .inl ⟨rfl, _, SqL.of y1⟩, _, rfl, m, M, dx, fs, _, rfl, s39 _ _ hm, T'.cl, T'.wait, hf.wait, _, _, _, rfl, fun q10 H10 a10 s10 => ?_⟩
          obtain ⟨xs, x1, x2, L11⟩ := (L9.same s10).app a10
          simp only [List.length_append, List.length_cons, List.length_nil] at x2
          refine ⟨ll, _, _, rfl, rfl, x1, by show xs.length < 16777216; omega, hnx _ _ ⟨[straight 1 (x, y, d) u.feed, plain 4 u.wait 0], rfl, (s39.trans s10).upd fl3, ?_, by simp, ?_⟩⟩
          · rw [List.append_assoc] at L11
            exact L11
          · unfold intoM
            rw [if_neg (by omega), if_pos h82]
        · rw [if_neg h82] at hdn
          exact hnx _ _ ⟨dn, rfl, s39, L9, by omega, hdn⟩
      rintro σ H10 ⟨ms, rfl, s310, L10, ln10, hms⟩
      rw [hms] at k
      have m10 := s310 _ _ hm
      refine ⟨_, rfl, _, rfl, _, rfl, m, M, dx, fs, _, rfl, m10, T'.cl, T'.height, hf.height, _, rfl, m, M, dx, fs, _, rfl, m10, T'.cl, T'.level, e1, _, _, rfl, ?_⟩
      rw [max_if]
      refine ⟨z3, fun pq H11 n11 a11 s11 => ?_⟩
      have m11 := s11 _ _ m10
      refine ⟨_, rfl, m, M, dx, fs, rfl, m11, T'.cl, T'.place, hf.len, fun H12 m12 k12 => ?_⟩
      have g12 := hf.sPlace (x, y, max u.height r) pq
      have p12 := ((hp.same s310).same s11).kp k12 m11
      have a12 := k12 _ _ a11 (ne_of a11 m11 (by intro z; cases z))
      have M12 : MAt M H12 m { u with at_ := (x, y, max u.height r) } := ⟨dx, _, pq, ol, pf, ps, m12, g12, ⟨a12, p12.pf, p12.ol, p12.tp, p12.og⟩⟩
      have L12 := (L10.same s11).kp k12 m11
      obtain ⟨ps12, y1, y2, y3⟩ := id L12.ex
      refine ⟨_, rfl, .inl ⟨rfl, _, SqL.of y1⟩, _, rfl, m, M, dx, _, _, rfl, m12, T'.cl, T'.place, g12.place, pq, (x, y, max u.height r), rfl, a12, fun q13 H13 a13 s13 => ?_⟩
      obtain ⟨xs, x1, x2, L14⟩ := (L12.same s13).app a13
      simp only [List.length_append, List.length_cons, List.length_nil] at x2
      have K13 : Kp m H H13 := ((K3.trans ((s310.trans s11).kp m)).trans k12).trans (s13.kp m)
      refine ⟨ll, _, _, rfl, rfl, x1, by show xs.length < 16777216; omega, _, rfl, k _ rfl ll _ ?_ ?_ ?_ fll ?_⟩
      · rw [List.append_assoc] at L14
        exact L14
      · have p13 := p12.same s13
        have m13 := s13 _ _ m12
        refine ⟨dx, _, pq, ol, pf, ps, by rw [upd_ne (ne_of m13 x1 (by intro z; cases z))]; exact m13, g12, MP.updL ⟨s13 _ _ a12, p13.pf, p13.ol, p13.tp, p13.og⟩ x1 (ne_of_none hp.ol fl3)⟩
      · intro c o hc hcm
        rw [upd_ne (ne_of_none hc fll)]
        exact K13 c o hc hcm
      · simp only [List.length_append, List.length_cons, List.length_nil]
        omega
def spCirc (W : Addr) : Sp := fun vs H Q _ => ∃ (wd nd cd : Addr) (l : List Word), vs = [.ref wd] ∧ WAt W H wd nd cd l ∧ ∀ H', Same H H' → Q (.bl ((cMotion l).isSome && ceT l)) H'
theorem scCi : FnScope ["words"] ["words"] (defScope (top 50)) := ⟨rfl, rfl, rfl, by decide +kernel, rfl, by decide +kernel, by decide +kernel⟩
theorem ok_circle (F : Wr K mg "tells_circle" (top 50)) (T : Tx K mg C) (TW' : TW K W) (GTe : Mt P w K mg base CX0 1 W "tells_one_of" ["self", "letters"] (spTells W)) : Fn P w K mg base CX0 2 "tells_circle" ["words"] (spCirc W) := by
  obtain ⟨f, fd, hm, F⟩ := F.ex
  refine ⟨f, fd, hm, F.kp, F.binds (ps := ["words"]) (fun _ _ _ _ _ _ us hl => match us, hl with | [_], _ => rfl), ?_⟩
  refine F.ok scCi (fun vs H Q E h => ?_) (fun cdv A outer s H vs Q E hr h => ?_)
  · obtain ⟨_, _, _, _, rfl, _⟩ := h
    rfl
  · obtain ⟨wd, nd, cd, l, rfl, hW, k⟩ := h
    have hu := hu_of hr
    obtain ⟨dw, fw, hw, hwk, hwn, hwc⟩ := hW.ob
    refine ⟨_, pss_one (ps_ret (pe_and (pe_cmp (pc_din hu pe_str (pe_fld (pv 0) rfl))) (pe_one (pmeth (pv 0) TW'.cl GTe hr pass0 (pa_cons (pgs T.ce) pa_nil))))), ?_⟩
    refine ⟨_, rfl, wd, W, dw, fw, _, rfl, hw, TW'.cl, TW'.nCo, hwc, cd, _, rfl, hW.gC ("motion", 'G', [0, 1, 2, 3, 80, 81, 82, 83]), _, rfl, ?_⟩
    rw [isSome_map]
    have e : (Sz30.chosen (Sz30.all l 'G') [0, 1, 2, 3, 80, 81, 82, 83]).isSome = (cMotion l).isSome := rfl
    show if (Sz30.chosen (Sz30.all l 'G') [0, 1, 2, 3, 80, 81, 82, 83]).isSome = true then _ else _
    rw [e]
    cases hc : (cMotion l).isSome with
    | false =>
      rw [hc] at k
      exact iteF (k _ (Same.refl H))
    | true =>
      rw [hc] at k
      refine iteT ⟨_, rfl, wd, dw, fw, rfl, hw, lk_none hwk (by decide +kernel), wd, nd, cd, l, _, rfl, hW, cec, ces, fun H' s' => ?_⟩
      rw [tells_ce]
      exact k H' s'
def spMotL (M W C : Addr) (f : Sz30.St → List Word → Option (Sz30.St × List Mv)) : Sp := fun vs H Q E => ∃ (m wd nd cd : Addr) (s : Sz30.St) (l : List Word), vs = [.ref m, .ref wd] ∧ MAt M H m s ∧ WAt W H wd nd cd l ∧ SOk s ∧ WB l ∧
  (∀ r, f s l = some r → ∀ (ll : Addr) (H' : Hp), LsAt H' ll r.2 → MAt M H' m r.1 → Kp m H H' → H ll = none → r.2.length ≤ 4000 → Q (.ref ll) H') ∧ (f s l = none → ∀ H', Kp m H H' → E (.ref C) none H')
theorem line_one {s : Sz30.St} {l : List Word} {r : Sz30.St × List Mv} (h : lineM s l = some r) : r.2.length ≤ 4000 := by
  unfold lineM at h
  split at h
  · cases h; simp
  · split at h
    · cases h
    · cases h; simp
theorem arc_one {s : Sz30.St} {l : List Word} {r : Sz30.St × List Mv} (h : arcM s l = some r) : r.2.length ≤ 4000 := by
  unfold arcM at h
  split at h
  · cases h
  · simp only at h
    split at h
    · cases h
    · split at h
      · cases h
      · cases h; simp
theorem scMM : FnScope ["machine", "words", "before", "leads"] ["machine", "words"] (defScope (top 49)) := ⟨rfl, rfl, rfl, by decide +kernel, rfl, by decide +kernel, by decide +kernel⟩
theorem ok_motion (F : Wr K mg "motion_moves" (top 49)) (T : Tx K mg C) (T' : TM K M) (TW' : TW K W) (GTe : Mt P w K mg base CX0 1 W "tells_one_of" ["self", "letters"] (spTells W)) (GC : Fn P w K mg base CX0 2 "tells_circle" ["words"] (spCirc W))
    (GH : Fn P w K mg base (CXE P w C) 3 "holes_moves" ["machine", "words", "before"] (spHoles M W C)) (GA : Fn P w K mg base (CXE P w C) 4 "arc_moves" ["machine", "words"] (spMot M W C arcM)) (GLi : Fn P w K mg base (CXE P w C) 4 "line_moves" ["machine", "words"] (spMot M W C lineM)) :
    Fn P w K mg base (CXE P w C) 5 "motion_moves" ["machine", "words"] (spMotL M W C motionM) := by
  obtain ⟨f, fd, hm, F⟩ := F.ex
  refine ⟨f, fd, hm, F.kp, F.binds (ps := ["machine", "words"]) (fun _ _ _ _ _ _ us hl => match us, hl with | [_, _], _ => rfl), ?_⟩
  refine F.okE scMM (fun vs H Q E h => ?_) (fun cdv A outer s H vs Q E hr h => ?_)
  · obtain ⟨_, _, _, _, _, _, rfl, _⟩ := h
    rfl
  · obtain ⟨m, wd, nd, cd, s, l, rfl, hM, hW, hs, hl, k, kE⟩ := h
    have hu := hu_of hr
    obtain ⟨ah, hah, kah⟩ := T.holes
    obtain ⟨aa, haa, kaa⟩ := T.arcs
    obtain ⟨dw, fw, hw, hwk, hwn, hwc⟩ := hW.ob
    obtain ⟨dx, fs, po, ol, pf, ps, hm, hf, hp⟩ := id hM
    have nwm := mw_ne hW hM
    refine ⟨_, pss_cons (ps_set (i := 2) scMM.nd rfl (Or.inl rfl) (pe_fld (pv 0) rfl))
      (pss_cons (ps_fldN (pv 0) (pe_dget2 hu (pe_fld (pv 1) rfl) pe_str (pv 2) ⟨rfl, rfl, rfl, rfl⟩) rfl)
      (pss_cons (ps_set (i := 3) scMM.nd rfl (Or.inl rfl) (pmeth (pv 1) TW'.cl GTe hr pass0 (pa_cons (pgs T.ax) pa_nil)))
      (pss_cons (ps_if (pw_and (pt_cmpR op_eq (pe_dget1 hu (pe_fld (pv 1) rfl) pe_str ⟨rfl, rfl, rfl, rfl⟩) pe_int (nomark _))
          (pw_and1 (pt_not (pw_and (pt_val (pv 3)) (pw_and1 (pt_cmpR op_in_seq (pe_fld (pv 0) rfl) (pe_tupN (pa_cons pe_int (pa_cons pe_int pa_nil))) rfl))).pt))).pt (pss_one (ps_raise T.exc rfl raiseE rfl (pa_cons pe_str pa_nil))) pss_nil)
      (pss_cons (ps_if (pt_cmpR op_in_seq (pe_fld (pv 0) rfl) (pgr hah) rfl) (pss_one (ps_ret (pcall GH hr passE (pa_cons (pv 0) (pa_cons (pv 1) (pa_cons (pv 2) pa_nil)))))) pss_nil)
      (pss_cons (ps_if (pw_and (pt_cmpR op_in_seq (pe_fld (pv 0) rfl) (pgr haa) rfl) (pw_and1 (pw_or (pt_val (pv 3)) (pw_or1 (pt_val (pcall GC hr pass0 (pa_cons (pv 1) pa_nil))))).pt)).pt (pss_one (ps_ret (pcall GA hr passE (pa_cons (pv 0) (pa_cons (pv 1) pa_nil))))) pss_nil)
      (pss_cons (ps_if (pt_not (pt_val (pv 3))) (pss_one (ps_ret (pe_lstN pa_nil))) pss_nil)
      (pss_cons (ps_if (pt_cmpR op_eq (pe_fld (pv 0) rfl) pe_int (nomark _)) (pss_one (ps_raise T.exc rfl raiseE rfl (pa_cons pe_str pa_nil))) pss_nil)
      (pss_one (ps_ret (pcall GLi hr passE (pa_cons (pv 0) (pa_cons (pv 1) pa_nil)))))))))))), ?_⟩
    refine ⟨_, rfl, m, M, dx, fs, _, rfl, hm, T'.cl, T'.motion, hf.motion, ?_⟩
    refine ⟨_, rfl, wd, W, dw, fw, _, rfl, hw, TW'.cl, TW'.nCo, hwc, cd, rfl, hW.dC, _, rfl, _, hW.gC ("motion", 'G', [0, 1, 2, 3, 80, 81, 82, 83]), ?_⟩
    have ek : ((Sz30.chosen (Sz30.all l 'G') [0, 1, 2, 3, 80, 81, 82, 83]).map V.int).getD (V.int (s.motion : Int)) = V.int (kindM s l : Int) := by
      unfold kindM
      show ((cMotion l).map V.int).getD _ = _
      cases hc : cMotion l with
      | none => rfl
      | some x =>
        have := (MW.cMotion_ok hc).2
        show V.int x = V.int (x.toNat : Int)
        rw [this]
    show ∃ v, _ ∧ _
    simp only [ek]
    refine ⟨_, rfl, m, M, dx, fs, rfl, hm, T'.cl, T'.motion, hf.len, fun H1 m1 k1 => ?_⟩
    have g1 := hf.sMotion (kindM s l)
    have M1 : MAt M H1 m { s with motion := kindM s l } := ⟨dx, _, po, ol, pf, ps, m1, g1, (MP.kp ⟨hp.po, hp.pf, hp.ol, hp.tp, hp.og⟩ k1 hm)⟩
    have hk := MW.kind_ok (l := l) hs.mo
    have hs1 := hs.motion hk
    have hW1 := hW.kp k1 hm nwm
    unfold motionM at k kE
    simp only at k kE
    generalize kindM s l = kd at *
    have hw1 := k1 _ _ hw nwm
    refine ⟨_, rfl, wd, dw, fw, rfl, hw1, lk_none hwk (by decide +kernel), wd, nd, cd, l, _, rfl, hW1, axc, axs, fun H2 s2 => ?_⟩
    rw [tells_ax]
    have m2 := s2 _ _ m1
    have M2 := M1.same s2
    have hW2 := hW1.same s2
    have K2 : Kp m H H2 := k1.trans (s2.kp m)
    dsimp only [gName]
    refine cont (Pv := fun σ H3 => σ = [some (.ref m), some (.ref wd), some (.int (s.motion : Int)), some (.bl (axT l))] ∧ Same H2 H3 ∧ ¬ (own l = true ∧ ¬ (axT l = true ∧ (kd = 0 ∨ kd = 1)))) ?_ ?_
    rotate_left
    · intro nx hnx
      refine ⟨_, rfl, wd, W, dw, fw, _, rfl, s2 _ _ hw1, TW'.cl, TW'.nCo, hwc, cd, rfl, hW2.dC, _, hW2.gC ("special", 'G', [4, 53, 92]), scal_o _ _, _, rfl, ?_⟩
      refine iteB (p := cSpecial l = some 53) eq_o (fun e => ?_) (fun e => ?_)
      · have ho : own l = true := decide_eq_true e
        have bad : ¬ (axT l = true ∧ (kd = 0 ∨ kd = 1)) → ∀ H3, Same H2 H3 → 1 ≤ sizeLine ∧ E (.ref C) none H3 := fun h H3 s3 => ⟨by decide, kE (by rw [if_pos ⟨ho, h⟩]) _ (K2.trans (s3.kp m))⟩
        refine ⟨_, rfl, _, rfl, ?_⟩
        cases hax : axT l with
        | false => exact iteF (iteT (bad (by rw [hax]; rintro ⟨z, _⟩; cases z) _ (Same.refl H2)))
        | true =>
          refine iteT ⟨_, rfl, m, M, dx, _, _, rfl, m2, T'.cl, T'.motion, g1.motion, by show 2 ≤ sizeLine; decide, fun t3 H3 n3 a3 s3 => ⟨t3, _, rfl, .inr (SqT.of a3), rfl, rfl, _, rfl, ?_⟩⟩
          have hin := in2' (kd : Int) 0 1
          show if (!(if false = true then !inV (V.int (kd : Int)) [.int 0, .int 1] else inV (V.int (kd : Int)) [.int 0, .int 1])) = true then _ else _
          by_cases h01 : kd = 0 ∨ kd = 1
          · rw [hin.mpr (by omega)]
            exact iteF (hnx _ _ ⟨by rw [hax]; rfl, s3, by rw [hax]; rintro ⟨_, z⟩; exact z ⟨rfl, h01⟩⟩)
          · have : (if false = true then !inV (V.int (kd : Int)) [.int 0, .int 1] else inV (V.int (kd : Int)) [.int 0, .int 1]) = false := by
              rw [← Bool.not_eq_true, hin]
              omega
            rw [this]
            exact iteT (bad (by rintro ⟨_, z⟩; exact h01 z) _ s3)
      · have ho : own l = false := decide_eq_false e
        exact iteF (hnx _ _ ⟨rfl, Same.refl H2, by rw [ho]; rintro ⟨z, _⟩; cases z⟩)
    rintro σ H3 ⟨rfl, s3, hown⟩
    rw [if_neg hown] at k kE
    have m3 := s3 _ _ m2
    have M3 := M2.same s3
    have hW3 := hW2.same s3
    have K3 : Kp m H H3 := K2.trans (s3.kp m)
    have hkd := hk
    unfold mOk at hkd
    refine ⟨_, rfl, m, M, dx, _, _, rfl, m3, T'.cl, T'.motion, g1.motion, ah, _, rfl, .inr (kah.sq H3), rfl, rfl, _, rfl, ?_⟩
    refine iteB (p := 81 ≤ kd) (by rw [in3']; show ((kd : Int) = 81 ∨ (kd : Int) = 82 ∨ (kd : Int) = 83) ↔ _; omega) (fun h81 => ?_) (fun h81 => ?_)
    · rw [if_pos h81] at k kE
      refine ⟨_, rfl, _, rfl, _, rfl, m, wd, nd, cd, _, l, s.motion, rfl, hs.mo, M3, hW3, hs1, hl, h81, fun r hr' ll H4 L4 M4 k4 f4 ln => ?_, fun hn H4 k4 => kE hn _ (K3.trans k4)⟩
      exact k r hr' ll H4 L4 M4 (K3.trans k4) (K3.free f4 m3) ln
    rw [if_neg h81] at k kE
    dsimp only [tNext]
    refine cont (Pv := fun σ H4 => σ = [some (.ref m), some (.ref wd), some (.int (s.motion : Int)), some (.bl (axT l))] ∧ Same H3 H4 ∧ ¬ ((kd = 2 ∨ kd = 3) ∧ (axT l = true ∨ ((cMotion l).isSome = true ∧ ceT l = true)))) ?_ ?_
    rotate_left
    · intro nx hnx
      refine ⟨_, rfl, m, M, dx, _, _, rfl, m3, T'.cl, T'.motion, g1.motion, aa, _, rfl, .inr (kaa.sq H3), rfl, rfl, _, rfl, ?_⟩
      refine iteB (p := kd = 2 ∨ kd = 3) (by rw [in2']; show ((kd : Int) = 2 ∨ (kd : Int) = 3) ↔ _; omega) (fun h23 => ?_) (fun h23 => iteF (hnx _ _ ⟨rfl, Same.refl H3, fun z => h23 z.1⟩))
      have go : ∀ H4, Same H3 H4 → (axT l = true ∨ ((cMotion l).isSome = true ∧ ceT l = true)) → tRet (tCall (spMot M W C arcM) [] E (tCons (tVar 0) (tCons (tVar 1) tNil))) { nx := nx, rt := Q } [some (.ref m), some (.ref wd), some (.int (s.motion : Int)), some (.bl (axT l))] H4 := fun H4 s4 h => by
        rw [if_pos ⟨h23, h⟩] at k kE
        have K4 := K3.trans (s4.kp m)
        refine ⟨_, rfl, _, rfl, m, wd, nd, cd, _, l, rfl, M3.same s4, hW3.same s4, hs1, hl, fun r hr' ll H5 L5 M5 k5 f5 => ?_, fun hn H5 k5 => kE hn _ (K4.trans k5)⟩
        exact k r hr' ll H5 L5 M5 (K4.trans k5) (K4.free f5 (s4 _ _ m3)) (arc_one hr')
      refine ⟨_, rfl, _, rfl, ?_⟩
      cases hax : axT l with
      | true =>
        rw [hax] at go
        exact iteT (go _ (Same.refl H3) (.inl rfl))
      | false =>
        rw [hax] at go hnx
        refine iteF ⟨_, rfl, wd, nd, cd, l, rfl, hW3, fun H4 s4 => ⟨_, rfl, ?_⟩⟩
        refine iteB (p := (cMotion l).isSome = true ∧ ceT l = true) (by rw [Bool.and_eq_true]) (fun h => go _ s4 (.inr h)) (fun h => hnx _ _ ⟨rfl, s4, ?_⟩)
        rintro ⟨_, z | z⟩
        · cases z
        · exact h z
    rintro σ H4 ⟨rfl, s4, hna⟩
    rw [if_neg hna] at k kE
    have m4 := s4 _ _ m3
    have M4 := M3.same s4
    have hW4 := hW3.same s4
    have K4 : Kp m H H4 := K3.trans (s4.kp m)
    refine ⟨_, rfl, _, rfl, ?_⟩
    cases hax : axT l with
    | false =>
      rw [hax, if_pos rfl] at k
      exact iteT ⟨by show 0 ≤ sizeLine; decide, fun ll H5 n5 a5 s5 => k _ rfl ll H5 (LsAt.nil a5) (M4.same s5) (K4.trans (s5.kp m)) (K4.free n5 m4) (by simp)⟩
    | true =>
      rw [hax, if_neg (by decide)] at k kE
      refine iteF ⟨_, rfl, m, M, dx, _, _, rfl, m4, T'.cl, T'.motion, g1.motion, rfl, _, rfl, iteB (p := kd = 80) (by rw [eqI]; show (kd : Int) = 80 ↔ _; omega) (fun h80 => ⟨by show 1 ≤ sizeLine; decide, kE (by rw [if_pos h80]) _ K4⟩) (fun h80 => ?_)⟩
      rw [if_neg h80] at k kE
      refine ⟨_, rfl, _, rfl, m, wd, nd, cd, _, l, rfl, M4, hW4, hs1, hl, fun r hr' ll H5 L5 M5 k5 f5 => ?_, fun hn H5 k5 => kE hn _ (K4.trans k5)⟩
      exact k r hr' ll H5 L5 M5 (K4.trans k5) (K4.free f5 m4) (line_one hr')
end
end MV
set_option maxRecDepth 100000
set_option maxHeartbeats 1000000
namespace MV
open PySem L2
seal L2.PE L2.PA L2.PS L2.PSs L2.PT L2.PW L2.PC L2.PI L2.PG L2.PO
open Sz30 (Bytes Word straight plain axis sq pecks)
open MW (SOk WB IB PB axT ceT cSpecial cMotion cUnit cPlane cOrigin cWay cTool cSpindle cCooling cStop own endP told motionM mainM doM offK stopM endsM side side5 side6 side7 settle1 settle2 settle3 settle4 settle5)
theorem WAt.gCx {W : Addr} {H : Hp} {wd nd cd : Addr} {l : List Word} (h : WAt W H wd nd cd l) (e : Str × Char × List Int) {x : Int} (hx : Sz30.chosen (Sz30.all l e.2.1) e.2.2 = some x) (he : e ∈ gt := by decide +kernel) : DGet H cd (.str e.1) (some (.int x)) :=
  (h.gC e he).to (by rw [hx]; rfl)
theorem main_og {u : Sz30.St} {l : List Word} {r : Sz30.St × List Mv} (hz : mainM u l = some r) : r.1.origins = u.origins := by
  unfold mainM at hz
  split at hz
  · split at hz
    · cases hz
    · cases hz; rfl
  · split at hz
    · split at hz
      · cases hz
      · cases hz; rfl
    · unfold motionM at hz
      simp only at hz
      split at hz
      · cases hz
      · split at hz
        · unfold MW.holesM at hz
          simp only at hz
          have ht : ∀ k, (MW.takeH (if u.motion < 81 then MW.begin_ { u with motion := k } else { u with motion := k }) l).origins = u.origins := fun k => by
            rw [(MW.takeH_same _ l).2.2.2.1]
            split <;> rfl
          split at hz
          · cases hz; exact ht _
          · obtain ⟨q, hq, hz⟩ := Option.bind_eq_some_iff.mp hz
            obtain ⟨m, hm', hz⟩ := Option.map_eq_some_iff.mp hz
            cases hz
            exact ht _
        · split at hz
          · unfold MW.arcM at hz
            split at hz
            · cases hz
            · simp only at hz
              split at hz
              · cases hz
              · split at hz
                · cases hz
                · cases hz; rfl
          · split at hz
            · cases hz; rfl
            · split at hz
              · cases hz
              · unfold MW.lineM at hz
                split at hz
                · cases hz; rfl
                · split at hz
                  · cases hz
                  · cases hz; rfl
section
variable {P : Program} {w : World} {K : PySem.W.Frag} {mg : Str → Option Value} {base : Heap} {C M W : Addr}
def spSettle (M W : Addr) : Sp := fun vs H Q _ => ∃ (m wd nd cd : Addr) (s : Sz30.St) (l : List Word), vs = [.ref m, .ref wd] ∧ MAt M H m s ∧ WAt W H wd nd cd l ∧ ∀ H', MAt M H' m (MW.settle s l) → Kp m H H' → Q .non H'
theorem scSe : FnScope ["machine", "words", "codes"] ["machine", "words"] (defScope (top 67)) := ⟨rfl, rfl, rfl, by decide +kernel, rfl, by decide +kernel, by decide +kernel⟩
theorem ok_settle (F : Wr K mg "settle" (top 67)) (T : Tx K mg C) (T' : TM K M) (TW' : TW K W) (GL : Mt P w K mg base CX0 1 M "length" ["self", "number"] (spLength M)) : Fn P w K mg base CX0 2 "settle" ["machine", "words"] (spSettle M W) := by
  obtain ⟨f, fd, hm, F⟩ := F.ex
  refine ⟨f, fd, hm, F.kp, F.binds (ps := ["machine", "words"]) (fun _ _ _ _ _ _ us hl => match us, hl with | [_, _], _ => rfl), ?_⟩
  refine F.ok scSe (fun vs H Q E h => ?_) (fun cdv A outer s H vs Q E hr h => ?_)
  · obtain ⟨_, _, _, _, _, _, rfl, _⟩ := h
    rfl
  · obtain ⟨m, wd, nd, cd, s, l, rfl, hM, hW, k⟩ := h
    have hu := hu_of hr
    obtain ⟨dw, fw, hw, hwk, hwn, hwc⟩ := hW.ob
    obtain ⟨dm, fm, hmi⟩ := hM.ins
    have nwm := mw_ne hW hM
    refine ⟨_, pss_cons (ps_set (i := 2) scSe.nd rfl (Or.inl rfl) (pe_fld (pv 1) rfl))
      (pss_cons (ps_if (pt_cmp (pc_din hu pe_str (pv 2))) (pss_one (ps_fld (pv 0) (pe_ifExp (pt_cmpR op_eq (pe_dget hu (pv 2) pe_str (fun _ _ => rfl)) pe_int (nomark _)) (pgi T.inc) (pgi T.mm)) rfl)) pss_nil)
      (pss_cons (ps_if (pt_cmp (pc_din hu pe_str (pv 2))) (pss_one (ps_fld (pv 0) (pe_dget hu (pv 2) pe_str (fun _ _ => rfl)) rfl)) pss_nil)
      (pss_cons (ps_if (pt_cmp (pc_din hu pe_str (pv 2))) (pss_one (ps_fld (pv 0) (pe_op op_sub (pe_dget hu (pv 2) pe_str (fun _ _ => rfl)) (pgi T.fo)) rfl)) pss_nil)
      (pss_cons (ps_if (pt_cmp (pc_din hu pe_str (pv 2))) (pss_one (ps_fld (pv 0) (pe_cmpR op_eq (pe_dget hu (pv 2) pe_str (fun _ _ => rfl)) pe_int (nomark _)) rfl)) pss_nil)
      (pss_one (ps_if (pt_cmp (pc_din hu pe_str (pe_fld (pv 1) rfl))) (pss_one (ps_fld (pv 0) (pmeth (pv 0) T'.cl GL hr pass0 (pa_cons (pe_dget hu (pe_fld (pv 1) rfl) pe_str (fun _ _ => rfl)) pa_nil)) rfl)) pss_nil)))))), ?_⟩
    refine ⟨_, rfl, wd, W, dw, fw, _, rfl, hw, TW'.cl, TW'.nCo, hwc, ?_⟩
    dsimp only [gName]
    refine cont (Pv := fun σ H1 => σ = [some (.ref m), some (.ref wd), some (.ref cd)] ∧ MAt M H1 m (settle1 s l) ∧ Kp m H H1) ?_ ?_
    rotate_left
    · intro nx hnx
      refine ⟨_, rfl, cd, _, rfl, hW.gC ("unit", 'G', [20, 21]), _, rfl, ?_⟩
      rw [isSome_map]
      cases hx : Sz30.chosen (Sz30.all l 'G') [20, 21] with
      | none =>
        have e : settle1 s l = s := by unfold settle1; rw [show cUnit l = none from hx]
        exact iteF (hnx _ _ ⟨rfl, by rw [e]; exact hM, Kp.refl m H⟩)
      | some x =>
        have e : settle1 s l = { s with inches := x == 20 } := by unfold settle1; rw [show cUnit l = some x from hx]
        obtain ⟨dx, fs, po, ol, pf, ps, hm, hf, hp⟩ := id hM
        have fin : ∀ n : Int, n = (if (x == 20) = true then 254 else 10) → ∃ a C' dx' fs', V.ref m = .ref a ∧ H a = some (.ins C' dx' fs') ∧ Cls K C' ∧ NoAttr K C' "unit" ∧ fs'.length < 1000 ∧ nx [some (.ref m), some (.ref wd), some (.ref cd)] (upd H a (.ins C' dx' (putF "unit" (.int n) fs'))) := by
          rintro n rfl
          refine ⟨m, M, dx, fs, rfl, hm, T'.cl, T'.unit, hf.len, hnx _ _ ⟨rfl, ?_, (Kp.refl m H).upd⟩⟩
          rw [e]
          exact MAt.put hm (hf.sUnit (x == 20)) ⟨hp.po, hp.pf, hp.ol, hp.tp, hp.og⟩
        refine iteT ⟨_, rfl, cd, _, rfl, hW.gCx ("unit", 'G', [20, 21]) hx, rfl, _, rfl, iteB (p := x = 20) eqI (fun h => ⟨_, rfl, fin 254 ?_⟩) (fun h => ⟨_, rfl, fin 10 ?_⟩)⟩
        · rw [if_pos (by simpa using h)]
        · rw [if_neg (by simpa using h)]
    rintro σ H1 ⟨rfl, M1, K1⟩
    have hW1 := hW.kp K1 hmi nwm
    generalize g1 : settle1 s l = s1 at M1
    refine cont (Pv := fun σ H1 => σ = [some (.ref m), some (.ref wd), some (.ref cd)] ∧ MAt M H1 m (settle2 s1 l) ∧ Kp m H H1) ?_ ?_
    rotate_left
    · intro nx hnx
      refine ⟨_, rfl, cd, _, rfl, hW1.gC ("plane", 'G', [17, 18, 19]), _, rfl, ?_⟩
      rw [isSome_map]
      cases hx : Sz30.chosen (Sz30.all l 'G') [17, 18, 19] with
      | none =>
        have e : settle2 s1 l = s1 := by unfold settle2; rw [show cPlane l = none from hx]
        exact iteF (hnx _ _ ⟨rfl, by rw [e]; exact M1, K1⟩)
      | some x =>
        have e : settle2 s1 l = { s1 with plane := x.toNat } := by unfold settle2; rw [show cPlane l = some x from hx]
        have hn : x = (x.toNat : Int) := by
          have := MW.chosen_mem hx
          simp only [List.mem_cons, List.not_mem_nil, or_false] at this
          omega
        obtain ⟨dx, fs, po, ol, pf, ps, hm, hf, hp⟩ := id M1
        refine iteT ⟨_, rfl, cd, _, rfl, hW1.gCx ("plane", 'G', [17, 18, 19]) hx, _, rfl, m, M, dx, fs, rfl, hm, T'.cl, T'.plane, hf.len, hnx _ _ ⟨rfl, ?_, K1.upd⟩⟩
        rw [e]
        have := MAt.put hm (hf.sPlane x.toNat) ⟨hp.po, hp.pf, hp.ol, hp.tp, hp.og⟩
        rw [← hn] at this
        exact this
    rintro σ H2 ⟨rfl, M2, K2⟩
    have hW2 := hW.kp K2 hmi nwm
    generalize g2 : settle2 s1 l = s2 at M2
    refine cont (Pv := fun σ H1 => σ = [some (.ref m), some (.ref wd), some (.ref cd)] ∧ MAt M H1 m (settle3 s2 l) ∧ Kp m H H1) ?_ ?_
    rotate_left
    · intro nx hnx
      refine ⟨_, rfl, cd, _, rfl, hW2.gC ("origin", 'G', [54, 55, 56, 57, 58, 59]), _, rfl, ?_⟩
      rw [isSome_map]
      cases hx : Sz30.chosen (Sz30.all l 'G') [54, 55, 56, 57, 58, 59] with
      | none =>
        have e : settle3 s2 l = s2 := by unfold settle3; rw [show cOrigin l = none from hx]
        exact iteF (hnx _ _ ⟨rfl, by rw [e]; exact M2, K2⟩)
      | some x =>
        have e : settle3 s2 l = { s2 with origin := (x - 54).toNat } := by unfold settle3; rw [show cOrigin l = some x from hx]
        have hn : x - 54 = ((x - 54).toNat : Int) := by
          have := MW.chosen_mem hx
          simp only [List.mem_cons, List.not_mem_nil, or_false] at this
          omega
        obtain ⟨dx, fs, po, ol, pf, ps, hm, hf, hp⟩ := id M2
        refine iteT ⟨_, rfl, cd, _, rfl, hW2.gCx ("origin", 'G', [54, 55, 56, 57, 58, 59]) hx, _, _, rfl, rfl, _, rfl, m, M, dx, fs, rfl, hm, T'.cl, T'.origin, hf.len, hnx _ _ ⟨rfl, ?_, K2.upd⟩⟩
        rw [e]
        have := MAt.put hm (hf.sOrigin (x - 54).toNat) ⟨hp.po, hp.pf, hp.ol, hp.tp, hp.og⟩
        rw [← hn] at this
        exact this
    rintro σ H3 ⟨rfl, M3, K3⟩
    have hW3 := hW.kp K3 hmi nwm
    generalize g3 : settle3 s2 l = s3 at M3
    refine cont (Pv := fun σ H1 => σ = [some (.ref m), some (.ref wd), some (.ref cd)] ∧ MAt M H1 m (settle4 s3 l) ∧ Kp m H H1) ?_ ?_
    rotate_left
    · intro nx hnx
      refine ⟨_, rfl, cd, _, rfl, hW3.gC ("way", 'G', [90, 91]), _, rfl, ?_⟩
      rw [isSome_map]
      cases hx : Sz30.chosen (Sz30.all l 'G') [90, 91] with
      | none =>
        have e : settle4 s3 l = s3 := by unfold settle4; rw [show cWay l = none from hx]
        exact iteF (hnx _ _ ⟨rfl, by rw [e]; exact M3, K3⟩)
      | some x =>
        have e : settle4 s3 l = { s3 with steps := x == 91 } := by unfold settle4; rw [show cWay l = some x from hx]
        obtain ⟨dx, fs, po, ol, pf, ps, hm, hf, hp⟩ := id M3
        refine iteT ⟨_, rfl, cd, _, rfl, hW3.gCx ("way", 'G', [90, 91]) hx, rfl, _, rfl, m, M, dx, fs, rfl, hm, T'.cl, T'.steps, hf.len, hnx _ _ ⟨rfl, ?_, K3.upd⟩⟩
        rw [e, ← dec_int]
        exact MAt.put hm (hf.sSteps _) ⟨hp.po, hp.pf, hp.ol, hp.tp, hp.og⟩
    rintro σ H4 ⟨rfl, M4, K4⟩
    have hW4 := hW.kp K4 hmi nwm
    have ks : ∀ H', MAt M H' m (settle5 (settle4 s3 l) l) → Kp m H H' → Q .non H' := fun H' q1 q2 => k H' (by unfold MW.settle; rw [g1, g2, g3]; exact q1) q2
    generalize settle4 s3 l = s4 at M4 ks
    have hw4 := K4 _ _ hw nwm
    refine ⟨_, rfl, wd, W, dw, fw, _, rfl, hw4, TW'.cl, TW'.nNu, hwn, nd, _, rfl, hW4.gNs sF, _, rfl, ?_⟩
    rw [isSome_map]
    cases hx : fnd l 70 with
    | none =>
      have e : settle5 s4 l = s4 := by unfold settle5; rw [get_fnd, show fnd l (Sz30.letter 'F') = none from hx]
      exact iteF (ks _ (by rw [e]; exact M4) K4)
    | some x =>
      have e : settle5 s4 l = { s4 with feed := s4.long x } := by unfold settle5; rw [get_fnd, show fnd l (Sz30.letter 'F') = some x from hx]
      obtain ⟨dx, fs, po, ol, pf, ps, hm, hf, hp⟩ := id M4
      refine iteT ⟨_, rfl, m, dx, fs, rfl, hm, lk_none hf.keys (by decide +kernel), _, rfl, wd, W, dw, fw, _, rfl, hw4, TW'.cl, TW'.nNu, hwn, nd, _, rfl, hW4.gNx sF hx, m, s4, x, rfl, M4, _, rfl, m, M, dx, fs, rfl, hm, T'.cl, T'.feed, hf.len, ks _ ?_ K4.upd⟩
      rw [e]
      exact MAt.put hm (hf.sFeed (s4.long x)) ⟨hp.po, hp.pf, hp.ol, hp.tp, hp.og⟩
def spSide (W : Addr) : Sp := fun vs H Q _ => ∃ (wd nd cd : Addr) (l : List Word), vs = [.ref wd] ∧ WAt W H wd nd cd l ∧ ∀ (ll : Addr) (H' : Hp), LsAt H' ll (side l) → Same H H' → H ll = none → Q (.ref ll) H'
theorem scSi : FnScope ["words", "codes", "moves", "tool"] ["words"] (defScope (top 68)) := ⟨rfl, rfl, rfl, by decide +kernel, rfl, by decide +kernel, by decide +kernel⟩
theorem ok_side (F : Wr K mg "side_moves" (top 68)) (T : Tx K mg C) (TW' : TW K W) (GO : Fn P w K mg base CX0 1 "other_move" ["kind", "first", "second"] spOther) : Fn P w K mg base CX0 2 "side_moves" ["words"] (spSide W) := by
  obtain ⟨f, fd, hm, F⟩ := F.ex
  refine ⟨f, fd, hm, F.kp, F.binds (ps := ["words"]) (fun _ _ _ _ _ _ us hl => match us, hl with | [_], _ => rfl), ?_⟩
  refine F.ok scSi (fun vs H Q E h => ?_) (fun cdv A outer s H vs Q E hr h => ?_)
  · obtain ⟨_, _, _, _, rfl, _⟩ := h
    rfl
  · obtain ⟨wd, nd, cd, l, rfl, hW, k⟩ := h
    have hu := hu_of hr
    obtain ⟨dw, fw, hw, hwk, hwn, hwc⟩ := hW.ob
    refine ⟨_, pss_cons (ps_set (i := 1) scSi.nd rfl (Or.inl rfl) (pe_fld (pv 0) rfl)) (pss_cons (ps_set (i := 2) scSi.nd rfl (Or.inl rfl) (pe_lstN pa_nil))
      (pss_cons (ps_if (pw_or (pt_cmp (pc_din hu pe_str (pe_fld (pv 0) rfl))) (pw_or1 (pt_cmp (pc_din hu pe_str (pv 1))))).pt
        (pss_cons (ps_set (i := 3) scSi.nd rfl (Or.inl rfl) (pe_ifExp (pt_cmp (pc_din hu pe_str (pe_fld (pv 0) rfl))) (pe_op op_fdiv (pe_dget hu (pe_fld (pv 0) rfl) pe_str (fun _ _ => rfl)) (pgi T.one)) (pe_un un_neg pe_int)))
        (pss_one (ps_expr (pe_bm PySem.F.plainAttrs_list PySem.F.slot_list_append PySem.F.type_list_append mt_append (pv 2) (pa_cons (pcall GO hr pass0 (pa_cons pe_int (pa_cons (pv 3) (pa_cons (pe_ifExp (pt_cmp (pc_din hu pe_str (pv 1))) pe_int pe_int) pa_nil)))) pa_nil))))) pss_nil)
      (pss_cons (ps_if (pw_or (pt_cmp (pc_din hu pe_str (pe_fld (pv 0) rfl))) (pw_or1 (pt_cmp (pc_din hu pe_str (pv 1))))).pt
        (pss_one (ps_expr (pe_bm PySem.F.plainAttrs_list PySem.F.slot_list_append PySem.F.type_list_append mt_append (pv 2) (pa_cons (pcall GO hr pass0 (pa_cons pe_int (pa_cons (pe_dget2 hu (pv 1) pe_str (pe_un un_neg pe_int) ⟨rfl, rfl, rfl, rfl⟩) (pa_cons (pe_dget2 hu (pe_fld (pv 0) rfl) pe_str (pe_un un_neg pe_int) ⟨rfl, rfl, rfl, rfl⟩) pa_nil)))) pa_nil)))) pss_nil)
      (pss_cons (ps_if (pt_cmp (pc_din hu pe_str (pv 1)))
        (pss_one (ps_expr (pe_bm PySem.F.plainAttrs_list PySem.F.slot_list_append PySem.F.type_list_append mt_append (pv 2) (pa_cons (pcall GO hr pass0 (pa_cons pe_int (pa_cons (pe_dget hu (pv 1) pe_str (fun _ _ => rfl)) (pa_cons pe_int pa_nil)))) pa_nil)))) pss_nil)
      (pss_one (ps_ret (pv 2))))))), ?_⟩
    refine ⟨_, rfl, wd, W, dw, fw, _, rfl, hw, TW'.cl, TW'.nCo, hwc, by show 0 ≤ sizeLine; decide, fun ll H1 n1 a1 s1 => ?_⟩
    have app : ∀ {H2 H3 : Hp} {ms : List Mv} {q : Addr} {mv : Mv}, Same H H2 → LsAt H2 ll ms → ms.length ≤ 2 → Same H2 H3 → H3 q = some (.tup (mV mv)) → ∀ R : Hp → Prop, (∀ H4, Same H H4 → LsAt H4 ll (ms ++ [mv]) → R H4) → rAppend (.ref ll) [.ref q] H3 (fun _ H' => R H') := by
      intro H2 H3 ms q mv s2 L2 ln s3 aq R hR
      obtain ⟨xs, x1, x2, x3⟩ := (L2.same s3).app aq
      exact ⟨ll, xs, _, rfl, rfl, x1, by show xs.length < 16777216; omega, hR _ ((s2.trans s3).upd n1) x3⟩
    have lst : ∀ {H2 : Hp} {ms : List Mv}, LsAt H2 ll ms → tyV K "list" (.ref ll) H2 := fun L => by
      obtain ⟨ps, y1, _⟩ := L.ex
      exact .inl ⟨rfl, _, SqL.of y1⟩
    dsimp only [gName]
    refine cont (Pv := fun σ H2 => ∃ v, σ = [some (.ref wd), some (.ref cd), some (.ref ll), v] ∧ Same H H2 ∧ LsAt H2 ll (side5 l)) ?_ ?_
    rotate_left
    · intro nx hnx
      have hW1 := hW.same s1
      have hw1 := s1 _ _ hw
      have e5 : side5 l = if (fnd l 84).isSome = true ∨ (cTool l).isSome = true then [plain 5 (if (fnd l 84).isSome = true then (fnd l 84).getD 0 / 10000 else -1) (if (cTool l).isSome = true then 1 else 0)] else [] := rfl
      have go : ((fnd l 84).isSome = true ∨ (cTool l).isSome = true) → tSeq (tAsg (tIf (tB (tDIn (tC (.str "T")) (tFld K (tVar 0) "numbers"))) (tOp (rI CDiv fun i j => .int (i / j)) (tDGet (tFld K (tVar 0) "numbers") (tC (.str "T"))) (tC (.int 10000))) (tUn (rU fun i => .int (-i)) (tC (.int 1)))) (gName 3))
          (tDrop (tBM K "list" rAppend (tVar 2) (tCons (tCall spOther [] E0 (tCons (tC (.int 5)) (tCons (tVar 3) (tCons (tIf (tB (tDIn (tC (.str "tool")) (tVar 1))) (tC (.int 1)) (tC (.int 0))) tNil)))) tNil))) { nx := nx, rt := Q } [some (.ref wd), some (.ref cd), some (.ref ll), none] H1 := by
        intro hc
        rw [if_pos hc] at e5
        have go2 : ∀ t : Int, t = (if (fnd l 84).isSome = true then (fnd l 84).getD 0 / 10000 else -1) → (tDrop (tBM K "list" rAppend (tVar 2) (tCons (tCall spOther [] E0 (tCons (tC (.int 5)) (tCons (tVar 3) (tCons (tIf (tB (tDIn (tC (.str "tool")) (tVar 1))) (tC (.int 1)) (tC (.int 0))) tNil)))) tNil))) { nx := nx, rt := Q } [some (.ref wd), some (.ref cd), some (.ref ll), some (.int t)] H1 := by
          rintro t rfl
          have L1 : LsAt H1 ll [] := LsAt.nil a1
          have fin : ∀ n : Int, n = (if (cTool l).isSome = true then 1 else 0) → spOther [.int 5, .int (if (fnd l 84).isSome = true then (fnd l 84).getD 0 / 10000 else -1), .int n] H1 (fun x H2 => rAppend (.ref ll) [x] H2 fun _ H' => nx [some (.ref wd), some (.ref cd), some (.ref ll), some (.int (if (fnd l 84).isSome = true then (fnd l 84).getD 0 / 10000 else -1))] H') E0 := by
            rintro n rfl
            exact ⟨_, _, _, rfl, fun q H2 aq s2 => app s1 L1 (by decide) s2 aq _ fun H4 s4 L4 => hnx _ _ ⟨_, rfl, s4, by rw [e5]; exact L4⟩⟩
          refine ⟨_, rfl, lst L1, _, rfl, _, rfl, cd, _, rfl, hW1.gC ("tool", 'M', [6]), _, rfl, ?_⟩
          rw [isSome_map]
          show if (cTool l).isSome = true then _ else _
          cases ht : (cTool l).isSome with
          | true => exact iteT (fin 1 (by rw [ht, if_pos rfl]))
          | false => exact iteF (fin 0 (by rw [ht, if_neg (by decide)]))
        refine ⟨_, rfl, wd, W, dw, fw, _, rfl, hw1, TW'.cl, TW'.nNu, hwn, nd, _, rfl, hW1.gNs sT, _, rfl, ?_⟩
        rw [isSome_map]
        cases hx : fnd l 84 with
        | none => exact iteF ⟨_, rfl, go2 _ (by rw [hx]; rfl)⟩
        | some x => exact iteT ⟨_, rfl, wd, W, dw, fw, _, rfl, hw1, TW'.cl, TW'.nNu, hwn, nd, _, rfl, hW1.gNx sT hx, _, _, rfl, rfl, ⟨by decide, by decide⟩, go2 _ (by rw [hx]; rfl)⟩
      refine ⟨_, rfl, wd, W, dw, fw, _, rfl, hw1, TW'.cl, TW'.nNu, hwn, nd, _, rfl, hW1.gNs sT, _, rfl, ?_⟩
      rw [isSome_map]
      refine iteB (p := (fnd l 84).isSome = true) Iff.rfl (fun h => iteT (go (.inl h))) (fun h1 => ?_)
      refine ⟨_, rfl, cd, _, rfl, hW1.gC ("tool", 'M', [6]), _, rfl, ?_⟩
      rw [isSome_map]
      refine iteB (p := (cTool l).isSome = true) Iff.rfl (fun h => go (.inr h)) (fun h2 => hnx _ _ ⟨_, rfl, s1, ?_⟩)
      rw [e5, if_neg (by rintro (h | h); exact h1 h; exact h2 h)]
      exact LsAt.nil a1
    rintro σ H2 ⟨v, rfl, s2, L2⟩
    have hW2 := hW.same s2
    have hw2 := s2 _ _ hw
    have n5 : (side5 l).length ≤ 1 := by unfold side5; split <;> simp
    have n6 : (side6 l).length ≤ 1 := by unfold side6; split <;> simp
    refine cont (Pv := fun σ H3 => σ = [some (.ref wd), some (.ref cd), some (.ref ll), v] ∧ Same H H3 ∧ LsAt H3 ll (side5 l ++ side6 l)) ?_ ?_
    rotate_left
    · intro nx hnx
      have e6 : side6 l = if (fnd l 83).isSome = true ∨ (cSpindle l).isSome = true then [plain 6 ((cSpindle l).getD (-1)) ((fnd l 83).getD (-1))] else [] := rfl
      have go : ((fnd l 83).isSome = true ∨ (cSpindle l).isSome = true) → tDrop (tBM K "list" rAppend (tVar 2) (tCons (tCall spOther [] E0 (tCons (tC (.int 6)) (tCons (tDGet2 (tVar 1) (tC (.str "spindle")) (tUn (rU fun i => .int (-i)) (tC (.int 1)))) (tCons (tDGet2 (tFld K (tVar 0) "numbers") (tC (.str "S")) (tUn (rU fun i => .int (-i)) (tC (.int 1)))) tNil)))) tNil)) { nx := nx, rt := Q } [some (.ref wd), some (.ref cd), some (.ref ll), v] H2 := by
        intro hc
        rw [if_pos hc] at e6
        refine ⟨_, rfl, lst L2, _, rfl, cd, rfl, hW2.dC, _, rfl, _, hW2.gC ("spindle", 'M', [3, 4, 5]), _, rfl, wd, W, dw, fw, _, rfl, hw2, TW'.cl, TW'.nNu, hwn, nd, rfl, hW2.dN, _, rfl, _, hW2.gNs sS, ?_⟩
        refine ⟨6, (cSpindle l).getD (-1), (fnd l 83).getD (-1), ?_, fun q H3 aq s3 => app s2 L2 (by omega) s3 aq _ fun H4 s4 L4 => hnx _ _ ⟨rfl, s4, by rw [e6]; exact L4⟩⟩
        show [V.int 6, ((cSpindle l).map V.int).getD (.int (-1)), ((fnd l 83).map V.int).getD (.int (-1))] = _
        rw [getD_map, getD_map]
      refine ⟨_, rfl, wd, W, dw, fw, _, rfl, hw2, TW'.cl, TW'.nNu, hwn, nd, _, rfl, hW2.gNs sS, _, rfl, ?_⟩
      rw [isSome_map]
      refine iteB (p := (fnd l 83).isSome = true) Iff.rfl (fun h => iteT (go (.inl h))) (fun h1 => ?_)
      refine ⟨_, rfl, cd, _, rfl, hW2.gC ("spindle", 'M', [3, 4, 5]), _, rfl, ?_⟩
      rw [isSome_map]
      refine iteB (p := (cSpindle l).isSome = true) Iff.rfl (fun h => go (.inr h)) (fun h2 => hnx _ _ ⟨rfl, s2, ?_⟩)
      rw [e6, if_neg (by rintro (h | h); exact h1 h; exact h2 h), List.append_nil]
      exact L2
    rintro σ H3 ⟨rfl, s3, L3⟩
    have hW3 := hW.same s3
    have es : side l = (side5 l ++ side6 l) ++ side7 l := by unfold side; rw [List.append_assoc]
    refine cont (Pv := fun σ H4 => σ = [some (.ref wd), some (.ref cd), some (.ref ll), v] ∧ Same H H4 ∧ LsAt H4 ll (side l)) ?_ ?_
    · rintro σ H4 ⟨rfl, s4, L4⟩
      exact ⟨_, rfl, k ll H4 L4 s4 n1⟩
    · intro nx hnx
      refine ⟨_, rfl, cd, _, rfl, hW3.gC ("cooling", 'M', [7, 8, 9]), _, rfl, ?_⟩
      rw [isSome_map]
      cases hx : Sz30.chosen (Sz30.all l 'M') [7, 8, 9] with
      | none =>
        have e7 : side7 l = [] := by unfold side7; rw [show cCooling l = none from hx]
        exact iteF (hnx _ _ ⟨rfl, s3, by rw [es, e7, List.append_nil]; exact L3⟩)
      | some x =>
        have e7 : side7 l = [plain 7 x 0] := by unfold side7; rw [show cCooling l = some x from hx]
        refine iteT ⟨_, rfl, lst L3, _, rfl, cd, _, rfl, hW3.gCx ("cooling", 'M', [7, 8, 9]) hx, _, _, _, rfl, fun q H4 aq s4 => app s3 L3 (by rw [List.length_append]; omega) s4 aq _ fun H5 s5 L5 => hnx _ _ ⟨rfl, s5, by rw [es, e7]; exact L5⟩⟩
def spWait (W C : Addr) : Sp := fun vs H Q E => ∃ (wd nd cd : Addr) (l : List Word), vs = [.ref wd] ∧ WAt W H wd nd cd l ∧
  (¬ (told l 'P' = false ∨ axT l = true ∨ (cMotion l).isSome = true) → ∀ q H', H' q = some (.tup (mV (plain 4 ((Sz30.get l 'P').getD 0) 0))) → Same H H' → Q (.ref q) H') ∧ (told l 'P' = false ∨ axT l = true ∨ (cMotion l).isSome = true → ∀ H', Same H H' → E (.ref C) none H')
theorem scWm : FnScope ["words"] ["words"] (defScope (top 70)) := ⟨rfl, rfl, rfl, by decide +kernel, rfl, by decide +kernel, by decide +kernel⟩
theorem ok_wait (F : Wr K mg "wait_move" (top 70)) (T : Tx K mg C) (TW' : TW K W) (GTe : Mt P w K mg base CX0 1 W "tells_one_of" ["self", "letters"] (spTells W)) (GO : Fn P w K mg base CX0 1 "other_move" ["kind", "first", "second"] spOther) :
    Fn P w K mg base (CXE P w C) 2 "wait_move" ["words"] (spWait W C) := by
  obtain ⟨f, fd, hm, F⟩ := F.ex
  refine ⟨f, fd, hm, F.kp, F.binds (ps := ["words"]) (fun _ _ _ _ _ _ us hl => match us, hl with | [_], _ => rfl), ?_⟩
  refine F.okE scWm (fun vs H Q E h => ?_) (fun cdv A outer s H vs Q E hr h => ?_)
  · obtain ⟨_, _, _, _, rfl, _⟩ := h
    rfl
  · obtain ⟨wd, nd, cd, l, rfl, hW, k, kE⟩ := h
    have hu := hu_of hr
    obtain ⟨dw, fw, hw, hwk, hwn, hwc⟩ := hW.ob
    refine ⟨_, pss_cons (ps_if (pw_or (pt_cmp (pc_dnotin hu pe_str (pe_fld (pv 0) rfl))) (pw_or (pt_val (pmeth (pv 0) TW'.cl GTe hr pass0 (pa_cons (pgs T.ax) pa_nil))) (pw_or1 (pt_cmp (pc_din hu pe_str (pe_fld (pv 0) rfl)))))).pt (pss_one (ps_raise T.exc rfl raiseE rfl (pa_cons pe_str pa_nil))) pss_nil)
      (pss_one (ps_ret (pcall GO hr pass0 (pa_cons pe_int (pa_cons (pe_dget hu (pe_fld (pv 0) rfl) pe_str (fun _ _ => rfl)) (pa_cons pe_int pa_nil)))))), ?_⟩
    have eP : told l 'P' = (fnd l 80).isSome := rfl
    have bad : (told l 'P' = false ∨ axT l = true ∨ (cMotion l).isSome = true) → ∀ H', Same H H' → 1 ≤ sizeLine ∧ E (.ref C) none H' := fun h H' s' => ⟨by decide, kE h H' s'⟩
    refine ⟨_, rfl, wd, W, dw, fw, _, rfl, hw, TW'.cl, TW'.nNu, hwn, nd, _, rfl, hW.gNs sP, _, rfl, ?_⟩
    rw [isSome_map]
    cases hx : fnd l 80 with
    | none => exact iteT (iteT (bad (.inl (by rw [eP, hx]; rfl)) _ (Same.refl H)))
    | some x =>
      refine iteF ⟨_, rfl, wd, dw, fw, rfl, hw, lk_none hwk (by decide +kernel), wd, nd, cd, l, _, rfl, hW, axc, axs, fun H1 s1 => ⟨_, rfl, ?_⟩⟩
      rw [tells_ax]
      refine iteB (p := axT l = true) Iff.rfl (fun h => iteT (bad (.inr (.inl h)) _ s1)) (fun hax => ?_)
      have hW1 := hW.same s1
      have hw1 := s1 _ _ hw
      refine ⟨_, rfl, wd, W, dw, fw, _, rfl, hw1, TW'.cl, TW'.nCo, hwc, cd, _, rfl, hW1.gC ("motion", 'G', [0, 1, 2, 3, 80, 81, 82, 83]), _, rfl, ?_⟩
      rw [isSome_map]
      refine iteB (p := (cMotion l).isSome = true) Iff.rfl (fun h => bad (.inr (.inr h)) _ s1) (fun hmo => ?_)
      refine ⟨_, rfl, wd, W, dw, fw, _, rfl, hw1, TW'.cl, TW'.nNu, hwn, nd, _, rfl, hW1.gNx sP hx, 4, x, 0, rfl, fun q H2 aq s2 => k ?_ q H2 ?_ (s1.trans s2)⟩
      · rintro (h | h | h)
        · rw [eP, hx] at h; cases h
        · exact hax h
        · exact hmo h
      · rw [get_fnd, show fnd l (Sz30.letter 'P') = some x from hx]
        exact aq
def spOffA (M W : Addr) : Sp := fun vs H Q _ => ∃ (m wd nd cd : Addr) (s : Sz30.St) (l : List Word) (k : Nat), vs = [.ref m, .ref wd, .int (k : Int)] ∧ MAt M H m s ∧ WAt W H wd nd cd l ∧ s.origin < s.origins.length ∧ k < 3 ∧ Q (.int (offK s l k)) H
theorem scOA : FnScope ["machine", "words", "axis", "told"] ["machine", "words", "axis"] (defScope (top 72)) := ⟨rfl, rfl, rfl, by decide +kernel, rfl, by decide +kernel, by decide +kernel⟩
theorem ok_off_axis (F : Wr K mg "put_off_on_axis" (top 72)) (T : Tx K mg C) (T' : TM K M) (TW' : TW K W) (GL : Mt P w K mg base CX0 1 M "length" ["self", "number"] (spLength M)) :
    Fn P w K mg base CX0 2 "put_off_on_axis" ["machine", "words", "axis"] (spOffA M W) := by
  obtain ⟨f, fd, hm, F⟩ := F.ex
  refine ⟨f, fd, hm, F.kp, F.binds (ps := ["machine", "words", "axis"]) (fun _ _ _ _ _ _ us hl => match us, hl with | [_, _, _], _ => rfl), ?_⟩
  refine F.ok scOA (fun vs H Q E h => ?_) (fun cdv A outer s H vs Q E hr h => ?_)
  · obtain ⟨_, _, _, _, _, _, _, rfl, _⟩ := h
    rfl
  · obtain ⟨m, wd, nd, cd, s, l, k, rfl, hM, hW, hlt, hk, kk⟩ := h
    have hu := hu_of hr
    obtain ⟨dx, fs, po, ol, pf, ps, hm, hf, hp⟩ := id hM
    obtain ⟨dw, fw, hw, hwk, hwn, hwc⟩ := hW.ob
    obtain ⟨a, p, h1, h2, h3⟩ := org_at hp.og hlt
    refine ⟨_, pss_cons (ps_if (pt_cmp (pc_dnotin hu (pe_ix ix_str (pgs T.ax) (pv 2) (fun _ _ => rfl)) (pe_fld (pv 1) rfl))) (pss_one (ps_ret (pe_ix ix_tup (pe_fld (pv 0) rfl) (pv 2) (fun _ _ => rfl)))) pss_nil)
      (pss_cons (ps_set (i := 3) scOA.nd rfl (Or.inl rfl) (pmeth (pv 0) T'.cl GL hr pass0 (pa_cons (pe_dget hu (pe_fld (pv 1) rfl) (pe_ix ix_str (pgs T.ax) (pv 2) (fun _ _ => rfl)) (fun _ _ => rfl)) pa_nil)))
      (pss_one (ps_ret (pe_op op_sub (pe_op op_sub (pe_ix ix_tup (pe_fld (pv 0) rfl) (pv 2) (fun _ _ => rfl)) (pe_ix ix_tup (pe_ix ix_list (pe_fld (pv 0) rfl) (pe_fld (pv 0) rfl) (fun _ _ => rfl)) (pv 2) (fun _ _ => rfl))) (pv 3))))), ?_⟩
    have z3 : ("XYZ" : Str).length ≤ sizeLine := by decide +kernel
    have gx := hW.gN (c := 88 + k) (by omega) (by omega)
    unfold offK at kk
    rw [ax_get l hk] at kk
    refine ⟨_, rfl, _, _, _, rfl, rfl, z3, ax_let hk, _, rfl, wd, W, dw, fw, _, rfl, hw, TW'.cl, TW'.nNu, hwn, nd, _, rfl, gx, _, rfl, ?_⟩
    cases hx : fnd l (88 + k) with
    | none =>
      rw [hx] at kk
      exact iteT ⟨_, rfl, m, M, dx, fs, _, rfl, hm, T'.cl, T'.put_off, hf.put_off, _, rfl, pf, _, _, _, rfl, rfl, SqT.of hp.pf, pV_at s.off hk, kk⟩
    | some x =>
      rw [hx] at kk gx
      simp only [h3] at kk
      refine iteF ?_
      exact ⟨_, rfl, m, dx, fs, rfl, hm, lk_none hf.keys (by decide +kernel), _, rfl, wd, W, dw, fw, _, rfl, hw, TW'.cl, TW'.nNu, hwn, _, rfl, _, _, _, rfl, rfl, z3, ax_let hk, nd, _, rfl, gx, m, s, x, rfl, hM,
        _, rfl, m, M, dx, fs, _, rfl, hm, T'.cl, T'.place, hf.place, _, rfl, po, _, _, _, rfl, rfl, SqT.of hp.po, pV_at s.at_ hk, _, rfl, m, M, dx, fs, _, rfl, hm, T'.cl, T'.origins, hf.origins, _, rfl, m, M, dx, fs, _, rfl, hm, T'.cl, T'.origin, hf.origin,
        ol, _, _, _, rfl, rfl, SqL.of hp.ol, ref_at h1, _, rfl, a, _, _, _, rfl, rfl, SqT.of (hp.tp _ h2), pV_at p hk, _, _, rfl, rfl, _, rfl, _, _, rfl, rfl, kk⟩
def spOff (M W C : Addr) : Sp := fun vs H Q E => ∃ (m wd nd cd : Addr) (s : Sz30.St) (l : List Word), vs = [.ref m, .ref wd] ∧ MAt M H m s ∧ WAt W H wd nd cd l ∧ s.origin < s.origins.length ∧
  (¬ (axT l = false ∨ (cMotion l).isSome = true) → ∀ H', MAt M H' m { s with off := Sz30.place (offK s l) } → Kp m H H' → Q .non H') ∧ (axT l = false ∨ (cMotion l).isSome = true → ∀ H', Same H H' → E (.ref C) none H')
theorem scOP : FnScope ["machine", "words", "axis"] ["machine", "words"] (defScope (top 71)) := ⟨rfl, rfl, rfl, by decide +kernel, rfl, by decide +kernel, by decide +kernel⟩
theorem ok_off (F : Wr K mg "put_off_places" (top 71)) (T : Tx K mg C) (T' : TM K M) (TW' : TW K W) (GTe : Mt P w K mg base CX0 1 W "tells_one_of" ["self", "letters"] (spTells W)) (GA : Fn P w K mg base CX0 2 "put_off_on_axis" ["machine", "words", "axis"] (spOffA M W)) :
    Fn P w K mg base (CXE P w C) 3 "put_off_places" ["machine", "words"] (spOff M W C) := by
  obtain ⟨f, fd, hm, F⟩ := F.ex
  refine ⟨f, fd, hm, F.kp, F.binds (ps := ["machine", "words"]) (fun _ _ _ _ _ _ us hl => match us, hl with | [_, _], _ => rfl), ?_⟩
  refine F.okE scOP (fun vs H Q E h => ?_) (fun cdv A outer s H vs Q E hr h => ?_)
  · obtain ⟨_, _, _, _, _, _, rfl, _⟩ := h
    rfl
  · obtain ⟨m, wd, nd, cd, s, l, rfl, hM, hW, hlt, k, kE⟩ := h
    have hu := hu_of hr
    obtain ⟨dx, fs, po, ol, pf, ps, hm, hf, hp⟩ := id hM
    obtain ⟨dw, fw, hw, hwk, hwn, hwc⟩ := hW.ob
    refine ⟨_, pss_cons (ps_if (pw_or (pt_not (pt_val (pmeth (pv 1) TW'.cl GTe hr pass0 (pa_cons (pgs T.ax) pa_nil)))) (pw_or1 (pt_cmp (pc_din hu pe_str (pe_fld (pv 1) rfl))))).pt (pss_one (ps_raise T.exc rfl raiseE rfl (pa_cons pe_str pa_nil))) pss_nil)
      (pss_one (ps_fldN (pv 0) (pe_callTy call_tupleN (by rfl) T.tuple b_tuple (pa_cons (pe_lc (own := [("axis", 2)]) rfl scOP.nd (pi_tup (pe_tupN (pa_cons pe_int (pa_cons pe_int (pa_cons pe_int pa_nil))))) (blkOk_by (show blkC ["machine", "words", "axis"] (defScope (top 71)) _ _ = true by decide +kernel))
        (fun _ _ _ _ _ => pg_name (i := 2) scOP.nd rfl (Or.inl rfl)) (fun _ _ _ _ _ => pts_nil) (fun _ _ _ _ _ => pcall GA hr pass0 (pa_cons (pv 0) (pa_cons (pv 1) (pa_cons (pv 2) pa_nil))))) pa_nil)) rfl)), ?_⟩
    have bad : (axT l = false ∨ (cMotion l).isSome = true) → ∀ H', Same H H' → 1 ≤ sizeLine ∧ E (.ref C) none H' := fun h H' s' => ⟨by decide, kE h H' s'⟩
    refine ⟨_, rfl, wd, dw, fw, rfl, hw, lk_none hwk (by decide +kernel), wd, nd, cd, l, _, rfl, hW, axc, axs, fun H1 s1 => ⟨_, rfl, ?_⟩⟩
    rw [tells_ax]
    cases hax : axT l with
    | false => exact iteT (iteT (bad (.inl hax) _ s1))
    | true =>
      have hW1 := hW.same s1
      have hw1 := s1 _ _ hw
      refine iteF ⟨_, rfl, wd, W, dw, fw, _, rfl, hw1, TW'.cl, TW'.nCo, hwc, cd, _, rfl, hW1.gC ("motion", 'G', [0, 1, 2, 3, 80, 81, 82, 83]), _, rfl, ?_⟩
      rw [isSome_map]
      refine iteB (p := (cMotion l).isSome = true) Iff.rfl (fun h => bad (.inr h) _ s1) (fun hmo => ?_)
      refine ⟨by show 3 ≤ sizeLine; decide, fun ta H2 n2 a2 s2 => ⟨ta, rfl, ⟨_, SqT.of a2⟩, fun D hD => ?_⟩⟩
      have sD : ∀ o, Same H (upd H2 D o) := fun o => (s1.trans s2).new hD
      refine lc_tup (K := K) (a := ta) (xs := [.int 0, .int 1, .int 2]) (fun i H3 => H3 = upd H2 D (.lst ((List.range i).map fun k => V.int (offK s l k)))) rfl (fun i H3 _ e => by rw [e]; exact SqT.of (by rw [upd_ne (ne_of_none a2 hD)]; exact a2)) ?_ ?_
      · rintro i x H3 hx rfl
        obtain ⟨hi, rfl⟩ := three hx
        refine ⟨rfl, yes_ite ⟨_, rfl, _, rfl, _, rfl, m, wd, nd, cd, s, l, i, rfl, hM.same (sD _), hW.same (sD _), hlt, hi, _, upd_same, ?_, ?_⟩⟩
        · rw [List.length_map, List.length_range]
          show i < 16777216
          omega
        · rw [upd_upd, List.range_succ, List.map_append]
          rfl
      · rintro H3 rfl
        refine ⟨D, _, rfl, SqL.of upd_same, fun q H4 n4 a4 s4 => ?_⟩
        have s04 := (sD _).trans s4
        have m4 := s04 _ _ hm
        refine ⟨_, rfl, m, M, dx, fs, rfl, m4, T'.cl, T'.put_off, hf.len, fun H5 m5 k5 => ?_⟩
        have p5 := (hp.same s04).kp k5 m4
        have a5 := k5 _ _ a4 (ne_of a4 m4 (by intro z; cases z))
        refine k ?_ H5 ⟨dx, _, po, ol, q, ps, m5, hf.sOff (Sz30.place (offK s l)) q, ⟨p5.po, a5, p5.ol, p5.tp, p5.og⟩⟩ ((s04.kp m).trans k5)
        rintro (h | h)
        · rw [hax] at h; cases h
        · exact hmo h
theorem scMa : FnScope ["machine", "words", "special"] ["machine", "words"] (defScope (top 69)) := ⟨rfl, rfl, rfl, by decide +kernel, rfl, by decide +kernel, by decide +kernel⟩
theorem ok_main (F : Wr K mg "main_moves" (top 69)) (TW' : TW K W) (GW : Fn P w K mg base (CXE P w C) 2 "wait_move" ["words"] (spWait W C)) (GP : Fn P w K mg base (CXE P w C) 3 "put_off_places" ["machine", "words"] (spOff M W C))
    (GM : Fn P w K mg base (CXE P w C) 5 "motion_moves" ["machine", "words"] (spMotL M W C motionM)) : Fn P w K mg base (CXE P w C) 6 "main_moves" ["machine", "words"] (spMotL M W C mainM) := by
  obtain ⟨f, fd, hm, F⟩ := F.ex
  refine ⟨f, fd, hm, F.kp, F.binds (ps := ["machine", "words"]) (fun _ _ _ _ _ _ us hl => match us, hl with | [_, _], _ => rfl), ?_⟩
  refine F.okE scMa (fun vs H Q E h => ?_) (fun cdv A outer s H vs Q E hr h => ?_)
  · obtain ⟨_, _, _, _, _, _, rfl, _⟩ := h
    rfl
  · obtain ⟨m, wd, nd, cd, s, l, rfl, hM, hW, hs, hl, k, kE⟩ := h
    have hu := hu_of hr
    obtain ⟨dw, fw, hw, hwk, hwn, hwc⟩ := hW.ob
    obtain ⟨dx, fs, hmi⟩ := hM.ins
    refine ⟨_, pss_cons (ps_set (i := 2) scMa.nd rfl (Or.inl rfl) (pe_dget1 hu (pe_fld (pv 1) rfl) pe_str ⟨rfl, rfl, rfl, rfl⟩))
      (pss_cons (ps_if (pt_cmpR op_eq (pv 2) pe_int (nomark _)) (pss_one (ps_ret (pe_lstN (pa_cons (pcall GW hr passE (pa_cons (pv 1) pa_nil)) pa_nil)))) pss_nil)
      (pss_cons (ps_if (pt_cmpR op_eq (pv 2) pe_int (nomark _)) (pss_cons (ps_expr (pcall GP hr passE (pa_cons (pv 0) (pa_cons (pv 1) pa_nil)))) (pss_one (ps_ret (pe_lstN pa_nil)))) pss_nil)
      (pss_one (ps_ret (pcall GM hr passE (pa_cons (pv 0) (pa_cons (pv 1) pa_nil))))))), ?_⟩
    unfold mainM at k kE
    refine ⟨_, rfl, wd, W, dw, fw, _, rfl, hw, TW'.cl, TW'.nCo, hwc, cd, rfl, hW.dC, _, hW.gC ("special", 'G', [4, 53, 92]), ?_⟩
    refine ⟨_, rfl, scal_o _ _, _, rfl, iteB (p := cSpecial l = some 4) eq_o (fun h4 => ?_) (fun h4 => ?_)⟩
    · rw [if_pos h4] at k kE
      refine ⟨_, rfl, wd, nd, cd, l, rfl, hW, fun hc q H1 aq s1 => ?_, fun hc H1 s1 => kE (by rw [if_pos hc]) _ (s1.kp m)⟩
      rw [if_neg hc] at k
      refine ⟨by show 1 ≤ sizeLine; decide, fun ll H2 n2 a2 s2 => k _ rfl ll H2 (LsAt.one a2 (s2 _ _ aq)) (hM.same (s1.trans s2)) ((s1.trans s2).kp m) (s1.free n2) (by simp)⟩
    · rw [if_neg h4] at k kE
      refine ⟨_, rfl, scal_o _ _, _, rfl, iteB (p := cSpecial l = some 92) eq_o (fun h92 => ?_) (fun h92 => ?_)⟩
      · rw [if_pos h92] at k kE
        refine ⟨_, rfl, _, rfl, m, wd, nd, cd, s, l, rfl, hM, hW, SOk.lt hs, fun hc H1 M1 k1 => ?_, fun hc H1 s1 => kE (by rw [if_pos hc]) _ (s1.kp m)⟩
        rw [if_neg hc] at k
        obtain ⟨dx1, fs1, m1⟩ := M1.ins
        exact ⟨by show 0 ≤ sizeLine; decide, fun ll H2 n2 a2 s2 => k _ rfl ll H2 (LsAt.nil a2) (M1.same s2) (k1.trans (s2.kp m)) (k1.free n2 m1) (by simp)⟩
      · rw [if_neg h92] at k kE
        exact ⟨_, rfl, _, rfl, m, wd, nd, cd, s, l, rfl, hM, hW, hs, hl, k, kE⟩
theorem scML : FnScope ["machine", "words", "moves"] ["machine", "words"] (defScope (top 65)) := ⟨rfl, rfl, rfl, by decide +kernel, rfl, by decide +kernel, by decide +kernel⟩
theorem ok_line (F : Wr K mg "moves_of_line" (top 65)) (TW' : TW K W) (GSe : Fn P w K mg base CX0 2 "settle" ["machine", "words"] (spSettle M W)) (GSi : Fn P w K mg base CX0 2 "side_moves" ["words"] (spSide W))
    (GM : Fn P w K mg base (CXE P w C) 6 "main_moves" ["machine", "words"] (spMotL M W C mainM)) (GO : Fn P w K mg base CX0 1 "other_move" ["kind", "first", "second"] spOther) : Fn P w K mg base (CXE P w C) 7 "moves_of_line" ["machine", "words"] (spMot M W C doM) := by
  obtain ⟨f, fd, hm, F⟩ := F.ex
  refine ⟨f, fd, hm, F.kp, F.binds (ps := ["machine", "words"]) (fun _ _ _ _ _ _ us hl => match us, hl with | [_, _], _ => rfl), ?_⟩
  refine F.okE scML (fun vs H Q E h => ?_) (fun cdv A outer s H vs Q E hr h => ?_)
  · obtain ⟨_, _, _, _, _, _, rfl, _⟩ := h
    rfl
  · obtain ⟨m, wd, nd, cd, s, l, rfl, hM, hW, hs, hl, k, kE⟩ := h
    have hu := hu_of hr
    obtain ⟨dw, fw, hw, hwk, hwn, hwc⟩ := hW.ob
    obtain ⟨dx, fs, hmi⟩ := hM.ins
    have nwm := mw_ne hW hM
    refine ⟨_, pss_cons (ps_expr (pcall GSe hr pass0 (pa_cons (pv 0) (pa_cons (pv 1) pa_nil)))) (pss_cons (ps_set (i := 2) scML.nd rfl (Or.inl rfl) (pcall GSi hr pass0 (pa_cons (pv 1) pa_nil)))
      (pss_cons (ps_expr (pe_bm PySem.F.plainAttrs_list PySem.F.slot_list_extend PySem.F.type_list_extend mt_extend (pv 2) (pa_cons (pcall GM hr passE (pa_cons (pv 0) (pa_cons (pv 1) pa_nil))) pa_nil)))
      (pss_cons (ps_if (pt_cmp (pc_din hu pe_str (pe_fld (pv 1) rfl))) (pss_one (ps_expr (pe_bm PySem.F.plainAttrs_list PySem.F.slot_list_append PySem.F.type_list_append mt_append (pv 2) (pa_cons (pcall GO hr pass0 (pa_cons pe_int (pa_cons (pe_dget hu (pe_fld (pv 1) rfl) pe_str (fun _ _ => rfl)) (pa_cons pe_int pa_nil)))) pa_nil)))) pss_nil)
      (pss_one (ps_ret (pv 2)))))), ?_⟩
    unfold doM at k kE
    refine ⟨_, rfl, _, rfl, m, wd, nd, cd, s, l, rfl, hM, hW, fun H1 M1 k1 => ?_⟩
    have hW1 := hW.kp k1 hmi nwm
    obtain ⟨dx1, fs1, m1⟩ := M1.ins
    refine ⟨_, rfl, wd, nd, cd, l, rfl, hW1, fun ll H2 L2 s2 n2 => ?_⟩
    have M2 := M1.same s2
    have hW2 := hW1.same s2
    have K2 := k1.trans (s2.kp m)
    have m2 := s2 _ _ m1
    have fll : H ll = none := k1.free n2 m1
    have nS : (side l).length ≤ 3 := by
      unfold side side5 side6 side7
      simp only [List.length_append]
      repeat' split
      all_goals simp
    obtain ⟨ps2, l2, _⟩ := id L2.ex
    refine ⟨_, rfl, .inl ⟨rfl, _, SqL.of l2⟩, _, rfl, _, rfl, m, wd, nd, cd, _, l, rfl, M2, hW2, hs.settle l, hl, fun r hr' l3 H3 L3 M3 k3 f3 ln3 => ?_, fun hn H3 k3 => kE (by rw [hn]; rfl) _ (K2.trans k3)⟩
    rw [hr'] at k
    obtain ⟨xs, ys, x1, y1, x2, y2, L4⟩ := (L2.kp k3 m2).ext L3
    refine ⟨ll, l3, _, _, rfl, rfl, x1, y1, by show xs.length + ys.length ≤ 16777216; omega, ?_⟩
    have K3 := K2.trans k3
    obtain ⟨dx3, fs3, po3, ol3, pf3, ps3, m3, g3, p3⟩ := id M3
    have nol : ol3 ≠ ll := by
      intro e
      have h1 := p3.ol
      rw [e, x1] at h1
      have h2 : xs = ps3.map fun p => V.ref p.1 := by injection h1 with h1; injection h1
      have h3 := congrArg List.length p3.og
      rw [List.length_map, main_og hr', (MW.settle_same s l).2.2.2.2.2.2.2.2, hs.ol] at h3
      rw [h2, List.length_map] at x2
      omega
    have K4 : Kp m H (upd H3 ll (.lst (xs ++ ys))) := fun b o hb hne => by rw [upd_ne (ne_of_none hb fll)]; exact K3 b o hb hne
    have m4 : (upd H3 ll (.lst (xs ++ ys))) m = some (.ins M dx3 fs3) := by rw [upd_ne (ne_of m3 x1 (by intro z; cases z))]; exact m3
    have p4 : MP (upd H3 ll (.lst (xs ++ ys))) po3 ol3 pf3 ps3 r.1 := p3.updL x1 nol
    have n4 : (side l ++ r.2).length ≤ 4003 := by rw [List.length_append]; omega
    revert K4 m4 p4 L4
    generalize upd H3 ll (.lst (xs ++ ys)) = H4
    intro L4 K4 m4 p4
    have M4 : MAt M H4 m r.1 := ⟨dx3, fs3, po3, ol3, pf3, ps3, m4, g3, p4⟩
    have hW4 := hW.kp K4 hmi nwm
    have hw4 := K4 _ _ hw nwm
    refine ⟨_, rfl, wd, W, dw, fw, _, rfl, hw4, TW'.cl, TW'.nCo, hwc, cd, _, rfl, hW4.gC ("stop", 'M', [0, 1, 2, 30]), _, rfl, ?_⟩
    rw [isSome_map]
    cases hx : Sz30.chosen (Sz30.all l 'M') [0, 1, 2, 30] with
    | none =>
      have e8 : stopM l = [] := by unfold stopM; rw [show cStop l = none from hx]
      refine iteF ⟨_, rfl, k _ rfl ll H4 ?_ M4 K4 fll⟩
      simp only [e8, List.append_nil]
      exact L4
    | some x =>
      have e8 : stopM l = [plain 8 x 0] := by unfold stopM; rw [show cStop l = some x from hx]
      obtain ⟨ps4, y4, _⟩ := id L4.ex
      refine iteT ⟨_, rfl, .inl ⟨rfl, _, SqL.of y4⟩, _, rfl, wd, W, dw, fw, _, rfl, hw4, TW'.cl, TW'.nCo, hwc, cd, _, rfl, hW4.gCx ("stop", 'M', [0, 1, 2, 30]) hx, _, _, _, rfl, fun q H5 aq s5 => ?_⟩
      obtain ⟨zs, z1, z2, L6⟩ := (L4.same s5).app aq
      refine ⟨ll, _, _, rfl, rfl, z1, by show zs.length < 16777216; omega, _, rfl, k _ rfl ll _ ?_ ?_ ?_ fll⟩
      · simp only [e8]
        rw [List.append_assoc] at L6
        exact L6
      · have m5 := s5 _ _ m4
        exact ⟨dx3, fs3, po3, ol3, pf3, ps3, by rw [upd_ne (ne_of m5 z1 (by intro z; cases z))]; exact m5, g3, (p4.same s5).updL z1 nol⟩
      · intro b o hb hne
        rw [upd_ne (ne_of_none hb fll)]
        exact s5 _ _ (K4 b o hb hne)
def spEnds (W : Addr) : Sp := fun vs H Q _ => ∃ (wd nd cd : Addr) (l : List Word), vs = [.ref wd] ∧ WAt W H wd nd cd l ∧ ∀ H', Same H H' → Q (.bl (endsM l)) H'
theorem scEn : FnScope ["words"] ["words"] (defScope (top 66)) := ⟨rfl, rfl, rfl, by decide +kernel, rfl, by decide +kernel, by decide +kernel⟩
theorem ok_ends (F : Wr K mg "ends_program" (top 66)) (TW' : TW K W) : Fn P w K mg base CX0 1 "ends_program" ["words"] (spEnds W) := by
  obtain ⟨f, fd, hm, F⟩ := F.ex
  refine ⟨f, fd, hm, F.kp, F.binds (ps := ["words"]) (fun _ _ _ _ _ _ us hl => match us, hl with | [_], _ => rfl), ?_⟩
  refine F.ok scEn (fun vs H Q E h => ?_) (fun cdv A outer s H vs Q E hr h => ?_)
  · obtain ⟨_, _, _, _, rfl, _⟩ := h
    rfl
  · obtain ⟨wd, nd, cd, l, rfl, hW, k⟩ := h
    have hu := hu_of hr
    obtain ⟨dw, fw, hw, hwk, hwn, hwc⟩ := hW.ob
    refine ⟨_, pss_one (ps_ret (pe_cmpR op_in_seq (pe_dget1 hu (pe_fld (pv 0) rfl) pe_str ⟨rfl, rfl, rfl, rfl⟩) (pe_tupN (pa_cons pe_int (pa_cons pe_int pa_nil))) rfl)), ?_⟩
    refine ⟨_, rfl, wd, W, dw, fw, _, rfl, hw, TW'.cl, TW'.nCo, hwc, cd, rfl, hW.dC, _, hW.gC ("stop", 'M', [0, 1, 2, 30]), by show 2 ≤ sizeLine; decide, fun t H1 n1 a1 s1 => ⟨t, _, rfl, .inr (SqT.of a1), ?_, rfl, ?_⟩⟩
    · show flatV (((cStop l).map V.int).getD .non) = true
      cases cStop l <;> rfl
    · have e : inV (((cStop l).map V.int).getD .non) [.int 2, .int 30] = endsM l := by
        unfold endsM
        cases cStop l with
        | none => rfl
        | some x =>
          show inV (V.int x) [.int 2, .int 30] = _
          rw [Bool.eq_iff_iff, in2]
          simp
      have := k H1 s1
      rw [← e] at this
      exact this
end
end MV
set_option maxRecDepth 100000
set_option maxHeartbeats 1000000
namespace PySem
section
open PySem.SeqAt
open PySem.AutoSeq1
open PySem.MeetsSeq PySem.MeetsSeq2 PySem.MeetsSeq3
theorem ext_tup (l : Addr) (items : Array Value) (n : Nat) (b : Addr) (items2 : Array Value) (n2 : Nat) (dd : Option Addr) (sl : Array (Option Value)) (hs0 : ¬(!items.isEmpty && Builtin.List.listTooLong (items.size + items2.size)) = true) (hs1 : items.size ≤ sizeLine) (hs2 : items.size + items2.size ≤ sizeLine + 1) :
    Meets (Builtin.«list.extend» ⟨[.ref l, .ref b], []⟩) (fun _ R s => s.heap.get? l = some { cls := .type "list", dict := none, data := .seq items n, slots := #[] } ∧ s.heap.get? b = some { cls := .type "tuple", dict := dd, data := .seq items2 n2, slots := sl } ∧ R (.ok (.ret Value.none)) { s with heap := s.heap.update l (Obj.mapSeq fun x => x ++ items2), toks := s.toks }) :=
  .of_wp fun prog w A R s h => by
    obtain ⟨hp, g, d, tk, os⟩ := s; obtain ⟨hl, hb, h⟩ := h; have f1 := idx_int; have f2 := sub_tuple_tuple; have f3 := sub_list_list; have f4 := sub_tuple_list; have f5 := sub_list_tuple
    have hz' : (items ++ items2).size ≤ sizeLine + 1 := by rw [Array.size_append]; exact hs2
    wp_walk using (wpAny_updateSeq hl rfl (hz := hs1) (_hz' := hz')), wpAny_loadPart' hl, wpAny_loadPart' hb; exact ⟨_, rfl, h⟩
end
end PySem
namespace L2
open PySem PySem.Spec PyProof.Rows
def rExtendT (K : PySem.W.Frag) : V → List V → Hp → VK → Prop := fun x vs H Q => ∃ l b xs zs, x = .ref l ∧ vs = [.ref b] ∧ H l = some (.lst xs) ∧ SqT K H b zs ∧ xs.length + zs.length ≤ sizeLine ∧ Q .non (upd H l (.lst (xs ++ zs)))
theorem mt_extendT {X : Cx} : MtM X "list.extend" (rExtendT X.K) := by
  intro pins s σ H x vs v us Q I rx rv h
  obtain ⟨l, b, xs, zs, rfl, rfl, hH, hB, hz, q⟩ := h
  cases rx
  obtain ⟨u, rfl, ru⟩ := rv.one
  cases ru
  obtain ⟨z, its, n, r, hl, e⟩ := I.lstM hH
  obtain ⟨its2, r2, ht, hz2⟩ := I.tuple hB
  obtain ⟨⟨cls2, dd2, data2, sl2⟩, ho2, hc2, n2, hd2⟩ := id ht
  simp only at hc2 hd2
  subst hc2 hd2
  have hl2 := r2.length
  have hsz : its.toArray.size + its2.toArray.size ≤ sizeLine := by rw [List.size_toArray, List.size_toArray]; omega
  have hlong : ¬ (!its.toArray.isEmpty && Builtin.List.listTooLong (its.toArray.size + its2.toArray.size)) = true := by
    rw [notLongL hsz, Bool.and_false]
    exact Bool.false_ne_true
  refine call_meets F.slot_list_extend ⟨_, e, rfl⟩ F.entry_list_extend (F.args_list_extend_2 _ _)
    (PySem.ext_tup l its.toArray n b its2.toArray n2 dd2 sl2 hlong (by rw [List.size_toArray]; omega) (by omega)) ⟨e, ho2, ?_⟩
  refine ⟨.non, _, I.lset (its' := its ++ its2) hH e (by simp) (r.append r2) ?_, rfl, q⟩
  rw [List.length_append]
  omega
theorem get_list {X : Cx} : PGet X (fun o i H Q => ∃ p xs k j v, o = .ref p ∧ i = .int k ∧ SqL X.K H p xs ∧ k = ((j : Nat) : Int) ∧ xs[j]? = some v ∧ Q v H) := by
  intro pins s σ H o i ov iv Q I ro ri h
  obtain ⟨p, xs, k, j, v, rfl, rfl, hS, rfl, hj, q⟩ := h
  cases ro
  obtain ⟨t, rfl⟩ := ri
  obtain ⟨its, r, pl, hz⟩ := I.list hS
  obtain ⟨w', ew, rw'⟩ := r.get hj
  have hl := r.length
  have hlt := (List.getElem?_eq_some_iff.mp hj).1
  have hn := line63
  exact wpAny_getItem_list pl.isList (by omega) (by omega) (by simpa using ew) ⟨v, H, I, rw', q⟩
end L2
namespace MV
open PySem L2
seal L2.PE L2.PA L2.PS L2.PSs L2.PT L2.PW L2.PC L2.PI L2.PG L2.PO
open Sz30 (Bytes Word axis)
open MW (SOk WB big)
def iV (ns : List Int) : List V := ns.map V.int
def Plain : HO → Prop := fun o => (∃ ns : List Int, o = .lst (iV ns)) ∨ ∃ ob u, o = .frz ob u
structure TL (K : PySem.W.Frag) (L : Addr) : Prop where
  cl : Cls K L
  ma : NoAttr K L "machine"
structure LAt (L : Addr) (H : Hp) (ml m : Addr) : Prop where
  ex : ∃ dx fs, H ml = some (.ins L dx fs) ∧ fs.map (·.1) = (["machine"] : List Str) ∧ fs.lookup ("machine" : Str) = some (.ref m)
structure MillAt (L M : Addr) (H : Hp) (ml : Addr) (s : Sz30.St) : Prop where
  ex : ∃ m, LAt L H ml m ∧ MAt M H m s
theorem LAt.same {L : Addr} {H H' : Hp} {ml m : Addr} (h : LAt L H ml m) (s : Same H H') : LAt L H' ml m := by
  obtain ⟨dx, fs, h1, h2⟩ := h
  exact ⟨dx, fs, s _ _ h1, h2⟩
theorem MillAt.same {L M : Addr} {H H' : Hp} {ml : Addr} {s : Sz30.St} (h : MillAt L M H ml s) (k : Same H H') : MillAt L M H' ml s := by
  obtain ⟨m, h1, h2⟩ := h
  exact ⟨m, h1.same k, h2.same k⟩
theorem lm_ne {L M : Addr} {H : Hp} {ml m m' : Addr} {s : Sz30.St} (h : LAt L H ml m') (h' : MAt M H m s) : ml ≠ m := by
  obtain ⟨dx, fs, h1, h2, _⟩ := h
  obtain ⟨dx', fs', po, ol, pf, ps, h3, h4, _⟩ := h'
  refine ne_of h1 h3 fun z => ?_
  injection z with _ _ z
  rw [z, h4.keys] at h2
  exact absurd h2 (by decide +kernel)
def Ans (L M : Addr) (ml : Addr) (H : Hp) (s' : Sz30.St) (xs : List Int) (Q : VK) : Prop :=
  ∀ (ll : Addr) (H' : Hp), H' ll = some (.lst (iV xs)) → H ll = none → MillAt L M H' ml s' → (∀ b o, H b = some o → Plain o → H' b = some o) → Q (.ref ll) H'
theorem plain_ins {C dx : Addr} {fs : List (Str × V)} : ¬ Plain (.ins C dx fs) := by
  rintro (⟨ns, z⟩ | ⟨ob, u, z⟩) <;> cases z
section
variable {P : Program} {w : World} {K : PySem.W.Frag} {mg : Str → Option Value} {base : Heap} {C M W L : Addr}
def spNums : Sp := fun vs H Q _ => ∃ (a : Addr) (ms : List Mv), vs = [.ref a] ∧ LsAt H a ms ∧ ms.flatten.length ≤ 1000000 ∧ ∀ (ll : Addr) (H' : Hp), H' ll = some (.lst (iV ms.flatten)) → Same H H' → H ll = none → Q (.ref ll) H'
theorem scNu : FnScope ["moves", "numbers", "move"] ["moves"] (defScope (top 84)) := ⟨rfl, rfl, rfl, by decide +kernel, rfl, by decide +kernel, by decide +kernel⟩
theorem take_flat {ms : List Mv} {i : Nat} {m : Mv} (h : ms[i]? = some m) : (ms.take (i + 1)).flatten = (ms.take i).flatten ++ m := by
  rw [List.take_add_one, h, Option.toList_some, List.flatten_append]
  simp
theorem flat_le (ms : List Mv) (i : Nat) : (ms.take i).flatten.length ≤ ms.flatten.length := by
  conv => rhs; rw [← List.take_append_drop i ms]
  rw [List.flatten_append, List.length_append]
  omega
theorem ok_nums (F : Wr K mg "numbers_of" (top 84)) : Fn P w K mg base CX0 1 "numbers_of" ["moves"] spNums := by
  obtain ⟨f, fd, hm, F⟩ := F.ex
  refine ⟨f, fd, hm, F.kp, F.binds (ps := ["moves"]) (fun _ _ _ _ _ _ us hl => match us, hl with | [_], _ => rfl), ?_⟩
  refine F.ok scNu (fun vs H Q E h => ?_) (fun cdv A outer s H vs Q E hr h => ?_)
  · obtain ⟨_, _, rfl, _⟩ := h
    rfl
  · obtain ⟨a, ms, rfl, hL, hn, k⟩ := h
    obtain ⟨ps, h1, h2, h3⟩ := id hL.ex
    refine ⟨_, pss_cons (ps_set (i := 1) scNu.nd rfl (Or.inl rfl) (pe_lstN pa_nil))
      (pss_cons (ps_for PassesOwn.never rfl (pi_list (pv 0)) (pg_name (i := 2) scNu.nd rfl (Or.inl rfl)) (pss_one (ps_expr (pe_bm PySem.F.plainAttrs_list PySem.F.slot_list_extend PySem.F.type_list_extend mt_extendT (pv 1) (pa_cons (pv 2) pa_nil)))))
      (pss_one (ps_ret (pv 1)))), ?_⟩
    refine ⟨by show 0 ≤ sizeLine; decide, fun ll H1 n1 a1 s1 => ?_⟩
    refine ⟨_, rfl, a, rfl, ⟨_, SqL.of (s1 _ _ h1)⟩, for_list (K := K) (a := a) (xs := ps.map fun p => V.ref p.1) (fun i σ H2 => ∃ v : Option V, σ = [some (.ref a), some (.ref ll), v] ∧ Same H H2 ∧ H2 ll = some (.lst (iV (ms.take i).flatten)))
      ⟨none, rfl, s1, a1⟩ (fun i σ H2 _ ⟨_, _, s2, _⟩ => SqL.of (s2 _ _ h1)) ?_ ?_⟩
    · rintro i y σ H2 hi ⟨v, rfl, s2, e2⟩
      rw [List.getElem?_map] at hi
      obtain ⟨p, hp, rfl⟩ := Option.map_eq_some_iff.mp hi
      have hmi : ms[i]? = some p.2 := by rw [← h3, List.getElem?_map, hp]; rfl
      have hfl := take_flat hmi
      have hle := flat_le ms (i + 1)
      rw [hfl, List.length_append] at hle
      refine ⟨_, rfl, .inl ⟨rfl, _, SqL.of e2⟩, _, rfl, ll, p.1, _, _, rfl, rfl, e2, SqT.of (s2 _ _ (h2 p (List.mem_of_getElem? hp))), ?_, some (.ref p.1), rfl, s2.upd n1, ?_⟩
      · unfold iV mV
        rw [List.length_map, List.length_map]
        show _ ≤ 16777216
        omega
      · rw [upd_same, hfl]
        unfold iV mV
        rw [List.map_append]
    · rintro σ H2 ⟨v, rfl, s2, e2⟩
      refine ⟨_, rfl, k ll H2 ?_ s2 n1⟩
      rw [e2, List.length_map, List.take_of_length_le (by rw [← h3, List.length_map]; exact Nat.le_refl _)]
def lg (ns : List Int) : Bool := !(ns.all fun v => decide (-(2 : Int) ^ 60 < v) && decide (v < (2 : Int) ^ 60))
theorem big_lg (ms : List Mv) : big ms = lg ms.flatten := by
  unfold big lg
  congr 1
  induction ms with
  | nil => rfl
  | cons m r ih => rw [List.all_cons, List.flatten_cons, List.all_append, ih]
def spLarge (K : PySem.W.Frag) : Sp := fun vs H Q _ => ∃ (a : Addr) (ns : List Int), vs = [.ref a] ∧ SqL K H a (iV ns) ∧ Q (.bl (lg ns)) H
theorem scHL : FnScope ["numbers"] ["numbers"] (defScope (top 85)) := ⟨rfl, rfl, rfl, by decide +kernel, rfl, by decide +kernel, by decide +kernel⟩
theorem lg_true {ns : List Int} (h : ∃ v ∈ ns, v ≤ -1152921504606846976 ∨ 1152921504606846976 ≤ v) : lg ns = true := by
  obtain ⟨v, hv, h⟩ := h
  unfold lg
  rw [Bool.not_eq_true', List.all_eq_false]
  refine ⟨v, hv, ?_⟩
  simp only [Bool.and_eq_true, decide_eq_true_eq]
  omega
theorem lg_false {ns : List Int} (h : ∀ v ∈ ns, -1152921504606846976 < v ∧ v < 1152921504606846976) : lg ns = false := by
  unfold lg
  rw [Bool.not_eq_false', List.all_eq_true]
  intro v hv
  have := h v hv
  simp only [Bool.and_eq_true, decide_eq_true_eq]
  omega
theorem ok_large (F : Wr K mg "has_large" (top 85)) (T : Tx K mg C) : Fn P w K mg base CX0 1 "has_large" ["numbers"] (spLarge K) := by
  obtain ⟨f, fd, hm, F⟩ := F.ex
  refine ⟨f, fd, hm, F.kp, F.binds (ps := ["numbers"]) (fun _ _ _ _ _ _ us hl => match us, hl with | [_], _ => rfl), ?_⟩
  refine F.ok scHL (fun vs H Q E h => ?_) (fun cdv A outer s H vs Q E hr h => ?_)
  · obtain ⟨_, _, rfl, _⟩ := h
    rfl
  · obtain ⟨a, ns, rfl, hS, k⟩ := h
    refine ⟨_, pss_one (ps_ret (pe_or (pe_cmpR op_ge (pe_maxD rfl rfl T.max (pv 0) pe_int) (pgi T.ms) (nomark _)) (pe_one (pe_cmpR op_le (pe_minD rfl rfl T.min (pv 0) pe_int) (pe_un un_neg (pgi T.ms)) (nomark _))))), ?_⟩
    have fin2 : (∀ v ∈ ns, v < 1152921504606846976) → tOp (rI0 fun i j => .bl (decide (i ≤ j))) (tMinD K (tVar 0) (tC (.int 0))) (tUn (rU fun i => .int (-i)) (tC (.int 1152921504606846976))) [some (.ref a)] H Q := fun hlt => by
      refine ⟨_, rfl, a, ns, rfl, hS, fun e => ?_, fun m hm hmin => ?_⟩
      · refine ⟨_, rfl, _, _, rfl, rfl, ?_⟩
        subst e
        exact k
      · refine ⟨_, rfl, _, _, rfl, rfl, ?_⟩
        by_cases h : m ≤ -1152921504606846976
        · dsimp only
          rw [decide_eq_true h]
          rw [lg_true ⟨m, hm, .inl h⟩] at k
          exact k
        · dsimp only
          rw [decide_eq_false h]
          rw [lg_false fun v hv => ⟨by have := hmin v hv; omega, hlt v hv⟩] at k
          exact k
    refine ⟨_, rfl, a, ns, rfl, hS, fun e => ?_, fun m hm hmax => ?_⟩
    · refine ⟨_, _, rfl, rfl, _, rfl, iteF (fin2 ?_)⟩
      subst e
      intro v hv
      cases hv
    · refine ⟨_, _, rfl, rfl, _, rfl, iteD (fun h => ?_) (fun h => fin2 fun v hv => by have := hmax v hv; omega)⟩
      rw [lg_true ⟨m, hm, .inr h⟩] at k
      exact k
def spMillInit (L M : Addr) : Sp := fun vs H Q _ => ∃ (ml dx : Addr), vs = [.ref ml] ∧ H ml = some (.ins L dx []) ∧ ∀ H', MillAt L M H' ml Sz30.fresh → Kp ml H H' → Q .non H'
theorem scMil : FnScope ["self"] ["self"] (defScope (inClass (top 83) 0)) := ⟨rfl, rfl, rfl, by decide +kernel, rfl, by decide +kernel, by decide +kernel⟩
theorem ok_millinit {f : Addr} {fd : FuncData} (F : Fun K "__init__" "Mill.__init__" (inClass (top 83) 0) f fd) (T' : TL K L) (GM : In P w K mg base CX0 2 M "Machine" ["self"] (spMInit M)) : FnOk P w K mg base CX0 4 f fd ["self"] (spMillInit L M) := by
  refine F.ok scMil (fun vs H Q E h => ?_) (fun cdv A outer s H vs Q E hr h => ?_)
  · obtain ⟨_, _, rfl, _⟩ := h
    rfl
  · obtain ⟨ml, dx, rfl, hm, k⟩ := h
    refine ⟨_, pss_one (ps_fldN (pv 0) (pmake0 GM hr pass0) rfl), ?_⟩
    intro m dm n1 n2 n3
    refine ⟨m, dm, rfl, upd_same, fun H1 M1 kp => ⟨rfl, ?_⟩⟩
    have s1 : Same H H1 := Same.made n1 n2 kp
    have hm1 := s1 _ _ hm
    have nm : m ≠ ml := (ne_of_none hm n1).symm
    refine ⟨_, rfl, ml, L, dx, [], rfl, hm1, T'.cl, T'.ma, by show 0 < 1000; decide, fun H2 m2 k2 => ?_⟩
    exact k H2 ⟨m, ⟨dx, _, m2, keys_new (ks := []) rfl (by simp), lk_eq⟩, M1.kp k2 hm1 nm⟩ ((s1.kp ml).trans k2)
def spClear (L M : Addr) : Sp := fun vs H Q _ => ∃ (ml : Addr) (s : Sz30.St), vs = [.ref ml] ∧ MillAt L M H ml s ∧ Ans L M ml H Sz30.fresh [0] Q
theorem scCl : FnScope ["self"] ["self"] (defScope (inClass (top 83) 1)) := ⟨rfl, rfl, rfl, by decide +kernel, rfl, by decide +kernel, by decide +kernel⟩
theorem ok_clear (F : WrM K L "gc_clear" "Mill.gc_clear" (inClass (top 83) 1)) (T' : TL K L) (GM : In P w K mg base CX0 2 M "Machine" ["self"] (spMInit M)) : Mt P w K mg base CX0 4 L "gc_clear" ["self"] (spClear L M) := by
  obtain ⟨f, fd, hf, hi, F⟩ := F.ex
  refine ⟨f, fd, ⟨hf, hi, F.kp⟩, F.binds (ps := ["self"]) (fun _ _ _ _ _ _ us hl => match us, hl with | [_], _ => rfl), ?_⟩
  refine F.ok scCl (fun vs H Q E h => ?_) (fun cdv A outer s H vs Q E hr h => ?_)
  · obtain ⟨_, _, rfl, _⟩ := h
    rfl
  · obtain ⟨ml, s, rfl, ⟨m0, ⟨dx, fs, hm, hk, hlk⟩, hM⟩, k⟩ := h
    refine ⟨_, pss_cons (ps_fldN (pv 0) (pmake0 GM hr pass0) rfl) (pss_one (ps_ret (pe_lstN (pa_cons pe_int pa_nil)))), ?_⟩
    intro m dm n1 n2 n3
    refine ⟨m, dm, rfl, upd_same, fun H1 M1 kp => ⟨rfl, ?_⟩⟩
    have s1 : Same H H1 := Same.made n1 n2 kp
    have hm1 := s1 _ _ hm
    have nm : m ≠ ml := (ne_of_none hm n1).symm
    refine ⟨_, rfl, ml, L, dx, fs, rfl, hm1, T'.cl, T'.ma, by rw [keys_len hk]; decide, fun H2 m2 k2 => ?_⟩
    refine ⟨by show 1 ≤ sizeLine; decide, fun ll H3 n3 a3 s3 => ?_⟩
    have K2 : Kp ml H H2 := (s1.kp ml).trans k2
    refine k ll H3 a3 (K2.free n3 m2) ⟨m, ⟨dx, _, s3 _ _ m2, keys_old hk, lk_eq⟩, (M1.kp k2 hm1 nm).same s3⟩ fun b o hb hp => s3 _ _ (K2 b o hb fun e => ?_)
    rw [e, hm] at hb
    cases hb
    exact plain_ins hp
def spPlace (L M : Addr) : Sp := fun vs H Q _ => ∃ (ml : Addr) (s : Sz30.St), vs = [.ref ml] ∧ MillAt L M H ml s ∧ Ans L M ml H s [(s.motion : Int), s.at_.1, s.at_.2.1, s.at_.2.2] Q
theorem scPl : FnScope ["self", "place"] ["self"] (defScope (inClass (top 83) 4)) := ⟨rfl, rfl, rfl, by decide +kernel, rfl, by decide +kernel, by decide +kernel⟩
theorem ok_place (F : WrM K L "gc_place" "Mill.gc_place" (inClass (top 83) 4)) (T' : TL K L) (TM' : TM K M) : Mt P w K mg base CX0 1 L "gc_place" ["self"] (spPlace L M) := by
  obtain ⟨f, fd, hf, hi, F⟩ := F.ex
  refine ⟨f, fd, ⟨hf, hi, F.kp⟩, F.binds (ps := ["self"]) (fun _ _ _ _ _ _ us hl => match us, hl with | [_], _ => rfl), ?_⟩
  refine F.ok scPl (fun vs H Q E h => ?_) (fun cdv A outer s H vs Q E hr h => ?_)
  · obtain ⟨_, _, rfl, _⟩ := h
    rfl
  · obtain ⟨ml, s, rfl, hMi, k⟩ := h
    obtain ⟨m, ⟨dx, fs, hm, hk, hlk⟩, hM⟩ := id hMi.ex
    obtain ⟨dm, fm, po, ol, pf, ps, hmm, hf', hp⟩ := id hM
    refine ⟨_, pss_cons (ps_set (i := 1) scPl.nd rfl (Or.inl rfl) (pe_fld (pe_fld (pv 0) rfl) rfl))
      (pss_one (ps_ret (pe_lstN (pa_cons (pe_fld (pe_fld (pv 0) rfl) rfl) (pa_cons (pe_ix ix_tup (pv 1) pe_int (fun _ _ => rfl)) (pa_cons (pe_ix ix_tup (pv 1) pe_int (fun _ _ => rfl)) (pa_cons (pe_ix ix_tup (pv 1) pe_int (fun _ _ => rfl)) pa_nil))))))), ?_⟩
    refine ⟨_, rfl, ml, L, dx, fs, _, rfl, hm, T'.cl, T'.ma, hlk, m, M, dm, fm, _, rfl, hmm, TM'.cl, TM'.place, hf'.place, ?_⟩
    refine ⟨_, rfl, ml, L, dx, fs, _, rfl, hm, T'.cl, T'.ma, hlk, m, M, dm, fm, _, rfl, hmm, TM'.cl, TM'.motion, hf'.motion, _, rfl, po, _, _, _, rfl, rfl, SqT.of hp.po, pV_at s.at_ (k := 0) (by decide), _, rfl, po, _, _, _, rfl, rfl, SqT.of hp.po, pV_at s.at_ (k := 1) (by decide), _, rfl, po, _, _, _, rfl, rfl, SqT.of hp.po, pV_at s.at_ (k := 2) (by decide),
      by show 4 ≤ sizeLine; decide, fun ll H1 n1 a1 s1 => k ll H1 a1 n1 (hMi.same s1) fun b o hb _ => s1 b o hb⟩
def spOrig (K : PySem.W.Frag) (L M : Addr) : Sp := fun vs H Q _ => ∃ (ml pa : Addr) (s : Sz30.St) (k x y z : Int), vs = [.ref ml, .int k, .ref pa] ∧ MillAt L M H ml s ∧ s.origins.length = 6 ∧ SqL K H pa (iV [x, y, z]) ∧
  Ans L M ml H (Sz30.does s (.origin k [x, y, z])).1 (MW.ans (Sz30.does s (.origin k [x, y, z])).2) Q
theorem scOr : FnScope ["self", "k", "p", "number"] ["self", "k", "p"] (defScope (inClass (top 83) 2)) := ⟨rfl, rfl, rfl, by decide +kernel, rfl, by decide +kernel, by decide +kernel⟩
theorem small_any (ns : List Int) : ((ns.map fun n => decide (1000000000000 < (if n < 0 then -n else n))).any id) = !Sz30.small ns := by
  unfold Sz30.small
  induction ns with
  | nil => rfl
  | cons a r ih =>
    rw [List.map_cons, List.any_cons, ih, List.all_cons, Bool.not_and]
    congr 1
    rw [Bool.eq_iff_iff]
    simp only [id, decide_eq_true_eq, Bool.not_eq_true', Bool.and_eq_false_iff, decide_eq_false_iff_not]
    split <;> omega
theorem ok_origin (F : WrM K L "gc_origin" "Mill.gc_origin" (inClass (top 83) 2)) (T : Tx K mg C) (T' : TL K L) (TM' : TM K M) : Mt P w K mg base CX0 1 L "gc_origin" ["self", "k", "p"] (spOrig K L M) := by
  obtain ⟨f, fd, hf, hi, F⟩ := F.ex
  refine ⟨f, fd, ⟨hf, hi, F.kp⟩, F.binds (ps := ["self", "k", "p"]) (fun _ _ _ _ _ _ us hl => match us, hl with | [_, _, _], _ => rfl), ?_⟩
  refine F.ok scOr (fun vs H Q E h => ?_) (fun cdv A outer s H vs Q E hr h => ?_)
  · obtain ⟨_, _, _, _, _, _, _, rfl, _⟩ := h
    rfl
  · obtain ⟨ml, pa, s, k, x, y, z, rfl, hMi, hol, hS, kk⟩ := h
    obtain ⟨m, ⟨dx, fs, hm, hk, hlk⟩, hM⟩ := id hMi.ex
    obtain ⟨dm, fm, po, ol, pf, ps, hmm, hf', hp⟩ := id hM
    refine ⟨_, pss_cons (ps_if (pw_or (pt_cmpR op_lt (pv 1) pe_int (nomark _)) (pw_or (pt_cmpR op_ge (pv 1) (pgi T.origins) (nomark _)) (pw_or1 (pt_val (pe_callB (cr_any rfl) (by rfl) T.any b_any (pa_cons
        (pe_lc (own := [("number", 3)]) rfl scOr.nd (pi_list (pv 2)) (blkOk_by (show blkC ["self", "k", "p", "number"] (defScope (inClass (top 83) 2)) _ _ = true by decide +kernel)) (fun _ _ _ _ _ => pg_name (i := 3) scOr.nd rfl (Or.inl rfl)) (fun _ _ _ _ _ => pts_nil)
          (fun _ _ _ _ _ => pe_cmpR op_gt (pe_callB call_abs (by rfl) T.abs b_abs (pa_cons (pv 3) pa_nil)) (pgi T.mo) (nomark _))) pa_nil)))))).pt (pss_one (ps_ret (pe_lstN (pa_cons (pe_un un_neg pe_int) pa_nil)))) pss_nil)
      (pss_cons (ps_asg (pe_tupN (pa_cons (pe_ix ix_list (pv 2) pe_int (fun _ _ => rfl)) (pa_cons (pe_ix ix_list (pv 2) pe_int (fun _ _ => rfl)) (pa_cons (pe_ix ix_list (pv 2) pe_int (fun _ _ => rfl)) pa_nil)))) (pg_sub (pe_fld (pe_fld (pv 0) rfl) rfl) (pv 1) set_list))
      (pss_one (ps_ret (pe_lstN (pa_cons pe_int pa_nil))))), ?_⟩
    have bad : (k < 0 ∨ 5 < k ∨ Sz30.small [x, y, z] = false) → ∀ H1, Same H H1 → [V.int (-1)].length ≤ sizeLine ∧ ∀ (p : Addr) (H' : Hp), H1 p = none → H' p = some (.lst [V.int (-1)]) → Same H1 H' → Q (.ref p) H' := fun h H1 s1 => by
      refine ⟨by show 1 ≤ sizeLine; decide, fun ll H2 n2 a2 s2 => ?_⟩
      unfold Sz30.does at kk
      simp only [if_pos h] at kk
      exact kk ll H2 a2 (s1.free n2) (hMi.same (s1.trans s2)) fun b o hb _ => s2 _ _ (s1 b o hb)
    refine cont (Pv := fun σ H1 => ¬ (k < 0 ∨ 5 < k ∨ Sz30.small [x, y, z] = false) ∧ σ = [some (.ref ml), some (.int k), some (.ref pa), none] ∧ Same H H1) ?_ ?_
    rotate_left
    · intro nx hnx
      refine ⟨_, rfl, _, _, rfl, rfl, _, rfl, iteD (fun h => iteT ⟨_, rfl, bad (.inl h) _ (Same.refl H)⟩) (fun h1 => ?_)⟩
      refine ⟨_, rfl, _, _, rfl, rfl, _, rfl, iteD (fun h => iteT ⟨_, rfl, bad (.inr (.inl (by omega))) _ (Same.refl H)⟩) (fun h2 => ?_)⟩
      refine ⟨_, rfl, pa, rfl, ⟨_, hS⟩, fun D hD => ?_⟩
      refine lc_list (K := K) (a := pa) (xs := iV [x, y, z]) (fun i H2 => H2 = upd H D (.lst ((([x, y, z].take i).map fun n => decide (1000000000000 < (if n < 0 then -n else n))).map V.bl))) rfl (fun i H2 _ e => by rw [e]; exact ((Same.refl H).new hD).seq hS) ?_ ?_
      · rintro i v H2 hv rfl
        unfold iV at hv
        rw [List.getElem?_map] at hv
        obtain ⟨n, hn, rfl⟩ := Option.map_eq_some_iff.mp hv
        refine ⟨rfl, yes_ite ⟨_, rfl, _, rfl, _, _, rfl, rfl, _, upd_same, ?_, ?_⟩⟩
        · simp only [List.length_map, List.length_take]
          show _ < 16777216
          have : ([x, y, z] : List Int).length = 3 := rfl
          omega
        · rw [upd_upd, List.take_add_one, hn, Option.toList_some, List.map_append, List.map_append]
          rfl
      · rintro H2 rfl
        have e3 : [x, y, z].take (iV [x, y, z]).length = [x, y, z] := rfl
        rw [e3]
        refine ⟨D, _, rfl, SqL.of upd_same, _, rfl, ?_⟩
        rw [small_any]
        cases hsm : Sz30.small [x, y, z] with
        | false => exact iteT ⟨_, rfl, bad (.inr (.inr hsm)) _ ((Same.refl H).new hD)⟩
        | true =>
          refine iteF (hnx _ _ ⟨?_, rfl, (Same.refl H).new hD⟩)
          rintro (h | h | h)
          · exact h1 h
          · omega
          · rw [hsm] at h; cases h
    rintro σ H1 ⟨hgood, rfl, s1⟩
    have hS1 := s1.seq hS
    have hk0 : 0 ≤ k := by
      rcases Int.lt_or_le k 0 with h | h
      · exact absurd (.inl h) hgood
      · exact h
    have hk5 : k ≤ 5 := by
      rcases Int.lt_or_le 5 k with h | h
      · exact absurd (.inr (.inl h)) hgood
      · exact h
    refine ⟨_, rfl, pa, _, _, _, rfl, rfl, hS1, atI_nat (j := 0) rfl, _, rfl, pa, _, _, _, rfl, rfl, hS1, atI_nat (j := 1) rfl, _, rfl, pa, _, _, _, rfl, rfl, hS1, atI_nat (j := 2) rfl, by show 3 ≤ sizeLine; decide, fun tp H2 n2 a2 s2 => ?_⟩
    have s02 := s1.trans s2
    have hlen : (ps.map fun p => V.ref p.1).length = 6 := by rw [List.length_map, ← hol, ← hp.og, List.length_map]
    have p2 := hp.same s02
    have m2 := s02 _ _ hmm
    refine ⟨_, rfl, ml, L, dx, fs, _, rfl, s02 _ _ hm, T'.cl, T'.ma, hlk, m, M, dm, fm, _, rfl, m2, TM'.cl, TM'.origins, hf'.origins, _, rfl, ol, _, k, k.toNat, rfl, rfl, p2.ol, ?_, ?_⟩
    · rw [hlen]
      unfold ixN
      rw [if_pos hk0, if_pos (by omega)]
    have ex : (Sz30.does s (.origin k [x, y, z])) = ({ s with origins := s.origins.set k.toNat (x, y, z) }, Sz30.only 0) := by
      unfold Sz30.does
      simp only [if_neg hgood]
      rfl
    rw [ex] at kk
    refine ⟨by show 1 ≤ sizeLine; decide, fun ll H4 n4 a4 s4 => ?_⟩
    have fll : H ll = none := by
      cases q : H ll with
      | none => rfl
      | some o =>
        have e1 := s02 _ _ q
        by_cases e : ll = ol
        · rw [e, upd_same] at n4; cases n4
        · rw [upd_ne e, e1] at n4; cases n4
    have tpo : tp ≠ ol := ne_of a2 p2.ol (by intro z; cases z)
    refine kk ll H4 a4 fll ⟨m, ⟨dx, fs, s4 _ _ ?_, hk, hlk⟩, ⟨dm, fm, po, ol, pf, ps.set k.toNat (tp, (x, y, z)), s4 _ _ ?_, ?_, MP.same ⟨?_, ?_, ?_, fun p hpm => ?_, ?_⟩ s4⟩⟩ fun b o hb hpl => s4 _ _ ?_
    · rw [upd_ne (ne_of (s02 _ _ hm) p2.ol (by intro z; cases z))]; exact s02 _ _ hm
    · rw [upd_ne (ne_of m2 p2.ol (by intro z; cases z))]; exact m2
    · exact ⟨hf'.keys, hf'.place, hf'.origins, hf'.origin, hf'.put_off, hf'.motion, hf'.plane, hf'.unit, hf'.steps, hf'.feed, hf'.height, hf'.level, hf'.depth, hf'.peck, hf'.wait⟩
    · rw [upd_ne (ne_of p2.po p2.ol (by intro z; cases z))]; exact p2.po
    · rw [upd_ne (ne_of p2.pf p2.ol (by intro z; cases z))]; exact p2.pf
    · rw [upd_same, List.map_set]
    · rcases List.mem_or_eq_of_mem_set hpm with h | rfl
      · rw [upd_ne (ne_of (p2.tp p h) p2.ol (by intro z; cases z))]; exact p2.tp p h
      · rw [upd_ne tpo]; exact a2
    · rw [List.map_set, hp.og]
    · by_cases e : b = ol
      · rw [e, hp.ol] at hb
        cases hb
        rcases hpl with ⟨ns, q⟩ | ⟨ob, u, q⟩
        · injection q with q
          cases ps with
          | nil => cases hlen
          | cons p0 pr =>
            cases ns with
            | nil => cases q
            | cons n nr => injection q with q _; cases q
        · cases q
      · rw [upd_ne e]; exact s02 _ _ hb
end
end MV
set_option maxRecDepth 100000
set_option maxHeartbeats 2000000
namespace MV
open PySem L2
seal L2.PE L2.PA L2.PS L2.PSs L2.PT L2.PW L2.PC L2.PI L2.PG L2.PO
open Sz30 (Bytes Word axis)
open MW (SOk WB big spl part rd doM endsM)
theorem MAt.updA {M : Addr} {H : Hp} {m aw : Addr} {s : Sz30.St} {n : V} {xs ys : List V} (h : MAt M H m s) (hn : ∀ a, n ≠ V.ref a) (ha : H aw = some (.lst (n :: xs))) : MAt M (upd H aw (.lst ys)) m s := by
  obtain ⟨dx, fs, po, ol, pf, ps, h1, h2, h3⟩ := h
  have ne : ol ≠ aw := by
    intro e
    have q := h3.ol
    rw [e, ha] at q
    injection q with q
    injection q with q
    cases ps with
    | nil => cases q
    | cons p r =>
      injection q with q _
      exact hn _ q
  exact ⟨dx, fs, po, ol, pf, ps, by rw [upd_ne (ne_of h1 ha (by intro z; cases z))]; exact h1, h2, h3.updL ha ne⟩
theorem SOk.ends {s : Sz30.St} (h : SOk s) (b : Bool) : SOk { s with ended := b } := ⟨h.mo, h.pl, h.og, h.ol, h.ab, h.ob, h.rb⟩
theorem MAt.ended {M : Addr} {H : Hp} {m : Addr} {s : Sz30.St} (h : MAt M H m s) (b : Bool) : MAt M H m { s with ended := b } := by
  obtain ⟨dx, fs, po, ol, pf, ps, h1, h2, h3⟩ := h
  exact ⟨dx, fs, po, ol, pf, ps, h1, ⟨h2.keys, h2.place, h2.origins, h2.origin, h2.put_off, h2.motion, h2.plane, h2.unit, h2.steps, h2.feed, h2.height, h2.level, h2.depth, h2.peck, h2.wait⟩, ⟨h3.po, h3.pf, h3.ol, h3.tp, h3.og⟩⟩
theorem lineOf_some {sk : Bool} {s : Sz30.St} {t : Bytes} {l : List Word} (hm : MW.mOk s.motion) (h : rd [] (part sk t) = some l) :
    MW.lineOf sk s t = (doM s l).map fun r => (if endsM l = true then { r.1 with ended := true } else r.1, r.2) := by
  unfold MW.lineOf
  rw [h, Option.bind_some, MW.line_eq s l (MW.rd_WB h).2 hm]
theorem lineOf_none {sk : Bool} {s : Sz30.St} {t : Bytes} (h : rd [] (part sk t) = none) : MW.lineOf sk s t = none := by
  unfold MW.lineOf
  rw [h]
  rfl
structure RunI (M : Addr) (H H2 : Hp) (sk : Bool) (most : Nat) (ls : List Bytes) (tw aw : Addr) (i : Nat) (u : Sz30.St) (ms : List Mv) (fin : Except Int (Sz30.St × List Mv)) : Prop where
  fr : ∀ b o, H b = some o → b ≠ tw → b ≠ aw → H2 b = some o
  ma : MAt M H2 tw u
  so : SOk u
  en : u.ended = false
  an : H2 aw = some (.lst (iV ((ms.length : Int) :: ms.flatten)))
  ln : ms.length ≤ most
  w8 : ms.flatten.length ≤ 8 * ms.length
  pr : Sz30.program sk most (i + 1) u (ls.drop i) ms = fin
theorem pecks8 (x y r d q f : Int) : ∀ (n : Nat) (z : Int), ∀ m ∈ Sz30.pecks x y r d q f n z, m.length ≤ 8
  | 0, z, m, h => by simp [Sz30.pecks] at h
  | n + 1, z, m, h => by
    unfold Sz30.pecks at h
    simp only at h
    split at h
    · obtain rfl := List.mem_singleton.mp h
      simp [Sz30.straight]
    · rcases List.mem_append.mp h with h | h
      · simp only [List.mem_cons, List.not_mem_nil, or_false] at h
        rcases h with rfl | rfl | rfl <;> simp [Sz30.straight]
      · exact pecks8 x y r d q f n _ m h
theorem into8 {u : Sz30.St} {x y r d : Int} {ms : List Mv} (h : MW.intoM u x y r d = some ms) : ∀ m ∈ ms, m.length ≤ 8 := by
  unfold MW.intoM at h
  split at h
  · unfold MW.pecksM at h
    split at h
    · split at h
      · cases h
      · cases h
        exact pecks8 _ _ _ _ _ _ _ _
    · cases h
  · split at h
    · cases h
      intro m hm
      simp only [List.mem_cons, List.not_mem_nil, or_false] at hm
      rcases hm with rfl | rfl <;> simp [Sz30.straight, Sz30.plain]
    · cases h
      intro m hm
      obtain rfl := List.mem_singleton.mp hm
      simp [Sz30.straight]
theorem main8 {u : Sz30.St} {l : List Word} {r : Sz30.St × List Mv} (hz : MW.mainM u l = some r) : ∀ m ∈ r.2, m.length ≤ 8 := by
  unfold MW.mainM at hz
  split at hz
  · split at hz
    · cases hz
    · cases hz
      intro m hm
      obtain rfl := List.mem_singleton.mp hm
      simp [Sz30.plain]
  · split at hz
    · split at hz
      · cases hz
      · cases hz
        intro m hm
        cases hm
    · unfold MW.motionM at hz
      simp only at hz
      split at hz
      · cases hz
      · split at hz
        · unfold MW.holesM at hz
          simp only at hz
          split at hz
          · cases hz
            intro m hm
            cases hm
          · obtain ⟨q, hq, hz⟩ := Option.bind_eq_some_iff.mp hz
            obtain ⟨ms, hm', hz⟩ := Option.map_eq_some_iff.mp hz
            cases hz
            intro m hm
            have h8 := into8 hm'
            simp only [List.mem_append, List.mem_cons, List.not_mem_nil, or_false] at hm
            rcases hm with (rfl | rfl) | hm | rfl
            · simp [Sz30.straight]
            · simp [Sz30.straight]
            · exact h8 m hm
            · simp [Sz30.straight]
        · split at hz
          · unfold MW.arcM at hz
            split at hz
            · cases hz
            · simp only at hz
              split at hz
              · cases hz
              · split at hz
                · cases hz
                · cases hz
                  intro m hm
                  obtain rfl := List.mem_singleton.mp hm
                  simp
          · split at hz
            · cases hz
              intro m hm
              cases hm
            · split at hz
              · cases hz
              · unfold MW.lineM at hz
                split at hz
                · cases hz
                  intro m hm
                  obtain rfl := List.mem_singleton.mp hm
                  simp [Sz30.straight]
                · split at hz
                  · cases hz
                  · cases hz
                    intro m hm
                    obtain rfl := List.mem_singleton.mp hm
                    simp [Sz30.straight]
theorem do8 {u : Sz30.St} {l : List Word} {r : Sz30.St × List Mv} (h : doM u l = some r) : r.2.flatten.length ≤ 8 * r.2.length := by
  have all : ∀ m ∈ r.2, m.length ≤ 8 := by
    unfold MW.doM at h
    obtain ⟨z, hz, rfl⟩ := Option.map_eq_some_iff.mp h
    intro m hm
    have h8 := main8 hz
    rcases List.mem_append.mp hm with hm | hm
    · unfold MW.side MW.side5 MW.side6 MW.side7 at hm
      simp only [List.mem_append] at hm
      rcases hm with hm | hm | hm
      · split at hm
        · obtain rfl := List.mem_singleton.mp hm; simp [Sz30.plain]
        · cases hm
      · split at hm
        · obtain rfl := List.mem_singleton.mp hm; simp [Sz30.plain]
        · cases hm
      · split at hm
        · obtain rfl := List.mem_singleton.mp hm; simp [Sz30.plain]
        · cases hm
    · rcases List.mem_append.mp hm with hm | hm
      · exact h8 m hm
      · unfold MW.stopM at hm
        split at hm
        · obtain rfl := List.mem_singleton.mp hm; simp [Sz30.plain]
        · cases hm
  revert all
  generalize r.2 = ms
  intro all
  induction ms with
  | nil => simp
  | cons m q ih =>
    have h1 := all m List.mem_cons_self
    have h2 := ih fun x hx => all x (List.mem_cons_of_mem _ hx)
    rw [List.flatten_cons, List.length_append, List.length_cons]
    omega
theorem main_ended {u : Sz30.St} {l : List Word} {r : Sz30.St × List Mv} (hz : MW.mainM u l = some r) : r.1.ended = u.ended := by
  unfold MW.mainM at hz
  split at hz
  · split at hz
    · cases hz
    · cases hz; rfl
  · split at hz
    · split at hz
      · cases hz
      · cases hz; rfl
    · unfold MW.motionM at hz
      simp only at hz
      split at hz
      · cases hz
      · split at hz
        · unfold MW.holesM at hz
          simp only at hz
          have ht0 : ∀ v : Sz30.St, (MW.takeH v l).ended = v.ended := fun v => by
            unfold MW.takeH MW.hole4 MW.hole3 MW.hole2 MW.hole1
            repeat (first | rfl | split)
          have ht : ∀ k, (MW.takeH (if u.motion < 81 then MW.begin_ { u with motion := k } else { u with motion := k }) l).ended = u.ended := fun k => by
            rw [ht0]
            split <;> rfl
          split at hz
          · cases hz; exact ht _
          · obtain ⟨q, hq, hz⟩ := Option.bind_eq_some_iff.mp hz
            obtain ⟨m, hm', hz⟩ := Option.map_eq_some_iff.mp hz
            cases hz
            exact ht _
        · split at hz
          · unfold MW.arcM at hz
            split at hz
            · cases hz
            · simp only at hz
              split at hz
              · cases hz
              · split at hz
                · cases hz
                · cases hz; rfl
          · split at hz
            · cases hz; rfl
            · split at hz
              · cases hz
              · unfold MW.lineM at hz
                split at hz
                · cases hz; rfl
                · split at hz
                  · cases hz
                  · cases hz; rfl
theorem do_ended {s : Sz30.St} {l : List Word} {r : Sz30.St × List Mv} (h : doM s l = some r) : r.1.ended = s.ended := by
  unfold MW.doM at h
  obtain ⟨z, hz, rfl⟩ := Option.map_eq_some_iff.mp h
  exact (main_ended hz).trans (MW.settle_same s l).2.2.2.2.2.2.1
theorem part_len (sk : Bool) (t : Bytes) : (part sk t).length ≤ t.length := by
  unfold part
  simp only
  split
  · exact Nat.zero_le _
  · split
    · exact Nat.zero_le _
    · split
      · exact Nat.zero_le _
      · split
        · split
          · exact Nat.zero_le _
          · rw [List.length_drop]; omega
        · exact Nat.le_refl _
theorem spl_len : ∀ (t x : Bytes), x ∈ spl t → x.length ≤ t.length
  | [], x, h => by
    unfold MW.spl at h
    obtain rfl := List.mem_singleton.mp h
    exact Nat.le_refl _
  | c :: r, x, h => by
    have ih := spl_len r
    unfold MW.spl at h
    split at h
    · rcases List.mem_cons.mp h with rfl | h
      · exact Nat.zero_le _
      · have := ih x h
        rw [List.length_cons]; omega
    · split at h
      · rename_i y ys e
        rcases List.mem_cons.mp h with rfl | h
        · have := ih y (by rw [e]; exact List.mem_cons_self)
          rw [List.length_cons, List.length_cons]; omega
        · have := ih x (by rw [e]; exact List.mem_cons_of_mem _ h)
          rw [List.length_cons]; omega
      · obtain rfl := List.mem_singleton.mp h
        simp
theorem spl_count : ∀ t : Bytes, (spl t).length ≤ t.length + 1
  | [] => by simp [MW.spl]
  | c :: r => by
    have ih := spl_count r
    unfold MW.spl
    split
    · rw [List.length_cons, List.length_cons]; omega
    · split
      · rename_i y ys e
        rw [e, List.length_cons] at ih
        rw [List.length_cons, List.length_cons]; omega
      · simp
theorem WAt.updL {W : Addr} {H : Hp} {wd nd cd aw : Addr} {l : List Word} {xs ys : List V} (h : WAt W H wd nd cd l) (ha : H aw = some (.lst xs)) : WAt W (upd H aw (.lst ys)) wd nd cd l := by
  obtain ⟨⟨dx, fs, h1, h2⟩, ⟨kv, h3, h4⟩, ⟨kv', h5, h6⟩, n⟩ := h
  exact ⟨⟨dx, fs, by rw [upd_ne (ne_of h1 ha (by intro z; cases z))]; exact h1, h2⟩, ⟨kv, by rw [upd_ne (ne_of h3 ha (by intro z; cases z))]; exact h3, h4⟩, ⟨kv', by rw [upd_ne (ne_of h5 ha (by intro z; cases z))]; exact h5, h6⟩, n⟩
theorem LsAt.updO {H : Hp} {a aw : Addr} {ms : List Mv} {xs ys : List V} (h : LsAt H a ms) (ha : H aw = some (.lst xs)) (ne : a ≠ aw) : LsAt (upd H aw (.lst ys)) a ms := by
  obtain ⟨ps, h1, h2, h3⟩ := h
  exact ⟨ps, by rw [upd_ne ne]; exact h1, fun p hp => by rw [upd_ne (ne_of (h2 p hp) ha (by intro z; cases z))]; exact h2 p hp, h3⟩
section
variable {P : Program} {w : World} {K : PySem.W.Frag} {mg : Str → Option Value} {base : Heap} {C M W L : Addr}
def spRun (K : PySem.W.Frag) (L M : Addr) : Sp := fun vs H Q _ => ∃ (ml ta : Addr) (s : Sz30.St) (t : Bytes) (skip most : Int), vs = [.ref ml, .int skip, .int most, .ref ta] ∧ MillAt L M H ml s ∧ SOk s ∧ SqL K H ta (bV t) ∧ t.length ≤ 16000 ∧
  Ans L M ml H (Sz30.does s (.run t (t.length : Int) skip most)).1 (MW.ans (Sz30.does s (.run t (t.length : Int) skip most)).2) Q
theorem scRu : FnScope ["self", "skip", "most", "text", "twin", "answer", "line_number", "line", "words", "moves", "numbers"] ["self", "skip", "most", "text"] (defScope (inClass (top 83) 3)) := ⟨rfl, rfl, rfl, by decide +kernel, rfl, by decide +kernel, by decide +kernel⟩
theorem ok_run (F : WrM K L "gc_run" "Mill.gc_run" (inClass (top 83) 3)) (T : Tx K mg C) (T' : TL K L) (TM' : TM K M) (GTw : Mt P w K mg base CX0 4 M "twin" ["self"] (spTwin M)) (GSp : Fn P w K mg base CX0 1 "split_lines" ["text"] (spSplit K))
    (GPa : Fn P w K mg base CX0 2 "part_looked_at" ["line", "skip"] (spPart K)) (GRe : Fn P w K mg base (CXE P w C) 4 "read_words" ["line"] (spRead K W C)) (GLi : Fn P w K mg base (CXE P w C) 7 "moves_of_line" ["machine", "words"] (spMot M W C doM))
    (GNu : Fn P w K mg base CX0 1 "numbers_of" ["moves"] spNums) (GLa : Fn P w K mg base CX0 1 "has_large" ["numbers"] (spLarge K)) (GEn : Fn P w K mg base CX0 1 "ends_program" ["words"] (spEnds W)) : Mt P w K mg base CX0 8 L "gc_run" ["self", "skip", "most", "text"] (spRun K L M) := by
  obtain ⟨f, fd, hf, hi, F⟩ := F.ex
  refine ⟨f, fd, ⟨hf, hi, F.kp⟩, F.binds (ps := ["self", "skip", "most", "text"]) (fun _ _ _ _ _ _ us hl => match us, hl with | [_, _, _, _], _ => rfl), ?_⟩
  refine F.ok scRu (fun vs H Q E h => ?_) (fun cdv A outer s H vs Q E hr h => ?_)
  · obtain ⟨_, _, _, _, _, _, rfl, _⟩ := h
    rfl
  · obtain ⟨ml, ta, s, t, skip, most, rfl, hMi, hs, hS, hlen, kk⟩ := h
    obtain ⟨m, ⟨dx, fs, hm, hk, hlk⟩, hM⟩ := id hMi.ex
    obtain ⟨dm, fm, po, ol, pf, ps0, hmm, hf', hp⟩ := id hM
    refine ⟨_, pss_cons (ps_if (pw_or (pt_cmpR op_notIn_seq (pv 1) (pe_tupN (pa_cons pe_int (pa_cons pe_int pa_nil))) rfl) (pw_or (pt_cmpR op_lt (pv 2) pe_int (nomark _)) (pw_or1 (pt_cmpR op_gt (pv 2) (pgi T.mm_) (nomark _))))).pt (pss_one (ps_ret (pe_lstN (pa_cons (pe_un un_neg (pgi T.rr)) pa_nil)))) pss_nil)
      (pss_cons (ps_set (i := 4) scRu.nd rfl (Or.inl rfl) (pmeth0 (pe_fld (pv 0) rfl) TM'.cl GTw hr pass0))
      (pss_cons (ps_set (i := 5) scRu.nd rfl (Or.inl rfl) (pe_lstN (pa_cons pe_int pa_nil)))
      (pss_cons (ps_set (i := 6) scRu.nd rfl (Or.inl rfl) pe_int)
      (pss_cons (ps_for PassesOwn.never rfl (pi_list (pcall GSp hr pass0 (pa_cons (pv 3) pa_nil))) (pg_name (i := 7) scRu.nd rfl (Or.inl rfl))
        (pss_cons (ps_aug (i := 6) scRu.nd rfl (Or.inl rfl) pe_int ip_add)
        (pss_cons (ps_try (C := C) (th := tRet (tLstN (tCons (tUn (rU fun i => .int (-i)) (tVar 6)) tNil))) T.exc rfl rfl rfl
          (fun D xe pn hp => pss_cons (ps_set (i := 8) scRu.nd rfl (Or.inl rfl) (pcallS GRe hr hp (pa_cons (pcall GPa hr pass0 (pa_cons (pv 7) (pa_cons (pv 1) pa_nil))) pa_nil))) (pss_one (ps_set (i := 9) scRu.nd rfl (Or.inl rfl) (pcallS GLi hr hp (pa_cons (pv 4) (pa_cons (pv 8) pa_nil))))))
          (fun e => pss_one (ps_ret (pe_lstN (pa_cons (pe_un un_neg (pv 6)) pa_nil)))) (fun e => PassesOwnAt.never))
        (pss_cons (ps_augS (pv 5) pe_int get_list (pe_callB call_len_seq (by rfl) T.len b_len (pa_cons (pv 9) pa_nil)) ip_add set_list)
        (pss_cons (ps_if (pt_cmpR op_gt (pe_ix ix_list (pv 5) pe_int (fun _ _ => rfl)) (pv 2) (nomark _)) (pss_one (ps_ret (pe_lstN (pa_cons (pe_op op_sub (pe_un un_neg (pv 6)) (pgi T.mtm)) pa_nil)))) pss_nil)
        (pss_cons (ps_set (i := 10) scRu.nd rfl (Or.inl rfl) (pcall GNu hr pass0 (pa_cons (pv 9) pa_nil)))
        (pss_cons (ps_if (pt_val (pcall GLa hr pass0 (pa_cons (pv 10) pa_nil))) (pss_one (ps_ret (pe_lstN (pa_cons (pe_un un_neg (pv 6)) pa_nil)))) pss_nil)
        (pss_cons (ps_expr (pe_bm PySem.F.plainAttrs_list PySem.F.slot_list_extend PySem.F.type_list_extend mt_extend (pv 5) (pa_cons (pv 10) pa_nil)))
        (pss_one (ps_if (pt_val (pcall GEn hr pass0 (pa_cons (pv 8) pa_nil))) (pss_one ps_break) pss_nil))))))))))
      (pss_cons (ps_fldN (pv 0) (pv 4) rfl)
      (pss_one (ps_ret (pv 5)))))))), ?_⟩
    have refuse : ∀ (n : Int) (H1 : Hp), (Sz30.does s (.run t (t.length : Int) skip most)) = (s, Sz30.only n) → Same H H1 → ∀ n' : Int, n' = n → [V.int n'].length ≤ sizeLine ∧ ∀ (p : Addr) (H' : Hp), H1 p = none → H' p = some (.lst [V.int n']) → Same H1 H' → Q (.ref p) H' := by
      rintro n H1 e s1 n' rfl
      rw [e] at kk
      exact ⟨by show 1 ≤ sizeLine; decide, fun ll H2 n2 a2 s2 => kk ll H2 a2 (s1.free n2) (hMi.same (s1.trans s2)) fun b o hb _ => s2 _ _ (s1 b o hb)⟩
    have hd1 : (skip < 0 ∨ 1 < skip ∨ most < 0 ∨ 65536 < most) → (Sz30.does s (.run t (t.length : Int) skip most)) = (s, Sz30.only (-4000000)) := fun h => by
      unfold Sz30.does
      simp only
      rw [if_pos (by omega)]
    refine cont (Pv := fun σ H1 => ¬ (skip < 0 ∨ 1 < skip ∨ most < 0 ∨ 65536 < most) ∧ σ = [some (.ref ml), some (.int skip), some (.int most), some (.ref ta), none, none, none, none, none, none, none] ∧ Same H H1) ?_ ?_
    rotate_left
    · intro nx hnx
      refine ⟨_, rfl, by show 2 ≤ sizeLine; decide, fun tp H1 n1 a1 s1 => ⟨tp, _, rfl, .inr (SqT.of a1), rfl, rfl, _, rfl, ?_⟩⟩
      refine iteB (p := ¬ (skip = 0 ∨ skip = 1)) not2 (fun h => iteT ⟨_, rfl, refuse _ _ (hd1 (by omega)) s1 _ rfl⟩) (fun h01 => ?_)
      refine ⟨_, rfl, _, _, rfl, rfl, _, rfl, iteD (fun h => iteT ⟨_, rfl, refuse _ _ (hd1 (by omega)) s1 _ rfl⟩) (fun h2 => ?_)⟩
      refine ⟨_, rfl, _, _, rfl, rfl, _, rfl, iteD (fun h => ⟨_, rfl, refuse _ _ (hd1 (by omega)) s1 _ rfl⟩) (fun h3 => hnx _ _ ⟨by omega, rfl, s1⟩)⟩
    rintro σ H1 ⟨hgood, rfl, s1⟩
    have hd2 : (Sz30.does s (.run t (t.length : Int) skip most)) = match Sz30.program (skip == 1) most.toNat 1 { s with ended := false } (spl t) [] with
        | .ok r => (r.1, ⟨(r.2.length : Nat), r.2.flatten⟩)
        | .error i => (s, Sz30.only i) := by
      unfold Sz30.does
      simp only
      rw [if_neg (by omega), MW.prog_spl _ _ _ _ _ _ (SOk.ends hs false).mo (Nat.zero_le _)]
      rfl
    have hsk : (skip == 1) = decide (skip = 1) := rfl
    rw [hsk] at hd2
    generalize hfin : Sz30.program (decide (skip = 1)) most.toNat 1 { s with ended := false } (spl t) [] = fin at hd2
    refine ⟨_, rfl, ml, L, dx, fs, _, rfl, s1 _ _ hm, T'.cl, T'.ma, hlk, m, dm, fm, rfl, s1 _ _ hmm, lk_none hf'.keys (by decide +kernel), m, s, rfl, hM.same s1, fun tw H2 T2 s2 n2 => ?_⟩
    obtain ⟨dt, ft, ht2⟩ := T2.ins
    refine ⟨by show 1 ≤ sizeLine; decide, fun aw H3 n3 a3 s3 => ?_⟩
    have s03 := (s1.trans s2).trans s3
    have ftw : H tw = none := s1.free n2
    have faw : H aw = none := (s1.trans s2).free n3
    refine ⟨_, rfl, ta, t, rfl, s03.seq hS, hlen, fun ll ps H4 l4 lp4 le4 s4 fl4 fp4 => ?_⟩
    have ht4 := s4 _ _ (s3 _ _ ht2)
    have aw4 := s4 _ _ a3
    have T4 := T2.same (s3.trans s4)
    have s04 := s03.trans s4
    have n_lltw : ll ≠ tw := (ne_of_none (s3 _ _ ht2) fl4).symm
    have n_llaw : ll ≠ aw := (ne_of_none a3 fl4).symm
    have n_tw_aw : tw ≠ aw := ne_of ht4 aw4 (by intro z; cases z)
    have old : ∀ {H5 : Hp}, (∀ b o, H4 b = some o → b ≠ tw → b ≠ aw → H5 b = some o) → Same H H5 := fun fr b o hb => fr b o (s04 b o hb) (ne_of_none hb ftw) (ne_of_none hb faw)
    have post : ∀ (u : Sz30.St) (ms : List Mv) (v6 v7 v8 v9 v10 : Option V) (H5 : Hp), MAt M H5 tw u → H5 aw = some (.lst (iV ((ms.length : Int) :: ms.flatten))) → Same H H5 → fin = .ok (u, ms) →
        tSeq (sFldN K (tVar 0) (tVar 4) "machine") (tRet (tVar 5)) { nx := fun _ H' => Q .non H', rt := Q } [some (.ref ml), some (.int skip), some (.int most), some (.ref ta), some (.ref tw), some (.ref aw), v6, v7, v8, v9, v10] H5 := by
      intro u ms v6 v7 v8 v9 v10 H5 M5 A5 S5 e5
      rw [e5] at hd2
      rw [hd2] at kk
      have hm5 := S5 _ _ hm
      obtain ⟨dt5, ft5, ht5⟩ := M5.ins
      have ntm : tw ≠ ml := (ne_of_none hm ftw).symm
      refine ⟨_, rfl, _, rfl, ml, L, dx, fs, rfl, hm5, T'.cl, T'.ma, by rw [keys_len hk]; decide, fun H6 m6 k6 => ⟨_, rfl, ?_⟩⟩
      have nam : aw ≠ ml := (ne_of_none hm faw).symm
      refine kk aw H6 (k6 _ _ A5 nam) faw ⟨tw, ⟨dx, _, m6, keys_old hk, lk_eq⟩, M5.kp k6 hm5 ntm⟩ fun b o hb hpl => k6 _ _ (S5 b o hb) fun e => ?_
      rw [e, hm] at hb
      cases hb
      exact plain_ins hpl
    have hcnt : (spl t).length ≤ 16001 := by have := spl_count t; omega
    have hmost : (most.toNat : Int) = most := by omega
    refine ⟨ll, rfl, ⟨_, SqL.of l4⟩, for_list (K := K) (a := ll) (xs := ps.map fun p => V.ref p.1) (fun i σ H5 => ∃ (u : Sz30.St) (ms : List Mv) (v7 v8 v9 v10 : Option V), σ = [some (.ref ml), some (.int skip), some (.int most), some (.ref ta), some (.ref tw), some (.ref aw), some (.int (i : Int)), v7, v8, v9, v10] ∧
        RunI M H4 H5 (decide (skip = 1)) most.toNat (spl t) tw aw i u ms fin)
      ⟨{ s with ended := false }, [], none, none, none, none, rfl, fun b o hb _ _ => hb, T4.ended false, SOk.ends hs false, rfl, aw4, Nat.zero_le _, Nat.zero_le _, hfin⟩ (fun i σ H5 _ ⟨_, _, _, _, _, _, _, J⟩ => SqL.of (J.fr _ _ l4 n_lltw n_llaw)) ?_ ?_⟩
    rotate_left
    · rintro σ H5 ⟨u, ms, v7, v8, v9, v10, rfl, J⟩
      refine post u ms _ _ _ _ _ H5 J.ma J.an (old J.fr) ?_
      have := J.pr
      rw [List.length_map, ← List.length_map (f := (·.2)), le4, List.drop_length, MW.prog_nil] at this
      exact this.symm
    · rintro i y σ H5 hi ⟨u, ms, v7, v8, v9, v10, rfl, J⟩
      rw [List.getElem?_map] at hi
      obtain ⟨⟨pa, pt⟩, hp', rfl⟩ := Option.map_eq_some_iff.mp hi
      have hmem := List.mem_of_getElem? hp'
      have hpt : (spl t)[i]? = some pt := by rw [← le4, List.getElem?_map, hp']; rfl
      have hdrop : (spl t).drop i = pt :: (spl t).drop (i + 1) := by
        obtain ⟨q1, q2⟩ := List.getElem?_eq_some_iff.mp hpt
        rw [List.drop_eq_getElem_cons q1, q2]
      have hpl : pt.length ≤ 16000 := Nat.le_trans (spl_len t pt (List.mem_of_getElem? hpt)) hlen
      have hpr := J.pr
      rw [hdrop, MW.prog_step _ _ _ _ _ _ _ J.so.mo J.en J.ln] at hpr
      have lp5 : H5 pa = some (.lst (bV pt)) := J.fr _ _ (lp4 _ hmem) (ne_of_none (s3 _ _ ht2) (fp4 _ hmem)).symm (ne_of_none a3 (fp4 _ hmem)).symm
      refine ⟨_, rfl, _, _, rfl, rfl, ?_⟩
      have cant : ∀ (H6 : Hp) (v8 v9 v10 : Option V), MW.lineOf (decide (skip = 1)) u pt = none → Same H H6 → ∀ D : Ends, D.rt = Q → tRet (tLstN (tCons (tUn (rU fun i => .int (-i)) (tVar 6)) tNil)) D [some (.ref ml), some (.int skip), some (.int most), some (.ref ta), some (.ref tw), some (.ref aw), some (.int ((i : Int) + 1)), some (.ref pa), v8, v9, v10] H6 := by
        intro H6 v8 v9 v10 hn s6 D hD
        rw [hn] at hpr
        simp only at hpr
        rw [← hpr] at hd2
        refine ⟨_, rfl, _, rfl, ?_⟩
        rw [hD]
        exact refuse _ H6 hd2 s6 _ (by omega)
      refine ⟨_, rfl, _, rfl, pa, pt, skip, rfl, SqL.of lp5, fun b H6 hb s6 => ?_⟩
      have S5 := old J.fr
      refine ⟨b, _, rfl, hb, Nat.le_trans (part_len _ _) hpl, fun l hl wd nd cd H7 W7 s7 => ?_, fun hn H7 s7 => cant H7 _ _ _ (lineOf_none hn) (S5.trans (s6.trans s7)) _ rfl⟩
      have s57 := s6.trans s7
      obtain ⟨hWB, hval⟩ := MW.rd_WB hl
      have hline := lineOf_some J.so.mo hl
      have T7 := J.ma.same s57
      obtain ⟨d7, f7, ht7⟩ := T7.ins
      have aw7 := s57 _ _ J.an
      have nwt : wd ≠ tw := mw_ne W7 T7
      refine ⟨_, rfl, _, rfl, tw, wd, nd, cd, u, l, rfl, T7, W7, J.so, hWB, fun r hr' lm H8 L8 M8 k8 f8 => ?_, fun hn H8 k8 => cant H8 _ _ _ (by rw [hline, hn]; rfl) (fun c o hc => k8 c o (S5.trans s57 c o hc) (ne_of_none hc ftw)) _ rfl⟩
      rw [hline, hr'] at hpr
      simp only [Option.map_some] at hpr
      have aw8 := k8 _ _ aw7 n_tw_aw.symm
      have nlm : lm ≠ aw := (ne_of_none aw7 f8).symm
      obtain ⟨pl8, y8, _, y8c⟩ := id L8.ex
      have ylen : (pl8.map fun p => V.ref p.1).length = r.2.length := by rw [List.length_map, ← y8c, List.length_map]
      have fr8 : ∀ b o, H4 b = some o → b ≠ tw → b ≠ aw → H8 b = some o := fun c o hc h1 h2 => k8 c o (s57 _ _ (J.fr c o hc h1 h2)) h1
      refine ⟨_, rfl, aw, _, 0, 0, _, rfl, rfl, SqL.of aw8, rfl, rfl, _, rfl, lm, _, rfl, .inl (SqL.of y8), _, _, rfl, rfl, aw, _, 0, 0, rfl, rfl, aw8, ?_, ?_⟩
      · unfold iV ixN
        rw [List.map_cons, List.length_cons, if_pos (by decide), if_pos (by omega)]
        rfl
      rw [ylen]
      have A9 : (upd H8 aw (.lst ((iV ((ms.length : Int) :: ms.flatten)).set 0 (.int ((ms.length : Int) + (r.2.length : Int)))))) aw = some (.lst (iV (((ms ++ r.2).length : Int) :: ms.flatten))) := by
        rw [upd_same, List.length_append]
        rfl
      have M9 : MAt M (upd H8 aw (.lst ((iV ((ms.length : Int) :: ms.flatten)).set 0 (.int ((ms.length : Int) + (r.2.length : Int)))))) tw r.1 := M8.updA (by intro a z; cases z) aw8
      have L9 : LsAt (upd H8 aw (.lst ((iV ((ms.length : Int) :: ms.flatten)).set 0 (.int ((ms.length : Int) + (r.2.length : Int)))))) lm r.2 := L8.updO aw8 nlm
      have W9 : WAt W (upd H8 aw (.lst ((iV ((ms.length : Int) :: ms.flatten)).set 0 (.int ((ms.length : Int) + (r.2.length : Int)))))) wd nd cd l := (W7.kp k8 ht7 nwt).updL aw8
      have fr9 : ∀ b o, H4 b = some o → b ≠ tw → b ≠ aw → (upd H8 aw (.lst ((iV ((ms.length : Int) :: ms.flatten)).set 0 (.int ((ms.length : Int) + (r.2.length : Int)))))) b = some o := fun c o hc h1 h2 => by rw [upd_ne h2]; exact fr8 c o hc h1 h2
      revert A9 M9 L9 W9 fr9
      generalize upd H8 aw (.lst ((iV ((ms.length : Int) :: ms.flatten)).set 0 (.int ((ms.length : Int) + (r.2.length : Int))))) = H9
      intro A9 M9 L9 W9 fr9
      have S9 := old fr9
      refine ⟨_, rfl, aw, _, _, _, rfl, rfl, SqL.of A9, atI_nat (j := 0) rfl, _, rfl, _, _, rfl, rfl, _, rfl, ?_⟩
      refine iteD (fun hmo => ?_) (fun hmo => ?_)
      · rw [if_pos (by rw [List.length_append] at hmo; omega)] at hpr
        rw [← hpr] at hd2
        exact ⟨_, rfl, _, rfl, _, _, rfl, rfl, refuse _ H9 hd2 S9 _ (by show (-((i : Int) + 1) - 2000000 : Int) = -((i + 1 : Nat) : Int) - 2000000; omega)⟩
      have hle : (ms ++ r.2).length ≤ most.toNat := by omega
      have hle2 := hle
      rw [List.length_append] at hle2
      rw [if_neg (by omega)] at hpr
      have h8 := do8 hr'
      refine ⟨_, rfl, lm, r.2, rfl, L9, by omega, fun ln H10 a10 s10 n10 => ?_⟩
      refine ⟨_, rfl, ln, r.2.flatten, rfl, SqL.of a10, _, rfl, ?_⟩
      rw [← big_lg]
      have S10 := S9.trans s10
      cases hbig : big r.2 with
      | true =>
        rw [hbig, if_pos rfl] at hpr
        rw [← hpr] at hd2
        exact iteT ⟨_, rfl, _, rfl, refuse _ H10 hd2 S10 _ (by show (-((i : Int) + 1) : Int) = -((i + 1 : Nat) : Int); omega)⟩
      | false =>
        rw [hbig, if_neg (by decide)] at hpr
        refine iteF ?_
        have A10 := s10 _ _ A9
        have nln : ln ≠ aw := (ne_of_none A9 n10).symm
        have hw8 : (ms ++ r.2).flatten.length ≤ 8 * (ms ++ r.2).length := by
          have := J.w8
          rw [List.flatten_append, List.length_append, List.length_append]
          omega
        refine ⟨_, rfl, .inl ⟨rfl, _, SqL.of A10⟩, _, rfl, aw, ln, _, _, rfl, rfl, A10, a10, ?_, ?_⟩
        · unfold iV
          rw [List.length_map, List.length_map, List.length_cons]
          rw [List.flatten_append, List.length_append] at hw8
          show _ ≤ 16777216
          omega
        have A11 : (upd H10 aw (.lst (iV (((ms ++ r.2).length : Int) :: ms.flatten) ++ iV r.2.flatten))) aw = some (.lst (iV (((ms ++ r.2).length : Int) :: (ms ++ r.2).flatten))) := by
          rw [upd_same]
          unfold iV
          rw [List.map_cons, List.map_cons, List.flatten_append, List.map_append]
          rfl
        have M11 : MAt M (upd H10 aw (.lst (iV (((ms ++ r.2).length : Int) :: ms.flatten) ++ iV r.2.flatten))) tw r.1 := (M9.same s10).updA (by intro a z; cases z) A10
        have W11 : WAt W (upd H10 aw (.lst (iV (((ms ++ r.2).length : Int) :: ms.flatten) ++ iV r.2.flatten))) wd nd cd l := (W9.same s10).updL A10
        have fr11 : ∀ b o, H4 b = some o → b ≠ tw → b ≠ aw → (upd H10 aw (.lst (iV (((ms ++ r.2).length : Int) :: ms.flatten) ++ iV r.2.flatten))) b = some o := fun c o hc h1 h2 => by rw [upd_ne h2]; exact s10 _ _ (fr9 c o hc h1 h2)
        revert A11 M11 W11 fr11
        generalize upd H10 aw (.lst (iV (((ms ++ r.2).length : Int) :: ms.flatten) ++ iV r.2.flatten)) = H11
        intro A11 M11 W11 fr11
        have hso := J.so.doM hWB hr' hbig
        refine ⟨_, rfl, wd, nd, cd, l, rfl, W11, fun H12 s12 => ⟨_, rfl, ?_⟩⟩
        have A12 := s12 _ _ A11
        have M12 := M11.same s12
        have fr12 : ∀ b o, H4 b = some o → b ≠ tw → b ≠ aw → H12 b = some o := fun c o hc h1 h2 => s12 _ _ (fr11 c o hc h1 h2)
        cases hen : endsM l with
        | true =>
          rw [hen] at hpr
          simp only [if_true] at hpr
          rw [MW.prog_ended _ _ _ _ _ _ rfl] at hpr
          exact iteT (post { r.1 with ended := true } (ms ++ r.2) _ _ _ _ _ H12 (M12.ended true) A12 (old fr12) hpr.symm)
        | false =>
          rw [hen] at hpr
          simp only [Bool.false_eq_true, if_false] at hpr
          exact iteF ⟨r.1, ms ++ r.2, _, _, _, _, rfl, fr12, M12, hso, (do_ended hr').trans J.en, A12, hle, hw8, hpr⟩
end
end MV
set_option maxRecDepth 100000
set_option maxHeartbeats 2000000
namespace MV
open PySem L2
seal L2.PE L2.PA L2.PS L2.PSs L2.PT L2.PW L2.PC L2.PI L2.PG L2.PO
open Sz30 (Bytes Word axis)
open MW (SOk WB IB PB big spl part rd doM endsM byteL calls' left)
theorem lineOf_SOk {sk : Bool} {s : Sz30.St} {t : Bytes} {x : Sz30.St × List Mv} (hs : SOk s) (h : MW.lineOf sk s t = some x) (hb : big x.2 = false) : SOk x.1 := by
  cases hr : rd [] (part sk t) with
  | none => rw [lineOf_none hr] at h; cases h
  | some l =>
    rw [lineOf_some hs.mo hr] at h
    obtain ⟨r, hr', rfl⟩ := Option.map_eq_some_iff.mp h
    have := hs.doM (MW.rd_WB hr).1 hr' hb
    simp only
    split
    · exact SOk.ends this true
    · exact this
theorem prog_SOk (sk : Bool) (most : Nat) : ∀ (ls : List Bytes) (i : Nat) (s : Sz30.St) (ms : List Mv) (r : Sz30.St × List Mv), SOk s → ms.length ≤ most → Sz30.program sk most i s ls ms = .ok r → SOk r.1
  | [], i, s, ms, r, hs, _, h => by
    rw [MW.prog_nil] at h
    cases h
    exact hs
  | t :: q, i, s, ms, r, hs, hl, h => by
    cases he : s.ended with
    | true =>
      rw [MW.prog_ended _ _ _ _ _ _ he] at h
      cases h
      exact hs
    | false =>
      rw [MW.prog_step _ _ _ _ _ _ _ hs.mo he hl] at h
      cases hx : MW.lineOf sk s t with
      | none => rw [hx] at h; cases h
      | some x =>
        rw [hx] at h
        simp only at h
        split at h
        · cases h
        · split at h
          · cases h
          · rename_i h1 h2
            exact prog_SOk sk most q (i + 1) x.1 (ms ++ x.2) r (lineOf_SOk hs hx (by simpa using h2)) (by rw [List.length_append]; omega) h
theorem run_SOk {s : Sz30.St} (hs : SOk s) (t : Bytes) (n skip most : Int) : SOk (Sz30.does s (.run t n skip most)).1 := by
  unfold Sz30.does
  simp only
  split
  · exact hs
  · split
    · rename_i r hr
      exact prog_SOk _ _ _ _ _ _ r (SOk.ends hs false) (Nat.zero_le _) hr
    · exact hs
theorem origin_SOk {s : Sz30.St} (hs : SOk s) (k x y z : Int) : SOk (Sz30.does s (.origin k [x, y, z])).1 := by
  unfold Sz30.does
  simp only
  split
  · exact hs
  · rename_i h
    have hsm : Sz30.small [x, y, z] = true := by
      cases q : Sz30.small [x, y, z] with
      | true => rfl
      | false => exact absurd (.inr (.inr q)) h
    unfold Sz30.small at hsm
    simp only [List.all_cons, List.all_nil, Bool.and_true, Bool.and_eq_true, decide_eq_true_eq] at hsm
    refine ⟨hs.mo, hs.pl, hs.og, by rw [List.length_set]; exact hs.ol, hs.ab, hs.ob, fun p hp => ?_⟩
    rcases List.mem_or_eq_of_mem_set hp with hp | rfl
    · exact hs.rb p hp
    · exact ⟨⟨hsm.1.1, hsm.1.2⟩, ⟨hsm.2.1.1, hsm.2.1.2⟩, ⟨hsm.2.2.1, hsm.2.2.2⟩⟩
theorem iV_len (ns : List Int) : (iV ns).length = ns.length := List.length_map ..
theorem iV_at {ns : List Int} {j : Nat} {n z : Int} (h : ns[j]? = some n) (e : z = (j : Int)) : atI (iV ns) z = some (V.int n) := by
  refine at_of e ?_
  unfold iV
  rw [List.getElem?_map, h]
  rfl
theorem cutI (ns : List Int) (i j : Nat) (h : i ≤ j) (hj : j ≤ ns.length) : cutV (iV ns) (some (i : Int)) (some (j : Int)) = iV ((ns.drop i).take (j - i)) := by
  unfold cutV
  rw [HT.sIx_nat, HT.sIx_nat, iV_len, Nat.min_eq_left hj, Nat.min_eq_left (Nat.le_trans h hj)]
  unfold iV
  rw [← List.map_drop, ← List.map_take]
theorem drop_at {ns : List Int} {i j : Nat} {q : List Int} (h : ns.drop i = q) : ns[i + j]? = q[j]? := by rw [← h, List.getElem?_drop]
theorem drop0 {ns : List Int} {i : Nat} {p : Int} {q : List Int} (h : ns.drop i = p :: q) : ns[i]? = some p := drop_at (j := 0) h
theorem Ans.same {L M ml : Addr} {H H1 : Hp} {s : Sz30.St} {xs : List Int} {Q : VK} (h : Ans L M ml H s xs Q) (k : Same H H1) : Ans L M ml H1 s xs Q :=
  fun ll H' a n m f => h ll H' a (k.free n) m fun b o hb hp => f b o (k b o hb) hp
section
variable {P : Program} {w : World} {K : PySem.W.Frag} {mg : Str → Option Value} {base : Heap} {C M W L : Addr}
def spPast (K : PySem.W.Frag) : Sp := fun vs H Q _ => ∃ (a : Addr) (ns : List Int) (i : Nat) (c : Int), vs = [.ref a, .int (i : Int)] ∧ SqL K H a (iV ns) ∧ ns[i]? = some c ∧
  (c = 2 → ∃ n, ns[i + 2]? = some n ∧ Q (.int ((i : Int) + 3 + n)) H) ∧ (c = 3 → ∃ n, ns[i + 3]? = some n ∧ Q (.int ((i : Int) + 4 + n)) H) ∧ (¬ c = 2 → ¬ c = 3 → Q (.int ((i : Int) + 1)) H)
theorem scPC : FnScope ["calls", "at"] ["calls", "at"] (defScope (top 88)) := ⟨rfl, rfl, rfl, by decide +kernel, rfl, by decide +kernel, by decide +kernel⟩
theorem ok_past (F : Wr K mg "past_call" (top 88)) (T : Tx K mg C) : Fn P w K mg base CX0 1 "past_call" ["calls", "at"] (spPast K) := by
  obtain ⟨f, fd, hm, F⟩ := F.ex
  refine ⟨f, fd, hm, F.kp, F.binds (ps := ["calls", "at"]) (fun _ _ _ _ _ _ us hl => match us, hl with | [_, _], _ => rfl), ?_⟩
  refine F.ok scPC (fun vs H Q E h => ?_) (fun cdv A outer s H vs Q E hr h => ?_)
  · obtain ⟨_, _, _, _, rfl, _⟩ := h
    rfl
  · obtain ⟨a, ns, i, c, rfl, hS, hc, k2, k3, k1⟩ := h
    refine ⟨_, pss_cons (ps_if (pt_cmpR op_eq (pe_ix ix_list (pv 0) (pv 1) (fun _ _ => rfl)) (pgi T.origin) (nomark _)) (pss_one (ps_ret (pe_op op_add (pe_op op_add (pv 1) pe_int) (pe_ix ix_list (pv 0) (pe_op op_add (pv 1) pe_int) (fun _ _ => rfl))))) pss_nil)
      (pss_cons (ps_if (pt_cmpR op_eq (pe_ix ix_list (pv 0) (pv 1) (fun _ _ => rfl)) (pgi T.run) (nomark _)) (pss_one (ps_ret (pe_op op_add (pe_op op_add (pv 1) pe_int) (pe_ix ix_list (pv 0) (pe_op op_add (pv 1) pe_int) (fun _ _ => rfl))))) pss_nil)
      (pss_one (ps_ret (pe_op op_add (pv 1) pe_int)))), ?_⟩
    refine ⟨_, rfl, _, rfl, a, _, _, _, rfl, rfl, hS, iV_at hc rfl, rfl, _, rfl, iteB (p := c = 2) eqI (fun h => ?_) (fun h2 => ?_)⟩
    · obtain ⟨n, hn, q⟩ := k2 h
      exact ⟨_, rfl, _, _, rfl, rfl, _, rfl, _, rfl, _, _, rfl, rfl, a, _, _, _, rfl, rfl, hS, iV_at hn (by show (i : Int) + 2 = _; omega), _, _, rfl, rfl, q⟩
    · refine ⟨_, rfl, _, rfl, a, _, _, _, rfl, rfl, hS, iV_at hc rfl, rfl, _, rfl, iteB (p := c = 3) eqI (fun h => ?_) (fun h3 => ?_)⟩
      · obtain ⟨n, hn, q⟩ := k3 h
        exact ⟨_, rfl, _, _, rfl, rfl, _, rfl, _, rfl, _, _, rfl, rfl, a, _, _, _, rfl, rfl, hS, iV_at hn (by show (i : Int) + 3 = _; omega), _, _, rfl, rfl, q⟩
      · exact ⟨_, rfl, _, _, rfl, rfl, k1 h2 h3⟩
def CallAt (ns : List Int) (i : Nat) (c : List (List Int)) (j : Nat) : Prop :=
  (c = [[1]] ∧ ns[i]? = some 1 ∧ j = i + 1) ∨ (∃ k x y z t, c = [[2, k], [x, y, z]] ∧ ns.drop i = 2 :: k :: 3 :: x :: y :: z :: t ∧ j = i + 6) ∨
  (∃ skip most txt t, c = [[3, skip, most], txt] ∧ byteL txt ∧ ns.drop i = 3 :: skip :: most :: (txt.length : Int) :: (txt ++ t) ∧ j = i + 4 + txt.length) ∨ (c = [[4]] ∧ ns[i]? = some 4 ∧ j = i + 1)
def spCall (K : PySem.W.Frag) (L M : Addr) : Sp := fun vs H Q _ => ∃ (ml a : Addr) (s : Sz30.St) (ns : List Int) (i j : Nat) (c : List (List Int)), vs = [.ref ml, .ref a, .int (i : Int)] ∧ MillAt L M H ml s ∧ SOk s ∧ SqL K H a (iV ns) ∧ ns.length ≤ 16000 ∧ CallAt ns i c j ∧
  Ans L M ml H (Sz30Neutral.step s (PySz30.whole c)).1 (Sz30Neutral.step s (PySz30.whole c)).2 Q
theorem scAC : FnScope ["mill", "calls", "at"] ["mill", "calls", "at"] (defScope (top 87)) := ⟨rfl, rfl, rfl, by decide +kernel, rfl, by decide +kernel, by decide +kernel⟩
theorem ok_call (F : Wr K mg "answer_of_call" (top 87)) (T : Tx K mg C) (T' : TL K L) (GC : Mt P w K mg base CX0 4 L "gc_clear" ["self"] (spClear L M)) (GO : Mt P w K mg base CX0 1 L "gc_origin" ["self", "k", "p"] (spOrig K L M)) (GR : Mt P w K mg base CX0 8 L "gc_run" ["self", "skip", "most", "text"] (spRun K L M))
    (GP : Mt P w K mg base CX0 1 L "gc_place" ["self"] (spPlace L M)) (GPa : Fn P w K mg base CX0 1 "past_call" ["calls", "at"] (spPast K)) : Fn P w K mg base CX0 9 "answer_of_call" ["mill", "calls", "at"] (spCall K L M) := by
  obtain ⟨f, fd, hm, F⟩ := F.ex
  refine ⟨f, fd, hm, F.kp, F.binds (ps := ["mill", "calls", "at"]) (fun _ _ _ _ _ _ us hl => match us, hl with | [_, _, _], _ => rfl), ?_⟩
  refine F.ok scAC (fun vs H Q E h => ?_) (fun cdv A outer s H vs Q E hr h => ?_)
  · obtain ⟨_, _, _, _, _, _, _, rfl, _⟩ := h
    rfl
  · obtain ⟨ml, a, s, ns, i, j, c, rfl, hMi, hs, hS, hlen, hC, kk⟩ := h
    obtain ⟨m, ⟨dx, fs, hm, hk, hlk⟩, hM⟩ := id hMi.ex
    refine ⟨_, pss_cons (ps_if (pt_cmpR op_eq (pe_ix ix_list (pv 1) (pv 2) (fun _ _ => rfl)) (pgi T.clear) (nomark _)) (pss_one (ps_ret (pmeth0 (pv 0) T'.cl GC hr pass0))) pss_nil)
      (pss_cons (ps_if (pt_cmpR op_eq (pe_ix ix_list (pv 1) (pv 2) (fun _ _ => rfl)) (pgi T.origin) (nomark _)) (pss_one (ps_ret (pmeth (pv 0) T'.cl GO hr pass0 (pa_cons (pe_ix ix_list (pv 1) (pe_op op_add (pv 2) pe_int) (fun _ _ => rfl))
        (pa_cons (pe_slice sl_listN (pv 1) (po_some (pe_op op_add (pv 2) pe_int)) (po_some (pcall GPa hr pass0 (pa_cons (pv 1) (pa_cons (pv 2) pa_nil))))) pa_nil))))) pss_nil)
      (pss_cons (ps_if (pt_cmpR op_eq (pe_ix ix_list (pv 1) (pv 2) (fun _ _ => rfl)) (pgi T.run) (nomark _)) (pss_one (ps_ret (pmeth (pv 0) T'.cl GR hr pass0 (pa_cons (pe_ix ix_list (pv 1) (pe_op op_add (pv 2) pe_int) (fun _ _ => rfl)) (pa_cons (pe_ix ix_list (pv 1) (pe_op op_add (pv 2) pe_int) (fun _ _ => rfl))
        (pa_cons (pe_slice sl_listN (pv 1) (po_some (pe_op op_add (pv 2) pe_int)) (po_some (pcall GPa hr pass0 (pa_cons (pv 1) (pa_cons (pv 2) pa_nil))))) pa_nil)))))) pss_nil)
      (pss_one (ps_ret (pmeth0 (pv 0) T'.cl GP hr pass0))))), ?_⟩
    have lkn : ∀ {z : Str}, (z ∉ (["machine"] : List Str)) → fs.lookup z = none := fun h => lk_none hk h
    obtain ⟨c0, hc0⟩ : ∃ c0, ns[i]? = some c0 := by
      rcases hC with ⟨_, h, _⟩ | ⟨k, x, y, z, t, _, h, _⟩ | ⟨sk, mo, txt, t, _, _, h, _⟩ | ⟨_, h, _⟩
      · exact ⟨_, h⟩
      · exact ⟨2, drop_at (j := 0) h⟩
      · exact ⟨3, drop_at (j := 0) h⟩
      · exact ⟨_, h⟩
    refine ⟨_, rfl, _, rfl, a, _, _, _, rfl, rfl, hS, iV_at hc0 rfl, rfl, _, rfl, iteB (p := c0 = 1) eqI (fun h1 => ?_) (fun n1 => ?_)⟩
    · subst h1
      rcases hC with ⟨rfl, h, _⟩ | ⟨k, x, y, z, t, _, h, _⟩ | ⟨sk, mo, txt, t, _, _, h, _⟩ | ⟨_, h, _⟩
      · exact ⟨_, rfl, ml, dx, fs, rfl, hm, lkn (by decide +kernel), ml, s, rfl, hMi, kk⟩
      · rw [drop0 h] at hc0; cases hc0
      · rw [drop0 h] at hc0; cases hc0
      · rw [h] at hc0; cases hc0
    refine ⟨_, rfl, _, rfl, a, _, _, _, rfl, rfl, hS, iV_at hc0 rfl, rfl, _, rfl, iteB (p := c0 = 2) eqI (fun h2 => ?_) (fun n2 => ?_)⟩
    · subst h2
      rcases hC with ⟨rfl, h, _⟩ | ⟨k, x, y, z, t, rfl, h, _⟩ | ⟨sk, mo, txt, t, _, _, h, _⟩ | ⟨_, h, _⟩
      · rw [h] at hc0; cases hc0
      · have hl : 6 ≤ (ns.drop i).length := by rw [h]; simp
        rw [List.length_drop] at hl
        refine ⟨_, rfl, ml, dx, fs, rfl, hm, lkn (by decide +kernel), _, rfl, _, rfl, _, _, rfl, rfl, a, _, _, _, rfl, rfl, hS, iV_at (drop_at (j := 1) h) (by show (i : Int) + 1 = _; omega), _, rfl, _, rfl, _, _, rfl, rfl, _, rfl,
          _, rfl, _, rfl, a, ns, i, 2, rfl, hS, hc0, fun _ => ⟨3, drop_at (j := 2) h, _, rfl, a, _, rfl, hS, fun pa H1 np ap sp => ?_⟩, (fun z => by cases z), fun z => absurd rfl z⟩
        have e : cutV (iV ns) (some ((i : Int) + 3)) (some ((i : Int) + 3 + 3)) = iV [x, y, z] := by
          have := cutI ns (i + 3) (i + 6) (by omega) (by omega)
          rw [show ((i + 3 : Nat) : Int) = (i : Int) + 3 by omega, show ((i + 6 : Nat) : Int) = (i : Int) + 3 + 3 by omega] at this
          rw [this, show i + 6 - (i + 3) = 3 by omega, ← List.drop_drop, h]
          rfl
        have ap : H1 pa = some (.lst (iV [x, y, z])) := by rw [← e]; exact ap
        exact ⟨ml, pa, s, k, x, y, z, rfl, hMi.same sp, hs.ol, SqL.of ap, kk.same sp⟩
      · rw [drop0 h] at hc0; cases hc0
      · rw [h] at hc0; cases hc0
    refine ⟨_, rfl, _, rfl, a, _, _, _, rfl, rfl, hS, iV_at hc0 rfl, rfl, _, rfl, iteB (p := c0 = 3) eqI (fun h3 => ?_) (fun n3 => ?_)⟩
    · subst h3
      rcases hC with ⟨rfl, h, _⟩ | ⟨k, x, y, z, t, rfl, h, _⟩ | ⟨sk, mo, txt, t, rfl, hby, h, _⟩ | ⟨_, h, _⟩
      · rw [h] at hc0; cases hc0
      · rw [drop0 h] at hc0; cases hc0
      · have hl : 4 + txt.length ≤ (ns.drop i).length := by rw [h]; simp; omega
        rw [List.length_drop] at hl
        refine ⟨_, rfl, ml, dx, fs, rfl, hm, lkn (by decide +kernel), _, rfl, _, rfl, _, _, rfl, rfl, a, _, _, _, rfl, rfl, hS, iV_at (drop_at (j := 1) h) (by show (i : Int) + 1 = _; omega), _, rfl, _, rfl, _, _, rfl, rfl, a, _, _, _, rfl, rfl, hS, iV_at (drop_at (j := 2) h) (by show (i : Int) + 2 = _; omega),
          _, rfl, _, rfl, _, _, rfl, rfl, _, rfl, _, rfl, _, rfl, a, ns, i, 3, rfl, hS, hc0, (fun z => by cases z), (fun _ => ⟨(txt.length : Int), drop_at (j := 3) h, _, rfl, a, _, rfl, hS, fun pa H1 np ap sp => ?_⟩), fun _ z => absurd rfl z⟩
        have e : cutV (iV ns) (some ((i : Int) + 4)) (some ((i : Int) + 4 + (txt.length : Int))) = bV (Sz30Neutral.octets txt) := by
          have := cutI ns (i + 4) (i + 4 + txt.length) (by omega) (by omega)
          rw [show ((i + 4 : Nat) : Int) = (i : Int) + 4 by omega, show ((i + 4 + txt.length : Nat) : Int) = (i : Int) + 4 + (txt.length : Int) by omega] at this
          rw [this, Nat.add_sub_cancel_left, ← List.drop_drop, h]
          show iV ((txt ++ t).take txt.length) = _
          rw [List.take_left]
          conv => lhs; rw [MW.octets_ints hby]
          unfold iV bV
          rw [List.map_map]
          rfl
        have ap : H1 pa = some (.lst (bV (Sz30Neutral.octets txt))) := by rw [← e]; exact ap
        have hol : (Sz30Neutral.octets txt).length = txt.length := by unfold Sz30Neutral.octets; rw [List.length_map]
        refine ⟨ml, pa, s, Sz30Neutral.octets txt, sk, mo, rfl, hMi.same sp, hs, SqL.of ap, by omega, ?_⟩
        rw [MW.step_run] at kk
        rw [hol]
        exact kk.same sp
      · rw [h] at hc0; cases hc0
    · rcases hC with ⟨rfl, h, _⟩ | ⟨k, x, y, z, t, rfl, h, _⟩ | ⟨sk, mo, txt, t, rfl, hby, h, _⟩ | ⟨rfl, h, _⟩
      · rw [h] at hc0; cases hc0; exact absurd rfl n1
      · rw [drop0 h] at hc0; cases hc0; exact absurd rfl n2
      · rw [drop0 h] at hc0; cases hc0; exact absurd rfl n3
      · exact ⟨_, rfl, ml, dx, fs, rfl, hm, lkn (by decide +kernel), ml, s, rfl, hMi, kk⟩
def CAt (K : PySem.W.Frag) (H : Hp) (a : Addr) (xs : List V) : Prop := (∃ o, H a = some (.frz o (.lst xs))) ∨
  ∃ (o : Obj) (its : Array Value) (n : Nat), K.lookup a = some o ∧ o.cls = .type "list" ∧ o.dict = none ∧ o.data = .seq its n ∧ its.size ≤ sizeLine ∧ Vals xs its.toList
theorem CAt.sq {K : PySem.W.Frag} {H : Hp} {a : Addr} {xs : List V} (h : CAt K H a xs) : SqL K H a xs := by
  rcases h with ⟨o, h⟩ | h
  · exact .inl (.inr ⟨o, h⟩)
  · exact .inr h
theorem CAt.fr {K : PySem.W.Frag} {H H' : Hp} {a : Addr} {xs : List V} (h : CAt K H a xs) (f : ∀ b o, H b = some o → Plain o → H' b = some o) : CAt K H' a xs := by
  rcases h with ⟨o, h⟩ | h
  · exact .inl ⟨o, f _ _ h (.inr ⟨o, _, rfl⟩)⟩
  · exact .inr h
def spAnswers (K : PySem.W.Frag) : Sp := fun vs H Q _ => ∃ (a : Addr) (ns : List Int), vs = [.ref a] ∧ CAt K H a (iV ns) ∧ ns.length ≤ 16000 ∧ PySz30.answers_asked ns = true ∧ ∀ (g : Addr) (H' : Hp), H' g = some (.lst (iV (PySz30.answers ns))) → Q (.ref g) H'
theorem scAn : FnScope ["calls", "mill", "given", "at", "answer"] ["calls"] (defScope (top 86)) := ⟨rfl, rfl, rfl, by decide +kernel, rfl, by decide +kernel, by decide +kernel⟩
structure AnI (K : PySem.W.Frag) (L M : Addr) (H1 : Hp) (ns : List Int) (a ml g : Addr) (j : Nat) (s : Sz30.St) (gl : List Int) : Prop where
  le : j ≤ ns.length
  mi : MillAt L M H1 ml s
  so : SOk s
  ca : CAt K H1 a (iV ns)
  gi : H1 g = some (.lst (iV gl))
  pr : ∃ f cs, calls' f (ns.drop j) = some cs ∧ (cs.map PySz30.whole).all Sz30Neutral.asked1 = true ∧ gl ++ left s cs = PySz30.answers ns
theorem ok_answers {f : Addr} {fd : FuncData} (F : Fun K "answers" "answers" (top 86) f fd) (T : Tx K mg C) (GMi : In P w K mg base CX0 4 L "Mill" ["self"] (spMillInit L M)) (GA : Fn P w K mg base CX0 9 "answer_of_call" ["mill", "calls", "at"] (spCall K L M)) (GP : Fn P w K mg base CX0 1 "past_call" ["calls", "at"] (spPast K)) :
    FnOk P w K mg base CX0 10 f fd ["calls"] (spAnswers K) := by
  refine F.ok scAn (fun vs H Q E h => ?_) (fun cdv A outer s H vs Q E hr h => ?_)
  · obtain ⟨_, _, rfl, _⟩ := h
    rfl
  · obtain ⟨a, ns, rfl, hCa, hlen, hask, k⟩ := h
    obtain ⟨cs0, hc0, ha0, he0, hl0, _⟩ := MW.asked_parts hask
    refine ⟨_, pss_cons (ps_set (i := 1) scAn.nd rfl (Or.inl rfl) (pmake0 GMi hr pass0)) (pss_cons (ps_set (i := 2) scAn.nd rfl (Or.inl rfl) (pe_lstN pa_nil)) (pss_cons (ps_set (i := 3) scAn.nd rfl (Or.inl rfl) pe_int)
      (pss_cons (ps_while PassesOwn.never (pt_cmpR op_lt (pv 3) (pe_callB call_len_seq (by rfl) T.len b_len (pa_cons (pv 0) pa_nil)) (nomark _))
        (pss_cons (ps_set (i := 4) scAn.nd rfl (Or.inl rfl) (pcall GA hr pass0 (pa_cons (pv 1) (pa_cons (pv 0) (pa_cons (pv 3) pa_nil)))))
        (pss_cons (ps_expr (pe_bm PySem.F.plainAttrs_list PySem.F.slot_list_append PySem.F.type_list_append mt_append (pv 2) (pa_cons (pe_callB call_len_seq (by rfl) T.len b_len (pa_cons (pv 4) pa_nil)) pa_nil)))
        (pss_cons (ps_expr (pe_bm PySem.F.plainAttrs_list PySem.F.slot_list_extend PySem.F.type_list_extend mt_extend (pv 2) (pa_cons (pv 4) pa_nil)))
        (pss_one (ps_set (i := 3) scAn.nd rfl (Or.inl rfl) (pcall GP hr pass0 (pa_cons (pv 0) (pa_cons (pv 3) pa_nil)))))))))
      (pss_one (ps_ret (pv 2)))))), ?_⟩
    intro ml dl n1 n2 n3
    refine ⟨ml, dl, rfl, upd_same, fun H1 M1 kp => ⟨rfl, ?_⟩⟩
    have s1 : Same H H1 := Same.made n1 n2 kp
    refine ⟨by show 0 ≤ sizeLine; decide, fun g H2 ng ag s2 => ?_⟩
    have fr2 : ∀ b o, H b = some o → Plain o → H2 b = some o := fun b o hb _ => s2 _ _ (s1 b o hb)
    refine ⟨fun m σ H3 => ∃ (j : Nat) (st : Sz30.St) (gl : List Int) (v4 : Option V), σ = [some (.ref a), some (.ref ml), some (.ref g), some (.int (j : Int)), v4] ∧ m = ns.length - j ∧ AnI K L M H3 ns a ml g j st gl,
      ⟨_, 0, Sz30.fresh, [], none, rfl, rfl, Nat.zero_le _, M1.same s2, MW.SOk.fresh, hCa.fr fr2, ag, ns.length, cs0, hc0, ha0, by rw [he0]; rfl⟩, ?_⟩
    rintro m σ H3 ⟨j, st, gl, v4, rfl, rfl, J⟩
    obtain ⟨ff, cs, hcs, hca, hgl⟩ := J.pr
    refine ⟨_, rfl, _, rfl, a, _, rfl, .inl J.ca.sq, _, _, rfl, rfl, _, rfl, iteD (fun hlt => ?_) (fun hge => ?_)⟩
    rotate_left
    · rw [iV_len] at hge
      refine ⟨_, rfl, k g H3 ?_⟩
      rw [List.drop_eq_nil_of_le (by omega)] at hcs
      have ec : cs = [] := by
        unfold MW.calls' PyFlat.calls at hcs
        cases hcs
        rfl
      rw [ec, MW.left_nil, List.append_nil] at hgl
      rw [← hgl]
      exact J.gi
    · rw [iV_len] at hlt
      have hlt : j < ns.length := by omega
      obtain ⟨p, r, hpr⟩ : ∃ p r, ns.drop j = p :: r := ⟨_, _, List.drop_eq_getElem_cons hlt⟩
      rw [hpr] at hcs
      obtain ⟨f', cs', hca', hcl, hcase⟩ := MW.calls_cases hcs hca
      obtain ⟨c, j', hC, hcs2, hr', hso, hj'⟩ : ∃ (c : List (List Int)) (j' : Nat), CallAt ns j c j' ∧ cs = c :: cs' ∧ calls' f' (ns.drop j') = some cs' ∧ SOk (Sz30Neutral.step st (PySz30.whole c)).1 ∧ j < j' ∧ j' ≤ ns.length := by
        have hdl : (ns.drop j).length = ns.length - j := List.length_drop
        rcases hcase with ⟨rfl, h2, h3⟩ | ⟨kk, x, y, z, t, rfl, rfl, h2, h3⟩ | ⟨sk, mo, txt, t, rfl, rfl, hb, h2, h3⟩ | ⟨rfl, h2, h3⟩
        · refine ⟨_, j + 1, .inl ⟨rfl, drop0 hpr, rfl⟩, h2, ?_, MW.SOk.fresh, by omega, by omega⟩
          rw [← List.drop_drop, hpr]
          exact h3
        · rw [hpr] at hdl
          simp only [List.length_cons] at hdl
          refine ⟨_, j + 6, .inr (.inl ⟨kk, x, y, z, t, rfl, hpr, rfl⟩), h2, ?_, ?_, by omega, by omega⟩
          · rw [← List.drop_drop, hpr]
            exact h3
          · rw [MW.step_origin]
            exact origin_SOk J.so kk x y z
        · rw [hpr] at hdl
          simp only [List.length_cons, List.length_append] at hdl
          refine ⟨_, j + 4 + txt.length, .inr (.inr (.inl ⟨sk, mo, txt, t, rfl, hb, hpr, rfl⟩)), h2, ?_, ?_, by omega, by omega⟩
          · rw [Nat.add_assoc, ← List.drop_drop, hpr]
            show calls' f' ((3 :: sk :: mo :: (txt.length : Int) :: (txt ++ t)).drop (4 + txt.length)) = _
            rw [← List.drop_drop]
            show calls' f' ((txt ++ t).drop txt.length) = _
            rw [List.drop_left]
            exact h3
          · rw [MW.step_run]
            exact run_SOk J.so _ _ _ _
        · refine ⟨_, j + 1, .inr (.inr (.inr ⟨rfl, drop0 hpr, rfl⟩)), h2, ?_, J.so, by omega, by omega⟩
          rw [← List.drop_drop, hpr]
          exact h3
      obtain ⟨hj1, hj2⟩ := hj'
      rw [hcs2, MW.left_cons] at hgl
      refine ⟨fun σ' H' => ∃ m', m' < ns.length - j ∧ ∃ (j : Nat) (st : Sz30.St) (gl : List Int) (v4 : Option V), σ' = [some (.ref a), some (.ref ml), some (.ref g), some (.int (j : Int)), v4] ∧ m' = ns.length - j ∧ AnI K L M H' ns a ml g j st gl, fun _ _ z => z, ?_⟩
      refine ⟨_, rfl, _, rfl, _, rfl, ml, a, st, ns, j, j', c, rfl, J.mi, J.so, J.ca.sq, hlen, hC, fun la H4 a4 n4 M4 f4 => ?_⟩
      revert hgl a4 M4 hso
      generalize Sz30Neutral.step st (PySz30.whole c) = stp
      intro hgl hso a4 M4
      have hlen2 := congrArg List.length hgl
      simp only [List.length_append, List.length_cons] at hlen2
      have g4 : H4 g = some (.lst (iV gl)) := f4 _ _ J.gi (.inl ⟨gl, rfl⟩)
      have nga : la ≠ g := (ne_of_none J.gi n4).symm
      have ca4 := J.ca.fr f4
      refine ⟨_, rfl, .inl ⟨rfl, _, SqL.of g4⟩, _, rfl, la, _, rfl, .inl (SqL.of a4), g, _, _, rfl, rfl, g4, ?_, ?_⟩
      · rw [iV_len]
        show gl.length < 16777216
        omega
      rw [iV_len]
      have g5 : (upd H4 g (.lst (iV gl ++ [.int (stp.2.length : Int)]))) g = some (.lst (iV (gl ++ [(stp.2.length : Int)]))) := by
        rw [upd_same]
        unfold iV
        rw [List.map_append]
        rfl
      have a5 : (upd H4 g (.lst (iV gl ++ [.int (stp.2.length : Int)]))) la = some (.lst (iV stp.2)) := by rw [upd_ne nga]; exact a4
      refine ⟨_, rfl, .inl ⟨rfl, _, SqL.of g5⟩, _, rfl, g, la, _, _, rfl, rfl, g5, a5, ?_, ?_⟩
      · rw [iV_len, iV_len, List.length_append]
        show gl.length + 1 + stp.2.length ≤ 16777216
        omega
      rw [upd_upd]
      have g6 : (upd H4 g (.lst (iV (gl ++ [(stp.2.length : Int)]) ++ iV stp.2))) g = some (.lst (iV (gl ++ (stp.2.length : Int) :: stp.2))) := by
        rw [upd_same]
        unfold iV
        simp
      have fin : AnI K L M (upd H4 g (.lst (iV (gl ++ [(stp.2.length : Int)]) ++ iV stp.2))) ns a ml g j' stp.1 (gl ++ (stp.2.length : Int) :: stp.2) := by
        refine ⟨hj2, ?_, hso, ?_, g6, f', cs', hr', hca', ?_⟩
        · obtain ⟨m4, ⟨dx, fs, q1, q2⟩, dm, fm, po, ol, pf, ps, r1, r2, r3⟩ := M4
          refine ⟨m4, ⟨dx, fs, by rw [upd_ne (ne_of q1 g4 (by intro z; cases z))]; exact q1, q2⟩, dm, fm, po, ol, pf, ps, by rw [upd_ne (ne_of r1 g4 (by intro z; cases z))]; exact r1, r2, r3.updL g4 ?_⟩
          intro e
          have q := r3.ol
          rw [e, g4] at q
          injection q with q
          injection q with q
          have h6 := congrArg List.length r3.og
          rw [List.length_map, hso.ol] at h6
          cases ps with
          | nil => cases h6
          | cons p0 pr =>
            cases gl with
            | nil => cases q
            | cons n nr => injection q with q _; cases q
        · rcases ca4 with ⟨o, q⟩ | q
          · exact .inl ⟨o, by rw [upd_ne (ne_of q g4 (by intro z; cases z))]; exact q⟩
          · exact .inr q
        · rw [List.append_assoc]
          exact hgl
      refine ⟨_, rfl, _, rfl, a, ns, j, p, rfl, fin.ca.sq, drop0 hpr, fun h2 => ?_, fun h3 => ?_, fun h2 h3 => ?_⟩
      · rcases hC with ⟨rfl, h, _⟩ | ⟨kk, x, y, z, t, rfl, h, he⟩ | ⟨sk, mo, txt, t, rfl, hby, h, he⟩ | ⟨rfl, h, _⟩
        · rw [drop0 hpr, h2] at h; cases h
        · refine ⟨3, drop_at (j := 2) h, ns.length - j', by omega, j', _, _, some (.ref la), ?_, rfl, fin⟩
          have : (j : Int) + 3 + 3 = (j' : Int) := by omega
          rw [this]
          rfl
        · rw [hpr, h2] at h; cases h
        · rw [drop0 hpr, h2] at h; cases h
      · rcases hC with ⟨rfl, h, _⟩ | ⟨kk, x, y, z, t, rfl, h, he⟩ | ⟨sk, mo, txt, t, rfl, hby, h, he⟩ | ⟨rfl, h, _⟩
        · rw [drop0 hpr, h3] at h; cases h
        · rw [hpr, h3] at h; cases h
        · refine ⟨(txt.length : Int), drop_at (j := 3) h, ns.length - j', by omega, j', _, _, some (.ref la), ?_, rfl, fin⟩
          have : (j : Int) + 4 + (txt.length : Int) = (j' : Int) := by omega
          rw [this]
          rfl
        · rw [drop0 hpr, h3] at h; cases h
      · refine ⟨ns.length - j', by omega, j', _, _, some (.ref la), ?_, rfl, fin⟩
        have : (j : Int) + 1 = (j' : Int) := by
          rcases hC with ⟨rfl, h, he⟩ | ⟨kk, x, y, z, t, rfl, h, he⟩ | ⟨sk, mo, txt, t, rfl, hby, h, he⟩ | ⟨rfl, h, he⟩
          · omega
          · rw [hpr] at h; injection h with h _; exact absurd h h2
          · rw [hpr] at h; injection h with h _; exact absurd h h3
          · omega
        rw [this]
        rfl
end
end MV
set_option maxRecDepth 100000
set_option maxHeartbeats 4000000
namespace MV
open PySem L2 PyProof.Rows
def valOk : V → Value → Bool
  | .str x, .str y _ => x == y
  | .ref a, .ref b => a == b
  | _, _ => false
theorem valOk_rel {v : V} {u : Value} (h : valOk v u = true) : RelV v u := by
  cases v <;> cases u <;> simp only [valOk, Bool.false_eq_true] at h
  · exact ⟨_, by rw [beq_iff_eq.mp h]⟩
  · rw [beq_iff_eq.mp h]; rfl
def entsOk : List DictEntry → List (Key × V) → Bool
  | [], [] => true
  | e :: es, kv :: kvs => (match kv.1 with | .inl k => keyIs (.inl k) e.key && e.hash == hashInt k | .inr _ => false) && (valOk kv.2 e.val && entsOk es kvs)
  | _, _ => false
theorem ents_of (P : Program) (w : World) : ∀ (es : List DictEntry) (kvs : List (Key × V)), entsOk es kvs = true → ∃ vs : List (Key × Value), KV kvs vs ∧ PySem.Pairs (mixKind P w) es vs ∧ (∀ e ∈ es, ∃ k, (mixKind P w).is k e.key = true ∧ e.hash = (mixKind P w).hash k) ∧ vs.map (·.1) = kvs.map (·.1)
  | [], [], _ => ⟨[], .nil, .nil, fun e h => (nomatch h), rfl⟩
  | e :: es, ([] : List (Key × V)), h => by cases h
  | [], kv :: kvs, h => by cases h
  | e :: es, (k, v) :: kvs, h => by
    unfold entsOk at h
    rw [Bool.and_eq_true, Bool.and_eq_true] at h
    obtain ⟨h1, h2, h3⟩ := h
    obtain ⟨vs, q1, q2, q3, q4⟩ := ents_of P w es kvs h3
    cases k with
    | inr x => cases h1
    | inl k =>
      simp only [Bool.and_eq_true, beq_iff_eq] at h1
      refine ⟨(Sum.inl k, e.val) :: vs, .cons ⟨rfl, valOk_rel h2⟩ q1, .cons h1.1 rfl q2, fun e' he' => ?_, by rw [List.map_cons, List.map_cons, q4]⟩
      rcases List.mem_cons.mp he' with rfl | he'
      · exact ⟨Sum.inl k, h1.1, h1.2⟩
      · exact q3 e' he'
def dictOk (o : Obj) (kvs : List (Key × V)) : Bool := match o with
  | ⟨.type "dict", none, .dict es _, sl⟩ => sl.isEmpty && entsOk es.toList kvs
  | _ => false
theorem kd_of {K : PySem.W.Frag} {a : Addr} {o : Obj} {kvs : List (Key × V)} (e : K.lookup a = some o) (hs : (a == sysModules) = false) (h : dictOk o kvs = true) (nd : (kvs.map (·.1)).Nodup) : KD K a kvs := by
  unfold dictOk at h
  split at h
  · rename_i es ep sl
    rw [Bool.and_eq_true] at h
    obtain ⟨h1, h2⟩ := h
    have hsl : sl = #[] := by simpa using h1
    subst hsl
    refine ⟨hs, _, e, rfl, fun P w hp hg => ?_⟩
    obtain ⟨vs, q1, q2, q3, q4⟩ := ents_of P w es.toList kvs h2
    exact ⟨vs, q1, _, es, ep, hg, ⟨rfl, rfl, rfl⟩, rfl, fun e' he' => q3 e' (by simpa using he'), q2, by rw [q4]; exact nd⟩
  · cases h
theorem readsI {R : PySem.W.WRecords} {cl : Str → Option Addr} {h : Heap} : ∀ {ns : List Int} {its : List Value}, Vals (iV ns) its → PySem.W.ReadsAllW R cl h its (ns.map PySem.W.WData.int) []
  | [], _, r => by
    cases r
    exact .nil
  | n :: ns, _, r => by
    have r' : Vals (V.int n :: iV ns) _ := r
    cases r' with
    | cons h1 h2 =>
      obtain ⟨t, rfl⟩ := h1
      exact PySem.W.ReadsAllW.cons (as := []) (bs := []) (.int n t) (readsI h2)
theorem spec_call {P : Program} {w : World} {K : PySem.W.Frag} {mg mb : Str → Option Value} {k : Nat} {fa a : Addr} {fd : FuncData} {s₁ : Shared} {vs : List Value} {ns : List Int}
    (KX : K.In s₁.heap) (hns : s₁.heap.Ns mainGlobals mg) (hb : s₁.heap.Ns builtinsNs mb) (hbb : ∀ x : Str, x ≠ "__name__" → mb x = bootBuiltins x) (hlim : s₁.heap.NoLimit) (hg : s₁.gens = #[])
    (ha : s₁.heap.get? a = some { cls := .type "list", data := .seq vs.toArray }) (hi : IntsAre vs ns) (hl : ns.length ≤ 16000) (hask : PySz30.answers_asked ns = true) (hr : Room k callerA)
    (F : ∀ base : Heap, K.In base → base.Ns mainGlobals mg → FnOk P w K mg base CX0 k fa fd ["calls"] (spAnswers K)) (hbind : ∀ (s : Shared) (u : Value), BindsTo s fd ⟨[u], []⟩ [("calls", u)]) :
    codeAny (model P w) callerA (.call (.ref fa) ⟨[.ref a], []⟩) (fun r s' => (∃ g its n, r = .ok (.ret (.ref g)) ∧ s'.heap.get? g = some { cls := .type "list", data := .seq (its : List Value).toArray n } ∧ Vals (iV (PySz30.answers ns)) its) ∧ OldK s₁.heap s'.heap ∧ s'.os = s₁.os ∧ AllBare s'.gens) s₁ := by
  have rv := vals_ints hi
  have lenV := hi.length
  have hl2 : ns.length ≤ sizeLine := Nat.le_trans hl (by decide)
  have core : ∀ H : Hp, Only H → CAt K H a (iV ns) → HOk P w H s₁.heap → (∀ b, H b ≠ none → b = a) → (H a ≠ none → K.lookup a = none) →
      codeAny (model P w) callerA (.call (.ref fa) ⟨[.ref a], []⟩) (fun r s' => (∃ g its n, r = .ok (.ret (.ref g)) ∧ s'.heap.get? g = some { cls := .type "list", data := .seq (its : List Value).toArray n } ∧ Vals (iV (PySz30.answers ns)) its) ∧ OldK s₁.heap s'.heap ∧ s'.os = s₁.os ∧ AllBare s'.gens) s₁ := by
    intro H hO hS hok hA hK
    have base_of : ∀ {b : Addr} {o : Obj}, s₁.heap.get? b = some o → H b = none → (hidT s₁.heap H).get? b = some o := fun e n => hidT_get e n
    have noA : ∀ {b : Addr} {o : Obj} {es : Array DictEntry} {ep : Nat}, s₁.heap.get? b = some o → o.data = .dict es ep → H b = none := fun {b o es ep} e d => by
      cases q : H b with
      | none => rfl
      | some u =>
        have e' : b = a := hA b (by rw [q]; simp)
        subst e'
        rw [ha] at e; cases e
        have d' : Data.seq vs.toArray _ = Data.dict es ep := d
        cases d'
    have nsK : ∀ {b : Addr} {m : Str → Option Value}, s₁.heap.Ns b m → (hidT s₁.heap H).Ns b m := fun {b m} ⟨o, es, ep, e, d, r⟩ => ⟨o, es, ep, base_of e (noA e d), d, r⟩
    have hKb : K.In (hidT s₁.heap H) := fun b o e => base_of (KX b o e) (by
      cases q : H b with
      | none => rfl
      | some u =>
        have e' : b = a := hA b (by rw [q]; simp)
        subst e'
        rw [hK (by rw [q]; simp)] at e; cases e)
    have hM : Mod K mg (hidT s₁.heap H) := ⟨hKb, nsK hns, ⟨mb, nsK hb, hbb⟩, let ⟨mc, h1, h2⟩ := hlim; ⟨mc, nsK h1, h2⟩⟩
    have e0 : Env0 P w K mg (hidT s₁.heap H) callerA [] s₁ H := ⟨rfl, hM, fun b o e => of_hidT e, Nat.le_of_eq (hidT_size _ _), trivial, fun b hb => absurd (show b ∈ ([] : List Addr) from hb) (by simp), hok, .of_eq hg⟩
    refine codeAny_mono ((F _ hKb (nsK hns)).run callerA [] s₁ H ⟨[.ref a], []⟩ [.ref a] [.ref a] (fun v H' => ∃ g, v = .ref g ∧ H' g = some (.lst (iV (PySz30.answers ns)))) (fun _ _ _ => False) hr e0 (hbind s₁ (.ref a)) (.cons rfl .nil) ⟨a, ns, rfl, hS, hl, hask, fun g H' q => ⟨g, rfl, q⟩⟩) fun r s' h => ?_
    cases r with
    | error e => exact False.elim h
    | ok fl =>
      cases fl with
      | next => exact False.elim h
      | brk => exact False.elim h
      | cont => exact False.elim h
      | ret u =>
        obtain ⟨v, H', os, bare, un, hok', r', g, rfl, qg⟩ := h
        obtain rfl : u = Value.ref g := r'
        obtain ⟨_, its, n, r2, e2⟩ := hok' g _ qg
        refine ⟨⟨g, its, n, rfl, e2, r2⟩, OldK.of_keep fun b o e => ?_, os, bare⟩
        cases q : H b with
        | none => exact un.keep b o e q (by intro z; exact absurd (show b ∈ ([] : List Addr) from z) (by simp)) (by simp)
        | some u =>
          rcases hO b with z | ⟨ob, xs, z⟩
          · rw [q] at z; cases z
          · have z2 := un.frzs b ob _ z
            obtain ⟨e1, _⟩ := hok b _ z
            obtain ⟨e2, _⟩ := hok' b _ z2
            rw [e] at e1; cases e1
            exact e2
  cases hk : K.lookup a with
  | some o =>
    have e := KX a o hk
    rw [ha] at e
    cases e
    refine core (fun _ => none) (fun _ => .inl rfl) (.inr ⟨_, vs.toArray, _, hk, rfl, rfl, rfl, by rw [List.size_toArray, lenV]; exact hl2, by show Vals (ns.map V.int) _; simpa using rv⟩) (fun b u z => by have z' : (none : Option HO) = some u := z; cases z') (fun b z => absurd rfl z) fun z => absurd rfl z
  | none =>
    refine core (fun b => if b = a then some (.frz { cls := .type "list", data := .seq vs.toArray } (.lst (ns.map V.int))) else none) (fun b => ?_) (.inl ⟨{ cls := .type "list", data := .seq vs.toArray }, if_pos rfl⟩) (fun b u z => ?_) (fun b z => ?_) fun _ => hk
    · by_cases hb : b = a
      · exact .inr ⟨_, _, if_pos hb⟩
      · exact .inl (if_neg hb)
    · by_cases hb : b = a
      · have z' := (if_pos hb).symm.trans z
        cases z'
        subst hb
        exact ⟨ha, by rw [List.length_map]; exact hl2, vs, _, rv, ha⟩
      · have z' := (if_neg hb).symm.trans z
        cases z'
    · by_cases hb : b = a
      · exact hb
      · exact absurd (if_neg hb) z
theorem said : PySem.Challenge.rw_millwords_s01_answers.wellSaid = true := by decide +kernel
theorem pre_of {args : List PySem.W.WData} (h : PySem.Challenge.rw_millwords_s01_answers.pre args = true) : ∃ ns : List Int, args = [.list (ns.map .int)] ∧ ns.length ≤ 16000 ∧ PySz30.answers_asked ns = true ∧
    PySem.Challenge.rw_millwords_s01_answers.claim.post args (.list ((PySz30.answers ns).map .int)) args = true := by
  obtain ⟨a, h1, h2, rfl⟩ := (PySem.W.OpenSpec.pre_iff said _).mp h
  refine ⟨a.1, rfl, ?_, h2, (PySem.W.OpenSpec.post_iff said h1 _ _).mpr rfl⟩
  have h1 : (PySem.W.Codec.inList 0 16000 (PySem.W.Codec.inInt (Int.negSucc 9223372036854775807) (Int.ofNat 9223372036854775807)) a.1 && true) = true := h1
  rw [Bool.and_true] at h1
  unfold PySem.W.Codec.inList PySem.W.Codec.inLen PySem.W.Codec.inNat at h1
  simp only [Bool.and_eq_true, decide_eq_true_eq] at h1
  exact h1.1.2
theorem walkS {q : Program} {loose : List Str} {XP : (Str → Option Value) → Heap → Prop} {YP : World → Heap → Prop} {d : DefRec} {K : Params → PySem.W.Frag} (hdf : d.params.defaults = [])
    (hY : ∀ (w : World) (h : Heap), YP w h → (K w.params).In h)
    (F : ∀ (w : World) (mg : Str → Option Value) (fa : Addr) (h : Heap), (K w.params).In h → h.Ns mainGlobals mg → mg d.name = some (.ref fa) →
      ∃ fd : FuncData, (∀ (s : Shared) (u : Value), BindsTo s fd ⟨[u], []⟩ [("calls", u)]) ∧ ∀ base : Heap, (K w.params).In base → base.Ns mainGlobals mg → FnOk PySem.Challenge.rw_millwords_s01_answers.prog w (K w.params) mg base CX0 10 fa fd ["calls"] (spAnswers (K w.params))) :
    PySem.W.WalkOS q loose XP YP PySem.Challenge.rw_millwords_s01_answers d [] (fun f vs => PySem.call f vs) := by
  intro w s₀ s₁ mg mb G Y fa o pm cd doc dV kV ho hd hcd hD hmg hg args vals as hpre hlay hrd hwl hlo
  obtain ⟨ns, rfl, hlen, hask, hpost⟩ := pre_of hpre
  obtain ⟨a, vs, rfl, hobj, hints⟩ : ∃ a vs, vals = [Value.ref a] ∧ s₁.heap.get? a = some { cls := .type "list", data := .seq (vs : List Value).toArray } ∧ IntsAre vs ns := by
    cases hwl with
    | cons w1 w2 =>
      cases w2
      cases w1 with
      | list ho hall => exact ⟨_, _, rfl, ho, Att.ints_of_wellAll ns _ hall⟩
  have KX := hY w _ Y
  obtain ⟨fd, hb, hF⟩ := F w mg fa _ KX G.T.g hmg
  refine PySem.W.enter_call (codeAny_mono (spec_call KX G.T.g G.T.b G.T.builtins G.T.nolimit hg hobj hints hlen hask (k := 10) ⟨rfl, by decide, by decide⟩ hF hb) fun r s' hq => ?_)
  obtain ⟨⟨g, its, n, rfl, hg', hv⟩, h2, h3, h4⟩ := hq
  exact ⟨.inl ⟨.ref g, .list ((PySz30.answers ns).map .int), _, rfl, PySem.W.osNone, .list hg' rfl rfl (by simpa using readsI hv), hpost, fun h => absurd h Bool.false_ne_true⟩, h2, h3, h4⟩
end MV
set_option maxRecDepth 100000
set_option maxHeartbeats 4000000
namespace MV
open PySem L2
section
variable {K : PySem.W.Frag} {h : Heap} {mg : Str → Option Value}
structure FnIn (K : PySem.W.Frag) (x : Str) (st : Stmt) : Prop where
  ex : ∃ f fd, PySem.W.nsIn K mainGlobals x = some (some (.ref f)) ∧ Fun K x x st f fd
theorem fn_in {x : Str} {st : Stmt} {f : Addr} {oc : Value} {od an : Option Addr} {osl : Array (Option Value)} {kV doc pm cdv ct : Value} (e : PySem.W.nsIn K mainGlobals x = some (some (.ref f)))
    (l : K.lookup f = some ⟨oc, od, .func (PySem.W.fnOf x x (defArgs st) (defBody st) (defScope st) .none kV doc pm an cdv ct), osl⟩) (c : PySem.W.codeIn K cdv x = true) (k : PySem.W.keepIn K (.ref f) = true) : FnIn K x st := ⟨f, _, e, fun_mk l c k⟩
theorem FnIn.wr {x : Str} {st : Stmt} (F : FnIn K x st) (X : K.In h) (G : h.Ns mainGlobals mg) : Wr K mg x st := by
  obtain ⟨f, fd, e, F⟩ := F.ex
  exact ⟨f, fd, PySem.W.mg_of X G e, F⟩
theorem mt_in {C : Addr} {x qual : Str} {st : Stmt} {f : Addr} {oc : Value} {od an : Option Addr} {osl : Array (Option Value)} {kV doc pm cdv ct : Value} (e : PySem.W.findIn K (.ref C) x = some (some (.ref f))) (i : PySem.W.isFn K (.ref f) = true)
    (l : K.lookup f = some ⟨oc, od, .func (PySem.W.fnOf x qual (defArgs st) (defBody st) (defScope st) .none kV doc pm an cdv ct), osl⟩) (c : PySem.W.codeIn K cdv qual = true) (k : PySem.W.keepIn K (.ref f) = true) : WrM K C x qual st := ⟨f, _, e, i, fun_mk l c k⟩
structure ClIn (K : PySem.W.Frag) (C : Addr) : Prop where
  cl : Cls K C
  mks : PySem.W.makesIn K C = true
  kp : PySem.W.keepIn K (.ref C) = true
theorem cl_in {C : Addr} (pg : PySem.W.plainGet K C Str.empty = true) (hd : PySem.W.hasDictIn K C = true) (po : PySem.W.plainOver K C = true) (sa : PySem.W.findIn K (.ref C) "__setattr__" = some (some (.builtin "object.__setattr__")))
    (mk : PySem.W.makesIn K C = true) (kp : PySem.W.keepIn K (.ref C) = true) : ClIn K C := ⟨⟨pg, hd, po, sa⟩, mk, kp⟩
structure CI (K : PySem.W.Frag) (x : Str) (n : Int) : Prop where
  ex : ∃ t, PySem.W.nsIn K mainGlobals x = some (some (.int n t))
theorem ci {x : Str} {n : Int} {t : Tok} (e : PySem.W.nsIn K mainGlobals x = some (some (.int n t))) : CI K x n := ⟨t, e⟩
theorem CI.gi {x : Str} {n : Int} (c : CI K x n) (X : K.In h) (G : h.Ns mainGlobals mg) : GI mg x n := by
  obtain ⟨t, e⟩ := c.ex
  exact ⟨t, PySem.W.mg_of X G e⟩
structure CS (K : PySem.W.Frag) (x z : Str) : Prop where
  ex : ∃ t, PySem.W.nsIn K mainGlobals x = some (some (.str z t))
theorem cs {x z : Str} {t : Tok} (e : PySem.W.nsIn K mainGlobals x = some (some (.str z t))) : CS K x z := ⟨t, e⟩
theorem CS.gs {x z : Str} (c : CS K x z) (X : K.In h) (G : h.Ns mainGlobals mg) : GS mg x z := by
  obtain ⟨t, e⟩ := c.ex
  exact ⟨t, PySem.W.mg_of X G e⟩
theorem kt2 {a : Addr} {i j : Int} {s t : Tok} {dd : Option Addr} {n : Nat} {sl : Array (Option Value)} (l : K.lookup a = some ⟨.type "tuple", dd, .seq #[.int i s, .int j t] n, sl⟩) : KTu K a [.int i, .int j] :=
  ⟨_, _, _, l, rfl, rfl, by show 2 ≤ sizeLine; decide, .cons ⟨_, rfl⟩ (.cons ⟨_, rfl⟩ .nil)⟩
theorem kt3 {a : Addr} {i j k : Int} {s t u : Tok} {dd : Option Addr} {n : Nat} {sl : Array (Option Value)} (l : K.lookup a = some ⟨.type "tuple", dd, .seq #[.int i s, .int j t, .int k u] n, sl⟩) : KTu K a [.int i, .int j, .int k] :=
  ⟨_, _, _, l, rfl, rfl, by show 3 ≤ sizeLine; decide, .cons ⟨_, rfl⟩ (.cons ⟨_, rfl⟩ (.cons ⟨_, rfl⟩ .nil))⟩
structure CT (K : PySem.W.Frag) (x : Str) (xs : List V) : Prop where
  ex : ∃ a, PySem.W.nsIn K mainGlobals x = some (some (.ref a)) ∧ KTu K a xs
theorem ct2 {x : Str} {a : Addr} {i j : Int} {s t : Tok} {dd : Option Addr} {n : Nat} {sl : Array (Option Value)} (e : PySem.W.nsIn K mainGlobals x = some (some (.ref a))) (l : K.lookup a = some ⟨.type "tuple", dd, .seq #[.int i s, .int j t] n, sl⟩) : CT K x [.int i, .int j] := ⟨a, e, kt2 l⟩
theorem ct3 {x : Str} {a : Addr} {i j k : Int} {s t u : Tok} {dd : Option Addr} {n : Nat} {sl : Array (Option Value)} (e : PySem.W.nsIn K mainGlobals x = some (some (.ref a))) (l : K.lookup a = some ⟨.type "tuple", dd, .seq #[.int i s, .int j t, .int k u] n, sl⟩) : CT K x [.int i, .int j, .int k] := ⟨a, e, kt3 l⟩
structure CD (K : PySem.W.Frag) (x : Str) (kvs : List (Key × V)) : Prop where
  ex : ∃ a, PySem.W.nsIn K mainGlobals x = some (some (.ref a)) ∧ KD K a kvs
theorem cd_ {x : Str} {a : Addr} {o : Obj} {kvs : List (Key × V)} (e : PySem.W.nsIn K mainGlobals x = some (some (.ref a))) (l : K.lookup a = some o) (hs : (a == sysModules) = false) (h : dictOk o kvs = true) (nd : (kvs.map (·.1)).Nodup) : CD K x kvs := ⟨a, e, kd_of l hs h nd⟩
structure CP (K : PySem.W.Frag) : Prop where
  ex : ∃ a t17 t18 t19, PySem.W.nsIn K mainGlobals "PLANES" = some (some (.ref a)) ∧ KD K a [(Sum.inl 17, .ref t17), (Sum.inl 18, .ref t18), (Sum.inl 19, .ref t19)] ∧ KTu K t17 [.int 0, .int 1, .int 2] ∧ KTu K t18 [.int 2, .int 0, .int 1] ∧ KTu K t19 [.int 1, .int 2, .int 0]
theorem cp {a t17 t18 t19 : Addr} {u1 u2 u3 : Tok} {ep : Nat} {s1 s2 s3 s4 s5 s6 s7 s8 s9 : Tok} {d1 d2 d3 : Option Addr} {n1 n2 n3 : Nat} {sl1 sl2 sl3 : Array (Option Value)} (e : PySem.W.nsIn K mainGlobals "PLANES" = some (some (.ref a)))
    (l : K.lookup a = some ⟨.type "dict", none, .dict #[⟨17, .int 17 u1, .ref t17⟩, ⟨18, .int 18 u2, .ref t18⟩, ⟨19, .int 19 u3, .ref t19⟩] ep, #[]⟩) (hs : (a == sysModules) = false)
    (l17 : K.lookup t17 = some ⟨.type "tuple", d1, .seq #[.int 0 s1, .int 1 s2, .int 2 s3] n1, sl1⟩) (l18 : K.lookup t18 = some ⟨.type "tuple", d2, .seq #[.int 2 s4, .int 0 s5, .int 1 s6] n2, sl2⟩)
    (l19 : K.lookup t19 = some ⟨.type "tuple", d3, .seq #[.int 1 s7, .int 2 s8, .int 0 s9] n3, sl3⟩) : CP K := by
  refine ⟨a, t17, t18, t19, e, kd_of l hs ?_ ?_, kt3 l17, kt3 l18, kt3 l19⟩
  · have h1 : hashInt 17 = 17 := by decide +kernel
    have h2 : hashInt 18 = 18 := by decide +kernel
    have h3 : hashInt 19 = 19 := by decide +kernel
    simp [dictOk, entsOk, valOk, keyIs_int, h1, h2, h3]
  · show ([Sum.inl 17, Sum.inl 18, Sum.inl 19] : List Key).Nodup
    decide
end
theorem nd_g : ((tabK gTab).map (·.1)).Nodup := by decide +kernel
theorem nd_m : ((tabK mTab).map (·.1)).Nodup := by decide +kernel
theorem all_ok {P : Program} {w : World} {K : PySem.W.Frag} {h : Heap} {mg : Str → Option Value} {fa C M W L : Addr} (X : K.In h) (G : h.Ns mainGlobals mg) (hmg : mg "answers" = some (.ref fa))
    (aC : PySem.W.nsIn K mainGlobals "LineCannotBe" = some (some (.ref C)))
    (xC : PySem.W.excIn K C vErr "ValueError.__new__" = true)
    (aM : PySem.W.nsIn K mainGlobals "Machine" = some (some (.ref M)))
    (cM : ClIn K M)
    (aW : PySem.W.nsIn K mainGlobals "Words" = some (some (.ref W)))
    (cW : ClIn K W)
    (aL : PySem.W.nsIn K mainGlobals "Mill" = some (some (.ref L)))
    (cL : ClIn K L)
    (mM0 : WrM K M "__init__" "Machine.__init__" (inClass (top 4) 0))
    (mM1 : WrM K M "begin_holes" "Machine.begin_holes" (inClass (top 4) 1))
    (mM2 : WrM K M "twin" "Machine.twin" (inClass (top 4) 2))
    (mM3 : WrM K M "length" "Machine.length" (inClass (top 4) 3))
    (mM4 : WrM K M "program_zero" "Machine.program_zero" (inClass (top 4) 4))
    (mW0 : WrM K W "__init__" "Words.__init__" (inClass (top 28) 0))
    (mW1 : WrM K W "take" "Words.take" (inClass (top 28) 1))
    (mW2 : WrM K W "take_number" "Words.take_number" (inClass (top 28) 2))
    (mW3 : WrM K W "take_code" "Words.take_code" (inClass (top 28) 3))
    (mW4 : WrM K W "tells_one_of" "Words.tells_one_of" (inClass (top 28) 4))
    (mL0 : WrM K L "__init__" "Mill.__init__" (inClass (top 83) 0))
    (mL1 : WrM K L "gc_clear" "Mill.gc_clear" (inClass (top 83) 1))
    (mL2 : WrM K L "gc_origin" "Mill.gc_origin" (inClass (top 83) 2))
    (mL3 : WrM K L "gc_run" "Mill.gc_run" (inClass (top 83) 3))
    (mL4 : WrM K L "gc_place" "Mill.gc_place" (inClass (top 83) 4))
    (nM_place : PySem.W.findIn K (.ref M) "place" = some none)
    (nM_origins : PySem.W.findIn K (.ref M) "origins" = some none)
    (nM_origin : PySem.W.findIn K (.ref M) "origin" = some none)
    (nM_put_off : PySem.W.findIn K (.ref M) "put_off" = some none)
    (nM_motion : PySem.W.findIn K (.ref M) "motion" = some none)
    (nM_plane : PySem.W.findIn K (.ref M) "plane" = some none)
    (nM_unit : PySem.W.findIn K (.ref M) "unit" = some none)
    (nM_steps : PySem.W.findIn K (.ref M) "steps" = some none)
    (nM_feed : PySem.W.findIn K (.ref M) "feed" = some none)
    (nM_height : PySem.W.findIn K (.ref M) "height" = some none)
    (nM_level : PySem.W.findIn K (.ref M) "level" = some none)
    (nM_depth : PySem.W.findIn K (.ref M) "depth" = some none)
    (nM_peck : PySem.W.findIn K (.ref M) "peck" = some none)
    (nM_wait : PySem.W.findIn K (.ref M) "wait" = some none)
    (nW_n : PySem.W.findIn K (.ref W) "numbers" = some none)
    (nW_c : PySem.W.findIn K (.ref W) "codes" = some none)
    (nL_m : PySem.W.findIn K (.ref L) "machine" = some none)
    (z_len : PySem.W.nsIn K mainGlobals "len" = some none)
    (z_any : PySem.W.nsIn K mainGlobals "any" = some none)
    (z_max : PySem.W.nsIn K mainGlobals "max" = some none)
    (z_min : PySem.W.nsIn K mainGlobals "min" = some none)
    (z_abs : PySem.W.nsIn K mainGlobals "abs" = some none)
    (z_ord : PySem.W.nsIn K mainGlobals "ord" = some none)
    (z_list : PySem.W.nsIn K mainGlobals "list" = some none)
    (z_tuple : PySem.W.nsIn K mainGlobals "tuple" = some none)
    (i_tab : CI K "TAB" 9)
    (i_lf : CI K "LINE_FEED" 10)
    (i_ret : CI K "RETURN" 13)
    (i_bl : CI K "BLANK" 32)
    (i_pct : CI K "PERCENT" 37)
    (i_nb : CI K "NOTE_BEGINS" 40)
    (i_ne : CI K "NOTE_ENDS" 41)
    (i_pl : CI K "PLUS" 43)
    (i_mi : CI K "MINUS" 45)
    (i_pt : CI K "POINT" 46)
    (i_sl : CI K "SLASH" 47)
    (i_ze : CI K "ZERO" 48)
    (i_ni : CI K "NINE" 57)
    (i_se : CI K "SEMICOLON" 59)
    (i_mbf : CI K "MOST_BEFORE_POINT" 6)
    (i_mbh : CI K "MOST_BEHIND_POINT" 4)
    (i_one : CI K "ONE" 10000)
    (i_mm : CI K "MILLIMETRES" 10)
    (i_inc : CI K "INCHES" 254)
    (i_md : CI K "MOST_DIFFERENCE" 200)
    (i_mp : CI K "MOST_PECKS" 1000)
    (i_alp : CI K "ABOVE_LAST_PECK" 25000)
    (i_fo : CI K "FIRST_ORIGIN" 54)
    (i_clear : CI K "CLEAR" 1)
    (i_origin : CI K "ORIGIN" 2)
    (i_run : CI K "RUN" 3)
    (i_origins : CI K "ORIGINS" 6)
    (i_mo : CI K "MOST_ORIGIN" 1000000000000)
    (i_mm_ : CI K "MOST_MOVES" 65536)
    (i_ms : CI K "MOVE_SIZE" 1152921504606846976)
    (i_rr : CI K "RUN_REFUSED" 4000000)
    (i_mtm : CI K "MORE_THAN_MOST" 2000000)
    (s_let_ : CS K "LETTERS" "GMXYZIJKRQPFSTN")
    (s_nbz : CS K "NEVER_BELOW_ZERO" "FSTPN")
    (s_ax : CS K "AXES" "XYZ")
    (s_ce : CS K "CENTRES" "IJK")
    (t_h : CT K "HOLES" [.int 81, .int 82, .int 83])
    (t_a : CT K "ARCS" [.int 2, .int 3])
    (d_g : CD K "G_GROUPS" (tabK gTab))
    (d_m : CD K "M_GROUPS" (tabK mTab))
    (d_p : CP K)
    (p29 : FnIn K "split_lines" (top 29))
    (p30 : FnIn K "part_looked_at" (top 30))
    (p31 : FnIn K "read_words" (top 31))
    (p32 : FnIn K "letter_of" (top 32))
    (p33 : FnIn K "past_blanks" (top 33))
    (p34 : FnIn K "past_note" (top 34))
    (p35 : FnIn K "past_digits" (top 35))
    (p36 : FnIn K "past_number" (top 36))
    (p37 : FnIn K "ten_thousandths" (top 37))
    (p46 : FnIn K "fast_move" (top 46))
    (p47 : FnIn K "straight_move" (top 47))
    (p48 : FnIn K "other_move" (top 48))
    (p49 : FnIn K "motion_moves" (top 49))
    (p50 : FnIn K "tells_circle" (top 50))
    (p51 : FnIn K "line_moves" (top 51))
    (p52 : FnIn K "require_feed" (top 52))
    (p53 : FnIn K "end_place" (top 53))
    (p54 : FnIn K "end_on_axis" (top 54))
    (p55 : FnIn K "arc_moves" (top 55))
    (p56 : FnIn K "centre_on_axis" (top 56))
    (p57 : FnIn K "square_of_distance" (top 57))
    (p58 : FnIn K "roots_are_near" (top 58))
    (p59 : FnIn K "holes_moves" (top 59))
    (p60 : FnIn K "take_hole_numbers" (top 60))
    (p61 : FnIn K "require_hole" (top 61))
    (p62 : FnIn K "peck_moves" (top 62))
    (p65 : FnIn K "moves_of_line" (top 65))
    (p66 : FnIn K "ends_program" (top 66))
    (p67 : FnIn K "settle" (top 67))
    (p68 : FnIn K "side_moves" (top 68))
    (p69 : FnIn K "main_moves" (top 69))
    (p70 : FnIn K "wait_move" (top 70))
    (p71 : FnIn K "put_off_places" (top 71))
    (p72 : FnIn K "put_off_on_axis" (top 72))
    (p84 : FnIn K "numbers_of" (top 84))
    (p85 : FnIn K "has_large" (top 85))
    (p86 : FnIn K "answers" (top 86))
    (p87 : FnIn K "answer_of_call" (top 87))
    (p88 : FnIn K "past_call" (top 88)) :
    ∃ fd : FuncData, (∀ (s : Shared) (u : Value), BindsTo s fd ⟨[u], []⟩ [("calls", u)]) ∧ ∀ base : Heap, K.In base → base.Ns mainGlobals mg → FnOk P w K mg base CX0 10 fa fd ["calls"] (spAnswers K) := by
  have gT : ∀ {x : Str} {xs : List V}, CT K x xs → ∃ a, mg x = some (.ref a) ∧ KTu K a xs := fun c => by
    obtain ⟨a, e, k⟩ := c.ex
    exact ⟨a, PySem.W.mg_of X G e, k⟩
  have gD : ∀ {x : Str} {kvs : List (Key × V)}, CD K x kvs → ∃ a, mg x = some (.ref a) ∧ KD K a kvs := fun c => by
    obtain ⟨a, e, k⟩ := c.ex
    exact ⟨a, PySem.W.mg_of X G e, k⟩
  have gP : ∃ a t17 t18 t19, mg "PLANES" = some (.ref a) ∧ KD K a [(Sum.inl 17, .ref t17), (Sum.inl 18, .ref t18), (Sum.inl 19, .ref t19)] ∧ KTu K t17 [.int 0, .int 1, .int 2] ∧ KTu K t18 [.int 2, .int 0, .int 1] ∧ KTu K t19 [.int 1, .int 2, .int 0] := by
    obtain ⟨a, t17, t18, t19, e, r⟩ := d_p.ex
    exact ⟨a, t17, t18, t19, PySem.W.mg_of X G e, r⟩
  have T : Tx K mg C := ⟨⟨PySem.W.mg_of X G aC, xC⟩, PySem.W.mg_none_of X G z_len, PySem.W.mg_none_of X G z_any, PySem.W.mg_none_of X G z_max, PySem.W.mg_none_of X G z_min, PySem.W.mg_none_of X G z_abs, PySem.W.mg_none_of X G z_ord, PySem.W.mg_none_of X G z_list, PySem.W.mg_none_of X G z_tuple, i_tab.gi X G, i_lf.gi X G, i_ret.gi X G, i_bl.gi X G, i_pct.gi X G, i_nb.gi X G, i_ne.gi X G, i_pl.gi X G, i_mi.gi X G, i_pt.gi X G, i_sl.gi X G, i_ze.gi X G, i_ni.gi X G, i_se.gi X G, i_mbf.gi X G, i_mbh.gi X G, i_one.gi X G, s_let_.gs X G, s_nbz.gs X G, s_ax.gs X G, s_ce.gs X G, i_mm.gi X G, i_inc.gi X G, i_md.gi X G, i_mp.gi X G, i_alp.gi X G, i_fo.gi X G, i_clear.gi X G, i_origin.gi X G, i_run.gi X G, i_origins.gi X G, i_mo.gi X G, i_mm_.gi X G, i_ms.gi X G, i_rr.gi X G, i_mtm.gi X G, gT t_h, gT t_a, gD d_g, gD d_m, gP⟩
  have TM' : TM K M := ⟨cM.cl, nM_place, nM_origins, nM_origin, nM_put_off, nM_motion, nM_plane, nM_unit, nM_steps, nM_feed, nM_height, nM_level, nM_depth, nM_peck, nM_wait⟩
  have TW' : TW K W := ⟨cW.cl, nW_n, nW_c⟩
  have TL' : TL K L := ⟨cL.cl, nL_m⟩
  obtain ⟨fa', fd, ea, FA⟩ := p86.ex
  have e := hmg.symm.trans (PySem.W.mg_of X G ea)
  cases e
  refine ⟨fd, fun s u => ?_, fun base _ _ => ?_⟩
  · obtain ⟨oc, od, kV, doc, pm, an, cdv, ct, osl, rfl, _⟩ := FA.ex
    exact .of_eq rfl
  have GB : Fn P w K mg base CX0 1 "past_blanks" ["line", "at"] (spBlanks K) := ok_past_blanks (p33.wr X G) T
  have GD : Fn P w K mg base CX0 1 "past_digits" ["line", "at"] (spDigits K) := ok_past_digits (p35.wr X G) T
  have GNo : Fn P w K mg base (CXE P w C) 1 "past_note" ["line", "at"] (spNote K C) := ok_past_note (p34.wr X G) T
  have GNu := ok_past_number (P := P) (w := w) (base := base) (p36.wr X G) T GD
  have GTe := ok_ten (P := P) (w := w) (base := base) (p37.wr X G) T
  have GLe := ok_letter_of (P := P) (w := w) (base := base) (p32.wr X G) T
  have GSp := ok_split_lines (P := P) (w := w) (base := base) (p29.wr X G) T
  have GPa := ok_part (P := P) (w := w) (base := base) (p30.wr X G) T GB
  obtain ⟨fWi, fdWi, eW, iW, FW⟩ := mW0.ex
  have GWi : In P w K mg base CX0 1 W "Words" ["self"] (spWInit W) := ⟨PySem.W.mg_of X G aW, fWi, fdWi, ⟨cW.mks, eW, iW, cW.kp⟩, FW.binds (ps := ["self"]) (fun _ _ _ _ _ _ us hl => match us, hl with | [_], _ => rfl), ok_winit FW TW'⟩
  have GTn := ok_take_number (P := P) (w := w) (base := base) mW2 T TW'
  have GTc := ok_take_code (P := P) (w := w) (base := base) mW3 T TW'
  have GTa := ok_take (P := P) (w := w) (base := base) mW1 TW' GTn GTc
  have GTo := ok_tells (P := P) (w := w) (mg := mg) (base := base) mW4 T TW'
  have GRe := ok_read_words (P := P) (w := w) (base := base) (p31.wr X G) T TW' GWi GTa GB GNo GLe GNu GTe
  have GBe := ok_begin (P := P) (w := w) (mg := mg) (base := base) mM1 TM'
  obtain ⟨fMi, fdMi, eM, iM, FM⟩ := mM0.ex
  have GMa : In P w K mg base CX0 2 M "Machine" ["self"] (spMInit M) := ⟨PySem.W.mg_of X G aM, fMi, fdMi, ⟨cM.mks, eM, iM, cM.kp⟩, FM.binds (ps := ["self"]) (fun _ _ _ _ _ _ us hl => match us, hl with | [_], _ => rfl), ok_minit FM T TM' GBe⟩
  have GTw := ok_twin (P := P) (w := w) (base := base) mM2 T TM' GMa
  have GLn := ok_length (P := P) (w := w) (mg := mg) (base := base) mM3 TM'
  have GZe := ok_zero (P := P) (w := w) (mg := mg) (base := base) mM4 TM'
  have GFa := ok_fast (P := P) (w := w) (base := base) (p46.wr X G)
  have GSt := ok_straight (P := P) (w := w) (base := base) (p47.wr X G)
  have GOt := ok_other (P := P) (w := w) (base := base) (p48.wr X G)
  have GFe := ok_feed (P := P) (w := w) (base := base) (p52.wr X G) T TM'
  have GEa := ok_end_axis (P := P) (w := w) (base := base) (p54.wr X G) T TM' TW' GLn GZe
  have GEp := ok_end_place (P := P) (w := w) (base := base) (p53.wr X G) T GEa
  have GLi := ok_line_moves (P := P) (w := w) (base := base) (p51.wr X G) TM' GEp GFa GSt GFe
  have GCe := ok_cen (P := P) (w := w) (base := base) (p56.wr X G) T TM' TW' GLn
  have GSq := ok_sq (P := P) (w := w) (base := base) (p57.wr X G)
  have GNe := ok_near (P := P) (w := w) (base := base) (p58.wr X G) T
  have GAr := ok_arc (P := P) (w := w) (base := base) (p55.wr X G) T TM' TW' GFe GCe GEp GSq GNe
  have GTh := ok_take_holes (P := P) (w := w) (base := base) (p60.wr X G) TM' TW' GLn GZe
  have GRh := ok_req_hole (P := P) (w := w) (base := base) (p61.wr X G) T TM' GFe
  have GPe := ok_peck (P := P) (w := w) (base := base) (p62.wr X G) T TM' GFa GSt
  have GHo := ok_holes (P := P) (w := w) (base := base) (p59.wr X G) T TM' TW' GBe GTh GTo GRh GEa GFa GSt GOt GPe
  have GCi := ok_circle (P := P) (w := w) (base := base) (p50.wr X G) T TW' GTo
  have GMo := ok_motion (P := P) (w := w) (base := base) (p49.wr X G) T TM' TW' GTo GCi GHo GAr GLi
  have GSe := ok_settle (P := P) (w := w) (base := base) (p67.wr X G) T TM' TW' GLn
  have GSi := ok_side (P := P) (w := w) (base := base) (p68.wr X G) T TW' GOt
  have GWa := ok_wait (P := P) (w := w) (base := base) (p70.wr X G) T TW' GTo GOt
  have GOa := ok_off_axis (P := P) (w := w) (base := base) (p72.wr X G) T TM' TW' GLn
  have GOp := ok_off (P := P) (w := w) (base := base) (p71.wr X G) T TM' TW' GTo GOa
  have GMm := ok_main (P := P) (w := w) (base := base) (p69.wr X G) TW' GWa GOp GMo
  have GMl := ok_line (P := P) (w := w) (base := base) (p65.wr X G) TW' GSe GSi GMm GOt
  have GEn := ok_ends (P := P) (w := w) (base := base) (p66.wr X G) TW'
  have GNs := ok_nums (P := P) (w := w) (base := base) (p84.wr X G)
  have GLa := ok_large (P := P) (w := w) (base := base) (p85.wr X G) T
  obtain ⟨fLi, fdLi, eL, iL, FL⟩ := mL0.ex
  have GMi : In P w K mg base CX0 4 L "Mill" ["self"] (spMillInit L M) := ⟨PySem.W.mg_of X G aL, fLi, fdLi, ⟨cL.mks, eL, iL, cL.kp⟩, FL.binds (ps := ["self"]) (fun _ _ _ _ _ _ us hl => match us, hl with | [_], _ => rfl), ok_millinit FL TL' GMa⟩
  have GCl := ok_clear (P := P) (w := w) (base := base) mL1 TL' GMa
  have GOr := ok_origin (P := P) (w := w) (base := base) mL2 T TL' TM'
  have GRu := ok_run (P := P) (w := w) (base := base) mL3 T TL' TM' GTw GSp GPa GRe GMl GNs GLa GEn
  have GPl := ok_place (P := P) (w := w) (mg := mg) (base := base) mL4 TL' TM'
  have GPc := ok_past (P := P) (w := w) (base := base) (p88.wr X G) T
  have GAc := ok_call (P := P) (w := w) (base := base) (p87.wr X G) T TL' GCl GOr GRu GPl GPc
  exact ok_answers FA T GMi GAc GPc
end MV
set_option maxRecDepth 1000000
set_option maxHeartbeats 0
namespace MV
open PySem L2 PySem.W PyProof.Rows MH
theorem all_K {w : World} {h : Heap} {mg : Str → Option Value} {fa : Addr} (X : (kf PySem.Challenge.pw_millwords_s01_answers w.params).In h) (G : h.Ns mainGlobals mg) (hmg : mg "answers" = some (.ref fa)) :
    ∃ fd : FuncData, (∀ (s : Shared) (u : Value), BindsTo s fd ⟨[u], []⟩ [("calls", u)]) ∧ ∀ base : Heap, (kf PySem.Challenge.pw_millwords_s01_answers w.params).In base → base.Ns mainGlobals mg → FnOk PySem.Challenge.rw_millwords_s01_answers.prog w (kf PySem.Challenge.pw_millwords_s01_answers w.params) mg base CX0 10 fa fd ["calls"] (spAnswers (kf PySem.Challenge.pw_millwords_s01_answers w.params)) := by
  refine' MV.all_ok (C := 77) (M := 60) (W := 123) (L := 409) X G hmg ?aC ?xC ?aM ?cM ?aW ?cW ?aL ?cL ?mM0 ?mM1 ?mM2 ?mM3 ?mM4 ?mW0 ?mW1 ?mW2 ?mW3 ?mW4 ?mL0 ?mL1 ?mL2 ?mL3 ?mL4 ?nM_place ?nM_origins ?nM_origin ?nM_put_off ?nM_motion ?nM_plane ?nM_unit ?nM_steps ?nM_feed ?nM_height ?nM_level ?nM_depth ?nM_peck ?nM_wait ?nW_n ?nW_c ?nL_m ?z_len ?z_any ?z_max ?z_min ?z_abs ?z_ord ?z_list ?z_tuple ?i_tab ?i_lf ?i_ret ?i_bl ?i_pct ?i_nb ?i_ne ?i_pl ?i_mi ?i_pt ?i_sl ?i_ze ?i_ni ?i_se ?i_mbf ?i_mbh ?i_one ?i_mm ?i_inc ?i_md ?i_mp ?i_alp ?i_fo ?i_clear ?i_origin ?i_run ?i_origins ?i_mo ?i_mm_ ?i_ms ?i_rr ?i_mtm ?s_let_ ?s_nbz ?s_ax ?s_ce ?t_h ?t_a ?d_g ?d_m ?d_p ?p29 ?p30 ?p31 ?p32 ?p33 ?p34 ?p35 ?p36 ?p37 ?p46 ?p47 ?p48 ?p49 ?p50 ?p51 ?p52 ?p53 ?p54 ?p55 ?p56 ?p57 ?p58 ?p59 ?p60 ?p61 ?p62 ?p65 ?p66 ?p67 ?p68 ?p69 ?p70 ?p71 ?p72 ?p84 ?p85 ?p86 ?p87 ?p88
  (case aC => kernel_rfl)
  (case xC => kernel_rfl)
  (case aM => kernel_rfl)
  (case cM => exact MV.cl_in (by kernel_rfl) (by kernel_rfl) (by kernel_rfl) (by kernel_rfl) (by kernel_rfl) (by kernel_rfl))
  (case aW => kernel_rfl)
  (case cW => exact MV.cl_in (by kernel_rfl) (by kernel_rfl) (by kernel_rfl) (by kernel_rfl) (by kernel_rfl) (by kernel_rfl))
  (case aL => kernel_rfl)
  (case cL => exact MV.cl_in (by kernel_rfl) (by kernel_rfl) (by kernel_rfl) (by kernel_rfl) (by kernel_rfl) (by kernel_rfl))
  (case mM0 => exact MV.mt_in (f := 29) (oc := .type "function") (od := none) (an := none) (osl := #[]) (kV := .none) (doc := .none) (pm := vs 0x65746174732e7364726f776c6c696d 187) (cdv := vr 28) (ct := .none) (by kernel_rfl) (by kernel_rfl) (by kernel_rfl) (by kernel_rfl) (by kernel_rfl))
  (case mM1 => exact MV.mt_in (f := 36) (oc := .type "function") (od := none) (an := none) (osl := #[]) (kV := .none) (doc := .none) (pm := vs 0x65746174732e7364726f776c6c696d 187) (cdv := vr 35) (ct := .none) (by kernel_rfl) (by kernel_rfl) (by kernel_rfl) (by kernel_rfl) (by kernel_rfl))
  (case mM2 => exact MV.mt_in (f := 43) (oc := .type "function") (od := none) (an := none) (osl := #[]) (kV := .none) (doc := .none) (pm := vs 0x65746174732e7364726f776c6c696d 187) (cdv := vr 42) (ct := .none) (by kernel_rfl) (by kernel_rfl) (by kernel_rfl) (by kernel_rfl) (by kernel_rfl))
  (case mM3 => exact MV.mt_in (f := 50) (oc := .type "function") (od := none) (an := none) (osl := #[]) (kV := .none) (doc := .none) (pm := vs 0x65746174732e7364726f776c6c696d 187) (cdv := vr 49) (ct := .none) (by kernel_rfl) (by kernel_rfl) (by kernel_rfl) (by kernel_rfl) (by kernel_rfl))
  (case mM4 => exact MV.mt_in (f := 57) (oc := .type "function") (od := none) (an := none) (osl := #[]) (kV := .none) (doc := .none) (pm := vs 0x65746174732e7364726f776c6c696d 187) (cdv := vr 56) (ct := .none) (by kernel_rfl) (by kernel_rfl) (by kernel_rfl) (by kernel_rfl) (by kernel_rfl))
  (case mW0 => exact MV.mt_in (f := 94) (oc := .type "function") (od := none) (an := none) (osl := #[]) (kV := .none) (doc := .none) (pm := vs 0x7364726f772e7364726f776c6c696d 269) (cdv := vr 93) (ct := .none) (by kernel_rfl) (by kernel_rfl) (by kernel_rfl) (by kernel_rfl) (by kernel_rfl))
  (case mW1 => exact MV.mt_in (f := 101) (oc := .type "function") (od := none) (an := none) (osl := #[]) (kV := .none) (doc := .none) (pm := vs 0x7364726f772e7364726f776c6c696d 269) (cdv := vr 100) (ct := .none) (by kernel_rfl) (by kernel_rfl) (by kernel_rfl) (by kernel_rfl) (by kernel_rfl))
  (case mW2 => exact MV.mt_in (f := 108) (oc := .type "function") (od := none) (an := none) (osl := #[]) (kV := .none) (doc := .none) (pm := vs 0x7364726f772e7364726f776c6c696d 269) (cdv := vr 107) (ct := .none) (by kernel_rfl) (by kernel_rfl) (by kernel_rfl) (by kernel_rfl) (by kernel_rfl))
  (case mW3 => exact MV.mt_in (f := 115) (oc := .type "function") (od := none) (an := none) (osl := #[]) (kV := .none) (doc := .none) (pm := vs 0x7364726f772e7364726f776c6c696d 269) (cdv := vr 114) (ct := .none) (by kernel_rfl) (by kernel_rfl) (by kernel_rfl) (by kernel_rfl) (by kernel_rfl))
  (case mW4 => exact MV.mt_in (f := 120) (oc := .type "function") (od := none) (an := none) (osl := #[]) (kV := .none) (doc := .none) (pm := vs 0x7364726f772e7364726f776c6c696d 269) (cdv := vr 119) (ct := .none) (by kernel_rfl) (by kernel_rfl) (by kernel_rfl) (by kernel_rfl) (by kernel_rfl))
  (case mL0 => exact MV.mt_in (f := 380) (oc := .type "function") (od := none) (an := none) (osl := #[]) (kV := .none) (doc := .none) (pm := vs 0x656e696863616d2e7364726f776c6c696d 844) (cdv := vr 379) (ct := .none) (by kernel_rfl) (by kernel_rfl) (by kernel_rfl) (by kernel_rfl) (by kernel_rfl))
  (case mL1 => exact MV.mt_in (f := 387) (oc := .type "function") (od := none) (an := none) (osl := #[]) (kV := .none) (doc := .none) (pm := vs 0x656e696863616d2e7364726f776c6c696d 844) (cdv := vr 386) (ct := .none) (by kernel_rfl) (by kernel_rfl) (by kernel_rfl) (by kernel_rfl) (by kernel_rfl))
  (case mL2 => exact MV.mt_in (f := 392) (oc := .type "function") (od := none) (an := none) (osl := #[]) (kV := .none) (doc := .none) (pm := vs 0x656e696863616d2e7364726f776c6c696d 844) (cdv := vr 391) (ct := .none) (by kernel_rfl) (by kernel_rfl) (by kernel_rfl) (by kernel_rfl) (by kernel_rfl))
  (case mL3 => exact MV.mt_in (f := 399) (oc := .type "function") (od := none) (an := none) (osl := #[]) (kV := .none) (doc := .none) (pm := vs 0x656e696863616d2e7364726f776c6c696d 844) (cdv := vr 398) (ct := .none) (by kernel_rfl) (by kernel_rfl) (by kernel_rfl) (by kernel_rfl) (by kernel_rfl))
  (case mL4 => exact MV.mt_in (f := 406) (oc := .type "function") (od := none) (an := none) (osl := #[]) (kV := .none) (doc := .none) (pm := vs 0x656e696863616d2e7364726f776c6c696d 844) (cdv := vr 405) (ct := .none) (by kernel_rfl) (by kernel_rfl) (by kernel_rfl) (by kernel_rfl) (by kernel_rfl))
  (case nM_place => kernel_rfl)
  (case nM_origins => kernel_rfl)
  (case nM_origin => kernel_rfl)
  (case nM_put_off => kernel_rfl)
  (case nM_motion => kernel_rfl)
  (case nM_plane => kernel_rfl)
  (case nM_unit => kernel_rfl)
  (case nM_steps => kernel_rfl)
  (case nM_feed => kernel_rfl)
  (case nM_height => kernel_rfl)
  (case nM_level => kernel_rfl)
  (case nM_depth => kernel_rfl)
  (case nM_peck => kernel_rfl)
  (case nM_wait => kernel_rfl)
  (case nW_n => kernel_rfl)
  (case nW_c => kernel_rfl)
  (case nL_m => kernel_rfl)
  (case z_len => kernel_rfl)
  (case z_any => kernel_rfl)
  (case z_max => kernel_rfl)
  (case z_min => kernel_rfl)
  (case z_abs => kernel_rfl)
  (case z_ord => kernel_rfl)
  (case z_list => kernel_rfl)
  (case z_tuple => kernel_rfl)
  (case i_tab => exact MV.ci (t := 271) (by kernel_rfl))
  (case i_lf => exact MV.ci (t := 273) (by kernel_rfl))
  (case i_ret => exact MV.ci (t := 275) (by kernel_rfl))
  (case i_bl => exact MV.ci (t := 277) (by kernel_rfl))
  (case i_pct => exact MV.ci (t := 279) (by kernel_rfl))
  (case i_nb => exact MV.ci (t := 281) (by kernel_rfl))
  (case i_ne => exact MV.ci (t := 283) (by kernel_rfl))
  (case i_pl => exact MV.ci (t := 285) (by kernel_rfl))
  (case i_mi => exact MV.ci (t := 287) (by kernel_rfl))
  (case i_pt => exact MV.ci (t := 289) (by kernel_rfl))
  (case i_sl => exact MV.ci (t := 291) (by kernel_rfl))
  (case i_ze => exact MV.ci (t := 293) (by kernel_rfl))
  (case i_ni => exact MV.ci (t := 295) (by kernel_rfl))
  (case i_se => exact MV.ci (t := 297) (by kernel_rfl))
  (case i_mbf => exact MV.ci (t := 299) (by kernel_rfl))
  (case i_mbh => exact MV.ci (t := 301) (by kernel_rfl))
  (case i_one => exact MV.ci (t := 303) (by kernel_rfl))
  (case i_mm => exact MV.ci (t := 189) (by kernel_rfl))
  (case i_inc => exact MV.ci (t := 191) (by kernel_rfl))
  (case i_md => exact MV.ci (t := 608) (by kernel_rfl))
  (case i_mp => exact MV.ci (t := 610) (by kernel_rfl))
  (case i_alp => exact MV.ci (t := 612) (by kernel_rfl))
  (case i_fo => exact MV.ci (t := 775) (by kernel_rfl))
  (case i_clear => exact MV.ci (t := 846) (by kernel_rfl))
  (case i_origin => exact MV.ci (t := 848) (by kernel_rfl))
  (case i_run => exact MV.ci (t := 850) (by kernel_rfl))
  (case i_origins => exact MV.ci (t := 852) (by kernel_rfl))
  (case i_mo => exact MV.ci (t := 854) (by kernel_rfl))
  (case i_mm_ => exact MV.ci (t := 856) (by kernel_rfl))
  (case i_ms => exact MV.ci (t := 858) (by kernel_rfl))
  (case i_rr => exact MV.ci (t := 860) (by kernel_rfl))
  (case i_mtm => exact MV.ci (t := 862) (by kernel_rfl))
  (case s_let_ => exact MV.cs (t := 305) (by kernel_rfl))
  (case s_nbz => exact MV.cs (t := 307) (by kernel_rfl))
  (case s_ax => exact MV.cs (t := 585) (by kernel_rfl))
  (case s_ce => exact MV.cs (t := 587) (by kernel_rfl))
  (case t_h => exact MV.ct3 (a := 15) (s := 193) (t := 194) (u := 195) (dd := none) (n := 0) (sl := #[]) (by kernel_rfl) (by kernel_rfl))
  (case t_a => exact MV.ct2 (a := 191) (s := 589) (t := 590) (dd := none) (n := 0) (sl := #[]) (by kernel_rfl) (by kernel_rfl))
  (case d_g => exact MV.cd_ (a := 65) (o := obk PySem.Challenge.pw_millwords_s01_answers (bl w.params) w.params s12.nm s12.k s12.e s12.f 65) (by kernel_rfl) (by kernel_rfl) (by decide) (by kernel_rfl) MV.nd_g)
  (case d_m => exact MV.cd_ (a := 67) (o := obk PySem.Challenge.pw_millwords_s01_answers (bl w.params) w.params s12.nm s12.k s12.e s12.f 67) (by kernel_rfl) (by kernel_rfl) (by decide) (by kernel_rfl) MV.nd_m)
  (case d_p => exact MV.cp (a := 192) (t17 := 193) (t18 := 194) (t19 := 195) (u1 := 592) (u2 := 596) (u3 := 600) (ep := 3) (s1 := 593) (s2 := 594) (s3 := 595) (d1 := none) (n1 := 0) (sl1 := #[]) (s4 := 597) (s5 := 598) (s6 := 599) (d2 := none) (n2 := 0) (sl2 := #[]) (s7 := 601) (s8 := 602) (s9 := 603) (d3 := none) (n3 := 0) (sl3 := #[]) (by kernel_rfl) (by kernel_rfl) (by decide) (by kernel_rfl) (by kernel_rfl) (by kernel_rfl))
  (case p29 => exact MV.fn_in (f := 134) (oc := .type "function") (od := none) (an := none) (osl := #[]) (kV := .none) (doc := .none) (pm := vs 0x7364726f772e7364726f776c6c696d 269) (cdv := vr 133) (ct := .none) (by kernel_rfl) (by kernel_rfl) (by kernel_rfl) (by kernel_rfl))
  (case p30 => exact MV.fn_in (f := 141) (oc := .type "function") (od := none) (an := none) (osl := #[]) (kV := .none) (doc := .none) (pm := vs 0x7364726f772e7364726f776c6c696d 269) (cdv := vr 140) (ct := .none) (by kernel_rfl) (by kernel_rfl) (by kernel_rfl) (by kernel_rfl))
  (case p31 => exact MV.fn_in (f := 148) (oc := .type "function") (od := none) (an := none) (osl := #[]) (kV := .none) (doc := .none) (pm := vs 0x7364726f772e7364726f776c6c696d 269) (cdv := vr 147) (ct := .none) (by kernel_rfl) (by kernel_rfl) (by kernel_rfl) (by kernel_rfl))
  (case p32 => exact MV.fn_in (f := 155) (oc := .type "function") (od := none) (an := none) (osl := #[]) (kV := .none) (doc := .none) (pm := vs 0x7364726f772e7364726f776c6c696d 269) (cdv := vr 154) (ct := .none) (by kernel_rfl) (by kernel_rfl) (by kernel_rfl) (by kernel_rfl))
  (case p33 => exact MV.fn_in (f := 162) (oc := .type "function") (od := none) (an := none) (osl := #[]) (kV := .none) (doc := .none) (pm := vs 0x7364726f772e7364726f776c6c696d 269) (cdv := vr 161) (ct := .none) (by kernel_rfl) (by kernel_rfl) (by kernel_rfl) (by kernel_rfl))
  (case p34 => exact MV.fn_in (f := 169) (oc := .type "function") (od := none) (an := none) (osl := #[]) (kV := .none) (doc := .none) (pm := vs 0x7364726f772e7364726f776c6c696d 269) (cdv := vr 168) (ct := .none) (by kernel_rfl) (by kernel_rfl) (by kernel_rfl) (by kernel_rfl))
  (case p35 => exact MV.fn_in (f := 176) (oc := .type "function") (od := none) (an := none) (osl := #[]) (kV := .none) (doc := .none) (pm := vs 0x7364726f772e7364726f776c6c696d 269) (cdv := vr 175) (ct := .none) (by kernel_rfl) (by kernel_rfl) (by kernel_rfl) (by kernel_rfl))
  (case p36 => exact MV.fn_in (f := 183) (oc := .type "function") (od := none) (an := none) (osl := #[]) (kV := .none) (doc := .none) (pm := vs 0x7364726f772e7364726f776c6c696d 269) (cdv := vr 182) (ct := .none) (by kernel_rfl) (by kernel_rfl) (by kernel_rfl) (by kernel_rfl))
  (case p37 => exact MV.fn_in (f := 190) (oc := .type "function") (od := none) (an := none) (osl := #[]) (kV := .none) (doc := .none) (pm := vs 0x7364726f772e7364726f776c6c696d 269) (cdv := vr 189) (ct := .none) (by kernel_rfl) (by kernel_rfl) (by kernel_rfl) (by kernel_rfl))
  (case p46 => exact MV.fn_in (f := 202) (oc := .type "function") (od := none) (an := none) (osl := #[]) (kV := .none) (doc := .none) (pm := vs 0x736e6f69746f6d2e7364726f776c6c696d 583) (cdv := vr 201) (ct := .none) (by kernel_rfl) (by kernel_rfl) (by kernel_rfl) (by kernel_rfl))
  (case p47 => exact MV.fn_in (f := 209) (oc := .type "function") (od := none) (an := none) (osl := #[]) (kV := .none) (doc := .none) (pm := vs 0x736e6f69746f6d2e7364726f776c6c696d 583) (cdv := vr 208) (ct := .none) (by kernel_rfl) (by kernel_rfl) (by kernel_rfl) (by kernel_rfl))
  (case p48 => exact MV.fn_in (f := 216) (oc := .type "function") (od := none) (an := none) (osl := #[]) (kV := .none) (doc := .none) (pm := vs 0x736e6f69746f6d2e7364726f776c6c696d 583) (cdv := vr 215) (ct := .none) (by kernel_rfl) (by kernel_rfl) (by kernel_rfl) (by kernel_rfl))
  (case p49 => exact MV.fn_in (f := 223) (oc := .type "function") (od := none) (an := none) (osl := #[]) (kV := .none) (doc := .none) (pm := vs 0x736e6f69746f6d2e7364726f776c6c696d 583) (cdv := vr 222) (ct := .none) (by kernel_rfl) (by kernel_rfl) (by kernel_rfl) (by kernel_rfl))
  (case p50 => exact MV.fn_in (f := 230) (oc := .type "function") (od := none) (an := none) (osl := #[]) (kV := .none) (doc := .none) (pm := vs 0x736e6f69746f6d2e7364726f776c6c696d 583) (cdv := vr 229) (ct := .none) (by kernel_rfl) (by kernel_rfl) (by kernel_rfl) (by kernel_rfl))
  (case p51 => exact MV.fn_in (f := 237) (oc := .type "function") (od := none) (an := none) (osl := #[]) (kV := .none) (doc := .none) (pm := vs 0x736e6f69746f6d2e7364726f776c6c696d 583) (cdv := vr 236) (ct := .none) (by kernel_rfl) (by kernel_rfl) (by kernel_rfl) (by kernel_rfl))
  (case p52 => exact MV.fn_in (f := 244) (oc := .type "function") (od := none) (an := none) (osl := #[]) (kV := .none) (doc := .none) (pm := vs 0x736e6f69746f6d2e7364726f776c6c696d 583) (cdv := vr 243) (ct := .none) (by kernel_rfl) (by kernel_rfl) (by kernel_rfl) (by kernel_rfl))
  (case p53 => exact MV.fn_in (f := 249) (oc := .type "function") (od := none) (an := none) (osl := #[]) (kV := .none) (doc := .none) (pm := vs 0x736e6f69746f6d2e7364726f776c6c696d 583) (cdv := vr 248) (ct := .none) (by kernel_rfl) (by kernel_rfl) (by kernel_rfl) (by kernel_rfl))
  (case p54 => exact MV.fn_in (f := 256) (oc := .type "function") (od := none) (an := none) (osl := #[]) (kV := .none) (doc := .none) (pm := vs 0x736e6f69746f6d2e7364726f776c6c696d 583) (cdv := vr 255) (ct := .none) (by kernel_rfl) (by kernel_rfl) (by kernel_rfl) (by kernel_rfl))
  (case p55 => exact MV.fn_in (f := 263) (oc := .type "function") (od := none) (an := none) (osl := #[]) (kV := .none) (doc := .none) (pm := vs 0x736e6f69746f6d2e7364726f776c6c696d 583) (cdv := vr 262) (ct := .none) (by kernel_rfl) (by kernel_rfl) (by kernel_rfl) (by kernel_rfl))
  (case p56 => exact MV.fn_in (f := 270) (oc := .type "function") (od := none) (an := none) (osl := #[]) (kV := .none) (doc := .none) (pm := vs 0x736e6f69746f6d2e7364726f776c6c696d 583) (cdv := vr 269) (ct := .none) (by kernel_rfl) (by kernel_rfl) (by kernel_rfl) (by kernel_rfl))
  (case p57 => exact MV.fn_in (f := 277) (oc := .type "function") (od := none) (an := none) (osl := #[]) (kV := .none) (doc := .none) (pm := vs 0x736e6f69746f6d2e7364726f776c6c696d 583) (cdv := vr 276) (ct := .none) (by kernel_rfl) (by kernel_rfl) (by kernel_rfl) (by kernel_rfl))
  (case p58 => exact MV.fn_in (f := 284) (oc := .type "function") (od := none) (an := none) (osl := #[]) (kV := .none) (doc := .none) (pm := vs 0x736e6f69746f6d2e7364726f776c6c696d 583) (cdv := vr 283) (ct := .none) (by kernel_rfl) (by kernel_rfl) (by kernel_rfl) (by kernel_rfl))
  (case p59 => exact MV.fn_in (f := 291) (oc := .type "function") (od := none) (an := none) (osl := #[]) (kV := .none) (doc := .none) (pm := vs 0x736e6f69746f6d2e7364726f776c6c696d 583) (cdv := vr 290) (ct := .none) (by kernel_rfl) (by kernel_rfl) (by kernel_rfl) (by kernel_rfl))
  (case p60 => exact MV.fn_in (f := 298) (oc := .type "function") (od := none) (an := none) (osl := #[]) (kV := .none) (doc := .none) (pm := vs 0x736e6f69746f6d2e7364726f776c6c696d 583) (cdv := vr 297) (ct := .none) (by kernel_rfl) (by kernel_rfl) (by kernel_rfl) (by kernel_rfl))
  (case p61 => exact MV.fn_in (f := 305) (oc := .type "function") (od := none) (an := none) (osl := #[]) (kV := .none) (doc := .none) (pm := vs 0x736e6f69746f6d2e7364726f776c6c696d 583) (cdv := vr 304) (ct := .none) (by kernel_rfl) (by kernel_rfl) (by kernel_rfl) (by kernel_rfl))
  (case p62 => exact MV.fn_in (f := 312) (oc := .type "function") (od := none) (an := none) (osl := #[]) (kV := .none) (doc := .none) (pm := vs 0x736e6f69746f6d2e7364726f776c6c696d 583) (cdv := vr 311) (ct := .none) (by kernel_rfl) (by kernel_rfl) (by kernel_rfl) (by kernel_rfl))
  (case p65 => exact MV.fn_in (f := 319) (oc := .type "function") (od := none) (an := none) (osl := #[]) (kV := .none) (doc := .none) (pm := vs 0x73656e696c2e7364726f776c6c696d 773) (cdv := vr 318) (ct := .none) (by kernel_rfl) (by kernel_rfl) (by kernel_rfl) (by kernel_rfl))
  (case p66 => exact MV.fn_in (f := 326) (oc := .type "function") (od := none) (an := none) (osl := #[]) (kV := .none) (doc := .none) (pm := vs 0x73656e696c2e7364726f776c6c696d 773) (cdv := vr 325) (ct := .none) (by kernel_rfl) (by kernel_rfl) (by kernel_rfl) (by kernel_rfl))
  (case p67 => exact MV.fn_in (f := 333) (oc := .type "function") (od := none) (an := none) (osl := #[]) (kV := .none) (doc := .none) (pm := vs 0x73656e696c2e7364726f776c6c696d 773) (cdv := vr 332) (ct := .none) (by kernel_rfl) (by kernel_rfl) (by kernel_rfl) (by kernel_rfl))
  (case p68 => exact MV.fn_in (f := 340) (oc := .type "function") (od := none) (an := none) (osl := #[]) (kV := .none) (doc := .none) (pm := vs 0x73656e696c2e7364726f776c6c696d 773) (cdv := vr 339) (ct := .none) (by kernel_rfl) (by kernel_rfl) (by kernel_rfl) (by kernel_rfl))
  (case p69 => exact MV.fn_in (f := 347) (oc := .type "function") (od := none) (an := none) (osl := #[]) (kV := .none) (doc := .none) (pm := vs 0x73656e696c2e7364726f776c6c696d 773) (cdv := vr 346) (ct := .none) (by kernel_rfl) (by kernel_rfl) (by kernel_rfl) (by kernel_rfl))
  (case p70 => exact MV.fn_in (f := 354) (oc := .type "function") (od := none) (an := none) (osl := #[]) (kV := .none) (doc := .none) (pm := vs 0x73656e696c2e7364726f776c6c696d 773) (cdv := vr 353) (ct := .none) (by kernel_rfl) (by kernel_rfl) (by kernel_rfl) (by kernel_rfl))
  (case p71 => exact MV.fn_in (f := 359) (oc := .type "function") (od := none) (an := none) (osl := #[]) (kV := .none) (doc := .none) (pm := vs 0x73656e696c2e7364726f776c6c696d 773) (cdv := vr 358) (ct := .none) (by kernel_rfl) (by kernel_rfl) (by kernel_rfl) (by kernel_rfl))
  (case p72 => exact MV.fn_in (f := 366) (oc := .type "function") (od := none) (an := none) (osl := #[]) (kV := .none) (doc := .none) (pm := vs 0x73656e696c2e7364726f776c6c696d 773) (cdv := vr 365) (ct := .none) (by kernel_rfl) (by kernel_rfl) (by kernel_rfl) (by kernel_rfl))
  (case p84 => exact MV.fn_in (f := 420) (oc := .type "function") (od := none) (an := none) (osl := #[]) (kV := .none) (doc := .none) (pm := vs 0x656e696863616d2e7364726f776c6c696d 844) (cdv := vr 419) (ct := .none) (by kernel_rfl) (by kernel_rfl) (by kernel_rfl) (by kernel_rfl))
  (case p85 => exact MV.fn_in (f := 427) (oc := .type "function") (od := none) (an := none) (osl := #[]) (kV := .none) (doc := .none) (pm := vs 0x656e696863616d2e7364726f776c6c696d 844) (cdv := vr 426) (ct := .none) (by kernel_rfl) (by kernel_rfl) (by kernel_rfl) (by kernel_rfl))
  (case p86 => exact MV.fn_in (f := 434) (oc := .type "function") (od := none) (an := none) (osl := #[]) (kV := .none) (doc := .none) (pm := vs 0x656e696863616d2e7364726f776c6c696d 844) (cdv := vr 433) (ct := .none) (by kernel_rfl) (by kernel_rfl) (by kernel_rfl) (by kernel_rfl))
  (case p87 => exact MV.fn_in (f := 441) (oc := .type "function") (od := none) (an := none) (osl := #[]) (kV := .none) (doc := .none) (pm := vs 0x656e696863616d2e7364726f776c6c696d 844) (cdv := vr 440) (ct := .none) (by kernel_rfl) (by kernel_rfl) (by kernel_rfl) (by kernel_rfl))
  (case p88 => exact MV.fn_in (f := 448) (oc := .type "function") (od := none) (an := none) (osl := #[]) (kV := .none) (doc := .none) (pm := vs 0x656e696863616d2e7364726f776c6c696d 844) (cdv := vr 447) (ct := .none) (by kernel_rfl) (by kernel_rfl) (by kernel_rfl) (by kernel_rfl))
end MV
set_option maxRecDepth 1000000
set_option maxHeartbeats 0
namespace MV
open PySem PySem.W PyProof.Rows MH
theorem df_some : (defOf (vw PySem.Challenge.pw_millwords_s01_answers) PySem.Challenge.rw_millwords_s01_answers.name).isSome = true := by kernel_rfl
noncomputable def dd : DefRec := ((defOf (vw PySem.Challenge.pw_millwords_s01_answers) PySem.Challenge.rw_millwords_s01_answers.name).get df_some).1
theorem df : defOf (vw PySem.Challenge.pw_millwords_s01_answers) PySem.Challenge.rw_millwords_s01_answers.name = some (dd, []) := by kernel_rfl
theorem dp : PySem.Challenge.rw_millwords_s01_answers.prog.theDef PySem.Challenge.rw_millwords_s01_answers.name = some (dd.params, dd.body, dd.scope) := by kernel_rfl
theorem dk : kwWritten? dd.params.kwonlyargs dd.params.kw_defaults = some [] := by kernel_rfl
theorem dn : dd.name = "answers" := by kernel_rfl
theorem dz : dd.params.defaults = [] := by kernel_rfl
theorem ow : (chainsOk (vw PySem.Challenge.pw_millwords_s01_answers) && opensWell PySem.Challenge.rw_millwords_s01_answers.prog) = true := by kernel_rfl
theorem br : PySem.Challenge.rw_millwords_s01_answers.prog.bare := ⟨rfl, rfl, rfl, rfl, rfl, by decide +kernel⟩
theorem hwS : ∃ args, PySem.Challenge.rw_millwords_s01_answers.pre args = true ∧ WData.layableAll args = true := ⟨[.list [.int 1]], by decide +kernel, by decide +kernel⟩
theorem wlk : WalkOS (vw PySem.Challenge.pw_millwords_s01_answers) ls (XL (vw PySem.Challenge.pw_millwords_s01_answers) []) (Hook.says (hk PySem.Challenge.pw_millwords_s01_answers)) PySem.Challenge.rw_millwords_s01_answers dd [] (fun f vs => PySem.call f vs) :=
  MV.walkS dz (fun _ _ Y => PySem.W.kIn_of Y) fun _ _ _ _ X G hmg => all_K X G (dn ▸ hmg)
theorem lft : LeftO PySem.Challenge.rw_millwords_s01_answers.prog (vw PySem.Challenge.pw_millwords_s01_answers) ls (xt PySem.Challenge.pw_millwords_s01_answers) (Hook.obs (hk PySem.Challenge.pw_millwords_s01_answers)) (Hook.val (hk PySem.Challenge.pw_millwords_s01_answers)) 7004 true := left
theorem last : PySem.Challenge.rw_millwords_s01_answers.Holds :=
  holds_os lft (Hook.of (hk PySem.Challenge.pw_millwords_s01_answers)) (Hook.keeps (hk PySem.Challenge.pw_millwords_s01_answers)) (fun s e => xl_of s (Bool.and_eq_true_iff.mp e).1) XL.keeps df dp dk (fun _ e => recFacts_of (Bool.and_eq_true_iff.mp e).2) os_shapes said ow br hwS wlk
end MV
theorem PySem.Challenge.cw_millwords_s01_answers_holds : PySem.Challenge.rw_millwords_s01_answers.Holds :=
  MV.last
#print axioms PySem.Challenge.cw_millwords_s01_answers_holds
