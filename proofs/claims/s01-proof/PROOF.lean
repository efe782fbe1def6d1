import PyProof.Rows.All
import Wide.All
import OpenK.AllK
import Wide.FinOn
import PyProof.EqAt
import PyProof.EqKinds
import PyProof.TupleCall
import PyProof.Draws
import PyProof.TupleIter
import PyProof.EnumMake
import PyProof.ZipIter
import Open.SpecLaws
import KE.OsHead
import KE.OsGo
import KE.BitLaws
import KE.KTurns
import PyFlatLaws
import PySem.Challenge.RW_treatyregistry_s01_answers
set_option Elab.async false
set_option linter.all false
set_option maxRecDepth 100000
set_option maxHeartbeats 2000000
namespace L2
open PySem PySem.Spec PyProof.Rows
abbrev Key := Sum Int Str
def keyIs : Key → Value → Bool
  | .inl k, v => Value.isInt k v
  | .inr x, v => Value.isStrOf x v
def keyH (w : World) : Key → Int
  | .inl k => hashInt k
  | .inr x => hashStr w x
theorem keyIs_shape : ∀ {k : Key} {v : Value}, keyIs k v = true → (∃ i t, k = Sum.inl i ∧ v = Value.int i t) ∨ (∃ x t, k = Sum.inr x ∧ v = Value.str x t)
  | .inl i, v, h => by
    obtain ⟨t, e⟩ := Value.isInt_shape (k := i) (v := v) h
    exact .inl ⟨i, t, rfl, e⟩
  | .inr x, v, h => by
    obtain ⟨t, e⟩ := Value.isStrOf_shape (x := x) (v := v) h
    exact .inr ⟨x, t, rfl, e⟩
theorem keyIs_int (i : Int) (t : Tok) : keyIs (.inl i) (.int i t) = true := by simp [keyIs, Value.isInt]
theorem keyIs_str (x : Str) (t : Tok) : keyIs (.inr x) (.str x t) = true := by simp [keyIs, Value.isStrOf]
theorem key_ll (a b : Int) : decide ((Sum.inl a : Key) = Sum.inl b) = (a == b) := by
  by_cases e : a = b
  · subst e; simp
  · have h : ¬ (Sum.inl a : Key) = Sum.inl b := fun q => e (Sum.inl.inj q)
    rw [decide_eq_false h]
    exact (beq_eq_false_iff_ne.mpr e).symm
theorem key_rr (a b : Str) : decide ((Sum.inr a : Key) = Sum.inr b) = decide (a = b) := by
  by_cases e : a = b
  · subst e; simp
  · have h : ¬ (Sum.inr a : Key) = Sum.inr b := fun q => e (Sum.inr.inj q)
    rw [decide_eq_false h, decide_eq_false e]
theorem key_lr (a : Int) (b : Str) : decide ((Sum.inl a : Key) = Sum.inr b) = false := decide_eq_false (fun q => nomatch q)
theorem key_rl (a : Str) (b : Int) : decide ((Sum.inr a : Key) = Sum.inl b) = false := decide_eq_false (fun q => nomatch q)
def mixKind (prog : Program) (w : World) : PySem.KeyKind prog w Key where
  is := keyIs
  hash := keyH w
  inj := fun v a b ha hb => by
    rcases keyIs_shape ha with ⟨i, t, rfl, rfl⟩ | ⟨x, t, rfl, rfl⟩
    · rcases keyIs_shape hb with ⟨j, u, rfl, e⟩ | ⟨y, u, rfl, e⟩
      · injection e with e1 _; rw [e1]
      · exact nomatch e
    · rcases keyIs_shape hb with ⟨j, u, rfl, e⟩ | ⟨y, u, rfl, e⟩
      · exact nomatch e
      · injection e with e1 _; rw [e1]
  byValue := fun k v h => by
    rcases keyIs_shape h with ⟨i, t, rfl, rfl⟩ | ⟨x, t, rfl, rfl⟩ <;> rfl
  pyHash := fun hv h => by
    rcases keyIs_shape hv with ⟨i, t, rfl, rfl⟩ | ⟨x, t, rfl, rfl⟩
    · exact wpAny_pyHash_int h
    · exact wpAny_pyHash_str h
  eqBool := fun hu hv h => by
    rcases keyIs_shape hu with ⟨i, t, rfl, rfl⟩ | ⟨x, t, rfl, rfl⟩
    · rcases keyIs_shape hv with ⟨j, u, rfl, rfl⟩ | ⟨y, u, rfl, rfl⟩
      · rw [key_ll] at h; exact wpAny_eqBool_int h
      · rw [key_lr] at h; exact SeqAt.EqAt.int_str i t y u _ _ _ _ h
    · rcases keyIs_shape hv with ⟨j, u, rfl, rfl⟩ | ⟨y, u, rfl, rfl⟩
      · rw [key_rl] at h; exact SeqAt.EqAt.str_int x t j u _ _ _ _ h
      · rw [key_rr] at h; exact wpAny_eqBool_str h
  «strs» := fun k x t v h => by
    rcases keyIs_shape h with ⟨i, u, rfl, e⟩ | ⟨y, u, rfl, e⟩
    · exact nomatch e
    · injection e with e1 _
      subst e1
      cases v <;> rfl
theorem mixKind_int (prog : Program) (w : World) (i : Int) (t : Tok) : (mixKind prog w).is (.inl i) (.int i t) = true := keyIs_int i t
theorem mixKind_str (prog : Program) (w : World) (x : Str) (t : Tok) : (mixKind prog w).is (.inr x) (.str x t) = true := keyIs_str x t
end L2
namespace L2
open PySem PySem.Spec PyProof.Rows
inductive V where
  | non | bl (b : Bool) | int (i : Int) | str (x : Str) | byt (b : Array UInt8) | flt (b : UInt64) | ref (a : Addr) | ty (n : String)
  deriving DecidableEq
def RelV : V → Value → Prop
  | .non, u => u = Value.none
  | .bl b, u => u = Value.bool b
  | .int i, u => ∃ t, u = Value.int i t
  | .str x, u => ∃ t, u = Value.str x t
  | .byt b, u => ∃ t, u = Value.bytes b t
  | .flt b, u => ∃ t, u = Value.float b t
  | .ref a, u => u = Value.ref a
  | .ty n, u => u = Value.type n
abbrev Vals : List V → List Value → Prop := Paired RelV
theorem Vals.length {xs : List V} {us : List Value} (r : Vals xs us) : xs.length = us.length := Paired.length r
theorem Vals.get : ∀ {xs : List V} {us : List Value} {i : Nat} {x : V}, Vals xs us → xs[i]? = some x → ∃ u, us[i]? = some u ∧ RelV x u
  | _, _, _, _, .nil, e => by simp at e
  | _, _, 0, _, .cons r _, e => by simp at e; subst e; exact ⟨_, rfl, r⟩
  | _, _, i + 1, x, .cons _ t, e => by
    obtain ⟨u, h1, h2⟩ := Vals.get (i := i) (x := x) t (by simpa using e)
    exact ⟨u, by simpa using h1, h2⟩
theorem Vals.set {x : V} {u : Value} (r : RelV x u) : ∀ {xs : List V} {us : List Value} (i : Nat), Vals xs us → Vals (xs.set i x) (us.set i u)
  | _, _, _, .nil => .nil
  | _, _, 0, .cons _ t => .cons r t
  | _, _, i + 1, .cons q t => .cons q (Vals.set r i t)
theorem Vals.append : ∀ {xs ys : List V} {us ws : List Value}, Vals xs us → Vals ys ws → Vals (xs ++ ys) (us ++ ws)
  | _, _, _, _, .nil, s => s
  | _, _, _, _, .cons r t, s => .cons r (Vals.append t s)
theorem Vals.take : ∀ {xs : List V} {us : List Value} (n : Nat), Vals xs us → Vals (xs.take n) (us.take n)
  | _, _, 0, _ => .nil
  | _, _, _ + 1, .nil => .nil
  | _, _, n + 1, .cons r t => .cons r (Vals.take n t)
theorem Vals.drop : ∀ {xs : List V} {us : List Value} (n : Nat), Vals xs us → Vals (xs.drop n) (us.drop n)
  | _, _, 0, r => r
  | _, _, _ + 1, .nil => .nil
  | _, _, n + 1, .cons _ t => Vals.drop n t
def RelO : Option V → Option Value → Prop
  | some v, some u => RelV v u
  | none, none => True
  | _, _ => False
def KV {κ : Type} : List (κ × V) → List (κ × Value) → Prop := Paired fun (p : κ × V) (q : κ × Value) => p.1 = q.1 ∧ RelV p.2 q.2
def kV : Key → V
  | .inl i => .int i
  | .inr x => .str x
inductive HO where
  | lst (xs : List V)
  | tup (xs : List V)
  | dK (kvs : List (Key × V)) | dT (kvs : List (List Key × V))
  | set (S : Int → Bool) (n : Nat)
  | ins (C dx : Addr) (fs : List (Str × V))
  | own (x : Addr)
  | xd (fs : List (Str × V))
  | met (f x : Addr)
  | rng (lo hi : Int)
  | frz (o : Obj) (u : HO)
  | tbl (ps : Array Value)
  | ext (φ : Heap → Prop)
abbrev Hp := Addr → Option HO
def upd (H : Hp) (a : Addr) (o : HO) : Hp := fun b => if b = a then some o else H b
theorem upd_same {H : Hp} {a : Addr} {o : HO} : upd H a o a = some o := by unfold upd; rw [if_pos rfl]
theorem upd_ne {H : Hp} {a b : Addr} {o : HO} (h : b ≠ a) : upd H a o b = H b := by unfold upd; rw [if_neg h]
theorem upd_upd {H : Hp} {a : Addr} {o u : HO} : upd (upd H a o) a u = upd H a u := by
  funext b; unfold upd; split <;> rfl
theorem ne_of {H : Hp} {a b : Addr} {o u : HO} (h : H a = some o) (h' : H b = some u) (d : o ≠ u) : a ≠ b := by
  intro e; subst e; rw [h] at h'; exact d (Option.some.inj h')
theorem ne_of_none {H : Hp} {a b : Addr} {o : HO} (h : H a = some o) (h' : H b = none) : a ≠ b := by
  intro e; subst e; rw [h] at h'; cases h'
section
variable (P : Program) (w : World)
def ObjOk (H : Hp) (h : Heap) (a : Addr) : HO → Prop
  | .lst xs => xs.length ≤ sizeLine ∧ ∃ (its : List Value) (n : Nat), Vals xs its ∧ h.get? a = some { cls := .type "list", data := .seq its.toArray n }
  | .tup xs => xs.length ≤ sizeLine ∧ ∃ its : List Value, Vals xs its ∧ IsTup h a its.toArray
  | .dK kvs => kvs.length ≤ sizeLine ∧ (a == sysModules) = false ∧ ∃ vs, KV kvs vs ∧ h.DictOf (mixKind P w) a vs
  | .dT kvs => kvs.length ≤ sizeLine ∧ (a == sysModules) = false ∧ ∃ xs : List (List Key × Addr × Value),
      Paired (fun (p : List Key × V) (q : List Key × Addr × Value) => p.1 = q.1 ∧ H q.2.1 = some (.tup (p.1.map kV)) ∧ RelV p.2 q.2.2) kvs xs ∧
      ∃ o es ep, h.get? a = some o ∧ o.ExactDict ∧ o.data = .dict es ep ∧ es.toList = xs.map (entryOfKey (tupleKind (mixKind P w))) ∧ (xs.map (·.1)).Nodup
  | .set S n => h.SetOf (intKind P w) a S n
  | .ins C dx fs => H dx = some (.own a) ∧ fs.length ≤ 1000 ∧ dx ≠ a ∧ h.get? a = some (PySem.W.instObj C dx) ∧
      ∃ mA, h.Ns1 dx mA ∧ (∀ f, RelO (fs.lookup f) (mA f)) ∧ PySem.Within mA (fs.map (·.1))
  | .own _ => ∃ o, h.get? a = some o
  | .xd fs => ∃ mA, h.Ns1 a mA ∧ ∀ f, RelO (fs.lookup f) (mA f)
  | .rng lo hi => ∃ t u v, h.get? a = some { cls := .type "range", data := .fields #[.int lo t, .int hi u, .int 1 v] }
  | .frz o u => h.get? a = some o ∧ ObjOk H h a u
  | .tbl ps => h.get? a = some { cls := .none, data := .fields ps }
  | .met f x => h.get? a = some (PySem.W.methodObj (.ref f) (.ref x))
  | .ext φ => φ h ∧ (∃ o, h.get? a = some o) ∧ ∀ h1 h2 : Heap, φ h1 → (∀ o, h1.get? a = some o → h2.get? a = some o) → φ h2
def HOk (H : Hp) (h : Heap) : Prop := ∀ a o, H a = some o → ObjOk P w H h a o
end
section
variable {P : Program} {w : World} {H H' : Hp} {h h' : Heap} {a : Addr} {o : HO}
theorem ObjOk.lt (x : ObjOk P w H h a o) : a < h.objs.size := by
  cases o with
  | lst xs => obtain ⟨_, _, _, _, e⟩ := x; exact Heap.lt_size e
  | tup xs => obtain ⟨_, _, _, p⟩ := x; exact p.lt
  | dK kvs => obtain ⟨_, _, _, _, o, _, _, e, _⟩ := x; exact Heap.lt_size e
  | dT kvs => obtain ⟨_, _, _, _, o, _, _, e, _⟩ := x; exact Heap.lt_size e
  | set S n => obtain ⟨o, _, _, _, e, _⟩ := x; exact Heap.lt_size e
  | ins C dx fs => obtain ⟨_, _, _, e, _⟩ := x; exact Heap.lt_size e
  | own y => obtain ⟨_, e⟩ := x; exact Heap.lt_size e
  | xd fs => obtain ⟨_, ⟨_, _, _, e, _⟩, _⟩ := x; exact Heap.lt_size e
  | rng lo hi => obtain ⟨_, _, _, e⟩ := x; exact Heap.lt_size e
  | frz ob u => obtain ⟨e, _⟩ := x; exact Heap.lt_size e
  | tbl ps => exact Heap.lt_size (show h.get? a = some _ from x)
  | met f y => exact Heap.lt_size (show h.get? a = some _ from x)
  | ext φ => obtain ⟨_, ⟨_, e⟩, _⟩ := x; exact Heap.lt_size e
theorem Paired.mapP {α β : Type} {F G : α → β → Prop} : ∀ {l₁ : List α} {l₂ : List β}, Paired F l₁ l₂ → (∀ a b, F a b → G a b) → Paired G l₁ l₂
  | _, _, .nil, _ => .nil
  | _, _, .cons r t, f => .cons (f _ _ r) (Paired.mapP t f)
theorem ObjOk.stay (x : ObjOk P w H h a o) (k : ∀ b u, (b = a ∨ H b = some (.own a)) → h.get? b = some u → h'.get? b = some u)
    (ho : ∀ b, H b = some (.own a) → H' b = some (.own a)) (ht : ∀ b xs, H b = some (.tup xs) → H' b = some (.tup xs)) : ObjOk P w H' h' a o := by
  induction o with
  | lst xs => obtain ⟨z, its, n, r, e⟩ := x; exact ⟨z, its, n, r, k _ _ (.inl rfl) e⟩
  | tup xs => obtain ⟨z, its, r, ob, e, c⟩ := x; exact ⟨z, its, r, ob, k _ _ (.inl rfl) e, c⟩
  | dK kvs => obtain ⟨z, y, vs, r, ob, es, ep, e, c⟩ := x; exact ⟨z, y, vs, r, ob, es, ep, k _ _ (.inl rfl) e, c⟩
  | dT kvs =>
    obtain ⟨z, y, xs, r, ob, es, ep, e, c⟩ := x
    exact ⟨z, y, xs, Paired.mapP r fun p q z => ⟨z.1, ht _ _ z.2.1, z.2.2⟩, ob, es, ep, k _ _ (.inl rfl) e, c⟩
  | set S n => obtain ⟨ob, es, ep, t, e, c⟩ := x; exact ⟨ob, es, ep, t, k _ _ (.inl rfl) e, c⟩
  | ins C dx fs =>
    obtain ⟨d, z, ne, e, mA, ⟨od, es, ep, e2, c⟩, r⟩ := x
    exact ⟨ho _ d, z, ne, k _ _ (.inl rfl) e, mA, ⟨od, es, ep, k _ _ (.inr d) e2, c⟩, r⟩
  | own y => obtain ⟨ob, e⟩ := x; exact ⟨ob, k _ _ (.inl rfl) e⟩
  | xd fs => obtain ⟨mA, ⟨od, es, ep, e, c⟩, r⟩ := x; exact ⟨mA, ⟨od, es, ep, k _ _ (.inl rfl) e, c⟩, r⟩
  | rng lo hi => obtain ⟨t, u, v, e⟩ := x; exact ⟨t, u, v, k _ _ (.inl rfl) e⟩
  | frz ob u ih => obtain ⟨e, q⟩ := x; exact ⟨k _ _ (.inl rfl) e, ih q⟩
  | tbl ps =>
    have e : h.get? a = some { cls := .none, data := .fields ps } := x
    show h'.get? a = some { cls := .none, data := .fields ps }
    exact k a _ (.inl rfl) e
  | met f y =>
    have e : h.get? a = some (PySem.W.methodObj (.ref f) (.ref y)) := x
    show h'.get? a = some (PySem.W.methodObj (.ref f) (.ref y))
    exact k a _ (.inl rfl) e
  | ext φ => obtain ⟨p, ⟨o, e⟩, st⟩ := x; exact ⟨st _ _ p fun o q => k _ _ (.inl rfl) q, ⟨o, k _ _ (.inl rfl) e⟩, st⟩
theorem HOk.lt (x : HOk P w H h) (e : H a = some o) : a < h.objs.size := (x a o e).lt
theorem HOk.fresh (x : HOk P w H h) (e : h.objs.size ≤ a) : H a = none := by
  cases q : H a with
  | none => rfl
  | some u => exact absurd (Nat.lt_of_lt_of_le (x.lt q) e) (Nat.lt_irrefl _)
theorem HOk.kept (x : HOk P w H h) (k : ∀ b u, h.get? b = some u → h'.get? b = some u) : HOk P w H h' := fun a o e =>
  (x a o e).stay (fun b u _ q => k b u q) (fun _ q => q) fun _ _ q => q
theorem HOk.laid (x : HOk P w H h) (k : ∀ b u, h.get? b = some u → h'.get? b = some u) (hp : h.objs.size ≤ a) (new : ObjOk P w (upd H a o) h' a o) : HOk P w (upd H a o) h' := fun b u e => by
  have hn := x.fresh hp
  by_cases hb : b = a
  · subst hb; rw [upd_same] at e; cases e; exact new
  · rw [upd_ne hb] at e
    exact (x b u e).stay (fun c v _ q => k c v q) (fun c q => by rw [upd_ne (ne_of_none q hn)]; exact q) fun c xs q => by rw [upd_ne (ne_of_none q hn)]; exact q
end
def Rd (H : Hp) (a : Addr) (u : HO) : Prop := H a = some u ∨ ∃ o, H a = some (.frz o u)
theorem Rd.ok {P : Program} {w : World} {H : Hp} {h : Heap} {a : Addr} {u : HO} (r : Rd H a u) (x : HOk P w H h) : ObjOk P w H h a u := by
  rcases r with r | ⟨o, r⟩
  · exact x a u r
  · obtain ⟨_, q⟩ := x a _ r
    exact q
def Mut : Option HO → Prop
  | some (.lst _) => True
  | some (.dK _) => True
  | some (.dT _) => True
  | some (.set _ _) => True
  | some (.ins _ _ _) => True
  | some (.ext _) => True
  | _ => False
section
variable {P : Program} {w : World} {H : Hp} {h h' : Heap} {x e : Addr} {o' : HO}
theorem HOk.write (ok : HOk P w H h) (mu : Mut (H x)) (he : e = x ∨ H e = some (.own x)) (k : ∀ b u, b ≠ e → h.get? b = some u → h'.get? b = some u) (heo : ∃ u, h'.get? e = some u)
    (new : ObjOk P w (upd H x o') h' x o') : HOk P w (upd H x o') h' := fun b u q => by
  have nown : ∀ c y, H c = some (.own y) → c ≠ x := fun c y r z => by subst z; rw [r] at mu; exact mu
  have ntup : ∀ c xs, H c = some (.tup xs) → c ≠ x := fun c xs r z => by subst z; rw [r] at mu; exact mu
  by_cases hb : b = x
  · subst hb; rw [upd_same] at q; cases q; exact new
  · rw [upd_ne hb] at q
    by_cases hbe : b = e
    · have q' : H b = some (.own x) := by
        rcases he with z | z
        · exact absurd (hbe.trans z) hb
        · rw [hbe]; exact z
      rw [q] at q'; cases q'
      obtain ⟨v, hv⟩ := heo
      exact ⟨v, by rw [hbe]; exact hv⟩
    · refine (ok b u q).stay (fun c v hc r => k c v ?_ r) (fun c r => by rw [upd_ne (nown c b r)]; exact r) fun c xs r => by rw [upd_ne (ntup c xs r)]; exact r
      rcases hc with rfl | hc
      · exact hbe
      · rintro rfl
        rcases he with z | z
        · exact nown c b hc z
        · rw [hc] at z; cases z; exact hb rfl
end
structure Un (fs ex : List Addr) (H H' : Hp) (h h' : Heap) : Prop where
  keep : ∀ b o, h.get? b = some o → H b = none → b ∉ fs → b ∉ ex → h'.get? b = some o
  slot : ∀ b o, h.get? b = some o → H b = none → b ∈ fs → b ∉ ex → ∃ sl, h'.get? b = some { o with slots := sl }
  free : ∀ b o, h.get? b = some o → H b = none → b ∉ ex → H' b = none
  there : ∀ b o, h.get? b = some o → b ∉ ex → ∃ o', h'.get? b = some o'
  tups : ∀ b xs, H b = some (.tup xs) → H' b = some (.tup xs)
  frzs : ∀ b o u, H b = some (.frz o u) → H' b = some (.frz o u)
  tbls : ∀ b ps, H b = some (.tbl ps) → ∃ more, H' b = some (.tbl (ps ++ more))
section
variable {fs fs' ex ex' : List Addr} {H H1 H2 : Hp} {h h1 h2 h' : Heap} {a x e : Addr} {o : HO}
theorem Un.any (u : Un fs ex H H1 h h1) {b : Addr} {ob : Obj} (q : h.get? b = some ob) (n : H b = none) (hx : b ∉ ex) : ∃ sl, h1.get? b = some { ob with slots := sl } := by
  by_cases hb : b ∈ fs
  · exact u.slot b ob q n hb hx
  · exact ⟨ob.slots, u.keep b ob q n hb hx⟩
theorem Un.kept (k : ∀ b u, h.get? b = some u → h'.get? b = some u) : Un fs ex H H h h' :=
  ⟨fun b ob q _ _ _ => k b ob q, fun b ob q _ _ _ => ⟨ob.slots, k b ob q⟩, fun _ _ _ n _ => n, fun b ob q _ => ⟨ob, k b ob q⟩, fun _ _ q => q, fun _ _ _ q => q, fun _ ps q => ⟨#[], by rw [q]; simp⟩⟩
theorem Un.refl : Un fs ex H H h h := Un.kept fun _ _ q => q
theorem Un.laid (k : ∀ b u, h.get? b = some u → h'.get? b = some u) (hp : h.objs.size ≤ a) (hn : H a = none) : Un fs ex H (upd H a o) h h' where
  keep := fun b u q _ _ _ => k b u q
  slot := fun b u q _ _ _ => ⟨u.slots, k b u q⟩
  free := fun b u q n _ => by rw [upd_ne (Nat.ne_of_lt (Nat.lt_of_lt_of_le (Heap.lt_size q) hp))]; exact n
  there := fun b u q _ => ⟨u, k b u q⟩
  tups := fun b xs q => by rw [upd_ne (ne_of_none q hn)]; exact q
  frzs := fun b u xs q => by rw [upd_ne (ne_of_none q hn)]; exact q
  tbls := fun b ps q => ⟨#[], by rw [upd_ne (ne_of_none q hn), q]; simp⟩
theorem Un.write (mu : Mut (H x)) (he : e = x ∨ H e = some (.own x)) (k : ∀ b u, b ≠ e → h.get? b = some u → h'.get? b = some u) (heo : ∃ u, h'.get? e = some u) : Un fs ex H (upd H x o) h h' := by
  have hx : ∀ b, H b = none → b ≠ x := fun b n z => by subst z; rw [n] at mu; exact mu
  have hb : ∀ b, H b = none → b ≠ e := fun b n z => by
    subst z
    rcases he with r | r
    · exact hx b n r
    · rw [n] at r; cases r
  have hm : ∀ b u, H b = some u → ¬ Mut (some u) → b ≠ x := fun b u q nm z => by subst z; rw [q] at mu; exact nm mu
  refine ⟨fun b u q n _ _ => k b u (hb b n) q, fun b u q n _ _ => ⟨u.slots, k b u (hb b n) q⟩, fun b u q n _ => by rw [upd_ne (hx b n)]; exact n, fun b u q _ => ?_,
    fun b xs q => by rw [upd_ne (hm b _ q fun z => z)]; exact q, fun b u xs q => by rw [upd_ne (hm b _ q fun z => z)]; exact q, fun b ps q => ⟨#[], by rw [upd_ne (hm b _ q fun z => z), q]; simp⟩⟩
  by_cases hbe : b = e
  · subst hbe; exact heo
  · exact ⟨u, k b u hbe q⟩
end
def trk (h : Heap) (H : Hp) : List Addr := (List.range h.objs.size).filter fun a => (H a).isSome
def hidT (h : Heap) (H : Hp) : Heap := PySem.W.hideAll h (trk h H)
theorem hidT_size (h : Heap) (H : Hp) : (hidT h H).objs.size = h.objs.size := PySem.W.hideAll_size _ _
theorem hidT_get {h : Heap} {H : Hp} {b : Addr} {o : Obj} (e : h.get? b = some o) (n : H b = none) : (hidT h H).get? b = some o :=
  PySem.W.hideAll_get _ e fun hm => by
    have q : (H b).isSome = true := (List.mem_filter.mp hm).2
    rw [n] at q; simp at q
theorem of_hidT {h : Heap} {H : Hp} {b : Addr} {o : Obj} (e : (hidT h H).get? b = some o) : h.get? b = some o ∧ H b = none := by
  have e' : h.get? b = some o := PySem.W.of_hideAll (trk h H) e
  refine ⟨e', ?_⟩
  cases q : H b with
  | none => rfl
  | some x =>
    have hm : b ∈ trk h H := List.mem_filter.mpr ⟨List.mem_range.mpr (Heap.lt_size e'), by simp [q]⟩
    have z : (hidT h H).get? b = none := PySem.W.hideAll_none (trk h H) hm
    rw [z] at e; cases e
end L2
namespace L2
open PySem PySem.Spec PyProof.Rows
structure Mod (K : PySem.W.Frag) (mg : Str → Option Value) (base : Heap) : Prop where
  kin : K.In base
  glob : base.Ns mainGlobals mg
  blt : ∃ mb, base.Ns builtinsNs mb ∧ ∀ x : Str, x ≠ "__name__" → mb x = bootBuiltins x
  nolimit : base.NoLimit
structure Cx where
  prog : Program
  w : World
  K : PySem.W.Frag
  mg : Str → Option Value
  base : Heap
  A : Around
  N : List Str
  s_0 : Shared
  H_0 : Hp
  env : Env
  outer : List Env
  stack : List Env
  ex : List Addr
  fn : Str → Bool
  calm : Bool
  pn : List (Addr × Obj)
  xe : Value → Shared → Prop
def frs (l : List Env) : List Addr := l.filterMap (·.frame)
abbrev Cx.fs (X : Cx) : List Addr := frs X.outer
def Vis (sc : Scope) (x : Str) : Prop := sc.names.lookup x = some .local ∨ sc.names.lookup x = some .cell ∨ sc.names.lookup x = some .free
def Loc (sc : Scope) (x : Str) : Prop := sc.names.lookup x = some .local ∨ sc.names.lookup x = some .cell
def Look (env : Env) (h : Heap) (m : Str → Option Value) (x : Str) (u : Value) : Prop :=
  (env.kindOf x = some .local ∧ m x = some u) ∨ ((env.kindOf x = some .cell ∨ env.kindOf x = some .free) ∧ ∃ c, env.cells.lookup x = some c ∧ h.IsCell c (some u))
structure Cx.Ok (X : Cx) : Prop where
  mod : Mod X.K X.mg X.base
  kind : X.env.scope.kind = .function
  glob : X.env.globals = mainGlobals
  blt : X.env.builtins = builtinsNs
  above : X.s_0.heap.objs.size ≤ X.env.locals
  inj : ∀ x y c, X.env.cells.lookup x = some c → X.env.cells.lookup y = some c → x = y
  has : ∀ x, (X.env.kindOf x = some .cell ∨ X.env.kindOf x = some .free) → ∃ c, X.env.cells.lookup x = some c
  cab : ∀ x c, X.fn x = true → X.env.cells.lookup x = some c → X.s_0.heap.objs.size ≤ c
  hd : X.calm = true → X.A.handled = none
  frames : X.A.frames = some X.stack
  stk : X.stack = X.outer ∨ (X.stack = X.env :: X.outer ∧ X.env.frame = some X.env.locals)
  exf : ∀ b ∈ X.ex, b ≠ X.env.locals ∧ ∀ x c, X.env.cells.lookup x = some c → c ≠ b
  bs : ∀ b o, X.base.get? b = some o → X.s_0.heap.get? b = some o ∧ X.H_0 b = none
  bsz : X.base.objs.size ≤ X.s_0.heap.objs.size
  noex : ∀ b o, X.base.get? b = some o → b ∉ X.ex
  exfs : ∀ b ∈ X.ex, b ∉ X.fs
  funs : X.s_0.heap.FunFrames X.base X.outer
  frf : ∀ b ∈ X.fs, X.H_0 b = none
structure Inv (X : Cx) (pins : List (Addr × Obj)) (σ : List (Option V)) (H : Hp) (s : Shared) : Prop where
  ok : X.Ok
  os : s.os = X.s_0.os
  bare : AllBare s.gens
  base : Un X.fs X.ex X.H_0 H X.s_0.heap s.heap
  loc : ∃ m, s.heap.Ns X.env.locals m ∧ ∀ (i : Nat) (x : Str) (v : V), X.N[i]? = some x → σ[i]? = some (some v) → Vis X.env.scope x → ∃ u, RelV v u ∧ Look X.env s.heap m x u
  cell : ∀ x c, X.env.cells.lookup x = some c → ∃ v, s.heap.IsCell c v
  free : H X.env.locals = none
  freeC : ∀ x c, X.env.cells.lookup x = some c → H c = none
  pin : ∀ p ∈ X.pn ++ pins, s.heap.get? p.1 = some p.2 ∧ H p.1 = none ∧ p.1 ≠ X.env.locals ∧ p.1 ∉ X.fs ∧ ∀ v, p.2.data ≠ .cell v
  hok : HOk X.prog X.w H s.heap
  len : σ.length = X.N.length
section
variable {X : Cx} {pins : List (Addr × Obj)} {σ : List (Option V)} {H H' : Hp} {s : Shared} {h' : Heap}
theorem Cx.Ok.nofr (ok : X.Ok) {b : Addr} {o : Obj} (e : X.base.get? b = some o) : b ∉ X.fs := fun hb => by
  have := (ok.funs.mem hb).1
  rw [e] at this; cases this
theorem Inv.bs (I : Inv X pins σ H s) : ∀ b o, X.base.get? b = some o → s.heap.get? b = some o ∧ H b = none := fun b o e =>
  ⟨I.base.keep b o (I.ok.bs b o e).1 (I.ok.bs b o e).2 (I.ok.nofr e) (I.ok.noex b o e), I.base.free b o (I.ok.bs b o e).1 (I.ok.bs b o e).2 (I.ok.noex b o e)⟩
theorem Inv.bk (I : Inv X pins σ H s) : ∀ b o, X.base.get? b = some o → s.heap.get? b = some o := fun b o e => (I.bs b o e).1
theorem Inv.mod (I : Inv X pins σ H s) : Mod X.K X.mg X.base := I.ok.mod
theorem Inv.kIn (I : Inv X pins σ H s) : X.K.In s.heap := I.ok.mod.kin.keeps I.bk
theorem Inv.lt (I : Inv X pins σ H s) : X.env.locals < s.heap.objs.size := let ⟨_, hn, _⟩ := I.loc; hn.lt
theorem Inv.sz (I : Inv X pins σ H s) : X.s_0.heap.objs.size ≤ s.heap.objs.size := Nat.le_trans I.ok.above (Nat.le_of_lt I.lt)
theorem Inv.nofs (I : Inv X pins σ H s) {a : Addr} (h : s.heap.objs.size ≤ a) : a ∉ X.fs := fun hb => by
  obtain ⟨_, o, ho, _⟩ := I.ok.funs.mem hb
  exact absurd (Nat.lt_of_lt_of_le (Heap.lt_size ho) (Nat.le_trans I.sz h)) (Nat.lt_irrefl _)
theorem Inv.cne (I : Inv X pins σ H s) : ∀ x c, X.env.cells.lookup x = some c → c ≠ X.env.locals := fun x c e z => by
  obtain ⟨v, o, ho, hd⟩ := I.cell x c e
  obtain ⟨m, ⟨o', es, ep, ho', hd', _⟩, _⟩ := I.loc
  rw [z, ho'] at ho; cases ho; rw [hd'] at hd; cases hd
theorem Inv.funs (I : Inv X pins σ H s) : s.heap.FunFrames X.base X.outer := by
  have all : ∀ (l : List Env), (∀ b ∈ frs l, b ∈ X.fs) → X.s_0.heap.FunFrames X.base l → s.heap.FunFrames X.base l := by
    intro l
    induction l with
    | nil => intro _ _; trivial
    | cons env r ih =>
      intro hs hl
      obtain ⟨hk, ⟨L, o, hf, hn, ho, hd⟩, hr⟩ := hl
      have hL : L ∈ X.fs := hs L (by unfold frs; rw [List.filterMap_cons, hf]; exact List.mem_cons_self)
      obtain ⟨sl, e⟩ := I.base.slot L o ho (I.ok.frf L hL) hL fun z => I.ok.exfs L z hL
      exact ⟨hk, ⟨L, _, hf, hn, e, hd⟩, ih (fun b hb => hs b (by unfold frs; rw [List.filterMap_cons, hf]; exact List.mem_cons_of_mem _ hb)) hr⟩
  exact all X.outer (fun _ hb => hb) I.ok.funs
theorem Inv.stack (I : Inv X pins σ H s) : s.heap.FunFrames X.base X.stack := by
  rcases I.ok.stk with e | ⟨e, hf⟩
  · rw [e]; exact I.funs
  · rw [e]
    obtain ⟨m, hn, _⟩ := I.loc
    refine .cons (by rw [I.ok.kind]; decide) hf hn ?_ I.funs
    exact Heap.get?_none_of_le (Nat.le_trans I.ok.bsz I.ok.above)
theorem Inv.stkSub (I : Inv X pins σ H s) : ∀ b ∈ frs X.stack, b ∈ X.env.locals :: X.fs := fun b hb => by
  rcases I.ok.stk with e | ⟨e, hf⟩
  · rw [e] at hb; exact List.mem_cons_of_mem _ hb
  · rw [e] at hb
    unfold frs at hb
    rw [List.filterMap_cons, hf] at hb
    exact hb
theorem Inv.stkFree (I : Inv X pins σ H s) : ∀ b ∈ frs X.stack, H b = none := fun b hb => by
  rcases List.mem_cons.mp (I.stkSub b hb) with e | hb
  · rw [e]; exact I.free
  · obtain ⟨_, o, ho, _⟩ := I.ok.funs.mem hb
    exact I.base.free b o ho (I.ok.frf b hb) fun z => I.ok.exfs b z hb
theorem Inv.step {g' : Array GenState} {t' : Nat} {d' : Drawn} {ch : List Addr} (I : Inv X pins σ H s)
    (hch : ∀ b ∈ ch, (b ∈ X.ex ∨ X.s_0.heap.objs.size ≤ b) ∧ b ≠ X.env.locals ∧ (∀ x c, X.env.cells.lookup x = some c → c ≠ b) ∧ ∀ p ∈ X.pn ++ pins, p.1 ≠ b)
    (keep : ∀ b o, b ≠ X.env.locals → b ∉ X.fs → b ∉ ch → s.heap.get? b = some o → H b = none → h'.get? b = some o)
    (slot : ∀ b o, b ≠ X.env.locals → b ∈ X.fs → b ∉ ch → s.heap.get? b = some o → H b = none → ∃ sl, h'.get? b = some { o with slots := sl }) (free : ∀ b o, b ∉ ch → s.heap.get? b = some o → H b = none → H' b = none)
    (there : ∀ b o, b ∉ ch → s.heap.get? b = some o → ∃ o', h'.get? b = some o')
    (tups : ∀ b xs, H b = some (.tup xs) → H' b = some (.tup xs)) (frzs : ∀ b o u, H b = some (.frz o u) → H' b = some (.frz o u)) (tbls : ∀ b ps, H b = some (.tbl ps) → ∃ more, H' b = some (.tbl (ps ++ more)))
    (ns : ∀ m, s.heap.Ns X.env.locals m → h'.Ns X.env.locals m) (hok : HOk X.prog X.w H' h') (hg : AllBare g') :
    Inv X pins σ H' { s with heap := h', gens := g', drawn := d', toks := t' } := by
  have neL : ∀ b o, X.s_0.heap.get? b = some o → b ≠ X.env.locals := fun b o e => Nat.ne_of_lt (Nat.lt_of_lt_of_le (Heap.lt_size e) I.ok.above)
  have neC : ∀ b o, X.s_0.heap.get? b = some o → b ∉ X.ex → b ∉ ch := fun b o e hx hb => by
    rcases (hch b hb).1 with z | z
    · exact hx z
    · exact absurd (Nat.lt_of_lt_of_le (Heap.lt_size e) z) (Nat.lt_irrefl _)
  have cellK : ∀ x c, X.env.cells.lookup x = some c → ∀ v, s.heap.IsCell c v → h'.IsCell c v := fun x c e v ⟨o, ho, hd⟩ => by
    have nch : c ∉ ch := fun z => (hch c z).2.2.1 x c e rfl
    by_cases hc : c ∈ X.fs
    · obtain ⟨sl, q⟩ := slot c o (I.cne x c e) hc nch ho (I.freeC x c e)
      exact ⟨_, q, hd⟩
    · exact ⟨o, keep c o (I.cne x c e) hc nch ho (I.freeC x c e), hd⟩
  refine ⟨I.ok, I.os, hg, ⟨fun b o e n hb hx => ?_, fun b o e n hb hx => ?_, fun b o e n hx => ?_, fun b o e hx => ?_, fun b xs e => tups b xs (I.base.tups b xs e), fun b o xs e => frzs b o xs (I.base.frzs b o xs e), fun b ps e => ?_⟩, ?_, fun x c e => ?_, ?_, fun x c e => ?_, fun p hp => ?_, hok, I.len⟩
  · exact keep b o (neL b o e) hb (neC b o e hx) (I.base.keep b o e n hb hx) (I.base.free b o e n hx)
  · obtain ⟨sl, e1⟩ := I.base.slot b o e n hb hx
    obtain ⟨sl', e2⟩ := slot b _ (neL b o e) hb (neC b o e hx) e1 (I.base.free b o e n hx)
    exact ⟨sl', e2⟩
  · obtain ⟨o', e1⟩ := I.base.there b o e hx
    exact free b o' (neC b o e hx) e1 (I.base.free b o e n hx)
  · obtain ⟨o', e1⟩ := I.base.there b o e hx
    exact there b o' (neC b o e hx) e1
  · obtain ⟨m1, e1⟩ := I.base.tbls b ps e
    obtain ⟨m2, e2⟩ := tbls b _ e1
    exact ⟨m1 ++ m2, by rw [e2, Array.append_assoc]⟩
  · obtain ⟨m, hn, hl⟩ := I.loc
    refine ⟨m, ns m hn, fun i x v e1 e2 e3 => ?_⟩
    obtain ⟨u, r, l⟩ := hl i x v e1 e2 e3
    refine ⟨u, r, ?_⟩
    rcases l with l | ⟨k, c, e, z⟩
    · exact .inl l
    · exact .inr ⟨k, c, e, cellK x c e _ z⟩
  · obtain ⟨v, z⟩ := I.cell x c e
    exact ⟨v, cellK x c e v z⟩
  · obtain ⟨m, ⟨o, _, _, ho, _⟩, _⟩ := I.loc
    exact free _ o (fun z => (hch _ z).2.1 rfl) ho I.free
  · obtain ⟨v, o, ho, hd⟩ := I.cell x c e
    exact free c o (fun z => (hch c z).2.2.1 x c e rfl) ho (I.freeC x c e)
  · obtain ⟨e, n, ne, nf, d⟩ := I.pin p hp
    have nch : p.1 ∉ ch := fun z => (hch p.1 z).2.2.2 p hp rfl
    exact ⟨keep p.1 p.2 ne nf nch e n, free p.1 p.2 nch e n, ne, nf, d⟩
theorem Inv.un {t' : Nat} (I : Inv X pins σ H s) (u : Un X.fs [] H H' s.heap h') (hok : HOk X.prog X.w H' h') : Inv X pins σ H' { s with heap := h', toks := t' } := by
  obtain ⟨m, ⟨o, es, ep, ho, r⟩, _⟩ := id I.loc
  obtain ⟨sl, hL⟩ := u.any ho I.free (by simp)
  exact I.step (g' := s.gens) (d' := s.drawn) (ch := []) (fun _ z => nomatch z) (fun b o _ hb _ e n => u.keep b o e n hb (by simp)) (fun b o _ hb _ e n => u.slot b o e n hb (by simp)) (fun b o _ e n => u.free b o e n (by simp)) (fun b o _ e => u.there b o e (by simp)) u.tups u.frzs u.tbls (fun m' hm => by
    obtain ⟨o', es', ep', ho', r'⟩ := hm
    rw [ho] at ho'; cases ho'
    exact ⟨_, es', ep', hL, r'⟩) hok I.bare
theorem Inv.call {g' : Array GenState} {t' : Nat} {d' : Drawn} {ch : List Addr} (I : Inv X pins σ H s) (u : Un (frs X.stack) ch H H' s.heap h') (hok : HOk X.prog X.w H' h') (hg : AllBare g')
    (hch : ∀ b ∈ ch, (b ∈ X.ex ∨ X.s_0.heap.objs.size ≤ b) ∧ b ≠ X.env.locals ∧ (∀ x c, X.env.cells.lookup x = some c → c ≠ b) ∧ ∀ p ∈ X.pn ++ pins, p.1 ≠ b) :
    Inv X pins σ H' { s with heap := h', gens := g', drawn := d', toks := t' } := by
  obtain ⟨m, ⟨o, es, ep, ho, r⟩, _⟩ := id I.loc
  obtain ⟨sl, hL⟩ := u.any ho I.free fun z => (hch _ z).2.1 rfl
  exact I.step (ch := ch) hch (fun b o hL hb hc e n => u.keep b o e n (fun z => (List.mem_cons.mp (I.stkSub b z)).elim hL hb) hc) (fun b o _ _ hc e n => u.any e n hc) (fun b o hc e n => u.free b o e n hc) (fun b o hc e => u.there b o e hc) u.tups u.frzs u.tbls (fun m' hm => by
    obtain ⟨o', es', ep', ho', r'⟩ := hm
    rw [ho] at ho'; cases ho'
    exact ⟨_, es', ep', hL, r'⟩) hok hg
theorem Inv.turned {t' : Nat} {it : Addr} (I : Inv X pins σ H s) (k : ∀ b o, b ≠ it → s.heap.get? b = some o → h'.get? b = some o) (hn : H it = none) (hL : it ≠ X.env.locals)
    (h1 : it ∈ X.ex ∨ X.s_0.heap.objs.size ≤ it) (h2 : ∀ x c, X.env.cells.lookup x = some c → c ≠ it) (h3 : ∀ p ∈ X.pn ++ pins, p.1 ≠ it) : Inv X pins σ H { s with heap := h', toks := t' } := by
  have nit : ∀ b u, H b = some u → b ≠ it := fun b u e z => by rw [z, hn] at e; cases e
  refine I.step (g' := s.gens) (d' := s.drawn) (ch := [it]) (fun b hb => ?_) (fun b o _ _ hc e _ => k b o (fun z => hc (by simp [z])) e) (fun b o _ _ hc e _ => ⟨o.slots, k b o (fun z => hc (by simp [z])) e⟩) (fun _ _ _ _ n => n)
    (fun b o hc e => ⟨o, k b o (fun z => hc (by simp [z])) e⟩) (fun _ _ e => e) (fun _ _ _ e => e) (fun b ps e => ⟨#[], by rw [e]; simp⟩) (fun m hm => ?_) (fun b u e => ?_) I.bare
  · have e : b = it := by simpa using hb
    subst e
    exact ⟨h1, hL, h2, h3⟩
  · obtain ⟨o, es, ep, ho, r⟩ := hm
    exact ⟨o, es, ep, k _ o (Ne.symm hL) ho, r⟩
  · refine (I.hok b u e).stay (fun c v hc q => k c v ?_ q) (fun _ q => q) fun _ _ q => q
    rcases hc with z | z
    · rw [z]; exact nit b u e
    · exact nit c _ z
theorem Inv.tok (I : Inv X pins σ H s) (t : Nat) : Inv X pins σ H { s with toks := t } := I.un (h' := s.heap) (t' := t) Un.refl I.hok
theorem Inv.kept {t' : Nat} (I : Inv X pins σ H s) (k : ∀ b u, s.heap.get? b = some u → h'.get? b = some u) : Inv X pins σ H { s with heap := h', toks := t' } := I.un (Un.kept k) (I.hok.kept k)
theorem Inv.laid {a : Addr} {o : HO} {t' : Nat} (I : Inv X pins σ H s) (k : ∀ b u, s.heap.get? b = some u → h'.get? b = some u) (hp : s.heap.objs.size ≤ a) (new : ObjOk X.prog X.w (upd H a o) h' a o) :
    Inv X pins σ (upd H a o) { s with heap := h', toks := t' } := I.un (Un.laid k hp (I.hok.fresh hp)) (I.hok.laid k hp new)
theorem Inv.write {x e : Addr} {o : HO} {t' : Nat} (I : Inv X pins σ H s) (mu : Mut (H x)) (he : e = x ∨ H e = some (.own x)) (k : ∀ b u, b ≠ e → s.heap.get? b = some u → h'.get? b = some u) (heo : ∃ u, h'.get? e = some u)
    (new : ObjOk X.prog X.w (upd H x o) h' x o) : Inv X pins σ (upd H x o) { s with heap := h', toks := t' } := I.un (Un.write mu he k heo) (I.hok.write mu he k heo new)
theorem Inv.weak {σ' : List (Option V)} (I : Inv X pins σ H s) (hl : σ'.length = σ.length) (w : ∀ (i : Nat) v, σ'[i]? = some (some v) → σ[i]? = some (some v)) : Inv X pins σ' H s :=
  ⟨I.ok, I.os, I.bare, I.base, let ⟨m, hn, hl'⟩ := I.loc; ⟨m, hn, fun i x v e1 e2 e3 => hl' i x v e1 (w i v e2) e3⟩, I.cell, I.free, I.freeC, I.pin, I.hok, hl.trans I.len⟩
theorem Inv.pins_of {pins' : List (Addr × Obj)} (I : Inv X pins σ H s) (h : ∀ p ∈ pins', s.heap.get? p.1 = some p.2 ∧ H p.1 = none ∧ p.1 ≠ X.env.locals ∧ p.1 ∉ X.fs ∧ ∀ v, p.2.data ≠ .cell v) : Inv X pins' σ H s :=
  ⟨I.ok, I.os, I.bare, I.base, I.loc, I.cell, I.free, I.freeC, fun p hp => (List.mem_append.mp hp).elim (fun z => I.pin p (List.mem_append_left _ z)) (h p), I.hok, I.len⟩
theorem nodup_ix {N : List Str} (hN : N.Nodup) {i j : Nat} {x : Str} (a : N[i]? = some x) (b : N[j]? = some x) : i = j := by
  obtain ⟨h1, e1⟩ := List.getElem?_eq_some_iff.mp a
  obtain ⟨h2, e2⟩ := List.getElem?_eq_some_iff.mp b
  exact (List.getElem_inj hN).mp (e1.trans e2.symm)
theorem store_ok2 {M : Model} {A : Around} {E : Value → Shared → Prop} {i : Nat} {x : Str} {v : V} {u : Value} {Q : Unit → Shared → Prop} (I : Inv X pins σ H s) (hN : X.N.Nodup) (hi : X.N[i]? = some x) (hx : Loc X.env.scope x) (r : RelV v u)
    (h : ∀ s', Inv X pins (σ.set i (some v)) H s' → (∃ a, Heap.SameBut a s.heap s'.heap ∧ (a = X.env.locals ∨ X.env.cells.lookup x = some a)) → Q () s') (hf : X.fn x = true ∨ X.env.scope.names.lookup x = some .local := by first | exact .inl rfl | exact .inr rfl | assumption) : wpAny M A (storeName X.env x u) Q E s := by
  obtain ⟨m, hn, hl⟩ := id I.loc
  have hcls : (X.env.scope.kind == .class || (X.env.scope.kind == .module && X.env.locals != X.env.globals)) = false := by rw [I.ok.kind]; rfl
  have hiσ : i < σ.length := by rw [I.len]; exact (List.getElem?_eq_some_iff.mp hi).1
  have cne := I.cne
  have tracked : ∀ {a : Addr} {h' : Heap}, (∃ o, s.heap.get? a = some o ∧ H a = none) → Heap.SameBut a s.heap h' → HOk X.prog X.w H h' := fun {a h'} ha hs b ob e => by
    obtain ⟨_, _, hfree⟩ := ha
    refine (I.hok b ob e).stay (fun c w' hc q => (hs.2 c ?_).trans q) (fun _ q => q) fun _ _ q => q
    rintro rfl
    rcases hc with rfl | hc
    · rw [hfree] at e; cases e
    · rw [hfree] at hc; cases hc
  rcases hx with hk | hk
  · refine wpAny_storeName_local hk hn (fun h' hn' hs => ?_) hcls
    obtain ⟨oL, _, _, hoL, _⟩ := id hn
    refine h _ ⟨I.ok, I.os, I.bare, ⟨fun b o e n hb hx => ?_, fun b o e n hb hx => ?_, I.base.free, fun b o e hx => ?_, I.base.tups, I.base.frzs, I.base.tbls⟩, ⟨_, hn', fun j y v' e1 e2 e3 => ?_⟩, fun y c e => ?_, I.free, I.freeC, fun p hp => ?_, tracked ⟨oL, hoL, I.free⟩ hs, by simpa using I.len⟩ ⟨_, hs, .inl rfl⟩
    · exact (hs.2 b (Nat.ne_of_lt (Nat.lt_of_lt_of_le (Heap.lt_size e) I.ok.above))).trans (I.base.keep b o e n hb hx)
    · obtain ⟨sl, e1⟩ := I.base.slot b o e n hb hx
      exact ⟨sl, (hs.2 b (Nat.ne_of_lt (Nat.lt_of_lt_of_le (Heap.lt_size e) I.ok.above))).trans e1⟩
    · obtain ⟨o', e1⟩ := I.base.there b o e hx
      exact ⟨o', (hs.2 b (Nat.ne_of_lt (Nat.lt_of_lt_of_le (Heap.lt_size e) I.ok.above))).trans e1⟩
    · by_cases hj : j = i
      · subst hj
        rw [hi] at e1; cases e1
        rw [List.getElem?_set_self hiσ] at e2
        cases e2
        exact ⟨u, r, .inl ⟨hk, by simp⟩⟩
      · rw [List.getElem?_set_ne (Ne.symm hj)] at e2
        obtain ⟨u', r', q⟩ := hl j y v' e1 e2 e3
        refine ⟨u', r', ?_⟩
        rcases q with ⟨k, e⟩ | ⟨k, c, e, z⟩
        · refine .inl ⟨k, ?_⟩
          have : y ≠ x := fun e => hj (nodup_ix hN e1 (e ▸ hi))
          simp [this, e]
        · exact .inr ⟨k, c, e, z.sameBut hs (cne y c e)⟩
    · obtain ⟨w', z⟩ := I.cell y c e
      exact ⟨w', z.sameBut hs (cne y c e)⟩
    · obtain ⟨e, n, ne, nf, d⟩ := I.pin p hp
      exact ⟨(hs.2 p.1 ne).trans e, n, ne, nf, d⟩
  · have hfn : X.fn x = true := by
      rcases hf with z | z
      · exact z
      · rw [z] at hk; cases hk
    obtain ⟨c, hc⟩ := I.ok.has x (.inl hk)
    obtain ⟨w', z⟩ := I.cell x c hc
    refine wpAny_storeName_cell I.ok.kind hk hc z (fun h' hc' hs => ?_)
    obtain ⟨oc, hoc, hocd⟩ := id z
    refine h { s with heap := h' } ⟨I.ok, I.os, I.bare, ⟨fun b o e n hb hx => ?_, fun b o e n hb hx => ?_, I.base.free, fun b o e hx => ?_, I.base.tups, I.base.frzs, I.base.tbls⟩, ⟨m, hn.sameBut hs (Ne.symm (cne x c hc)), fun j y v' e1 e2 e3 => ?_⟩, fun y c' e => ?_, I.free, I.freeC, fun p hp => ?_, tracked ⟨oc, hoc, I.freeC x c hc⟩ hs, by simpa using I.len⟩ ⟨c, hs, .inr hc⟩
    · exact (hs.2 b (Nat.ne_of_lt (Nat.lt_of_lt_of_le (Heap.lt_size e) (I.ok.cab x c hfn hc)))).trans (I.base.keep b o e n hb hx)
    · obtain ⟨sl, e1⟩ := I.base.slot b o e n hb hx
      exact ⟨sl, (hs.2 b (Nat.ne_of_lt (Nat.lt_of_lt_of_le (Heap.lt_size e) (I.ok.cab x c hfn hc)))).trans e1⟩
    · obtain ⟨o', e1⟩ := I.base.there b o e hx
      exact ⟨o', (hs.2 b (Nat.ne_of_lt (Nat.lt_of_lt_of_le (Heap.lt_size e) (I.ok.cab x c hfn hc)))).trans e1⟩
    · by_cases hj : j = i
      · subst hj
        rw [hi] at e1; cases e1
        rw [List.getElem?_set_self hiσ] at e2
        cases e2
        exact ⟨u, r, .inr ⟨.inl hk, c, hc, hc'⟩⟩
      · rw [List.getElem?_set_ne (Ne.symm hj)] at e2
        obtain ⟨u', r', q⟩ := hl j y v' e1 e2 e3
        refine ⟨u', r', ?_⟩
        rcases q with q | ⟨k, c', e, z'⟩
        · exact .inl q
        · refine .inr ⟨k, c', e, z'.sameBut hs ?_⟩
          rintro rfl
          exact hj (nodup_ix hN e1 (I.ok.inj _ _ _ e hc ▸ hi))
    · by_cases hcc : c' = c
      · subst hcc; exact ⟨_, hc'⟩
      · obtain ⟨w2, z2⟩ := I.cell y c' e
        exact ⟨w2, z2.sameBut hs hcc⟩
    · obtain ⟨e, n, ne, nf, d⟩ := I.pin p hp
      refine ⟨(hs.2 p.1 ?_).trans e, n, ne, nf, d⟩
      intro q
      rw [q, hoc] at e
      have q' : oc = p.2 := Option.some.inj e
      exact d w' (by rw [← q']; exact hocd)
theorem store_ok {M : Model} {A : Around} {E : Value → Shared → Prop} {i : Nat} {x : Str} {v : V} {u : Value} {Q : Unit → Shared → Prop} (I : Inv X pins σ H s) (hN : X.N.Nodup) (hi : X.N[i]? = some x) (hx : Loc X.env.scope x) (r : RelV v u)
    (h : ∀ s', Inv X pins (σ.set i (some v)) H s' → Q () s') (hf : X.fn x = true ∨ X.env.scope.names.lookup x = some .local := by first | exact .inl rfl | exact .inr rfl | assumption) : wpAny M A (storeName X.env x u) Q E s :=
  store_ok2 I hN hi hx r (fun s' I' _ => h s' I') hf
theorem Inv.call' {s' : Shared} {ch : List Addr} (I : Inv X pins σ H s) (ho : s'.os = s.os) (u : Un (frs X.stack) ch H H' s.heap s'.heap) (hok : HOk X.prog X.w H' s'.heap) (hg : AllBare s'.gens)
    (hch : ∀ b ∈ ch, (b ∈ X.ex ∨ X.s_0.heap.objs.size ≤ b) ∧ b ≠ X.env.locals ∧ (∀ x c, X.env.cells.lookup x = some c → c ≠ b) ∧ ∀ p ∈ X.pn ++ pins, p.1 ≠ b) : Inv X pins σ H' s' := by
  obtain ⟨h', g', d', t', o'⟩ := s'
  have e : o' = s.os := ho
  subst e
  exact I.call (g' := g') (t' := t') (d' := d') u hok hg hch
end
abbrev XK := Value → Option Addr → Hp → Prop
abbrev St := List (Option V)
abbrev VK := V → Hp → Prop
abbrev TE := St → Hp → VK → Prop
abbrev TT := St → Hp → (Bool → Hp → Prop) → Prop
abbrev TA := St → Hp → (List V → Hp → Prop) → Prop
structure Ends where
  nx : St → Hp → Prop
  rt : VK
  bk : St → Hp → Prop := fun _ _ => False
  ct : St → Hp → Prop := fun _ _ => False
abbrev TS := Ends → St → Hp → Prop
def EP (X : Cx) (pins : List (Addr × Obj)) (σ : St) (Q : VK) (u : Value) (s' : Shared) : Prop := ∃ v H', Inv X pins σ H' s' ∧ RelV v u ∧ Q v H'
def TP (X : Cx) (pins : List (Addr × Obj)) (σ : St) (Q : Bool → Hp → Prop) (b : Bool) (s' : Shared) : Prop := ∃ H', Inv X pins σ H' s' ∧ Q b H'
def AP (X : Cx) (pins : List (Addr × Obj)) (σ : St) (Q : List V → Hp → Prop) (us : List Value) (s' : Shared) : Prop := ∃ vs H', Inv X pins σ H' s' ∧ Vals vs us ∧ Q vs H'
def SP (X : Cx) (pins : List (Addr × Obj)) (D : Ends) (f : Flow) (s' : Shared) : Prop :=
  match f with
  | .next => ∃ σ' H', Inv X pins σ' H' s' ∧ D.nx σ' H'
  | .brk => ∃ σ' H', Inv X pins σ' H' s' ∧ D.bk σ' H'
  | .cont => ∃ σ' H', Inv X pins σ' H' s' ∧ D.ct σ' H'
  | .ret u => ∃ v σ' H', Inv X pins σ' H' s' ∧ RelV v u ∧ D.rt v H'
def PE (X : Cx) (e : Expr) (t : TE) : Prop :=
  ∀ (pins : List (Addr × Obj)) (s : Shared) (σ : St) (H : Hp) (Q : VK), Inv X pins σ H s → t σ H Q → wpAny (model X.prog X.w) X.A (eval e X.env) (EP X pins σ Q) X.xe s
def PT (X : Cx) (e : Expr) (t : TT) : Prop :=
  ∀ (pins : List (Addr × Obj)) (s : Shared) (σ : St) (H : Hp) (Q : Bool → Hp → Prop), Inv X pins σ H s → t σ H Q → wpAny (model X.prog X.w) X.A (isTrue e X.env (eval e X.env)) (TP X pins σ Q) X.xe s
def PW (X : Cx) (e : Expr) (t : TT) : Prop :=
  ∀ (whole : Sem Value) (pins : List (Addr × Obj)) (s : Shared) (σ : St) (H : Hp) (Q : Bool → Hp → Prop), Inv X pins σ H s → t σ H Q → wpAny (model X.prog X.w) X.A (isTrue e X.env whole) (TP X pins σ Q) X.xe s
theorem PW.pt {X : Cx} {e : Expr} {t : TT} (h : PW X e t) : PT X e t := h _
def PA (X : Cx) (es : List Expr) (t : TA) : Prop :=
  ∀ (pos : Pos) (pins : List (Addr × Obj)) (s : Shared) (σ : St) (H : Hp) (Q : List V → Hp → Prop), Inv X pins σ H s → t σ H Q → wpAny (model X.prog X.w) X.A (spliced (backTo pos (starEach es X.env))) (AP X pins σ Q) X.xe s
def PS (X : Cx) (st : Stmt) (t : TS) : Prop :=
  ∀ (pins : List (Addr × Obj)) (s : Shared) (σ : St) (H : Hp) (D : Ends), Inv X pins σ H s → t D σ H → wpAny (model X.prog X.w) X.A (exec st X.env) (SP X pins D) X.xe s
def PSs (X : Cx) (st : List Stmt) (t : TS) : Prop :=
  ∀ (pins : List (Addr × Obj)) (s : Shared) (σ : St) (H : Hp) (D : Ends), Inv X pins σ H s → t D σ H → wpAny (model X.prog X.w) X.A (execs st X.env) (SP X pins D) X.xe s
theorem thn {α : Type} {t : Sem α} {Q Q' : α → Shared → Prop} {M : Model} {A : Around} {E : Value → Shared → Prop} {s : Shared} (h : wpAny M A t Q E s) (hQ : ∀ a s, Q a s → Q' a s) : wpAny M A t Q' E s := wpAny_mono h hQ fun _ _ x => x
end L2
namespace L2
open PySem PySem.Spec PyProof.Rows
section
variable {X : Cx}
def tVar (i : Nat) : TE := fun σ H Q => ∃ v, σ[i]? = some (some v) ∧ Q v H
def tC (v : V) : TE := fun _ H Q => Q v H
theorem pe_var {i : Nat} {x : Str} {pos : Pos} (hN : X.N[i]? = some x) (hv : Vis X.env.scope x) (hd : (x == ("__debug__" : Str)) = false := by decide) (hcd : (x == ("__classdict__" : Str)) = false := by decide) : PE X (.Name x pos) (tVar i) := by
  intro pins s σ H Q I h
  obtain ⟨v, e, h⟩ := h
  obtain ⟨m, hn, hl⟩ := I.loc
  obtain ⟨u, r, l⟩ := hl i x v hN e hv
  have fin : EP X pins σ Q u s := ⟨v, H, I, r, h⟩
  rcases l with ⟨hk, hm⟩ | ⟨hk, c, hc, hcell⟩
  · exact wpAny_Name (wpAny_loadName_local I.ok.kind hk hn hm fin) hd
  · rcases hk with hk | hk
    · exact wpAny_Name (wpAny_loadName_cell I.ok.kind hk hc hcell fin) hd
    · exact wpAny_Name (wpAny_loadName_free I.ok.kind hk hc hcell fin hcd) hd
theorem pe_int {i j pos} : PE X (.Constant (.int i) j pos) (tC (.int i)) := fun _ _ _ H _ I h => wpAny_Constant_int ⟨.int i, H, I.tok _, ⟨_, rfl⟩, h⟩
theorem pe_bl {b j pos} : PE X (.Constant (.bool b) j pos) (tC (.bl b)) := fun _ _ _ H _ I h => Constant_bool ⟨.bl b, H, I, rfl, h⟩
theorem pe_non {j pos} : PE X (.Constant .none j pos) (tC .non) := fun _ _ _ H _ I h => Constant_none ⟨.non, H, I, rfl, h⟩
theorem pe_str {x j pos} : PE X (.Constant (.str x) j pos) (tC (.str x)) := fun _ _ _ H _ I h => Calls.Constant_str ⟨.str x, H, I.tok _, ⟨_, rfl⟩, h⟩
def Gl (X : Cx) (x : Str) : Prop := X.env.kindOf x = some .globalImplicit
theorem ld_glob {E : Value → Shared → Prop} {pins : List (Addr × Obj)} {s : Shared} {σ : St} {H : Hp} {x : Str} {u : Value} {pos : Pos} {Q : Value → Shared → Prop} (I : Inv X pins σ H s) (hg : Gl X x) (hm : X.mg x = some u) (h : Q u s)
    (hd : (x == ("__debug__" : Str)) = false := by decide) : wpAny (model X.prog X.w) X.A (eval (.Name x pos) X.env) Q E s :=
  Calls.Name_function_global I.ok.kind hg (Calls.loadGlobal_global (by rw [I.ok.glob]; exact I.mod.glob.keeps I.bk) hm h) hd
theorem ld_blt {E : Value → Shared → Prop} {pins : List (Addr × Obj)} {s : Shared} {σ : St} {H : Hp} {x : Str} {u : Value} {pos : Pos} {Q : Value → Shared → Prop} (I : Inv X pins σ H s) (hg : Gl X x) (hm : X.mg x = none) (hv : bootBuiltins x = some u) (h : Q u s)
    (hn : x ≠ "__name__" := by decide) (hd : (x == ("__debug__" : Str)) = false := by decide) : wpAny (model X.prog X.w) X.A (eval (.Name x pos) X.env) Q E s := by
  obtain ⟨mb, h1, h2⟩ := I.mod.blt
  exact Calls.Name_function_global I.ok.kind hg (Calls.loadGlobal_builtin (by rw [I.ok.glob]; exact I.mod.glob.keeps I.bk) hm (by rw [I.ok.blt]; exact h1.keeps I.bk) ((h2 x hn).trans hv) h) hd
theorem pe_glob {x : Str} {v : V} {u : Value} {pos : Pos} (hg : Gl X x) (hm : X.mg x = some u) (r : RelV v u) (hd : (x == ("__debug__" : Str)) = false := by decide) : PE X (.Name x pos) (tC v) :=
  fun _ _ _ H _ I h => ld_glob I hg hm ⟨v, H, I, r, h⟩ hd
variable {a b : Expr} {ta tb : TE} {pos : Pos}
def PC (X : Cx) (op : CmpOp) (a b : Expr) (t : TE) : Prop :=
  ∀ (pins : List (Addr × Obj)) (s : Shared) (σ : St) (H : Hp) (Q : VK), Inv X pins σ H s → t σ H Q →
    wpAny (model X.prog X.w) X.A (eval a X.env) (fun v s₁ => wpAny (model X.prog X.w) X.A (eval b X.env) (fun u s₂ => wpAny (model X.prog X.w) X.A (compareOp op v u) (EP X pins σ Q) X.xe s₂) X.xe s₁) X.xe s
theorem nobehind (b : Expr) {op : CmpOp} (h : op ≠ .In) (h2 : op ≠ .NotIn) : behindInMarks op b = false := by
  have e1 : (op == CmpOp.In) = false := by cases op <;> first | rfl | exact absurd rfl h
  have e2 : (op == CmpOp.NotIn) = false := by cases op <;> first | rfl | exact absurd rfl h2
  cases b <;> simp [behindInMarks, e1, e2]
def tIsN (ta : TE) : TE := fun σ H Q => ta σ H fun x H1 => Q (.bl (decide (x = .non))) H1
def tNotN (ta : TE) : TE := fun σ H Q => ta σ H fun x H1 => Q (.bl (!decide (x = .non))) H1
theorem RelV.none_iff {x : V} {v : Value} (r : RelV x v) : (v == Value.none) = decide (x = .non) := by
  cases x with
  | non => cases r; rfl
  | bl _ => cases r; rfl
  | int _ => obtain ⟨t, rfl⟩ := r; rfl
  | str _ => obtain ⟨t, rfl⟩ := r; rfl
  | byt _ => obtain ⟨t, rfl⟩ := r; rfl
  | flt _ => obtain ⟨t, rfl⟩ := r; rfl
  | ref _ => cases r; rfl
  | ty _ => cases r; rfl
theorem pc_isN {j pos'} (ha : PE X a ta) : PC X .Is a (.Constant .none j pos') (tIsN ta) := by
  intro pins s σ H Q I h
  refine thn (ha pins s σ H _ I h) fun v s1 ⟨x, H1, I1, r1, q1⟩ => ?_
  exact Constant_none (is_none_gen ⟨.bl _, H1, I1, by rw [r1.none_iff]; rfl, q1⟩)
theorem pc_notN {j pos'} (ha : PE X a ta) : PC X .IsNot a (.Constant .none j pos') (tNotN ta) := by
  intro pins s σ H Q I h
  refine thn (ha pins s σ H _ I h) fun v s1 ⟨x, H1, I1, r1, q1⟩ => ?_
  exact Constant_none (isnot_none_gen ⟨.bl _, H1, I1, by rw [r1.none_iff]; rfl, q1⟩)
def tB (t : TE) : TT := fun σ H Q => t σ H fun x H1 => ∃ c, x = .bl c ∧ Q c H1
theorem pt_cmp {op : CmpOp} {t : TE} (h : PC X op a b t) (h1 : behindInMarks op b = false := by first | exact nobehind _ (by decide) (by decide) | rfl) : PT X (.Compare a [op] [b] pos) (tB t) := by
  intro pins s σ H Q I hw
  refine wpAny_isTrue_Compare1 (thn (h pins s σ H _ I hw) fun v s1 h1 => thn h1 fun u s2 h2 => thn h2 fun c s3 ⟨x, H1, I1, r1, q1⟩ => ?_) h1
  obtain ⟨d, rfl, q⟩ := q1
  cases r1
  exact wpAny_truthy_bool ⟨H1, I1, q⟩
variable {tA tB' : TT} {rest : List Expr}
def tAnd (t u : TT) : TT := fun σ H Q => t σ H fun c H1 => if c = true then u σ H1 Q else Q false H1
def tOr (t u : TT) : TT := fun σ H Q => t σ H fun c H1 => if c = true then Q true H1 else u σ H1 Q
def tNot (t : TT) : TT := fun σ H Q => t σ H fun c H1 => Q (!c) H1
theorem pw_and1 (ha : PT X a tA) : PW X (.BoolOp .And [a] pos) tA := by
  intro wh pins s σ H Q I h
  refine isTrue_and (thn (ha pins s σ H Q I h) fun c s1 e => ?_)
  cases c with
  | true => exact isTrue_and_nil e
  | false => exact e
theorem pw_or1 (ha : PT X a tA) : PW X (.BoolOp .Or [a] pos) tA := by
  intro wh pins s σ H Q I h
  refine isTrue_or (thn (ha pins s σ H Q I h) fun c s1 e => ?_)
  cases c with
  | false => exact isTrue_or_nil e
  | true => exact e
theorem pw_and (ha : PT X a tA) (hb : PW X (.BoolOp .And (b :: rest) pos) tB') : PW X (.BoolOp .And (a :: b :: rest) pos) (tAnd tA tB') := by
  intro wh pins s σ H Q I h
  refine isTrue_and (thn (ha pins s σ H _ I h) fun c s1 ⟨H1, I1, q1⟩ => ?_)
  cases c with
  | true => exact hb wh pins s1 σ H1 Q I1 q1
  | false => exact ⟨H1, I1, q1⟩
theorem pw_or (ha : PT X a tA) (hb : PW X (.BoolOp .Or (b :: rest) pos) tB') : PW X (.BoolOp .Or (a :: b :: rest) pos) (tOr tA tB') := by
  intro wh pins s σ H Q I h
  refine isTrue_or (thn (ha pins s σ H _ I h) fun c s1 ⟨H1, I1, q1⟩ => ?_)
  cases c with
  | true => exact ⟨H1, I1, q1⟩
  | false => exact hb wh pins s1 σ H1 Q I1 q1
theorem pt_not (ha : PT X a tA) : PT X (.UnaryOp .Not a pos) (tNot tA) := by
  intro pins s σ H Q I h
  exact isTrue_not (ha pins s σ H (fun c H1 => Q (!c) H1) I h)
def tAndV (ta tb : TE) : TE := fun σ H Q => ta σ H fun x H1 => ∃ c, x = .bl c ∧ if c = true then tb σ H1 Q else Q (.bl false) H1
def tNotV (ta : TE) : TE := fun σ H Q => ta σ H fun x H1 => ∃ c, x = .bl c ∧ Q (.bl (!c)) H1
theorem pe_one {op} {t : TE} (h : PE X a t) : PE X (.BoolOp op [a] pos) t := fun pins s σ H Q I hw => BoolOp_one (h pins s σ H Q I hw)
theorem pe_and (ha : PE X a ta) (hb : PE X (.BoolOp .And (b :: rest) pos) tb) : PE X (.BoolOp .And (a :: b :: rest) pos) (tAndV ta tb) := by
  intro pins s σ H Q I h
  refine BoolOp_and (thn (ha pins s σ H _ I h) fun v s1 ⟨x, H1, I1, r1, q1⟩ => ?_)
  obtain ⟨c, rfl, q1⟩ := q1
  cases r1
  refine wpAny_truthy_bool ?_
  cases c with
  | true => exact hb pins s1 σ H1 Q I1 q1
  | false => exact ⟨.bl false, H1, I1, rfl, q1⟩
theorem pe_not (ha : PE X a ta) : PE X (.UnaryOp .Not a pos) (tNotV ta) := by
  intro pins s σ H Q I h
  refine UnaryOp_ (thn (ha pins s σ H _ I h) fun v s1 ⟨x, H1, I1, r1, q1⟩ => ?_)
  obtain ⟨c, rfl, q1⟩ := q1
  cases r1
  exact not_of (wpAny_truthy_bool ⟨.bl (!c), H1, I1, rfl, q1⟩)
def tIf (t : TT) (ta tb : TE) : TE := fun σ H Q => t σ H fun c H1 => if c = true then ta σ H1 Q else tb σ H1 Q
theorem pe_ifExp {c : Expr} (hc : PT X c tA) (ha : PE X a ta) (hb : PE X b tb) : PE X (.IfExp c a b pos) (tIf tA ta tb) := by
  intro pins s σ H Q I h
  refine wpAny_IfExp (thn (hc pins s σ H _ I h) fun d s1 ⟨H1, I1, q1⟩ => ?_)
  cases d with
  | true => exact ha pins s1 σ H1 Q I1 q1
  | false => exact hb pins s1 σ H1 Q I1 q1
end
end L2
namespace L2
open PySem PySem.Spec PyProof.Rows
def SqL (K : PySem.W.Frag) (H : Hp) (a : Addr) (xs : List V) : Prop :=
  Rd H a (.lst xs) ∨
    ∃ (o : Obj) (its : Array Value) (n : Nat), K.lookup a = some o ∧ o.cls = .type "list" ∧ o.dict = none ∧ o.data = .seq its n ∧ its.size ≤ sizeLine ∧ Vals xs its.toList
def SqT (K : PySem.W.Frag) (H : Hp) (a : Addr) (xs : List V) : Prop :=
  Rd H a (.tup xs) ∨
    ∃ (o : Obj) (its : Array Value) (n : Nat), K.lookup a = some o ∧ o.cls = .type "tuple" ∧ o.data = .seq its n ∧ its.size ≤ sizeLine ∧ Vals xs its.toList
def absV : Value → Option V
  | .none => some .non
  | .bool b => some (.bl b)
  | .int i _ => some (.int i)
  | .str x _ => some (.str x)
  | .bytes b _ => some (.byt b)
  | .float b _ => some (.flt b)
  | .ref a => some (.ref a)
  | .type n => some (.ty n)
  | _ => none
theorem RelV.abs {x : V} {u : Value} (r : RelV x u) : absV u = some x := by
  cases x with
  | non => cases r; rfl
  | bl _ => cases r; rfl
  | int _ => obtain ⟨t, rfl⟩ := r; rfl
  | str _ => obtain ⟨t, rfl⟩ := r; rfl
  | byt _ => obtain ⟨t, rfl⟩ := r; rfl
  | flt _ => obtain ⟨t, rfl⟩ := r; rfl
  | ref _ => cases r; rfl
  | ty _ => cases r; rfl
theorem RelV.inj {x y : V} {u : Value} (r : RelV x u) (q : RelV y u) : x = y := Option.some.inj (r.abs.symm.trans q.abs)
theorem Vals.inj : ∀ {xs ys : List V} {us : List Value}, Vals xs us → Vals ys us → xs = ys
  | _, _, _, .nil, .nil => rfl
  | _, _, _, .cons r t, .cons r' t' => by rw [r.inj r', Vals.inj t t']
section
variable {X : Cx} {pins : List (Addr × Obj)} {σ : St} {H : Hp} {s : Shared} {a : Addr} {xs ys : List V}
theorem SqL.of {K : PySem.W.Frag} (h : H a = some (.lst xs)) : SqL K H a xs := .inl (.inl h)
theorem SqT.of {K : PySem.W.Frag} (h : H a = some (.tup xs)) : SqT K H a xs := .inl (.inl h)
theorem Inv.list (I : Inv X pins σ H s) (h : SqL X.K H a xs) : ∃ its : List Value, Vals xs its ∧ PlainL s.heap a its.toArray ∧ xs.length ≤ sizeLine := by
  rcases h with h | ⟨o, its, n, hk, hc, hd, hs, hz, r⟩
  · obtain ⟨z, its, n, r, e⟩ := h.ok I.hok
    exact ⟨its, r, ⟨_, n, e, rfl, rfl, rfl⟩, z⟩
  · refine ⟨its.toList, r, ⟨o, n, I.kIn a o hk, hc, hd, by simpa using hs⟩, ?_⟩
    have e := r.length
    simp only [Array.length_toList] at e
    omega
theorem Inv.tuple (I : Inv X pins σ H s) (h : SqT X.K H a xs) : ∃ its : List Value, Vals xs its ∧ IsTup s.heap a its.toArray ∧ xs.length ≤ sizeLine := by
  rcases h with h | ⟨o, its, n, hk, hc, hs, hz, r⟩
  · obtain ⟨z, its, r, p⟩ := h.ok I.hok
    exact ⟨its, r, p, z⟩
  · refine ⟨its.toList, r, ⟨o, I.kIn a o hk, hc, n, by simpa using hs⟩, ?_⟩
    have e := r.length
    simp only [Array.length_toList] at e
    omega
theorem Inv.list_inj (I : Inv X pins σ H s) (h : SqL X.K H a xs) (h' : SqL X.K H a ys) : xs = ys := by
  obtain ⟨its, r, ⟨o, n, e, _, _, d⟩, _⟩ := I.list h
  obtain ⟨its', r', ⟨o', n', e', _, _, d'⟩, _⟩ := I.list h'
  rw [e] at e'; cases e'
  rw [d] at d'
  injection d' with d1 _
  have : its = its' := by simpa using congrArg Array.toList d1
  subst this
  exact r.inj r'
theorem Inv.tuple_inj (I : Inv X pins σ H s) (h : SqT X.K H a xs) (h' : SqT X.K H a ys) : xs = ys := by
  obtain ⟨its, r, ⟨o, e, _, n, d⟩, _⟩ := I.tuple h
  obtain ⟨its', r', ⟨o', e', _, n', d'⟩, _⟩ := I.tuple h'
  rw [e] at e'; cases e'
  rw [d] at d'
  injection d' with d1 _
  have : its = its' := by simpa using congrArg Array.toList d1
  subst this
  exact r.inj r'
end
abbrev Cx.wish (X : Cx) (E : Value → Shared → Prop) : Cx := { X with xe := E }
abbrev Cx.nox (X : Cx) : Cx := X.wish fun _ _ => False
theorem Cx.Ok.wish {X : Cx} (ok : X.Ok) (E : Value → Shared → Prop) : (X.wish E).Ok :=
  ⟨ok.mod, ok.kind, ok.glob, ok.blt, ok.above, ok.inj, ok.has, ok.cab, ok.hd, ok.frames, ok.stk, ok.exf, ok.bs, ok.bsz, ok.noex, ok.exfs, ok.funs, ok.frf⟩
theorem Cx.Ok.unwish {X : Cx} {E : Value → Shared → Prop} (ok : (X.wish E).Ok) : X.Ok :=
  ⟨ok.mod, ok.kind, ok.glob, ok.blt, ok.above, ok.inj, ok.has, ok.cab, ok.hd, ok.frames, ok.stk, ok.exf, ok.bs, ok.bsz, ok.noex, ok.exfs, ok.funs, ok.frf⟩
section
variable {X : Cx} {pins : List (Addr × Obj)} {σ : St} {H : Hp} {s : Shared} {E : Value → Shared → Prop}
theorem Inv.wish (I : Inv X pins σ H s) (E : Value → Shared → Prop) : Inv (X.wish E) pins σ H s := ⟨I.ok.wish E, I.os, I.bare, I.base, I.loc, I.cell, I.free, I.freeC, I.pin, I.hok, I.len⟩
theorem Inv.unwish (I : Inv (X.wish E) pins σ H s) : Inv X pins σ H s := ⟨I.ok.unwish, I.os, I.bare, I.base, I.loc, I.cell, I.free, I.freeC, I.pin, I.hok, I.len⟩
theorem SP.unwish {D : Ends} {f : Flow} {s' : Shared} (h : SP (X.wish E) pins D f s') : SP X pins D f s' := by
  cases f with
  | next => obtain ⟨σ', H', I, q⟩ := h; exact ⟨σ', H', I.unwish, q⟩
  | brk => obtain ⟨σ', H', I, q⟩ := h; exact ⟨σ', H', I.unwish, q⟩
  | cont => obtain ⟨σ', H', I, q⟩ := h; exact ⟨σ', H', I.unwish, q⟩
  | ret u => obtain ⟨v, σ', H', I, r, q⟩ := h; exact ⟨v, σ', H', I.unwish, r, q⟩
theorem PSs.nox {st : List Stmt} {t : TS} (h : PSs X.nox st t) : PSs X st t := fun pins s σ H D I hw =>
  wpAny_mono (h pins s σ H D (I.wish _) hw) (fun _ _ q => q.unwish) fun _ _ z => False.elim z
end
section
variable {X : Cx} {st : Stmt} {rest : List Stmt} {t u : TS} {e : Expr} {te : TE} {pos : Pos}
def tNext : TS := fun D σ H => D.nx σ H
def tSeq (t u : TS) : TS := fun D σ H => t { D with nx := u D } σ H
theorem pss_nil : PSs X [] tNext := fun _ _ σ H _ I h => wpAny_execs_nil ⟨σ, H, I, h⟩
theorem pss_cons (h1 : PS X st t) (h2 : PSs X rest u) : PSs X (st :: rest) (tSeq t u) := by
  intro pins s σ H D I h
  refine wpAny_execs_cons (thn (h1 pins s σ H { D with nx := u D } I h) fun f s1 q => ?_)
  cases f with
  | next =>
    obtain ⟨σ', H', I', q⟩ := q
    exact h2 pins s1 σ' H' D I' q
  | ret v => exact q
  | brk => exact q
  | cont => exact q
theorem pss_one (h1 : PS X st t) : PSs X [st] t := by
  intro pins s σ H D I h
  refine wpAny_execs_cons (thn (h1 pins s σ H D I h) fun f s1 q => ?_)
  cases f with
  | next => exact wpAny_execs_nil q
  | ret v => exact q
  | brk => exact q
  | cont => exact q
theorem Inv.quiet {pins : List (Addr × Obj)} {σ : St} {H : Hp} {s : Shared} (I : Inv X pins σ H s) : interactive X.env = false := by simp [interactive, I.ok.kind]
def tDrop (te : TE) : TS := fun D σ H => te σ H fun _ H1 => D.nx σ H1
theorem ps_expr (he : PE X e te) (hs : swapsWith e none pos.line X.env = pure false := by rfl) : PS X (.Expr e pos) (tDrop te) := by
  intro pins s σ H D I h
  exact wpAny_Expr_any (thn (he pins s σ H _ I h) fun v s1 ⟨x, H1, I1, r1, q1⟩ => ⟨σ, H1, I1, q1⟩) I.quiet hs
def tRet (te : TE) : TS := fun D σ H => te σ H D.rt
theorem ps_ret (he : PE X e te) : PS X (.Return (some e) pos) (tRet te) := by
  intro pins s σ H D I h
  exact wpAny_Return_some (thn (he pins s σ H _ I h) fun v s1 ⟨x, H1, I1, r1, q1⟩ => ⟨x, σ, H1, I1, r1, q1⟩)
def tIfS (c : TT) (t u : TS) : TS := fun D σ H => c σ H fun b H1 => if b = true then t D σ H1 else u D σ H1
theorem ps_if {c : Expr} {a b : List Stmt} {tc : TT} (hc : PT X c tc) (ha : PSs X a t) (hb : PSs X b u) : PS X (.If c a b pos) (tIfS tc t u) := by
  intro pins s σ H D I h
  refine wpAny_If (thn (hc pins s σ H _ I h) fun d s1 ⟨H1, I1, q1⟩ => ?_)
  cases d with
  | true => exact ha pins s1 σ H1 D I1 q1
  | false => exact hb pins s1 σ H1 D I1 q1
end
abbrev TG := V → St → Hp → (St → Hp → Prop) → Prop
abbrev TGs := List V → St → Hp → (St → Hp → Prop) → Prop
def PG (X : Cx) (target : Expr) (t : TG) : Prop :=
  ∀ (pins : List (Addr × Obj)) (s : Shared) (σ : St) (H : Hp) (v : V) (u : Value) (Q : St → Hp → Prop), Inv X pins σ H s → RelV v u → t v σ H Q →
    wpAny (model X.prog X.w) X.A (assign target X.env u) (fun _ s' => ∃ σ' H', Inv X pins σ' H' s' ∧ Q σ' H') X.xe s
def PGs (X : Cx) (ts : List Expr) (t : TGs) : Prop :=
  ∀ (pins : List (Addr × Obj)) (s : Shared) (σ : St) (H : Hp) (vs : List V) (us : List Value) (Q : St → Hp → Prop), Inv X pins σ H s → Vals vs us → t vs σ H Q →
    wpAny (model X.prog X.w) X.A (assignInOrder ((assignEach ts X.env).map (·.2)) us) (fun _ s' => ∃ σ' H', Inv X pins σ' H' s' ∧ Q σ' H') X.xe s
abbrev TSet := V → V → V → Hp → (Hp → Prop) → Prop
def PSet (X : Cx) (t : TSet) : Prop :=
  ∀ (pins : List (Addr × Obj)) (s : Shared) (σ : St) (H : Hp) (o i v : V) (ov iv u : Value) (Q : Hp → Prop), Inv X pins σ H s → RelV o ov → RelV i iv → RelV v u → t o i v H Q →
    wpAny (model X.prog X.w) X.A (setItem ov iv u) (fun _ s' => ∃ H', Inv X pins σ H' s' ∧ Q H') X.xe s
abbrev TIp := V → V → Hp → VK → Prop
def PIp (X : Cx) (op : Operator) (t : TIp) : Prop :=
  ∀ (pins : List (Addr × Obj)) (s : Shared) (σ : St) (H : Hp) (x y : V) (v u : Value) (Q : VK), Inv X pins σ H s → RelV x v → RelV y u → t x y H Q →
    wpAny (model X.prog X.w) X.A (inplaceOp op v u) (EP X pins σ Q) X.xe s
section
variable {X : Cx} {pos : Pos}
def gName (i : Nat) : TG := fun v σ H Q => Q (σ.set i (some v)) H
theorem pg_name {i : Nat} {x : Str} (hN : X.N.Nodup) (hi : X.N[i]? = some x) (hx : Loc X.env.scope x) (hf : X.fn x = true ∨ X.env.scope.names.lookup x = some .local := by first | exact .inl rfl | exact .inr rfl | assumption) : PG X (.Name x pos) (gName i) := by
  intro pins s σ H v u Q I r h
  exact wpAny_assign_Name (store_ok I hN hi hx r (fun s' I' => ⟨_, H, I', h⟩) hf)
def gNil : TGs := fun vs σ H Q => vs = [] ∧ Q σ H
def gCons (t : TG) (u : TGs) : TGs := fun vs σ H Q => ∃ v r, vs = v :: r ∧ t v σ H fun σ' H' => u r σ' H' Q
theorem pgs_nil : PGs X [] gNil := by
  intro pins s σ H vs us Q I r h
  obtain ⟨e, h⟩ := h
  subst e
  cases r
  exact assignInOrder_nil ⟨σ, H, I, h⟩
theorem pgs_cons {e : Expr} {es : List Expr} {t : TG} {u : TGs} (h1 : PG X e t) (h2 : PGs X es u)
    (hs : (assignEach (e :: es) X.env).map (·.2) = assign e X.env :: (assignEach es X.env).map (·.2) := by rfl) : PGs X (e :: es) (gCons t u) := by
  intro pins s σ H vs us Q I r h
  obtain ⟨v, vr, e1, h⟩ := h
  subst e1
  cases r with
  | cons r rr =>
    rw [hs]
    refine assignInOrder_cons (thn (h1 pins s σ H _ _ _ I r h) fun _ s1 ⟨σ1, H1, I1, q1⟩ => ?_)
    exact h2 pins s1 σ1 H1 _ _ Q I1 rr q1
def gTup (K : PySem.W.Frag) (n : Nat) (t : TGs) : TG := fun v σ H Q => ∃ a xs, v = .ref a ∧ SqT K H a xs ∧ xs.length = n ∧ t xs σ H Q
theorem pg_tup {es : List Expr} {k : Nat} {t : TGs} {n : Nat} (hc : X.calm = true) (h : PGs X es t)
    (hn : (assignEach es X.env).length = n := by rfl) (hst : (assignEach es X.env).findIdx? (·.1) = none := by rfl) : PG X (.Tuple es k pos) (gTup X.K n t) := by
  intro pins s σ H v u Q I r hw
  obtain ⟨a, xs, e1, hq, hl, hw⟩ := hw
  subst e1
  cases r
  obtain ⟨its, rv, ht, hz⟩ := I.tuple hq
  refine assign_Tuple_tuple (I.ok.hd hc) ht (by simp [hn, ← hl, rv.length]) hst fun h' hx => ?_
  have I1 : Inv X pins σ H { s with heap := h' } := I.kept (t' := s.toks) fun b o e => hx b o (Nat.ne_of_lt (Heap.lt_size e)) e
  exact h pins _ σ H xs _ Q I1 (by simpa using rv) hw
def gSub (to ti : TE) (t : TSet) : TG := fun v σ H Q => to σ H fun o H1 => ti σ H1 fun i H2 => t o i v H2 fun H3 => Q σ H3
theorem pg_sub {o i : Expr} {to ti : TE} {t : TSet} (ho : PE X o to) (hi : PE X i ti) (hs : PSet X t)
    (ha : ∀ v, assign (.Subscript o i pos) X.env v = (do
      let ov ← holding [v] (eval o X.env)
      let iv ← holding [v, ov] (eval i X.env)
      standAt pos
      holding [v, ov, iv] (setItem ov iv v)
      release [v, ov, iv] []) := by intro _; rfl) : PG X (.Subscript o i pos) (gSub to ti t) := by
  intro pins s σ H v u Q I r h
  rw [ha]
  refine wpAny_bind (wpAny_holding (thn (ho pins s σ H _ I h) fun ov s1 ⟨x, H1, I1, r1, q1⟩ => ?_))
  refine wpAny_bind (wpAny_holding (thn (hi pins s1 σ H1 _ I1 q1) fun iv s2 ⟨y, H2, I2, r2, q2⟩ => ?_))
  refine wpAny_bind (wpAny_standAt (wpAny_bind (wpAny_holding (thn (hs pins s2 σ H2 x y v ov iv u _ I2 r1 r2 r q2) fun _ s3 ⟨H3, I3, q3⟩ => ?_))))
  exact wpAny_release ⟨σ, H3, I3, q3⟩
def tAsg (te : TE) (g : TG) : TS := fun D σ H => te σ H fun x H1 => g x σ H1 D.nx
theorem ps_asg {tg e : Expr} {te : TE} {g : TG} (he : PE X e te) (hg : PG X tg g) (hs : swapsWithSole [tg] e pos.line X.env = pure false := by rfl) (hw : swappedStores [tg] e X.env = pure none := by rfl)
    (h1 : (assignEach [tg] X.env).map (·.2) = [assign tg X.env] := by rfl) : PS X (.Assign [tg] e pos) (tAsg te g) := by
  intro pins s σ H D I h
  refine wpAny_Assign_stores (thn (he pins s σ H _ I h) fun v s1 ⟨x, H1, I1, r1, q1⟩ => ?_) hs hw
  rw [h1]
  exact thn (hg pins s1 σ H1 x v _ I1 r1 q1) fun _ s2 q => q
theorem ps_set {i : Nat} {x : Str} {e : Expr} {te : TE} {pos' : Pos} (hN : X.N.Nodup) (hi : X.N[i]? = some x) (hx : Loc X.env.scope x) (he : PE X e te) (hs : swapsWith e (some (.Name x pos')) pos.line X.env = pure false := by rfl) (hf : X.fn x = true ∨ X.env.scope.names.lookup x = some .local := by first | exact .inl rfl | exact .inr rfl | assumption) :
    PS X (.Assign [.Name x pos'] e pos) (tAsg te (gName i)) := by
  intro pins s σ H D I h
  refine wpAny_Assign_Name (thn (he pins s σ H _ I h) fun v s1 ⟨y, H1, I1, r1, q1⟩ => ?_) hs
  exact store_ok I1 hN hi hx r1 (fun s2 I2 => ⟨_, H1, I2, q1⟩) hf
def tAug (i : Nat) (te : TE) (ti : TIp) : TS := fun D σ H => ∃ x, σ[i]? = some (some x) ∧ te σ H fun y H1 => ti x y H1 fun z H2 => D.nx (σ.set i (some z)) H2
theorem ps_aug {i : Nat} {x : Str} {e : Expr} {te : TE} {op : Operator} {ti : TIp} {pos' : Pos} (hN : X.N.Nodup) (hi : X.N[i]? = some x) (hx : Loc X.env.scope x) (he : PE X e te) (ho : PIp X op ti) (hf : X.fn x = true ∨ X.env.scope.names.lookup x = some .local := by first | exact .inl rfl | exact .inr rfl | assumption) :
    PS X (.AugAssign (.Name x pos') op e pos) (tAug i te ti) := by
  intro pins s σ H D I h
  obtain ⟨v, e1, h⟩ := h
  obtain ⟨m, hn, hl⟩ := I.loc
  have vis : Vis X.env.scope x := by rcases hx with k | k; exact .inl k; exact .inr (.inl k)
  obtain ⟨u, r, l⟩ := hl i x v hi e1 vis
  refine wpAny_AugAssign_Name ?_
  have go : wpAny (model X.prog X.w) X.A (eval e X.env) (fun w s₂ => wpAny (model X.prog X.w) X.A (inplaceOp op u w) (fun r s₃ => wpAny (model X.prog X.w) X.A (storeName X.env x r) (fun _ => SP X pins D .next) X.xe s₃) X.xe s₂) X.xe s := by
    refine thn (he pins s σ H _ I h) fun w s1 ⟨y, H1, I1, r1, q1⟩ => ?_
    refine thn (ho pins s1 σ H1 v y u w _ I1 r r1 q1) fun z s2 ⟨zv, H2, I2, r2, q2⟩ => ?_
    exact store_ok I2 hN hi hx r2 (fun s3 I3 => ⟨_, H2, I3, q2⟩) hf
  rcases l with ⟨hk, hm⟩ | ⟨hk, c, hc, hcell⟩
  · exact wpAny_loadName_local I.ok.kind hk hn hm go
  · rcases hk with hk | hk
    · exact wpAny_loadName_cell I.ok.kind hk hc hcell go
    · rcases hx with k | k
      · have : X.env.scope.names.lookup x = some .free := hk
        rw [k] at this; cases this
      · have : X.env.scope.names.lookup x = some .free := hk
        rw [k] at this; cases this
def tAugS (to ti te : TE) (tget : V → V → Hp → VK → Prop) (tip : TIp) (tset : TSet) : TS := fun D σ H => to σ H fun o H1 => ti σ H1 fun i H2 => tget o i H2 fun x H3 => te σ H3 fun y H4 => tip x y H4 fun z H5 => tset o i z H5 fun H6 => D.nx σ H6
def PGet (X : Cx) (t : V → V → Hp → VK → Prop) : Prop :=
  ∀ (pins : List (Addr × Obj)) (s : Shared) (σ : St) (H : Hp) (o i : V) (ov iv : Value) (Q : VK), Inv X pins σ H s → RelV o ov → RelV i iv → t o i H Q →
    wpAny (model X.prog X.w) X.A (getItem ov iv) (EP X pins σ Q) X.xe s
theorem ps_augS {o i e : Expr} {to ti te : TE} {tget : V → V → Hp → VK → Prop} {tip : TIp} {tset : TSet} {op : Operator} {tpos : Pos} (ho : PE X o to) (hi : PE X i ti) (hg : PGet X tget) (he : PE X e te) (hp : PIp X op tip) (hs : PSet X tset)
    (ha : ∀ ov iv new, augStore i ov iv new = (do holding [new, ov, iv] (setItem ov iv new); release [new, ov, iv] []; pure .next) := by intros; rfl) : PS X (.AugAssign (.Subscript o i tpos) op e pos) (tAugS to ti te tget tip tset) := by
  intro pins s σ H D I h
  refine wpAny_AugAssign_SubscriptAny (thn (ho pins s σ H _ I h) fun ov s1 ⟨x1, H1, I1, r1, q1⟩ => ?_) ha
  refine thn (hi pins s1 σ H1 _ I1 q1) fun iv s2 ⟨x2, H2, I2, r2, q2⟩ => ?_
  refine thn (hg pins s2 σ H2 x1 x2 ov iv _ I2 r1 r2 q2) fun old s3 ⟨x3, H3, I3, r3, q3⟩ => ?_
  refine thn (he pins s3 σ H3 _ I3 q3) fun v s4 ⟨x4, H4, I4, r4, q4⟩ => ?_
  refine thn (hp pins s4 σ H4 x3 x4 old v _ I4 r3 r4 q4) fun new s5 ⟨x5, H5, I5, r5, q5⟩ => ?_
  exact thn (hs pins s5 σ H5 x1 x2 x5 ov iv new _ I5 r1 r2 r5 q5) fun _ s6 ⟨H6, I6, q6⟩ => ⟨σ, H6, I6, q6⟩
end
section
variable {X : Cx} {pos : Pos}
def tWhile (c : TT) (tb : TS) : TS := fun D σ H => ∃ W : Nat → St → Hp → Prop, (∃ m, W m σ H) ∧ ∀ m σ H, W m σ H →
  c σ H fun b H1 => if b = true then ∃ N : St → Hp → Prop, (∀ σ' H', N σ' H' → ∃ m', m' < m ∧ W m' σ' H') ∧ tb { D with nx := N, ct := N, bk := D.nx } σ H1 else D.nx σ H1
theorem ps_while {c : Expr} {body : List Stmt} {tc : TT} {tb : TS} (hp : PassesOwn (model X.prog X.w) X.A X.env X.xe) (hc : PT X c tc) (hb : PSs X body tb) : PS X (.While c body [] pos) (tWhile tc tb) := by
  intro pins s σ H D I h
  obtain ⟨W, ⟨m0, w0⟩, turn⟩ := h
  refine wpAny_While (codeAny_whileLoop (fun n s' => ∃ σ' H', Inv X pins σ' H' s' ∧ W n σ' H') ?_ m0 ⟨σ, H, I, w0⟩)
  rintro n s1 ⟨σ1, H1, I1, w1⟩
  refine wpAny_passesOwn hp (thn (hc pins s1 σ1 H1 _ I1 (turn n σ1 H1 w1)) fun b s2 ⟨H2, I2, q2⟩ => ?_)
  cases b with
  | true =>
    obtain ⟨N, hN, q2⟩ := q2
    rw [if_pos rfl]
    refine wpAny_passesOwn hp (thn (hb pins s2 σ1 H2 _ I2 q2) fun f s3 q3 => ?_)
    cases f with
    | next =>
      obtain ⟨σ3, H3, I3, n3⟩ := q3
      obtain ⟨m', hm, w3⟩ := hN σ3 H3 n3
      exact ⟨m', hm, σ3, H3, I3, w3⟩
    | cont =>
      obtain ⟨σ3, H3, I3, n3⟩ := q3
      obtain ⟨m', hm, w3⟩ := hN σ3 H3 n3
      exact ⟨m', hm, σ3, H3, I3, w3⟩
    | brk => exact q3
    | ret v => exact q3
  | false =>
    rw [if_neg Bool.false_ne_true]
    exact wpAny_execs_nil ⟨σ1, H2, I2, q2⟩
end
structure It where
  go : Nat → Hp → Prop
  yld : Nat → Hp → V → Hp → Prop
  stop : Nat → Hp → Prop
def FpOk (X : Cx) (pins : List (Addr × Obj)) (H : Hp) (b : Addr) : Prop :=
  H b = none ∧ b ≠ X.env.locals ∧ b ∉ X.fs ∧ (b ∈ X.ex ∨ X.s_0.heap.objs.size ≤ b) ∧ (∀ x c, X.env.cells.lookup x = some c → c ≠ b) ∧ ∀ p ∈ X.pn ++ pins, p.1 ≠ b
theorem Inv.fpOk {X : Cx} {pins : List (Addr × Obj)} {σ : St} {H H' : Hp} {s : Shared} {b : Addr} (I : Inv X pins σ H s) (hb : s.heap.objs.size ≤ b) (hn : H' b = none) : FpOk X pins H' b := by
  refine ⟨hn, Nat.ne_of_gt (Nat.lt_of_lt_of_le I.lt hb), I.nofs hb, .inr (Nat.le_trans I.sz hb), fun x c e z => ?_, fun p hp z => ?_⟩
  · obtain ⟨v, q⟩ := I.cell x c e
    exact absurd (Nat.lt_of_lt_of_le q.lt (by rw [z]; exact hb)) (Nat.lt_irrefl _)
  · exact absurd (Nat.lt_of_lt_of_le (Heap.lt_size (I.pin p hp).1) (by rw [z]; exact hb)) (Nat.lt_irrefl _)
structure Turn (P : Program) (w : World) (K : PySem.W.Frag) (tg : Expr) (J : It) (fp : List Addr) (it : Addr) (tn : Nat → Heap → Prop) : Prop where
  mem : it ∈ fp
  obj : ∀ i h, tn i h → ∀ b ∈ fp, ∃ o, h.get? b = some o ∧ ∀ v, o.data ≠ .cell v
  keep : ∀ i h h', tn i h → (∀ b ∈ fp, ∀ o, h.get? b = some o → h'.get? b = some o) → tn i h'
  item : ∀ (X : Cx), X.prog = P → X.w = w → X.K = K → X.calm = true → ∀ (i : Nat) (pins : List (Addr × Obj)) (s : Shared) (σ : St) (H : Hp) (E : Value → Shared → Prop), Inv X pins σ H s → (∀ b ∈ fp, FpOk X pins H b) → tn i s.heap → J.go i H →
    wpAny (model P w) X.A (pyNext (.ref it)) (fun r s1 => ∃ u, r = some u ∧
      wpAny (model P w) X.A (letOwnedTupleGo tg (.ref it) u) (fun _ s2 => ∃ x H', Inv X pins σ H' s2 ∧ RelV x u ∧ J.yld i H x H' ∧ tn (i + 1) s2.heap ∧ ∀ b ∈ fp, H' b = none) E s1) E s
  done : ∀ (X : Cx), X.prog = P → X.w = w → X.K = K → X.calm = true → ∀ (i : Nat) (pins : List (Addr × Obj)) (s : Shared) (σ : St) (H : Hp) (E : Value → Shared → Prop), Inv X pins σ H s → (∀ b ∈ fp, FpOk X pins H b) → tn i s.heap → J.stop i H →
    wpAny (model P w) X.A (pyNext (.ref it)) (fun r s1 => r = none ∧ Inv X pins σ H s1) E s
  self : ∀ (A : Around) (i : Nat) (s : Shared) (Q : Value → Shared → Prop) (E : Value → Shared → Prop), tn i s.heap → Q (.ref it) s → wpAny (model P w) A (pyIter (.ref it)) Q E s
abbrev TI := St → Hp → (It → Hp → Prop) → Prop
def PIE (X : Cx) (pins : List (Addr × Obj)) (σ : St) (tg : Expr) (R : It → Hp → Prop) (itv : Value) (s2 : Shared) : Prop :=
  ∃ (it : Addr) (fp : List Addr) (tn : Nat → Heap → Prop) (J : It) (H' : Hp), itv = .ref it ∧ Inv X pins σ H' s2 ∧ Turn X.prog X.w X.K tg J fp it tn ∧ tn 0 s2.heap ∧ (∀ b ∈ fp, FpOk X pins H' b) ∧ R J H'
def PI (X : Cx) (tg iter : Expr) (wi : TI) : Prop :=
  ∀ (pins : List (Addr × Obj)) (s : Shared) (σ : St) (H : Hp) (R : It → Hp → Prop), Inv X pins σ H s → wi σ H R →
    wpAny (model X.prog X.w) X.A (eval iter X.env) (fun v s1 => wpAny (model X.prog X.w) X.A (pyIter v) (PIE X pins σ tg R) X.xe s1) X.xe s
theorem go_of {M : Model} {A : Around} {E : Value → Shared → Prop} {s : Shared} {tg : Expr} {it : Addr} {u : Value} {o : Obj} {n : String} {vs : Array Value} {Q : Unit → Shared → Prop} (ho : s.heap.get? it = some o) (hc : o.cls = .type n) (hd : o.data = .fields vs)
    (hn : ["enumerate", "zip", "dict_itemiterator", "dict_reverseitemiterator", "odict_iterator", "itertools.zip_longest", "itertools.pairwise"].contains n = false) (hQ : Q () s) : wpAny M A (letOwnedTupleGo tg (.ref it) u) Q E s := by
  unfold letOwnedTupleGo
  cases tg <;> first
    | exact wpAny_pure hQ
    | (cases u <;> first
        | exact wpAny_pure hQ
        | (refine wpAny_bind (wpAny_load ho ?_)
           rw [hc, hd]
           show wpAny M A (if (["enumerate", "zip", "dict_itemiterator", "dict_reverseitemiterator", "odict_iterator", "itertools.zip_longest", "itertools.pairwise"].contains n && vs[0]? == some (rawInt _)) = true then _ else _) Q E s
           rw [if_neg (by intro h; rw [hn, Bool.false_and] at h; cases h)]
           exact wpAny_pure hQ))
def Itl (K : PySem.W.Frag) (a : Addr) : It :=
  ⟨fun i H => ∃ xs x, SqL K H a xs ∧ xs[i]? = some x, fun i H x H' => H' = H ∧ ∀ xs, SqL K H a xs → xs[i]? = some x, fun i H => ∃ xs, SqL K H a xs ∧ xs.length ≤ i⟩
def Itt (K : PySem.W.Frag) (a : Addr) : It :=
  ⟨fun i H => ∃ xs x, SqT K H a xs ∧ xs[i]? = some x, fun i H x H' => H' = H ∧ ∀ xs, SqT K H a xs → xs[i]? = some x, fun i H => ∃ xs, SqT K H a xs ∧ xs.length ≤ i⟩
def Itr (lo : Int) (n : Nat) : It := ⟨fun i _ => i < n, fun i H x H' => H' = H ∧ x = .int (lo + i), fun i _ => n ≤ i⟩
theorem turn_list {P : Program} {w : World} {K : PySem.W.Frag} {tg : Expr} (a it : Addr) : Turn P w K tg (Itl K a) [it] it (fun i h => h.IsListIter it a i) where
  mem := by simp
  obj := fun i h st b hb => by
    have e : b = it := by simpa using hb
    subst e
    obtain ⟨o, e, c, d⟩ := st
    exact ⟨o, e, fun v z => by rw [d] at z; cases z⟩
  keep := fun i h h' st k => st.at fun o e => k it (by simp) o e
  item := by
    intro X hP hw hK hc i pins s σ H E I hf st hg
    subst hP hw hK
    obtain ⟨xs, x, hq, hx⟩ := hg
    obtain ⟨its, rv, p, hz⟩ := I.list hq
    obtain ⟨u, hu, ru⟩ := rv.get hx
    obtain ⟨f0, f1, f2, f3, f4, f5⟩ := hf it (by simp)
    refine wpAny_pyNext_list_item st p.isList (x := u) (by simpa using hu) fun h' st' sb => ?_
    have I1 : Inv X pins σ H { s with heap := h' } := I.turned (t' := s.toks) (fun b o hb e => (sb.2 b hb).trans e) f0 f1 f3 f4 f5
    obtain ⟨o, e, c, d⟩ := id st'
    exact ⟨u, rfl, go_of (s := { s with heap := h' }) e c d (by decide) ⟨x, H, I1, ru, ⟨rfl, fun ys hy => by rw [I.list_inj hy hq]; exact hx⟩, st', fun b hb => (hf b hb).1⟩⟩
  done := by
    intro X hP hw hK hc i pins s σ H E I hf st hg
    subst hP hw hK
    obtain ⟨xs, hq, hx⟩ := hg
    obtain ⟨its, rv, p, hz⟩ := I.list hq
    obtain ⟨f0, f1, f2, f3, f4, f5⟩ := hf it (by simp)
    have hl := rv.length
    exact wpAny_pyNext_list_end (I.ok.hd hc) st p.isList (by simp; omega) fun h' eb => ⟨rfl, I.turned (t' := s.toks) (fun b o hb e => eb b o hb e) f0 f1 f3 f4 f5⟩
  self := fun _ _ _ _ _ st h => wpAny_pyIter_listiter st h
theorem turn_tuple {P : Program} {w : World} {K : PySem.W.Frag} {tg : Expr} (a it : Addr) : Turn P w K tg (Itt K a) [it] it (fun i h => h.IsTupleIter it a i) where
  mem := by simp
  obj := fun i h st b hb => by
    have e : b = it := by simpa using hb
    subst e
    obtain ⟨o, e, c, d⟩ := st
    exact ⟨o, e, fun v z => by rw [d] at z; cases z⟩
  keep := fun i h h' st k => st.at fun o e => k it (by simp) o e
  item := by
    intro X hP hw hK hc i pins s σ H E I hf st hg
    subst hP hw hK
    obtain ⟨xs, x, hq, hx⟩ := hg
    obtain ⟨its, rv, p, hz⟩ := I.tuple hq
    obtain ⟨u, hu, ru⟩ := rv.get hx
    obtain ⟨f0, f1, f2, f3, f4, f5⟩ := hf it (by simp)
    refine wpAny_pyNext_tuple_item st (show s.heap.IsTuple a its.toArray from p) (x := u) (by simpa using hu) fun h' st' sb => ?_
    have I1 : Inv X pins σ H { s with heap := h' } := I.turned (t' := s.toks) (fun b o hb e => (sb.2 b hb).trans e) f0 f1 f3 f4 f5
    obtain ⟨o, e, c, d⟩ := id st'
    exact ⟨u, rfl, go_of (s := { s with heap := h' }) e c d (by decide) ⟨x, H, I1, ru, ⟨rfl, fun ys hy => by rw [I.tuple_inj hy hq]; exact hx⟩, st', fun b hb => (hf b hb).1⟩⟩
  done := by
    intro X hP hw hK hc i pins s σ H E I hf st hg
    subst hP hw hK
    obtain ⟨xs, hq, hx⟩ := hg
    obtain ⟨its, rv, p, hz⟩ := I.tuple hq
    obtain ⟨f0, f1, f2, f3, f4, f5⟩ := hf it (by simp)
    have hl := rv.length
    exact wpAny_pyNext_tuple_end (I.ok.hd hc) st (show s.heap.IsTuple a its.toArray from p) (by simp; omega) fun h' eb => ⟨rfl, I.turned (t' := s.toks) (fun b o hb e => eb b o hb e) f0 f1 f3 f4 f5⟩
  self := fun _ _ _ _ _ st h => wpAny_pyIter_tupleiter st h
theorem turn_range {P : Program} {w : World} {K : PySem.W.Frag} {tg : Expr} (it : Addr) (lo : Int) (n : Nat) : Turn P w K tg (Itr lo n) [it] it (fun i h => IsRangeIter h it (lo + (i : Nat) * 1) ((n : Int) - (i : Nat)) 1) where
  mem := by simp
  obj := fun i h st b hb => by
    have e : b = it := by simpa using hb
    subst e
    exact ⟨_, st, fun v z => by
      have z' : Data.fields _ = Data.cell v := z
      cases z'⟩
  keep := fun i h h' st k => k it (by simp) _ st
  item := by
    intro X hP hw hK hc i pins s σ H E I hf st hg
    subst hP hw hK
    obtain ⟨f0, f1, f2, f3, f4, f5⟩ := hf it (by simp)
    have W := Walks.range (prog := X.prog) (w := X.w) (I.ok.hd hc) it lo 1 n
    refine W.item i s _ _ hg st fun v h' tk hv st' kk => ?_
    obtain ⟨t, rfl⟩ := hv
    have I1 : Inv X pins σ H { s with heap := h', toks := tk } := I.turned (fun b o hb e => kk b o (by simpa using hb) e) f0 f1 f3 f4 f5
    refine ⟨_, rfl, go_of (s := { s with heap := h', toks := tk }) (n := "range_iterator") st' rfl rfl (by decide) ⟨.int (lo + i), H, I1, ⟨t, ?_⟩, ⟨rfl, rfl⟩, st', fun b hb => (hf b hb).1⟩⟩
    rw [Int.mul_one]
  done := by
    intro X hP hw hK hc i pins s σ H E I hf st hg
    subst hP hw hK
    obtain ⟨f0, f1, f2, f3, f4, f5⟩ := hf it (by simp)
    exact wpAny_pyNext_range_end (I.ok.hd hc) st (by have : n ≤ i := hg; omega) fun h' eb => ⟨rfl, I.turned (t' := s.toks) (fun b o hb e => eb b o hb e) f0 f1 f3 f4 f5⟩
  self := fun _ _ _ _ _ st h => wpAny_pyIter_rangeiter st h
end L2
namespace L2
open PySem PySem.Spec PyProof.Rows
section
variable {X : Cx} {tg : Expr}
def iList (K : PySem.W.Frag) (tl : TE) : TI := fun σ H R => tl σ H fun x H1 => ∃ a, x = .ref a ∧ (∃ xs, SqL K H1 a xs) ∧ R (Itl K a) H1
def iTup (K : PySem.W.Frag) (tl : TE) : TI := fun σ H R => tl σ H fun x H1 => ∃ a, x = .ref a ∧ (∃ xs, SqT K H1 a xs) ∧ R (Itt K a) H1
theorem pi_list {l : Expr} {tl : TE} (hl : PE X l tl) : PI X tg l (iList X.K tl) := by
  intro pins s σ H R I h
  refine thn (hl pins s σ H _ I h) fun v s1 ⟨x, H1, I1, r1, q1⟩ => ?_
  obtain ⟨a, e, ⟨xs, hq⟩, q⟩ := q1
  subst e
  cases r1
  obtain ⟨its, rv, p, hz⟩ := I1.list hq
  refine wpAny_pyIter_list p.isList ?_
  refine ⟨s1.heap.objs.size, [s1.heap.objs.size], _, _, H1, rfl, I1.kept (t' := s1.toks) fun b o e => Heap.get?_push_of_some _ e, turn_list a _, ⟨_, Heap.get?_push_size _ rfl, rfl, rfl⟩, fun b hb => ?_, q⟩
  have e : b = s1.heap.objs.size := by simpa using hb
  subst e
  exact I1.fpOk (Nat.le_refl _) (I1.hok.fresh (Nat.le_refl _))
theorem pi_tup {l : Expr} {tl : TE} (hl : PE X l tl) : PI X tg l (iTup X.K tl) := by
  intro pins s σ H R I h
  refine thn (hl pins s σ H _ I h) fun v s1 ⟨x, H1, I1, r1, q1⟩ => ?_
  obtain ⟨a, e, ⟨xs, hq⟩, q⟩ := q1
  subst e
  cases r1
  obtain ⟨its, rv, p, hz⟩ := I1.tuple hq
  refine wpAny_pyIter_tuple (show s1.heap.IsTuple a its.toArray from p) ?_
  refine ⟨s1.heap.objs.size, [s1.heap.objs.size], _, _, H1, rfl, I1.kept (t' := s1.toks) fun b o e => Heap.get?_push_of_some _ e, turn_tuple a _, ⟨_, Heap.get?_push_size _ rfl, rfl, rfl⟩, fun b hb => ?_, q⟩
  have e : b = s1.heap.objs.size := by simpa using hb
  subst e
  exact I1.fpOk (Nat.le_refl _) (I1.hok.fresh (Nat.le_refl _))
theorem range_it {pins : List (Addr × Obj)} {σ : St} {H : Hp} {s : Shared} {R : It → Hp → Prop} {E : Value → Shared → Prop} {lo hi : Int} {t u v : Tok} {tk : Nat} (I : Inv X pins σ H s) (h1 : -(2 ^ 62) ≤ lo) (h2 : lo < 2 ^ 62) (h3 : -(2 ^ 62) ≤ hi) (h4 : hi < 2 ^ 62)
    (q : R (Itr lo (hi - lo).toNat) H) : wpAny (model X.prog X.w) X.A (pyIter (.ref s.heap.objs.size)) (PIE X pins σ tg R) E { s with heap := s.heap.push { cls := .type "range", data := .fields #[.int lo t, .int hi u, .int 1 v] }, toks := tk } := by
  refine wpAny_pyIter_range (IsRange.new ..) (small_one h1 h2 h3 h4) ?_
  have I1 : Inv X pins σ H { s with heap := s.heap.push { cls := .type "range", data := .fields #[.int lo t, .int hi u, .int 1 v] }, toks := tk } := I.kept fun b o e => Heap.get?_push_of_some _ e
  refine ⟨(s.heap.push { cls := .type "range", data := .fields #[.int lo t, .int hi u, .int 1 v] }).objs.size, [(s.heap.push { cls := .type "range", data := .fields #[.int lo t, .int hi u, .int 1 v] }).objs.size], _, _, H, rfl,
    I1.kept (t' := tk) fun b o e => Heap.get?_push_of_some _ e, turn_range _ lo (hi - lo).toNat, ?_, fun b hb => ?_, q⟩
  · have e1 : lo + ((0 : Nat) : Int) * 1 = lo := by simp
    have e2 : (((hi - lo).toNat : Nat) : Int) - ((0 : Nat) : Int) = Builtin.Range.rangeSize lo hi 1 := by rw [rangeSize_one]; split <;> omega
    show IsRangeIter _ _ (lo + ((0 : Nat) : Int) * 1) ((((hi - lo).toNat : Nat) : Int) - ((0 : Nat) : Int)) 1
    rw [e1, e2]
    exact Heap.get?_push_size _ rfl
  · have e : b = (s.heap.push { cls := .type "range", data := .fields #[.int lo t, .int hi u, .int 1 v] }).objs.size := by simpa using hb
    subst e
    exact I1.fpOk (Nat.le_refl _) (I1.hok.fresh (Nat.le_refl _))
def iRng1 (ta : TA) : TI := fun σ H R => ta σ H fun vs H1 => ∃ j : Int, vs = [.int j] ∧ -(2 ^ 62) ≤ j ∧ j < 2 ^ 62 ∧ R (Itr 0 j.toNat) H1
theorem pi_range1 {a : Expr} {ta : TA} {p pos : Pos} (hg : Gl X "range") (hm : X.mg "range" = none) (ha : PA X [a] ta) (hs : starEach [a] X.env = [(false, eval a X.env)] := by rfl) : PI X tg (.Call (.Name "range" p) [a] [] pos) (iRng1 ta) := by
  intro pins s σ H R I h
  refine Call_ (ld_blt I hg hm boot_range (PyProof.Rows.callWith_type1 (thn (ha pos pins s σ H _ I h) fun us s1 ⟨vs, H1, I1, r1, q1⟩ => ?_) hs rfl))
  obtain ⟨j, e, q1, q2, q⟩ := q1
  subst e
  cases r1 with
  | cons r rr =>
    cases rr
    obtain ⟨t, rfl⟩ := r
    exact call_range_1 (range_it I1 (by omega) (by omega) q1 q2 (by simpa using q))
def tFor (wi : TI) (g : TG) (tb : TS) : TS := fun D σ H => wi σ H fun J H1 => ∃ W : Nat → Nat → St → Hp → Prop, (∃ m, W 0 m σ H1) ∧ ∀ i m σ H, W i m σ H →
  (J.stop i H ∧ D.nx σ H) ∨ (J.go i H ∧ ∃ N : St → Hp → Prop, (∀ σ' H', N σ' H' → ∃ m', m' < m ∧ W (i + 1) m' σ' H') ∧ ∀ x H', J.yld i H x H' → g x σ H' fun σ2 H2 => tb { D with nx := N, ct := N, bk := D.nx } σ2 H2)
def pinsAt (fp : List Addr) (h : Heap) : List (Addr × Obj) := fp.filterMap fun b => (h.get? b).map fun o => (b, o)
theorem mem_pinsAt {fp : List Addr} {h : Heap} {b : Addr} {o : Obj} (hb : b ∈ fp) (e : h.get? b = some o) : (b, o) ∈ pinsAt fp h := List.mem_filterMap.mpr ⟨b, hb, by rw [e]; rfl⟩
theorem of_pinsAt {fp : List Addr} {h : Heap} {p : Addr × Obj} (hp : p ∈ pinsAt fp h) : p.1 ∈ fp ∧ h.get? p.1 = some p.2 := by
  obtain ⟨b, hb, e⟩ := List.mem_filterMap.mp hp
  cases q : h.get? b with
  | none => rw [q] at e; cases e
  | some o =>
    rw [q] at e
    have e' : (b, o) = p := Option.some.inj e
    subst e'
    exact ⟨hb, q⟩
theorem Inv.pinned {pins : List (Addr × Obj)} {σ : St} {H : Hp} {s : Shared} {fp : List Addr} (I : Inv X pins σ H s) (hf : ∀ b ∈ fp, FpOk X pins H b) (ho : ∀ b ∈ fp, ∃ o, s.heap.get? b = some o ∧ ∀ v, o.data ≠ .cell v) : Inv X (pins ++ pinsAt fp s.heap) σ H s :=
  I.pins_of fun p hp => (List.mem_append.mp hp).elim (fun z => I.pin p (List.mem_append_right _ z)) fun z => by
    obtain ⟨hb, e⟩ := of_pinsAt z
    obtain ⟨f0, f1, f2, _⟩ := hf p.1 hb
    obtain ⟨o, e', d⟩ := ho p.1 hb
    rw [e] at e'; cases e'
    exact ⟨e, f0, f1, f2, d⟩
theorem Inv.unpinned {pins pl : List (Addr × Obj)} {σ : St} {H : Hp} {s : Shared} (I : Inv X (pins ++ pl) σ H s) : Inv X pins σ H s := I.pins_of fun p hp => I.pin p (List.mem_append_right _ (List.mem_append_left _ hp))
theorem ps_for {iter : Expr} {body : List Stmt} {wi : TI} {g : TG} {tb : TS} {pos : Pos} (hp : PassesOwn (model X.prog X.w) X.A X.env X.xe) (hc : X.calm = true) (hi : PI X tg iter wi) (hg : PG X tg g) (hb : PSs X body tb)
    (hs : ∀ x, foldedSetIterable iter X.env x = pure x := by intro _; rfl) : PS X (.For tg iter body [] pos) (tFor wi g tb) := by
  intro pins s σ H D I h
  refine wpAny_For (thn (hi pins s σ H _ I h) fun v s1 h1 => thn h1 fun itv s2 h2 => ?_) hs
  obtain ⟨it, fp, tn, J, H2, e, I2, T, st2, f2, W, ⟨m0, w0⟩, turn⟩ := h2
  subst e
  have stat : ∀ {H' : Hp}, (∀ b ∈ fp, H' b = none) → ∀ b ∈ fp, FpOk X pins H' b := fun hn b hb => ⟨hn b hb, (f2 b hb).2⟩
  refine codeAny_forLoop_any (fun n s' => ∃ i σ' H', Inv X pins σ' H' s' ∧ tn i s'.heap ∧ (∀ b ∈ fp, H' b = none) ∧ W i n σ' H') ?_ m0 ⟨0, σ, H2, I2, st2, fun b hb => (f2 b hb).1, w0⟩
  rintro n s3 ⟨i, σ3, H3, I3, st3, fr3, w3⟩
  rcases turn i n σ3 H3 w3 with ⟨stop, qn⟩ | ⟨go, N, hN, step⟩
  · refine wpAny_passesOwn hp (thn (T.done X rfl rfl rfl hc i pins s3 σ3 H3 X.xe I3 (stat fr3) st3 stop) fun r s4 ⟨hr, I4⟩ => ?_)
    subst hr
    exact wpAny_execs_nil ⟨σ3, H3, I4, qn⟩
  · refine wpAny_passesOwn hp (thn (T.item X rfl rfl rfl hc i pins s3 σ3 H3 X.xe I3 (stat fr3) st3 go) fun r s4 ⟨u, hr, h4⟩ => ?_)
    subst hr
    refine wpAny_passesOwn hp (thn h4 fun _ s5 ⟨x, H5, I5, r5, y5, st5, fr5⟩ => ?_)
    have I5' := I5.pinned (stat fr5) (T.obj _ _ st5)
    refine wpAny_passesOwn hp (thn (hg _ s5 σ3 H5 x u _ I5' r5 (step x H5 y5)) fun _ s6 ⟨σ6, H6, I6, q6⟩ => ?_)
    refine wpAny_passesOwn hp (thn (hb _ s6 σ6 H6 _ I6 q6) fun f s7 q7 => ?_)
    have again : ∀ {σ7 : St} {H7 : Hp}, Inv X (pins ++ pinsAt fp s5.heap) σ7 H7 s7 → N σ7 H7 → ∃ m, m < n ∧ ∃ i σ' H', Inv X pins σ' H' s7 ∧ tn i s7.heap ∧ (∀ b ∈ fp, H' b = none) ∧ W i m σ' H' := fun {σ7 H7} I7 n7 => by
      obtain ⟨m', hm, w7⟩ := hN σ7 H7 n7
      refine ⟨m', hm, i + 1, σ7, H7, I7.unpinned, T.keep _ _ _ st5 fun b hb o e => (I7.pin (b, o) (List.mem_append_right _ (List.mem_append_right _ (mem_pinsAt hb e)))).1, fun b hb => ?_, w7⟩
      obtain ⟨o, e, d⟩ := T.obj _ _ st5 b hb
      exact (I7.pin (b, o) (List.mem_append_right _ (List.mem_append_right _ (mem_pinsAt hb e)))).2.1
    cases f with
    | next => obtain ⟨σ7, H7, I7, n7⟩ := q7; exact again I7 n7
    | cont => obtain ⟨σ7, H7, I7, n7⟩ := q7; exact again I7 n7
    | brk => obtain ⟨σ7, H7, I7, q7⟩ := q7; exact ⟨σ7, H7, I7.unpinned, q7⟩
    | ret v => obtain ⟨x7, σ7, H7, I7, r7, q7⟩ := q7; exact ⟨x7, σ7, H7, I7.unpinned, r7, q7⟩
end
theorem for_list {K : PySem.W.Frag} {a : Addr} {xs : List V} {g : TG} {tb : TS} {D : Ends} {σ : St} {H : Hp} (Pv : Nat → St → Hp → Prop) (h0 : Pv 0 σ H) (hl : ∀ i σ H, i ≤ xs.length → Pv i σ H → SqL K H a xs)
    (hs : ∀ i x σ H, xs[i]? = some x → Pv i σ H → g x σ H fun σ2 H2 => tb { D with nx := Pv (i + 1), ct := Pv (i + 1), bk := D.nx } σ2 H2) (hd : ∀ σ H, Pv xs.length σ H → D.nx σ H) :
    ∃ W : Nat → Nat → St → Hp → Prop, (∃ m, W 0 m σ H) ∧ ∀ i m σ H, W i m σ H →
      ((Itl K a).stop i H ∧ D.nx σ H) ∨ ((Itl K a).go i H ∧ ∃ N : St → Hp → Prop, (∀ σ' H', N σ' H' → ∃ m', m' < m ∧ W (i + 1) m' σ' H') ∧ ∀ x H', (Itl K a).yld i H x H' → g x σ H' fun σ2 H2 => tb { D with nx := N, ct := N, bk := D.nx } σ2 H2) := by
  refine ⟨fun i m σ H => m = xs.length - i ∧ i ≤ xs.length ∧ Pv i σ H, ⟨xs.length, by simp, Nat.zero_le _, h0⟩, ?_⟩
  rintro i m σ H ⟨rfl, hi, p⟩
  have q := hl i σ H hi p
  by_cases hlt : i < xs.length
  · refine .inr ⟨⟨xs, xs[i], q, by simp [hlt]⟩, Pv (i + 1), fun σ' H' p' => ⟨xs.length - (i + 1), by omega, rfl, hlt, p'⟩, fun x H' y => ?_⟩
    obtain ⟨e, y⟩ := y
    subst e
    exact hs i x σ _ (y xs q) p
  · have e : i = xs.length := by omega
    subst e
    exact .inl ⟨⟨xs, q, Nat.le_refl _⟩, hd σ H p⟩
theorem for_range {lo : Int} {n : Nat} {g : TG} {tb : TS} {D : Ends} {σ : St} {H : Hp} (Pv : Nat → St → Hp → Prop) (h0 : Pv 0 σ H)
    (hs : ∀ i σ H, i < n → Pv i σ H → g (.int (lo + i)) σ H fun σ2 H2 => tb { D with nx := Pv (i + 1), ct := Pv (i + 1), bk := D.nx } σ2 H2) (hd : ∀ σ H, Pv n σ H → D.nx σ H) :
    ∃ W : Nat → Nat → St → Hp → Prop, (∃ m, W 0 m σ H) ∧ ∀ i m σ H, W i m σ H →
      ((Itr lo n).stop i H ∧ D.nx σ H) ∨ ((Itr lo n).go i H ∧ ∃ N : St → Hp → Prop, (∀ σ' H', N σ' H' → ∃ m', m' < m ∧ W (i + 1) m' σ' H') ∧ ∀ x H', (Itr lo n).yld i H x H' → g x σ H' fun σ2 H2 => tb { D with nx := N, ct := N, bk := D.nx } σ2 H2) := by
  refine ⟨fun i m σ H => m = n - i ∧ i ≤ n ∧ Pv i σ H, ⟨n, by simp, Nat.zero_le _, h0⟩, ?_⟩
  rintro i m σ H ⟨rfl, hi, p⟩
  by_cases hlt : i < n
  · refine .inr ⟨hlt, Pv (i + 1), fun σ' H' p' => ⟨n - (i + 1), by omega, rfl, hlt, p'⟩, fun x H' y => ?_⟩
    obtain ⟨e, y⟩ := y
    subst e y
    exact hs i σ _ hlt p
  · have e : i = n := by omega
    subst e
    exact .inl ⟨Nat.le_refl _, hd σ H p⟩
theorem while_by {c : TT} {tb : TS} {D : Ends} {σ : St} {H : Hp} (Pv : St → Hp → Prop) (μ : St → Hp → Nat) (h0 : Pv σ H)
    (hs : ∀ σ H, Pv σ H → c σ H fun b H1 => if b = true then tb { D with nx := fun σ' H' => Pv σ' H' ∧ μ σ' H' < μ σ H, ct := fun σ' H' => Pv σ' H' ∧ μ σ' H' < μ σ H, bk := D.nx } σ H1 else D.nx σ H1)
    (mono : ∀ σ H Q Q', (∀ b H1, Q b H1 → Q' b H1) → c σ H Q → c σ H Q') : tWhile c tb D σ H := by
  refine ⟨fun m σ H => m = μ σ H ∧ Pv σ H, ⟨_, rfl, h0⟩, ?_⟩
  rintro m σ H ⟨rfl, p⟩
  refine mono σ H _ _ (fun b H1 q => ?_) (hs σ H p)
  cases b with
  | true => exact ⟨_, fun σ' H' ⟨p', l⟩ => ⟨_, l, rfl, p'⟩, q⟩
  | false => exact q
end L2
namespace L2
open PySem PySem.Spec PyProof.Rows
abbrev R2 := V → V → Hp → VK → Prop
def OpR (X : Cx) (f : Value → Value → Sem Value) (r : R2) : Prop :=
  ∀ (pins : List (Addr × Obj)) (s : Shared) (σ : St) (H : Hp) (x y : V) (v u : Value) (Q : VK), Inv X pins σ H s → RelV x v → RelV y u → r x y H Q →
    wpAny (model X.prog X.w) X.A (f v u) (EP X pins σ Q) X.xe s
def UnR (X : Cx) (f : Value → Sem Value) (r : V → Hp → VK → Prop) : Prop :=
  ∀ (pins : List (Addr × Obj)) (s : Shared) (σ : St) (H : Hp) (x : V) (v : Value) (Q : VK), Inv X pins σ H s → RelV x v → r x H Q →
    wpAny (model X.prog X.w) X.A (f v) (EP X pins σ Q) X.xe s
def CallR (X : Cx) (f : Value) (r : List V → Hp → VK → Prop) : Prop :=
  ∀ (pins : List (Addr × Obj)) (s : Shared) (σ : St) (H : Hp) (xs : List V) (us : List Value) (Q : VK), Inv X pins σ H s → Vals xs us → r xs H Q →
    wpAny (model X.prog X.w) X.A (call f us) (EP X pins σ Q) X.xe s
def TruR (X : Cx) (r : V → Hp → (Bool → Hp → Prop) → Prop) : Prop :=
  ∀ (pins : List (Addr × Obj)) (s : Shared) (σ : St) (H : Hp) (x : V) (v : Value) (Q : Bool → Hp → Prop), Inv X pins σ H s → RelV x v → r x H Q →
    wpAny (model X.prog X.w) X.A (truthy v) (TP X pins σ Q) X.xe s
def tOp (r : R2) (ta tb : TE) : TE := fun σ H Q => ta σ H fun x H1 => tb σ H1 fun y H2 => r x y H2 Q
def tUn (r : V → Hp → VK → Prop) (ta : TE) : TE := fun σ H Q => ta σ H fun x H1 => r x H1 Q
def rI (C : Int → Int → Prop) (g : Int → Int → V) : R2 := fun x y H Q => ∃ i j, x = .int i ∧ y = .int j ∧ C i j ∧ Q (g i j) H
def rI0 (g : Int → Int → V) : R2 := fun x y H Q => ∃ i j, x = .int i ∧ y = .int j ∧ Q (g i j) H
def rU (g : Int → V) : V → Hp → VK → Prop := fun x H Q => ∃ i, x = .int i ∧ Q (g i) H
section
variable {X : Cx} {a b c : Expr} {ta tb tc : TE} {pos : Pos}
theorem binT (ha : PE X a ta) (hb : PE X b tb) {pins : List (Addr × Obj)} {s : Shared} {σ : St} {H : Hp} {R : V → V → Hp → Prop} (I : Inv X pins σ H s)
    (h : ta σ H fun x H1 => tb σ H1 fun y H2 => R x y H2) {Q : Value → Shared → Prop} {f : Value → Value → Sem Value}
    (hf : ∀ v u s2 x y H2, Inv X pins σ H2 s2 → RelV x v → RelV y u → R x y H2 → wpAny (model X.prog X.w) X.A (f v u) Q X.xe s2) :
    wpAny (model X.prog X.w) X.A (eval a X.env) (fun v s₁ => wpAny (model X.prog X.w) X.A (eval b X.env) (fun u s₂ => wpAny (model X.prog X.w) X.A (f v u) Q X.xe s₂) X.xe s₁) X.xe s := by
  refine thn (ha pins s σ H _ I h) fun v s1 ⟨x, H1, I1, r1, q1⟩ => ?_
  refine thn (hb pins s1 σ H1 _ I1 q1) fun u s2 ⟨y, H2, I2, r2, q2⟩ => ?_
  exact hf v u s2 x y H2 I2 r1 r2 q2
theorem pe_op {op : Operator} {r : R2} (ho : OpR X (binaryOp op) r) (ha : PE X a ta) (hb : PE X b tb) : PE X (.BinOp a op b pos) (tOp r ta tb) := by
  intro pins s σ H Q I h
  exact wpAny_BinOp (binT ha hb I h fun v u s2 x y H2 I2 rx ry q => ho pins s2 σ H2 x y v u Q I2 rx ry q)
theorem pe_un {op : UnaryOp} {r : V → Hp → VK → Prop} (ho : UnR X (unaryOp op) r) (ha : PE X a ta) : PE X (.UnaryOp op a pos) (tUn r ta) := by
  intro pins s σ H Q I h
  exact UnaryOp_ (thn (ha pins s σ H _ I h) fun v s1 ⟨x, H1, I1, r1, q1⟩ => ho pins s1 σ H1 x v Q I1 r1 q1)
theorem opI {f : Value → Value → Sem Value} {C : Int → Int → Prop} {g : Int → Int → Int}
    (rule : ∀ (i j : Int) (t u : Tok) (s : Shared) (Q : Value → Shared → Prop) (E : Value → Shared → Prop), C i j → Q (.int (g i j) s.toks) { s with toks := s.toks + 1 } → wpAny (model X.prog X.w) X.A (f (.int i t) (.int j u)) Q E s) :
    OpR X f (rI C fun i j => .int (g i j)) := by
  intro pins s σ H x y v u Q I rx ry h
  obtain ⟨i, j, rfl, rfl, hc, q⟩ := h
  obtain ⟨t, rfl⟩ := rx
  obtain ⟨t', rfl⟩ := ry
  exact rule i j t t' s _ _ hc ⟨.int (g i j), H, I.tok _, ⟨_, rfl⟩, q⟩
theorem opI0 {f : Value → Value → Sem Value} {g : Int → Int → Int}
    (rule : ∀ (i j : Int) (t u : Tok) (s : Shared) (Q : Value → Shared → Prop) (E : Value → Shared → Prop), Q (.int (g i j) s.toks) { s with toks := s.toks + 1 } → wpAny (model X.prog X.w) X.A (f (.int i t) (.int j u)) Q E s) :
    OpR X f (rI0 fun i j => .int (g i j)) := by
  intro pins s σ H x y v u Q I rx ry h
  obtain ⟨i, j, rfl, rfl, q⟩ := h
  obtain ⟨t, rfl⟩ := rx
  obtain ⟨t', rfl⟩ := ry
  exact rule i j t t' s _ _ ⟨.int (g i j), H, I.tok _, ⟨_, rfl⟩, q⟩
theorem opB0 {f : Value → Value → Sem Value} {g : Int → Int → Bool}
    (rule : ∀ (i j : Int) (t u : Tok) (s : Shared) (Q : Value → Shared → Prop) (E : Value → Shared → Prop), Q (.bool (g i j)) s → wpAny (model X.prog X.w) X.A (f (.int i t) (.int j u)) Q E s) :
    OpR X f (rI0 fun i j => .bl (g i j)) := by
  intro pins s σ H x y v u Q I rx ry h
  obtain ⟨i, j, rfl, rfl, q⟩ := h
  obtain ⟨t, rfl⟩ := rx
  obtain ⟨t', rfl⟩ := ry
  exact rule i j t t' s _ _ ⟨.bl (g i j), H, I, rfl, q⟩
theorem two_pow_nn (k : Nat) : (0 : Int) ≤ 2 ^ k := by
  rw [two_pow_cast]
  exact Int.natCast_nonneg _
theorem op_add : OpR X (binaryOp .Add) (rI0 fun i j => .int (i + j)) := opI0 fun _ _ _ _ _ _ _ q => add_int q
theorem op_sub : OpR X (binaryOp .Sub) (rI0 fun i j => .int (i - j)) := opI0 fun _ _ _ _ _ _ _ q => sub_int q
theorem op_shr : OpR X (binaryOp .RShift) (rI (fun _ j => 0 ≤ j) fun i j => .int (i / 2 ^ j.toNat)) := opI fun i j _ _ _ _ _ hc q =>
  rshift_int hc (by rw [Int.fdiv_eq_ediv_of_nonneg i (two_pow_nn _)]; exact q)
theorem op_and : OpR X (binaryOp .BitAnd) (rI0 fun i j => .int (Builtin.bitAnd i j)) := opI0 fun _ _ _ _ _ _ _ q => and_int q
theorem op_or : OpR X (binaryOp .BitOr) (rI0 fun i j => .int (Builtin.bitOr i j)) := opI0 fun _ _ _ _ _ _ _ q => or_int q
theorem iop_add : OpR X (inplaceOp .Add) (rI0 fun i j => .int (i + j)) := opI0 fun _ _ _ _ _ _ _ q => iadd_int q
theorem iop_and : OpR X (inplaceOp .BitAnd) (rI0 fun i j => .int (Builtin.bitAnd i j)) := opI0 fun _ _ _ _ _ _ _ q => iand_int q
theorem iop_or : OpR X (inplaceOp .BitOr) (rI0 fun i j => .int (Builtin.bitOr i j)) := opI0 fun _ _ _ _ _ _ _ q => ior_int q
theorem unI {f : Value → Sem Value} {g : Int → Int}
    (rule : ∀ (i : Int) (t : Tok) (s : Shared) (Q : Value → Shared → Prop) (E : Value → Shared → Prop), Q (.int (g i) s.toks) { s with toks := s.toks + 1 } → wpAny (model X.prog X.w) X.A (f (.int i t)) Q E s) :
    UnR X f (rU fun i => .int (g i)) := by
  intro pins s σ H x v Q I rx h
  obtain ⟨i, rfl, q⟩ := h
  obtain ⟨t, rfl⟩ := rx
  exact rule i t s _ _ ⟨.int (g i), H, I.tok _, ⟨_, rfl⟩, q⟩
theorem un_neg : UnR X (unaryOp .USub) (rU fun i => .int (-i)) := unI fun _ _ _ _ _ q => neg_int q
theorem un_inv : UnR X (unaryOp .Invert) (rU fun i => .int (Builtin.bitNot i)) := unI fun _ _ _ _ _ q => invert_int q
end
def scal : V → V → Bool
  | .non, .non => true | .non, .int _ => true | .int _, .non => true | .non, .bl _ => true | .bl _, .non => true | .non, .str _ => true | .str _, .non => true
  | .int _, .int _ => true | .bl _, .bl _ => true | .str _, .str _ => true | .byt _, .byt _ => true
  | .int _, .str _ => true | .str _, .int _ => true | .bl _, .str _ => true | .str _, .bl _ => true
  | _, _ => false
def rEq : R2 := fun x y H Q => scal x y = true ∧ Q (.bl (decide (x = y))) H
def rNe : R2 := fun x y H Q => scal x y = true ∧ Q (.bl (!decide (x = y))) H
theorem dec_int {i j : Int} : decide (V.int i = V.int j) = (i == j) := by
  rw [Bool.eq_iff_iff]
  simp
theorem dec_bl {i j : Bool} : decide (V.bl i = V.bl j) = (i == j) := by
  rw [Bool.eq_iff_iff]
  simp
theorem dec_str {i j : Str} : decide (V.str i = V.str j) = (i == j) := by
  rw [Bool.eq_iff_iff]
  simp
theorem dec_byt {i j : Array UInt8} : decide (V.byt i = V.byt j) = (i.toList == j.toList) := by
  rw [Bool.eq_iff_iff]
  cases i
  cases j
  simp
section
variable {X : Cx} {a b c : Expr} {ta tb tc : TE} {pos : Pos}
theorem fin_bl {pins : List (Addr × Obj)} {σ : St} {H : Hp} {s : Shared} {Q : VK} {k k' : Bool} (I : Inv X pins σ H s) (q : Q (.bl k) H) (e : k = k') : EP X pins σ Q (.bool k') s := by
  subst e
  exact ⟨.bl k, H, I, rfl, q⟩
theorem op_eq : OpR X (compareOp .Eq) rEq := by
  intro pins s σ H x y v u Q I rx ry h
  obtain ⟨hs, q⟩ := h
  cases x with
  | non =>
    cases rx
    cases y with
    | non => cases ry; exact PySem.EqNone.eq_none_none (fin_bl I q (by simp))
    | bl j => cases ry; exact PySem.EqNone.eq_none_bool (fin_bl I q (by simp))
    | int j => obtain ⟨t', rfl⟩ := ry; exact PySem.EqNone.eq_none_int (fin_bl I q (by simp))
    | str j => obtain ⟨t', rfl⟩ := ry; exact PySem.EqNone.eq_none_str (fin_bl I q (by simp))
    | _ => exact absurd (show false = true from hs) Bool.false_ne_true
  | bl i =>
    cases rx
    cases y with
    | non => cases ry; exact PySem.EqNone.eq_bool_none (fin_bl I q (by simp))
    | bl j => cases ry; exact eq_bool (fin_bl I q dec_bl)
    | str j => obtain ⟨t', rfl⟩ := ry; exact PySem.EqMixed.eq_bool_str (fin_bl I q (by simp))
    | _ => exact absurd (show false = true from hs) Bool.false_ne_true
  | int i =>
    obtain ⟨t, rfl⟩ := rx
    cases y with
    | non => cases ry; exact PySem.EqNone.eq_int_none (fin_bl I q (by simp))
    | int j => obtain ⟨t', rfl⟩ := ry; exact eq_int (fin_bl I q dec_int)
    | str j => obtain ⟨t', rfl⟩ := ry; exact PySem.EqMixed.eq_int_str (fin_bl I q (by simp))
    | _ => exact absurd (show false = true from hs) Bool.false_ne_true
  | str i =>
    obtain ⟨t, rfl⟩ := rx
    cases y with
    | non => cases ry; exact PySem.EqNone.eq_str_none (fin_bl I q (by simp))
    | bl j => cases ry; exact PySem.EqMixed.eq_str_bool (fin_bl I q (by simp))
    | int j => obtain ⟨t', rfl⟩ := ry; exact PySem.EqMixed.eq_str_int (fin_bl I q (by simp))
    | str j => obtain ⟨t', rfl⟩ := ry; exact eq_str (fin_bl I q dec_str)
    | _ => exact absurd (show false = true from hs) Bool.false_ne_true
  | byt i =>
    obtain ⟨t, rfl⟩ := rx
    cases y with
    | byt j => obtain ⟨t', rfl⟩ := ry; exact PySem.W.eq_bytes (fin_bl I q dec_byt)
    | _ => exact absurd (show false = true from hs) Bool.false_ne_true
  | _ => cases y <;> exact absurd (show false = true from hs) Bool.false_ne_true
theorem op_ne : OpR X (compareOp .NotEq) rNe := by
  intro pins s σ H x y v u Q I rx ry h
  obtain ⟨hs, q⟩ := h
  cases x with
  | non =>
    cases rx
    cases y with
    | non => cases ry; exact PySem.EqNone.ne_none_none (fin_bl I q (by simp))
    | bl j => cases ry; exact PySem.EqNone.ne_none_bool (fin_bl I q (by simp))
    | int j => obtain ⟨t', rfl⟩ := ry; exact PySem.EqNone.ne_none_int (fin_bl I q (by simp))
    | str j => obtain ⟨t', rfl⟩ := ry; exact PySem.EqNone.ne_none_str (fin_bl I q (by simp))
    | _ => exact absurd (show false = true from hs) Bool.false_ne_true
  | bl i =>
    cases rx
    cases y with
    | non => cases ry; exact PySem.EqNone.ne_bool_none (fin_bl I q (by simp))
    | bl j => cases ry; exact ne_bool (fin_bl I q (congrArg not dec_bl))
    | str j => obtain ⟨t', rfl⟩ := ry; exact PySem.EqMixed.ne_bool_str (fin_bl I q (by simp))
    | _ => exact absurd (show false = true from hs) Bool.false_ne_true
  | int i =>
    obtain ⟨t, rfl⟩ := rx
    cases y with
    | non => cases ry; exact PySem.EqNone.ne_int_none (fin_bl I q (by simp))
    | int j => obtain ⟨t', rfl⟩ := ry; exact ne_int (fin_bl I q (congrArg not dec_int))
    | str j => obtain ⟨t', rfl⟩ := ry; exact PySem.EqMixed.ne_int_str (fin_bl I q (by simp))
    | _ => exact absurd (show false = true from hs) Bool.false_ne_true
  | str i =>
    obtain ⟨t, rfl⟩ := rx
    cases y with
    | non => cases ry; exact PySem.EqNone.ne_str_none (fin_bl I q (by simp))
    | bl j => cases ry; exact PySem.EqMixed.ne_str_bool (fin_bl I q (by simp))
    | int j => obtain ⟨t', rfl⟩ := ry; exact PySem.EqMixed.ne_str_int (fin_bl I q (by simp))
    | str j => obtain ⟨t', rfl⟩ := ry; exact ne_str (fin_bl I q (congrArg not dec_str))
    | _ => exact absurd (show false = true from hs) Bool.false_ne_true
  | byt i =>
    obtain ⟨t, rfl⟩ := rx
    cases y with
    | byt j => obtain ⟨t', rfl⟩ := ry; exact PySem.W.ne_bytes (fin_bl I q (congrArg not dec_byt))
    | _ => exact absurd (show false = true from hs) Bool.false_ne_true
  | _ => cases y <;> exact absurd (show false = true from hs) Bool.false_ne_true
theorem op_lt : OpR X (compareOp .Lt) (rI0 fun i j => .bl (decide (i < j))) := opB0 fun _ _ _ _ _ _ _ q => lt_int q
theorem op_gt : OpR X (compareOp .Gt) (rI0 fun i j => .bl (decide (j < i))) := opB0 fun _ _ _ _ _ _ _ q => gt_int q
theorem op_ge : OpR X (compareOp .GtE) (rI0 fun i j => .bl (decide (j ≤ i))) := opB0 fun _ _ _ _ _ _ _ q => ge_int q
theorem nomark (b : Expr) {op : CmpOp} (h : op ≠ .In := by decide) (h2 : op ≠ .NotIn := by decide) : behindInMarks op b = false := by
  have e1 : (op == CmpOp.In) = false := by cases op <;> first | rfl | exact absurd rfl h
  have e2 : (op == CmpOp.NotIn) = false := by cases op <;> first | rfl | exact absurd rfl h2
  cases b <;> simp [behindInMarks, e1, e2]
theorem pe_cmpR {op : CmpOp} {r : R2} (ho : OpR X (compareOp op) r) (ha : PE X a ta) (hb : PE X b tb) (hm : behindInMarks op b = false) : PE X (.Compare a [op] [b] pos) (tOp r ta tb) := by
  intro pins s σ H Q I h
  exact wpAny_Compare1 (binT ha hb I h fun v u s2 x y H2 I2 rx ry q => ho pins s2 σ H2 x y v u Q I2 rx ry q) hm
def tTest (t : TE) : TT := fun σ H Q => t σ H fun x H' => ∃ k, x = .bl k ∧ Q k H'
theorem pt_cmpR {op : CmpOp} {r : R2} (ho : OpR X (compareOp op) r) (ha : PE X a ta) (hb : PE X b tb) (hm : behindInMarks op b = false) : PT X (.Compare a [op] [b] pos) (tTest (tOp r ta tb)) := by
  intro pins s σ H Q I h
  refine wpAny_isTrue_Compare1 (thn (ha pins s σ H _ I h) fun v s1 ⟨x, H1, I1, r1, q1⟩ => thn (hb pins s1 σ H1 _ I1 q1) fun u s2 ⟨y, H2, I2, r2, q2⟩ =>
    thn (ho pins s2 σ H2 x y v u _ I2 r1 r2 q2) fun c s3 ⟨z, H3, I3, r3, k, e, q3⟩ => ?_) hm
  subst e
  cases r3
  exact wpAny_truthy_bool ⟨H3, I3, q3⟩
def TruV (K : PySem.W.Frag) (x : V) (H : Hp) (k : Bool) : Prop :=
  match x with
  | .non => k = false
  | .bl b => k = b
  | .int i => k = (i != 0)
  | .str y => y.length ≤ sizeLine ∧ k = ((y.length : Int) != 0)
  | .byt y => y.size ≤ sizeLine ∧ k = ((y.size : Int) != 0)
  | .ref p => (∃ xs, SqL K H p xs ∧ k = !xs.isEmpty) ∨ (∃ xs, SqT K H p xs ∧ k = !xs.isEmpty) ∨ ∃ kvs, H p = some (.dK kvs) ∧ k = !kvs.isEmpty
  | _ => False
theorem isEmpty_kv {κ : Type} {kvs : List (κ × V)} {vs : List (κ × Value)} (r : KV kvs vs) : (!vs.isEmpty) = !kvs.isEmpty := by
  cases r <;> rfl
theorem isEmpty_of {xs : List V} {its : List Value} (r : Vals xs its) : (!its.toArray.isEmpty) = !xs.isEmpty := by
  cases r <;> simp
theorem line63 : (sizeLine : Nat) < 2 ^ 63 := by rw [sizeLine_eq]; decide
theorem tru_ok : TruR X (fun x H Q => ∃ k, TruV X.K x H k ∧ Q k H) := by
  intro pins s σ H x v Q I rx h
  obtain ⟨k, e, q⟩ := h
  have hl := line63
  have hs : sizeLine = 16777216 := sizeLine_eq
  cases x with
  | non =>
    cases rx
    have e' : k = false := e
    subst e'
    exact truthy_none ⟨H, I, q⟩
  | bl b =>
    cases rx
    have e' : k = b := e
    subst e'
    exact wpAny_truthy_bool ⟨H, I, q⟩
  | int i =>
    obtain ⟨t, rfl⟩ := rx
    have e' : k = (i != 0) := e
    subst e'
    exact PySem.P.truthy_int ⟨H, I, q⟩
  | str y =>
    obtain ⟨t, rfl⟩ := rx
    obtain ⟨hy, e'⟩ : y.length ≤ sizeLine ∧ k = ((y.length : Int) != 0) := e
    subst e'
    exact PySem.P.truthy_str (by omega) ⟨H, I.tok _, q⟩
  | byt y =>
    obtain ⟨t, rfl⟩ := rx
    obtain ⟨hy, e'⟩ : y.size ≤ sizeLine ∧ k = ((y.size : Int) != 0) := e
    subst e'
    exact PySem.W.truthy_bytes (by omega) ⟨H, I.tok _, q⟩
  | ref p =>
    cases rx
    have e' : (∃ xs, SqL X.K H p xs ∧ k = !xs.isEmpty) ∨ (∃ xs, SqT X.K H p xs ∧ k = !xs.isEmpty) ∨ ∃ kvs, H p = some (.dK kvs) ∧ k = !kvs.isEmpty := e
    rcases e' with ⟨xs, hx, e'⟩ | ⟨xs, hx, e'⟩ | ⟨kvs, hx, e'⟩
    · subst e'
      obtain ⟨its, r, pl, hz⟩ := I.list hx
      have hlen := r.length
      exact wpAny_truthy_list pl.isList (by simp only [List.size_toArray]; omega) ⟨H, I.tok _, by rw [isEmpty_of r]; exact q⟩
    · subst e'
      obtain ⟨its, r, pl, hz⟩ := I.tuple hx
      have hlen := r.length
      exact truthy_tuple pl (by simp only [List.size_toArray]; omega) ⟨H, I.tok _, by rw [isEmpty_of r]; exact q⟩
    · subst e'
      obtain ⟨hz, hS, vs, r, m⟩ : kvs.length ≤ sizeLine ∧ (p == sysModules) = false ∧ ∃ vs, KV kvs vs ∧ s.heap.DictOf (mixKind X.prog X.w) p vs := I.hok p _ hx
      have hlen : kvs.length = vs.length := Paired.length r
      exact wpAny_truthy_dict hS m (by omega) ⟨H, I.tok _, by rw [isEmpty_kv r]; exact q⟩
  | _ => exact (show False from e).elim
theorem vals1 {x : V} {us : List Value} (r : Vals [x] us) : ∃ u, us = [u] ∧ RelV x u := by
  cases r with
  | cons r1 r2 => cases r2; exact ⟨_, rfl, r1⟩
end
end L2
namespace L2
open PySem PySem.Spec PyProof.Rows
structure ObjM (h : Heap) (x dx C : Addr) (mA : Str → Option Value) : Prop where
  obj : h.get? x = some (PySem.W.instObj C dx)
  ns : h.Ns1 dx mA
  ne : dx ≠ x
theorem lookIn_ns {h : Heap} {dx : Addr} {mA : Str → Option Value} (n : h.Ns1 dx mA) : ∃ od, h.get? dx = some od ∧ ∀ name, PySem.W.lookIn name od = some (mA name) := by
  obtain ⟨o, es, ep, ho, hd, hk, _, hm⟩ := n
  refine ⟨o, ho, fun name => ?_⟩
  have e := hm name
  unfold nsFind findBy at e
  rw [← Array.find?_toList] at e
  unfold PySem.W.lookIn
  rw [hd]
  dsimp only
  split
  · rename_i y q
    rw [q] at e
    exact congrArg some e
  · rename_i q
    rw [q] at e
    have a : es.toList.any (·.refKey) = false := by
      rw [List.any_eq_false]
      intro y hy
      obtain ⟨z, t, hkey⟩ := hk y (Array.mem_toList_iff.mp hy)
      simp [DictEntry.refKey, hkey]
    have a' : ¬ es.toList.any (·.refKey) = true := by rw [a]; exact Bool.false_ne_true
    rw [if_neg a']
    exact congrArg some e
theorem ObjM.look {h : Heap} {x dx C : Addr} {mA : Str → Option Value} (I : ObjM h x dx C mA) : ∃ od, PySem.W.InstAt h x (PySem.W.instObj C dx) C (some od) ∧ ∀ name, PySem.W.lookIn name od = some (mA name) :=
  let ⟨od, ho, hl⟩ := lookIn_ns I.ns
  ⟨od, ⟨I.obj, rfl, rfl, ho⟩, hl⟩
section
variable {prog : Program} {w : World} {A : Around} {E : Value → Shared → Prop} {s : Shared} {K : PySem.W.Frag} {x dx C f : Addr} {mA : Str → Option Value} {name : Str} {v : Value}
theorem get_map {expr : Bool} {Q : Value → Shared → Prop} (X : K.In s.heap) (I : ObjM s.heap x dx C mA) (hg : PySem.W.plainGet K C name = true) (hh : PySem.W.hasDictIn K C = true)
    (ha : PySem.W.findIn K (.ref C) name = some none) (hv : mA name = some v) (hv' : PySem.W.handedIn v = true) (h : Q v { s with toks := s.toks + 1 }) :
    wpAny (model prog w) A (getAttr (.ref x) name expr) Q E s := by
  obtain ⟨od, J, hl⟩ := I.look
  exact PySem.W.get_value X J (PySem.W.plainGet_of hg).1 (PySem.W.findObj_own hh ha rfl (by rw [hl, hv])) hv' h
theorem get_meth {pl : Sem Bool} {Q : Value × List Value → Shared → Prop} (X : K.In s.heap) (I : ObjM s.heap x dx C mA) (hg : PySem.W.plainGet K C name = true)
    (hf : PySem.W.findIn K (.ref C) name = some (some (.ref f))) (ht : PySem.W.isFn K (.ref f) = true) (hv : mA name = none) (h : Q (.ref f, [.ref x]) s) :
    wpAny (model prog w) A (getMethod (.ref x) name pl) Q E s := by
  obtain ⟨od, J, hl⟩ := I.look
  exact PySem.W.method_fn X J (PySem.W.plainGet_of hg).1 (PySem.W.plainGet_of hg).2 hf (beq_iff_eq.mp ht) (by show (PySem.W.lookIn name od).map (·.isSome) = some false; rw [hl, hv]; rfl) h
theorem set_map {ns : List Str} {Q : Unit → Shared → Prop} (X : K.In s.heap) (I : ObjM s.heap x dx C mA)
    (hs : PySem.W.findIn K (.ref C) "__setattr__" = some (some (.builtin "object.__setattr__"))) (hp : PySem.W.plainOver K C = true) (ht : PySem.W.takerIn K C name = some none) (hh : PySem.W.hasDictIn K C = true)
    (hw : PySem.Within mA ns) (hsz : ns.length ≤ sizeLine)
    (h : ∀ h', ObjM h' x dx C (fun y => if y = name then some v else mA y) → Heap.SameBut dx s.heap h' → Q () { s with heap := h', toks := s.toks + 2 }) :
    wpAny (model prog w) A (setAttr (.ref x) name v) Q E s := by
  obtain ⟨od, J, hl⟩ := I.look
  refine PySem.W.set_plain X J hs (PySem.W.osa_open (s := { s with toks := s.toks + 1 }) (r := none) X J hp ht fun b => ?_)
  obtain ⟨cd, hc, hd'⟩ := PySem.W.any_some hh
  have hx : s.heap.get? x = some ⟨.ref C, some dx, .plain, #[]⟩ := I.obj
  refine wpAny_bind (wpAny_pure (wpAny_bind (wpAny_bind (wpAny_loadPart hx (wpAny_bind (PySem.W.Looks.here (s := { s with toks := s.toks + 1 }) (PySem.W.looks_clsIn X hc) ?_))))))
  rw [hd']
  refine wpAny_pure (a := some dx) (wpAny_bind (wpAny_pure (wpAny_bind ?_)))
  refine wpAny_nsSet1 (s := { s with toks := s.toks + 1 }) I.ns fun h' hn2 hs2 => ?_
  obtain ⟨oD, esD, epD, hoD, hdD, hcD⟩ := hn2.count (PySem.Within.cons name v hw)
  refine wpAny_bind (wpAny_lookBehind hoD (by rw [hdD]; exact pastItsLine_dict (Nat.le_trans hcD (by rw [List.length_cons]; omega))) ?_)
  exact wpAny_pure (h _ ⟨(hs2.2 _ (Ne.symm I.ne)).trans I.obj, hn2, I.ne⟩ hs2)
theorem make_map {R : Result → Shared → Prop} {vs : List Value} {kw : List (Str × Value)} (X : K.In s.heap) (hm : PySem.W.makesIn K C = true)
    (hi : PySem.W.findIn K (.ref C) "__init__" = some (some (.ref f))) (hf : PySem.W.typeIn K (.ref f) = some (.type "function"))
    (h : codeAny (model prog w) (A.under (.builtin "type.__call__" ⟨.ref C :: vs, kw⟩)) (.call (.ref f) ⟨.ref (s.heap.objs.size + 1) :: vs, kw⟩) (PySem.W.InitBack (s.heap.objs.size + 1) R)
      { s with heap := (s.heap.push PySem.W.emptyDict).push (PySem.W.instObj C s.heap.objs.size) }) :
    codeAny (model prog w) A (.call (.ref C) ⟨vs, kw⟩) R s := by
  obtain ⟨hh, g, d, t, os⟩ := s
  exact PySem.W.make_core (PySem.W.makes_of X hm) (PySem.W.looks_findIn X hi) (fun self => PySem.W.bind_fn X self hf) (.inl rfl) h
end
def putF (f : Str) (v : V) : List (Str × V) → List (Str × V)
  | [] => [(f, v)]
  | (g, x) :: r => if g = f then (g, v) :: r else (g, x) :: putF f v r
theorem lookup_putF (f g : Str) (v : V) : ∀ fs : List (Str × V), (putF f v fs).lookup g = if g = f then some v else fs.lookup g
  | [] => by
    show List.lookup g [(f, v)] = _
    by_cases h : g = f
    · have hb : (g == f) = true := beq_iff_eq.mpr h
      simp only [List.lookup, hb, if_pos h]
    · have hb : (g == f) = false := beq_eq_false_iff_ne.mpr h
      simp only [List.lookup, hb, if_neg h]
  | (k, x) :: r => by
    have ih := lookup_putF f g v r
    rw [show putF f v ((k, x) :: r) = (if k = f then (k, v) :: r else (k, x) :: putF f v r) from rfl]
    by_cases hk : k = f
    · rw [if_pos hk]
      by_cases h : g = k
      · have hb : (g == k) = true := beq_iff_eq.mpr h
        simp only [List.lookup, hb, if_pos (h.trans hk)]
      · have hb : (g == k) = false := beq_eq_false_iff_ne.mpr h
        simp only [List.lookup, hb, if_neg (fun e : g = f => h (e.trans hk.symm))]
    · rw [if_neg hk]
      by_cases h : g = k
      · have hb : (g == k) = true := beq_iff_eq.mpr h
        simp only [List.lookup, hb, if_neg (fun e : g = f => hk (h.symm.trans e))]
      · have hb : (g == k) = false := beq_eq_false_iff_ne.mpr h
        simp only [List.lookup, hb]
        exact ih
theorem keys_putF (f : Str) (v : V) : ∀ fs : List (Str × V), f ∈ (putF f v fs).map (·.1) ∧ ∀ g, g ∈ fs.map (·.1) → g ∈ (putF f v fs).map (·.1)
  | [] => ⟨by simp [putF], fun g h => by simp at h⟩
  | (k, x) :: r => by
    obtain ⟨i1, i2⟩ := keys_putF f v r
    rw [show putF f v ((k, x) :: r) = (if k = f then (k, v) :: r else (k, x) :: putF f v r) from rfl]
    by_cases hk : k = f
    · rw [if_pos hk]
      subst hk
      exact ⟨by simp, fun g h => by simpa using h⟩
    · rw [if_neg hk]
      refine ⟨?_, fun g h => ?_⟩
      · rw [List.map_cons]
        exact List.mem_cons_of_mem _ i1
      · rw [List.map_cons] at h ⊢
        rcases List.mem_cons.mp h with e | e
        · exact List.mem_cons.mpr (.inl e)
        · exact List.mem_cons_of_mem _ (i2 g e)
theorem length_putF (f : Str) (v : V) : ∀ fs : List (Str × V), (putF f v fs).length ≤ fs.length + 1
  | [] => by simp [putF]
  | (k, x) :: r => by
    have ih := length_putF f v r
    rw [show putF f v ((k, x) :: r) = (if k = f then (k, v) :: r else (k, x) :: putF f v r) from rfl]
    by_cases hk : k = f
    · rw [if_pos hk, List.length_cons, List.length_cons]; omega
    · rw [if_neg hk, List.length_cons, List.length_cons]; omega
theorem RelO.some_of {v : V} {o : Option Value} (r : RelO (some v) o) : ∃ u, o = some u ∧ RelV v u := by
  cases o with
  | none => exact (show False from r).elim
  | some u => exact ⟨u, rfl, r⟩
theorem RelO.none_of {o : Option Value} (r : RelO none o) : o = none := by
  cases o with
  | none => rfl
  | some u => exact (show False from r).elim
theorem handed_of {v : V} {u : Value} (r : RelV v u) : PySem.W.handedIn u = true := by
  cases v with
  | non => cases (show u = Value.none from r); rfl
  | bl b => cases (show u = Value.bool b from r); rfl
  | int i => obtain ⟨t, e⟩ := (show ∃ t, u = Value.int i t from r); cases e; rfl
  | str x => obtain ⟨t, e⟩ := (show ∃ t, u = Value.str x t from r); cases e; rfl
  | byt b => obtain ⟨t, e⟩ := (show ∃ t, u = Value.bytes b t from r); cases e; rfl
  | flt b => obtain ⟨t, e⟩ := (show ∃ t, u = Value.float b t from r); cases e; rfl
  | ref a => cases (show u = Value.ref a from r); rfl
  | ty n => cases (show u = Value.type n from r); rfl
section
variable {P : Program} {w : World} {H H' : Hp} {h h' : Heap} {a C dx : Addr} {fs fs' : List (Str × V)}
theorem ins_get (hok : HOk P w H h) (e : H a = some (.ins C dx fs)) : ∃ mA, ObjM h a dx C mA ∧ (∀ f, RelO (fs.lookup f) (mA f)) ∧ PySem.Within mA (fs.map (·.1)) ∧ fs.length ≤ 1000 ∧ H dx = some (.own a) := by
  obtain ⟨d, z, ne, ob, mA, n, r, q⟩ := (show ObjOk P w H h a (.ins C dx fs) from hok a _ e)
  exact ⟨mA, ⟨ob, n, ne⟩, r, q, z, d⟩
end
structure Cls (K : PySem.W.Frag) (C : Addr) : Prop where
  pg : PySem.W.plainGet K C Str.empty = true
  hd : PySem.W.hasDictIn K C = true
  po : PySem.W.plainOver K C = true
  sa : PySem.W.findIn K (.ref C) "__setattr__" = some (some (.builtin "object.__setattr__"))
theorem Cls.get {K : PySem.W.Frag} {C : Addr} (c : Cls K C) (f : Str) : PySem.W.plainGet K C f = true := c.pg
def NoAttr (K : PySem.W.Frag) (C : Addr) (f : Str) : Prop := PySem.W.findIn K (.ref C) f = some none
theorem NoAttr.taker {K : PySem.W.Frag} {C : Addr} {f : Str} (n : NoAttr K C f) : PySem.W.takerIn K C f = some none := by
  unfold PySem.W.takerIn
  rw [show PySem.W.findIn K (.ref C) f = some none from n]
  rfl
structure Meth (K : PySem.W.Frag) (C : Addr) (m : Str) (f : Addr) : Prop where
  at_ : PySem.W.findIn K (.ref C) m = some (some (.ref f))
  fn : PySem.W.isFn K (.ref f) = true
  kp : PySem.W.keepIn K (.ref f) = true
section
variable {X : Cx} {pins : List (Addr × Obj)} {σ : St} {H : Hp} {s : Shared} {a C dx : Addr} {fs : List (Str × V)} {f : Str} {v : V} {A : Around} {E : Value → Shared → Prop}
theorem getattr_ok {b : Bool} {Q : Value → Shared → Prop} (I : Inv X pins σ H s) (e : H a = some (.ins C dx fs)) (c : Cls X.K C) (n : NoAttr X.K C f) (l : fs.lookup f = some v)
    (h : ∀ u s', Inv X pins σ H s' → RelV v u → Q u s') : wpAny (model X.prog X.w) A (getAttr (.ref a) f b) Q E s := by
  obtain ⟨mA, O, r, _, _, _⟩ := ins_get I.hok e
  obtain ⟨u, hu, ru⟩ := RelO.some_of (v := v) (o := mA f) (by rw [← l]; exact r f)
  exact get_map I.kIn O (c.get f) c.hd n hu (handed_of ru) (h u _ (I.tok _) ru)
theorem getmeth_ok {m : Str} {g : Addr} {pl : Sem Bool} {Q : Value × List Value → Shared → Prop} (I : Inv X pins σ H s) (e : H a = some (.ins C dx fs)) (c : Cls X.K C) (k : Meth X.K C m g) (l : fs.lookup m = none)
    (h : Q (.ref g, [.ref a]) s) : wpAny (model X.prog X.w) A (getMethod (.ref a) m pl) Q E s := by
  obtain ⟨mA, O, r, _, _, _⟩ := ins_get I.hok e
  have hn : mA m = none := RelO.none_of (by rw [← l]; exact r m)
  exact get_meth I.kIn O (c.get m) k.at_ k.fn hn h
theorem setattr_ok {y : V} {u : Value} {Q : Unit → Shared → Prop} (I : Inv X pins σ H s) (e : H a = some (.ins C dx fs)) (c : Cls X.K C) (n : NoAttr X.K C f) (hl : fs.length < 1000) (ry : RelV y u)
    (h : ∀ s', Inv X pins σ (upd H a (.ins C dx (putF f y fs))) s' → Q () s') : wpAny (model X.prog X.w) A (setAttr (.ref a) f u) Q E s := by
  obtain ⟨mA, O, r, wi, _, ho⟩ := ins_get I.hok e
  have hz : (fs.map (·.1)).length ≤ sizeLine := by rw [List.length_map, sizeLine_eq]; omega
  refine set_map I.kIn O c.sa c.po n.taker c.hd wi hz fun h' O' sb => h _ ?_
  have hd : ∃ o, h'.get? dx = some o := let ⟨o, _, _, e', _⟩ := O'.ns; ⟨o, e'⟩
  refine I.write (x := a) (e := dx) (by rw [e]; exact True.intro) (.inr ho) (fun b q hb z => (sb.2 b hb).trans z) hd ?_
  refine ⟨by rw [upd_ne O.ne]; exact ho, ?_, O.ne, O'.obj, _, O'.ns, fun g => ?_, fun g hg => ?_⟩
  · have := length_putF f y fs; omega
  · show RelO ((putF f y fs).lookup g) (if g = f then some u else mA g)
    rw [lookup_putF]
    by_cases q : g = f
    · rw [if_pos q, if_pos q]; exact ry
    · rw [if_neg q, if_neg q]; exact r g
  · by_cases q : g = f
    · rw [q]; exact (keys_putF f y fs).1
    · refine (keys_putF f y fs).2 g (wi g fun z => hg ?_)
      show (if g = f then some u else mA g) = none
      rw [if_neg q]; exact z
theorem Inv.made (I : Inv X pins σ H s) : Inv X pins σ (upd (upd H s.heap.objs.size (.own (s.heap.objs.size + 1))) (s.heap.objs.size + 1) (.ins C s.heap.objs.size []))
    { s with heap := (s.heap.push PySem.W.emptyDict).push (PySem.W.instObj C s.heap.objs.size) } := by
  have e1 : (s.heap.push PySem.W.emptyDict).get? s.heap.objs.size = some PySem.W.emptyDict := Heap.get?_push_size s.heap rfl
  have e2 : ((s.heap.push PySem.W.emptyDict).push (PySem.W.instObj C s.heap.objs.size)).get? (s.heap.objs.size + 1) = some (PySem.W.instObj C s.heap.objs.size) := by
    have := Heap.get?_push_size (s.heap.push PySem.W.emptyDict) (o := PySem.W.instObj C s.heap.objs.size) rfl
    rwa [Heap.size_push] at this
  have e3 : (s.heap.push PySem.W.emptyDict).Ns s.heap.objs.size (fun _ => none) := ⟨PySem.W.emptyDict, #[], _, e1, rfl, (fun e he => absurd he (by simp)), fun _ => rfl⟩
  have I1 := I.laid (a := s.heap.objs.size) (o := .own (s.heap.objs.size + 1)) (h' := s.heap.push PySem.W.emptyDict) (t' := s.toks) (fun b u q => Heap.get?_push_of_some _ q) (Nat.le_refl _) ⟨_, e1⟩
  refine I1.laid (a := s.heap.objs.size + 1) (o := .ins C s.heap.objs.size []) (t' := s.toks) (fun b u q => Heap.get?_push_of_some _ q) (Nat.le_of_eq (Heap.size_push _ _)) ?_
  have ne : s.heap.objs.size ≠ s.heap.objs.size + 1 := Nat.ne_of_lt (Nat.lt_succ_self _)
  refine ⟨by rw [upd_ne ne, upd_same], Nat.zero_le _, ne, e2, fun _ => none, (Heap.Ns1.of_empty e3).at fun o q => Heap.get?_push_of_some _ q, fun _ => True.intro, fun y hy => absurd rfl hy⟩
theorem attr_of {prog : Program} {w : World} {env : Env} {e : Expr} {f : Str} {pos : Pos} {s : Shared} {Q : Value → Shared → Prop} (hb : attributeBase e f env (eval e env) = eval e env)
    (h : wpAny (model prog w) A (eval e env) (fun o s₁ => wpAny (model prog w) A (getAttr o f true) Q E s₁) E s) : wpAny (model prog w) A (eval (.Attribute e f pos) env) Q E s :=
  Attribute_any_ h (by rw [arm_eval_Attribute, hb])
end
def InOp (X : Cx) (op : Operator) (rd : V → V → Hp → VK → Prop) : Prop :=
  ∀ (pins : List (Addr × Obj)) (s : Shared) (σ : St) (H : Hp) (x y : V) (u v : Value) (Q : VK), Inv X pins σ H s → RelV x u → RelV y v → rd x y H Q → wpAny (model X.prog X.w) X.A (inplaceOp op u v) (EP X pins σ Q) X.xe s
end L2
namespace L2
open PySem PySem.Spec PyProof.Rows
structure Room (k : Nat) (A : Around) : Prop where
  hd : A.handled = none
  dp : A.depth + 3 * k + 5 < recursionLimit
  un : A.units + 16 * k + 200 < cLine
theorem Room.mono {j k : Nat} {A : Around} (r : Room k A) (h : j ≤ k) : Room j A := ⟨r.hd, by have := r.dp; omega, by have := r.un; omega⟩
theorem Room.deeper {k : Nat} {A : Around} (r : Room (k + 1) A) (env : Env) : Room k (A.deeper env) :=
  ⟨r.hd, by have := r.dp; show A.depth + 1 + 3 * k + 5 < _; omega, by have := r.un; show A.units + 3 + 16 * k + 200 < _; omega⟩
theorem make_depth {A : Around} {C : Addr} {us : List Value} {kw : List (Str × Value)} : (A.under (.builtin "type.__call__" ⟨.ref C :: us, kw⟩)).depth = A.depth + 1 := by
  first | rfl | simp [Around.under, Code.weight, Code.isCreation, Code.isGuard, Code.isCaller, Code.frames, Code.isFrame, guardIds]
theorem make_units {A : Around} {C : Addr} {us : List Value} {kw : List (Str × Value)} : (A.under (.builtin "type.__call__" ⟨.ref C :: us, kw⟩)).units = A.units + 1 := by
  first | rfl | simp [Around.under, Code.cUnits, Code.frames, Code.isFrame]
theorem Room.make {k : Nat} {A : Around} (r : Room (k + 1) A) (C : Addr) (us : List Value) (kw : List (Str × Value)) : Room k (A.under (.builtin "type.__call__" ⟨.ref C :: us, kw⟩)) :=
  ⟨r.hd, by have := r.dp; rw [make_depth]; omega, by have := r.un; rw [make_units]; omega⟩
theorem Room.depth {k : Nat} {A : Around} (r : Room k A) : A.depth < recursionLimit := by have := r.dp; omega
def tNil : TA := fun _ H Q => Q [] H
def tCons (ta : TE) (tr : TA) : TA := fun σ H Q => ta σ H fun x H1 => tr σ H1 fun xs H2 => Q (x :: xs) H2
section
variable {X : Cx} {e : Expr} {es : List Expr} {te : TE} {t : TA} {pos : Pos}
theorem pa_nil : PA X [] tNil := fun _ _ _ _ H Q I h => Calls.spliced_nil ⟨[], H, I, .nil, h⟩
theorem pa_cons (ha : PE X e te) (hr : PA X es t) (hs : starEach (e :: es) X.env = (false, eval e X.env) :: starEach es X.env := by rfl) : PA X (e :: es) (tCons te t) := by
  intro pos pins s σ H Q I h
  rw [hs]
  show wpAny _ _ (spliced ((false, eval e X.env) :: backTo pos (starEach es X.env))) _ _ s
  refine Calls.spliced_cons (thn (ha pins s σ H _ I h) fun u s1 ⟨x, H1, I1, r1, q1⟩ => ?_)
  exact thn (hr pos pins s1 σ H1 _ I1 q1) fun us s2 ⟨xs, H2, I2, r2, q2⟩ => ⟨x :: xs, H2, I2, .cons r1 r2, q2⟩
def tTup (t : TA) : TE := fun σ H Q => t σ H fun xs H1 => xs.length ≤ sizeLine ∧ ∀ p, H1 p = none → Q (.ref p) (upd H1 p (.tup xs))
def tLst (t : TA) : TE := fun σ H Q => t σ H fun xs H1 => xs.length ≤ sizeLine ∧ ∀ p, H1 p = none → Q (.ref p) (upd H1 p (.lst xs))
theorem pe_tup {x1} (h : PA X es t) : PE X (.Tuple es x1 pos) (tTup t) := by
  intro pins s σ H Q I hq
  refine wpAny_Tuple_spliced (thn (h pos pins s σ H _ I hq) fun us s1 ⟨xs, H1, I1, r, z, q⟩ => ⟨by rw [← r.length]; exact z, ?_⟩)
  have hf : H1 s1.heap.objs.size = none := I1.hok.fresh (Nat.le_refl _)
  refine ⟨.ref s1.heap.objs.size, upd H1 s1.heap.objs.size (.tup xs), I1.laid (t' := s1.toks) (fun b u e => Heap.get?_push_of_some _ e) (Nat.le_refl _) ?_, rfl, q _ hf⟩
  exact ⟨z, us, r, ⟨_, Heap.get?_push_size _ rfl, rfl, _, rfl⟩⟩
theorem pe_lst (h : PA X es t) : PE X (.List es pos) (tLst t) := by
  intro pins s σ H Q I hq
  refine wpAny_List_spliced (thn (h pos pins s σ H _ I hq) fun us s1 ⟨xs, H1, I1, r, z, q⟩ => ⟨by rw [← r.length]; exact z, ?_⟩)
  have hf : H1 s1.heap.objs.size = none := I1.hok.fresh (Nat.le_refl _)
  refine ⟨.ref s1.heap.objs.size, upd H1 s1.heap.objs.size (.lst xs), I1.laid (t' := s1.toks) (fun b u e => Heap.get?_push_of_some _ e) (Nat.le_refl _) ?_, rfl, q _ hf⟩
  exact ⟨z, us, 0, r, Heap.get?_push_size _ rfl⟩
end
abbrev Sp := List V → Hp → VK → XK → Prop
abbrev CXT := List Env → Hp → Shared → XK → Value → Shared → Prop
structure Env0 (P : Program) (w : World) (K : PySem.W.Frag) (mg : Str → Option Value) (base : Heap) (A : Around) (outer : List Env) (s : Shared) (H : Hp) : Prop where
  frames : A.frames = some outer
  mod : Mod K mg base
  bs : ∀ b o, base.get? b = some o → s.heap.get? b = some o ∧ H b = none
  bsz : base.objs.size ≤ s.heap.objs.size
  funs : s.heap.FunFrames base outer
  frf : ∀ b ∈ frs outer, H b = none
  hok : HOk P w H s.heap
  bare : AllBare s.gens
def CE (outer : List Env) (P : Program) (w : World) (H : Hp) (s : Shared) (Q : VK) (u : Value) (s' : Shared) : Prop :=
  ∃ v H', s'.os = s.os ∧ AllBare s'.gens ∧ Un (frs outer) [] H H' s.heap s'.heap ∧ HOk P w H' s'.heap ∧ RelV v u ∧ Q v H'
def CR (CX : CXT) (outer : List Env) (P : Program) (w : World) (H : Hp) (s : Shared) (Q : VK) (E : XK) (r : Result) (s' : Shared) : Prop :=
  match r with
  | .ok (.ret u) => CE outer P w H s Q u s'
  | .ok _ => False
  | .error e => CX outer H s E e s'
structure FnOk (P : Program) (w : World) (K : PySem.W.Frag) (mg : Str → Option Value) (base : Heap) (CX : CXT) (k : Nat) (f : Addr) (fd : FuncData) (ps : List Str) (sp : Sp) : Prop where
  len : ∀ vs H Q E, sp vs H Q E → vs.length = ps.length
  run : ∀ (A : Around) (outer : List Env) (s : Shared) (H : Hp) (args : Args) (us : List Value) (vs : List V) (Q : VK) (E : XK), Room k A → Env0 P w K mg base A outer s H → BindsTo s fd args (ps.zip us) → Vals vs us → sp vs H Q E →
    codeAny (model P w) A (.call (.ref f) args) (CR CX outer P w H s Q E) s
theorem FnOk.mono {P : Program} {w : World} {K : PySem.W.Frag} {mg : Str → Option Value} {base : Heap} {CX : CXT} {j k : Nat} {f : Addr} {fd : FuncData} {ps : List Str} {sp : Sp} (F : FnOk P w K mg base CX j f fd ps sp) (h : j ≤ k) :
    FnOk P w K mg base CX k f fd ps sp := ⟨F.len, fun A outer s H args us vs Q E hr => F.run A outer s H args us vs Q E (hr.mono h)⟩
theorem Env0.make {P : Program} {w : World} {K : PySem.W.Frag} {mg : Str → Option Value} {base : Heap} {A : Around} {outer : List Env} {s : Shared} {H : Hp} (e : Env0 P w K mg base A outer s H) (C : Addr) (us : List Value) (kw : List (Str × Value)) :
    Env0 P w K mg base (A.under (.builtin "type.__call__" ⟨.ref C :: us, kw⟩)) outer s H := ⟨by first | exact e.frames | (simpa [Around.under, Code.envs, Code.isFrame, pushEnvs] using e.frames), e.mod, e.bs, e.bsz, e.funs, e.frf, e.hok, e.bare⟩
section
variable {X : Cx} {pins : List (Addr × Obj)} {σ : St} {H : Hp} {s s' : Shared}
theorem Inv.env0 (I : Inv X pins σ H s) : Env0 X.prog X.w X.K X.mg X.base X.A X.stack s H :=
  ⟨I.ok.frames, I.ok.mod, I.bs, Nat.le_trans I.ok.bsz I.sz, I.stack, I.stkFree, I.hok, I.bare⟩
theorem Inv.after {Q : VK} {u : Value} (I : Inv X pins σ H s) (h : CE X.stack X.prog X.w H s Q u s') : EP X pins σ Q u s' := by
  obtain ⟨v, H', os, bare, un, hok, r, q⟩ := h
  obtain ⟨hh, g, d, t, os'⟩ := s'
  obtain rfl : os' = s.os := os
  exact ⟨v, H', I.call (h' := hh) (g' := g) (d' := d) (t' := t) (ch := []) un hok bare (fun b z => absurd z (by simp)), r, q⟩
end
def Binds (K : PySem.W.Frag) (fd : FuncData) (ps : List Str) (ds : List Value) : Prop :=
  ∀ (s : Shared) (us : List Value), K.In s.heap → (us ++ ds).length = ps.length → BindsTo s fd ⟨us, []⟩ (ps.zip (us ++ ds))
theorem Binds.all {K : PySem.W.Frag} {fd : FuncData} {ps : List Str} (h : ∀ us : List Value, us.length = ps.length → bindArgs fd ⟨us, []⟩ = pure (ps.zip us)) : Binds K fd ps [] := fun s us _ hl => by
  rw [List.append_nil] at hl ⊢
  exact .of_eq (h us hl)
def Passes (CX : CXT) (X : Cx) (E : XK) : Prop := ∀ (pins : List (Addr × Obj)) (σ : St) (H : Hp) (s : Shared) (e : Value) (s' : Shared), Inv X pins σ H s → CX X.stack H s E e s' → X.xe e s'
section
variable {X : Cx} {CX : CXT} {k : Nat} {f C : Addr} {fd : FuncData} {ps : List Str} {sp : Sp} {dvs : List V} {ds : List Value} {E : XK} {x m : Str} {p pos apos : Pos} {e o : Expr} {es : List Expr} {ta : TE} {t : TA}
theorem run_fn {pins : List (Addr × Obj)} {σ : St} {H : Hp} {s : Shared} {Q : VK} {us : List Value} {vs : List V} (F : FnOk X.prog X.w X.K X.mg X.base CX k f fd ps sp) (hr : Room k X.A) (hb : Binds X.K fd ps ds) (hd : Vals dvs ds) (hx : Passes CX X E)
    (I : Inv X pins σ H s) (r : Vals vs us) (h : sp (vs ++ dvs) H Q E) : wpAny (model X.prog X.w) X.A (call (.ref f) us) (EP X pins σ Q) X.xe s := by
  have r2 : Vals (vs ++ dvs) (us ++ ds) := r.append hd
  have hl : (us ++ ds).length = ps.length := by rw [← r2.length]; exact F.len _ _ _ _ h
  refine wpAny_call (codeAny_mono (F.run X.A X.stack s H ⟨us, []⟩ (us ++ ds) (vs ++ dvs) Q E hr I.env0 (hb s us I.kIn hl) r2 h) fun r s' hq => ?_)
  cases r with
  | error e => exact hx pins σ H s e s' I hq
  | ok fl =>
    cases fl with
    | ret u => exact I.after hq
    | next => exact False.elim hq
    | brk => exact False.elim hq
    | cont => exact False.elim hq
structure Mk (K : PySem.W.Frag) (C f : Addr) : Prop where
  makes : PySem.W.makesIn K C = true
  init : PySem.W.findIn K (.ref C) "__init__" = some (some (.ref f))
  fn : PySem.W.isFn K (.ref f) = true
  kp : PySem.W.keepIn K (.ref C) = true
theorem run_make {pins : List (Addr × Obj)} {σ : St} {H : Hp} {s : Shared} {Q : VK} {us : List Value} {vs : List V} (M : Mk X.K C f) (F : FnOk X.prog X.w X.K X.mg X.base CX k f fd ps sp) (hr : Room (k + 1) X.A) (hb : Binds X.K fd ps ds) (hd : Vals dvs ds)
    (hx : Passes CX X E) (I : Inv X pins σ H s) (r : Vals vs us)
    (h : ∀ x dx, H x = none → H dx = none → dx ≠ x → sp (.ref x :: (vs ++ dvs)) (upd (upd H dx (.own x)) x (.ins C dx [])) (fun v H2 => v = .non ∧ Q (.ref x) H2) E) :
    wpAny (model X.prog X.w) X.A (call (.ref C) us) (EP X pins σ Q) X.xe s := by
  have hq := h (s.heap.objs.size + 1) s.heap.objs.size (I.hok.fresh (Nat.le_succ _)) (I.hok.fresh (Nat.le_refl _)) (Nat.ne_of_lt (Nat.lt_succ_self _))
  have I2 := Inv.made (C := C) I
  have r2 : Vals (V.ref (s.heap.objs.size + 1) :: (vs ++ dvs)) (Value.ref (s.heap.objs.size + 1) :: (us ++ ds)) := .cons rfl (r.append hd)
  have hl : (Value.ref (s.heap.objs.size + 1) :: us ++ ds).length = ps.length := by
    have e := r2.length
    rw [F.len _ _ _ _ hq] at e
    exact e.symm
  refine wpAny_call (make_map (f := f) I.kIn M.makes M.init (beq_iff_eq.mp M.fn) (codeAny_mono (F.run _ X.stack _ _ ⟨Value.ref (s.heap.objs.size + 1) :: us, []⟩ (Value.ref (s.heap.objs.size + 1) :: (us ++ ds)) _ _ E (hr.make C us [])
    (I2.env0.make C us []) (hb _ (Value.ref (s.heap.objs.size + 1) :: us) I2.kIn hl) r2 hq) fun r s' hq' => ?_))
  cases r with
  | error e => exact hx pins σ _ _ e s' I2 hq'
  | ok fl =>
    cases fl with
    | ret u =>
      obtain ⟨v, H', I3, rv, ev, q3⟩ := I2.after hq'
      subst ev
      exact ⟨rv, ⟨V.ref (s.heap.objs.size + 1), H', I3, rfl, q3⟩⟩
    | next => exact False.elim hq'
    | brk => exact False.elim hq'
    | cont => exact False.elim hq'
end
structure FnScope (N P : List Str) (sc : Scope) : Prop where
  kind : sc.kind = .function
  co : sc.isCoroutine = false
  gen : sc.isGenerator = false
  nd : N.Nodup
  pre : N.take P.length = P
  par : ∀ x ∈ P, sc.names.lookup x = some .local ∨ sc.names.lookup x = some .cell
  nofree : ∀ y ∈ sc.names, y.2 ≠ .free
theorem bindL_out {kindOf : Str → Option NameKind} {x : Str} : ∀ {binds : List (Str × Value)} {m : Str → Option Value}, (∀ v, (x, v) ∉ binds) → bindL kindOf binds m x = m x
  | [], _, _ => rfl
  | (n, v) :: r, m, h => by
    unfold bindL
    rw [bindL_out fun w hw => h w (List.mem_cons_of_mem _ hw)]
    split
    · have : x ≠ n := by rintro rfl; exact h v List.mem_cons_self
      simp [this]
    · rfl
theorem bindC_out {kindOf : Str → Option NameKind} {x : Str} : ∀ {binds : List (Str × Value)} {m : Str → Option Value}, (∀ v, (x, v) ∉ binds) → bindC kindOf binds m x = m x
  | [], _, _ => rfl
  | (n, v) :: r, m, h => by
    unfold bindC
    rw [bindC_out fun w hw => h w (List.mem_cons_of_mem _ hw)]
    split
    · rfl
    · have : x ≠ n := by rintro rfl; exact h v List.mem_cons_self
      simp [this]
theorem bindL_get {kindOf : Str → Option NameKind} {x : Str} {v : Value} : ∀ {P : List Str} {vs : List Value} {i : Nat} {m : Str → Option Value}, P.Nodup → P[i]? = some x → vs[i]? = some v → kindOf x = some .local →
    bindL kindOf (P.zip vs) m x = some v
  | [], _, _, _, _, h, _, _ => by simp at h
  | _ :: _, [], _, _, _, _, h, _ => by simp at h
  | p :: P, w :: vs, 0, m, nd, h1, h2, hk => by
    simp at h1 h2; subst h1; subst h2
    show bindL kindOf ((p, w) :: P.zip vs) m p = _
    unfold bindL
    rw [bindL_out fun v hv => (List.nodup_cons.mp nd).1 (List.of_mem_zip hv).1, if_pos hk]
    simp
  | p :: P, w :: vs, i + 1, m, nd, h1, h2, hk => by
    show bindL kindOf ((p, w) :: P.zip vs) m x = _
    unfold bindL
    exact bindL_get (i := i) (List.nodup_cons.mp nd).2 (by simpa using h1) (by simpa using h2) hk
theorem bindC_get {kindOf : Str → Option NameKind} {x : Str} {v : Value} : ∀ {P : List Str} {vs : List Value} {i : Nat} {m : Str → Option Value}, P.Nodup → P[i]? = some x → vs[i]? = some v → kindOf x ≠ some .local →
    bindC kindOf (P.zip vs) m x = some v
  | [], _, _, _, _, h, _, _ => by simp at h
  | _ :: _, [], _, _, _, _, h, _ => by simp at h
  | p :: P, w :: vs, 0, m, nd, h1, h2, hk => by
    simp at h1 h2; subst h1; subst h2
    show bindC kindOf ((p, w) :: P.zip vs) m p = _
    unfold bindC
    rw [bindC_out fun v hv => (List.nodup_cons.mp nd).1 (List.of_mem_zip hv).1, if_neg hk]
    simp
  | p :: P, w :: vs, i + 1, m, nd, h1, h2, hk => by
    show bindC kindOf ((p, w) :: P.zip vs) m x = _
    unfold bindC
    exact bindC_get (i := i) (List.nodup_cons.mp nd).2 (by simpa using h1) (by simpa using h2) hk
def start (N : List Str) (vs : List V) : St := vs.map some ++ List.replicate (N.length - vs.length) none
def cxOf (CX : CXT) (P : Program) (w : World) (K : PySem.W.Frag) (mg : Str → Option Value) (base : Heap) (N : List Str) (qual : Str) (scope : Scope) (f : Addr) (cd : Value) (A : Around) (outer : List Env) (s : Shared) (H : Hp) (E : XK) : Cx where
  prog := P
  w := w
  K := K
  mg := mg
  base := base
  A := A.deeper (envOfC qual scope s.heap.objs.size f cd)
  N := N
  s_0 := s
  H_0 := H
  env := envOfC qual scope s.heap.objs.size f cd
  outer := outer
  stack := envOfC qual scope s.heap.objs.size f cd :: outer
  ex := []
  calm := true
  fn := fun _ => true
  pn := []
  xe := fun e s' => wpAny (model P w) (A.deeper (envOfC qual scope s.heap.objs.size f cd)) (leaving (envOfC qual scope s.heap.objs.size f cd) e) (fun _ s'' => CX outer H s E e s'') (fun e' s'' => CX outer H s E e' s'') s'
theorem cell_has {sc : Scope} {n : Nat} {x : Str} (h : sc.names.lookup x = some .cell) : ∃ c, (cellsFrom n sc.names []).lookup x = some c := by
  have q := PySem.W.cellsFrom_some sc.names n [] (.inl h)
  exact Option.isSome_iff_exists.mp q
theorem inv_start {CX : CXT} {P : Program} {w : World} {K : PySem.W.Frag} {mg : Str → Option Value} {base : Heap} {N ps : List Str} {qual : Str} {scope : Scope} {f : Addr} {cd : Value} {A : Around} {outer : List Env} {s s1 : Shared} {H : Hp} {E : XK} {us : List Value} {vs : List V}
    (S : FnScope N ps scope) (hd : A.handled = none) (e0 : Env0 P w K mg base A outer s H) (hl : vs.length = ps.length) (r : Vals vs us)
    (x : InCallC s s.heap.objs.size (bindL (envOfC qual scope s.heap.objs.size f cd).kindOf (ps.zip us) fun _ => none) (cellsFrom (s.heap.objs.size + 1) scope.names []) (bindC (envOfC qual scope s.heap.objs.size f cd).kindOf (ps.zip us) fun _ => none) s1) :
    Inv (cxOf CX P w K mg base N qual scope f cd A outer s H E) [] (start N vs) H s1 := by
  have hpl : ps.length ≤ N.length := by have := congrArg List.length S.pre; rw [List.length_take] at this; omega
  obtain ⟨h1, tk, rfl, hk⟩ := x.done
  have noA : ∀ b : Addr, b ∉ (cxOf CX P w K mg base N qual scope f cd A outer s H E).ex := fun b z => absurd (show b ∈ ([] : List Addr) from z) (by simp)
  refine ⟨⟨e0.mod, S.kind, rfl, rfl, Nat.le_refl _, fun y z c h1 h2 => ?_, fun y hy => ?_, fun y c _ h => ?_, fun _ => hd, Around.frames_deeper e0.frames, .inr ⟨rfl, rfl⟩, fun b z => absurd z (noA b), e0.bs, e0.bsz, fun b _ _ => noA b, fun b z => absurd z (noA b), e0.funs, e0.frf⟩,
    rfl, e0.bare, Un.kept hk, ⟨_, x.toInCall.ns, fun i y v h1 h2 h3 => ?_⟩, fun y c h => ⟨_, x.cell y c h⟩, e0.hok.fresh (Nat.le_refl _), fun y c h => ?_, fun p hp => absurd (show p ∈ ([] : List (Addr × Obj)) from hp) (by simp), e0.hok.kept hk, ?_⟩
  · exact name_of_addr x.apart (PySem.mem_of_lookup h1) (PySem.mem_of_lookup h2)
  · have hy : scope.names.lookup y = some .cell ∨ scope.names.lookup y = some .free := hy
    rcases hy with hy | hy
    · exact cell_has hy
    · exact absurd rfl (S.nofree _ (PySem.mem_of_lookup hy))
  · exact Nat.le_of_lt (x.above y c (PySem.mem_of_lookup h))
  · have hi : i < vs.length := by
      unfold start at h2
      by_cases hi : i < vs.length
      · exact hi
      · rw [List.getElem?_append_right (by simpa using hi)] at h2
        rw [List.getElem?_replicate] at h2
        split at h2 <;> cases h2
    have ha : vs[i]? = some v := by
      unfold start at h2
      rw [List.getElem?_append_left (by simpa using hi), List.getElem?_map] at h2
      cases e : vs[i]? with
      | none => rw [e] at h2; cases h2
      | some a => rw [e] at h2; cases h2; rfl
    obtain ⟨u, hu, rv⟩ := r.get ha
    have hp : ps[i]? = some y := by
      rw [← S.pre, List.getElem?_take_of_lt (by omega)]; exact h1
    have ndP : ps.Nodup := by rw [← S.pre]; exact S.nd.sublist (List.take_sublist _ _)
    refine ⟨u, rv, ?_⟩
    rcases S.par y (List.mem_of_getElem? hp) with k | k
    · exact .inl ⟨k, bindL_get ndP hp hu k⟩
    · obtain ⟨c, e⟩ := cell_has (n := s.heap.objs.size + 1) k
      refine .inr ⟨.inl k, c, e, ?_⟩
      have q := x.cell y c e
      rw [bindC_get ndP hp hu (by show scope.names.lookup y ≠ _; rw [k]; decide)] at q
      exact q
  · exact e0.hok.fresh (Nat.le_of_lt (x.above y c (PySem.mem_of_lookup h)))
  · unfold start
    show _ = N.length
    rw [List.length_append, List.length_map, List.length_replicate]
    omega
theorem fn_of {CX : CXT} {P : Program} {w : World} {K : PySem.W.Frag} {mg : Str → Option Value} {base : Heap} {k : Nat} {f : Addr} {name qual : Str} {params : Arguments} {body : List Stmt} {scope : Scope} {dV kV doc pm cdv ct oc : Value} {an od : Option Addr}
    {osl : Array (Option Value)} {N ps : List Str} {sp : Sp} (lk : K.lookup f = some ⟨oc, od, .func (PySem.W.fnOf name qual params body scope dV kV doc pm an cdv ct), osl⟩) (hcd : PySem.W.codeIn K cdv qual = true) (S : FnScope N ps scope)
    (len : ∀ vs H Q E, sp vs H Q E → vs.length = ps.length)
    (hbody : ∀ (A : Around) (outer : List Env) (s : Shared) (H : Hp) (vs : List V) (Q : VK) (E : XK), Room k (A.deeper (envOfC qual scope s.heap.objs.size f cdv)) → sp vs H Q E →
      ∃ t, PSs (cxOf CX P w K mg base N qual scope f cdv A outer s H E) body t ∧ t { nx := fun _ H' => Q .non H', rt := Q } (start N vs) H) :
    FnOk P w K mg base CX (k + 1) f (PySem.W.fnOf name qual params body scope dV kV doc pm an cdv ct) ps sp := by
  refine ⟨len, fun A outer s H args us vs Q E hr e0 hb r hsp => ?_⟩
  have hl := len _ _ _ _ hsp
  have KX : K.In s.heap := e0.mod.kin.keeps fun b o e => (e0.bs b o e).1
  have lim : s.heap.NoLimit := e0.mod.nolimit.keeps fun b o e => (e0.bs b o e).1
  have hkind : ∀ y ∈ ps.zip us, scope.names.lookup y.1 = some .local ∨ (scope.names.lookup y.1 = some .cell ∧ ((cellsFrom (s.heap.objs.size + 1) scope.names []).lookup y.1).isSome = true) := fun ⟨n, v⟩ hy => by
    rcases S.par n (List.of_mem_zip hy).1 with q | q
    · exact .inl q
    · exact .inr ⟨q, PySem.W.cellsFrom_some _ _ _ (.inl q)⟩
  refine codeAny_call_function hr.depth (KX _ _ lk) rfl S.co S.gen rfl (PySem.W.codeRec_of KX hcd) (hb _ _ _ _ ?_)
  refine wpAny_newFunctionEnv_cells S.kind hkind fun env he s1 x => ?_
  subst he
  refine ⟨lim.keeps x.toInCall.keep, codeAny_func ?_⟩
  obtain ⟨t, ht, hq⟩ := hbody A outer s H vs Q E (hr.deeper _) hsp
  have I : Inv (cxOf CX P w K mg base N qual scope f cdv A outer s H E) [] (start N vs) H s1 := inv_start S hr.hd e0 hl r x
  refine wpAny_mono (ht [] s1 (start N vs) H _ I hq) (fun fl s' hs => ?_) fun e s' hs => hs
  have fin : ∀ {σ' : St} {H' : Hp} {v : V} {u : Value}, Inv (cxOf CX P w K mg base N qual scope f cdv A outer s H E) [] σ' H' s' → RelV v u → Q v H' → CE outer P w H s Q u s' :=
    fun {σ' H' v u} J rv q => ⟨v, H', J.os, J.bare, J.base, J.hok, rv, q⟩
  cases fl with
  | ret u =>
    obtain ⟨v, σ', H', J, rv, q⟩ := hs
    exact fin J rv q
  | next =>
    obtain ⟨σ', H', J, q⟩ := hs
    exact fin (v := V.non) (u := Value.none) J rfl q
  | brk =>
    obtain ⟨_, _, _, q⟩ := hs
    exact False.elim q
  | cont =>
    obtain ⟨_, _, _, q⟩ := hs
    exact False.elim q
end L2
namespace L2
open PySem PySem.Spec PyProof.Rows
section
variable {X : Cx} {x : Str} {p pos : Pos} {e : Expr} {es : List Expr} {t : TA} {id T : String} {r : List V → Hp → VK → Prop}
def tCB (r : List V → Hp → VK → Prop) (t : TA) : TE := fun σ H Q => t σ H fun vs H1 => r vs H1 Q
theorem pe_callB (hc : CallR X (.builtin id) r) (hg : Gl X x) (hm : X.mg x = none) (hv : bootBuiltins x = some (.builtin id)) (ha : PA X (e :: es) t) (hn : x ≠ "__name__" := by decide) (hdb : (x == ("__debug__" : Str)) = false := by decide)
    (he : starEach (e :: es) X.env = (false, eval e X.env) :: starEach es X.env := by rfl) (hpl : (backTo pos (starEach es X.env)).any (·.1) = false := by rfl) : PE X (.Call (.Name x p) (e :: es) [] pos) (tCB r t) := by
  intro pins s σ H Q I h
  refine wpAny_Call_Name_kw (ld_blt I hg hm hv ?_ hn hdb)
  exact PyProof.Rows.callWith_builtin1 (thn (ha pos pins s σ H _ I h) fun us s1 ⟨vs, H1, I1, r1, q1⟩ => hc pins s1 σ H1 vs us Q I1 r1 q1) he hpl
theorem pe_callTy (hc : CallR X (.type T) r) (hg : Gl X x) (hm : X.mg x = none) (hv : bootBuiltins x = some (.type T)) (ha : PA X (e :: es) t) (hn : x ≠ "__name__" := by decide) (hdb : (x == ("__debug__" : Str)) = false := by decide)
    (he : starEach (e :: es) X.env = (false, eval e X.env) :: starEach es X.env := by rfl) (hpl : (backTo pos (starEach es X.env)).any (·.1) = false := by rfl) : PE X (.Call (.Name x p) (e :: es) [] pos) (tCB r t) := by
  intro pins s σ H Q I h
  refine wpAny_Call_Name_kw (ld_blt I hg hm hv ?_ hn hdb)
  exact PyProof.Rows.callWith_type1 (thn (ha pos pins s σ H _ I h) fun us s1 ⟨vs, H1, I1, r1, q1⟩ => hc pins s1 σ H1 vs us Q I1 r1 q1) he hpl
end
end L2
namespace HT
open PySem PyProof.Rows
section
variable {prog : Program} {w : World} {A : Around} {E : Value → Shared → Prop} {s : Shared}
def sIx (n d : Nat) : Option Int → Nat
  | none => d
  | some v => if v < 0 then (v + (n : Int)).toNat else min v.toNat n
theorem sIx_none (n d : Nat) : sIx n d none = d := rfl
theorem sIx_nat (n d k : Nat) : sIx n d (some (k : Int)) = min k n := by
  show (if (k : Int) < 0 then ((k : Int) + (n : Int)).toNat else min (k : Int).toNat n) = min k n
  rw [if_neg (by omega), Int.toNat_natCast]
end
end HT
namespace L2
open PySem PySem.Spec PyProof.Rows
abbrev TO := St → Hp → (Option Int → Hp → Prop) → Prop
def PO (X : Cx) (e : Option Expr) (t : TO) : Prop :=
  ∀ (pins : List (Addr × Obj)) (s : Shared) (σ : St) (H : Hp) (Q : Option Int → Hp → Prop), Inv X pins σ H s → t σ H Q →
    wpAny (model X.prog X.w) X.A (evalPart e X.env) (fun u s' => ∃ o H', Inv X pins σ H' s' ∧ IsPart u o ∧ Q o H') X.xe s
def tNoPart : TO := fun _ H Q => Q none H
def tPart (t : TE) : TO := fun σ H Q => t σ H fun x H1 => ∃ i, x = .int i ∧ Q (some i) H1
section
variable {X : Cx} {e : Expr} {te : TE} {lo hi : Option Expr} {tl th : TO} {pos p2 : Pos}
theorem po_none : PO X none tNoPart := by
  intro pins s σ H Q I h
  rw [evalPart_none]
  exact wpAny_pure ⟨none, H, I, .none, h⟩
theorem po_some (h : PE X e te) : PO X (some e) (tPart te) := by
  intro pins s σ H Q I hw
  rw [evalPart_some]
  refine thn (h pins s σ H _ I hw) fun u s1 ⟨x, H1, I1, r1, q1⟩ => ?_
  obtain ⟨i, rfl, q⟩ := q1
  obtain ⟨t, rfl⟩ := r1
  exact ⟨some i, H1, I1, .int i t, q⟩
def SlR (X : Cx) (r : V → Option Int → Option Int → Hp → VK → Prop) : Prop :=
  ∀ (pins : List (Addr × Obj)) (s : Shared) (σ : St) (H : Hp) (x : V) (v vl vu : Value) (lo hi : Option Int) (sl : Addr) (Q : VK), Inv X pins σ H s → RelV x v → s.heap.IsSliceOf sl vl vu .none → IsPart vl lo → IsPart vu hi → r x lo hi H Q →
    ∃ T id, typeLookup (.type T) "__getitem__" = pure (some (.builtin id)) ∧ s.TypeIs v T ∧ wpAny (model X.prog X.w) X.A (getItem v (.ref sl)) (EP X pins σ Q) X.xe s
def tSl (r : V → Option Int → Option Int → Hp → VK → Prop) (te : TE) (tl th : TO) : TE := fun σ H Q => te σ H fun x H1 => tl σ H1 fun l H2 => th σ H2 fun u H3 => r x l u H3 Q
theorem pe_slice {r : V → Option Int → Option Int → Hp → VK → Prop} (hr : SlR X r) (he : PE X e te) (hl : PO X lo tl) (hu : PO X hi th) : PE X (.Subscript e (.Slice lo hi none p2) pos) (tSl r te tl th) := by
  intro pins s σ H Q I h
  refine Subscript_ (thn (he pins s σ H _ I h) fun v s1 ⟨x, H1, I1, r1, q1⟩ => ?_)
  refine wpAny_Slice (thn (hl pins s1 σ H1 _ I1 q1) fun vl s2 ⟨l, H2, I2, pl, q2⟩ => thn (hu pins s2 σ H2 _ I2 q2) fun vu s3 ⟨u, H3, I3, pu, q3⟩ => ?_)
  rw [evalPart_none]
  refine wpAny_pure ?_
  have I4 : Inv X pins σ H3 { s3 with heap := s3.heap.push { cls := .type "slice", data := .fields #[vl, vu, .none] } } := I3.kept (t' := s3.toks) fun b ob q => Heap.get?_push_of_some _ q
  obtain ⟨T, id, hT, ht, hg⟩ := hr pins { s3 with heap := s3.heap.push { cls := .type "slice", data := .fields #[vl, vu, .none] } } σ H3 x v vl vu l u s3.heap.objs.size Q I4 r1 (Heap.IsSliceOf.new ..) pl pu q3
  show wpAny (model X.prog X.w) X.A (subscriptTail e (.Slice lo hi none p2) v (.ref s3.heap.objs.size)) (EP X pins σ Q) X.xe { s3 with heap := s3.heap.push { cls := .type "slice", data := .fields #[vl, vu, .none] } }
  exact tail_any (ops := [.ref s3.heap.objs.size, v]) ht hT hg (by with_unfolding_all rfl)
def cutV (xs : List V) (lo hi : Option Int) : List V := (xs.drop (HT.sIx xs.length 0 lo)).take (HT.sIx xs.length xs.length hi - HT.sIx xs.length 0 lo)
theorem cutV_length (xs : List V) (lo hi : Option Int) : (cutV xs lo hi).length ≤ xs.length := by
  unfold cutV
  rw [List.length_take, List.length_drop]
  omega
end
end L2
namespace L2
open PySem PySem.Spec PyProof.Rows
def ixN (n : Nat) (i : Int) : Option Nat := if 0 ≤ i then (if i < n then some i.toNat else none) else if -(n : Int) ≤ i then some (i + n).toNat else none
def atI {α : Type} (xs : List α) (i : Int) : Option α := (ixN xs.length i).bind fun j => xs[j]?
theorem ixN_seq {n : Nat} {i : Int} {j : Nat} (h : ixN n i = some j) : seqIndex? i n = some j ∧ j < n ∧ -(n : Int) ≤ i ∧ i < n := by
  unfold ixN at h
  by_cases h0 : 0 ≤ i
  · rw [if_pos h0] at h
    by_cases h1 : i < n
    · rw [if_pos h1] at h
      have e : i.toNat = j := Option.some.inj h
      exact ⟨by rw [seqIndex_of h0 h1, e], by omega, by omega, h1⟩
    · rw [if_neg h1] at h; cases h
  · rw [if_neg h0] at h
    by_cases h1 : -(n : Int) ≤ i
    · rw [if_pos h1] at h
      have e : (i + n).toNat = j := Option.some.inj h
      exact ⟨by rw [seqIndex_neg (by omega) h1, e], by omega, h1, by omega⟩
    · rw [if_neg h1] at h; cases h
theorem atI_get {α : Type} {xs : List α} {i : Int} {v : α} (h : atI xs i = some v) : ∃ j, seqIndex? i xs.length = some j ∧ xs[j]? = some v ∧ j < xs.length ∧ -(xs.length : Int) ≤ i ∧ i < xs.length := by
  unfold atI at h
  cases e : ixN xs.length i with
  | none => rw [e] at h; cases h
  | some j =>
    rw [e] at h
    obtain ⟨h1, h2, h3, h4⟩ := ixN_seq e
    exact ⟨j, h1, h, h2, h3, h4⟩
theorem atI_nat {α : Type} {xs : List α} {j : Nat} {v : α} (h : xs[j]? = some v) : atI xs (j : Int) = some v := by
  have hj : j < xs.length := (List.getElem?_eq_some_iff.mp h).1
  have e : ixN xs.length (j : Int) = some j := by
    unfold ixN
    rw [if_pos (by omega), if_pos (by omega)]; simp
  unfold atI; rw [e]; exact h
def PlainIx (b : Expr) : Prop := ∀ o i, subscripted b false o i = operate [o, i] (getItem o i)
def IxR (X : Cx) (r : R2) : Prop :=
  ∀ (value slice : Expr) (pins : List (Addr × Obj)) (s : Shared) (σ : St) (H : Hp) (x y : V) (v u : Value) (Q : VK), Inv X pins σ H s → RelV x v → RelV y u → r x y H Q →
    subscripted slice false v u = operate [v, u] (getItem v u) → wpAny (model X.prog X.w) X.A (subscriptTail value slice v u) (EP X pins σ Q) X.xe s
def MtR (X : Cx) (id : String) (r : V → List V → Hp → VK → Prop) : Prop :=
  ∀ (pins : List (Addr × Obj)) (s : Shared) (σ : St) (H : Hp) (x : V) (xs : List V) (v : Value) (us : List Value) (Q : VK), Inv X pins σ H s → RelV x v → Vals xs us → r x xs H Q →
    wpAny (model X.prog X.w) X.A (call (.builtin id) (v :: us)) (EP X pins σ Q) X.xe s
section
variable {X : Cx} {a b : Expr} {ta tb : TE} {pos : Pos}
theorem pe_ix {r : R2} (hr : IxR X r) (ha : PE X a ta) (hb : PE X b tb) (hs : PlainIx b) : PE X (.Subscript a b pos) (tOp r ta tb) := by
  intro pins s σ H Q I h
  exact Subscript_ (binT ha hb I h fun v u s2 x y H2 I2 rx ry q => hr a b pins s2 σ H2 x y v u Q I2 rx ry q (hs _ _))
def rIxL (K : PySem.W.Frag) : R2 := fun x y H Q => ∃ p xs i v, x = .ref p ∧ y = .int i ∧ SqL K H p xs ∧ atI xs i = some v ∧ Q v H
def rIxT (K : PySem.W.Frag) : R2 := fun x y H Q => ∃ p xs i v, x = .ref p ∧ y = .int i ∧ SqT K H p xs ∧ atI xs i = some v ∧ Q v H
theorem ix_list : IxR X (rIxL X.K) := by
  intro value slice pins s σ H x y v u Q I rx ry h hs
  obtain ⟨p, xs, i, z, rfl, rfl, hq, he, q⟩ := h
  cases rx
  obtain ⟨t, rfl⟩ := ry
  obtain ⟨its, r, pl, hz⟩ := I.list hq
  obtain ⟨j, h1, h2, h3, h4, h5⟩ := atI_get he
  obtain ⟨w, ew, rw'⟩ := r.get h2
  have hl := r.length
  have hn := line63
  have fin : EP X pins σ Q w s := ⟨z, H, I, rw', q⟩
  by_cases h0 : 0 ≤ i
  · have hj : i.toNat = j := by
      rw [seqIndex_of h0 h5] at h1
      exact Option.some.inj h1
    exact item_listR pl.isList h0 (by omega) (by rw [hj]; simpa using ew) fin hs
  · have hj : (i + (its.toArray.size : Int)).toNat = j := by
      rw [seqIndex_neg (by omega) h4] at h1
      rw [List.size_toArray, ← hl]
      exact Option.some.inj h1
    exact subscriptTail_builtinR (x := w) pl.isList.typeIs slot_list_getitem.lookup
      (wpAny_getItem_list_neg (Q := fun r s' => r = w ∧ EP X pins σ Q r s') pl.isList (by omega) (by rw [List.size_toArray] <;> omega) (by omega) (by rw [hj]; simpa using ew) ⟨rfl, fin⟩) hs
theorem ix_tup : IxR X (rIxT X.K) := by
  intro value slice pins s σ H x y v u Q I rx ry h hs
  obtain ⟨p, xs, i, z, rfl, rfl, hq, he, q⟩ := h
  cases rx
  obtain ⟨t, rfl⟩ := ry
  obtain ⟨its, r, pl, hz⟩ := I.tuple hq
  obtain ⟨j, h1, h2, h3, h4, h5⟩ := atI_get he
  obtain ⟨w, ew, rw'⟩ := r.get h2
  have hl := r.length
  have hn := line63
  have fin : EP X pins σ Q w s := ⟨z, H, I, rw', q⟩
  exact subscriptTail_builtinR (x := w) pl.typeIs slot_tuple_getitem.lookup
    (getItem_tuple (j := j) (Q := fun r s' => r = w ∧ EP X pins σ Q r s') pl (by omega) (by omega) (by rw [List.size_toArray, ← hl]; exact h1) (by simpa using ew) ⟨rfl, fin⟩) hs
theorem mapSeq_set (its : List Value) (n j : Nat) (u : Value) : Obj.mapSeq (·.setIfInBounds j u) { cls := .type "list", data := .seq its.toArray n } = { cls := .type "list", data := .seq (its.set j u).toArray n } := by
  simp [Obj.mapSeq]
theorem Inv.lst {pins : List (Addr × Obj)} {σ : St} {H : Hp} {s : Shared} {p : Addr} {xs : List V} (I : Inv X pins σ H s) (h : H p = some (.lst xs)) :
    ∃ (its : List Value) (n : Nat), Vals xs its ∧ s.heap.get? p = some { cls := .type "list", data := .seq its.toArray n } ∧ xs.length ≤ sizeLine := by
  obtain ⟨z, its, n, r, e⟩ := I.hok p _ h
  exact ⟨its, n, r, e, z⟩
theorem Inv.lstUpd {pins : List (Addr × Obj)} {σ : St} {H : Hp} {s : Shared} {p : Addr} {xs ys : List V} {its its' : List Value} {n n' : Nat} {f : Obj → Obj} (I : Inv X pins σ H s) (h : H p = some (.lst xs))
    (ho : s.heap.get? p = some { cls := .type "list", data := .seq its.toArray n }) (hf : f { cls := .type "list", data := .seq its.toArray n } = { cls := .type "list", data := .seq its'.toArray n' }) (r : Vals ys its') (hz : ys.length ≤ sizeLine) (t : Nat) :
    Inv X pins σ (upd H p (.lst ys)) { s with heap := s.heap.update p f, toks := t } := by
  have e : (s.heap.update p f).get? p = some { cls := .type "list", data := .seq its'.toArray n' } := by
    rw [Heap.get?_update_self f ho (by rw [hf] <;> rfl), hf]
  refine I.write (x := p) (e := p) (by rw [h]; trivial) (.inl rfl) (fun b u hb q => (Heap.get?_update_other _ _ (Ne.symm hb)).trans q) ⟨_, e⟩ ?_
  exact ⟨hz, its', n', r, e⟩
def rSetL : V → V → V → Hp → (Hp → Prop) → Prop := fun o i v H Q => ∃ p xs k j, o = .ref p ∧ i = .int k ∧ H p = some (.lst xs) ∧ ixN xs.length k = some j ∧ Q (upd H p (.lst (xs.set j v)))
theorem set_list : PSet X rSetL := by
  intro pins s σ H o i v ov iv u Q I ro ri rv h
  obtain ⟨p, xs, k, j, rfl, rfl, hp, hj, q⟩ := h
  cases ro
  obtain ⟨t, rfl⟩ := ri
  obtain ⟨its, n, r, ho, hz⟩ := I.lst hp
  obtain ⟨h1, h2, h3, h4⟩ := ixN_seq hj
  have hl := r.length
  have hn := line63
  have I' : Inv X pins σ (upd H p (.lst (xs.set j v))) { s with heap := s.heap.update p (Obj.mapSeq (·.setIfInBounds j u)) } :=
    I.lstUpd hp ho (mapSeq_set its n j u) (r.set rv j) (by rw [List.length_set]; exact hz) s.toks
  by_cases h0 : 0 ≤ k
  · have hk : k.toNat = j := by
      rw [seqIndex_of h0 h4] at h1
      exact Option.some.inj h1
    exact PySem.W.ki_setAt ho h0 (by omega) (by rw [List.size_toArray, ← hl]; exact h4) (by rw [hk]; exact ⟨_, I', q⟩)
  · have hk : (k + (its.toArray.size : Int)).toNat = j := by
      rw [seqIndex_neg (by omega) h3] at h1
      rw [List.size_toArray, ← hl]
      exact Option.some.inj h1
    exact PySem.W.ki_setBack ho (by omega) (by rw [List.size_toArray, ← hl]; exact h3) (by omega) (by rw [hk]; exact ⟨_, I', q⟩)
theorem slice_bounds (lo hi : Option Int) (n : Nat) : (sliceBounds lo hi none n).1 = ((HT.sIx n 0 lo : Nat) : Int) ∧ (sliceBounds lo hi none n).2.1 = ((HT.sIx n n hi : Nat) : Int) ∧ (sliceBounds lo hi none n).2.2 = 1 := by
  refine ⟨?_, ?_, rfl⟩
  · cases lo with
    | none => simp [sliceBounds, HT.sIx]
    | some i =>
      simp only [sliceBounds, HT.sIx, Option.getD_none, show (1 : Int) > 0 by decide, if_true]
      by_cases h : i < 0
      · simp only [h, if_true] <;> omega
      · simp only [h, if_false] <;> omega
  · cases hi with
    | none => simp [sliceBounds, HT.sIx]
    | some i =>
      simp only [sliceBounds, HT.sIx, Option.getD_none, show (1 : Int) > 0 by decide, if_true]
      by_cases h : i < 0
      · simp only [h, if_true] <;> omega
      · simp only [h, if_false] <;> omega
theorem slicePick_cut (its : List Value) (lo hi : Option Int) : slicePick its.toArray lo hi none = ((its.drop (HT.sIx its.length 0 lo)).take (HT.sIx its.length its.length hi - HT.sIx its.length 0 lo)).toArray := by
  obtain ⟨h1, h2, h3⟩ := slice_bounds lo hi its.toArray.size
  unfold slicePick
  rw [h1, h2, h3]
  simp only [sliceRange_one, pick_run, List.size_toArray] <;> rfl
def rSlL (K : PySem.W.Frag) : V → Option Int → Option Int → Hp → VK → Prop := fun x lo hi H Q => ∃ a xs, x = .ref a ∧ SqL K H a xs ∧ ∀ p, H p = none → Q (.ref p) (upd H p (.lst (cutV xs lo hi)))
theorem sl_list : SlR X (rSlL X.K) := by
  intro pins s σ H x v vl vu lo hi sl Q I rx hs pl pu h
  obtain ⟨a, xs, rfl, hx, q⟩ := h
  cases rx
  obtain ⟨its, r, ht, hz⟩ := I.list hx
  have hlen := r.length
  refine ⟨"list", _, slot_list_getitem.lookup, ht.isList.typeIs, ?_⟩
  refine wpAny_getItem_list_slice ht.isList hs pl pu .none (by simp) ?_ (by rw [List.size_toArray] <;> omega)
  rw [slicePick_cut, ← hlen]
  refine ⟨.ref s.heap.objs.size, _, I.laid (t' := s.toks) (o := .lst (cutV xs lo hi)) (fun b ob q => Heap.get?_push_of_some _ q) (Nat.le_refl _) ?_, rfl, q _ (I.hok.fresh (Nat.le_refl _))⟩
  exact ⟨Nat.le_trans (cutV_length xs lo hi) hz, _, 0, (r.drop (HT.sIx xs.length 0 lo)).take (HT.sIx xs.length xs.length hi - HT.sIx xs.length 0 lo), Heap.get?_push_size _ rfl⟩
def flatV : V → Bool
  | .non => true
  | .bl _ => true
  | .int _ => true
  | .str _ => true
  | _ => false
def eqV : V → V → Bool
  | .non, .non => true
  | .bl a, .bl b => a == b
  | .bl a, .int b => (if a then 1 else 0) == b
  | .int a, .bl b => a == (if b then 1 else 0)
  | .int a, .int b => a == b
  | .str a, .str b => a == b
  | _, _ => false
theorem eqAt_V {A : Around} {s : Shared} {y x : V} {u v : Value} (ry : RelV y u) (rx : RelV x v) (fy : flatV y = true) (fx : flatV x = true) : SeqAt.EqAt A s u v (eqV y x) := by
  cases y with
  | non =>
    cases ry
    cases x with
    | non => cases rx; exact SeqAt.EqAt.same _
    | bl b => cases rx; exact SeqAt.EqAt.none_bool b
    | int b => obtain ⟨t, rfl⟩ := rx; exact SeqAt.EqAt.none_int b t
    | str b => obtain ⟨t, rfl⟩ := rx; exact SeqAt.EqAt.none_str b t
    | _ => exact absurd (show false = true from fx) Bool.false_ne_true
  | bl a =>
    cases ry
    cases x with
    | non => cases rx; exact SeqAt.EqAt.bool_none a
    | bl b => cases rx; exact SeqAt.EqAt.bool_bool a b
    | int b => obtain ⟨t, rfl⟩ := rx; exact SeqAt.EqAt.bool_int a b t
    | str b => obtain ⟨t, rfl⟩ := rx; exact SeqAt.EqAt.bool_str a b t
    | _ => exact absurd (show false = true from fx) Bool.false_ne_true
  | int a =>
    obtain ⟨t', rfl⟩ := ry
    cases x with
    | non => cases rx; exact SeqAt.EqAt.int_none a t'
    | bl b => cases rx; exact SeqAt.EqAt.int_bool a t' b
    | int b => obtain ⟨t, rfl⟩ := rx; exact SeqAt.EqAt.int_int a t' b t
    | str b => obtain ⟨t, rfl⟩ := rx; exact SeqAt.EqAt.int_str a t' b t
    | _ => exact absurd (show false = true from fx) Bool.false_ne_true
  | str a =>
    obtain ⟨t', rfl⟩ := ry
    cases x with
    | non => cases rx; exact SeqAt.EqAt.str_none a t'
    | bl b => cases rx; exact SeqAt.EqAt.str_bool a t' b
    | int b => obtain ⟨t, rfl⟩ := rx; exact SeqAt.EqAt.str_int a t' b t
    | str b => obtain ⟨t, rfl⟩ := rx; exact SeqAt.EqAt.str_str a t' b t
    | _ => exact absurd (show false = true from fx) Bool.false_ne_true
  | _ => exact absurd (show false = true from fy) Bool.false_ne_true
def eqU (x : V) (u : Value) : Bool := match u with
  | .none => eqV .non x
  | .bool b => eqV (.bl b) x
  | .int i _ => eqV (.int i) x
  | .str z _ => eqV (.str z) x
  | _ => false
theorem eqU_of {x y : V} {u : Value} (r : RelV y u) (f : flatV y = true) : eqU x u = eqV y x := by
  cases y with
  | non => cases r; rfl
  | bl b => cases r; rfl
  | int i => obtain ⟨t, rfl⟩ := r; rfl
  | str z => obtain ⟨t, rfl⟩ := r; rfl
  | _ => exact absurd (show false = true from f) Bool.false_ne_true
theorem any_eqU {x : V} : ∀ {xs : List V} {us : List Value}, Vals xs us → xs.all flatV = true → us.any (eqU x) = xs.any fun y => eqV y x
  | _, _, .nil, _ => rfl
  | y :: xs, u :: us, .cons r t, f => by
    rw [List.all_cons, Bool.and_eq_true] at f
    rw [List.any_cons, List.any_cons, eqU_of r f.1, any_eqU t f.2]
theorem mem_eqAt {A : Around} {s : Shared} {x : V} {v : Value} (rx : RelV x v) (fx : flatV x = true) : ∀ {xs : List V} {us : List Value}, Vals xs us → xs.all flatV = true → ∀ u ∈ us, SeqAt.EqAt A s u v (eqU x u)
  | _, _, .nil, _ => fun u hu => by cases hu
  | y :: xs, u :: us, .cons r t, f => fun u' hu => by
    rw [List.all_cons, Bool.and_eq_true] at f
    rcases List.mem_cons.mp hu with rfl | hu
    · rw [eqU_of r f.1]; exact eqAt_V r rx f.1 fx
    · exact mem_eqAt rx fx t f.2 u' hu
def inV (x : V) (xs : List V) : Bool := xs.any fun y => eqV y x
def rIn (K : PySem.W.Frag) (neg : Bool) : R2 := fun x y H Q => ∃ p xs, y = .ref p ∧ (SqL K H p xs ∨ SqT K H p xs) ∧ flatV x = true ∧ xs.all flatV = true ∧ Q (.bl (if neg then !inV x xs else inV x xs)) H
theorem op_in_seq : OpR X (compareOp .In) (rIn X.K false) := by
  intro pins s σ H x y v u Q I rx ry h
  obtain ⟨p, xs, rfl, hq, fx, fs, q⟩ := h
  cases ry
  rcases hq with hq | hq
  · obtain ⟨its, r, pl, hz⟩ := I.list hq
    refine SeqAt.in_listAt (eqU x) pl.isList (fun w hw => mem_eqAt rx fx r fs w (by simpa using hw)) ⟨.bl _, H, I, rfl, ?_⟩
    rw [show its.toArray.any (eqU x) = its.any (eqU x) by simp, any_eqU r fs]
    exact q
  · obtain ⟨its, r, pl, hz⟩ := I.tuple hq
    refine SeqAt.in_tupleAt (eqU x) pl (fun w hw => mem_eqAt rx fx r fs w (by simpa using hw)) ⟨.bl _, H, I, rfl, ?_⟩
    rw [show its.toArray.any (eqU x) = its.any (eqU x) by simp, any_eqU r fs]
    exact q
theorem call_len_seq : CallR X (.builtin "len") (fun xs H Q => ∃ p ys, xs = [.ref p] ∧ (SqL X.K H p ys ∨ SqT X.K H p ys) ∧ Q (.int ys.length) H) := by
  intro pins s σ H xs us Q I r h
  obtain ⟨p, ys, rfl, hq, q⟩ := h
  obtain ⟨u, rfl, rx⟩ := vals1 r
  cases rx
  have hn := line63
  rcases hq with hq | hq
  · obtain ⟨its, r', pl, hz⟩ := I.list hq
    have hlen := r'.length
    exact Calls.call_len_list pl.isList (by simp only [List.size_toArray] <;> omega) ⟨.int ys.length, H, I.tok _, ⟨s.toks + 1, by rw [List.size_toArray, hlen]⟩, q⟩
  · obtain ⟨its, r', pl, hz⟩ := I.tuple hq
    have hlen := r'.length
    exact len_tuple pl (by simp only [List.size_toArray] <;> omega) ⟨.int ys.length, H, I.tok _, ⟨s.toks + 1, by rw [List.size_toArray, hlen]⟩, q⟩
theorem call_list_of : CallR X (.type "list") (fun xs H Q => ∃ p ys, xs = [.ref p] ∧ (SqL X.K H p ys ∨ SqT X.K H p ys) ∧ ∀ l, H l = none → Q (.ref l) (upd H l (.lst ys))) := by
  intro pins s σ H xs us Q I r h
  obtain ⟨p, ys, rfl, hq, q⟩ := h
  obtain ⟨u, rfl, rx⟩ := vals1 r
  cases rx
  have fin : ∀ (its : List Value), Vals ys its → ys.length ≤ sizeLine → ∀ (h' : Heap) (c' : Nat), (∀ b o', s.heap.get? b = some o' → h'.get? b = some o') →
      h'.get? s.heap.objs.size = some { cls := .type "list", dict := none, data := .seq its.toArray c', slots := #[] } → EP X pins σ Q (.ref s.heap.objs.size) { s with heap := h' } := fun its r' hz h' c' kp e =>
    ⟨.ref s.heap.objs.size, _, I.laid (t' := s.toks) kp (Nat.le_refl _) (show ObjOk X.prog X.w _ h' _ (.lst ys) from ⟨hz, its, c', r', e⟩), rfl, q _ (I.hok.fresh (Nat.le_refl _))⟩
  rcases hq with hq | hq
  · obtain ⟨its, r', pl, hz⟩ := I.list hq
    have hlen := r'.length
    obtain ⟨o, ho, hc, n, hd⟩ := pl.isList
    exact call_list_seq p (.inl rfl) ho hc hd (fun h' c' kp e => fin its r' hz h' c' kp e) (by simp only [List.size_toArray] <;> omega)
  · obtain ⟨its, r', pl, hz⟩ := I.tuple hq
    have hlen := r'.length
    obtain ⟨o, ho, hc, n, hd⟩ := pl
    exact call_list_seq p (.inr rfl) ho hc hd (fun h' c' kp e => fin its r' hz h' c' kp e) (by simp only [List.size_toArray] <;> omega)
def tyV (K : PySem.W.Frag) (T : String) (x : V) (H : Hp) : Prop := match x with
  | .str _ => T = "str"
  | .int _ => T = "int"
  | .ref p => (T = "list" ∧ ∃ xs, SqL K H p xs) ∨ (T = "tuple" ∧ ∃ o, K.lookup p = some o ∧ o.cls = .type "tuple" ∧ o.dict = none) ∨
      (T = "dict" ∧ ((∃ kvs, H p = some (.dK kvs)) ∨ ∃ kvs, H p = some (.dT kvs))) ∨ (T = "set" ∧ ∃ S n, H p = some (.set S n))
  | _ => False
theorem tyV_is {pins : List (Addr × Obj)} {σ : St} {H : Hp} {s : Shared} {T : String} {x : V} {v : Value} (I : Inv X pins σ H s) (r : RelV x v) (ty : tyV X.K T x H) :
    s.TypeIs v T ∧ ∀ a, v = .ref a → ∃ ob, s.heap.get? a = some ob ∧ ob.dict = none := by
  cases x with
  | str z =>
    obtain ⟨t, rfl⟩ := r
    cases (show T = "str" from ty)
    exact ⟨typeIs_str s z t, fun _ e => nomatch e⟩
  | int i =>
    obtain ⟨t, rfl⟩ := r
    cases (show T = "int" from ty)
    exact ⟨typeIs_int s i t, fun _ e => nomatch e⟩
  | ref p =>
    cases r
    rcases ty with ⟨rfl, xs, hq⟩ | ⟨rfl, o, hk, hc, hd⟩ | ⟨rfl, hk⟩ | ⟨rfl, S, n, hk⟩
    · obtain ⟨its, _, pl, _⟩ := I.list hq
      refine ⟨pl.isList.typeIs, fun a e => ?_⟩
      cases e
      obtain ⟨o, n, e, c, hd, _⟩ := pl
      exact ⟨o, e, hd⟩
    · refine ⟨⟨o, I.kIn p o hk, hc⟩, fun a e => ?_⟩
      cases e
      exact ⟨o, I.kIn _ o hk, hd⟩
    · have z : ∃ o, s.heap.get? p = some o ∧ o.ExactDict := by
        rcases hk with ⟨kvs, hk⟩ | ⟨kvs, hk⟩
        · obtain ⟨_, _, _, _, o, _, _, e, ex, _⟩ := I.hok p _ hk
          exact ⟨o, e, ex⟩
        · obtain ⟨_, _, _, _, o, _, _, e, ex, _⟩ := I.hok p _ hk
          exact ⟨o, e, ex⟩
      obtain ⟨o, e, ex⟩ := z
      refine ⟨⟨o, e, ex.1⟩, fun a e2 => ?_⟩
      cases e2
      exact ⟨o, e, ex.2.1⟩
    · obtain ⟨o, _, _, _, e, ex, _⟩ := I.hok p _ hk
      refine ⟨⟨o, e, ex.1⟩, fun a e2 => ?_⟩
      cases e2
      exact ⟨o, e, ex.2.1⟩
  | _ => exact False.elim ty
def tBM0 (K : PySem.W.Frag) (T : String) (r : V → List V → Hp → VK → Prop) (to : TE) : TE := fun σ H Q => to σ H fun x H1 => tyV K T x H1 ∧ r x [] H1 Q
def tBM (K : PySem.W.Frag) (T : String) (r : V → List V → Hp → VK → Prop) (to : TE) (t : TA) : TE := fun σ H Q => to σ H fun x H1 => tyV K T x H1 ∧ t σ H1 fun xs H2 => r x xs H2 Q
variable {o e : Expr} {es : List Expr} {to : TE} {t : TA} {name : Str} {apos cpos : Pos} {T id : String} {r : V → List V → Hp → VK → Prop}
theorem pe_bm0 (pa : PlainAttrs T) (slot : Slot T name id) (hty : typeOf (.builtin id) = pure (.type "method_descriptor")) (hm : MtR X id r) (ho : PE X o to)
    (hbase : attributeBase o name X.env (eval o X.env) = eval o X.env := by rfl) (hline : (apos.endLine == cpos.line) = true := by rfl) : PE X (.Call (.Attribute o name apos) [] [] cpos) (tBM0 X.K T r to) := by
  intro pins s σ H Q I h
  refine wpAny_Call_method0_late hbase hline (thn (ho pins s σ H _ I h) fun v s1 ⟨x, H1, I1, r1, ty, q1⟩ => ?_)
  obtain ⟨h1, h2⟩ := tyV_is I1 r1 ty
  exact ⟨T, id, pa, slot, hty, h1, h2, Calls.callWith_builtin rfl (PySem.evalArgs_none (hm pins s1 σ H1 x [] v [] Q I1 r1 .nil q1))⟩
theorem pe_bm (pa : PlainAttrs T) (slot : Slot T name id) (hty : typeOf (.builtin id) = pure (.type "method_descriptor")) (hm : MtR X id r) (ho : PE X o to) (ha : PA X (e :: es) t)
    (hbase : attributeBase o name X.env (eval o X.env) = eval o X.env := by rfl)
    (hfew : ((backTo cpos (starEach (e :: es) X.env)).all (fun x => !x.1) && (backToKw cpos (keywordEach [] X.env)).all (fun x => x.1.isSome)
      && decide ((e :: es).length + ([] : List Keyword).length + (if ([] : List Keyword).isEmpty then 0 else 1) < 30)) = true := by rfl)
    (hline : (apos.endLine == cpos.line) = true := by rfl) (hs : starEach (e :: es) X.env = (false, eval e X.env) :: starEach es X.env := by rfl) (hplain : (backTo cpos (starEach es X.env)).any (·.1) = false := by rfl) :
    PE X (.Call (.Attribute o name apos) (e :: es) [] cpos) (tBM X.K T r to t) := by
  intro pins s σ H Q I h
  refine wpAny_Call_method_late hbase hfew hline rfl (thn (ho pins s σ H _ I h) fun v s1 ⟨x, H1, I1, r1, ty, q1⟩ => ?_)
  obtain ⟨h1, h2⟩ := tyV_is I1 r1 ty
  refine ⟨T, id, pa, slot, hty, h1, h2, ?_⟩
  have hA := ha cpos pins s1 σ H1 _ I1 q1
  rw [hs] at hA ⊢
  refine Calls.callWith_builtin (by show (false || (backTo cpos (starEach es X.env)).any (·.1)) = false; rw [hplain] <;> rfl) (Calls.evalArgs_plain ?_)
  exact thn hA fun us s2 ⟨vs, H2, I2, r2, q2⟩ => hm pins s2 σ H2 x vs v us Q I2 r1 r2 q2
end
end L2
namespace L2
open PySem PySem.Spec PyProof.Rows
def MtM (X : Cx) (id : String) (r : V → List V → Hp → VK → Prop) : Prop :=
  ∀ (pins : List (Addr × Obj)) (s : Shared) (σ : St) (H : Hp) (x : V) (xs : List V) (v : Value) (us : List Value) (Q : VK), Inv X pins σ H s → RelV x v → Vals xs us → r x xs H Q →
    wpAny (model X.prog X.w) X.A (call (.builtin id) (v :: us)) (EP X pins σ Q) X.xe s
theorem Vals.one : ∀ {x : V} {us : List Value}, Vals [x] us → ∃ u, us = [u] ∧ RelV x u
  | _, _, .cons r .nil => ⟨_, rfl, r⟩
theorem Vals.two : ∀ {x y : V} {us : List Value}, Vals [x, y] us → ∃ u v, us = [u, v] ∧ RelV x u ∧ RelV y v
  | _, _, _, .cons r (.cons q .nil) => ⟨_, _, rfl, r, q⟩
theorem Vals.zero : ∀ {us : List Value}, Vals [] us → us = []
  | _, .nil => rfl
theorem Vals.dropLast {xs : List V} {us : List Value} (h : Vals xs us) : Vals xs.dropLast us.dropLast := by
  induction h with
  | nil => exact .nil
  | cons r t ih =>
    cases t with
    | nil => exact .nil
    | cons q t' => exact .cons r ih
theorem Vals.rep {xs : List V} {us : List Value} (h : Vals xs us) : ∀ k : Nat, Vals (List.replicate k xs).flatten (List.replicate k us).flatten
  | 0 => .nil
  | k + 1 => by
    rw [List.replicate_succ, List.replicate_succ, List.flatten_cons, List.flatten_cons]
    exact Vals.append h (Vals.rep h k)
theorem erase_last {α : Type} (l : List α) : l.eraseIdx (l.length - 1) = l.dropLast := by
  induction l with
  | nil => rfl
  | cons a r ih =>
    cases r with
    | nil => rfl
    | cons b r =>
      have e : (a :: b :: r).length - 1 = ((b :: r).length - 1) + 1 := by
        have h1 : (a :: b :: r).length = r.length + 2 := rfl
        have h2 : (b :: r).length = r.length + 1 := rfl
        omega
      rw [e, List.eraseIdx_cons_succ, ih]
      all_goals rfl
theorem foldl_rep (its : List Value) : ∀ (k : Nat) (acc : List Value),
    List.foldl (fun x1 x2 => x1 ++ x2) acc.toArray (List.replicate k its.toArray) = (acc ++ (List.replicate k its).flatten).toArray
  | 0, acc => by simp
  | k + 1, acc => by
    have e : acc.toArray ++ its.toArray = (acc ++ its).toArray := by simp
    have e2 : (acc ++ its) ++ (List.replicate k its).flatten = acc ++ (List.replicate (k + 1) its).flatten := by
      rw [List.replicate_succ, List.flatten_cons, List.append_assoc]
    rw [← e2, ← foldl_rep its k (acc ++ its), ← e, List.replicate_succ, List.foldl_cons]
section
variable {X : Cx} {pins : List (Addr × Obj)} {σ : St} {H : Hp} {s : Shared} {l b : Addr} {xs ys zs : List V}
theorem Inv.lset {its its' : List Value} {n : Nat} {f : Array Value → Array Value} {t' : Nat} (I : Inv X pins σ H s) (hH : H l = some (.lst xs))
    (e : s.heap.get? l = some { cls := .type "list", data := .seq its.toArray n }) (hf : f its.toArray = its'.toArray) (hv : Vals ys its') (hz : ys.length ≤ sizeLine) :
    Inv X pins σ (upd H l (.lst ys)) { s with heap := s.heap.update l (Obj.mapSeq f), toks := t' } := by
  have q := PySem.IsL.update e f
  rw [hf] at q
  refine I.write (x := l) (e := l) (by rw [hH]; exact trivial) (.inl rfl) (fun b' u hb hu => (Heap.get?_update_other s.heap (Obj.mapSeq f) (Ne.symm hb)).trans hu) ⟨_, q⟩ ?_
  exact ⟨hz, its', _, hv, q⟩
theorem Inv.lnew {its : List Value} {t' : Nat} (I : Inv X pins σ H s) (hv : Vals ys its) (hz : ys.length ≤ sizeLine) :
    Inv X pins σ (upd H s.heap.objs.size (.lst ys)) { s with heap := s.heap.push { cls := .type "list", data := .seq its.toArray }, toks := t' } :=
  I.laid (fun _ _ q => Heap.get?_push_of_some _ q) (Nat.le_refl _) ⟨hz, its, 0, hv, Heap.get?_push_size _ rfl⟩
theorem Inv.fresh (I : Inv X pins σ H s) : H s.heap.objs.size = none := I.hok.fresh (Nat.le_refl _)
theorem Inv.lstM (I : Inv X pins σ H s) (hH : H l = some (.lst xs)) : xs.length ≤ sizeLine ∧ ∃ (its : List Value) (n : Nat), Vals xs its ∧ xs.length = its.length ∧ s.heap.get? l = some { cls := .type "list", data := .seq its.toArray n } := by
  obtain ⟨z, its, n, r, e⟩ := I.hok l _ hH
  exact ⟨z, its, n, r, r.length, e⟩
theorem notLongL {n : Nat} (h : n ≤ sizeLine) : Builtin.List.listTooLong n = false := by
  unfold Builtin.List.listTooLong
  exact decide_eq_false (by omega)
end
section
variable {X : Cx}
def rAppend : V → List V → Hp → VK → Prop := fun x vs H Q => ∃ l xs y, x = .ref l ∧ vs = [y] ∧ H l = some (.lst xs) ∧ xs.length < sizeLine ∧ Q .non (upd H l (.lst (xs ++ [y])))
theorem mt_append : MtM X "list.append" rAppend := by
  intro pins s σ H x vs v us Q I rx rv h
  obtain ⟨l, xs, y, rfl, rfl, hH, hz, q⟩ := h
  cases rx
  obtain ⟨u, rfl, ru⟩ := rv.one
  obtain ⟨z, its, n, r, hl, e⟩ := I.lstM hH
  refine call_meets F.slot_list_append ⟨_, e, rfl⟩ F.entry_list_append (F.args_list_append_2 _ _) (PySem.list_append l its.toArray n u (by rw [List.size_toArray]; omega)) ⟨e, ?_⟩
  refine ⟨.non, _, I.lset (its' := its ++ [u]) hH e (by simp) (r.append (.cons ru .nil)) ?_, rfl, q⟩
  rw [List.length_append, List.length_singleton]
  omega
def rExtend : V → List V → Hp → VK → Prop := fun x vs H Q => ∃ l b xs zs, x = .ref l ∧ vs = [.ref b] ∧ H l = some (.lst xs) ∧ H b = some (.lst zs) ∧ xs.length + zs.length ≤ sizeLine ∧ Q .non (upd H l (.lst (xs ++ zs)))
theorem mt_extend : MtM X "list.extend" rExtend := by
  intro pins s σ H x vs v us Q I rx rv h
  obtain ⟨l, b, xs, zs, rfl, rfl, hH, hB, hz, q⟩ := h
  cases rx
  obtain ⟨u, rfl, ru⟩ := rv.one
  cases ru
  obtain ⟨z, its, n, r, hl, e⟩ := I.lstM hH
  obtain ⟨z2, its2, n2, r2, hl2, e2⟩ := I.lstM hB
  have hsz : its.toArray.size + its2.toArray.size ≤ sizeLine := by rw [List.size_toArray, List.size_toArray]; omega
  have hlong : ¬ (!its.toArray.isEmpty && Builtin.List.listTooLong (its.toArray.size + its2.toArray.size)) = true := by
    rw [notLongL hsz, Bool.and_false]
    exact Bool.false_ne_true
  refine call_meets F.slot_list_extend ⟨_, e, rfl⟩ F.entry_list_extend (F.args_list_extend_2 _ _)
    (AutoSeq1.list_extend_list_list_0 l its.toArray n b its2.toArray n2 hlong (by rw [List.size_toArray]; omega) (by omega)) ⟨e, e2, ?_⟩
  refine ⟨.non, _, I.lset (its' := its ++ its2) hH e (by simp) (r.append r2) ?_, rfl, q⟩
  rw [List.length_append]
  omega
def rPop : V → List V → Hp → VK → Prop := fun x vs H Q => ∃ l xs y, x = .ref l ∧ vs = [] ∧ H l = some (.lst xs) ∧ xs[xs.length - 1]? = some y ∧ Q y (upd H l (.lst xs.dropLast))
theorem mt_pop : MtM X "list.pop" rPop := by
  intro pins s σ H x vs v us Q I rx rv h
  obtain ⟨l, xs, y, rfl, rfl, hH, hy, q⟩ := h
  cases rx
  have hus := rv.zero
  subst hus
  obtain ⟨z, its, n, r, hl, e⟩ := I.lstM hH
  obtain ⟨u, hu, ru⟩ := r.get hy
  have hy' : its.toArray[its.toArray.size - 1]? = some u := by
    show its.toArray[its.length - 1]? = some u
    rw [← Array.getElem?_toList, ← hl]
    exact hu
  refine call_meets F.slot_list_pop ⟨_, e, rfl⟩ F.entry_list_pop (F.args_list_pop_1 _) (MeetsSeq.list_pop_last l its.toArray n u hy' (by rw [List.size_toArray]; omega)) ⟨e, ?_⟩
  refine ⟨y, _, I.lset (its' := its.dropLast) hH e ?_ r.dropLast ?_, ru, q⟩
  · show its.toArray.eraseIdxIfInBounds (its.toArray.size - 1) = its.dropLast.toArray
    rw [List.size_toArray, List.eraseIdxIfInBounds_toArray, erase_last]
  · rw [List.length_dropLast]
    omega
def rCat : R2 := fun x y H Q => ∃ l b xs zs, x = .ref l ∧ y = .ref b ∧ H l = some (.lst xs) ∧ H b = some (.lst zs) ∧ xs.length + zs.length ≤ sizeLine ∧ ∀ p, H p = none → Q (.ref p) (upd H p (.lst (xs ++ zs)))
theorem op_cat : OpR X (binaryOp .Add) rCat := by
  intro pins s σ H x y v u Q I rx ry h
  obtain ⟨l, b, xs, zs, rfl, rfl, hH, hB, hz, q⟩ := h
  cases rx
  cases ry
  obtain ⟨z, its, n, r, hl, e⟩ := I.lstM hH
  obtain ⟨z2, its2, n2, r2, hl2, e2⟩ := I.lstM hB
  refine PySem.P.add_list e e2 ?_ (by rw [List.size_toArray, List.size_toArray]; omega)
  have ea : its.toArray ++ its2.toArray = (its ++ its2).toArray := by simp
  rw [ea]
  exact ⟨.ref _, _, I.lnew (t' := s.toks) (r.append r2) (by rw [List.length_append]; omega), rfl, q _ I.fresh⟩
def rRep : R2 := fun x y H Q => ∃ l k xs, x = .ref l ∧ y = .int k ∧ H l = some (.lst xs) ∧ -(2 ^ 63) ≤ k ∧ k < 2 ^ 63 ∧ xs.length * k.toNat ≤ sizeLine ∧
  ∀ p, H p = none → Q (.ref p) (upd H p (.lst (List.replicate k.toNat xs).flatten))
theorem len_rep {α : Type} (xs : List α) (k : Nat) : (List.replicate k xs).flatten.length = k * xs.length := by
  induction k with
  | zero => simp
  | succ k ih => rw [List.replicate_succ, List.flatten_cons, List.length_append, ih, Nat.succ_mul, Nat.add_comm]
theorem op_rep : OpR X (binaryOp .Mult) rRep := by
  intro pins s σ H x y v u Q I rx ry h
  obtain ⟨l, k, xs, rfl, rfl, hH, h1, h2, hz, q⟩ := h
  cases rx
  obtain ⟨t, rfl⟩ := ry
  obtain ⟨z, its, n, r, hl, e⟩ := I.lstM hH
  have hlen : its.toArray.size * k.toNat ≤ sizeLine := by rw [List.size_toArray, ← hl]; exact hz
  have hcap : ¬ its.toArray.size * k.toNat > (2 ^ 63 - 1) / 8 := by
    have : (sizeLine : Nat) ≤ (2 ^ 63 - 1) / 8 := by decide
    omega
  have hfit : ¬ (!Builtin.List.listFitsIndex k) = true := by
    rw [fitsIndex_both h1 h2]
    exact Bool.false_ne_true
  have hlong : ¬ Builtin.List.listTooLong (its.toArray.size * k.toNat) = true := by
    rw [notLongL hlen]
    exact Bool.false_ne_true
  have hnew : List.foldl (fun x1 x2 => x1 ++ x2) #[] (List.replicate (if its.toArray.isEmpty = true then 0 else k.toNat) its.toArray) = (List.replicate k.toNat its).flatten.toArray := by
    have f0 : ∀ m : Nat, List.foldl (fun x1 x2 => x1 ++ x2) #[] (List.replicate m its.toArray) = (List.replicate m its).flatten.toArray := fun m => by
      have := foldl_rep its m []
      rw [List.nil_append] at this
      exact this
    rw [f0]
    cases its with
    | nil => simp
    | cons a r' => rw [if_neg (by simp)]
  refine wpAny_binaryOp_repeat_ref (T := "list") (U := "int") (by decide) ⟨_, e, rfl⟩ (fun s' => typeIs_int s' k t) noFill_list_mul F.fills_int_mul F.slot_int_rmul repeat_list F.slot_int_index.lookup
    (call_meets F.slot_int_rmul (typeIs_int s k t) F.entry_int_rmul (F.args_int_rmul_2 _ _) (int___rmul___int_list k t l its.toArray n)
      ⟨e, rfl, ⟨_, e, rfl⟩, call_meets F.slot_list_mul ⟨_, e, rfl⟩ F.entry_list_mul (F.args_list_mul_2 _ _) (AutoListH.list___mul___list_int_3 l its.toArray n k t hfit hcap hlong) ⟨e, ?_⟩⟩)
  rw [hnew]
  exact ⟨.ref _, _, I.lnew (t' := s.toks) (r.rep k.toNat) (by rw [len_rep, Nat.mul_comm]; exact hz), rfl, q _ I.fresh⟩
end
end L2
namespace L2
open PySem PySem.Spec PyProof.Rows
theorem Vals.ints : ∀ {ns : List Int} {us : List Value}, Vals (ns.map V.int) us → IntsAre us ns
  | [], us, h => by
    rw [List.map_nil] at h
    cases h
    exact IntsAre.nil
  | n :: ns, us, h => by
    rw [List.map_cons] at h
    cases h with
    | cons r t =>
      obtain ⟨k, rfl⟩ := r
      exact IntsAre.cons n k (Vals.ints t)
theorem Vals.ref1 {a : Addr} {us : List Value} (r : Vals [V.ref a] us) : us = [Value.ref a] := by
  cases r with
  | cons r t =>
    cases t
    cases r
    rfl
section
variable {prog : Program} {w : World} {A : Around} {E : Value → Shared → Prop} {s : Shared} {l : Addr} {its : List Value} {ns : List Int} {Q : Value → Shared → Prop}
theorem sum_raw (hh : A.handled = none) (hl : s.heap.IsList l its.toArray) (hi : IntsAre its ns)
    (h : ∀ h' tk t', (∀ b o, s.heap.get? b = some o → h'.get? b = some o) → Q (.int ns.sum t') { s with heap := h', toks := tk }) : wpAny (model prog w) A (call (.builtin "sum") [.ref l]) Q E s := by
  obtain ⟨xs, e⟩ := hi.allInts.items
  have hn : numsOf (intItems xs).toList = ns := by rw [← e]; exact hi.numsOf
  rw [nums_intItems] at hn
  rw [e] at hl
  refine PySem.sum_intListG hh hl fun h' tk t' hk => ?_
  have := h h' tk t' hk
  rw [preSum_eq, List.take_of_length_le (by simp), hn]; exact this
theorem min_raw (hh : A.handled = none) (hl : s.heap.IsList l its.toArray) (hi : IntsAre its ns) (hne : 0 < ns.length)
    (h : ∀ h' tk M t', (∀ b o, s.heap.get? b = some o → h'.get? b = some o) → M ∈ ns → (∀ a, a ∈ ns → M ≤ a) → Q (.int M t') { s with heap := h', toks := tk }) : wpAny (model prog w) A (call (.builtin "min") [.ref l]) Q E s := by
  obtain ⟨xs, e⟩ := hi.allInts.items
  have hn : numsOf (intItems xs).toList = ns := by rw [← e]; exact hi.numsOf
  rw [nums_intItems] at hn
  subst hn
  rw [e] at hl
  have hsz : 0 < xs.size := by simpa using hne
  refine PySem.min_intList hh hl hsz fun v h' tk hv hk => ?_
  obtain ⟨t, rfl⟩ := intItems_at hv
  obtain ⟨h1, h2⟩ := argBest_lt (numAt xs) (xs.size - 1)
  refine h h' tk _ t hk ?_ fun a ha => ?_
  · rw [numAt_eq]; exact PySem.getD_mem (by rw [List.length_map, Array.length_toList]; omega)
  · obtain ⟨j, hj, rfl⟩ := mem_getD ha
    rw [List.length_map, Array.length_toList] at hj
    rw [← numAt_eq]; exact h2 j (by omega)
end
section
variable {X : Cx}
def rSum (K : PySem.W.Frag) : List V → Hp → VK → Prop := fun vs H Q => ∃ (a : Addr) (ns : List Int), vs = [V.ref a] ∧ SqL K H a (ns.map V.int) ∧ Q (.int ns.sum) H
def rMin (K : PySem.W.Frag) : List V → Hp → VK → Prop := fun vs H Q => ∃ (a : Addr) (ns : List Int), vs = [V.ref a] ∧ SqL K H a (ns.map V.int) ∧ 0 < ns.length ∧ ∀ m, m ∈ ns → (∀ y, y ∈ ns → m ≤ y) → Q (.int m) H
theorem cr_sum (hc : X.calm = true) : CallR X (.builtin "sum") (rSum X.K) := by
  intro pins s σ H vs us Q I r h
  obtain ⟨a, ns, rfl, hs, q⟩ := h
  obtain ⟨its, rv, hl, _⟩ := I.list hs
  rw [Vals.ref1 r]
  exact sum_raw (I.ok.hd hc) hl.isList rv.ints fun h' tk t' hk => ⟨.int _, H, I.kept hk, ⟨_, rfl⟩, q⟩
theorem cr_min (hc : X.calm = true) : CallR X (.builtin "min") (rMin X.K) := by
  intro pins s σ H vs us Q I r h
  obtain ⟨a, ns, rfl, hs, hne, q⟩ := h
  obtain ⟨its, rv, hl, _⟩ := I.list hs
  rw [Vals.ref1 r]
  exact min_raw (I.ok.hd hc) hl.isList rv.ints hne fun h' tk m t' hk h1 h2 => ⟨.int _, H, I.kept hk, ⟨_, rfl⟩, q m h1 h2⟩
end
end L2
namespace L2
open PySem PySem.Spec PyProof.Rows
abbrev CellAt (h : Heap) (c : Addr) (v : Option Value) : Prop := h.IsCell c v
def relS (scope sc : Scope) : Scope :=
  { scope with names := scope.names.map fun (n, k) => if (k == .free && sc.kind == .function && sc.names.lookup n == some .cell) then (n, .cell) else (n, k) }
def cloFrom (cells : List (Str × Addr)) : List (Str × NameKind) → List (Str × Addr) → List (Str × Addr)
  | [], acc => acc
  | (n, k) :: r, acc => if k == .free then cloFrom cells r ((n, (cells.lookup n).getD 0) :: acc) else cloFrom cells r acc
theorem closure_loop (env : Env) (f : Str × NameKind → List (Str × Addr) → Sem (ForInStep (List (Str × Addr))))
    (hf : ∀ n k c, f (n, k) c = if k == .free then (do let a ← cellOf env n; pure (.yield ((n, a) :: c))) else pure (.yield c)) :
    ∀ (names : List (Str × NameKind)) (acc : List (Str × Addr)), (∀ y ∈ names, y.2 = .free → ∃ c, env.cells.lookup y.1 = some c) → forIn names acc f = pure (cloFrom env.cells names acc)
  | [], acc, _ => by rw [List.forIn_nil]; rfl
  | (n, k) :: r, acc, h => by
    rw [List.forIn_cons, hf]
    have ih := fun acc => closure_loop env f hf r acc fun y hy => h y (List.mem_cons_of_mem _ hy)
    unfold cloFrom
    by_cases hk : (k == NameKind.free) = true
    · rw [if_pos hk, if_pos hk]
      obtain ⟨c, hc⟩ := h (n, k) List.mem_cons_self (by simpa using hk)
      have e : cellOf env n = pure c := by unfold cellOf; rw [hc]
      rw [e]
      have e2 : (env.cells.lookup n).getD 0 = c := by rw [hc]; rfl
      rw [e2]
      exact ih _
    · rw [if_neg hk, if_neg hk]
      exact ih _
theorem closure_ok {scope : Scope} {env : Env} (h : ∀ y ∈ scope.names, y.2 = .free → ∃ c, env.cells.lookup y.1 = some c) : closureFor scope env = pure (cloFrom env.cells scope.names []) := by
  simp only [closureFor]
  rw [closure_loop env _ (fun n k c => rfl) scope.names [] h]
  rfl
theorem mem_lookup {α : Type} : ∀ {l : List (Str × α)} {n : Str} {c : α}, (n, c) ∈ l → ∃ c', l.lookup n = some c'
  | (k, v) :: r, n, c, h => by
    rw [List.lookup_cons]
    cases hb : n == k with
    | true => exact ⟨_, rfl⟩
    | false =>
      rcases List.mem_cons.mp h with e | h
      · cases e; simp at hb
      · exact mem_lookup h
theorem cloFrom_mem {cells : List (Str × Addr)} : ∀ {names : List (Str × NameKind)} {acc : List (Str × Addr)} {n : Str} {c : Addr}, (n, c) ∈ cloFrom cells names acc → (n, c) ∈ acc ∨ ((n, .free) ∈ names ∧ c = (cells.lookup n).getD 0)
  | [], _, _, _, h => .inl h
  | (m, k) :: r, acc, n, c, h => by
    unfold cloFrom at h
    split at h
    · rename_i hk
      have hk : k = .free := by simpa using hk
      rcases cloFrom_mem h with h | ⟨h1, h2⟩
      · rcases List.mem_cons.mp h with e | h
        · cases e; exact .inr ⟨hk ▸ List.mem_cons_self, rfl⟩
        · exact .inl h
      · exact .inr ⟨List.mem_cons_of_mem _ h1, h2⟩
    · rcases cloFrom_mem h with h | ⟨h1, h2⟩
      · exact .inl h
      · exact .inr ⟨List.mem_cons_of_mem _ h1, h2⟩
theorem cloFrom_acc {cells : List (Str × Addr)} : ∀ {names : List (Str × NameKind)} {acc : List (Str × Addr)} {p : Str × Addr}, p ∈ acc → p ∈ cloFrom cells names acc
  | [], _, _, h => h
  | (m, k) :: r, acc, p, h => by
    unfold cloFrom
    split
    · exact cloFrom_acc (List.mem_cons_of_mem _ h)
    · exact cloFrom_acc h
theorem cloFrom_has {cells : List (Str × Addr)} : ∀ {names : List (Str × NameKind)} {acc : List (Str × Addr)} {n : Str}, (n, .free) ∈ names → (n, (cells.lookup n).getD 0) ∈ cloFrom cells names acc
  | (m, k) :: r, acc, n, h => by
    unfold cloFrom
    rcases List.mem_cons.mp h with e | h
    · cases e
      exact cloFrom_acc List.mem_cons_self
    · split
      · exact cloFrom_has h
      · exact cloFrom_has h
theorem cells_mem : ∀ {names : List (Str × NameKind)} {h : Heap} {acc : List (Str × Addr)} {x : Str} {c : Addr}, (x, c) ∈ cellsFrom h.objs.size names acc →
    (x, c) ∈ acc ∨ ((x, .cell) ∈ names ∧ h.objs.size ≤ c ∧ CellAt (pushCells h names) c none)
  | [], _, _, _, _, h => .inl h
  | (n, k) :: r, h, acc, x, c, hm => by
    unfold cellsFrom at hm
    unfold pushCells
    split at hm
    · rename_i hk
      rw [if_pos hk]
      have hk : k = .cell := by simpa using hk
      rw [← Heap.size_push h { cls := .type "cell", data := .cell none }] at hm
      rcases cells_mem hm with hm | ⟨h1, h2, h3⟩
      · rcases List.mem_cons.mp hm with e | hm
        · cases e
          exact .inr ⟨hk ▸ List.mem_cons_self, Nat.le_refl _, _, pushCells_keeps r _ _ _ (Heap.get?_push_size _ rfl), rfl⟩
        · exact .inl hm
      · rw [Heap.size_push] at h2
        exact .inr ⟨List.mem_cons_of_mem _ h1, Nat.le_of_succ_le h2, h3⟩
    · rename_i hk
      rw [if_neg hk]
      rcases cells_mem hm with hm | ⟨h1, h2, h3⟩
      · exact .inl hm
      · exact .inr ⟨List.mem_cons_of_mem _ h1, h2, h3⟩
theorem cells_acc : ∀ {names : List (Str × NameKind)} {n : Nat} {acc : List (Str × Addr)} {p : Str × Addr}, p ∈ acc → p ∈ cellsFrom n names acc
  | [], _, _, _, h => h
  | (m, k) :: r, n, acc, p, h => by
    unfold cellsFrom
    split
    · exact cells_acc (List.mem_cons_of_mem _ h)
    · exact cells_acc h
theorem cells_has : ∀ {names : List (Str × NameKind)} {n : Nat} {acc : List (Str × Addr)} {x : Str}, (x, .cell) ∈ names → ∃ c, (x, c) ∈ cellsFrom n names acc
  | (m, k) :: r, n, acc, x, h => by
    unfold cellsFrom
    rcases List.mem_cons.mp h with e | h
    · cases e
      exact ⟨n, cells_acc List.mem_cons_self⟩
    · split
      · exact cells_has h
      · exact cells_has h
theorem cells_inj : ∀ {names : List (Str × NameKind)} {h : Heap} {acc : List (Str × Addr)} {x y : Str} {c : Addr}, (∀ p ∈ acc, p.2 < h.objs.size) → (∀ x y c, (x, c) ∈ acc → (y, c) ∈ acc → x = y) →
    (x, c) ∈ cellsFrom h.objs.size names acc → (y, c) ∈ cellsFrom h.objs.size names acc → x = y
  | [], _, _, _, _, _, _, hi, h1, h2 => hi _ _ _ h1 h2
  | (n, k) :: r, h, acc, x, y, c, hl, hi, h1, h2 => by
    unfold cellsFrom at h1 h2
    split at h1
    · rename_i hk
      rw [if_pos hk] at h2
      rw [← Heap.size_push h { cls := .type "cell", data := .cell none }] at h1 h2
      refine cells_inj (h := h.push _) (fun p hp => ?_) (fun x y c a b => ?_) h1 h2
      · rw [Heap.size_push]
        rcases List.mem_cons.mp hp with rfl | hp
        · exact Nat.lt_succ_self _
        · exact Nat.lt_succ_of_lt (hl p hp)
      · rcases List.mem_cons.mp a with e | a <;> rcases List.mem_cons.mp b with e' | b
        · cases e; cases e'; rfl
        · cases e; exact absurd (hl _ b) (Nat.lt_irrefl _)
        · cases e'; exact absurd (hl _ a) (Nat.lt_irrefl _)
        · exact hi _ _ _ a b
    · rename_i hk
      rw [if_neg hk] at h2
      exact cells_inj hl hi h1 h2
theorem newEnv_comp {M : Model} {A : Around} {E : Value → Shared → Prop} {s : Shared} {scope : Scope} {globals : Addr} {closure : List (Str × Addr)} {qual : Str} {func : Option Addr} {code : Value} {around : Env} {builtins : Addr} {Q : Env → Shared → Prop}
    (h : Q (newEnv scope s.heap.objs.size globals (cellsFrom (s.heap.objs.size + 1) scope.names closure) qual func code (some around) builtins)
      { s with heap := pushCells (s.heap.push { cls := .type "dict", data := .dict #[] }) scope.names }) :
    wpAny M A (newFunctionEnv scope globals closure [] qual func code (some around) builtins) Q E s := by
  simp only [newFunctionEnv, Option.isSome_some, if_true]
  refine wpAny_bind (wpAny_alloc ?_)
  refine wpAny_bind (wpAny_layCells _ (fun n k c => rfl) scope.names closure _ _ ?_)
  rw [show ({ s with heap := s.heap.push { cls := .type "dict", data := .dict #[] } } : Shared).heap.objs.size = s.heap.objs.size + 1 from Heap.size_push ..]
  rw [List.forIn_nil]
  exact wpAny_bind (wpAny_pure (wpAny_pure h))
theorem lookup_relS {sc : Scope} : ∀ {names : List (Str × NameKind)} {x : Str} {k : NameKind},
    (names.map fun (n, k) => if (k == NameKind.free && sc.kind == .function && sc.names.lookup n == some .cell) then (n, NameKind.cell) else (n, k)).lookup x = some k →
    ∃ k', names.lookup x = some k' ∧ (k = k' ∨ (k' = .free ∧ k = .cell))
  | [], _, _, h => by simp at h
  | (n, k₀) :: r, x, k, h => by
    have ih := @lookup_relS sc r x k
    have h' : List.lookup x ((if (k₀ == NameKind.free && sc.kind == .function && sc.names.lookup n == some .cell) = true then (n, NameKind.cell) else (n, k₀)) :: (r.map _)) = some k := h
    cases hx : x == n with
    | true =>
      simp only [List.lookup_cons, hx]
      by_cases hc : (k₀ == NameKind.free && sc.kind == .function && sc.names.lookup n == some .cell) = true
      · rw [if_pos hc] at h'
        simp only [List.lookup_cons, hx] at h'
        cases h'
        simp only [Bool.and_eq_true, beq_iff_eq] at hc
        exact ⟨k₀, rfl, .inr ⟨hc.1.1, rfl⟩⟩
      · rw [if_neg hc] at h'
        simp only [List.lookup_cons, hx] at h'
        cases h'
        exact ⟨_, rfl, .inl rfl⟩
    | false =>
      simp only [List.lookup_cons, hx]
      by_cases hc : (k₀ == NameKind.free && sc.kind == .function && sc.names.lookup n == some .cell) = true
      · rw [if_pos hc] at h'
        simp only [List.lookup_cons, hx] at h'
        exact ih h'
      · rw [if_neg hc] at h'
        simp only [List.lookup_cons, hx] at h'
        exact ih h'
structure BlkOk (N : List Str) (sc scope : Scope) (own : List (Str × Nat)) : Prop where
  kind : scope.kind = .function
  uniq : ∀ y ∈ scope.names, scope.names.lookup y.1 = some y.2
  ix : ∀ p ∈ own, N[p.2]? = some p.1
  free : ∀ y ∈ scope.names, y.2 = .free → sc.names.lookup y.1 = some .cell ∨ sc.names.lookup y.1 = some .free
  own : ∀ y ∈ scope.names, y.2 = .local ∨ y.2 = .cell → y.1 ∈ own.map (·.1) ∨ y.1 ∉ N
def wipe (σ : St) : List Nat → St
  | [] => σ
  | v :: vs => (wipe σ vs).set v none
theorem wipe_length (σ : St) : ∀ vs : List Nat, (wipe σ vs).length = σ.length
  | [] => rfl
  | v :: vs => by unfold wipe; rw [List.length_set, wipe_length σ vs]
theorem wipe_some {σ : St} {i : Nat} {x : V} : ∀ {vs : List Nat}, (wipe σ vs)[i]? = some (some x) → σ[i]? = some (some x) ∧ i ∉ vs
  | [], h => ⟨h, by simp⟩
  | v :: vs, h => by
    unfold wipe at h
    by_cases hi : v = i
    · subst hi
      by_cases hv : v < (wipe σ vs).length
      · rw [List.getElem?_set_self hv] at h; cases h
      · rw [List.getElem?_eq_none (by simpa using hv)] at h; cases h
    · rw [List.getElem?_set_ne hi] at h
      obtain ⟨h1, h2⟩ := wipe_some h
      exact ⟨h1, by simp only [List.mem_cons, not_or]; exact ⟨fun e => hi e.symm, h2⟩⟩
abbrev Cx.blk (X : Cx) (s : Shared) (H : Hp) (scope : Scope) (cenv : Env) (fp : List Addr) : Cx := { X with s_0 := s, H_0 := H, env := cenv, outer := X.stack, ex := fp, fn := fun x => scope.names.lookup x == some .cell, pn := [], xe := fun _ _ => False }
section
variable {X : Cx} {pins : List (Addr × Obj)} {σ : St} {H : Hp} {s : Shared}
theorem block_start {scope : Scope} {own : List (Str × Nat)} {fp : List Addr} (I : Inv X pins σ H s) (ok : BlkOk X.N X.env.scope scope own) (hN : X.N.Nodup) (hfp : ∀ b ∈ fp, FpOk X pins H b ∧ b < s.heap.objs.size) :
    Inv (X.blk s H scope (compEnvC scope (cellsFrom (s.heap.objs.size + 1) scope.names (cloFrom X.env.cells scope.names [])) s.heap.objs.size X.env) fp) [] (wipe σ (own.map (·.2))) H { s with heap := pushCells (s.heap.push { cls := .type "dict", data := .dict #[] }) scope.names } := by
  have hfree : ∀ y ∈ scope.names, y.2 = .free → ∃ c, X.env.cells.lookup y.1 = some c := fun y hy e => by
    rcases ok.free y hy e with k | k
    · exact I.ok.has _ (.inl k)
    · exact I.ok.has _ (.inr k)
  generalize hcenv : compEnvC scope (cellsFrom (s.heap.objs.size + 1) scope.names (cloFrom X.env.cells scope.names [])) s.heap.objs.size X.env = cenv
  have kp : ∀ b o, s.heap.get? b = some o → (pushCells (s.heap.push { cls := .type "dict", data := .dict #[] }) scope.names).get? b = some o := fun b o e => pushCells_keeps _ _ _ _ (Heap.get?_push_of_some _ e)
  have hL : cenv.locals = s.heap.objs.size := by rw [← hcenv]; rfl
  have hcl : cenv.cells = cellsFrom (s.heap.objs.size + 1) scope.names (cloFrom X.env.cells scope.names []) := by rw [← hcenv]; rfl
  have hsc : cenv.scope = relS scope X.env.scope := by rw [← hcenv]; rfl
  rw [← Heap.size_push s.heap { cls := .type "dict", data := .dict #[] }] at hcl
  have cm : ∀ {y c}, (y, c) ∈ cloFrom X.env.cells scope.names [] → X.env.cells.lookup y = some c ∧ c < s.heap.objs.size := fun {y c} hm => by
    rcases cloFrom_mem hm with hm | ⟨h1, rfl⟩
    · cases hm
    · obtain ⟨c, hc⟩ := hfree _ h1 rfl
      rw [hc]
      obtain ⟨w, z⟩ := I.cell _ _ hc
      exact ⟨rfl, z.lt⟩
  have mem : ∀ {y c}, cenv.cells.lookup y = some c → (X.env.cells.lookup y = some c ∧ c < s.heap.objs.size) ∨ (s.heap.objs.size + 1 ≤ c ∧ CellAt (pushCells (s.heap.push { cls := .type "dict", data := .dict #[] }) scope.names) c none) := fun {y c} e => by
    rw [hcl] at e
    rcases cells_mem (PySem.mem_of_lookup e) with hm | ⟨_, h2, h3⟩
    · exact .inl (cm hm)
    · rw [Heap.size_push] at h2; exact .inr ⟨h2, h3⟩
  have look : ∀ {y}, scope.names.lookup y = some .free → ∃ c, cenv.cells.lookup y = some c ∧ X.env.cells.lookup y = some c := fun {y} hl => by
    have hy : (y, NameKind.free) ∈ scope.names := PySem.mem_of_lookup hl
    obtain ⟨c', e'⟩ := mem_lookup (cells_acc (names := scope.names) (n := (s.heap.push { cls := .type "dict", data := .dict #[] }).objs.size) (cloFrom_has (cells := X.env.cells) (acc := []) hy))
    rw [← hcl] at e'
    refine ⟨c', e', ?_⟩
    rw [hcl] at e'
    rcases cells_mem (PySem.mem_of_lookup e') with hm | ⟨h1, _, _⟩
    · exact (cm hm).1
    · have := ok.uniq _ h1
      rw [hl] at this; cases this
  have okB : (X.blk s H scope cenv fp).Ok := by
    refine ⟨I.ok.mod, by show cenv.scope.kind = _; rw [hsc]; exact ok.kind, by show cenv.globals = _; rw [← hcenv]; exact I.ok.glob, by show cenv.builtins = _; rw [← hcenv]; exact I.ok.blt, by show s.heap.objs.size ≤ cenv.locals; rw [hL]; exact Nat.le_refl _,
      fun y z c e1 e2 => ?_, fun y hy => ?_, fun y c z e => ?_, I.ok.hd, I.ok.frames, .inl rfl, fun b hb => ⟨?_, fun y c e z => ?_⟩, I.bs, Nat.le_trans I.ok.bsz I.sz, fun b o e hb => ?_, fun b hb z => ?_, I.stack, I.stkFree⟩
    · have e1 : cenv.cells.lookup y = some c := e1
      have e2 : cenv.cells.lookup z = some c := e2
      rw [hcl] at e1 e2
      refine cells_inj (fun p hp => ?_) (fun y z c a b => I.ok.inj y z c (cm a).1 (cm b).1) (PySem.mem_of_lookup e1) (PySem.mem_of_lookup e2)
      rw [Heap.size_push]
      exact Nat.lt_succ_of_lt (cm (y := p.1) (c := p.2) hp).2
    · show ∃ c, cenv.cells.lookup y = some c
      have key : ∀ k, cenv.kindOf y = some k → (k = .cell ∨ k = .free) → ∃ c, cenv.cells.lookup y = some c := fun k hk hk' => by
        unfold Env.kindOf at hk
        rw [hsc] at hk
        obtain ⟨k', e, r⟩ := lookup_relS hk
        have : k' = .cell ∨ k' = .free := by
          rcases r with rfl | ⟨rfl, _⟩
          · exact hk'
          · exact .inr rfl
        rcases this with rfl | rfl
        · obtain ⟨c, hm⟩ := cells_has (n := (s.heap.push { cls := .type "dict", data := .dict #[] }).objs.size) (acc := cloFrom X.env.cells scope.names []) (PySem.mem_of_lookup e)
          obtain ⟨c', e'⟩ := mem_lookup hm
          exact ⟨c', by rw [hcl]; exact e'⟩
        · obtain ⟨c, h1, _⟩ := look e
          exact ⟨c, h1⟩
      rcases hy with hy | hy
      · exact key _ hy (.inl rfl)
      · exact key _ hy (.inr rfl)
    · have z : (scope.names.lookup y == some NameKind.cell) = true := z
      have z : scope.names.lookup y = some .cell := by simpa using z
      have e : cenv.cells.lookup y = some c := e
      rw [hcl] at e
      rcases cells_mem (PySem.mem_of_lookup e) with hm | ⟨_, h2, _⟩
      · rcases cloFrom_mem hm with hm | ⟨h1, _⟩
        · cases hm
        · have q := ok.uniq _ h1
          rw [z] at q; cases q
      · rw [Heap.size_push] at h2
        exact Nat.le_of_succ_le h2
    · show b ≠ cenv.locals
      rw [hL]; exact Nat.ne_of_lt (hfp b hb).2
    · have e : cenv.cells.lookup y = some c := e
      rcases mem e with ⟨h1, _⟩ | ⟨h1, _⟩
      · exact (hfp b hb).1.2.2.2.2.1 y c h1 z
      · have h2 : s.heap.objs.size + 1 ≤ b := by rw [← z]; exact h1
        exact absurd (Nat.lt_of_lt_of_le (hfp b hb).2 (Nat.le_of_succ_le h2)) (Nat.lt_irrefl _)
    · rcases (hfp b hb).1.2.2.2.1 with z | z
      · exact I.ok.noex b o e z
      · exact absurd (Nat.lt_of_lt_of_le (Heap.lt_size e) (Nat.le_trans I.ok.bsz z)) (Nat.lt_irrefl _)
    · rcases List.mem_cons.mp (I.stkSub b z) with z | z
      · exact (hfp b hb).1.2.1 z
      · exact (hfp b hb).1.2.2.1 z
  refine ⟨okB, rfl, I.bare, Un.kept kp, ⟨fun _ => none, ?_, fun i y av e1 e2 e3 => ?_⟩, fun y c e => ?_, ?_, fun y c e => ?_, fun p hp => ?_, I.hok.kept kp, by rw [wipe_length]; exact I.len⟩
  · show Heap.Ns _ cenv.locals _
    rw [hL]
    exact Heap.Ns.keeps (Heap.Ns.new ..) fun b o e => pushCells_keeps _ _ _ _ e
  · obtain ⟨e2, hne⟩ := wipe_some e2
    have hfr : scope.names.lookup y = some .free ∧ (cenv.kindOf y = some .cell ∨ cenv.kindOf y = some .free) := by
      have key : ∀ k, cenv.scope.names.lookup y = some k → k = .local ∨ k = .cell ∨ k = .free → scope.names.lookup y = some .free ∧ (cenv.kindOf y = some .cell ∨ cenv.kindOf y = some .free) := fun k hk hk' => by
        have hk0 := hk
        rw [hsc] at hk
        obtain ⟨k', e, r⟩ := lookup_relS hk
        have no : ¬ (k' = .local ∨ k' = .cell) := fun hh => by
          rcases ok.own _ (PySem.mem_of_lookup e) hh with e' | e'
          · obtain ⟨p, hp, hpy⟩ := List.mem_map.mp e'
            have e3 := ok.ix p hp
            have : p.1 = y := hpy
            rw [this] at e3
            exact hne (List.mem_map.mpr ⟨p, hp, nodup_ix hN e3 e1⟩)
          · exact e' (List.mem_of_getElem? e1)
        rcases r with rfl | ⟨rfl, rfl⟩
        · rcases hk' with rfl | rfl | rfl
          · exact absurd (.inl rfl) no
          · exact absurd (.inr rfl) no
          · exact ⟨e, .inr hk0⟩
        · exact ⟨e, .inl hk0⟩
      have e3 : Vis cenv.scope y := e3
      rcases e3 with e3 | e3 | e3
      · exact key _ e3 (.inl rfl)
      · exact key _ e3 (.inr (.inl rfl))
      · exact key _ e3 (.inr (.inr rfl))
    obtain ⟨m, hn, hl⟩ := I.loc
    have hvis : Vis X.env.scope y := (ok.free _ (PySem.mem_of_lookup hfr.1) rfl).elim (fun k => .inr (.inl k)) (fun k => .inr (.inr k))
    obtain ⟨w, r, q⟩ := hl i y av e1 e2 hvis
    refine ⟨w, r, .inr ⟨hfr.2, ?_⟩⟩
    obtain ⟨c, h1, h2⟩ := look hfr.1
    rcases q with ⟨k, _⟩ | ⟨_, c', e', z⟩
    · have k : X.env.scope.names.lookup y = some .local := k
      rcases ok.free _ (PySem.mem_of_lookup hfr.1) rfl with k' | k' <;> rw [show X.env.scope.names.lookup y = _ from k'] at k <;> cases k
    · rw [h2] at e'; cases e'
      exact ⟨c, h1, z.keeps kp⟩
  · have e : cenv.cells.lookup y = some c := e
    rcases mem e with ⟨h1, _⟩ | ⟨_, z⟩
    · obtain ⟨w, z⟩ := I.cell y c h1
      exact ⟨w, z.keeps kp⟩
    · exact ⟨_, z⟩
  · show H cenv.locals = none
    rw [hL]; exact I.hok.fresh (Nat.le_refl _)
  · have e : cenv.cells.lookup y = some c := e
    rcases mem e with ⟨h1, _⟩ | ⟨h1, _⟩
    · exact I.freeC y c h1
    · exact I.hok.fresh (Nat.le_of_succ_le h1)
  · exact absurd (show p ∈ ([] : List (Addr × Obj)) ++ [] from hp) (by simp)
theorem app_ok {E : Value → Shared → Prop} {D : Addr} {xs : List V} {y : V} {v : Value} {Q : Value → Shared → Prop} (I : Inv X pins σ H s) (hD : H D = some (.lst xs)) (hz : xs.length < sizeLine) (r : RelV y v)
    (h : ∀ s', Inv X pins σ (upd H D (.lst (xs ++ [y]))) s' → Q .none s') : wpAny (model X.prog X.w) X.A (call (.builtin "list.append") [.ref D, v]) Q E s := by
  obtain ⟨hz', its, n, ri, e⟩ := I.hok D _ hD
  have hl := ri.length
  refine append_at (hsz := by rw [List.size_toArray]; omega) e fun h' sb ho' => ?_
  refine h { s with heap := h' } (I.write (t' := s.toks) (by rw [hD]; trivial) (.inl rfl) (fun b u hb q => (sb.2 b hb).trans q) ⟨_, ho'⟩ ⟨by rw [List.length_append]; exact hz, its ++ [v], n + 1, ri.append (.cons r .nil), ?_⟩)
  rw [ho']
  simp
def PTs (X : Cx) (ifs : List Expr) (t : TT) : Prop :=
  ∀ (pins : List (Addr × Obj)) (s : Shared) (σ : St) (H : Hp) (Q : Bool → Hp → Prop), Inv X pins σ H s → t σ H Q →
    wpAny (model X.prog X.w) X.A (forIn ifs true fun c r => if r = true then do let ok ← isTrue c X.env (eval c X.env); pure (ForInStep.yield ok) else pure (ForInStep.yield r)) (TP X pins σ Q) X.xe s
def tYes : TT := fun _ H Q => Q true H
theorem pts_nil : PTs X [] tYes := fun _ _ _ H _ I h => wpAny_tests_nil ⟨H, I, h⟩
theorem pts_one {c : Expr} {t : TT} (h : PT X c t) : PTs X [c] t := fun pins s σ H Q I hw => wpAny_tests_one (h pins s σ H Q I hw)
end
theorem thnF {α : Type} {t : Sem α} {Q Q' : α → Shared → Prop} {M : Model} {A : Around} {E : Value → Shared → Prop} {s : Shared} (h : wpAny M A t Q (fun _ _ => False) s) (hQ : ∀ a s, Q a s → Q' a s) : wpAny M A t Q' E s := wpAny_mono h hQ fun _ _ z => False.elim z
theorem compLoop_any {prog : Program} {w : World} {A : Around} {R : Result → Shared → Prop} {s : Shared} {elt target iter : Expr} {ifs : List Expr} {scope : Scope} {pos : Pos} {it acc : Value} {env : Env} (I : Nat → Shared → Prop)
    (turn : ∀ n s, I n s → wpAny (model prog w) A (pyNext it) (fun r s₁ => match r with
      | none => R (.ok .next) s₁
      | some v => wpAny (model prog w) A (letOwnedTupleGo target it v) (fun _ s₁' => wpAny (model prog w) A (assign target env v) (fun _ s₂ =>
          wpAny (model prog w) A (forIn ifs true fun c r => if r = true then do let ok ← isTrue c env (eval c env); pure (ForInStep.yield ok) else pure (ForInStep.yield r)) (fun ok s₃ =>
            if ok = true then wpAny (model prog w) A (eval elt env) (fun x s₄ =>
              wpAny (model prog w) A (call (.builtin "list.append") [acc, x]) (fun _ s₅ => ∃ m, m < n ∧ I m s₅) (notedBy (model prog w) A env fun e s' => R (.error e) s') s₄) (notedBy (model prog w) A env fun e s' => R (.error e) s') s₃
            else ∃ m, m < n ∧ I m s₃) (notedBy (model prog w) A env fun e s' => R (.error e) s') s₂) (notedBy (model prog w) A env fun e s' => R (.error e) s') s₁') (notedBy (model prog w) A env fun e s' => R (.error e) s') s₁) (notedBy (model prog w) A env fun e s' => R (.error e) s') s)
    (n : Nat) (h : I n s) :
    codeAny (model prog w) A (.compLoop (.ListComp elt [⟨target, iter, ifs, 0⟩] scope pos) 0 it acc env) R s := by
  refine codeAny_loop rfl I (fun n s hI => ?_) n h
  show wpAny _ A ((compTurn (.ListComp elt [⟨target, iter, ifs, 0⟩] scope pos) 0 it acc env).onRaise (fun x => do noteFrame x env; theTreesLotGoes x)) _ _ s
  refine wpAny_noted ?_
  rw [compTurn_list]
  refine wpAny_bind (wpAny_standAt (wpAny_bind (wpAny_mono (turn n s hI) (fun r s₁ h₁ => ?_) fun _ _ h' => h')))
  cases r with
  | none => exact wpAny_pure h₁
  | some v =>
    refine wpAny_bind (wpAny_mono h₁ (fun _ s₁' h₁' => ?_) fun _ _ h' => h')
    refine wpAny_bind (wpAny_mono h₁' (fun _ s₂ h₂ => wpAny_bind (wpAny_mono h₂ (fun ok s₃ h₃ => ?_) fun _ _ h' => h')) fun _ _ h' => h')
    cases ok with
    | false => exact wpAny_pure ⟨rfl, h₃⟩
    | true =>
      exact wpAny_bind (wpAny_bind (wpAny_mono h₃ (fun x s₄ h₄ => wpAny_bind (wpAny_mono h₄ (fun _ s₅ h₅ => wpAny_pure (wpAny_pure ⟨rfl, h₅⟩)) fun _ _ h' => h')) fun _ _ h' => h'))
section
variable {X : Cx}
def tLc (wi : TI) (g : TG) (tt : TT) (te : TE) (vs : List Nat) : TE := fun σ H Q => wi σ H fun J H1 => ∀ D, H1 D = none → ∃ W : Nat → Nat → Hp → Prop, (∃ m, W 0 m (upd H1 D (.lst []))) ∧ ∀ i m H, W i m H →
  (J.stop i H ∧ Q (.ref D) H) ∨ (J.go i H ∧ ∃ Nx : Hp → Prop, (∀ H', Nx H' → ∃ m', m' < m ∧ W (i + 1) m' H') ∧ ∀ x H', J.yld i H x H' → g x (wipe σ vs) H' fun σ2 H2 => wipe σ2 vs = wipe σ vs ∧ tt σ2 H2 fun b H3 =>
    if b = true then te σ2 H3 fun y H4 => ∃ acc, H4 D = some (.lst acc) ∧ acc.length < sizeLine ∧ Nx (upd H4 D (.lst (acc ++ [y]))) else Nx H3)
theorem lc_core {pins : List (Addr × Obj)} {s : Shared} {σ : St} {H : Hp} {Q : VK} {elt tg iter : Expr} {ifs : List Expr} {scope : Scope} {own : List (Str × Nat)} {pos pos' : Pos} {wi : TI} {g : TG} {tt : TT} {te : TE} {use : Option (Value → Sem Unit)} {Qf : Value → Shared → Prop}
    (hc : X.calm = true) (hN : X.N.Nodup) (I : Inv X pins σ H s) (hi : PI X tg iter wi) (ok : BlkOk X.N X.env.scope scope own)
    (hg : ∀ (s : Shared) (H : Hp) (C : Addr) (cl : List (Str × Addr)) (fp : List Addr), PG (X.blk s H scope (compEnvC scope cl C X.env) fp) tg g) (ht : ∀ (s : Shared) (H : Hp) (C : Addr) (cl : List (Str × Addr)) (fp : List Addr), PTs (X.blk s H scope (compEnvC scope cl C X.env) fp) ifs tt)
    (he : ∀ (s : Shared) (H : Hp) (C : Addr) (cl : List (Str × Addr)) (fp : List Addr), PE (X.blk s H scope (compEnvC scope cl C X.env) fp) elt te) (hs : ∀ x, foldedSetIterable iter X.env x = pure x)
    (h : tLc wi g tt te (own.map (·.2)) σ H Q)
    (hRR : ∀ D C s' m H', Inv X pins σ H' s' → Q (.ref D) H' → s'.heap.Ns C m → FpOk X pins H' C → compPost (model X.prog X.w) X.A X.xe use Qf (.ref D) C (.ok .next) s') :
    wpAny (model X.prog X.w) X.A (comprehension (.ListComp elt [⟨tg, iter, ifs, 0⟩] scope pos) scope X.env pos' (newList []) false (eval iter X.env) use) Qf X.xe s := by
  have hfree : ∀ y ∈ scope.names, y.2 = .free → ∃ c, X.env.cells.lookup y.1 = some c := fun y hy e => by
    rcases ok.free y hy e with k | k
    · exact I.ok.has _ (.inl k)
    · exact I.ok.has _ (.inr k)
  refine wpAny_comprehension_free (use := use) rfl hs (closure_ok hfree) ok.kind (fun y hy e => by rw [ok.uniq y hy, e])
    (thn (hi pins s σ H _ I h) fun xv s1 hx => thn hx fun itv s2 h2 => ?_)
  obtain ⟨it, fp, tn, J, H2, e, I2, T, st2, f2, q⟩ := h2
  subst e
  refine wpAny_newObj_type (newEnv_comp ?_) (by show 0 ≤ sizeLine; decide)
  generalize hD : s2.heap.objs.size = D
  have hDn : H2 D = none := I2.hok.fresh (Nat.le_of_eq hD)
  obtain ⟨W, ⟨m0, w0⟩, turn⟩ := q D hDn
  generalize hs3 : ({ s2 with heap := s2.heap.push { cls := .type "list", data := .seq ([] : List Value).toArray } } : Shared) = s3
  have I3 : Inv X pins σ (upd H2 D (.lst [])) s3 := by
    rw [← hs3]
    refine I2.laid (t' := s2.toks) (fun b o e => Heap.get?_push_of_some _ e) (Nat.le_of_eq hD) ⟨Nat.zero_le _, [], 0, .nil, ?_⟩
    rw [← hD]
    exact Heap.get?_push_size _ rfl
  have h3 : s3.heap = s2.heap.push { cls := .type "list", data := .seq ([] : List Value).toArray } := by rw [← hs3]
  have sz : ∀ b ∈ fp, b < s2.heap.objs.size := fun b hb => by
    obtain ⟨o, e, _⟩ := T.obj _ _ st2 b hb
    exact Heap.lt_size e
  have f3 : ∀ b ∈ fp, FpOk X pins (upd H2 D (.lst [])) b ∧ b < s3.heap.objs.size := fun b hb => by
    have hlt := sz b hb
    refine ⟨⟨?_, (f2 b hb).2⟩, by rw [h3, Heap.size_push]; exact Nat.lt_succ_of_lt hlt⟩
    rw [upd_ne (by rw [← hD]; exact Nat.ne_of_lt hlt)]
    exact (f2 b hb).1
  have st3 : tn 0 s3.heap := T.keep _ _ _ st2 fun b _ o e => by rw [h3]; exact Heap.get?_push_of_some _ e
  have I4 := block_start I3 ok hN f3
  have pg := hg s3 (upd H2 D (.lst [])) s3.heap.objs.size (cellsFrom (s3.heap.objs.size + 1) scope.names (cloFrom X.env.cells scope.names [])) fp
  have pt := ht s3 (upd H2 D (.lst [])) s3.heap.objs.size (cellsFrom (s3.heap.objs.size + 1) scope.names (cloFrom X.env.cells scope.names [])) fp
  have pe := he s3 (upd H2 D (.lst [])) s3.heap.objs.size (cellsFrom (s3.heap.objs.size + 1) scope.names (cloFrom X.env.cells scope.names [])) fp
  show codeAny _ _ (.compStart (.ListComp elt [⟨tg, iter, ifs, 0⟩] scope pos) 0 (.ref it) (.ref D) (compEnvC scope (cellsFrom (s3.heap.objs.size + 1) scope.names (cloFrom X.env.cells scope.names [])) s3.heap.objs.size X.env)) (compPost (model X.prog X.w) X.A X.xe use Qf (.ref D) s3.heap.objs.size) { s3 with heap := pushCells (s3.heap.push { cls := .type "dict", data := .dict #[] }) scope.names }
  have nfp : ∀ b ∈ fp, (upd H2 D (.lst [])) b = none := fun b hb => (f3 b hb).1.1
  generalize hce : compEnvC scope (cellsFrom (s3.heap.objs.size + 1) scope.names (cloFrom X.env.cells scope.names [])) s3.heap.objs.size X.env = ce at I4 pg pt pe ⊢
  have cL : ce.locals = s3.heap.objs.size := by subst hce; rfl
  generalize hH3 : upd H2 D (.lst []) = H3 at I3 I4 pg pt pe w0 nfp f3
  generalize hs4 : ({ s3 with heap := pushCells (s3.heap.push { cls := .type "dict", data := .dict #[] }) scope.names } : Shared) = s4 at I4 ⊢
  have st4 : tn 0 s4.heap := T.keep _ _ _ st3 fun b _ o e => by rw [← hs4]; exact pushCells_keeps _ _ _ _ (Heap.get?_push_of_some _ e)
  have stat : ∀ {σ' : St} {H' : Hp} {s' : Shared}, Inv (X.blk s3 H3 scope ce fp) [] σ' H' s' → (∀ b ∈ fp, H' b = none) → ∀ b ∈ fp, FpOk (X.blk s3 H3 scope ce fp) [] H' b := fun {σ' H' s'} I' hn b hb =>
    ⟨hn b hb, (I'.ok.exf b hb).1, I'.ok.exfs b hb, .inl hb, fun x c e => (I'.ok.exf b hb).2 x c e, fun p hp => absurd (show p ∈ ([] : List (Addr × Obj)) ++ [] from hp) (by simp)⟩
  have loop : codeAny (model X.prog X.w) X.A (.compLoop (.ListComp elt [⟨tg, iter, ifs, 0⟩] scope pos) 0 (.ref it) (.ref D) ce) (compPost (model X.prog X.w) X.A X.xe use Qf (.ref D) s3.heap.objs.size) s4 := by
    refine compLoop_any (fun n s' => ∃ i H', Inv (X.blk s3 H3 scope ce fp) [] (wipe σ (own.map (·.2))) H' s' ∧ tn i s'.heap ∧ (∀ b ∈ fp, H' b = none) ∧ W i n H') ?_ m0 ⟨0, H3, I4, st4, nfp, w0⟩
    rintro n s5 ⟨i, H5, I5, st5, n5, w5⟩
    rcases turn i n H5 w5 with ⟨stop, qq⟩ | ⟨go, Nx, hNx, step⟩
    · have td := T.done (X.blk s3 H3 scope ce fp) rfl rfl rfl hc i [] s5 _ H5 (fun _ _ => False) I5 (stat I5 n5) st5 stop
      refine thnF td fun r s6 ⟨hr, I6⟩ => ?_
      subst hr
      have I7 : Inv X pins σ H5 s6 := I3.call' (ch := fp) I6.os I6.base I6.hok I6.bare fun b hb => ⟨(f3 b hb).1.2.2.2.1, (f3 b hb).1.2.1, (f3 b hb).1.2.2.2.2.1, (f3 b hb).1.2.2.2.2.2⟩
      have nC : H5 s3.heap.objs.size = none := by
        have z : H5 ce.locals = none := I6.free
        rw [cL] at z
        exact z
      obtain ⟨m, hn, _⟩ := I6.loc
      have hn : s6.heap.Ns ce.locals m := hn
      rw [cL] at hn
      exact hRR D s3.heap.objs.size s6 m H5 I7 qq hn (I3.fpOk (Nat.le_refl _) nC)
    · have ti := T.item (X.blk s3 H3 scope ce fp) rfl rfl rfl hc i [] s5 _ H5 (fun _ _ => False) I5 (stat I5 n5) st5 go
      refine thnF ti fun r s6 ⟨u, hr, h6⟩ => ?_
      subst hr
      refine thnF h6 fun _ s7 ⟨x, H7, I7, r7, y7, st7, n7⟩ => ?_
      have I7' := I7.pinned (stat I7 n7) (T.obj _ _ st7)
      refine thnF (pg _ s7 _ H7 x u _ I7' r7 (step x H7 y7)) fun _ s8 ⟨σ8, H8, I8, hw8, q8⟩ => ?_
      refine thnF (pt _ s8 σ8 H8 _ I8 q8) fun b s9 ⟨H9, I9, q9⟩ => ?_
      have fin : ∀ {s' : Shared} {H' : Hp}, Inv (X.blk s3 H3 scope ce fp) ([] ++ pinsAt fp s7.heap) σ8 H' s' → Nx H' → ∃ m, m < n ∧ ∃ i H', Inv (X.blk s3 H3 scope ce fp) [] (wipe σ (own.map (·.2))) H' s' ∧ tn i s'.heap ∧ (∀ b ∈ fp, H' b = none) ∧ W i m H' := fun {s' H'} I' nx => by
        obtain ⟨m', hm, w'⟩ := hNx H' nx
        have pin' : ∀ b ∈ fp, ∀ o, s7.heap.get? b = some o → s'.heap.get? b = some o ∧ H' b = none := fun b hb o e =>
          let z := I'.pin (b, o) (List.mem_append_right _ (List.mem_append_right _ (mem_pinsAt hb e)))
          ⟨z.1, z.2.1⟩
        have hl : (wipe σ (own.map (·.2))).length = σ8.length := by rw [← hw8, wipe_length]
        refine ⟨m', hm, i + 1, H', (I'.unpinned (pins := [])).weak hl (fun j v e => ?_), T.keep _ _ _ st7 fun b hb o e => (pin' b hb o e).1, fun b hb => ?_, w'⟩
        · rw [← hw8] at e
          exact (wipe_some e).1
        · obtain ⟨o, e, _⟩ := T.obj _ _ st7 b hb
          exact (pin' b hb o e).2
      cases b with
      | false =>
        simp only [Bool.false_eq_true, if_false] at q9 ⊢
        exact fin I9 q9
      | true =>
        simp only [if_true] at q9 ⊢
        refine thnF (pe _ s9 σ8 H9 _ I9 q9) fun z s10 ⟨yv, H10, I10, r10, acc, hD10, hz10, nx⟩ => ?_
        exact app_ok (X := X.blk s3 H3 scope ce fp) I10 hD10 hz10 r10 fun s11 I11 => fin I11 nx
  exact codeAny_compStart_list loop (T.self X.A 0 _ _ _ st4 loop)
theorem pe_lc {elt tg iter : Expr} {ifs : List Expr} {scope : Scope} {own : List (Str × Nat)} {pos : Pos} {wi : TI} {g : TG} {tt : TT} {te : TE} (hc : X.calm = true) (hN : X.N.Nodup) (hi : PI X tg iter wi) (ok : BlkOk X.N X.env.scope scope own)
    (hg : ∀ (s : Shared) (H : Hp) (C : Addr) (cl : List (Str × Addr)) (fp : List Addr), PG (X.blk s H scope (compEnvC scope cl C X.env) fp) tg g) (ht : ∀ (s : Shared) (H : Hp) (C : Addr) (cl : List (Str × Addr)) (fp : List Addr), PTs (X.blk s H scope (compEnvC scope cl C X.env) fp) ifs tt)
    (he : ∀ (s : Shared) (H : Hp) (C : Addr) (cl : List (Str × Addr)) (fp : List Addr), PE (X.blk s H scope (compEnvC scope cl C X.env) fp) elt te) (hs : ∀ x, foldedSetIterable iter X.env x = pure x := by intro _; rfl) :
    PE X (.ListComp elt [⟨tg, iter, ifs, 0⟩] scope pos) (tLc wi g tt te (own.map (·.2))) := by
  intro pins s σ H Q I h
  rw [eval_ListComp]
  refine lc_core hc hN I hi ok hg ht he hs h fun D C s' m H' I' q hn f => ⟨m, hn, fun h'' sb => ?_⟩
  obtain ⟨f0, f1, f2, f3, f4, f5⟩ := f
  exact ⟨.ref D, H', I'.turned (t' := s'.toks) (fun b o hb e => (sb.2 b hb).trans e) f0 f1 f3 f4 f5, rfl, q⟩
end
theorem lc_range {lo : Int} {n : Nat} {g : TG} {tt : TT} {te : TE} {vs : List Nat} {σ : St} {H1 : Hp} {D : Addr} {Qd : Hp → Prop} (Pv : Nat → Hp → Prop) (h0 : Pv 0 (upd H1 D (.lst [])))
    (hs : ∀ i H, i < n → Pv i H → g (.int (lo + i)) (wipe σ vs) H fun σ2 H2 => wipe σ2 vs = wipe σ vs ∧ tt σ2 H2 fun b H3 =>
      if b = true then te σ2 H3 fun y H4 => ∃ acc, H4 D = some (.lst acc) ∧ acc.length < sizeLine ∧ Pv (i + 1) (upd H4 D (.lst (acc ++ [y]))) else Pv (i + 1) H3) (hd : ∀ H, Pv n H → Qd H) :
    ∃ W : Nat → Nat → Hp → Prop, (∃ m, W 0 m (upd H1 D (.lst []))) ∧ ∀ i m H, W i m H →
      ((Itr lo n).stop i H ∧ Qd H) ∨ ((Itr lo n).go i H ∧ ∃ Nx : Hp → Prop, (∀ H', Nx H' → ∃ m', m' < m ∧ W (i + 1) m' H') ∧ ∀ x H', (Itr lo n).yld i H x H' → g x (wipe σ vs) H' fun σ2 H2 => wipe σ2 vs = wipe σ vs ∧ tt σ2 H2 fun b H3 =>
        if b = true then te σ2 H3 fun y H4 => ∃ acc, H4 D = some (.lst acc) ∧ acc.length < sizeLine ∧ Nx (upd H4 D (.lst (acc ++ [y]))) else Nx H3) := by
  refine ⟨fun i m H => m = n - i ∧ i ≤ n ∧ Pv i H, ⟨n, by simp, Nat.zero_le _, h0⟩, ?_⟩
  rintro i m H ⟨rfl, hi, p⟩
  by_cases hlt : i < n
  · refine .inr ⟨hlt, Pv (i + 1), fun H' p' => ⟨n - (i + 1), by omega, rfl, hlt, p'⟩, fun x H' y => ?_⟩
    obtain ⟨e, y⟩ := y
    subst e y
    exact hs i _ hlt p
  · have e : i = n := by omega
    subst e
    exact .inl ⟨Nat.le_refl _, hd H p⟩
theorem lc_list {K : PySem.W.Frag} {a : Addr} {xs : List V} {g : TG} {tt : TT} {te : TE} {vs : List Nat} {σ : St} {H1 : Hp} {D : Addr} {Qd : Hp → Prop} (Pv : Nat → Hp → Prop) (h0 : Pv 0 (upd H1 D (.lst []))) (hl : ∀ i H, i ≤ xs.length → Pv i H → SqL K H a xs)
    (hs : ∀ i x H, xs[i]? = some x → Pv i H → g x (wipe σ vs) H fun σ2 H2 => wipe σ2 vs = wipe σ vs ∧ tt σ2 H2 fun b H3 =>
      if b = true then te σ2 H3 fun y H4 => ∃ acc, H4 D = some (.lst acc) ∧ acc.length < sizeLine ∧ Pv (i + 1) (upd H4 D (.lst (acc ++ [y]))) else Pv (i + 1) H3) (hd : ∀ H, Pv xs.length H → Qd H) :
    ∃ W : Nat → Nat → Hp → Prop, (∃ m, W 0 m (upd H1 D (.lst []))) ∧ ∀ i m H, W i m H →
      ((Itl K a).stop i H ∧ Qd H) ∨ ((Itl K a).go i H ∧ ∃ Nx : Hp → Prop, (∀ H', Nx H' → ∃ m', m' < m ∧ W (i + 1) m' H') ∧ ∀ x H', (Itl K a).yld i H x H' → g x (wipe σ vs) H' fun σ2 H2 => wipe σ2 vs = wipe σ vs ∧ tt σ2 H2 fun b H3 =>
        if b = true then te σ2 H3 fun y H4 => ∃ acc, H4 D = some (.lst acc) ∧ acc.length < sizeLine ∧ Nx (upd H4 D (.lst (acc ++ [y]))) else Nx H3) := by
  refine ⟨fun i m H => m = xs.length - i ∧ i ≤ xs.length ∧ Pv i H, ⟨xs.length, by simp, Nat.zero_le _, h0⟩, ?_⟩
  rintro i m H ⟨rfl, hi, p⟩
  have q := hl i H hi p
  by_cases hlt : i < xs.length
  · refine .inr ⟨⟨xs, xs[i], q, by simp [hlt]⟩, Pv (i + 1), fun H' p' => ⟨xs.length - (i + 1), by omega, rfl, hlt, p'⟩, fun x H' y => ?_⟩
    obtain ⟨e, y⟩ := y
    subst e
    exact hs i x _ (y xs q) p
  · have e : i = xs.length := by omega
    subst e
    exact .inl ⟨⟨xs, q, Nat.le_refl _⟩, hd H p⟩
theorem lc_tup {K : PySem.W.Frag} {a : Addr} {xs : List V} {g : TG} {tt : TT} {te : TE} {vs : List Nat} {σ : St} {H1 : Hp} {D : Addr} {Qd : Hp → Prop} (Pv : Nat → Hp → Prop) (h0 : Pv 0 (upd H1 D (.lst []))) (hl : ∀ i H, i ≤ xs.length → Pv i H → SqT K H a xs)
    (hs : ∀ i x H, xs[i]? = some x → Pv i H → g x (wipe σ vs) H fun σ2 H2 => wipe σ2 vs = wipe σ vs ∧ tt σ2 H2 fun b H3 =>
      if b = true then te σ2 H3 fun y H4 => ∃ acc, H4 D = some (.lst acc) ∧ acc.length < sizeLine ∧ Pv (i + 1) (upd H4 D (.lst (acc ++ [y]))) else Pv (i + 1) H3) (hd : ∀ H, Pv xs.length H → Qd H) :
    ∃ W : Nat → Nat → Hp → Prop, (∃ m, W 0 m (upd H1 D (.lst []))) ∧ ∀ i m H, W i m H →
      ((Itt K a).stop i H ∧ Qd H) ∨ ((Itt K a).go i H ∧ ∃ Nx : Hp → Prop, (∀ H', Nx H' → ∃ m', m' < m ∧ W (i + 1) m' H') ∧ ∀ x H', (Itt K a).yld i H x H' → g x (wipe σ vs) H' fun σ2 H2 => wipe σ2 vs = wipe σ vs ∧ tt σ2 H2 fun b H3 =>
        if b = true then te σ2 H3 fun y H4 => ∃ acc, H4 D = some (.lst acc) ∧ acc.length < sizeLine ∧ Nx (upd H4 D (.lst (acc ++ [y]))) else Nx H3) := by
  refine ⟨fun i m H => m = xs.length - i ∧ i ≤ xs.length ∧ Pv i H, ⟨xs.length, by simp, Nat.zero_le _, h0⟩, ?_⟩
  rintro i m H ⟨rfl, hi, p⟩
  have q := hl i H hi p
  by_cases hlt : i < xs.length
  · refine .inr ⟨⟨xs, xs[i], q, by simp [hlt]⟩, Pv (i + 1), fun H' p' => ⟨xs.length - (i + 1), by omega, rfl, hlt, p'⟩, fun x H' y => ?_⟩
    obtain ⟨e, y⟩ := y
    subst e
    exact hs i x _ (y xs q) p
  · have e : i = xs.length := by omega
    subst e
    exact .inl ⟨⟨xs, q, Nat.le_refl _⟩, hd H p⟩
def blkC (N : List Str) (sc scope : Scope) (own : List (Str × Nat)) : Bool :=
  (match scope.kind with | .function => true | _ => false) && (scope.names.all fun y => decide (scope.names.lookup y.1 = some y.2)) && (own.all fun p => decide (N[p.2]? = some p.1)) &&
    (scope.names.all fun y => match y.2 with
      | .free => (match sc.names.lookup y.1 with | some .cell => true | some .free => true | _ => false)
      | .local => decide (y.1 ∈ own.map (·.1)) || decide (y.1 ∉ N)
      | .cell => decide (y.1 ∈ own.map (·.1)) || decide (y.1 ∉ N)
      | _ => true)
theorem blkOk_by {N : List Str} {sc scope : Scope} {own : List (Str × Nat)} (h : blkC N sc scope own = true) : BlkOk N sc scope own := by
  unfold blkC at h
  simp only [Bool.and_eq_true, List.all_eq_true, decide_eq_true_eq] at h
  obtain ⟨⟨⟨h1, h2⟩, h3⟩, h4⟩ := h
  refine ⟨?_, h2, h3, fun y hy e => ?_, fun y hy e => ?_⟩
  · split at h1
    · assumption
    · cases h1
  · have q := h4 y hy
    simp only [e] at q
    split at q <;> first | exact .inl (by assumption) | exact .inr (by assumption) | cases q
  · have q := h4 y hy
    rcases e with e | e <;> (simp only [e, Bool.or_eq_true, decide_eq_true_eq] at q; exact q)
end L2
namespace L2
open PySem PySem.Spec PyProof.Rows
section
variable {κ : Type} [DecidableEq κ]
def valV (kvs : List (κ × V)) (k : κ) : Option V := (kvs.find? fun kv => decide (kv.1 = k)).map (·.2)
theorem valV_pos {p : κ × V} {r : List (κ × V)} {k : κ} (e : p.1 = k) : valV (p :: r) k = some p.2 := by simp [valV, List.find?_cons, e]
theorem valV_neg {p : κ × V} {r : List (κ × V)} {k : κ} (e : ¬ p.1 = k) : valV (p :: r) k = valV r k := by simp [valV, List.find?_cons, e]
theorem RelO.isSome_eq {o : Option V} {u : Option Value} (r : RelO o u) : o.isSome = u.isSome := by
  cases o with
  | none => cases u with
    | none => rfl
    | some _ => exact (show False from r).elim
  | some _ => cases u with
    | none => exact (show False from r).elim
    | some _ => rfl
theorem KV.val {kvs : List (κ × V)} {vs : List (κ × Value)} (r : KV kvs vs) (k : κ) : RelO (valV kvs k) (valueAt vs k) := by
  unfold KV at r
  induction r with
  | nil => exact True.intro
  | @cons p q ps qs h t ih =>
    obtain ⟨h1, h2⟩ := h
    by_cases e : p.1 = k
    · have e' : q.1 = k := h1.symm.trans e
      have b : valueAt (q :: qs) k = some q.2 := by simp [valueAt, List.find?_cons, e']
      rw [valV_pos e, b]; exact h2
    · have e' : ¬ q.1 = k := fun z => e (h1.trans z)
      have b : valueAt (q :: qs) k = valueAt qs k := by simp [valueAt, List.find?_cons, e']
      rw [valV_neg e, b]; exact ih
end
theorem kV_is {P : Program} {w : World} {k : Key} {u : Value} (r : RelV (kV k) u) : (mixKind P w).is k u = true := by
  cases k with
  | inl i => obtain ⟨t, e⟩ := (show ∃ t, u = Value.int i t from r); subst e; exact mixKind_int P w i t
  | inr x => obtain ⟨t, e⟩ := (show ∃ t, u = Value.str x t from r); subst e; exact mixKind_str P w x t
def NoSl (i : Expr) : Prop := ∀ ov iv, subscripted i false ov iv = operate [ov, iv] (getItem ov iv)
theorem subD_of {prog : Program} {w : World} {A : Around} {E : Value → Shared → Prop} {s : Shared} {env : Env} {value slice : Expr} {pos : Pos} {T id : String} {Q : Value → Shared → Prop}
    (hl : typeLookup (.type T) "__getitem__" = pure (some (.builtin id))) (hs : NoSl slice)
    (h : wpAny (model prog w) A (eval value env) (fun o s₁ => wpAny (model prog w) A (eval slice env) (fun i s₂ => s₂.TypeIs o T ∧ wpAny (model prog w) A (getItem o i) Q E s₂) E s₁) E s) :
    wpAny (model prog w) A (eval (.Subscript value slice pos) env) Q E s := by
  refine Subscript_ (wpAny_mono h (fun o s₁ h₁ => wpAny_mono h₁ (fun i s₂ h₂ => ?_) fun _ _ x => x) fun _ _ x => x)
  obtain ⟨hT, h₂⟩ := h₂
  unfold subscriptTail
  refine wpAny_bind ?_
  rw [getitemInPython_of_ne hT.not_modules]
  refine wpAny_bind (wpAny_specialOf hT hl ?_)
  have fin : wpAny (model prog w) A (subscripted slice false o i) (fun r s₃ => wpAny (model prog w) A (letTemporaryGo value o r >>= fun _ => pure r) Q E s₃) E s₂ := by
    rw [hs o i]
    exact wpAny_operating (wpAny_mono h₂ (fun r s₃ h₃ => wpAny_bind (wpAny_letTemporaryGo (wpAny_pure h₃))) fun _ _ x => x)
  first
    | exact wpAny_pure (wpAny_bind fin)
    | exact wpAny_bind (wpAny_pure (wpAny_bind fin))
    | exact wpAny_bind fin
end L2
namespace L2
open PySem PySem.Spec PyProof.Rows
section
variable {X : Cx} {pins : List (Addr × Obj)} {σ : St} {H : Hp} {s : Shared} {h' : Heap}
theorem Inv.turnedL {t' : Nat} {ch : List Addr} (I : Inv X pins σ H s) (k : ∀ b o, b ∉ ch → s.heap.get? b = some o → h'.get? b = some o) (hf : ∀ b ∈ ch, FpOk X pins H b) : Inv X pins σ H { s with heap := h', toks := t' } := by
  have nit : ∀ b u, H b = some u → b ∉ ch := fun b u e z => by
    have q := (hf b z).1
    rw [q] at e; cases e
  refine I.step (g' := s.gens) (d' := s.drawn) (ch := ch) (fun b hb => ⟨(hf b hb).2.2.2.1, (hf b hb).2.1, (hf b hb).2.2.2.2.1, (hf b hb).2.2.2.2.2⟩) (fun b o _ _ hc e _ => k b o hc e) (fun b o _ _ hc e _ => ⟨o.slots, k b o hc e⟩)
    (fun _ _ _ _ n => n) (fun b o hc e => ⟨o, k b o hc e⟩) (fun _ _ e => e) (fun _ _ _ e => e) (fun b ps e => ⟨#[], by rw [e]; simp⟩) (fun m hm => ?_) (fun b u e => ?_) I.bare
  · obtain ⟨o, es, ep, ho, r⟩ := hm
    exact ⟨o, es, ep, k _ o (fun z => (hf _ z).2.1 rfl) ho, r⟩
  · refine (I.hok b u e).stay (fun c v hc q => k c v ?_ q) (fun _ q => q) fun _ _ q => q
    rcases hc with z | z
    · rw [z]; exact nit b u e
    · exact nit c _ z
theorem Inv.turnedNew {t' : Nat} {ch : List Addr} {T : Addr} {ob : HO} (I : Inv X pins σ H s) (k : ∀ b o, b ∉ ch → s.heap.get? b = some o → h'.get? b = some o) (hf : ∀ b ∈ ch, FpOk X pins H b) (hT : s.heap.objs.size ≤ T)
    (new : ObjOk X.prog X.w (upd H T ob) h' T ob) : Inv X pins σ (upd H T ob) { s with heap := h', toks := t' } := by
  have hn : H T = none := I.hok.fresh hT
  have nit : ∀ b u, H b = some u → b ∉ ch := fun b u e z => by
    have q := (hf b z).1
    rw [q] at e; cases e
  refine I.step (g' := s.gens) (d' := s.drawn) (ch := ch) (fun b hb => ⟨(hf b hb).2.2.2.1, (hf b hb).2.1, (hf b hb).2.2.2.2.1, (hf b hb).2.2.2.2.2⟩) (fun b o _ _ hc e _ => k b o hc e) (fun b o _ _ hc e _ => ⟨o.slots, k b o hc e⟩)
    (fun b o _ e n => ?_) (fun b o hc e => ⟨o, k b o hc e⟩) (fun b xs e => ?_) (fun b o u e => ?_) (fun b ps e => ⟨#[], ?_⟩) (fun m hm => ?_) (fun b u e => ?_) I.bare
  · rw [upd_ne (Nat.ne_of_lt (Nat.lt_of_lt_of_le (Heap.lt_size e) hT))]; exact n
  · rw [upd_ne (ne_of_none e hn)]; exact e
  · rw [upd_ne (ne_of_none e hn)]; exact e
  · rw [upd_ne (ne_of_none e hn), e]; simp
  · obtain ⟨o, es, ep, ho, r⟩ := hm
    exact ⟨o, es, ep, k _ o (fun z => (hf _ z).2.1 rfl) ho, r⟩
  · by_cases hb : b = T
    · subst hb
      rw [upd_same] at e
      cases e
      exact new
    · rw [upd_ne hb] at e
      refine (I.hok b u e).stay (fun c v hc q => k c v ?_ q) (fun c q => by rw [upd_ne (ne_of_none q hn)]; exact q) fun c xs q => by rw [upd_ne (ne_of_none q hn)]; exact q
      rcases hc with z | z
      · rw [z]; exact nit b u e
      · exact nit c _ z
end
def Ite (K : PySem.W.Frag) (a : Addr) : It :=
  ⟨fun i H => ∃ (xs : List V) (x : V), SqL K H a xs ∧ xs[i]? = some x, fun i H v H' => ∃ T x, v = .ref T ∧ H T = none ∧ H' = upd H T (.tup [.int (i : Nat), x]) ∧ ∀ xs, SqL K H a xs → xs[i]? = some x, fun i H => ∃ xs : List V, SqL K H a xs ∧ xs.length ≤ i⟩
theorem turn_enum {P : Program} {w : World} {K : PySem.W.Frag} {elts : List Expr} {kk : Nat} {tpos : Pos} (a e it : Addr) :
    Turn P w K (.Tuple elts kk tpos) (Ite K a) [e, it] e (fun i h => (∃ old, IsEnum h e it ((i : Nat) : Int) old) ∧ h.IsListIter it a i ∧ e ≠ it) where
  mem := by simp
  obj := fun i h st b hb => by
    obtain ⟨⟨old, he⟩, ⟨o, ho, hc, hd⟩, _⟩ := st
    have e' : b = e ∨ b = it := by simpa using hb
    rcases e' with z | z
    · rw [z]; exact ⟨_, he, fun v q => nomatch q⟩
    · rw [z]; exact ⟨o, ho, fun v q => by rw [hd] at q; cases q⟩
  keep := fun i h h' st k => let ⟨⟨old, he⟩, hi, hne⟩ := st; ⟨⟨old, k e (by simp) _ he⟩, hi.at fun o q => k it (by simp) o q, hne⟩
  item := by
    intro X hP hw hK hc i pins s σ H E I hf st hg
    subst hP hw hK
    obtain ⟨⟨old, he⟩, hit, hne⟩ := st
    obtain ⟨xs, x, hq, hx⟩ := hg
    obtain ⟨its, rv, p, hz⟩ := I.list hq
    obtain ⟨u, hu, ru⟩ := rv.get hx
    have hel : e < s.heap.objs.size := Heap.lt_size he
    have hil : it < s.heap.objs.size := by obtain ⟨_, q, _⟩ := hit; exact Heap.lt_size q
    refine wpAny_pyNext_enum_item he hit p.isList (x := u) (by simpa using hu) hne fun h' ho hit' hT hsz hk => ?_
    refine ⟨_, rfl, wpAny_letOwnedTupleGo_enum (s := { s with heap := h', toks := s.toks + 1 }) ho fun h'' he' sb => ?_⟩
    have hT2 : h''.get? s.heap.objs.size = some { cls := .type "tuple", data := .seq #[.int i s.toks, u] } := (sb.2 _ (Nat.ne_of_gt hel)).trans hT
    have new : ObjOk X.prog X.w (upd H s.heap.objs.size (.tup [.int (i : Nat), x])) h'' s.heap.objs.size (.tup [.int (i : Nat), x]) :=
      ⟨by show 2 ≤ sizeLine; decide, [.int i s.toks, u], .cons ⟨_, rfl⟩ (.cons ru .nil), ⟨_, hT2, rfl, _, rfl⟩⟩
    have I1 : Inv X pins σ (upd H s.heap.objs.size (.tup [.int (i : Nat), x])) { s with heap := h'', toks := s.toks + 1 } :=
      I.turnedNew (ch := [e, it]) (fun b ob hb q => (sb.2 b (fun z => hb (by simp [z]))).trans (hk b ob (fun z => hb (by simp [z])) (fun z => hb (by simp [z])) q)) hf (Nat.le_refl _) new
    refine ⟨.ref s.heap.objs.size, _, I1, rfl, ⟨_, x, rfl, I.hok.fresh (Nat.le_refl _), rfl, fun ys hy => by rw [I.list_inj hy hq]; exact hx⟩, ⟨⟨u, ?_⟩, hit'.at fun o q => (sb.2 it (Ne.symm hne)).trans q, hne⟩, fun b hb => ?_⟩
    · have e1 : ((i + 1 : Nat) : Int) = (i : Int) + 1 := by omega
      rw [e1]; exact he'
    · have hb' : b < s.heap.objs.size := by
        have e' : b = e ∨ b = it := by simpa using hb
        rcases e' with z | z
        · rw [z]; exact hel
        · rw [z]; exact hil
      rw [upd_ne (Nat.ne_of_lt hb')]
      exact (hf b hb).1
  done := by
    intro X hP hw hK hc i pins s σ H E I hf st hg
    subst hP hw hK
    obtain ⟨⟨old, he⟩, hit, hne⟩ := st
    obtain ⟨xs, hq, hx⟩ := hg
    obtain ⟨its, rv, p, hz⟩ := I.list hq
    obtain ⟨f0, f1, f2, f3, f4, f5⟩ := hf it (by simp)
    have hl := rv.length
    exact wpAny_pyNext_enum_end (I.ok.hd hc) he hit p.isList (by simp; omega) fun h' eb => ⟨rfl, I.turned (t' := s.toks) (fun b o hb q => eb b o hb q) f0 f1 f3 f4 f5⟩
  self := fun A i s Q E st h => let ⟨⟨_, he⟩, _⟩ := st; wpAny_pyIter_enum he h
def iEnum (K : PySem.W.Frag) (ta : TA) : TI := fun σ H R => ta σ H fun vs H1 => ∃ a xs, vs = [.ref a] ∧ SqL K H1 a xs ∧ R (Ite K a) H1
theorem pi_enum {X : Cx} {e : Expr} {ta : TA} {p pos tpos : Pos} {elts : List Expr} {kk : Nat} (hg : Gl X "enumerate") (hm : X.mg "enumerate" = none) (ha : PA X [e] ta) (hs : starEach [e] X.env = [(false, eval e X.env)] := by rfl) :
    PI X (.Tuple elts kk tpos) (.Call (.Name "enumerate" p) [e] [] pos) (iEnum X.K ta) := by
  intro pins s σ H R I h
  refine Call_ (ld_blt I hg hm boot_enumerate (PyProof.Rows.callWith_type1 (thn (ha pos pins s σ H _ I h) fun us s1 ⟨vs, H1, I1, r1, q1⟩ => ?_) hs rfl))
  obtain ⟨a, xs, ex, hq, q⟩ := q1
  subst ex
  cases r1 with
  | cons r rr =>
    cases rr
    cases r
    obtain ⟨its, rv, p', hz⟩ := I1.list hq
    refine call_enumerate_list p'.isList fun h' he hit hsz hk => wpAny_pyIter_enum he ?_
    have I2 : Inv X pins σ H1 { s1 with heap := h' } := I1.kept (t' := s1.toks) hk
    refine ⟨s1.heap.objs.size + 1, [s1.heap.objs.size + 1, s1.heap.objs.size], _, _, H1, rfl, I2, turn_enum a (s1.heap.objs.size + 1) s1.heap.objs.size, ⟨⟨.none, he⟩, hit, Nat.succ_ne_self _⟩, fun b hb => ?_, q⟩
    have e' : b = s1.heap.objs.size + 1 ∨ b = s1.heap.objs.size := by simpa using hb
    have hle : s1.heap.objs.size ≤ b := by
      rcases e' with z | z
      · rw [z]; exact Nat.le_add_right _ _
      · rw [z]; exact Nat.le_refl _
    exact I1.fpOk hle (I1.hok.fresh hle)
theorem boot_zip5 : bootBuiltins "zip" = some (.type "zip") := by decide +kernel
end L2
section 
namespace Bits
open PySem PyProof.Rows
theorem bitOr_pp {x y : Int} (hx : 0 ≤ x) (hy : 0 ≤ y) : Builtin.bitOr x y = ((x.toNat ||| y.toNat : Nat) : Int) := by
  have e := nat_or_add_and x.toNat y.toNat
  rw [bitOr_and, bitAnd_pp hx hy]
  omega
end Bits
end 
namespace L2
open PySem PySem.Spec PyProof.Rows
def inClass (s : Stmt) (j : Nat) : Stmt := match s with
  | .ClassDef _ _ _ body _ _ _ _ _ _ _ => body.getD j (.Pass ⟨0, 0, 0, 0⟩)
  | _ => .Pass ⟨0, 0, 0, 0⟩
def defArgs (s : Stmt) : Arguments := match s with
  | .FunctionDef _ a _ _ _ _ _ _ _ _ => a
  | _ => { posonlyargs := [], args := [], vararg := none, kwonlyargs := [], kw_defaults := [], kwarg := none, defaults := [] }
def defBody (s : Stmt) : List Stmt := match s with
  | .FunctionDef _ _ b _ _ _ _ _ _ _ => b
  | _ => []
def defScope (s : Stmt) : Scope := match s with
  | .FunctionDef _ _ _ _ _ _ sc _ _ _ => sc
  | _ => { kind := .function, names := [], isGenerator := false, isCoroutine := false }
abbrev CX0 : CXT := fun _ _ _ _ _ _ => False
abbrev E0 : XK := fun _ _ _ => False
theorem pass0 {X : Cx} : Passes CX0 X E0 := fun _ _ _ _ _ _ _ h => h.elim
structure Fun (K : PySem.W.Frag) (x qual : Str) (st : Stmt) (f : Addr) (fd : FuncData) : Prop where
  ex : ∃ (oc : Value) (od : Option Addr) (kV doc pm : Value) (an : Option Addr) (cdv ct : Value) (osl : Array (Option Value)),
    fd = PySem.W.fnOf x qual (defArgs st) (defBody st) (defScope st) .none kV doc pm an cdv ct ∧ K.lookup f = some ⟨oc, od, .func fd, osl⟩ ∧ PySem.W.codeIn K cdv qual = true
  kp : PySem.W.keepIn K (.ref f) = true
section
variable {P : Program} {w : World} {K : PySem.W.Frag} {mg : Str → Option Value} {base : Heap}
theorem Fun.ok {x qual : Str} {st : Stmt} {f : Addr} {fd : FuncData} {N ps : List Str} {k : Nat} {sp : Sp} (F : Fun K x qual st f fd) (S : FnScope N ps (defScope st)) (len : ∀ vs H Q E, sp vs H Q E → vs.length = ps.length)
    (hbody : ∀ (cdv : Value) (A : Around) (outer : List Env) (s : Shared) (H : Hp) (vs : List V) (Q : VK) (E : XK), Room k (A.deeper (envOfC qual (defScope st) s.heap.objs.size f cdv)) → sp vs H Q E →
      ∃ t, PSs (cxOf CX0 P w K mg base N qual (defScope st) f cdv A outer s H E).nox (defBody st) t ∧ t { nx := fun _ H' => Q .non H', rt := Q } (start N vs) H) : FnOk P w K mg base CX0 (k + 1) f fd ps sp := by
  obtain ⟨oc, od, kV, doc, pm, an, cdv, ct, osl, rfl, lk, hcd⟩ := F.ex
  refine fn_of lk hcd S len fun A outer s H vs Q E hr hsp => ?_
  obtain ⟨t, h, q⟩ := hbody cdv A outer s H vs Q E hr hsp
  exact ⟨t, h.nox, q⟩
theorem Fun.binds {x qual : Str} {st : Stmt} {f : Addr} {fd : FuncData} {ps : List Str} (F : Fun K x qual st f fd)
    (h : ∀ (kV doc pm : Value) (an : Option Addr) (cdv ct : Value) (us : List Value), us.length = ps.length → bindArgs (PySem.W.fnOf x qual (defArgs st) (defBody st) (defScope st) .none kV doc pm an cdv ct) ⟨us, []⟩ = pure (ps.zip us)) : Binds K fd ps [] := by
  obtain ⟨oc, od, kV, doc, pm, an, cdv, ct, osl, rfl, lk, hcd⟩ := F.ex
  exact .all (h kV doc pm an cdv ct)
theorem fun_mk {x qual : Str} {st : Stmt} {f : Addr} {oc : Value} {od an : Option Addr} {osl : Array (Option Value)} {kV doc pm cdv ct : Value} (l : K.lookup f = some ⟨oc, od, .func (PySem.W.fnOf x qual (defArgs st) (defBody st) (defScope st) .none kV doc pm an cdv ct), osl⟩)
    (c : PySem.W.codeIn K cdv qual = true) (k : PySem.W.keepIn K (.ref f) = true) : Fun K x qual st f (PySem.W.fnOf x qual (defArgs st) (defBody st) (defScope st) .none kV doc pm an cdv ct) := ⟨⟨oc, od, kV, doc, pm, an, cdv, ct, osl, rfl, l, c⟩, k⟩
end
section
variable {X : Cx}
theorem pv (i : Nat) {x : Str} {pos : Pos} (hN : X.N[i]? = some x := by rfl) (hv : Vis X.env.scope x := by first | exact Or.inl rfl | exact Or.inr (Or.inl rfl) | exact Or.inr (Or.inr rfl)) (hd : (x == ("__debug__" : Str)) = false := by decide)
    (hcd : (x == ("__classdict__" : Str)) = false := by decide) : PE X (.Name x pos) (tVar i) := pe_var hN hv hd hcd
end
theorem iteF {A B : Prop} (h : B) : if false = true then A else B := by
  rw [if_neg Bool.false_ne_true]
  exact h
def Same (H H' : Hp) : Prop := ∀ b o, H b = some o → H' b = some o
theorem Same.refl (H : Hp) : Same H H := fun _ _ h => h
theorem Same.trans {H H1 H2 : Hp} (a : Same H H1) (b : Same H1 H2) : Same H H2 := fun c o h => b c o (a c o h)
theorem Same.free {H H' : Hp} (e : Same H H') {l : Addr} (h : H' l = Option.none) : H l = Option.none := by
  cases q : H l with
  | none => rfl
  | some o =>
    rw [e l o q] at h
    cases h
theorem Same.seq {K : PySem.W.Frag} {H H' : Hp} {a : Addr} {xs : List V} (e : Same H H') (h : SqL K H a xs) : SqL K H' a xs := by
  rcases h with (h | ⟨o, h⟩) | h
  · exact .inl (.inl (e _ _ h))
  · exact .inl (.inr ⟨o, e _ _ h⟩)
  · exact .inr h
theorem Same.made {H H1 : Hp} {x dx C : Addr} (nx : H x = Option.none) (nd : H dx = Option.none) (k : ∀ b o, (upd (upd H dx (.own x)) x (.ins C dx [])) b = some o → b ≠ x → H1 b = some o) : Same H H1 := fun b o e =>
  k b o (by rw [upd_ne (ne_of_none e nx), upd_ne (ne_of_none e nd)]; exact e) (ne_of_none e nx)
end L2
section
namespace L2
open PySem PySem.Spec PyProof.Rows
open PySem.W (WData Codec OpenSpec Well WellAll ReadsW ReadsAllW)
mutual
inductive Dw (K : PySem.W.Frag) (H : Hp) : V → WData → Prop
  | non : Dw K H .non .none
  | bl (b : Bool) : Dw K H (.bl b) (.bool b)
  | int (i : Int) : Dw K H (.int i) (.int i)
  | str (x : Str) : Dw K H (.str x) (.str x)
  | byt (b : Array UInt8) : Dw K H (.byt b) (.bytes b.toList)
  | lst {a : Addr} {xs : List V} {ds : List WData} : SqL K H a xs → DwAll K H xs ds → Dw K H (.ref a) (.list ds)
  | tup {a : Addr} {xs : List V} {ds : List WData} : SqT K H a xs → DwAll K H xs ds → Dw K H (.ref a) (.tuple ds)
inductive DwAll (K : PySem.W.Frag) (H : Hp) : List V → List WData → Prop
  | nil : DwAll K H [] []
  | cons {v : V} {vs : List V} {d : WData} {ds : List WData} : Dw K H v d → DwAll K H vs ds → DwAll K H (v :: vs) (d :: ds)
end
theorem dw_ints {K : PySem.W.Frag} {H : Hp} : ∀ ns : List Int, DwAll K H (ns.map V.int) (ns.map WData.int)
  | [] => .nil
  | n :: r => .cons (.int n) (dw_ints r)
theorem ints_dw {K : PySem.W.Frag} {H : Hp} : ∀ (ns : List Int) (xs : List V), DwAll K H xs (ns.map WData.int) → xs = ns.map V.int
  | [], xs, h => by
    cases h
    rfl
  | n :: r, xs, h => by
    cases h with
    | cons h1 h2 =>
      cases h1
      rw [ints_dw r _ h2] <;> rfl
section
variable {P : Program} {w : World} {K : PySem.W.Frag} {H : Hp} {h : Heap} {R : PySem.W.WRecords} {cl : Str → Option Addr}
theorem sqL_at {a : Addr} {xs : List V} (hok : HOk P w H h) (KX : K.In h) (q : SqL K H a xs) : ∃ (its : List Value) (o : Obj) (n : Nat), Vals xs its ∧ h.get? a = some o ∧ o.cls = .type "list" ∧ o.data = .seq its.toArray n := by
  rcases q with q | ⟨o, its, n, e, hc, _, hd, _, hv⟩
  · obtain ⟨_, its, n, hv, e⟩ := (show ObjOk P w H h a (.lst xs) from q.ok hok)
    exact ⟨its, _, n, hv, e, rfl, rfl⟩
  · exact ⟨its.toList, o, n, hv, KX _ _ e, hc, by simp [hd]⟩
theorem sqT_at {a : Addr} {xs : List V} (hok : HOk P w H h) (KX : K.In h) (q : SqT K H a xs) : ∃ (its : List Value) (o : Obj) (n : Nat), Vals xs its ∧ h.get? a = some o ∧ o.cls = .type "tuple" ∧ o.data = .seq its.toArray n := by
  rcases q with q | ⟨o, its, n, e, hc, hd, _, hv⟩
  · obtain ⟨_, its, hv, o, e, hc, n, hd⟩ := (show ObjOk P w H h a (.tup xs) from q.ok hok)
    exact ⟨its, o, n, hv, e, hc, hd⟩
  · exact ⟨its.toList, o, n, hv, KX _ _ e, hc, by simp [hd]⟩
mutual
theorem Dw.reads (hok : HOk P w H h) (KX : K.In h) : ∀ (d : WData) (v : V) (u : Value), Dw K H v d → RelV v u → ∃ as, ReadsW R cl h u d as
  | .none, _, _, x, r => by
    cases x
    cases r
    exact ⟨_, ReadsW.none⟩
  | .bool b, _, _, x, r => by
    cases x
    cases r
    exact ⟨_, ReadsW.bool b⟩
  | .int i, _, _, x, r => by
    cases x
    obtain ⟨t, rfl⟩ := r
    exact ⟨_, ReadsW.int i t⟩
  | .str s, _, _, x, r => by
    cases x
    obtain ⟨t, rfl⟩ := r
    exact ⟨_, ReadsW.str s t⟩
  | .bytes b, _, _, x, r => by
    cases x
    obtain ⟨t, rfl⟩ := r
    exact ⟨_, ReadsW.bytes _ t⟩
  | .list ds, _, _, x, r => by
    cases x with
    | lst hs ha =>
      cases r
      obtain ⟨its, o, n, rv, ho, hc, hd⟩ := sqL_at hok KX hs
      obtain ⟨as, hr⟩ := Dw.readsAll hok KX ds _ its ha rv
      exact ⟨_, ReadsW.list ho hc hd hr⟩
  | .tuple ds, _, _, x, r => by
    cases x with
    | tup hs ha =>
      cases r
      obtain ⟨its, o, n, rv, ho, hc, hd⟩ := sqT_at hok KX hs
      obtain ⟨as, hr⟩ := Dw.readsAll hok KX ds _ its ha rv
      exact ⟨_, ReadsW.tuple ho hc hd hr⟩
  | .float _, _, _, x, _ => by cases x
  | .dict _, _, _, x, _ => by cases x
  | .bytearray _, _, _, x, _ => by cases x
  | .set _, _, _, x, _ => by cases x
  | .frozenset _, _, _, x, _ => by cases x
  | .obj _ _, _, _, x, _ => by cases x
theorem Dw.readsAll (hok : HOk P w H h) (KX : K.In h) : ∀ (ds : List WData) (vs : List V) (us : List Value), DwAll K H vs ds → Vals vs us → ∃ as, ReadsAllW R cl h us ds as
  | [], _, _, x, r => by
    cases x
    cases r
    exact ⟨_, ReadsAllW.nil⟩
  | d :: ds, _, _, x, r => by
    cases x with
    | cons h1 h2 =>
      cases r with
      | cons r1 r2 =>
        obtain ⟨as, q1⟩ := Dw.reads hok KX d _ _ h1 r1
        obtain ⟨bs, q2⟩ := Dw.readsAll hok KX ds _ _ h2 r2
        exact ⟨_, ReadsAllW.cons q1 q2⟩
end
end
mutual
def plW : WData → Bool
  | .none => true
  | .bool _ => true
  | .int _ => true
  | .str _ => true
  | .bytes _ => true
  | .list xs => plWs xs
  | .tuple xs => plWs xs
  | _ => false
def plWs : List WData → Bool
  | [] => true
  | x :: r => plW x && plWs r
end
theorem plWs_map {α : Type} {f : α → WData} (h : ∀ a, plW (f a) = true) : ∀ l : List α, plWs (l.map f) = true
  | [] => rfl
  | x :: r => by
    show (plW (f x) && plWs (r.map f)) = true
    rw [h x, plWs_map h r] <;> rfl
theorem pl_enc : ∀ (c : Codec) (a : c.denote), plW (c.enc a) = true
  | .unit, _ => rfl
  | .bool, _ => rfl
  | .int _ _, _ => rfl
  | .nat _ _, _ => rfl
  | .u8, _ => rfl
  | .bytes _ _, _ => rfl
  | .text _ _ _ _, _ => rfl
  | .list _ _ c, a => plWs_map (fun x => pl_enc c x) a
  | .pair c d, a => by
    show (plW (c.enc a.1) && (plW (d.enc a.2) && true)) = true
    rw [pl_enc c a.1, pl_enc d a.2] <;> rfl
  | .triple c d e, a => by
    show (plW (c.enc a.1) && (plW (d.enc a.2.1) && (plW (e.enc a.2.2) && true))) = true
    rw [pl_enc c a.1, pl_enc d a.2.1, pl_enc e a.2.2] <;> rfl
  | .option c, none => rfl
  | .option c, some x => pl_enc c x
theorem pl_encAll : ∀ (cs : List Codec) (a : Codec.denoteAll cs), plWs (Codec.encAll cs a) = true
  | [], _ => rfl
  | c :: cs, a => by
    show (plW (c.enc a.1) && plWs (Codec.encAll cs a.2)) = true
    rw [pl_enc c a.1, pl_encAll cs a.2] <;> rfl
theorem weight_mem : ∀ {xs : List WData} {d : WData}, d ∈ xs → d.weight ≤ WData.weightAll xs
  | [], d, h => absurd h (by simp)
  | x :: r, d, h => by
    show d.weight ≤ x.weight + 1 + WData.weightAll r
    rcases List.mem_cons.mp h with e | m
    · rw [e]
      omega
    · have z := weight_mem m
      omega
def toV : Value → V
  | .none => .non
  | .bool b => .bl b
  | .int i _ => .int i
  | .str x _ => .str x
  | .bytes b _ => .byt b
  | .ref a => .ref a
  | _ => .non
def OkU (A : List Addr) : Value → Prop
  | .none => True
  | .bool _ => True
  | .int _ _ => True
  | .str _ _ => True
  | .bytes _ _ => True
  | .ref a => a ∈ A
  | _ => False
theorem OkU.mono {A B : List Addr} (h : ∀ a ∈ A, a ∈ B) : ∀ {u : Value}, OkU A u → OkU B u := fun {u} x => by
  cases u with
  | ref a => exact h a x
  | none => trivial
  | bool b => trivial
  | int i t => trivial
  | str s t => trivial
  | bytes b t => trivial
  | _ => exact False.elim x
theorem relV_toV {A : List Addr} {u : Value} (x : OkU A u) : RelV (toV u) u := by
  cases u with
  | ref a => rfl
  | none => rfl
  | bool b => rfl
  | int i t => exact ⟨t, rfl⟩
  | str s t => exact ⟨t, rfl⟩
  | bytes b t => exact ⟨t, rfl⟩
  | _ => exact False.elim x
theorem vals_toV {A : List Addr} : ∀ {vs : List Value}, (∀ u ∈ vs, OkU A u) → Vals (vs.map toV) vs
  | [], _ => .nil
  | u :: r, h => .cons (relV_toV (h u (List.mem_cons_self ..))) (vals_toV fun x hx => h x (List.mem_cons_of_mem _ hx))
def ArgOb (h : Heap) (A : List Addr) (a : Addr) : Prop := ∃ vs : List Value, vs.length ≤ sizeLine ∧ (∀ u ∈ vs, OkU A u) ∧
  (h.get? a = some { cls := .type "list", data := .seq vs.toArray } ∨ h.get? a = some { cls := .type "tuple", data := .seq vs.toArray })
theorem ArgOb.mono {h : Heap} {A B : List Addr} {a : Addr} (k : ∀ a ∈ A, a ∈ B) (x : ArgOb h A a) : ArgOb h B a := by
  obtain ⟨vs, h1, h2, h3⟩ := x
  exact ⟨vs, h1, fun u hu => (h2 u hu).mono k, h3⟩
theorem wellAll_len {P : Params} {h : Heap} : ∀ {vs : List Value} {ds : List WData}, WellAll P h vs ds → vs.length = ds.length
  | _, _, .nil => rfl
  | _, _, .cons _ b => by
    show _ + 1 = _ + 1
    rw [wellAll_len b]
theorem well_list {P : Params} {h : Heap} {v : Value} {ds : List WData} (x : Well P h v (.list ds)) : ∃ (a : Addr) (vs : List Value), v = .ref a ∧ h.get? a = some { cls := .type "list", data := .seq vs.toArray } ∧ WellAll P h vs ds := by
  cases x with
  | list ho hall => exact ⟨_, _, rfl, ho, hall⟩
theorem well_tuple {P : Params} {h : Heap} {v : Value} {ds : List WData} (x : Well P h v (.tuple ds)) : ∃ (a : Addr) (vs : List Value), v = .ref a ∧ h.get? a = some { cls := .type "tuple", data := .seq vs.toArray } ∧ WellAll P h vs ds := by
  cases x with
  | tuple ho hall => exact ⟨_, _, rfl, ho, hall⟩
theorem well_cons {P : Params} {h : Heap} {us : List Value} {d : WData} {ds : List WData} (x : WellAll P h us (d :: ds)) : ∃ (v : Value) (vs : List Value), us = v :: vs ∧ Well P h v d ∧ WellAll P h vs ds := by
  cases x with
  | cons a b => exact ⟨_, _, rfl, a, b⟩
theorem line_of {n : Nat} (h : n ≤ 1048576) : n ≤ sizeLine := Nat.le_trans h (by decide)
section
variable {P : Params} {h : Heap}
mutual
theorem area_one : ∀ (d : WData) (v : Value), Well P h v d → plW d = true → d.weight ≤ 1048576 → ∃ A : List Addr, OkU A v ∧ ∀ a ∈ A, ArgOb h A a
  | .none, _, x, _, _ => by
    cases x
    exact ⟨[], trivial, fun a m => absurd m (by simp)⟩
  | .bool b, _, x, _, _ => by
    cases x
    exact ⟨[], trivial, fun a m => absurd m (by simp)⟩
  | .int i, _, x, _, _ => by
    cases x
    exact ⟨[], trivial, fun a m => absurd m (by simp)⟩
  | .str s, _, x, _, _ => by
    cases x
    exact ⟨[], trivial, fun a m => absurd m (by simp)⟩
  | .bytes b, _, x, _, _ => by
    cases x
    exact ⟨[], trivial, fun a m => absurd m (by simp)⟩
  | .list ds, _, x, p, z => by
    obtain ⟨a, vs, rfl, ho, hall⟩ := well_list x
    have z2 : WData.weightAll ds ≤ 1048576 := z
    obtain ⟨A, h1, h2⟩ := area_all ds _ hall p fun d hd => Nat.le_trans (weight_mem hd) z2
    have k : ∀ b ∈ A, b ∈ a :: A := fun b hb => List.mem_cons_of_mem _ hb
    refine ⟨a :: A, List.mem_cons_self .., fun b hb => ?_⟩
    rcases List.mem_cons.mp hb with e | m
    · rw [e]
      exact ⟨vs, line_of (by rw [wellAll_len hall]; exact Nat.le_trans (PySem.W.length_le_weightAllW ds) z2), fun u hu => (h1 u hu).mono k, .inl ho⟩
    · exact (h2 b m).mono k
  | .tuple ds, _, x, p, z => by
    obtain ⟨a, vs, rfl, ho, hall⟩ := well_tuple x
    have z2 : WData.weightAll ds ≤ 1048576 := z
    obtain ⟨A, h1, h2⟩ := area_all ds _ hall p fun d hd => Nat.le_trans (weight_mem hd) z2
    have k : ∀ b ∈ A, b ∈ a :: A := fun b hb => List.mem_cons_of_mem _ hb
    refine ⟨a :: A, List.mem_cons_self .., fun b hb => ?_⟩
    rcases List.mem_cons.mp hb with e | m
    · rw [e]
      exact ⟨vs, line_of (by rw [wellAll_len hall]; exact Nat.le_trans (PySem.W.length_le_weightAllW ds) z2), fun u hu => (h1 u hu).mono k, .inr ho⟩
    · exact (h2 b m).mono k
  | .float _, _, _, p, _ => Bool.noConfusion (show false = true from p)
  | .dict _, _, _, p, _ => Bool.noConfusion (show false = true from p)
  | .bytearray _, _, _, p, _ => Bool.noConfusion (show false = true from p)
  | .set _, _, _, p, _ => Bool.noConfusion (show false = true from p)
  | .frozenset _, _, _, p, _ => Bool.noConfusion (show false = true from p)
  | .obj _ _, _, _, p, _ => Bool.noConfusion (show false = true from p)
theorem area_all : ∀ (ds : List WData) (vs : List Value), WellAll P h vs ds → plWs ds = true → (∀ d ∈ ds, d.weight ≤ 1048576) → ∃ A : List Addr, (∀ u ∈ vs, OkU A u) ∧ ∀ a ∈ A, ArgOb h A a
  | [], _, x, _, _ => by
    cases x
    exact ⟨[], fun u m => absurd m (by simp), fun a m => absurd m (by simp)⟩
  | d :: ds, _, x, p, z => by
    obtain ⟨v, vs, rfl, x1, x2⟩ := well_cons x
    have q : plW d = true ∧ plWs ds = true := Bool.and_eq_true_iff.mp p
    obtain ⟨A, a1, a2⟩ := area_one d v x1 q.1 (z d (List.mem_cons_self ..))
    obtain ⟨B, b1, b2⟩ := area_all ds vs x2 q.2 fun e he => z e (List.mem_cons_of_mem _ he)
    have kA : ∀ b ∈ A, b ∈ A ++ B := fun b hb => List.mem_append.mpr (.inl hb)
    have kB : ∀ b ∈ B, b ∈ A ++ B := fun b hb => List.mem_append.mpr (.inr hb)
    refine ⟨A ++ B, fun u hu => ?_, fun b hb => ?_⟩
    · rcases List.mem_cons.mp hu with e | m
      · rw [e]
        exact a1.mono kA
      · exact (b1 u m).mono kB
    · rcases List.mem_append.mp hb with m | m
      · exact (a2 b m).mono kA
      · exact (b2 b m).mono kB
end
end
def hoOf (o : Obj) : Option HO := match o.data with
  | .seq vs _ => if (o.cls == Value.type "list") = true then some (.frz o (.lst (vs.toList.map toV))) else some (.frz o (.tup (vs.toList.map toV)))
  | _ => none
def argH (K : PySem.W.Frag) (h : Heap) (A : List Addr) : Hp := fun b => if b ∈ A then (if (K.lookup b).isNone = true then (h.get? b).bind hoOf else none) else none
def OnlyF (H : Hp) : Prop := ∀ b, H b = none ∨ ∃ o u, H b = some (.frz o u)
theorem hoOf_lst (vs : List Value) : hoOf { cls := .type "list", data := .seq vs.toArray } = some (.frz { cls := .type "list", data := .seq vs.toArray } (.lst (vs.map toV))) := by
  show (if (Value.type "list" == Value.type "list") = true then some (HO.frz { cls := .type "list", data := .seq vs.toArray } (.lst (vs.toArray.toList.map toV))) else some (HO.frz { cls := .type "list", data := .seq vs.toArray } (.tup (vs.toArray.toList.map toV)))) = _
  rw [if_pos (beq_self_eq_true _)]
theorem hoOf_tup (vs : List Value) : hoOf { cls := .type "tuple", data := .seq vs.toArray } = some (.frz { cls := .type "tuple", data := .seq vs.toArray } (.tup (vs.map toV))) := by
  show (if (Value.type "tuple" == Value.type "list") = true then some (HO.frz { cls := .type "tuple", data := .seq vs.toArray } (.lst (vs.toArray.toList.map toV))) else some (HO.frz { cls := .type "tuple", data := .seq vs.toArray } (.tup (vs.toArray.toList.map toV)))) = _
  rw [if_neg (by decide)]
section
variable {P : Program} {w : World} {K : PySem.W.Frag} {h : Heap} {A : List Addr}
theorem argH_at {b : Addr} {o : Obj} (hb : b ∈ A) (hk : K.lookup b = none) (e : h.get? b = some o) : argH K h A b = hoOf o := by
  unfold argH
  rw [if_pos hb, hk, if_pos (show (none : Option Obj).isNone = true from rfl), e] <;> rfl
theorem of_argH {b : Addr} {u : HO} (q : argH K h A b = some u) : b ∈ A ∧ K.lookup b = none := by
  unfold argH at q
  by_cases hb : b ∈ A
  · rw [if_pos hb] at q
    cases hk : K.lookup b with
    | none => exact ⟨hb, rfl⟩
    | some o =>
      rw [hk, if_neg (by simp)] at q
      cases q
  · rw [if_neg hb] at q
    cases q
theorem argH_is (ar : ∀ a ∈ A, ArgOb h A a) {b : Addr} {u : HO} (q : argH K h A b = some u) : K.lookup b = none ∧ ∃ vs : List Value, vs.length ≤ sizeLine ∧ (∀ u ∈ vs, OkU A u) ∧
    ((h.get? b = some { cls := .type "list", data := .seq vs.toArray } ∧ u = .frz { cls := .type "list", data := .seq vs.toArray } (.lst (vs.map toV))) ∨
     (h.get? b = some { cls := .type "tuple", data := .seq vs.toArray } ∧ u = .frz { cls := .type "tuple", data := .seq vs.toArray } (.tup (vs.map toV)))) := by
  obtain ⟨hb, hk⟩ := of_argH q
  obtain ⟨vs, h1, h2, h3⟩ := ar b hb
  refine ⟨hk, vs, h1, h2, ?_⟩
  rcases h3 with e | e
  · rw [argH_at hb hk e, hoOf_lst] at q
    exact .inl ⟨e, (Option.some.inj q).symm⟩
  · rw [argH_at hb hk e, hoOf_tup] at q
    exact .inr ⟨e, (Option.some.inj q).symm⟩
theorem argH_only (ar : ∀ a ∈ A, ArgOb h A a) : OnlyF (argH K h A) := fun b => by
  cases q : argH K h A b with
  | none => exact .inl rfl
  | some u =>
    obtain ⟨_, vs, _, _, ⟨_, e⟩ | ⟨_, e⟩⟩ := argH_is ar q
    · exact .inr ⟨_, _, by rw [e]⟩
    · exact .inr ⟨_, _, by rw [e]⟩
theorem argH_ok (ar : ∀ a ∈ A, ArgOb h A a) : HOk P w (argH K h A) h := fun b u q => by
  obtain ⟨_, vs, h1, h2, ⟨e, rfl⟩ | ⟨e, rfl⟩⟩ := argH_is ar q
  · exact ⟨e, by rw [List.length_map]; exact h1, vs, _, vals_toV h2, e⟩
  · exact ⟨e, by rw [List.length_map]; exact h1, vs, vals_toV h2, _, e, rfl, _, rfl⟩
theorem seq_inj {c c' : Value} {vs us : List Value} (e : (some { cls := c, data := .seq vs.toArray } : Option Obj) = some { cls := c', data := .seq us.toArray }) : c = c' ∧ vs = us := by
  have e1 := Option.some.inj e
  have e2 : c = c' := congrArg Obj.cls e1
  have e3 : Data.seq vs.toArray = Data.seq us.toArray := congrArg Obj.data e1
  injection e3 with e4
  refine ⟨e2, ?_⟩
  have e5 := congrArg Array.toList e4
  simpa using e5
theorem argL (KX : K.In h) (ar : ∀ a ∈ A, ArgOb h A a) {a : Addr} {vs : List Value} (ha : a ∈ A) (e : h.get? a = some { cls := .type "list", data := .seq vs.toArray }) : (∀ u ∈ vs, OkU A u) ∧ SqL K (argH K h A) a (vs.map toV) := by
  obtain ⟨us, h1, h2, h3⟩ := ar a ha
  have hu : us = vs := by
    rcases h3 with q | q
    · rw [e] at q
      exact (seq_inj q).2.symm
    · rw [e] at q
      exact absurd (Value.type.inj (seq_inj q).1) (by decide)
  subst hu
  refine ⟨h2, ?_⟩
  cases hk : K.lookup a with
  | none => exact .inl (.inr ⟨_, by rw [argH_at ha hk e, hoOf_lst]⟩)
  | some o =>
    have e2 := KX a o hk
    rw [e] at e2
    obtain rfl := Option.some.inj e2
    exact .inr ⟨_, us.toArray, _, hk, rfl, rfl, rfl, by rw [List.size_toArray]; exact h1, by simpa using vals_toV h2⟩
theorem argT (KX : K.In h) (ar : ∀ a ∈ A, ArgOb h A a) {a : Addr} {vs : List Value} (ha : a ∈ A) (e : h.get? a = some { cls := .type "tuple", data := .seq vs.toArray }) : (∀ u ∈ vs, OkU A u) ∧ SqT K (argH K h A) a (vs.map toV) := by
  obtain ⟨us, h1, h2, h3⟩ := ar a ha
  have hu : us = vs := by
    rcases h3 with q | q
    · rw [e] at q
      exact absurd (Value.type.inj (seq_inj q).1) (by decide)
    · rw [e] at q
      exact (seq_inj q).2.symm
  subst hu
  refine ⟨h2, ?_⟩
  cases hk : K.lookup a with
  | none => exact .inl (.inr ⟨_, by rw [argH_at ha hk e, hoOf_tup]⟩)
  | some o =>
    have e2 := KX a o hk
    rw [e] at e2
    obtain rfl := Option.some.inj e2
    exact .inr ⟨_, us.toArray, _, hk, rfl, rfl, by rw [List.size_toArray]; exact h1, by simpa using vals_toV h2⟩
mutual
theorem dw_one {Pm : Params} (KX : K.In h) (ar : ∀ a ∈ A, ArgOb h A a) : ∀ (d : WData) (v : Value), Well Pm h v d → plW d = true → OkU A v → Dw K (argH K h A) (toV v) d
  | .none, _, x, _, _ => by
    cases x
    exact .non
  | .bool b, _, x, _, _ => by
    cases x
    exact .bl b
  | .int i, _, x, _, _ => by
    cases x
    exact .int i
  | .str s, _, x, _, _ => by
    cases x
    exact .str s
  | .bytes b, _, x, _, _ => by
    cases x
    have z := Dw.byt (K := K) (H := argH K h A) b.toArray
    exact z
  | .list ds, _, x, p, hu => by
    obtain ⟨a, vs, rfl, ho, hall⟩ := well_list x
    obtain ⟨h2, hs⟩ := argL KX ar hu ho
    exact .lst hs (dw_all KX ar ds _ hall p h2)
  | .tuple ds, _, x, p, hu => by
    obtain ⟨a, vs, rfl, ho, hall⟩ := well_tuple x
    obtain ⟨h2, hs⟩ := argT KX ar hu ho
    exact .tup hs (dw_all KX ar ds _ hall p h2)
  | .float _, _, _, p, _ => Bool.noConfusion (show false = true from p)
  | .dict _, _, _, p, _ => Bool.noConfusion (show false = true from p)
  | .bytearray _, _, _, p, _ => Bool.noConfusion (show false = true from p)
  | .set _, _, _, p, _ => Bool.noConfusion (show false = true from p)
  | .frozenset _, _, _, p, _ => Bool.noConfusion (show false = true from p)
  | .obj _ _, _, _, p, _ => Bool.noConfusion (show false = true from p)
theorem dw_all {Pm : Params} (KX : K.In h) (ar : ∀ a ∈ A, ArgOb h A a) : ∀ (ds : List WData) (vs : List Value), WellAll Pm h vs ds → plWs ds = true → (∀ u ∈ vs, OkU A u) → DwAll K (argH K h A) (vs.map toV) ds
  | [], _, x, _, _ => by
    cases x
    exact .nil
  | d :: ds, _, x, p, hu => by
    obtain ⟨v, vs, rfl, x1, x2⟩ := well_cons x
    have q : plW d = true ∧ plWs ds = true := Bool.and_eq_true_iff.mp p
    exact .cons (dw_one KX ar d v x1 q.1 (hu _ (List.mem_cons_self ..))) (dw_all KX ar ds vs x2 q.2 fun u m => hu u (List.mem_cons_of_mem _ m))
end
end
theorem spec_call {P : Program} {w : World} {K : PySem.W.Frag} {mg mb : Str → Option Value} {CX : CXT} {k : Nat} {fa : Addr} {fd : FuncData} {ps : List Str} {sp : Sp} {s₁ : Shared} {vals : List Value} {ds : List WData} {R : PySem.W.WRecords} {cl : Str → Option Addr} {d0 : WData}
    (KX : K.In s₁.heap) (hns : s₁.heap.Ns mainGlobals mg) (hb : s₁.heap.Ns builtinsNs mb) (hbb : ∀ x : Str, x ≠ "__name__" → mb x = bootBuiltins x) (hlim : s₁.heap.NoLimit) (hg : s₁.gens = #[])
    (hwl : WellAll w.params s₁.heap vals ds) (hpl : plWs ds = true) (hwt : ∀ d ∈ ds, d.weight ≤ 1048576) (hr : Room k callerA)
    (F : ∀ base : Heap, K.In base → base.Ns mainGlobals mg → FnOk P w K mg base CX k fa fd ps sp) (hbind : ∀ (s : Shared) (us : List Value), us.length = ps.length → BindsTo s fd ⟨us, []⟩ (ps.zip us)) (hlen : ds.length = ps.length)
    (hsp : ∀ (H : Hp) (xs : List V), OnlyF H → DwAll K H xs ds → sp xs H (fun v H' => Dw K H' v d0) fun _ _ _ => False)
    (hCX : ∀ H e s', CX [] H s₁ (fun _ _ _ => False) e s' → False) :
    codeAny (model P w) callerA (.call (.ref fa) ⟨vals, []⟩) (fun r s' => ∃ u as, r = .ok (.ret u) ∧ ReadsW R cl s'.heap u d0 as ∧ OldK s₁.heap s'.heap ∧ s'.os = s₁.os ∧ AllBare s'.gens) s₁ := by
  obtain ⟨A, ho, ar⟩ := area_all ds vals hwl hpl hwt
  have hO : OnlyF (argH K s₁.heap A) := argH_only ar
  have hok : HOk P w (argH K s₁.heap A) s₁.heap := argH_ok ar
  have hS := dw_all KX ar ds vals hwl hpl ho
  have hV := vals_toV ho
  have hK : ∀ b u, argH K s₁.heap A b = some u → K.lookup b = none := fun b u q => (argH_is ar q).1
  have noA : ∀ {b : Addr} {o : Obj} {es : Array DictEntry} {ep : Nat}, s₁.heap.get? b = some o → o.data = .dict es ep → argH K s₁.heap A b = none := fun {b o es ep} e d => by
    cases q : argH K s₁.heap A b with
    | none => rfl
    | some u =>
      obtain ⟨_, vs, _, _, ⟨e2, _⟩ | ⟨e2, _⟩⟩ := argH_is ar q
      · rw [e2] at e
        cases e
        have d' : Data.seq vs.toArray _ = Data.dict es ep := d
        cases d'
      · rw [e2] at e
        cases e
        have d' : Data.seq vs.toArray _ = Data.dict es ep := d
        cases d'
  generalize argH K s₁.heap A = H at hO hok hS hK noA
  have base_of : ∀ {b : Addr} {o : Obj}, s₁.heap.get? b = some o → H b = none → (hidT s₁.heap H).get? b = some o := fun e n => hidT_get e n
  have nsK : ∀ {b : Addr} {m : Str → Option Value}, s₁.heap.Ns b m → (hidT s₁.heap H).Ns b m := fun {b m} ⟨o, es, ep, e, d, r⟩ => ⟨o, es, ep, base_of e (noA e d), d, r⟩
  have nK : ∀ b o, K.lookup b = some o → H b = none := fun b o e => by
    cases q : H b with
    | none => rfl
    | some u =>
      rw [hK b u q] at e
      cases e
  have hKb : K.In (hidT s₁.heap H) := fun b o e => base_of (KX b o e) (nK b o e)
  have hM : Mod K mg (hidT s₁.heap H) := ⟨hKb, nsK hns, ⟨mb, nsK hb, hbb⟩, let ⟨mc, h1, h2⟩ := hlim; ⟨mc, nsK h1, h2⟩⟩
  have e0 : Env0 P w K mg (hidT s₁.heap H) callerA [] s₁ H := ⟨rfl, hM, fun b o e => of_hidT e, Nat.le_of_eq (hidT_size _ _), trivial, fun b hb => absurd (show b ∈ ([] : List Addr) from hb) (by simp), hok, .of_eq hg⟩
  have hl : vals.length = ps.length := by rw [wellAll_len hwl]; exact hlen
  refine codeAny_mono ((F _ hKb (nsK hns)).run callerA [] s₁ H ⟨vals, []⟩ vals (vals.map toV) _ _ hr e0 (hbind s₁ vals hl) hV (hsp H _ hO hS)) fun r s' x => ?_
  cases r with
  | error e => exact (hCX H e s' x).elim
  | ok fl =>
    cases fl with
    | next => exact False.elim x
    | brk => exact False.elim x
    | cont => exact False.elim x
    | ret u =>
      obtain ⟨v, H', os, bare, un, hok', r', q⟩ := x
      have kept : ∀ b o, s₁.heap.get? b = some o → s'.heap.get? b = some o := fun b o e => by
        cases q2 : H b with
        | none => exact un.keep b o e q2 (by intro z; exact absurd (show b ∈ ([] : List Addr) from z) (by simp)) (by simp)
        | some u2 =>
          rcases hO b with z | ⟨ob, u3, z⟩
          · rw [q2] at z
            cases z
          · have z2 := un.frzs b ob _ z
            obtain ⟨e1, _⟩ := hok b _ z
            obtain ⟨e2, _⟩ := hok' b _ z2
            rw [e] at e1
            cases e1
            exact e2
      have KX' : K.In s'.heap := fun b o e => kept b o (KX b o e)
      obtain ⟨as, hrd⟩ := Dw.reads (R := R) (cl := cl) hok' KX' d0 v u q r'
      exact ⟨u, as, rfl, hrd, OldK.of_keep kept, os, bare⟩
theorem layable_weight {ds : List WData} (h : WData.layableAll ds = true) : ∀ d ∈ ds, d.weight ≤ 1048576 := fun d hd =>
  (PySem.W.layableW_iff.mp (List.all_eq_true.mp h d hd)).2.2
theorem encAll_len : ∀ (cs : List Codec) (a : Codec.denoteAll cs), (Codec.encAll cs a).length = cs.length
  | [], _ => rfl
  | c :: cs, a => by
    show (Codec.encAll cs a.2).length + 1 = cs.length + 1
    rw [encAll_len cs a.2]
theorem walk_spec {r : OpenSpec} {k : Nat} {q : Program} {loose : List Str} {XP : (Str → Option Value) → Heap → Prop} {YP : World → Heap → Prop} {d : DefRec} {K : Params → PySem.W.Frag} {CX : World → CXT} {ps : List Str} {sp : World → Sp}
    (hwell : r.wellSaid = true) (hdf : d.params.defaults = []) (hlen : r.args.length = ps.length) (hr : Room k callerA)
    (hY : ∀ (w : World) (h : Heap), YP w h → (K w.params).In h)
    (F : ∀ (w : World) (mg : Str → Option Value) (fa : Addr) (h : Heap), YP w h → (K w.params).In h → h.Ns mainGlobals mg → mg d.name = some (.ref fa) →
      ∃ fd : FuncData, (∀ (s : Shared) (us : List Value), us.length = ps.length → BindsTo s fd ⟨us, []⟩ (ps.zip us)) ∧
        ∀ base : Heap, (K w.params).In base → base.Ns mainGlobals mg → FnOk r.prog w (K w.params) mg base (CX w) k fa fd ps (sp w))
    (hsp : ∀ (w : World) (H : Hp) (xs : List V) (a : Codec.denoteAll r.args), OnlyF H → Codec.withinAll r.args a = true → Codec.app r.args r.asked a = true → DwAll (K w.params) H xs (Codec.encAll r.args a) →
      sp w xs H (fun v H' => Dw (K w.params) H' v (r.ret.enc (Codec.app r.args r.f a))) fun _ _ _ => False)
    (hCX : ∀ (w : World) (H : Hp) (s : Shared) (e : Value) (s' : Shared), CX w [] H s (fun _ _ _ => False) e s' → False) :
    PySem.W.WalkOS q loose XP YP r d [] (fun f vs => PySem.call f vs) := by
  intro w s_0 s₁ mg mb G Y fa o pm cd doc dV kV ho hd hcd hD hmg hg args vals as hpre hlay hrd hwl hlo
  obtain ⟨a, e1, e2⟩ := PySem.W.os_pre_some hpre
  obtain ⟨e3, hwi⟩ := Codec.encAll_of_decAll r.args args a e1
  subst e3
  have KX := hY w _ Y
  obtain ⟨fd, hb, hF⟩ := F w mg fa _ Y KX G.T.g hmg
  refine PySem.W.enter_call (codeAny_mono (spec_call (R := []) (cl := classAt s_0.heap) (d0 := r.ret.enc (Codec.app r.args r.f a)) KX G.T.g G.T.b G.T.builtins G.T.nolimit hg hwl (pl_encAll _ _) (layable_weight hlay) hr hF hb (by rw [encAll_len]; exact hlen)
    (fun H xs hO hS => hsp w H xs a hO hwi e2 hS) fun H e s' => hCX w H s₁ e s') fun r' s' hq => ?_)
  obtain ⟨u, as', rfl, h1, h2, h3, h4⟩ := hq
  exact ⟨.inl ⟨u, _, as', rfl, fun _ => rfl, h1, (OpenSpec.post_iff hwell hwi _ _).mpr rfl, fun z => Bool.noConfusion (show false = true from z)⟩, h2, h3, h4⟩
theorem walk_specK {r : OpenSpec} {k : Nat} {q : Program} {loose : List Str} {XP : (Str → Option Value) → Heap → Prop} {YP : World → Heap → Prop} {d : DefRec} {K : Params → PySem.W.Frag} {CX : CXT} {ps : List Str} {sp : PySem.W.Frag → Sp}
    (hwell : r.wellSaid = true) (hdf : d.params.defaults = []) (hlen : r.args.length = ps.length) (hr : Room k callerA)
    (hY : ∀ (w : World) (h : Heap), YP w h → (K w.params).In h)
    (F : ∀ (w : World) (mg : Str → Option Value) (fa : Addr) (h : Heap), YP w h → (K w.params).In h → h.Ns mainGlobals mg → mg d.name = some (.ref fa) →
      ∃ fd : FuncData, (∀ (s : Shared) (us : List Value), us.length = ps.length → BindsTo s fd ⟨us, []⟩ (ps.zip us)) ∧
        ∀ base : Heap, (K w.params).In base → base.Ns mainGlobals mg → FnOk r.prog w (K w.params) mg base CX k fa fd ps (sp (K w.params)))
    (hsp : ∀ (K : PySem.W.Frag) (H : Hp) (xs : List V) (a : Codec.denoteAll r.args), OnlyF H → Codec.withinAll r.args a = true → Codec.app r.args r.asked a = true → DwAll K H xs (Codec.encAll r.args a) →
      sp K xs H (fun v H' => Dw K H' v (r.ret.enc (Codec.app r.args r.f a))) fun _ _ _ => False)
    (hCX : ∀ (H : Hp) (s : Shared) (e : Value) (s' : Shared), CX [] H s (fun _ _ _ => False) e s' → False) :
    PySem.W.WalkOS q loose XP YP r d [] (fun f vs => PySem.call f vs) :=
  walk_spec (K := K) (CX := fun _ => CX) (sp := fun w => sp (K w.params)) hwell hdf hlen hr hY F (fun w H xs a h1 h2 h3 h4 => hsp (K w.params) H xs a h1 h2 h3 h4) fun _ H s e s' => hCX H s e s'
end L2
end
namespace Mi
open Km485 (count without inside bits again_)
theorem cnt_or : ∀ s, s < 64 → ∀ i, i < 6 → count (s ||| 2 ^ i) = count s + (if s.testBit i then 0 else 1) := by decide +kernel
theorem add_or : ∀ s, s < 64 → ∀ i, i < 6 → s.testBit i = false → s + 2 ^ i = s ||| 2 ^ i := by decide +kernel
theorem or_lt : ∀ s, s < 64 → ∀ i, i < 6 → s ||| 2 ^ i < 64 := by decide +kernel
theorem wo_lt : ∀ s, s < 64 → ∀ i, i < 6 → without s i < 64 := by decide +kernel
theorem cnt_wo : ∀ s, s < 64 → ∀ i, i < 6 → count s = count (without s i) + (if s.testBit i then 1 else 0) := by decide +kernel
theorem bit_wo : ∀ s, s < 64 → ∀ i, i < 6 → ∀ j, j < 6 → (without s i).testBit j = (s.testBit j && !(i == j)) := by decide +kernel
theorem sub_wo : ∀ s, s < 64 → ∀ i, i < 6 → s.testBit i = true → s - 2 ^ i = without s i := by decide +kernel
theorem wo_zero : ∀ s, s < 64 → ∀ i, i < 6 → s.testBit i = true → (without s i = 0 ↔ s = 2 ^ i) := by decide +kernel
theorem or_bit : ∀ s, s < 64 → ∀ i, i < 6 → ∀ j, j < 6 → (s ||| 2 ^ i).testBit j = (s.testBit j || (i == j)) := by decide +kernel
theorem cnt_le : ∀ s, s < 64 → count s ≤ 6 := by decide +kernel
theorem cnt_pos : ∀ s, s < 64 → (count s = 0 ↔ s = 0) := by decide +kernel
theorem bit_hi {s i : Nat} (h : s < 2 ^ i) : s.testBit i = false := Nat.testBit_lt_two_pow h
theorem bit64 {s i : Nat} (h : s < 64) (hi : 6 ≤ i) : s.testBit i = false := bit_hi (Nat.lt_of_lt_of_le h (by have := Nat.pow_le_pow_right (n := 2) (by decide) hi; simpa using this))
theorem ext6 {s t : Nat} (hs : s < 64) (ht : t < 64) (h : ∀ i, i < 6 → s.testBit i = t.testBit i) : s = t := by
  apply Nat.eq_of_testBit_eq
  intro i
  by_cases hi : i < 6
  · exact h i hi
  · rw [bit64 hs (by omega), bit64 ht (by omega)]
theorem count_sub {s t : Nat} (h : ∀ i, i < 6 → s.testBit i = true → t.testBit i = true) : count s ≤ count t := by
  unfold count
  have e : ((List.range Km485.STATES).filter fun i => s.testBit i) = (((List.range Km485.STATES).filter fun i => t.testBit i).filter fun i => s.testBit i) := by
    rw [List.filter_filter]
    apply List.filter_congr
    intro i hi
    have hi : i < 6 := by simpa [Km485.STATES] using hi
    cases hb : s.testBit i
    · simp
    · simp [h i hi hb]
  rw [e]
  exact List.length_filter_le _ _
def gath (p : Nat → Bool) : Nat → Nat
  | 0 => 0
  | k + 1 => if p k = true then gath p k ||| 2 ^ k else gath p k
theorem gath_bit (p : Nat → Bool) : ∀ k i, (gath p k).testBit i = (decide (i < k) && p i)
  | 0, i => by simp [gath]
  | k + 1, i => by
    unfold gath
    have ih := gath_bit p k i
    by_cases hk : p k = true
    · rw [if_pos hk, Nat.testBit_or, ih, Nat.testBit_two_pow]
      by_cases e : k = i
      · subst e; simp [hk]
      · have : decide (i < k + 1) = decide (i < k) := by rw [decide_eq_decide]; omega
        simp [e, this]
    · rw [if_neg hk, ih]
      by_cases e : k = i
      · subst e; simp [hk]
      · have : decide (i < k + 1) = decide (i < k) := by rw [decide_eq_decide]; omega
        simp [this]
theorem gath_lt (p : Nat → Bool) : ∀ k, gath p k < 2 ^ k
  | 0 => by simp [gath]
  | k + 1 => by
    unfold gath
    have ih := gath_lt p k
    have h2 : 2 ^ (k + 1) = 2 ^ k + 2 ^ k := by rw [Nat.pow_succ]; omega
    split
    · exact Nat.or_lt_two_pow (by omega) (by omega)
    · omega
theorem gath6 (p : Nat → Bool) : gath p 6 < 64 := gath_lt p 6
theorem foldl_bits : ∀ (l : List Nat) (acc : Nat), acc < 64 → (∀ j ∈ l, j < 6 ∧ acc.testBit j = false) → l.Nodup →
    (l.map fun i => 2 ^ i).foldl (· + ·) acc < 64 ∧ ∀ i, i < 6 → ((l.map fun i => 2 ^ i).foldl (· + ·) acc).testBit i = (acc.testBit i || decide (i ∈ l))
  | [], acc, h, _, _ => ⟨h, fun i _ => by simp⟩
  | a :: l, acc, h, hj, nd => by
    obtain ⟨ha, hb⟩ := hj a List.mem_cons_self
    obtain ⟨n1, n2⟩ := List.nodup_cons.mp nd
    rw [List.map_cons, List.foldl_cons, add_or acc h a ha hb]
    have := foldl_bits l (acc ||| 2 ^ a) (or_lt acc h a ha) (fun j hjl => by
      obtain ⟨q1, q2⟩ := hj j (List.mem_cons_of_mem _ hjl)
      refine ⟨q1, ?_⟩
      rw [or_bit acc h a ha j q1, q2]
      have : a ≠ j := fun e => n1 (e ▸ hjl)
      rw [beq_false_of_ne this]; rfl) n2
    refine ⟨this.1, fun i hi => ?_⟩
    rw [this.2 i hi, or_bit acc h a ha i hi]
    by_cases e : a = i
    · subst e; simp
    · have e' : ¬ i = a := fun z => e z.symm
      rw [beq_false_of_ne e]
      simp [e']
theorem bits_ok {l : List Nat} (h : ∀ j ∈ l, j < 6) (nd : l.Nodup) : bits l < 64 ∧ ∀ i, i < 6 → (bits l).testBit i = decide (i ∈ l) := by
  have := foldl_bits l 0 (by decide) (fun j hj => ⟨h j hj, Nat.zero_testBit j⟩) nd
  refine ⟨this.1, fun i hi => ?_⟩
  show ((l.map fun i => 2 ^ i).foldl (· + ·) 0).testBit i = _
  rw [this.2 i hi]
  simp
theorem bits_gath (p : Nat → Bool) : bits ((List.range Km485.STATES).filter p) = gath p 6 := by
  obtain ⟨h1, h2⟩ := bits_ok (l := (List.range Km485.STATES).filter p) (fun j hj => by have := (List.mem_filter.mp hj).1; simpa [Km485.STATES] using this) (List.nodup_range.filter _)
  refine ext6 h1 (gath6 p) fun i hi => ?_
  rw [h2 i hi, gath_bit]
  have : i ∈ List.range Km485.STATES := by simpa [Km485.STATES] using hi
  cases hp : p i <;> simp [List.mem_filter, this, hp, hi]
end Mi
namespace Mi
open Km485 (count without inside bits again_)
structure T where
  need : Nat
  arts : List (Nat × Nat)
  offs : List (Option (Nat × Nat))
  turn : Nat
  mem : Nat
  res : List Nat
  obj : List Nat
structure W where
  n : Nat
  ts : List T
  fav : List Nat
structure R where
  w : W
  past : List W
  und : List W
def newT (need : Nat) : T := ⟨need, [], List.replicate 6 none, 0, 0, List.replicate 6 0, List.replicate 6 0⟩
def newW (n : Nat) : W := ⟨n, [], List.replicate 6 0⟩
def T.off (t : T) (i : Nat) : Option (Nat × Nat) := t.offs.getD i none
def T.offd (t : T) : Nat := gath (fun i => (t.off i).isSome) 6
def T.holds (t : T) (i s f : Nat) : Bool := if f.testBit i = true then true else match t.off i with
  | some (k, m) => decide (k + 1 ≤ count s) && (m &&& s == m)
  | none => false
def T.holding (t : T) (s f : Nat) : Nat := gath (fun i => s.testBit i && t.holds i s f) 6
def T.joiners (t : T) (f : Nat) : Nat := again_ (fun s => t.holding s f) 6 t.offd
def T.enough (t : T) (f : Nat) : Bool := decide (t.need ≤ count (t.joiners f))
def T.firstTo (t : T) : Nat → Nat
  | 0 => t.offd
  | i + 1 => if ((i &&& t.offd == i) && (decide (count i < count (t.firstTo i)) && t.enough i)) = true then i else t.firstTo i
def T.first (t : T) : Nat := t.firstTo t.offd
def T.row (t : T) (j : Nat) : Nat := t.obj.getD j 0
def T.rsv (t : T) (i : Nat) : Nat := t.res.getD i 0
def T.objections (t : T) : Nat := (t.obj.map count).sum
def T.drop (t : T) (i : Nat) : T := { t with obj := t.obj.map fun r => without r i }
def T.leave (t : T) (i : Nat) : T := ({ t with mem := without t.mem i, res := t.res.set i 0, obj := t.obj.set i 0 } : T).drop i
def T.unreserve (t : T) (i a : Nat) : T :=
  let u : T := { t with res := t.res.set i (without (t.rsv i) a) }
  if without (t.rsv i) a = 0 then u.drop i else u
def spread (new i : Nat) (r : Nat) : Nat := if r.testBit i = true then r ||| 2 ^ new else r
def T.takeAfter (t : T) (new i : Nat) : T := { t with
  mem := if t.mem.testBit i = true then t.mem ||| 2 ^ new else t.mem
  res := t.res.set new (t.rsv i)
  obj := (t.obj.set new (t.row i)).map (spread new i) }
def T.between (t : T) (i j : Nat) : Bool := (t.mem &&& (2 ^ i ||| 2 ^ j) == 2 ^ i ||| 2 ^ j) && (!(t.row i).testBit j && !(t.row j).testBit i)
def T.applies (t : T) (i j a : Nat) : Bool := t.between i j && (!(t.rsv i).testBit a && !(t.rsv j).testBit a)
def T.lastTo (t : T) (i j s : Nat) : Nat → Option Nat
  | 0 => none
  | a + 1 => if (((t.arts.getD a (0, 0)).1 == s) && t.applies i j a) = true then some a else t.lastTo i j s a
def T.last (t : T) (i j s : Nat) : Option Nat := t.lastTo i j s t.arts.length
def W.turns (w : W) : Nat := (w.ts.filter fun t => decide (0 < t.turn)).length
def W.favs (w : W) (i : Nat) : Nat := w.fav.getD i 0
def W.allFav (w : W) : Nat := (w.fav.map count).sum
def W.part (w : W) (i : Nat) (m : Bool) : W := { w with n := w.n + 1, ts := if m = true then w.ts.map fun t => t.takeAfter w.n i else w.ts }
def W.tr (w : W) (t : Nat) : T := w.ts.getD t (newT 0)
def W.aheadTo (w : W) (i j s : Nat) : Nat → Option (Nat × Nat) × Nat
  | 0 => (none, 0)
  | t + 1 => match (w.tr t).last i j s with
    | some a => if (w.aheadTo i j s t).2 < (w.tr t).turn then (some (t, a), (w.tr t).turn) else w.aheadTo i j s t
    | none => w.aheadTo i j s t
def W.ahead (w : W) (i j s : Nat) : Option (Nat × Nat) := (w.aheadTo i j s w.ts.length).1
def W.amount (w : W) (t a : Nat) : Nat := ((w.tr t).arts.getD a (0, 0)).2
def W.allowed (w : W) (i j s : Nat) : Nat := match w.ahead i j s with
  | none => 100
  | some x => w.amount x.1 x.2
def W.others (w : W) (i s : Nat) : List Nat := ((List.range w.n).filter fun k => !(k == i)).map fun k => w.allowed i k s
theorem sub_lt64 {t : T} {s f : Nat} : t.holding s f < 64 := gath6 _
theorem holding_bit (t : T) (s f i : Nat) : (t.holding s f).testBit i = (decide (i < 6) && (s.testBit i && t.holds i s f)) := gath_bit _ _ _
theorem again_succ (g : Nat → Nat) : ∀ k s, again_ g (k + 1) s = g (again_ g k s)
  | 0, _ => rfl
  | k + 1, s => by
    show again_ g (k + 1) (g s) = g (again_ g k (g s))
    exact again_succ g k (g s)
theorem again_add (g : Nat → Nat) : ∀ k m s, again_ g (k + m) s = again_ g m (again_ g k s)
  | 0, m, s => by rw [Nat.zero_add]; rfl
  | k + 1, m, s => by
    rw [Nat.succ_add]
    exact again_add g k m (g s)
theorem again_fix {g : Nat → Nat} {s : Nat} (h : g s = s) : ∀ k, again_ g k s = s
  | 0 => rfl
  | k + 1 => by show again_ g k (g s) = s; rw [h]; exact again_fix h k
structure Less (g : Nat → Nat) : Prop where
  lt : ∀ s, g s < 64
  sub : ∀ s i, (g s).testBit i = true → s.testBit i = true
theorem count_eq {s t : Nat} (hs : s < 64) (ht : t < 64) (h : ∀ i, t.testBit i = true → s.testBit i = true) (he : count s ≤ count t) : s = t := by
  refine ext6 hs ht fun i hi => ?_
  cases ht' : t.testBit i with
  | true => exact h i ht'
  | false =>
    cases hs' : s.testBit i with
    | false => rfl
    | true =>
      exfalso
      have h1 : count t ≤ count (without s i) := count_sub fun j hj hb => by
        rw [bit_wo s hs i hi j hj, h j hb]
        have : i ≠ j := fun e => by rw [e, hb] at ht'; cases ht'
        rw [beq_false_of_ne this]; rfl
      have h2 := cnt_wo s hs i hi
      rw [hs'] at h2
      simp at h2
      omega
theorem Less.step {g : Nat → Nat} (L : Less g) {s : Nat} (hs : s < 64) : g s = s ∨ count (g s) < count s := by
  by_cases h : count s ≤ count (g s)
  · exact .inl (count_eq hs (L.lt s) (L.sub s) h).symm
  · exact .inr (by omega)
theorem Less.iter_lt {g : Nat → Nat} (L : Less g) {s : Nat} (hs : s < 64) : ∀ k, again_ g k s < 64
  | 0 => hs
  | k + 1 => by rw [again_succ]; exact L.lt _
theorem Less.stable {g : Nat → Nat} (L : Less g) {s : Nat} (hs : s < 64) : ∀ k, g (again_ g k s) = again_ g k s ∨ count (again_ g k s) + k ≤ count s
  | 0 => .inr (by show count s + 0 ≤ count s; omega)
  | k + 1 => by
    rcases L.stable hs k with h | h
    · left
      rw [again_succ, h, h]
    · rcases L.step (L.iter_lt hs k) with h2 | h2
      · left
        rw [again_succ, h2, h2]
      · right
        rw [again_succ]
        omega
theorem Less.fix6 {g : Nat → Nat} (L : Less g) {s : Nat} (hs : s < 64) : g (again_ g 6 s) = again_ g 6 s := by
  rcases L.stable hs 6 with h | h
  · exact h
  · have h1 := cnt_le s hs
    have h2 : count (again_ g 6 s) = 0 := by omega
    have h3 : again_ g 6 s = 0 := (cnt_pos _ (L.iter_lt hs 6)).mp h2
    rw [h3]
    refine ext6 (L.lt 0) (by decide) fun i _ => ?_
    cases hb : (g 0).testBit i with
    | false => rw [Nat.zero_testBit]
    | true =>
      have := L.sub 0 i hb
      rw [Nat.zero_testBit] at this
      cases this
theorem Less.stop {g : Nat → Nat} (L : Less g) {s u : Nat} (hs : s < 64) {k : Nat} (hu : u = again_ g k s) (hf : g u = u) : u = again_ g 6 s := by
  have h1 : again_ g (6 + k) s = again_ g 6 s := by rw [again_add, again_fix (L.fix6 hs) k]
  have h2 : again_ g (k + 6) s = u := by rw [again_add, ← hu, again_fix hf]
  rw [← h1, Nat.add_comm, h2]
theorem T.less (t : T) (f : Nat) : Less fun s => t.holding s f :=
  ⟨fun s => gath6 _, fun s i h => by
    have h : (t.holding s f).testBit i = true := h
    rw [holding_bit] at h
    simp only [Bool.and_eq_true] at h
    exact h.2.1⟩
theorem T.offd_lt (t : T) : t.offd < 64 := gath6 _
theorem T.joiners_lt (t : T) (f : Nat) : t.joiners f < 64 := (t.less f).iter_lt t.offd_lt 6
theorem T.joiners_sub (t : T) (f : Nat) : ∀ i, (t.joiners f).testBit i = true → t.offd.testBit i = true := by
  have : ∀ k i, (again_ (fun s => t.holding s f) k t.offd).testBit i = true → t.offd.testBit i = true := by
    intro k
    induction k with
    | zero => exact fun i h => h
    | succ k ih =>
      intro i h
      rw [again_succ] at h
      exact ih i ((t.less f).sub _ i h)
  exact this 6
theorem lt_of_sub {s t : Nat} (hs : s < 64) (ht : t < 64) (h : ∀ i, t.testBit i = true → s.testBit i = true) (hne : t ≠ s) : t < s := by
  have hle : t ≤ s := by
    have e : t &&& s = t := by
      apply Nat.eq_of_testBit_eq
      intro i
      rw [Nat.testBit_and]
      cases hb : t.testBit i with
      | false => rfl
      | true => rw [h i hb]; rfl
    rw [← e]
    exact Nat.and_le_right
  omega
end Mi
namespace Mi
open Km485 (count without inside bits again_)
structure RT (n : Nat) (t : T) (x : Km485.Treaty) : Prop where
  need : x.need = t.need
  arts : x.articles = t.arts.map fun p => (⟨p.1, p.2⟩ : Km485.Article)
  turn : x.turn = t.turn
  mem : x.members = t.mem
  res : x.reserved = t.res
  lo : t.offs.length = 6
  lr : t.res.length = 6
  lb : t.obj.length = 6
  offs : ∀ i, i < 6 → t.off i = (x.offers.find? fun o => o.state == i).map fun o => (o.need, o.named)
  ond : (x.offers.map (·.state)).Nodup
  ost : ∀ o ∈ x.offers, o.state < n
  objs : ∀ j i, (t.row j).testBit i = x.objects.contains (j, i)
  rowlt : ∀ r ∈ t.obj, r < 64
  obnd : x.objects.Nodup
  obn : ∀ p ∈ x.objects, p.1 < n ∧ p.2 < n
  ml : t.mem < 2 ^ n
  t0 : t.turn = 0 → t.mem = 0
  rl : ∀ r ∈ t.res, r < 64
  al : t.arts.length ≤ 4
  rm : ∀ i, t.mem.testBit i = false → t.rsv i = 0
  om : ∀ p ∈ x.objects, t.mem.testBit p.1 = true ∧ t.rsv p.2 ≠ 0
  self : ∀ p ∈ x.objects, p.1 ≠ p.2
theorem pow6 {n : Nat} (h : n ≤ 6) : 2 ^ n ≤ 64 := Nat.pow_le_pow_right (by decide) h
theorem getD_lt {l : List Nat} {b : Nat} (hb : 0 < b) (h : ∀ r ∈ l, r < b) (i : Nat) : l.getD i 0 < b := by
  rw [List.getD_eq_getElem?_getD]
  cases e : l[i]? with
  | none => exact hb
  | some v => exact h v (List.mem_of_getElem? e)
section
variable {n : Nat} {t : T} {x : Km485.Treaty}
theorem RT.m64 (h : RT n t x) (hn : n ≤ 6) : t.mem < 64 := Nat.lt_of_lt_of_le h.ml (pow6 hn)
theorem RT.row64 (h : RT n t x) (j : Nat) : t.row j < 64 := getD_lt (by decide) h.rowlt j
theorem RT.rsv64 (h : RT n t x) (j : Nat) : t.rsv j < 64 := getD_lt (by decide) h.rl j
theorem find_some {l : List Km485.Offer} {i : Nat} : ((l.find? fun o => o.state == i).isSome) = decide (i ∈ l.map (·.state)) := by
  induction l with
  | nil => rfl
  | cons a l ih =>
    rw [List.find?_cons]
    by_cases e : a.state = i
    · simp [e]
    · have e' : ¬ i = a.state := fun z => e z.symm
      rw [beq_false_of_ne e]
      simp only [ih, List.map_cons, List.mem_cons, e', false_or]
theorem RT.st6 (h : RT n t x) (hn : n ≤ 6) : ∀ j ∈ x.offers.map (·.state), j < 6 := fun j hj => by
  obtain ⟨o, ho, rfl⟩ := List.mem_map.mp hj
  exact Nat.lt_of_lt_of_le (h.ost o ho) hn
theorem RT.offd (h : RT n t x) (hn : n ≤ 6) : x.offerers = t.offd := by
  obtain ⟨h1, h2⟩ := bits_ok (h.st6 hn) h.ond
  refine ext6 h1 t.offd_lt fun i hi => ?_
  show (bits _).testBit i = _
  rw [h2 i hi, T.offd, gath_bit, h.offs i hi, Option.isSome_map, find_some]
  simp [hi]
theorem RT.off_bit (h : RT n t x) (hn : n ≤ 6) {i : Nat} (hi : i < 6) : t.offd.testBit i = (t.off i).isSome := by
  rw [T.offd, gath_bit]; simp [hi]
theorem foldl_cnt : ∀ (l : List Nat) (acc : Nat), acc < 64 → (∀ j ∈ l, j < 6 ∧ acc.testBit j = false) → l.Nodup →
    count ((l.map fun i => 2 ^ i).foldl (· + ·) acc) = count acc + l.length
  | [], acc, h, _, _ => rfl
  | a :: l, acc, h, hj, nd => by
    obtain ⟨ha, hb⟩ := hj a List.mem_cons_self
    obtain ⟨n1, n2⟩ := List.nodup_cons.mp nd
    rw [List.map_cons, List.foldl_cons, add_or acc h a ha hb]
    rw [foldl_cnt l (acc ||| 2 ^ a) (or_lt acc h a ha) (fun j hjl => by
      obtain ⟨q1, q2⟩ := hj j (List.mem_cons_of_mem _ hjl)
      refine ⟨q1, ?_⟩
      rw [or_bit acc h a ha j q1, q2]
      have : a ≠ j := fun e => n1 (e ▸ hjl)
      rw [beq_false_of_ne this]; rfl) n2, cnt_or acc h a ha, hb, List.length_cons]
    simp
    omega
theorem RT.olen (h : RT n t x) (hn : n ≤ 6) : count t.offd = x.offers.length := by
  rw [← h.offd hn]
  show count ((((x.offers.map (·.state)).map fun i => 2 ^ i)).foldl (· + ·) 0) = _
  rw [foldl_cnt _ 0 (by decide) (fun j hj => ⟨h.st6 hn j hj, Nat.zero_testBit j⟩) h.ond, List.length_map]
  have : count 0 = 0 := by decide +kernel
  omega
theorem any_find {P : Km485.Offer → Bool} {i : Nat} : ∀ {l : List Km485.Offer}, (l.map (·.state)).Nodup →
    (l.any fun o => o.state == i && P o) = (match l.find? (fun o => o.state == i) with | some o => P o | none => false)
  | [], _ => rfl
  | a :: l, nd => by
    rw [List.map_cons] at nd
    obtain ⟨n1, n2⟩ := List.nodup_cons.mp nd
    rw [List.any_cons, List.find?_cons]
    by_cases e : a.state = i
    · have : (l.any fun o => o.state == i && P o) = false := by
        rw [List.any_eq_false]
        intro o ho
        have : o.state ≠ i := fun z => n1 (by rw [e, ← z]; exact List.mem_map_of_mem ho)
        rw [beq_false_of_ne this]
        simp
      rw [this]
      simp [e]
    · rw [beq_false_of_ne e, Bool.false_and, Bool.false_or]
      exact any_find n2
theorem find_state {l : List Km485.Offer} {i : Nat} {o : Km485.Offer} (h : l.find? (fun o => o.state == i) = some o) : o.state = i := by
  have := List.find?_some h
  simpa using this
theorem RT.met (h : RT n t x) (hn : n ≤ 6) (f s i : Nat) (hs : s < 64) (hi : i < 6) (hb : s.testBit i = true) (ho : (t.off i).isSome = true) : (x.waived f).met s i = t.holds i s f := by
  unfold Km485.Treaty.met Km485.Treaty.waived
  show (x.offers.map _).any _ = _
  rw [List.any_map]
  have e : (x.offers.any ((fun o : Km485.Offer => o.state == i && (decide (o.need ≤ count (without s i)) && inside o.named s)) ∘ fun o : Km485.Offer => if f.testBit o.state = true then { o with need := 0, named := 0 } else o)) =
      x.offers.any fun o => o.state == i && ((f.testBit o.state) || (decide (o.need ≤ count (without s i)) && inside o.named s)) := by
    congr 1
    funext o
    show (_ == i && _) = _
    by_cases hf : f.testBit o.state = true
    · simp only [hf, if_true, Bool.true_or]
      have : inside 0 s = true := by unfold inside; simp
      simp [this]
    · simp only [hf, if_false, Bool.false_eq_true]
      simp at hf
      simp [hf]
  rw [e, any_find h.ond]
  unfold T.holds
  have hoi := h.offs i hi
  cases q : x.offers.find? (fun o => o.state == i) with
  | none => rw [hoi, q] at ho; cases ho
  | some o =>
    rw [q] at hoi
    rw [hoi]
    have es := find_state q
    simp only [Option.map_some, es]
    by_cases hf : f.testBit i = true
    · simp [hf]
    · have hf' : f.testBit i = false := by simpa using hf
      rw [if_neg hf, hf', Bool.false_or]
      have hc := cnt_wo s hs i hi
      rw [hb] at hc
      simp at hc
      congr 1
      rw [decide_eq_decide]
      omega
theorem gath_congr {p q : Nat → Bool} : ∀ {k : Nat}, (∀ i, i < k → p i = q i) → gath p k = gath q k
  | 0, _ => rfl
  | k + 1, h => by
    unfold gath
    rw [h k (Nat.lt_succ_self k), gath_congr fun i hi => h i (Nat.lt_succ_of_lt hi)]
theorem RT.fewer (h : RT n t x) (hn : n ≤ 6) (f s : Nat) (hs : s < 64) (hsub : ∀ i, s.testBit i = true → t.offd.testBit i = true) : (x.waived f).fewer s = t.holding s f := by
  unfold Km485.Treaty.fewer T.holding
  rw [bits_gath]
  refine gath_congr fun i hi => ?_
  cases hb : s.testBit i with
  | false => rfl
  | true =>
    have ho : (t.off i).isSome = true := by rw [← h.off_bit hn hi]; exact hsub i hb
    rw [h.met hn f s i hs hi hb ho]
theorem RT.joiners (h : RT n t x) (hn : n ≤ 6) (f : Nat) : (x.waived f).joiners = t.joiners f := by
  unfold Km485.Treaty.joiners T.joiners
  have e : (x.waived f).offerers = t.offd := by
    rw [← h.offd hn]
    unfold Km485.Treaty.offerers Km485.Treaty.waived
    show bits ((x.offers.map _).map _) = _
    rw [List.map_map]
    congr 1
    refine List.map_congr_left fun o _ => ?_
    show (if f.testBit o.state = true then _ else o : Km485.Offer).state = o.state
    split <;> rfl
  rw [e]
  have : ∀ k s, s < 64 → (∀ i, s.testBit i = true → t.offd.testBit i = true) → again_ (x.waived f).fewer k s = again_ (fun s => t.holding s f) k s := by
    intro k
    induction k with
    | zero => intros; rfl
    | succ k ih =>
      intro s hs hsub
      show again_ _ k ((x.waived f).fewer s) = again_ _ k (t.holding s f)
      rw [h.fewer hn f s hs hsub]
      exact ih _ (gath6 _) fun i hi => hsub i ((t.less f).sub s i hi)
  exact this 6 t.offd t.offd_lt fun i hi => hi
theorem waived0 (x : Km485.Treaty) : x.waived 0 = x := by
  unfold Km485.Treaty.waived
  have : (x.offers.map fun o => if (0 : Nat).testBit o.state = true then ({ o with need := 0, named := 0 } : Km485.Offer) else o) = x.offers := by
    conv => rhs; rw [← List.map_id x.offers]
    refine List.map_congr_left fun o _ => ?_
    rw [Nat.zero_testBit]
    rfl
  rw [this]
theorem RT.joiners0 (h : RT n t x) (hn : n ≤ 6) : x.joiners = t.joiners 0 := by
  rw [← h.joiners hn 0, waived0]
theorem T.joiners_all (t : T) : t.joiners t.offd = t.offd := by
  unfold T.joiners
  apply again_fix
  refine ext6 (gath6 _) t.offd_lt fun i hi => ?_
  rw [holding_bit]
  cases hb : t.offd.testBit i with
  | false => simp
  | true =>
    have : t.holds i t.offd t.offd = true := by unfold T.holds; rw [if_pos hb]
    simp [hi, this]
theorem T.enough_all (t : T) {f : Nat} (h : t.enough f = true) : t.enough t.offd = true := by
  unfold T.enough at h ⊢
  rw [T.joiners_all]
  have h1 := of_decide_eq_true h
  have h2 : count (t.joiners f) ≤ count t.offd := count_sub fun i _ hb => t.joiners_sub f i hb
  exact decide_eq_true (by omega)
theorem and_self_sub {i s : Nat} (h : (i &&& s == i) = true) : ∀ k, i.testBit k = true → s.testBit k = true := fun k hk => by
  have e := eq_of_beq h
  rw [← e, Nat.testBit_and] at hk
  simp only [Bool.and_eq_true] at hk
  exact hk.2
theorem inside_le {i s : Nat} (h : (i &&& s == i) = true) : i ≤ s := by
  have e := eq_of_beq h
  rw [← e]
  exact Nat.and_le_right
theorem cnt_strict {i s : Nat} (hs : s < 64) (h : (i &&& s == i) = true) (hne : i < s) : count i < count s := by
  have hi : i < 64 := by omega
  apply Nat.lt_of_not_le
  intro hle
  have := count_eq hs hi (and_self_sub h) hle
  omega
def pick (o : Option Nat) (s : Nat) : Option Nat := match o with
  | none => some s
  | some r => if count s < count r then some s else some r
def firstF (P : Nat → Bool) (k : Nat) : Option Nat := ((List.range k).filter P).foldl pick none
theorem firstF_succ (P : Nat → Bool) (k : Nat) : firstF P (k + 1) = if P k = true then pick (firstF P k) k else firstF P k := by
  unfold firstF
  rw [List.range_succ, List.filter_append, List.foldl_append]
  by_cases h : P k = true
  · rw [if_pos h]; simp [h]
  · rw [if_neg h]; simp [h]
theorem firstF_none {P : Nat → Bool} {k : Nat} (h : ∀ i, i < k → P i = false) : firstF P k = none := by
  unfold firstF
  have : (List.range k).filter P = [] := by
    rw [List.filter_eq_nil_iff]
    intro i hi
    simp [h i (List.mem_range.mp hi)]
  rw [this]; rfl
theorem T.firstTo_eq (t : T) : ∀ k, k ≤ t.offd → t.firstTo k = (firstF (fun i => (i &&& t.offd == i) && t.enough i) k).getD t.offd ∧
    ∀ r, firstF (fun i => (i &&& t.offd == i) && t.enough i) k = some r → count r < count t.offd
  | 0, _ => ⟨rfl, fun r h => by cases h⟩
  | k + 1, hk => by
    obtain ⟨ih, ih2⟩ := t.firstTo_eq k (by omega)
    rw [firstF_succ]
    unfold T.firstTo
    rw [ih]
    by_cases h1 : (k &&& t.offd == k) = true
    · have hlt := cnt_strict t.offd_lt h1 (by omega)
      by_cases h2 : t.enough k = true
      · simp only [h1, h2, Bool.true_and, Bool.and_true, if_true]
        cases q : firstF (fun i => (i &&& t.offd == i) && t.enough i) k with
        | none =>
          simp only [Option.getD_none, pick, decide_eq_true_eq, hlt, if_true, Option.getD_some]
          exact ⟨trivial, fun r e => by cases e; exact hlt⟩
        | some r =>
          have hr := ih2 r q
          simp only [Option.getD_some, pick, decide_eq_true_eq]
          by_cases h3 : count k < count r
          · rw [if_pos h3, if_pos h3]
            exact ⟨rfl, fun r' e => by cases e; omega⟩
          · rw [if_neg h3, if_neg h3]
            exact ⟨rfl, fun r' e => by cases e; omega⟩
      · simp [h2]
        exact fun r e => ih2 r (by simpa using e)
    · simp [h1]
      exact fun r e => ih2 r (by simpa using e)
end
theorem RT.first {n : Nat} {t : T} {x : Km485.Treaty} (h : RT n t x) (hn : n ≤ 6) {b : Km485.Book} {k : Nat} (hb : b.treaty k = x) (hbn : b.n = n) :
    b.first k = if t.enough t.offd = true then some t.first else none := by
  have e : b.first k = firstF (fun i => (i &&& t.offd == i) && t.enough i) (2 ^ n) := by
    unfold Km485.Book.first firstF
    rw [hb, hbn]
    congr 1
    refine List.filter_congr fun i _ => ?_
    rw [h.offd hn, h.joiners hn, h.need]
    rfl
  rw [e]
  have hoff : t.offd < 2 ^ n := by
    apply Nat.lt_pow_two_of_testBit
    intro i hi
    by_cases h6 : i < 6
    · rw [h.off_bit hn h6, h.offs i h6, Option.isSome_map, find_some]
      apply decide_eq_false
      intro hm
      obtain ⟨o, ho, hoi⟩ := List.mem_map.mp hm
      have := h.ost o ho
      omega
    · exact bit64 t.offd_lt (by omega)
  by_cases he : t.enough t.offd = true
  · rw [if_pos he]
    have key : ∀ m, firstF (fun i => (i &&& t.offd == i) && t.enough i) (t.offd + 1 + m) = some t.first := by
      intro m
      induction m with
      | zero =>
        rw [Nat.add_zero, firstF_succ]
        obtain ⟨e1, e2⟩ := t.firstTo_eq t.offd (Nat.le_refl _)
        have hself : (t.offd &&& t.offd == t.offd) = true := by simp
        rw [if_pos (by simp only [hself, he, Bool.and_self])]
        unfold T.first
        rw [e1]
        cases q : firstF (fun i => (i &&& t.offd == i) && t.enough i) t.offd with
        | none => rfl
        | some r =>
          have := e2 r q
          unfold pick
          simp only [Option.getD_some]
          rw [if_neg (by omega)]
      | succ m ih =>
        rw [← Nat.add_assoc, firstF_succ, ih]
        have : ((t.offd + 1 + m) &&& t.offd == (t.offd + 1 + m)) = false := by
          cases q : ((t.offd + 1 + m) &&& t.offd == (t.offd + 1 + m)) with
          | false => rfl
          | true => have := inside_le q; omega
        rw [if_neg (by rw [this]; simp)]
    have := key (2 ^ n - (t.offd + 1))
    rwa [show t.offd + 1 + (2 ^ n - (t.offd + 1)) = 2 ^ n by omega] at this
  · rw [if_neg he]
    refine firstF_none fun i _ => ?_
    cases q : t.enough i with
    | false => simp
    | true => exact absurd (t.enough_all q) he
end Mi
namespace Mi
open Km485 (count without inside bits again_)
theorem both_bits (m i j : Nat) : (m &&& (2 ^ i ||| 2 ^ j) == 2 ^ i ||| 2 ^ j) = (m.testBit i && m.testBit j) := by
  rw [Bool.eq_iff_iff]
  simp only [beq_iff_eq, Bool.and_eq_true]
  constructor
  · intro e
    have hb : ∀ k, (m &&& (2 ^ i ||| 2 ^ j)).testBit k = (2 ^ i ||| 2 ^ j).testBit k := fun k => by rw [e]
    have h1 := hb i
    have h2 := hb j
    simp only [Nat.testBit_and, Nat.testBit_or, Nat.testBit_two_pow, decide_true, Bool.true_or, Bool.or_true, Bool.and_true] at h1 h2
    exact ⟨h1, h2⟩
  · rintro ⟨h1, h2⟩
    apply Nat.eq_of_testBit_eq
    intro k
    simp only [Nat.testBit_and, Nat.testBit_or, Nat.testBit_two_pow]
    by_cases e1 : i = k
    · subst e1; simp [h1]
    · by_cases e2 : j = k
      · subst e2; simp [h2]
      · simp [e1, e2]
section
variable {n : Nat} {t : T} {x : Km485.Treaty}
theorem RT.between (h : RT n t x) {i j : Nat} (hij : i ≠ j) : x.between i j = t.between i j := by
  unfold Km485.Treaty.between T.between
  rw [both_bits, h.turn, h.mem, ← h.objs, ← h.objs]
  have hij' : (i != j) = true := by simpa using hij
  rw [hij']
  by_cases h0 : t.turn = 0
  · have := h.t0 h0
    rw [this]
    simp [h0]
  · have : (t.turn != 0) = true := by simpa using h0
    rw [this]
    cases t.mem.testBit i <;> cases t.mem.testBit j <;> simp
theorem RT.applies (h : RT n t x) {i j : Nat} (hij : i ≠ j) (a : Nat) : x.applies i j a = t.applies i j a := by
  unfold Km485.Treaty.applies T.applies
  rw [h.between hij, h.res]
  rfl
theorem T.between_comm (t : T) (i j : Nat) : t.between i j = t.between j i := by
  unfold T.between
  rw [both_bits, both_bits]
  cases t.mem.testBit i <;> cases t.mem.testBit j <;> cases (t.row i).testBit j <;> cases (t.row j).testBit i <;> rfl
theorem T.applies_comm (t : T) (i j a : Nat) : t.applies i j a = t.applies j i a := by
  unfold T.applies
  rw [T.between_comm]
  cases t.between j i <;> cases (t.rsv i).testBit a <;> cases (t.rsv j).testBit a <;> rfl
theorem T.lastTo_comm (t : T) (i j s : Nat) : ∀ k, t.lastTo i j s k = t.lastTo j i s k
  | 0 => rfl
  | k + 1 => by unfold T.lastTo; rw [T.applies_comm, T.lastTo_comm t i j s k]
theorem T.last_comm (t : T) (i j s : Nat) : t.last i j s = t.last j i s := T.lastTo_comm t i j s _
theorem W.aheadTo_comm (w : W) (i j s : Nat) : ∀ k, w.aheadTo i j s k = w.aheadTo j i s k
  | 0 => rfl
  | k + 1 => by unfold W.aheadTo; rw [T.last_comm, W.aheadTo_comm w i j s k]
theorem W.ahead_comm (w : W) (i j s : Nat) : w.ahead i j s = w.ahead j i s := by unfold W.ahead; rw [W.aheadTo_comm]
theorem RT.art (h : RT n t x) (a : Nat) : (x.articles.getD a ⟨0, 0⟩) = ⟨(t.arts.getD a (0, 0)).1, (t.arts.getD a (0, 0)).2⟩ := by
  rw [h.arts, List.getD_eq_getElem?_getD, List.getD_eq_getElem?_getD, List.getElem?_map]
  cases t.arts[a]? <;> rfl
def T.onTo (t : T) (i j s k : Nat) : List Nat := (List.range k).filter fun a => ((t.arts.getD a (0, 0)).1 == s) && t.applies i j a
theorem T.lastTo_on (t : T) (i j s : Nat) : ∀ k, t.lastTo i j s k = (t.onTo i j s k).getLast?
  | 0 => rfl
  | k + 1 => by
    unfold T.lastTo T.onTo
    rw [List.range_succ, List.filter_append]
    by_cases h : (((t.arts.getD k (0, 0)).1 == s) && t.applies i j k) = true
    · rw [if_pos h]; simp only [List.filter_cons, h, if_true, List.filter_nil, List.getLast?_append, List.getLast?_singleton, Option.some_or]
    · rw [if_neg h, T.lastTo_on t i j s k]
      have hf : (((t.arts.getD k (0, 0)).1 == s) && t.applies i j k) = false := by simpa using h
      simp only [List.filter_cons, hf, Bool.false_eq_true, if_false, List.filter_nil, List.append_nil]
      rfl
theorem T.lastTo_lt (t : T) (i j s : Nat) : ∀ k a, t.lastTo i j s k = some a → a < k ∧ t.applies i j a = true
  | 0, a, h => by cases h
  | k + 1, a, h => by
    unfold T.lastTo at h
    split at h
    · rename_i hc
      cases h
      simp only [Bool.and_eq_true] at hc
      exact ⟨by omega, hc.2⟩
    · obtain ⟨h1, h2⟩ := T.lastTo_lt t i j s k a h
      exact ⟨by omega, h2⟩
theorem RT.applies_turn (h : RT n t x) {i j a : Nat} (ha : t.applies i j a = true) : 0 < t.turn := by
  apply Nat.pos_of_ne_zero
  intro h0
  unfold T.applies T.between at ha
  rw [h.t0 h0, both_bits, Nat.zero_testBit] at ha
  simp at ha
end
inductive All2 {α β : Type} (P : α → β → Prop) : List α → List β → Prop where
  | nil : All2 P [] []
  | cons {a : α} {b : β} {l : List α} {m : List β} : P a b → All2 P l m → All2 P (a :: l) (b :: m)
section
variable {α β : Type} {P Q : α → β → Prop}
theorem All2.len : ∀ {l : List α} {m : List β}, All2 P l m → l.length = m.length
  | _, _, .nil => rfl
  | _, _, .cons _ t => congrArg (· + 1) t.len
theorem All2.get : ∀ {l : List α} {m : List β}, All2 P l m → ∀ {i : Nat} {a : α}, l[i]? = some a → ∃ b, m[i]? = some b ∧ P a b
  | _, _, .nil, i, a, h => by simp at h
  | _, _, .cons h t, 0, a, e => by simp at e; subst e; exact ⟨_, rfl, h⟩
  | _, _, .cons h t, i + 1, a, e => by
    obtain ⟨b, h1, h2⟩ := t.get (i := i) (a := a) (by simpa using e)
    exact ⟨b, by simpa using h1, h2⟩
theorem All2.getD : ∀ {l : List α} {m : List β}, All2 P l m → ∀ {i : Nat} (a : α) (b : β), i < l.length → P (l.getD i a) (m.getD i b)
  | _, _, .nil, i, a, b, h => by simp at h
  | _, _, .cons h t, 0, a, b, e => h
  | _, _, .cons h t, i + 1, a, b, e => t.getD (i := i) a b (by simpa using e)
theorem All2.set : ∀ {l : List α} {m : List β}, All2 P l m → ∀ (i : Nat) {a : α} {b : β}, P a b → All2 P (l.set i a) (m.set i b)
  | _, _, .nil, _, _, _, _ => .nil
  | _, _, .cons h t, 0, _, _, p => .cons p t
  | _, _, .cons h t, i + 1, _, _, p => .cons h (t.set i p)
theorem All2.append : ∀ {l l' : List α} {m m' : List β}, All2 P l m → All2 P l' m' → All2 P (l ++ l') (m ++ m')
  | _, _, _, _, .nil, s => s
  | _, _, _, _, .cons h t, s => .cons h (t.append s)
theorem All2.imp (f : ∀ a b, P a b → Q a b) : ∀ {l : List α} {m : List β}, All2 P l m → All2 Q l m
  | _, _, .nil => .nil
  | _, _, .cons h t => .cons (f _ _ h) (t.imp f)
theorem All2.maps {γ δ : Type} {S : γ → δ → Prop} {f : α → γ} {g : β → δ} (k : ∀ a b, P a b → S (f a) (g b)) : ∀ {l : List α} {m : List β}, All2 P l m → All2 S (l.map f) (m.map g)
  | _, _, .nil => .nil
  | _, _, .cons h t => .cons (k _ _ h) (t.maps k)
theorem All2.drop : ∀ {l : List α} {m : List β}, All2 P l m → ∀ n, All2 P (l.drop n) (m.drop n)
  | _, _, .nil, n => by simp; exact .nil
  | _, _, .cons h t, 0 => .cons h t
  | _, _, .cons h t, n + 1 => t.drop n
theorem All2.reverse : ∀ {l : List α} {m : List β}, All2 P l m → All2 P l.reverse m.reverse
  | _, _, .nil => .nil
  | _, _, .cons h t => by rw [List.reverse_cons, List.reverse_cons]; exact t.reverse.append (.cons h .nil)
end
structure RW (w : W) (b : Km485.Book) : Prop where
  n : b.n = w.n
  n2 : 2 ≤ w.n
  n6 : w.n ≤ 6
  ts : All2 (RT w.n) w.ts b.treaties
  tl : w.ts.length ≤ 4
  lf : w.fav.length = 6
  fl : ∀ r ∈ w.fav, r < 64
  fav : ∀ i j, (w.favs i).testBit j = b.favours.contains (i, j)
  fnd : b.favours.Nodup
  fn : ∀ p ∈ b.favours, p.1 < w.n ∧ p.2 < w.n
  turns : b.turns = w.turns
  tu : ∀ i j, i < w.ts.length → j < w.ts.length → (w.tr i).turn ≠ 0 → (w.tr i).turn = (w.tr j).turn → i = j
  tle : ∀ i, i < w.ts.length → (w.tr i).turn ≤ w.turns
section
variable {w : W} {b : Km485.Book}
theorem RW.tr (h : RW w b) {t : Nat} (ht : t < w.ts.length) : RT w.n (w.tr t) (b.treaty t) := h.ts.getD _ _ ht
theorem RW.len (h : RW w b) : b.treaties.length = w.ts.length := h.ts.len.symm
def stepR (b : Km485.Book) (o : Option (Nat × Nat)) (x : Nat × Nat) : Option (Nat × Nat) := match o with
  | none => some x
  | some y => if (b.treaty y.1).turn ≤ (b.treaty x.1).turn then some x else some y
theorem fold_one (b : Km485.Book) (t : Nat) : ∀ (l : List Nat) (o : Option (Nat × Nat)), (l.map fun a => (t, a)).foldl (stepR b) o =
    match l.getLast? with
    | none => o
    | some a => stepR b o (t, a)
  | [], o => rfl
  | [a], o => rfl
  | a :: c :: l, o => by
    rw [List.map_cons, List.foldl_cons, fold_one b t (c :: l) (stepR b o (t, a)), List.getLast?_cons_cons]
    cases e : (c :: l).getLast? with
    | none => simp at e
    | some z =>
      show stepR b (stepR b o (t, a)) (t, z) = stepR b o (t, z)
      cases o with
      | none => simp [stepR]
      | some y =>
        by_cases h : (b.treaty y.1).turn ≤ (b.treaty t).turn
        · simp [stepR, h]
        · simp [stepR, h]
theorem W.aheadTo_succ (w : W) (i j s t : Nat) : w.aheadTo i j s (t + 1) = (match (w.tr t).last i j s with
    | some a => if (w.aheadTo i j s t).2 < (w.tr t).turn then (some (t, a), (w.tr t).turn) else w.aheadTo i j s t
    | none => w.aheadTo i j s t) := rfl
theorem RW.rule_aux (h : RW w b) {i j : Nat} (hij : i ≠ j) (s : Nat) : ∀ k, k ≤ w.ts.length →
    ((List.range k).flatMap fun t => ((List.range (b.treaty t).articles.length).filter fun a => (((b.treaty t).articles.getD a ⟨0, 0⟩).subject == s) && (b.treaty t).applies i j a).map fun a => (t, a)).foldl (stepR b) none = (w.aheadTo i j s k).1 ∧
    (w.aheadTo i j s k).2 = (match (w.aheadTo i j s k).1 with | none => 0 | some y => (w.tr y.1).turn) ∧ ∀ y, (w.aheadTo i j s k).1 = some y → y.1 < k ∧ 0 < (w.tr y.1).turn ∧ y.2 < (w.tr y.1).arts.length
  | 0, _ => ⟨rfl, rfl, fun y e => by cases e⟩
  | k + 1, hk => by
    obtain ⟨i1, i2, i3⟩ := h.rule_aux hij s k (by omega)
    have hR := h.tr (t := k) (by omega)
    rw [List.range_succ, List.flatMap_append, List.foldl_append, i1, List.flatMap_cons, List.flatMap_nil, List.append_nil, fold_one]
    have e1 : ((List.range (b.treaty k).articles.length).filter fun a => (((b.treaty k).articles.getD a ⟨0, 0⟩).subject == s) && (b.treaty k).applies i j a) = (w.tr k).onTo i j s (w.tr k).arts.length := by
      unfold T.onTo
      have : (b.treaty k).articles.length = (w.tr k).arts.length := by rw [hR.arts, List.length_map]
      rw [this]
      refine List.filter_congr fun a _ => ?_
      rw [hR.art a, hR.applies hij]
    rw [e1, ← T.lastTo_on]
    have e2 : (w.tr k).lastTo i j s (w.tr k).arts.length = (w.tr k).last i j s := rfl
    rw [e2, W.aheadTo_succ]
    cases q : (w.tr k).last i j s with
    | none => exact ⟨rfl, i2, fun y e => ⟨by have := (i3 y e).1; omega, (i3 y e).2⟩⟩
    | some a =>
      obtain ⟨ha, hap⟩ := T.lastTo_lt _ _ _ _ _ _ q
      have hpos := hR.applies_turn hap
      cases e : (w.aheadTo i j s k).1 with
      | none =>
        rw [e] at i2
        have i2 : (w.aheadTo i j s k).2 = 0 := i2
        simp only [i2, hpos, if_true]
        exact ⟨rfl, trivial, fun y z => by cases z; exact ⟨by omega, hpos, ha⟩⟩
      | some y =>
        obtain ⟨y1, y2, y3⟩ := i3 y e
        rw [e] at i2
        have i2 : (w.aheadTo i j s k).2 = (w.tr y.1).turn := i2
        have hy := h.tr (t := y.1) (by omega)
        have hne : (w.tr y.1).turn ≠ (w.tr k).turn := fun z => by
          have := h.tu y.1 k (by omega) (by omega) (by omega) z
          omega
        show stepR b (some y) (k, a) = _ ∧ _
        unfold stepR
        simp only [i2, hy.turn, hR.turn]
        by_cases hlt : (w.tr y.1).turn < (w.tr k).turn
        · rw [if_pos (by omega), if_pos hlt]
          exact ⟨rfl, rfl, fun y' z => by cases z; exact ⟨by omega, hpos, ha⟩⟩
        · rw [if_neg (by omega), if_neg hlt]
          refine ⟨e.symm, ?_, fun y' z => ?_⟩
          · rw [e, i2]
          · rw [e] at z; cases z; exact ⟨by omega, y2, y3⟩
theorem RW.rule (h : RW w b) {i j : Nat} (hij : i ≠ j) (s : Nat) : b.rule i j s = w.ahead i j s := by
  have := (h.rule_aux hij s w.ts.length (Nat.le_refl _)).1
  unfold Km485.Book.rule Km485.Book.on W.ahead
  rw [h.len]
  exact this
theorem RW.ahead_in (h : RW w b) {i j : Nat} (hij : i ≠ j) (s : Nat) {y : Nat × Nat} (e : w.ahead i j s = some y) : y.1 < w.ts.length ∧ y.2 < (w.tr y.1).arts.length := by
  obtain ⟨h1, _, h3⟩ := (h.rule_aux hij s w.ts.length (Nat.le_refl _)).2.2 y e
  exact ⟨h1, h3⟩
theorem RW.most (h : RW w b) {i j : Nat} (hij : i ≠ j) (s : Nat) : b.most i j s = w.allowed i j s := by
  unfold Km485.Book.most W.allowed
  rw [h.rule hij]
  cases e : w.ahead i j s with
  | none => rfl
  | some y =>
    have hy := h.tr (t := y.1) (h.ahead_in hij s e).1
    show ((b.treaty y.1).articles.getD y.2 ⟨0, 0⟩).most = _
    rw [hy.art y.2]
    rfl
def W.takes (w : W) (i j s : Nat) : Nat := if (w.favs i).testBit j = true then (w.others i s).foldl min (w.allowed i j s) else w.allowed i j s
theorem RW.takes (h : RW w b) {i j : Nat} (hij : i ≠ j) (s : Nat) : b.takes i j s = w.takes i j s := by
  unfold Km485.Book.takes W.takes
  rw [h.fav i j, h.most hij]
  have : ((b.states.filter (· != i)).map fun k => b.most i k s) = w.others i s := by
    unfold Km485.Book.states W.others
    rw [h.n]
    have e : ((List.range w.n).filter (· != i)) = ((List.range w.n).filter fun k => !(k == i)) := rfl
    rw [e]
    refine List.map_congr_left fun k hk => ?_
    have hk := (List.mem_filter.mp hk).2
    have hki : k ≠ i := by simpa using hk
    exact h.most (fun z => hki z.symm) s
  rw [this]
theorem foldl_min_le : ∀ (l : List Nat) (a : Nat), l.foldl min a ≤ a ∧ ∀ y ∈ l, l.foldl min a ≤ y
  | [], a => ⟨Nat.le_refl _, fun y h => by cases h⟩
  | x :: l, a => by
    obtain ⟨h1, h2⟩ := foldl_min_le l (min a x)
    refine ⟨Nat.le_trans h1 (Nat.min_le_left _ _), fun y hy => ?_⟩
    rcases List.mem_cons.mp hy with rfl | hy
    · exact Nat.le_trans h1 (Nat.min_le_right _ _)
    · exact h2 y hy
theorem foldl_min_mem : ∀ (l : List Nat) (a : Nat), l.foldl min a = a ∨ l.foldl min a ∈ l
  | [], a => .inl rfl
  | x :: l, a => by
    rw [List.foldl_cons]
    rcases foldl_min_mem l (min a x) with h | h
    · rw [h]
      by_cases e : a ≤ x
      · left; exact Nat.min_eq_left e
      · right; rw [Nat.min_eq_right (by omega)]; exact List.mem_cons_self
    · right; exact List.mem_cons_of_mem _ h
theorem W.mem_others (w : W) {i j : Nat} (hij : j ≠ i) (hj : j < w.n) (s : Nat) : w.allowed i j s ∈ w.others i s := by
  unfold W.others
  refine List.mem_map.mpr ⟨j, List.mem_filter.mpr ⟨List.mem_range.mpr hj, by simpa using hij⟩, rfl⟩
theorem W.min_is (w : W) {i j : Nat} (hij : j ≠ i) (hj : j < w.n) (s : Nat) {m : Nat} (hm : m ∈ w.others i s) (hle : ∀ y ∈ w.others i s, m ≤ y) : (w.others i s).foldl min (w.allowed i j s) = m := by
  obtain ⟨h1, h2⟩ := foldl_min_le (w.others i s) (w.allowed i j s)
  have h3 := h2 m hm
  rcases foldl_min_mem (w.others i s) (w.allowed i j s) with h | h
  · have := hle _ (w.mem_others hij hj s)
    omega
  · have := hle _ h
    omega
def W.inner (w : W) (s i : Nat) : Nat → Nat × Nat
  | 0 => (0, 0)
  | j + 1 => ((w.inner s i j).1 + (if (w.ahead i j s).isSome then 1 else 0), (w.inner s i j).2 + (w.takes i j s + w.takes j i s))
def W.tabTo (w : W) (s : Nat) : Nat → Nat × Nat
  | 0 => (0, 0)
  | i + 1 => ((w.tabTo s i).1 + (w.inner s i i).1, (w.tabTo s i).2 + (w.inner s i i).2)
def W.table (w : W) (s : Nat) : Nat × Nat := w.tabTo s w.n
theorem range_lits : List.range 2 = [0, 1] ∧ List.range 3 = [0, 1, 2] ∧ List.range 4 = [0, 1, 2, 3] ∧ List.range 5 = [0, 1, 2, 3, 4] ∧ List.range 6 = [0, 1, 2, 3, 4, 5] := by decide
theorem len_filter_map {α : Type} (p : α → Bool) : ∀ l : List α, (l.filter p).length = (l.map fun a => if p a = true then 1 else 0).sum
  | [] => rfl
  | a :: l => by
    rw [List.map_cons, List.sum_cons, ← len_filter_map p l, List.filter_cons]
    split <;> simp <;> omega
theorem RW.sum (h : RW w b) (s : Nat) : b.sum s = (w.table s).2 := by
  unfold Km485.Book.sum Km485.Book.states W.table
  rw [h.n]
  have e : ((List.range w.n).flatMap fun i => ((List.range w.n).filter (· != i)).map fun j => b.takes i j s) = ((List.range w.n).flatMap fun i => ((List.range w.n).filter (· != i)).map fun j => w.takes i j s) := by
    congr 1
    funext i
    refine List.map_congr_left fun j hj => ?_
    have hj := (List.mem_filter.mp hj).2
    have hji : j ≠ i := by simpa using hj
    exact h.takes (fun z => hji z.symm) s
  rw [e]
  obtain ⟨r2, r3, r4, r5, r6⟩ := range_lits
  have hn : w.n = 2 ∨ w.n = 3 ∨ w.n = 4 ∨ w.n = 5 ∨ w.n = 6 := by have := h.n2; have := h.n6; omega
  rcases hn with hn | hn | hn | hn | hn <;> rw [hn]
  · rw [r2]; simp [W.tabTo, W.inner]; omega
  · rw [r3]; simp [W.tabTo, W.inner]; omega
  · rw [r4]; simp [W.tabTo, W.inner]; omega
  · rw [r5]; simp [W.tabTo, W.inner]; omega
  · rw [r6]; simp [W.tabTo, W.inner]; omega
theorem RW.ruled (h : RW w b) (s : Nat) : b.ruled s = (w.table s).1 := by
  unfold Km485.Book.ruled Km485.Book.pairs Km485.Book.states W.table
  rw [h.n]
  have e : (((List.range w.n).flatMap fun i => ((List.range w.n).filter fun j => decide (i < j)).map fun j => (i, j)).filter fun p => (b.rule p.1 p.2 s).isSome) = (((List.range w.n).flatMap fun i => ((List.range w.n).filter fun j => decide (i < j)).map fun j => (i, j)).filter fun p => (w.ahead p.2 p.1 s).isSome) := by
    refine List.filter_congr fun p hp => ?_
    obtain ⟨i, _, hp⟩ := List.mem_flatMap.mp hp
    obtain ⟨j, hj, rfl⟩ := List.mem_map.mp hp
    have hlt := of_decide_eq_true (List.mem_filter.mp hj).2
    rw [h.rule (by show i ≠ j; omega) s, W.ahead_comm]
  rw [e, len_filter_map]
  obtain ⟨r2, r3, r4, r5, r6⟩ := range_lits
  have hn : w.n = 2 ∨ w.n = 3 ∨ w.n = 4 ∨ w.n = 5 ∨ w.n = 6 := by have := h.n2; have := h.n6; omega
  rcases hn with hn | hn | hn | hn | hn <;> rw [hn]
  · rw [r2]; simp [W.tabTo, W.inner]
  · rw [r3]; simp [W.tabTo, W.inner] <;> omega
  · rw [r4]; simp [W.tabTo, W.inner] <;> omega
  · rw [r5]; simp [W.tabTo, W.inner] <;> omega
  · rw [r6]; simp [W.tabTo, W.inner] <;> omega
end
end Mi
namespace Mi
open Km485 (count without inside bits again_)
abbrev Out := List Int × W
def W.put (w : W) (t : Nat) (x : T) : W := { w with ts := w.ts.set t x }
def opTreaty (w : W) (k : Nat) : Out := if k < 2 ∨ w.n < k then ([-22], w) else if 4 ≤ w.ts.length then ([-28], w) else ([(w.ts.length : Int)], { w with ts := w.ts ++ [newT k] })
def opArticle (w : W) (t s x : Nat) : Out := if 4 ≤ s ∨ 100 < x then ([-22], w) else if 0 < (w.tr t).turn then ([-16], w) else if 4 ≤ (w.tr t).arts.length then ([-28], w) else
  ([((w.tr t).arts.length : Int)], w.put t { w.tr t with arts := (w.tr t).arts ++ [(s, x)] })
def opOffer (w : W) (t i k m : Nat) : Out := if w.n < k ∨ 2 ^ w.n ≤ m ∨ m.testBit i = true then ([-22], w) else if 0 < (w.tr t).turn then ([-16], w) else
  ([if ((w.tr t).off i).isSome = true then 1 else 0], w.put t { w.tr t with offs := (w.tr t).offs.set i (some (k, m)) })
def T.noOff (t : T) (i : Nat) : T := { t with offs := t.offs.set i none }
def opUnoffer (w : W) (t i : Nat) : Out := if 0 < (w.tr t).turn then ([-16], w) else if ((w.tr t).off i).isSome = false then ([-6], w) else
  ([(count ((w.tr t).noOff i).offd : Int)], w.put t ((w.tr t).noOff i))
def qJoiners (w : W) (t : Nat) : List Int := if 0 < (w.tr t).turn then [-16] else [(count ((w.tr t).joiners 0) : Int), ((w.tr t).joiners 0 : Nat)]
def qWaits (w : W) (t : Nat) : List Int := if 0 < (w.tr t).turn then [-16] else [(count ((w.tr t).offd ^^^ (w.tr t).joiners 0) : Int), ((w.tr t).offd ^^^ (w.tr t).joiners 0 : Nat)]
def qFirst (w : W) (t : Nat) : List Int := if 0 < (w.tr t).turn then [-16] else if (w.tr t).enough (w.tr t).offd = false then [-33] else [(count (w.tr t).first : Int), ((w.tr t).first : Nat)]
def opConclude (w : W) (t : Nat) : Out := if 0 < (w.tr t).turn then ([-17], w) else if (w.tr t).arts.length = 0 then ([-6], w) else if (w.tr t).enough 0 = false then ([-33], w) else
  ([(count ((w.tr t).joiners 0) : Int)], w.put t { w.tr t with turn := w.turns + 1, mem := (w.tr t).joiners 0 })
def opAccede (w : W) (t i : Nat) : Out := if (w.tr t).turn = 0 then ([-6], w) else if (w.tr t).mem.testBit i = true then ([-17], w) else
  ([(count ((w.tr t).mem ||| 2 ^ i) : Int)], w.put t { w.tr t with mem := (w.tr t).mem ||| 2 ^ i })
def opLeave (w : W) (t i : Nat) : Out := if (w.tr t).mem.testBit i = false then ([-6], w) else ([(count ((w.tr t).leave i).mem : Int)], w.put t ((w.tr t).leave i))
def opReserve (w : W) (t i a : Nat) : Out := if (w.tr t).mem.testBit i = false then ([-6], w) else if ((w.tr t).rsv i).testBit a = true then ([-17], w) else
  ([(count ((w.tr t).rsv i ||| 2 ^ a) : Int)], w.put t { w.tr t with res := (w.tr t).res.set i ((w.tr t).rsv i ||| 2 ^ a) })
def opUnreserve (w : W) (t i a : Nat) : Out := if ((w.tr t).rsv i).testBit a = false then ([-6], w) else ([(count (without ((w.tr t).rsv i) a) : Int)], w.put t ((w.tr t).unreserve i a))
def T.addObj (t : T) (j i : Nat) : T := { t with obj := t.obj.set j (t.row j ||| 2 ^ i) }
def T.delObj (t : T) (j i : Nat) : T := { t with obj := t.obj.set j (without (t.row j) i) }
def opObject (w : W) (t j i : Nat) : Out := if j = i then ([-22], w) else if (w.tr t).mem.testBit j = false ∨ (w.tr t).rsv i = 0 then ([-6], w) else if ((w.tr t).row j).testBit i = true then ([-17], w) else
  ([(((w.tr t).addObj j i).objections : Int)], w.put t ((w.tr t).addObj j i))
def opAccept (w : W) (t j i : Nat) : Out := if ((w.tr t).row j).testBit i = false then ([-6], w) else ([(((w.tr t).delObj j i).objections : Int)], w.put t ((w.tr t).delObj j i))
def W.addFav (w : W) (i j : Nat) : W := { w with fav := w.fav.set i (w.favs i ||| 2 ^ j) }
def W.delFav (w : W) (i j : Nat) : W := { w with fav := w.fav.set i (without (w.favs i) j) }
def opFavour (w : W) (i j : Nat) : Out := if i = j then ([-22], w) else if (w.favs i).testBit j = true then ([-17], w) else ([((w.addFav i j).allFav : Int)], w.addFav i j)
def opUnfavour (w : W) (i j : Nat) : Out := if (w.favs i).testBit j = false then ([-6], w) else ([((w.delFav i j).allFav : Int)], w.delFav i j)
def opPart (w : W) (i mode : Nat) : Out := if 1 < mode then ([-22], w) else if 6 ≤ w.n then ([-28], w) else ([(w.n : Int)], w.part i (mode == 1))
def qMembers (w : W) (t : Nat) : List Int := [(count (w.tr t).mem : Int), ((w.tr t).mem : Nat), ((w.tr t).turn : Nat)]
def qBetween (w : W) (t i j : Nat) : List Int := if i = j then [-22] else [if (w.tr t).between i j = true then 1 else 0]
def qApplies (w : W) (t i j a : Nat) : List Int := if i = j then [-22] else [if (w.tr t).applies i j a = true then 1 else 0]
def qRule (w : W) (i j s : Nat) : List Int := if i = j ∨ 4 ≤ s then [-22] else match w.ahead i j s with
  | none => [-33]
  | some x => [(x.1 : Int), (x.2 : Nat), (w.amount x.1 x.2 : Nat)]
def qTakes (w : W) (i j s : Nat) : List Int := if i = j ∨ 4 ≤ s then [-22] else [(w.takes i j s : Int)]
def qTable (w : W) (s : Nat) : List Int := if 4 ≤ s then [-22] else [((w.table s).1 : Int), ((w.table s).2 : Nat)]
def qTold (w : W) (t : Nat) : List Int := [((w.tr t).arts.length : Int), ((w.tr t).need : Nat)] ++ ((w.tr t).arts.flatMap fun p => [((p.1 : Nat) : Int), ((p.2 : Nat) : Int)]) ++ (List.replicate (4 - (w.tr t).arts.length) [(0 : Int), 0]).flatten
theorem getD_set {α : Type} (l : List α) (i j : Nat) (a d : α) (hi : i < l.length) : (l.set i a).getD j d = if i = j then a else l.getD j d := by
  rw [List.getD_eq_getElem?_getD, List.getD_eq_getElem?_getD]
  by_cases e : i = j
  · subst e; rw [List.getElem?_set_self hi, if_pos rfl]; rfl
  · rw [List.getElem?_set_ne e, if_neg e]
theorem mem_set_lt {b : Nat} {l : List Nat} (h : ∀ r ∈ l, r < b) {i a : Nat} (ha : a < b) : ∀ r ∈ l.set i a, r < b := fun r hr => by
  rcases List.mem_or_eq_of_mem_set hr with q | q
  · exact h r q
  · rw [q]; exact ha
theorem getD_map {l : List Nat} {f : Nat → Nat} (h0 : f 0 = 0) (i : Nat) : (l.map f).getD i 0 = f (l.getD i 0) := by
  rw [List.getD_eq_getElem?_getD, List.getD_eq_getElem?_getD, List.getElem?_map]
  cases l[i]? with
  | none => exact h0.symm
  | some v => rfl
theorem without0 (i : Nat) : without 0 i = 0 := by unfold without; rw [Nat.zero_testBit]; rfl
theorem bit_without (s i j : Nat) (hs : s < 64) (hi : i < 6) : (without s i).testBit j = (s.testBit j && !(i == j)) := by
  by_cases hj : j < 6
  · exact bit_wo s hs i hi j hj
  · rw [bit64 (wo_lt s hs i hi) (by omega), bit64 hs (by omega)]; rfl
theorem bit_or2 (s i j : Nat) : (s ||| 2 ^ i).testBit j = (s.testBit j || (i == j)) := by
  rw [Nat.testBit_or, Nat.testBit_two_pow]
  rfl
theorem sum_set_cnt : ∀ (l : List Nat) (j a : Nat), j < l.length → ((l.set j a).map count).sum + count (l.getD j 0) = (l.map count).sum + count a
  | [], j, a, h => by simp at h
  | x :: l, 0, a, h => by simp; omega
  | x :: l, j + 1, a, h => by
    have := sum_set_cnt l j a (by simpa using h)
    simp only [List.set_cons_succ, List.map_cons, List.sum_cons, List.getD_cons_succ] at this ⊢
    omega
structure Rows (n : Nat) (rows : List Nat) (ps : List (Nat × Nat)) : Prop where
  len : rows.length = 6
  lt : ∀ r ∈ rows, r < 64
  has : ∀ j i, (rows.getD j 0).testBit i = ps.contains (j, i)
  nd : ps.Nodup
  inn : ∀ p ∈ ps, p.1 < n ∧ p.2 < n
section
variable {n : Nat} {rows : List Nat} {ps : List (Nat × Nat)}
theorem Rows.mem (h : Rows n rows ps) {j i : Nat} : (rows.getD j 0).testBit i = true ↔ (j, i) ∈ ps := by
  rw [h.has]; simp
theorem Rows.add (h : Rows n rows ps) (hn : n ≤ 6) {j i : Nat} (hj : j < n) (hi : i < n) (hb : (rows.getD j 0).testBit i = false) : Rows n (rows.set j (rows.getD j 0 ||| 2 ^ i)) (ps ++ [(j, i)]) := by
  refine ⟨by rw [List.length_set]; exact h.len, mem_set_lt h.lt (or_lt _ (getD_lt (by decide) h.lt j) i (by omega)), fun j' i' => ?_, ?_, fun p hp => ?_⟩
  · rw [getD_set _ _ _ _ _ (by rw [h.len]; omega), Bool.eq_iff_iff]
    simp only [List.contains_eq_mem, List.mem_append, List.mem_singleton, decide_eq_true_eq, Prod.mk.injEq]
    by_cases e : j = j'
    · subst e
      rw [if_pos rfl, bit_or2, Bool.or_eq_true, h.mem]
      simp only [beq_iff_eq, true_and]
      exact ⟨fun z => z.imp id Eq.symm, fun z => z.imp id Eq.symm⟩
    · rw [if_neg e, h.mem]
      exact ⟨.inl, fun z => z.elim id fun q => absurd q.1.symm e⟩
  · rw [List.nodup_append]
    refine ⟨h.nd, by simp, fun a ha c hc => ?_⟩
    rw [List.mem_singleton] at hc
    rintro rfl
    rw [hc] at ha
    have := h.mem.mpr ha
    rw [hb] at this
    cases this
  · rcases List.mem_append.mp hp with q | q
    · exact h.inn p q
    · rw [List.mem_singleton] at q; rw [q]; exact ⟨hj, hi⟩
theorem Rows.del (h : Rows n rows ps) (hn : n ≤ 6) {j i : Nat} (hj : j < n) (hi : i < n) : Rows n (rows.set j (without (rows.getD j 0) i)) (ps.filter (· != (j, i))) := by
  have h64 := getD_lt (l := rows) (by decide) h.lt j
  refine ⟨by rw [List.length_set]; exact h.len, mem_set_lt h.lt (wo_lt _ h64 i (by omega)), fun j' i' => ?_, h.nd.filter _, fun p hp => h.inn p (List.mem_filter.mp hp).1⟩
  rw [getD_set _ _ _ _ _ (by rw [h.len]; omega), Bool.eq_iff_iff]
  simp only [List.contains_eq_mem, List.mem_filter, decide_eq_true_eq, bne_iff_ne, ne_eq, Prod.mk.injEq]
  by_cases e : j = j'
  · subst e
    rw [if_pos rfl, bit_without _ _ _ h64 (by omega), Bool.and_eq_true, h.mem]
    simp only [Bool.not_eq_true', beq_eq_false_iff_ne, ne_eq, true_and]
    exact ⟨fun z => ⟨z.1, fun q => z.2 q.symm⟩, fun z => ⟨z.1, fun q => z.2 q.symm⟩⟩
  · rw [if_neg e, h.mem]
    exact ⟨fun z => ⟨z, fun q => e q.1.symm⟩, fun z => z.1⟩
theorem Rows.left (h : Rows n rows ps) (hn : n ≤ 6) {i : Nat} (hi : i < n) : Rows n ((rows.set i 0).map fun r => without r i) (ps.filter fun p => p.1 != i && p.2 != i) := by
  have h0 : ∀ r ∈ rows.set i 0, r < 64 := mem_set_lt h.lt (by decide)
  refine ⟨by rw [List.length_map, List.length_set]; exact h.len, fun r hr => ?_, fun j' i' => ?_, h.nd.filter _, fun p hp => h.inn p (List.mem_filter.mp hp).1⟩
  · obtain ⟨r', hr', rfl⟩ := List.mem_map.mp hr
    exact wo_lt _ (h0 r' hr') i (by omega)
  · rw [getD_map (f := fun r => without r i) (without0 i), bit_without _ _ _ (getD_lt (by decide) h0 j') (by omega), getD_set _ _ _ _ _ (by rw [h.len]; omega), Bool.eq_iff_iff]
    simp only [List.contains_eq_mem, List.mem_filter, decide_eq_true_eq, Bool.and_eq_true, bne_iff_ne, ne_eq, Bool.not_eq_true', beq_eq_false_iff_ne]
    by_cases e : i = j'
    · subst e
      rw [if_pos rfl, Nat.zero_testBit]
      simp
    · rw [if_neg e, h.mem]
      exact ⟨fun z => ⟨z.1, fun q => e q.symm, fun q => z.2 q.symm⟩, fun z => ⟨z.1, fun q => z.2.2 q.symm⟩⟩
theorem Rows.drop (h : Rows n rows ps) (hn : n ≤ 6) {i : Nat} (hi : i < n) : Rows n (rows.map fun r => without r i) (ps.filter fun p => p.2 != i) := by
  refine ⟨by rw [List.length_map]; exact h.len, fun r hr => ?_, fun j' i' => ?_, h.nd.filter _, fun p hp => h.inn p (List.mem_filter.mp hp).1⟩
  · obtain ⟨r', hr', rfl⟩ := List.mem_map.mp hr
    exact wo_lt _ (h.lt r' hr') i (by omega)
  · rw [getD_map (f := fun r => without r i) (without0 i), bit_without _ _ _ (getD_lt (by decide) h.lt j') (by omega), Bool.eq_iff_iff]
    simp only [List.contains_eq_mem, List.mem_filter, decide_eq_true_eq, Bool.and_eq_true, bne_iff_ne, ne_eq, Bool.not_eq_true', beq_eq_false_iff_ne]
    rw [h.mem]
    exact ⟨fun z => ⟨z.1, fun q => z.2 q.symm⟩, fun z => ⟨z.1, fun q => z.2 q.symm⟩⟩
theorem Rows.nil : Rows n (List.replicate 6 0) [] := by
  refine ⟨rfl, fun r hr => by rw [List.eq_of_mem_replicate hr]; decide, fun j i => ?_, List.nodup_nil, fun p hp => by cases hp⟩
  rw [List.getD_eq_getElem?_getD, List.getElem?_replicate]
  split <;> simp
theorem count_rows : ∀ {l : List Nat} {ps : List (Nat × Nat)}, (∀ p ∈ ps, p.1 < l.length) → (∀ r ∈ l, r < 64) → (∀ j i, (l.getD j 0).testBit i = ps.contains (j, i)) → ps.Nodup → (l.map count).sum = ps.length
  | [], ps, hin, _, hh, nd => by
    cases ps with
    | nil => rfl
    | cons p r => have := hin p List.mem_cons_self; simp at this
  | x :: l, ps, hin, hlt, hh, nd => by
    have hx : x < 64 := hlt x List.mem_cons_self
    have e1 : count x = (ps.filter fun p => p.1 == 0).length := by
      have hmap : ((ps.filter fun p => p.1 == 0).map (·.2)).Nodup := by
        have : ∀ q : List (Nat × Nat), q.Nodup → (∀ p ∈ q, p.1 = 0) → (q.map (·.2)).Nodup := by
          intro q
          induction q with
          | nil => intros; simp
          | cons a q ih =>
            intro h1 h2
            obtain ⟨n1, n2⟩ := List.nodup_cons.mp h1
            rw [List.map_cons, List.nodup_cons]
            refine ⟨fun hm => ?_, ih n2 fun p hp => h2 p (List.mem_cons_of_mem _ hp)⟩
            obtain ⟨c, hc, e⟩ := List.mem_map.mp hm
            have : c = a := Prod.ext ((h2 c (List.mem_cons_of_mem _ hc)).trans (h2 a List.mem_cons_self).symm) e
            exact n1 (this ▸ hc)
        exact this _ (nd.filter _) fun p hp => by have := (List.mem_filter.mp hp).2; simpa using this
      have hmem : ∀ i, i ∈ (ps.filter fun p => p.1 == 0).map (·.2) ↔ x.testBit i = true := fun i => by
        have := hh 0 i
        rw [List.getD_cons_zero] at this
        rw [this]
        simp only [List.contains_eq_mem, decide_eq_true_eq, List.mem_map, List.mem_filter, beq_iff_eq]
        constructor
        · rintro ⟨⟨a, c⟩, ⟨h1, h2⟩, h3⟩
          simp only at h2 h3
          rw [← h2, ← h3]; exact h1
        · intro z; exact ⟨(0, i), ⟨z, rfl⟩, rfl⟩
      have h6 : ∀ j ∈ (ps.filter fun p => p.1 == 0).map (·.2), j < 6 := fun j hj => by
        have := (hmem j).mp hj
        apply Nat.lt_of_not_le
        intro h
        rw [bit64 hx h] at this
        cases this
      have hb := bits_ok h6 hmap
      have hc : count (bits ((ps.filter fun p => p.1 == 0).map (·.2))) = ((ps.filter fun p => p.1 == 0).map (·.2)).length := by
        have := foldl_cnt ((ps.filter fun p => p.1 == 0).map (·.2)) 0 (by decide) (fun j hj => ⟨h6 j hj, Nat.zero_testBit j⟩) hmap
        have h0 : count 0 = 0 := by decide +kernel
        rw [h0, Nat.zero_add] at this
        exact this
      have hxe : x = bits ((ps.filter fun p => p.1 == 0).map (·.2)) := ext6 hx hb.1 fun i hi => by
        rw [hb.2 i hi, Bool.eq_iff_iff, decide_eq_true_eq, hmem]
      rw [hxe, hc, List.length_map]
    have e2 := count_rows (l := l) (ps := (ps.filter fun p => !(p.1 == 0)).map fun p => (p.1 - 1, p.2))
      (fun p hp => by
        obtain ⟨q, hq, rfl⟩ := List.mem_map.mp hp
        obtain ⟨q1, q2⟩ := List.mem_filter.mp hq
        have h1 := hin q q1
        have h2 : q.1 ≠ 0 := by simpa using q2
        simp only [List.length_cons] at h1
        show q.1 - 1 < l.length
        omega)
      (fun r hr => hlt r (List.mem_cons_of_mem _ hr))
      (fun j i => by
        have := hh (j + 1) i
        rw [List.getD_cons_succ] at this
        rw [this, Bool.eq_iff_iff]
        simp only [List.contains_eq_mem, decide_eq_true_eq, List.mem_map, List.mem_filter, Bool.not_eq_true', beq_eq_false_iff_ne, ne_eq]
        constructor
        · intro z; exact ⟨(j + 1, i), ⟨z, by simp⟩, rfl⟩
        · rintro ⟨⟨a, c⟩, ⟨h1, h2⟩, h3⟩
          simp only [Prod.mk.injEq] at h2 h3
          obtain ⟨h3, h4⟩ := h3
          have : a = j + 1 := by omega
          rw [← this, ← h4]; exact h1)
      (by
        have : ∀ q : List (Nat × Nat), q.Nodup → (∀ p ∈ q, p.1 ≠ 0) → (q.map fun p => (p.1 - 1, p.2)).Nodup := by
          intro q
          induction q with
          | nil => intros; simp
          | cons a q ih =>
            intro h1 h2
            obtain ⟨n1, n2⟩ := List.nodup_cons.mp h1
            rw [List.map_cons, List.nodup_cons]
            refine ⟨fun hm => ?_, ih n2 fun p hp => h2 p (List.mem_cons_of_mem _ hp)⟩
            obtain ⟨c, hc, e⟩ := List.mem_map.mp hm
            have hc0 := h2 c (List.mem_cons_of_mem _ hc)
            have ha0 := h2 a List.mem_cons_self
            simp only [Prod.mk.injEq] at e
            have : c = a := Prod.ext (by omega) e.2
            exact n1 (this ▸ hc)
        exact this _ (nd.filter _) fun p hp => by have := (List.mem_filter.mp hp).2; simpa using this)
    rw [List.map_cons, List.sum_cons, e1, e2, List.length_map]
    exact (by
      have : ∀ q : List (Nat × Nat), (q.filter fun p => p.1 == 0).length + (q.filter fun p => !(p.1 == 0)).length = q.length := by
        intro q
        induction q with
        | nil => rfl
        | cons a q ih =>
          rw [List.filter_cons, List.filter_cons]
          cases a.1 == 0 <;> simp <;> omega
      exact this ps)
theorem Rows.count (h : Rows n rows ps) (hn : n ≤ 6) : (rows.map Km485.count).sum = ps.length := count_rows (fun p hp => by rw [h.len]; have := (h.inn p hp).1; omega) h.lt h.has h.nd
theorem Rows.mono (h : Rows n rows ps) {m : Nat} (hm : n ≤ m) : Rows m rows ps := ⟨h.len, h.lt, h.has, h.nd, fun p hp => ⟨Nat.lt_of_lt_of_le (h.inn p hp).1 hm, Nat.lt_of_lt_of_le (h.inn p hp).2 hm⟩⟩
end
theorem RT.rows {n : Nat} {t : T} {x : Km485.Treaty} (h : RT n t x) : Rows n t.obj x.objects := ⟨h.lb, h.rowlt, h.objs, h.obnd, h.obn⟩
theorem RW.rows {w : W} {b : Km485.Book} (h : RW w b) : Rows w.n w.fav b.favours := ⟨h.lf, h.fl, h.fav, h.fnd, h.fn⟩
end Mi
namespace Mi
open Km485 (count without inside bits again_)
section
variable {n : Nat} {t : T} {x : Km485.Treaty}
theorem RT.new (k : Nat) : RT n (newT k) ⟨k, [], [], 0, 0, List.replicate Km485.STATES 0, []⟩ := by
  have R := Rows.nil (n := n)
  refine ⟨rfl, rfl, rfl, rfl, rfl, rfl, rfl, rfl, fun i hi => ?_, List.nodup_nil, fun o ho => (by cases ho), R.has, R.lt, R.nd, R.inn, Nat.two_pow_pos n, fun _ => rfl, R.lt, by show 0 ≤ 4; decide, fun i _ => ?_, fun p hp => (by cases hp), fun p hp => (by cases hp)⟩
  · show (List.replicate 6 none).getD i none = none
    rw [List.getD_eq_getElem?_getD, List.getElem?_replicate]
    split <;> rfl
  · show (List.replicate 6 0).getD i 0 = 0
    rw [List.getD_eq_getElem?_getD, List.getElem?_replicate]
    split <;> rfl
theorem RT.addArt (h : RT n t x) (s v : Nat) (hl : t.arts.length < 4) : RT n { t with arts := t.arts ++ [(s, v)] } { x with articles := x.articles ++ [⟨s, v⟩] } :=
  { h with
    arts := by
      show x.articles ++ [⟨s, v⟩] = (t.arts ++ [(s, v)]).map fun p => (⟨p.1, p.2⟩ : Km485.Article)
      rw [List.map_append, h.arts]; rfl
    al := by show (t.arts ++ [(s, v)]).length ≤ 4; rw [List.length_append]; simp; omega }
theorem find_filter_ne {i : Nat} : ∀ {l : List Km485.Offer} {j : Nat}, j ≠ i → (l.filter fun o => o.state != i).find? (fun o => o.state == j) = l.find? (fun o => o.state == j)
  | [], _, _ => rfl
  | a :: l, j, hj => by
    rw [List.filter_cons]
    by_cases e : a.state = i
    · have : a.state ≠ j := fun z => hj (z.symm.trans e)
      rw [List.find?_cons, beq_false_of_ne this]
      have : (a.state != i) = false := by simpa using e
      rw [this]
      exact find_filter_ne hj
    · have : (a.state != i) = true := by simpa using e
      rw [this, if_pos rfl, List.find?_cons, List.find?_cons, find_filter_ne hj]
theorem find_filter_self {i : Nat} {l : List Km485.Offer} : (l.filter fun o => o.state != i).find? (fun o => o.state == i) = none := by
  rw [List.find?_eq_none]
  intro o ho
  have := (List.mem_filter.mp ho).2
  simpa using this
theorem map_filter_nd {l : List Km485.Offer} {p : Km485.Offer → Bool} (h : (l.map (·.state)).Nodup) : ((l.filter p).map (·.state)).Nodup := by
  induction l with
  | nil => simp
  | cons a l ih =>
    rw [List.map_cons] at h
    obtain ⟨n1, n2⟩ := List.nodup_cons.mp h
    rw [List.filter_cons]
    split
    · rw [List.map_cons, List.nodup_cons]
      refine ⟨fun hm => n1 ?_, ih n2⟩
      obtain ⟨o, ho, e⟩ := List.mem_map.mp hm
      exact List.mem_map.mpr ⟨o, (List.mem_filter.mp ho).1, e⟩
    · exact ih n2
theorem RT.addOff (h : RT n t x) (hn : n ≤ 6) {i k m : Nat} (hi : i < n) : RT n { t with offs := t.offs.set i (some (k, m)) } { x with offers := (x.offers.filter fun (o : Km485.Offer) => o.state != i) ++ [(⟨i, k, m⟩ : Km485.Offer)] } :=
  { h with
    lo := by show (t.offs.set _ _).length = 6; rw [List.length_set]; exact h.lo
    offs := fun j hj => by
      show (t.offs.set i (some (k, m))).getD j none = (((x.offers.filter fun (o : Km485.Offer) => o.state != i) ++ [(⟨i, k, m⟩ : Km485.Offer)]).find? fun o => o.state == j).map fun o => (o.need, o.named)
      rw [getD_set _ _ _ _ _ (by rw [h.lo]; omega), List.find?_append]
      by_cases e : i = j
      · subst e
        rw [if_pos rfl, find_filter_self]
        simp
      · rw [if_neg e, find_filter_ne (fun z => e z.symm)]
        have : List.find? (fun o : Km485.Offer => o.state == j) [⟨i, k, m⟩] = none := by
          rw [List.find?_cons, beq_false_of_ne e]
          rfl
        rw [this, Option.or_none]
        exact h.offs j hj
    ond := by
      show (((x.offers.filter fun (o : Km485.Offer) => o.state != i) ++ [(⟨i, k, m⟩ : Km485.Offer)]).map (·.state)).Nodup
      rw [List.map_append, List.nodup_append]
      refine ⟨map_filter_nd h.ond, by simp, fun a ha c hc => ?_⟩
      obtain ⟨o, ho, rfl⟩ := List.mem_map.mp ha
      have := (List.mem_filter.mp ho).2
      simp at hc
      rw [hc]
      simpa using this
    ost := fun o ho => by
      rcases List.mem_append.mp ho with q | q
      · exact h.ost o (List.mem_filter.mp q).1
      · rw [List.mem_singleton] at q; rw [q]; exact hi }
theorem RT.delOff (h : RT n t x) (hn : n ≤ 6) {i : Nat} (hi : i < n) : RT n (t.noOff i) { x with offers := x.offers.filter fun (o : Km485.Offer) => o.state != i } :=
  { h with
    lo := by show (t.offs.set _ _).length = 6; rw [List.length_set]; exact h.lo
    offs := fun j hj => by
      show (t.offs.set i none).getD j none = ((x.offers.filter fun (o : Km485.Offer) => o.state != i).find? fun o => o.state == j).map fun o => (o.need, o.named)
      rw [getD_set _ _ _ _ _ (by rw [h.lo]; omega)]
      by_cases e : i = j
      · subst e
        rw [if_pos rfl, find_filter_self]
        rfl
      · rw [if_neg e, find_filter_ne (fun z => e z.symm)]
        exact h.offs j hj
    ond := map_filter_nd h.ond
    ost := fun o ho => h.ost o (List.mem_filter.mp ho).1 }
theorem RT.offd_ltn (h : RT n t x) (hn : n ≤ 6) : t.offd < 2 ^ n := by
  apply Nat.lt_pow_two_of_testBit
  intro i hi
  by_cases h6 : i < 6
  · rw [h.off_bit hn h6, h.offs i h6, Option.isSome_map, find_some]
    apply decide_eq_false
    intro hm
    obtain ⟨o, ho, hoi⟩ := List.mem_map.mp hm
    have := h.ost o ho
    omega
  · exact bit64 t.offd_lt (by omega)
theorem RT.joiners_ltn (h : RT n t x) (hn : n ≤ 6) (f : Nat) : t.joiners f < 2 ^ n := by
  apply Nat.lt_pow_two_of_testBit
  intro i hi
  cases q : (t.joiners f).testBit i with
  | false => rfl
  | true =>
    have := t.joiners_sub f i q
    rw [bit_hi (Nat.lt_of_lt_of_le (h.offd_ltn hn) (Nat.pow_le_pow_right (by decide) hi))] at this
    cases this
theorem RT.conclude (h : RT n t x) (hn : n ≤ 6) (ht : t.turn = 0) (k : Nat) (hk : 0 < k) : RT n { t with turn := k, mem := t.joiners 0 } { x with turn := k, members := x.joiners } :=
  have m0 := h.t0 ht
  { h with
    turn := rfl
    mem := h.joiners0 hn
    ml := h.joiners_ltn hn 0
    t0 := fun z => by have z : k = 0 := z; omega
    rm := fun i _ => h.rm i (by rw [m0]; exact Nat.zero_testBit i)
    om := fun p hp => by have := (h.om p hp).1; rw [m0, Nat.zero_testBit] at this; cases this }
theorem RT.accede (h : RT n t x) (hn : n ≤ 6) {i : Nat} (hi : i < n) (ht : t.turn ≠ 0) (hb : t.mem.testBit i = false) : RT n { t with mem := t.mem ||| 2 ^ i } { x with members := x.members + 2 ^ i } :=
  { h with
    mem := by show x.members + 2 ^ i = t.mem ||| 2 ^ i; rw [h.mem]; exact add_or _ (h.m64 hn) i (by omega) hb
    ml := Nat.or_lt_two_pow h.ml (Nat.pow_lt_pow_right (by decide) hi)
    t0 := fun z => absurd z ht
    rm := fun j hj => by
      have hj : (t.mem ||| 2 ^ i).testBit j = false := hj
      rw [bit_or2] at hj
      exact h.rm j (by simp at hj; exact hj.1)
    om := fun p hp => by
      obtain ⟨h1, h2⟩ := h.om p hp
      refine ⟨?_, h2⟩
      show (t.mem ||| 2 ^ i).testBit p.1 = true
      rw [bit_or2, h1]; rfl }
theorem RT.leave (h : RT n t x) (hn : n ≤ 6) {i : Nat} (hi : i < n) : RT n (t.leave i) (x.left i) := by
  have R := h.rows.left hn hi
  have hr : ∀ j, (t.leave i).rsv j = if i = j then 0 else t.rsv j := fun j => getD_set _ _ _ _ _ (by rw [h.lr]; omega)
  have hm : ∀ j, (t.leave i).mem.testBit j = (t.mem.testBit j && !(i == j)) := fun j => bit_without _ _ _ (h.m64 hn) (by omega)
  exact { h with
    mem := by show without x.members i = without t.mem i; rw [h.mem]
    res := by show x.reserved.set i 0 = t.res.set i 0; rw [h.res]
    lr := by show (t.res.set i 0).length = 6; rw [List.length_set]; exact h.lr
    lb := R.len
    objs := R.has
    rowlt := R.lt
    obnd := R.nd
    obn := R.inn
    ml := by
      apply Nat.lt_pow_two_of_testBit
      intro j hj
      rw [hm, bit_hi (Nat.lt_of_lt_of_le h.ml (Nat.pow_le_pow_right (by decide) hj))]
      rfl
    t0 := fun z => by show without t.mem i = 0; rw [h.t0 z]; exact without0 i
    rl := mem_set_lt h.rl (by decide)
    rm := fun j hj => by
      rw [hm] at hj
      rw [hr]
      by_cases e : i = j
      · rw [if_pos e]
      · rw [if_neg e]
        rw [beq_false_of_ne e] at hj
        exact h.rm j (by simpa using hj)
    om := fun p hp => by
      obtain ⟨p1, p2⟩ := List.mem_filter.mp hp
      simp only [Bool.and_eq_true, bne_iff_ne, ne_eq] at p2
      obtain ⟨h1, h2⟩ := h.om p p1
      have a1 : ¬ i = p.1 := fun z => p2.1 z.symm
      have a2 : ¬ i = p.2 := fun z => p2.2 z.symm
      rw [hm, hr, if_neg a2, h1, beq_false_of_ne a1]
      exact ⟨rfl, h2⟩
    self := fun p hp => h.self p (List.mem_filter.mp hp).1 }
theorem RT.reserve (h : RT n t x) (hn : n ≤ 6) {i a : Nat} (hi : i < n) (ha : a < 4) (hm : t.mem.testBit i = true) (hb : (t.rsv i).testBit a = false) :
    RT n { t with res := t.res.set i (t.rsv i ||| 2 ^ a) } { x with reserved := x.reserved.set i (x.reserved.getD i 0 + 2 ^ a) } := by
  have hl : i < t.res.length := by rw [h.lr]; omega
  have hr : ∀ j, (t.res.set i (t.rsv i ||| 2 ^ a)).getD j 0 = if i = j then t.rsv i ||| 2 ^ a else t.rsv j := fun j => getD_set _ _ _ _ _ hl
  have hne : t.rsv i ||| 2 ^ a ≠ 0 := fun z => by
    have : (t.rsv i ||| 2 ^ a).testBit a = true := by rw [bit_or2]; simp
    rw [z, Nat.zero_testBit] at this
    cases this
  exact { h with
    res := by
      show x.reserved.set i (x.reserved.getD i 0 + 2 ^ a) = t.res.set i (t.rsv i ||| 2 ^ a)
      rw [h.res]
      congr 1
      exact add_or _ (h.rsv64 i) a (by omega) hb
    lr := by show (t.res.set _ _).length = 6; rw [List.length_set]; exact h.lr
    rl := mem_set_lt h.rl (or_lt _ (h.rsv64 i) a (by omega))
    rm := fun j hj => by
      show (t.res.set i (t.rsv i ||| 2 ^ a)).getD j 0 = 0
      rw [hr, if_neg (fun e => by rw [← e] at hj; exact absurd (hm.symm.trans hj) (by decide))]
      exact h.rm j hj
    om := fun p hp => by
      obtain ⟨h1, h2⟩ := h.om p hp
      refine ⟨h1, ?_⟩
      show (t.res.set i (t.rsv i ||| 2 ^ a)).getD p.2 0 ≠ 0
      rw [hr]
      split
      · exact hne
      · exact h2 }
theorem RT.unres (h : RT n t x) (hn : n ≤ 6) {i a : Nat} (hi : i < n) (ha : a < 4) (hb : (t.rsv i).testBit a = true) :
    RT n (t.unreserve i a) { x with reserved := x.reserved.set i (x.reserved.getD i 0 - 2 ^ a), objects := if x.reserved.getD i 0 = 2 ^ a then x.objects.filter fun p => p.2 != i else x.objects } := by
  have hl : i < t.res.length := by rw [h.lr]; omega
  have hr : ∀ j, (t.res.set i (without (t.rsv i) a)).getD j 0 = if i = j then without (t.rsv i) a else t.rsv j := fun j => getD_set _ _ _ _ _ hl
  have e1 : x.reserved.getD i 0 = t.rsv i := by rw [h.res]; rfl
  have e2 := sub_wo _ (h.rsv64 i) a (by omega) hb
  have e3 := wo_zero _ (h.rsv64 i) a (by omega) hb
  have hmem : t.mem.testBit i = true := by
    cases q : t.mem.testBit i with
    | true => rfl
    | false => have := h.rm i q; rw [this, Nat.zero_testBit] at hb; cases hb
  have hres : x.reserved.set i (x.reserved.getD i 0 - 2 ^ a) = t.res.set i (without (t.rsv i) a) := by rw [e1, e2, h.res]
  have hlr : (t.res.set i (without (t.rsv i) a)).length = 6 := by rw [List.length_set]; exact h.lr
  have hrl := mem_set_lt h.rl (i := i) (wo_lt _ (h.rsv64 i) a (by omega))
  have hrm : ∀ j, t.mem.testBit j = false → (t.res.set i (without (t.rsv i) a)).getD j 0 = 0 := fun j hj => by
    rw [hr, if_neg (fun e => by rw [← e] at hj; exact absurd (hmem.symm.trans hj) (by decide))]
    exact h.rm j hj
  unfold T.unreserve
  by_cases hz : without (t.rsv i) a = 0
  · have hz2 : x.reserved.getD i 0 = 2 ^ a := by rw [e1]; exact e3.mp hz
    simp only [hz, if_true]
    rw [if_pos hz2]
    have R := h.rows.drop hn hi
    rw [hz] at hres hlr hrl hrm hr
    exact { h with
      res := hres
      lr := hlr
      lb := R.len
      objs := R.has
      rowlt := R.lt
      obnd := R.nd
      obn := R.inn
      rl := hrl
      rm := hrm
      om := fun p hp => by
        obtain ⟨p1, p2⟩ := List.mem_filter.mp hp
        obtain ⟨h1, h2⟩ := h.om p p1
        refine ⟨h1, ?_⟩
        show (t.res.set i 0).getD p.2 0 ≠ 0
        rw [hr, if_neg (fun e => by simp only [bne_iff_ne, ne_eq] at p2; exact p2 e.symm)]
        exact h2
      self := fun p hp => h.self p (List.mem_filter.mp hp).1 }
  · have hz2 : ¬ x.reserved.getD i 0 = 2 ^ a := by rw [e1]; exact fun z => hz (e3.mpr z)
    simp only [hz, if_false]
    rw [if_neg hz2]
    exact { h with
      res := hres
      lr := hlr
      rl := hrl
      rm := hrm
      om := fun p hp => by
        obtain ⟨h1, h2⟩ := h.om p hp
        refine ⟨h1, ?_⟩
        show (t.res.set i (without (t.rsv i) a)).getD p.2 0 ≠ 0
        rw [hr]
        split
        · exact hz
        · exact h2 }
theorem RT.addObj (h : RT n t x) (hn : n ≤ 6) {j i : Nat} (hj : j < n) (hi : i < n) (hne : j ≠ i) (hm : t.mem.testBit j = true) (hr : t.rsv i ≠ 0) (hb : (t.row j).testBit i = false) : RT n (t.addObj j i) { x with objects := x.objects ++ [(j, i)] } :=
  have R := h.rows.add hn hj hi hb
  { h with
    lb := R.len
    objs := R.has
    rowlt := R.lt
    obnd := R.nd
    obn := R.inn
    om := fun p hp => by
      rcases List.mem_append.mp hp with q | q
      · exact h.om p q
      · rw [List.mem_singleton] at q; rw [q]; exact ⟨hm, hr⟩
    self := fun p hp => by
      rcases List.mem_append.mp hp with q | q
      · exact h.self p q
      · rw [List.mem_singleton] at q; rw [q]; exact hne }
theorem RT.delObj (h : RT n t x) (hn : n ≤ 6) {j i : Nat} (hj : j < n) (hi : i < n) : RT n (t.delObj j i) { x with objects := x.objects.filter (· != (j, i)) } :=
  have R := h.rows.del hn hj hi
  { h with
    lb := R.len
    objs := R.has
    rowlt := R.lt
    obnd := R.nd
    obn := R.inn
    om := fun p hp => h.om p (List.mem_filter.mp hp).1
    self := fun p hp => h.self p (List.mem_filter.mp hp).1 }
theorem RT.mono (h : RT n t x) {m : Nat} (hm : n ≤ m) : RT m t x :=
  { h with
    ost := fun o ho => Nat.lt_of_lt_of_le (h.ost o ho) hm
    obn := (h.rows.mono hm).inn
    ml := Nat.lt_of_lt_of_le h.ml (Nat.pow_le_pow_right (by decide) hm) }
theorem set_self {l : List Nat} {k v : Nat} (h : l.getD k 0 = v) : l.set k v = l := by
  apply List.ext_getElem?
  intro j
  by_cases hk : k < l.length
  · by_cases e : k = j
    · subst e
      rw [List.getElem?_set_self hk, ← h, List.getD_eq_getElem?_getD, List.getElem?_eq_getElem hk]
      rfl
    · rw [List.getElem?_set_ne e]
  · rw [List.set_eq_of_length_le (by omega)]
def part1 (k i : Nat) (p : Nat × Nat) : Option (Nat × Nat) := if p.1 = i then some (k, p.2) else if p.2 = i then some (p.1, k) else none
theorem nodup_fm {f : Nat × Nat → Option (Nat × Nat)} : ∀ {l : List (Nat × Nat)}, l.Nodup → (∀ a ∈ l, ∀ c ∈ l, ∀ z, f a = some z → f c = some z → a = c) → (l.filterMap f).Nodup
  | [], _, _ => by simp
  | a :: l, nd, inj => by
    obtain ⟨n1, n2⟩ := List.nodup_cons.mp nd
    have ih := nodup_fm n2 fun a ha c hc => inj a (List.mem_cons_of_mem _ ha) c (List.mem_cons_of_mem _ hc)
    rw [List.filterMap_cons]
    cases e : f a with
    | none => exact ih
    | some z =>
      simp only
      rw [List.nodup_cons]
      refine ⟨fun hm => ?_, ih⟩
      obtain ⟨c, hc, hz⟩ := List.mem_filterMap.mp hm
      exact n1 (inj a List.mem_cons_self c (List.mem_cons_of_mem _ hc) z e hz ▸ hc)
theorem spread0 (new i : Nat) : spread new i 0 = 0 := by unfold spread; rw [Nat.zero_testBit]; rfl
theorem RT.part1 (h : RT n t x) (hn : n < 6) {i : Nat} (hi : i < n) : RT (n + 1) (t.takeAfter n i) (x.parted i n 1) := by
  have hmn : t.mem.testBit n = false := bit_hi h.ml
  have hrow : ∀ j k, (t.row j).testBit k = true ↔ (j, k) ∈ x.objects := fun j k => h.rows.mem
  unfold Km485.Treaty.parted
  by_cases hm : t.mem.testBit i = true
  · rw [if_pos ⟨rfl, by rw [h.mem]; exact hm⟩]
    have hin : i ≠ n := by omega
    have lres : n < t.res.length := by rw [h.lr]; omega
    have lobj : n < t.obj.length := by rw [h.lb]; omega
    have hr : ∀ j, (t.takeAfter n i).rsv j = if n = j then t.rsv i else t.rsv j := fun j => getD_set _ _ _ _ _ lres
    have hmem : (t.takeAfter n i).mem = t.mem ||| 2 ^ n := by show (if _ then _ else _) = _; rw [if_pos hm]
    have hmb : ∀ j, (t.takeAfter n i).mem.testBit j = (t.mem.testBit j || (n == j)) := fun j => by rw [hmem, bit_or2]
    have hob : ∀ j, (t.takeAfter n i).row j = spread n i (if n = j then t.row i else t.row j) := fun j => by
      show ((t.obj.set n (t.row i)).map (spread n i)).getD j 0 = _
      rw [getD_map (f := spread n i) (spread0 n i), getD_set _ _ _ _ _ lobj]
      rfl
    have hset : ∀ r ∈ t.obj.set n (t.row i), r < 64 := mem_set_lt h.rowlt (h.row64 i)
    have hnew : ∀ q, q ∈ x.objects.filterMap (Mi.part1 n i) ↔ (q.1 = n ∧ (i, q.2) ∈ x.objects) ∨ (q.2 = n ∧ q.1 ≠ i ∧ (q.1, i) ∈ x.objects) := fun q => by
      rw [List.mem_filterMap]
      constructor
      · rintro ⟨p, hp, e⟩
        unfold Mi.part1 at e
        split at e
        · rename_i h1
          cases e
          left
          exact ⟨rfl, by rw [← h1]; exact hp⟩
        · rename_i h1
          split at e
          · rename_i h2
            cases e
            right
            exact ⟨rfl, h1, by rw [← h2]; exact hp⟩
          · cases e
      · rintro (⟨h1, h2⟩ | ⟨h1, h2, h3⟩)
        · refine ⟨(i, q.2), h2, ?_⟩
          unfold Mi.part1
          rw [if_pos rfl, ← h1]
        · refine ⟨(q.1, i), h3, ?_⟩
          unfold Mi.part1
          rw [if_neg h2, if_pos rfl, ← h1]
    have hon : ∀ a c, (a, c) ∈ x.objects → a < n ∧ c < n := fun a c q => h.obn (a, c) q
    exact {
      need := h.need
      arts := h.arts
      turn := h.turn
      mem := by
        show x.members + 2 ^ n = _
        rw [hmem, h.mem]
        exact add_or _ (h.m64 (by omega)) n hn hmn
      res := by
        show x.reserved.set n (x.reserved.getD i 0) = t.res.set n (t.rsv i)
        rw [h.res]
        rfl
      lo := h.lo
      lr := by show (t.res.set _ _).length = 6; rw [List.length_set]; exact h.lr
      lb := by show ((t.obj.set _ _).map _).length = 6; rw [List.length_map, List.length_set]; exact h.lb
      offs := h.offs
      ond := h.ond
      ost := fun o ho => Nat.lt_succ_of_lt (h.ost o ho)
      objs := fun j k => by
        show ((t.takeAfter n i).row j).testBit k = (x.objects ++ x.objects.filterMap (Mi.part1 n i)).contains (j, k)
        rw [hob, Bool.eq_iff_iff]
        simp only [List.contains_eq_mem, decide_eq_true_eq, List.mem_append]
        rw [hnew]
        simp only
        by_cases e : n = j
        · subst e
          rw [if_pos rfl]
          have : (t.row i).testBit i = false := by
            cases q : (t.row i).testBit i with
            | false => rfl
            | true => exact absurd rfl (h.self _ ((hrow i i).mp q))
          unfold spread
          rw [this, if_neg (by decide), hrow]
          constructor
          · exact fun z => .inr (.inl ⟨rfl, z⟩)
          · rintro (z | ⟨_, z⟩ | ⟨_, _, z⟩)
            · have := (hon _ _ z).1; omega
            · exact z
            · have := (hon _ _ z).1; omega
        · rw [if_neg e]
          have e' : ¬ j = n := fun z => e z.symm
          unfold spread
          by_cases hji : (t.row j).testBit i = true
          · rw [if_pos hji, bit_or2, Bool.or_eq_true, hrow, beq_iff_eq]
            have hj := (hrow j i).mp hji
            constructor
            · rintro (z | z)
              · exact .inl z
              · exact .inr (.inr ⟨z.symm, h.self _ hj, hj⟩)
            · rintro (z | ⟨z, _⟩ | ⟨z, _, _⟩)
              · exact .inl z
              · exact absurd z e'
              · exact .inr z.symm
          · rw [if_neg hji, hrow]
            constructor
            · exact .inl
            · rintro (z | ⟨z, _⟩ | ⟨_, _, z⟩)
              · exact z
              · exact absurd z e'
              · exact absurd ((hrow j i).mpr z) hji
      rowlt := fun r hr => by
        obtain ⟨r', hr', rfl⟩ := List.mem_map.mp hr
        have := hset r' hr'
        unfold spread
        split
        · exact or_lt _ this n hn
        · exact this
      obnd := by
        show (x.objects ++ x.objects.filterMap (Mi.part1 n i)).Nodup
        rw [List.nodup_append]
        refine ⟨h.obnd, nodup_fm h.obnd fun a ha c hc z ea ec => ?_, fun a ha c hc => ?_⟩
        · have a1 := h.obn a ha
          have c1 := h.obn c hc
          unfold Mi.part1 at ea ec
          split at ea
          · cases ea
            split at ec
            · rename_i q1 q2
              injection ec with ec
              injection ec with _ ec
              exact Prod.ext (q1.trans q2.symm) ec.symm
            · split at ec
              · injection ec with ec
                injection ec with ec _
                omega
              · cases ec
          · split at ea
            · cases ea
              split at ec
              · injection ec with ec
                injection ec with ec _
                omega
              · split at ec
                · rename_i q1 _ q2
                  injection ec with ec
                  injection ec with ec _
                  exact Prod.ext ec.symm (q1.trans q2.symm)
                · cases ec
            · cases ea
        · rintro rfl
          have := h.obn a ha
          rcases (hnew a).mp hc with ⟨z, _⟩ | ⟨z, _⟩ <;> omega
      obn := fun p hp => by
        rcases List.mem_append.mp hp with q | q
        · have := h.obn p q; omega
        · rcases (hnew p).mp q with ⟨z, y⟩ | ⟨z, _, y⟩
          · have := hon _ _ y; omega
          · have := hon _ _ y; omega
      ml := by
        rw [hmem]
        have h2 : 2 ^ (n + 1) = 2 ^ n + 2 ^ n := by rw [Nat.pow_succ]; omega
        have := h.ml
        have := Nat.two_pow_pos n
        exact Nat.or_lt_two_pow (by omega) (by omega)
      t0 := fun z => by
        have := h.t0 z
        rw [this, Nat.zero_testBit] at hm
        cases hm
      rl := mem_set_lt h.rl (h.rsv64 i)
      al := h.al
      rm := fun j hj => by
        rw [hmb] at hj
        simp only [Bool.or_eq_false_iff, beq_eq_false_iff_ne, ne_eq] at hj
        rw [hr, if_neg hj.2]
        exact h.rm j hj.1
      om := fun p hp => by
        rw [hmb, hr]
        rcases List.mem_append.mp hp with q | q
        · obtain ⟨h1, h2⟩ := h.om p q
          have := (h.obn p q).2
          rw [h1, if_neg (by omega)]
          exact ⟨rfl, h2⟩
        · rcases (hnew p).mp q with ⟨z, y⟩ | ⟨z, _, y⟩
          · have h2 := (h.om _ y).2
            have := (hon _ _ y).2
            rw [if_neg (by omega), z]
            exact ⟨by simp, h2⟩
          · obtain ⟨h1, h2⟩ := h.om _ y
            rw [if_pos z.symm]
            refine ⟨?_, h2⟩
            have h1 : t.mem.testBit p.1 = true := h1
            rw [h1]; rfl
      self := fun p hp => by
        rcases List.mem_append.mp hp with q | q
        · exact h.self p q
        · rcases (hnew p).mp q with ⟨z, y⟩ | ⟨z, _, y⟩
          · have := hon _ _ y; omega
          · have := hon _ _ y; omega }
  · rw [if_neg (fun z => hm (by rw [← h.mem]; exact z.2))]
    have hm' : t.mem.testBit i = false := by simpa using hm
    have e1 : t.res.set n (t.rsv i) = t.res := set_self (by rw [h.rm i hm']; exact h.rm n hmn)
    have hno : ∀ j k, t.mem.testBit j = false → (t.row j).testBit k = false := fun j k hj => by
      cases q : (t.row j).testBit k with
      | false => rfl
      | true => have := (h.om _ ((hrow j k).mp q)).1; rw [hj] at this; cases this
    have r0 : ∀ j, t.mem.testBit j = false → t.row j = 0 := fun j hj => by
      apply Nat.eq_of_testBit_eq
      intro k
      rw [hno j k hj, Nat.zero_testBit]
    have e2 : t.obj.set n (t.row i) = t.obj := set_self (by rw [r0 i hm']; exact r0 n hmn)
    have e3 : t.obj.map (spread n i) = t.obj := by
      conv => rhs; rw [← List.map_id t.obj]
      refine List.map_congr_left fun r hr => ?_
      obtain ⟨j, hj⟩ := List.getElem?_of_mem hr
      have hrj : t.row j = r := by show t.obj.getD j 0 = r; rw [List.getD_eq_getElem?_getD, hj]; rfl
      unfold spread
      rw [if_neg]
      · rfl
      · intro z
        rw [← hrj] at z
        exact (h.om _ ((hrow j i).mp z)).2 (h.rm i hm')
    have e4 : t.takeAfter n i = t := by
      unfold T.takeAfter
      rw [if_neg hm, e1, e2, e3]
    rw [e4]
    exact h.mono (Nat.le_succ n)
theorem parted0 (x : Km485.Treaty) (i k mode : Nat) (h : mode ≠ 1) : x.parted i k mode = x := by
  unfold Km485.Treaty.parted
  rw [if_neg fun z => h z.1]
end
end Mi
namespace Mi
open Km485 (count without inside bits again_)
def tns (w : W) : List Nat := w.ts.map (·.turn)
theorem turns_tns (w : W) : w.turns = ((tns w).filter fun k => decide (0 < k)).length := by
  unfold W.turns tns
  rw [List.filter_map, List.length_map]
  rfl
theorem tr_turn (w : W) (i : Nat) : (w.tr i).turn = (tns w).getD i 0 := by
  unfold tns W.tr
  rw [List.getD_eq_getElem?_getD, List.getD_eq_getElem?_getD, List.getElem?_map]
  cases w.ts[i]? <;> rfl
theorem filter_set_pos : ∀ {l : List Nat} {t v : Nat}, t < l.length → l.getD t 0 = 0 → 0 < v → ((l.set t v).filter fun k => decide (0 < k)).length = (l.filter fun k => decide (0 < k)).length + 1
  | [], t, v, h, _, _ => by simp at h
  | a :: l, 0, v, _, h, hv => by
    have h : a = 0 := h
    subst h
    simp [List.filter_cons, hv]
  | a :: l, t + 1, v, h, h0, hv => by
    have ih := filter_set_pos (l := l) (t := t) (v := v) (by simpa using h) h0 hv
    rw [List.set_cons_succ, List.filter_cons, List.filter_cons]
    split <;> simp [ih]
section
variable {w : W} {b : Km485.Book}
theorem RW.put (h : RW w b) {t : Nat} (ht : t < w.ts.length) {y : T} {x : Km485.Treaty} (hy : RT w.n y x) (hq : y.turn = (w.tr t).turn) : RW (w.put t y) (b.set t x) := by
  have et : tns (w.put t y) = tns w := by
    unfold tns W.put
    rw [List.map_set]
    apply set_self
    rw [hq]
    exact (tr_turn w t).symm
  have e2 : ∀ i, ((w.put t y).tr i).turn = (w.tr i).turn := fun i => by rw [tr_turn, et, ← tr_turn]
  have e3 : (w.put t y).turns = w.turns := by rw [turns_tns, et, ← turns_tns]
  have e4 : (w.put t y).ts.length = w.ts.length := List.length_set
  exact { h with
    ts := h.ts.set t hy
    tl := by rw [e4]; exact h.tl
    turns := by rw [e3]; exact h.turns
    tu := fun i j hi hj => by rw [e2, e2]; rw [e4] at hi hj; exact h.tu i j hi hj
    tle := fun i hi => by rw [e2, e3]; rw [e4] at hi; exact h.tle i hi }
theorem RW.conclude (h : RW w b) {t : Nat} (ht : t < w.ts.length) {y : T} {x : Km485.Treaty} (hy : RT w.n y x) (h0 : (w.tr t).turn = 0) (hq : y.turn = w.turns + 1) : RW (w.put t y) { b.set t x with turns := b.turns + 1 } := by
  have et : tns (w.put t y) = (tns w).set t (w.turns + 1) := by
    unfold tns W.put
    rw [List.map_set, hq]
  have l1 : (tns w).length = w.ts.length := List.length_map ..
  have e2 : ∀ i, ((w.put t y).tr i).turn = if t = i then w.turns + 1 else (w.tr i).turn := fun i => by
    rw [tr_turn, et, getD_set _ _ _ _ _ (by rw [l1]; exact ht), ← tr_turn]
  have e3 : (w.put t y).turns = w.turns + 1 := by
    rw [turns_tns, et, filter_set_pos (by rw [l1]; exact ht) (by rw [← tr_turn]; exact h0) (by omega), ← turns_tns]
  have e4 : (w.put t y).ts.length = w.ts.length := List.length_set
  exact { h with
    ts := h.ts.set t hy
    tl := by rw [e4]; exact h.tl
    turns := by show b.turns + 1 = _; rw [e3, h.turns]
    tu := fun i j hi hj => by
      rw [e2, e2]; rw [e4] at hi hj
      intro q1 q2
      by_cases a1 : t = i
      · by_cases a2 : t = j
        · exact a1.symm.trans a2
        · rw [if_pos a1, if_neg a2] at q2
          have := h.tle j hj
          omega
      · by_cases a2 : t = j
        · rw [if_neg a1, if_pos a2] at q2
          have := h.tle i hi
          omega
        · rw [if_neg a1] at q1 q2
          rw [if_neg a2] at q2
          exact h.tu i j hi hj q1 q2
    tle := fun i hi => by
      rw [e2, e3]; rw [e4] at hi
      have := h.tle i hi
      split <;> omega }
theorem RW.addT (h : RW w b) (k : Nat) (hl : w.ts.length < 4) : RW { w with ts := w.ts ++ [newT k] } { b with treaties := b.treaties ++ [⟨k, [], [], 0, 0, List.replicate Km485.STATES 0, []⟩] } := by
  have et : tns { w with ts := w.ts ++ [newT k] } = tns w ++ [0] := by unfold tns; rw [List.map_append]; rfl
  have e3 : ({ w with ts := w.ts ++ [newT k] } : W).turns = w.turns := by
    rw [turns_tns, et, List.filter_append, turns_tns]
    simp
  have e2 : ∀ i, (({ w with ts := w.ts ++ [newT k] } : W).tr i).turn = (w.tr i).turn := fun i => by
    rw [tr_turn, tr_turn, et, List.getD_eq_getElem?_getD, List.getD_eq_getElem?_getD]
    by_cases hi : i < (tns w).length
    · rw [List.getElem?_append_left hi]
    · rw [List.getElem?_append_right (by omega), List.getElem?_eq_none (l := tns w) (by omega)]
      cases q : ([0] : List Nat)[i - (tns w).length]? with
      | none => rfl
      | some v =>
        have := List.mem_of_getElem? q
        simp at this
        rw [this]; rfl
  have hz : ∀ i, w.ts.length ≤ i → (w.tr i).turn = 0 := fun i hi => by
    unfold W.tr
    rw [List.getD_eq_getElem?_getD, List.getElem?_eq_none hi]
    rfl
  exact { h with
    ts := h.ts.append (.cons (RT.new k) .nil)
    tl := by show (w.ts ++ [newT k]).length ≤ 4; rw [List.length_append]; simp; omega
    turns := by rw [e3]; exact h.turns
    tu := fun i j hi hj => by
      rw [e2, e2]
      intro q1 q2
      have hi' : i < w.ts.length := by apply Nat.lt_of_not_le; intro z; exact q1 (hz i z)
      have hj' : j < w.ts.length := by apply Nat.lt_of_not_le; intro z; rw [hz j z] at q2; exact q1 q2
      exact h.tu i j hi' hj' q1 q2
    tle := fun i hi => by
      rw [e2, e3]
      by_cases hi' : i < w.ts.length
      · exact h.tle i hi'
      · rw [hz i (by omega)]; omega }
theorem RW.addFav (h : RW w b) {i j : Nat} (hi : i < w.n) (hj : j < w.n) (hb : (w.favs i).testBit j = false) : RW (w.addFav i j) { b with favours := b.favours ++ [(i, j)] } :=
  have R := h.rows.add h.n6 hi hj hb
  { h with lf := R.len, fl := R.lt, fav := R.has, fnd := R.nd, fn := R.inn }
theorem RW.delFav (h : RW w b) {i j : Nat} (hi : i < w.n) (hj : j < w.n) : RW (w.delFav i j) { b with favours := b.favours.filter (· != (i, j)) } :=
  have R := h.rows.del h.n6 hi hj
  { h with lf := R.len, fl := R.lt, fav := R.has, fnd := R.nd, fn := R.inn }
theorem RW.allFav (h : RW w b) : w.allFav = b.favours.length := h.rows.count h.n6
theorem RT.objections {n : Nat} {t : T} {x : Km485.Treaty} (h : RT n t x) (hn : n ≤ 6) : t.objections = x.objects.length := h.rows.count hn
theorem RW.part (h : RW w b) {i mode : Nat} (hi : i < w.n) (hm : mode ≤ 1) (hn : w.n < 6) : RW (w.part i (mode == 1)) { b with n := b.n + 1, treaties := b.treaties.map fun x => x.parted i b.n mode } := by
  have hts : All2 (RT (w.n + 1)) (w.part i (mode == 1)).ts (b.treaties.map fun x => x.parted i b.n mode) ∧ tns (w.part i (mode == 1)) = tns w := by
    rcases (by omega : mode = 0 ∨ mode = 1) with rfl | rfl
    · refine ⟨?_, rfl⟩
      show All2 _ w.ts _
      have := All2.maps (S := RT (w.n + 1)) (f := id) (g := fun x : Km485.Treaty => x.parted i b.n 0) (fun t x q => by rw [parted0 x i b.n 0 (by decide)]; exact q.mono (Nat.le_succ _)) h.ts
      rwa [List.map_id] at this
    · refine ⟨?_, ?_⟩
      · show All2 _ (w.ts.map _) _
        rw [h.n]
        exact All2.maps (fun t x q => q.part1 hn hi) h.ts
      · show (w.ts.map _).map _ = w.ts.map _
        rw [List.map_map]
        rfl
  have e2 : ∀ k, ((w.part i (mode == 1)).tr k).turn = (w.tr k).turn := fun k => by rw [tr_turn, hts.2, ← tr_turn]
  have e3 : (w.part i (mode == 1)).turns = w.turns := by rw [turns_tns, hts.2, ← turns_tns]
  have e4 : (w.part i (mode == 1)).ts.length = w.ts.length := by
    have := congrArg List.length hts.2
    unfold tns at this
    rwa [List.length_map, List.length_map] at this
  have R := h.rows.mono (Nat.le_succ w.n)
  exact {
    n := by show b.n + 1 = w.n + 1; rw [h.n]
    n2 := Nat.le_succ_of_le h.n2
    n6 := hn
    ts := hts.1
    tl := by rw [e4]; exact h.tl
    lf := h.lf
    fl := h.fl
    fav := h.fav
    fnd := h.fnd
    fn := R.inn
    turns := by rw [e3]; exact h.turns
    tu := fun a c ha hc => by rw [e2, e2]; rw [e4] at ha hc; exact h.tu a c ha hc
    tle := fun a ha => by rw [e2, e3]; rw [e4] at ha; exact h.tle a ha }
theorem RW.fresh {n : Nat} (h2 : 2 ≤ n) (h4 : n ≤ 4) : RW (newW n) ⟨n, [], [], 0⟩ := by
  have R := Rows.nil (n := n)
  refine ⟨rfl, h2, by show n ≤ 6; omega, .nil, by show 0 ≤ 4; decide, R.len, R.lt, R.has, R.nd, R.inn, rfl, fun i j hi => ?_, fun i hi => ?_⟩
  · have hi : i < 0 := hi
    omega
  · have hi : i < 0 := hi
    omega
end
structure RD (r : R) (d : Km485.Desk) : Prop where
  now : RW r.w d.now
  past : All2 RW r.past d.past.reverse
  fut : All2 RW r.und d.future.reverse
  cap : r.past.length + r.und.length ≤ 20
def last20 (l : List W) : List W := l.drop (l.length - 20)
def chg (r : R) (o : Out) : R × List Int := if 0 ≤ o.1.headD (-1) then (⟨o.2, last20 (r.past ++ [r.w]), []⟩, o.1) else (r, o.1)
def stepM (r : R) : Km485.Call → R × List Int
  | .start n => if n < 2 ∨ 4 < n then (r, [-22]) else (⟨newW n, [], []⟩, [0])
  | .treaty k => chg r (opTreaty r.w k)
  | .article t s x => if r.w.ts.length ≤ t then (r, [-2]) else chg r (opArticle r.w t s x)
  | .offer t i k m => if r.w.ts.length ≤ t ∨ r.w.n ≤ i then (r, [-2]) else chg r (opOffer r.w t i k m)
  | .unoffer t i => if r.w.ts.length ≤ t ∨ r.w.n ≤ i then (r, [-2]) else chg r (opUnoffer r.w t i)
  | .joiners t => if r.w.ts.length ≤ t then (r, [-2]) else (r, qJoiners r.w t)
  | .waits t => if r.w.ts.length ≤ t then (r, [-2]) else (r, qWaits r.w t)
  | .first t => if r.w.ts.length ≤ t then (r, [-2]) else (r, qFirst r.w t)
  | .conclude t => if r.w.ts.length ≤ t then (r, [-2]) else chg r (opConclude r.w t)
  | .accede t i => if r.w.ts.length ≤ t ∨ r.w.n ≤ i then (r, [-2]) else chg r (opAccede r.w t i)
  | .leave t i => if r.w.ts.length ≤ t ∨ r.w.n ≤ i then (r, [-2]) else chg r (opLeave r.w t i)
  | .reserve t i a => if r.w.ts.length ≤ t ∨ r.w.n ≤ i ∨ (r.w.tr t).arts.length ≤ a then (r, [-2]) else chg r (opReserve r.w t i a)
  | .unreserve t i a => if r.w.ts.length ≤ t ∨ r.w.n ≤ i ∨ (r.w.tr t).arts.length ≤ a then (r, [-2]) else chg r (opUnreserve r.w t i a)
  | .object t j i => if r.w.ts.length ≤ t ∨ r.w.n ≤ j ∨ r.w.n ≤ i then (r, [-2]) else chg r (opObject r.w t j i)
  | .accept t j i => if r.w.ts.length ≤ t ∨ r.w.n ≤ j ∨ r.w.n ≤ i then (r, [-2]) else chg r (opAccept r.w t j i)
  | .favour i j => if r.w.n ≤ i ∨ r.w.n ≤ j then (r, [-2]) else chg r (opFavour r.w i j)
  | .unfavour i j => if r.w.n ≤ i ∨ r.w.n ≤ j then (r, [-2]) else chg r (opUnfavour r.w i j)
  | .part i mode => if r.w.n ≤ i then (r, [-2]) else chg r (opPart r.w i mode)
  | .members t => if r.w.ts.length ≤ t then (r, [-2]) else (r, qMembers r.w t)
  | .between t i j => if r.w.ts.length ≤ t ∨ r.w.n ≤ i ∨ r.w.n ≤ j then (r, [-2]) else (r, qBetween r.w t i j)
  | .applies t i j a => if r.w.ts.length ≤ t ∨ r.w.n ≤ i ∨ r.w.n ≤ j ∨ (r.w.tr t).arts.length ≤ a then (r, [-2]) else (r, qApplies r.w t i j a)
  | .rule i j s => if r.w.n ≤ i ∨ r.w.n ≤ j then (r, [-2]) else (r, qRule r.w i j s)
  | .takes i j s => if r.w.n ≤ i ∨ r.w.n ≤ j then (r, [-2]) else (r, qTakes r.w i j s)
  | .table s => (r, qTable r.w s)
  | .told t => if r.w.ts.length ≤ t then (r, [-2]) else (r, qTold r.w t)
  | .back => match r.past.getLast? with
    | none => (r, [-2])
    | some w => (⟨w, r.past.dropLast, r.und ++ [r.w]⟩, [((r.past.length - 1 : Nat) : Int)])
  | .again => match r.und.getLast? with
    | none => (r, [-2])
    | some w => (⟨w, r.past ++ [r.w], r.und.dropLast⟩, [((r.und.length - 1 : Nat) : Int)])
  | .state => (r, [(r.w.ts.length : Int), (r.w.n : Nat), (r.w.allFav : Nat), (r.w.turns : Nat), (r.past.length : Nat), (r.und.length : Nat)])
abbrev Fine (r : R) (d : Km485.Desk) (c : Km485.Call) : Prop := RD (stepM r c).1 (Km485.act d c).1 ∧ (stepM r c).2 = Km485Neutral.told (Km485.act d c).2
section
variable {r : R} {d : Km485.Desk}
theorem RD.become (h : RD r d) {w : W} {b : Km485.Book} (hw : RW w b) {a : List Int} : RD ⟨w, last20 (r.past ++ [r.w]), []⟩ (d.become b) := by
  refine ⟨hw, ?_, .nil, ?_⟩
  · show All2 RW (last20 (r.past ++ [r.w])) ((d.now :: d.past).take Km485.PAST).reverse
    have hl := h.past.len
    rw [List.length_reverse] at hl
    have hA : All2 RW (r.past ++ [r.w]) (d.now :: d.past).reverse := by
      rw [List.reverse_cons]
      exact h.past.append (.cons h.now .nil)
    unfold last20
    rw [List.reverse_take]
    have : (d.now :: d.past).length - Km485.PAST = (r.past ++ [r.w]).length - 20 := by
      simp [Km485.PAST, hl]
    rw [this]
    exact hA.drop _
  · show (last20 _).length + 0 ≤ 20
    unfold last20
    rw [List.length_drop]
    omega
theorem chg_no {o : Out} {c : Int} (h : o.1 = [c]) (hc : c < 0) : chg r o = (r, [c]) := by
  unfold chg
  rw [h, if_neg]
  show ¬ 0 ≤ c
  omega
theorem chg_yes {o : Out} {c : Int} (h : o.1 = [c]) (hc : 0 ≤ c) : chg r o = (⟨o.2, last20 (r.past ++ [r.w]), []⟩, [c]) := by
  unfold chg
  rw [h, if_pos]
  exact hc
end
end Mi
namespace Mi
open Km485 (count without inside bits again_ act only n2i)
section
variable {r : R} {d : Km485.Desk}
theorem RD.noT (h : RD r d) (t : Nat) : d.now.noT t = decide (r.w.ts.length ≤ t) := by unfold Km485.Book.noT; rw [h.now.len]
theorem RD.noS (h : RD r d) (i : Nat) : d.now.noS i = decide (r.w.n ≤ i) := by unfold Km485.Book.noS; rw [h.now.n]
theorem RD.noA (h : RD r d) {t : Nat} (ht : t < r.w.ts.length) (a : Nat) : d.now.noA t a = decide ((r.w.tr t).arts.length ≤ a) := by
  unfold Km485.Book.noA
  rw [(h.now.tr ht).arts, List.length_map]
theorem fin_no (h : RD r d) {p : R × List Int} {q : Km485.Desk × Km485.Ans} {c : Int} (hp : p = (r, [c])) (hq : q = (d, only c)) : RD p.1 q.1 ∧ p.2 = Km485Neutral.told q.2 := by
  rw [hp, hq]
  exact ⟨h, rfl⟩
theorem fin_q (h : RD r d) {p : R × List Int} {q : Km485.Desk × Km485.Ans} {l : List Int} {a : Km485.Ans} (hp : p = (r, l)) (hq : q = (d, a)) (e : l = Km485Neutral.told a) : RD p.1 q.1 ∧ p.2 = Km485Neutral.told q.2 := by
  rw [hp, hq]
  exact ⟨h, e⟩
theorem fin_yes (h : RD r d) {p : R × List Int} {q : Km485.Desk × Km485.Ans} {w : W} {b : Km485.Book} {c : Int} (hp : p = (⟨w, last20 (r.past ++ [r.w]), []⟩, [c])) (hq : q = (d.become b, only c)) (hw : RW w b) : RD p.1 q.1 ∧ p.2 = Km485Neutral.told q.2 := by
  rw [hp, hq]
  exact ⟨h.become (a := []) hw, rfl⟩
theorem ok_start (h : RD r d) (n : Nat) : Fine r d (.start n) := by
  unfold Fine; simp only [stepM, act]
  by_cases hn : n < 2 ∨ 4 < n
  · rw [if_pos hn, if_pos hn]; exact ⟨h, rfl⟩
  · rw [if_neg hn, if_neg hn]
    exact ⟨⟨RW.fresh (by omega) (by omega), .nil, .nil, by show 0 + 0 ≤ 20; decide⟩, rfl⟩
theorem ok_treaty (h : RD r d) (k : Nat) : Fine r d (.treaty k) := by
  unfold Fine; simp only [stepM, act, opTreaty]
  have en := h.now.n
  by_cases c1 : k < 2 ∨ r.w.n < k
  · rw [if_pos c1, if_pos (show k < 2 ∨ d.now.n < k by omega)]; exact fin_no h (chg_no rfl (by decide)) rfl
  rw [if_neg c1, if_neg (show ¬ (k < 2 ∨ d.now.n < k) by omega), h.now.len]
  by_cases c2 : 4 ≤ r.w.ts.length
  · rw [if_pos c2, if_pos (show Km485.TREATIES ≤ _ from c2)]; exact fin_no h (chg_no rfl (by decide)) rfl
  rw [if_neg c2, if_neg (show ¬ Km485.TREATIES ≤ _ from c2)]
  exact fin_yes h (chg_yes rfl (by omega)) rfl (h.now.addT k (by omega))
theorem ok_article (h : RD r d) (t s x : Nat) : Fine r d (.article t s x) := by
  unfold Fine; simp only [stepM, act, opArticle]
  simp only [h.noT, decide_eq_true_eq]
  by_cases c0 : r.w.ts.length ≤ t
  · rw [if_pos c0, if_pos c0]; exact fin_no h rfl rfl
  have R := h.now.tr (t := t) (by omega)
  have et := R.turn
  have em := R.mem
  rw [if_neg c0, if_neg c0]
  by_cases c1 : 4 ≤ s ∨ 100 < x
  · rw [if_pos c1, if_pos (show Km485.SUBJECTS ≤ s ∨ Km485.MOST < x from c1)]; exact fin_no h (chg_no rfl (by decide)) rfl
  rw [if_neg c1, if_neg (show ¬ (Km485.SUBJECTS ≤ s ∨ Km485.MOST < x) from c1)]
  by_cases c2 : 0 < (r.w.tr t).turn
  · rw [if_pos c2, if_pos (show (d.now.treaty t).turn ≠ 0 by omega)]; exact fin_no h (chg_no rfl (by decide)) rfl
  rw [if_neg c2, if_neg (show ¬ (d.now.treaty t).turn ≠ 0 by omega)]
  have el : (d.now.treaty t).articles.length = (r.w.tr t).arts.length := by rw [R.arts, List.length_map]
  rw [el]
  by_cases c3 : 4 ≤ (r.w.tr t).arts.length
  · rw [if_pos c3, if_pos (show Km485.ARTICLES ≤ _ from c3)]; exact fin_no h (chg_no rfl (by decide)) rfl
  rw [if_neg c3, if_neg (show ¬ Km485.ARTICLES ≤ _ from c3)]
  exact fin_yes h (chg_yes rfl (by omega)) rfl (h.now.put (by omega) (R.addArt s x (by omega)) rfl)
theorem ok_offer (h : RD r d) (t i k m : Nat) : Fine r d (.offer t i k m) := by
  unfold Fine; simp only [stepM, act, opOffer]
  simp only [h.noT, h.noS, decide_eq_true_eq]
  by_cases c0 : r.w.ts.length ≤ t ∨ r.w.n ≤ i
  · rw [if_pos c0, if_pos c0]; exact fin_no h rfl rfl
  have R := h.now.tr (t := t) (by omega)
  have et := R.turn
  have em := R.mem
  rw [if_neg c0, if_neg c0]
  by_cases c1 : r.w.n < k ∨ 2 ^ r.w.n ≤ m ∨ m.testBit i = true
  · rw [if_pos c1, if_pos (show d.now.n < k ∨ 2 ^ d.now.n ≤ m ∨ m.testBit i = true by rw [h.now.n]; exact c1)]; exact fin_no h (chg_no rfl (by decide)) rfl
  rw [if_neg c1, if_neg (show ¬ (d.now.n < k ∨ 2 ^ d.now.n ≤ m ∨ m.testBit i = true) by rw [h.now.n]; exact c1)]
  by_cases c2 : 0 < (r.w.tr t).turn
  · rw [if_pos c2, if_pos (show (d.now.treaty t).turn ≠ 0 by omega)]; exact fin_no h (chg_no rfl (by decide)) rfl
  rw [if_neg c2, if_neg (show ¬ (d.now.treaty t).turn ≠ 0 by omega)]
  have eo : (d.now.treaty t).offerers.testBit i = ((r.w.tr t).off i).isSome := by rw [R.offd h.now.n6]; exact R.off_bit h.now.n6 (by have := h.now.n6; omega)
  refine fin_yes h (chg_yes rfl (by split <;> decide)) ?_ (h.now.put (by omega) (R.addOff h.now.n6 (k := k) (m := m) (by omega)) rfl)
  rw [eo]
  rfl
theorem ok_unoffer (h : RD r d) (t i : Nat) : Fine r d (.unoffer t i) := by
  unfold Fine; simp only [stepM, act, opUnoffer]
  simp only [h.noT, h.noS, decide_eq_true_eq]
  by_cases c0 : r.w.ts.length ≤ t ∨ r.w.n ≤ i
  · rw [if_pos c0, if_pos c0]; exact fin_no h rfl rfl
  have R := h.now.tr (t := t) (by omega)
  have et := R.turn
  have em := R.mem
  rw [if_neg c0, if_neg c0]
  by_cases c2 : 0 < (r.w.tr t).turn
  · rw [if_pos c2, if_pos (show (d.now.treaty t).turn ≠ 0 by omega)]; exact fin_no h (chg_no rfl (by decide)) rfl
  rw [if_neg c2, if_neg (show ¬ (d.now.treaty t).turn ≠ 0 by omega)]
  have h6 : i < 6 := by have := h.now.n6; omega
  have eo : (d.now.treaty t).offerers.testBit i = ((r.w.tr t).off i).isSome := by rw [R.offd h.now.n6]; exact R.off_bit h.now.n6 h6
  by_cases c3 : ((r.w.tr t).off i).isSome = false
  · rw [if_pos c3, if_pos (show (d.now.treaty t).offerers.testBit i = false by rw [eo]; exact c3)]; exact fin_no h (chg_no rfl (by decide)) rfl
  rw [if_neg c3, if_neg (show ¬ (d.now.treaty t).offerers.testBit i = false by rw [eo]; exact c3)]
  have R' := R.delOff h.now.n6 (i := i) (by omega)
  have e1 := R'.olen h.now.n6
  have e2 := R.olen h.now.n6
  refine fin_yes h (chg_yes rfl (by omega)) ?_ (h.now.put (by omega) R' rfl)
  have e3 : ((r.w.tr t).noOff i).offd = without (r.w.tr t).offd i := ext6 (T.offd_lt _) (wo_lt _ (T.offd_lt _) i h6) fun j hj => by
    rw [bit_wo _ (T.offd_lt _) i h6 j hj, R'.off_bit h.now.n6 hj, R.off_bit h.now.n6 hj]
    have : ((r.w.tr t).noOff i).off j = if i = j then none else (r.w.tr t).off j := getD_set _ _ _ _ _ (by rw [R.lo]; exact h6)
    rw [this]
    by_cases e : i = j
    · simp [e]
    · rw [if_neg e, beq_false_of_ne e]; simp
  have e4 := cnt_wo _ (T.offd_lt (r.w.tr t)) i h6
  rw [R.off_bit h.now.n6 h6] at e4
  have c3 : ((r.w.tr t).off i).isSome = true := Bool.of_not_eq_false c3
  rw [c3, ← e3] at e4
  have : (d.now.treaty t).offers.length - 1 = count ((r.w.tr t).noOff i).offd := by
    simp at e4
    omega
  show (_, only (n2i ((d.now.treaty t).offers.length - 1))) = _
  rw [this]
  rfl
theorem ok_joiners (h : RD r d) (t : Nat) : Fine r d (.joiners t) := by
  unfold Fine; simp only [stepM, act, qJoiners]
  simp only [h.noT, decide_eq_true_eq]
  by_cases c0 : r.w.ts.length ≤ t
  · rw [if_pos c0, if_pos c0]; exact fin_no h rfl rfl
  have R := h.now.tr (t := t) (by omega)
  have et := R.turn
  have em := R.mem
  rw [if_neg c0, if_neg c0]
  by_cases c2 : 0 < (r.w.tr t).turn
  · rw [if_pos c2, if_pos (show (d.now.treaty t).turn ≠ 0 by omega)]; exact fin_no h rfl rfl
  rw [if_neg c2, if_neg (show ¬ (d.now.treaty t).turn ≠ 0 by omega), R.joiners0 h.now.n6]
  exact fin_q h rfl rfl rfl
theorem ok_waits (h : RD r d) (t : Nat) : Fine r d (.waits t) := by
  unfold Fine; simp only [stepM, act, qWaits]
  simp only [h.noT, decide_eq_true_eq]
  by_cases c0 : r.w.ts.length ≤ t
  · rw [if_pos c0, if_pos c0]; exact fin_no h rfl rfl
  have R := h.now.tr (t := t) (by omega)
  have et := R.turn
  have em := R.mem
  rw [if_neg c0, if_neg c0]
  by_cases c2 : 0 < (r.w.tr t).turn
  · rw [if_pos c2, if_pos (show (d.now.treaty t).turn ≠ 0 by omega)]; exact fin_no h rfl rfl
  rw [if_neg c2, if_neg (show ¬ (d.now.treaty t).turn ≠ 0 by omega), R.joiners0 h.now.n6, R.offd h.now.n6]
  exact fin_q h rfl rfl rfl
theorem ok_first (h : RD r d) (t : Nat) : Fine r d (.first t) := by
  unfold Fine; simp only [stepM, act, qFirst]
  simp only [h.noT, decide_eq_true_eq]
  by_cases c0 : r.w.ts.length ≤ t
  · rw [if_pos c0, if_pos c0]; exact fin_no h rfl rfl
  have R := h.now.tr (t := t) (by omega)
  have et := R.turn
  have em := R.mem
  rw [if_neg c0, if_neg c0]
  by_cases c2 : 0 < (r.w.tr t).turn
  · rw [if_pos c2, if_pos (show (d.now.treaty t).turn ≠ 0 by omega)]; exact fin_no h rfl rfl
  rw [if_neg c2, if_neg (show ¬ (d.now.treaty t).turn ≠ 0 by omega), R.first h.now.n6 rfl h.now.n]
  by_cases c3 : (r.w.tr t).enough (r.w.tr t).offd = true
  · rw [if_pos c3, if_neg (by rw [c3]; decide)]
    exact fin_q h rfl rfl rfl
  · have c3' : (r.w.tr t).enough (r.w.tr t).offd = false := by simpa using c3
    rw [if_neg c3, if_pos c3']
    exact fin_no h rfl rfl
theorem ok_conclude (h : RD r d) (t : Nat) : Fine r d (.conclude t) := by
  unfold Fine; simp only [stepM, act, opConclude]
  simp only [h.noT, decide_eq_true_eq]
  by_cases c0 : r.w.ts.length ≤ t
  · rw [if_pos c0, if_pos c0]; exact fin_no h rfl rfl
  have R := h.now.tr (t := t) (by omega)
  have et := R.turn
  have em := R.mem
  rw [if_neg c0, if_neg c0]
  by_cases c2 : 0 < (r.w.tr t).turn
  · rw [if_pos c2, if_pos (show (d.now.treaty t).turn ≠ 0 by omega)]; exact fin_no h (chg_no rfl (by decide)) rfl
  rw [if_neg c2, if_neg (show ¬ (d.now.treaty t).turn ≠ 0 by omega)]
  by_cases c3 : (r.w.tr t).arts.length = 0
  · have : (d.now.treaty t).articles = [] := by rw [R.arts, List.length_eq_zero_iff.mp c3]; rfl
    rw [if_pos c3, if_pos this]; exact fin_no h (chg_no rfl (by decide)) rfl
  have c3' : ¬ (d.now.treaty t).articles = [] := fun z => c3 (by rw [R.arts] at z; rw [List.map_eq_nil_iff.mp z]; rfl)
  rw [if_neg c3, if_neg c3']
  have ej := R.joiners0 h.now.n6
  have en := R.need
  unfold T.enough
  by_cases c4 : count ((r.w.tr t).joiners 0) < (r.w.tr t).need
  · rw [if_pos (show count (d.now.treaty t).joiners < (d.now.treaty t).need by rw [ej, en]; exact c4), if_pos (by apply decide_eq_false; omega)]; exact fin_no h (chg_no rfl (by decide)) rfl
  rw [if_neg (show ¬ count (d.now.treaty t).joiners < (d.now.treaty t).need by rw [ej, en]; exact c4), if_neg (by rw [decide_eq_true (by omega)]; decide)]
  have R' := R.conclude h.now.n6 (by omega) (d.now.turns + 1) (by omega)
  refine fin_yes h (chg_yes rfl (by omega)) ?_ (h.now.conclude (by omega) (y := { r.w.tr t with turn := r.w.turns + 1, mem := (r.w.tr t).joiners 0 }) (x := { d.now.treaty t with turn := d.now.turns + 1, members := (d.now.treaty t).joiners }) (by rw [h.now.turns] at R' ⊢; exact R') (by omega) rfl)
  rw [ej]
  rfl
theorem ok_accede (h : RD r d) (t i : Nat) : Fine r d (.accede t i) := by
  unfold Fine; simp only [stepM, act, opAccede]
  simp only [h.noT, h.noS, decide_eq_true_eq]
  by_cases c0 : r.w.ts.length ≤ t ∨ r.w.n ≤ i
  · rw [if_pos c0, if_pos c0]; exact fin_no h rfl rfl
  have R := h.now.tr (t := t) (by omega)
  have et := R.turn
  have em := R.mem
  rw [if_neg c0, if_neg c0]
  by_cases c1 : (r.w.tr t).turn = 0
  · rw [if_pos c1, if_pos (show (d.now.treaty t).turn = 0 by omega)]; exact fin_no h (chg_no rfl (by decide)) rfl
  rw [if_neg c1, if_neg (show ¬ (d.now.treaty t).turn = 0 by omega)]
  by_cases c2 : (r.w.tr t).mem.testBit i = true
  · rw [if_pos c2, if_pos (show (d.now.treaty t).members.testBit i = true by rw [em]; exact c2)]; exact fin_no h (chg_no rfl (by decide)) rfl
  rw [if_neg c2, if_neg (show ¬ (d.now.treaty t).members.testBit i = true by rw [em]; exact c2)]
  have c2' : (r.w.tr t).mem.testBit i = false := by simpa using c2
  have R' := R.accede h.now.n6 (i := i) (by omega) c1 c2'
  refine fin_yes h (chg_yes rfl (by omega)) ?_ (h.now.put (by omega) R' rfl)
  have e := cnt_or _ (R.m64 h.now.n6) i (by have := h.now.n6; omega)
  rw [c2'] at e
  simp at e
  rw [e, R.mem]
  rfl
theorem ok_leave (h : RD r d) (t i : Nat) : Fine r d (.leave t i) := by
  unfold Fine; simp only [stepM, act, opLeave]
  simp only [h.noT, h.noS, decide_eq_true_eq]
  by_cases c0 : r.w.ts.length ≤ t ∨ r.w.n ≤ i
  · rw [if_pos c0, if_pos c0]; exact fin_no h rfl rfl
  have R := h.now.tr (t := t) (by omega)
  have et := R.turn
  have em := R.mem
  rw [if_neg c0, if_neg c0]
  by_cases c2 : (r.w.tr t).mem.testBit i = false
  · rw [if_pos c2, if_pos (show (d.now.treaty t).members.testBit i = false by rw [em]; exact c2)]; exact fin_no h (chg_no rfl (by decide)) rfl
  rw [if_neg c2, if_neg (show ¬ (d.now.treaty t).members.testBit i = false by rw [em]; exact c2)]
  have R' := R.leave h.now.n6 (i := i) (by omega)
  refine fin_yes h (chg_yes rfl (by omega)) ?_ (h.now.put (by omega) R' rfl)
  rw [R'.mem]
  rfl
theorem ok_reserve (h : RD r d) (t i a : Nat) : Fine r d (.reserve t i a) := by
  unfold Fine; simp only [stepM, act, opReserve]
  simp only [h.noT, h.noS, decide_eq_true_eq]
  by_cases ct : r.w.ts.length ≤ t
  · rw [if_pos (Or.inl ct), if_pos (Or.inl ct)]; exact fin_no h rfl rfl
  simp only [h.noA (show t < r.w.ts.length by omega), decide_eq_true_eq]
  by_cases c0 : r.w.ts.length ≤ t ∨ r.w.n ≤ i ∨ (r.w.tr t).arts.length ≤ a
  · rw [if_pos c0, if_pos c0]; exact fin_no h rfl rfl
  have R := h.now.tr (t := t) (by omega)
  have et := R.turn
  have em := R.mem
  rw [if_neg c0, if_neg c0]
  by_cases c2 : (r.w.tr t).mem.testBit i = false
  · rw [if_pos c2, if_pos (show (d.now.treaty t).members.testBit i = false by rw [em]; exact c2)]; exact fin_no h (chg_no rfl (by decide)) rfl
  rw [if_neg c2, if_neg (show ¬ (d.now.treaty t).members.testBit i = false by rw [em]; exact c2)]
  have er : (d.now.treaty t).reserved.getD i 0 = (r.w.tr t).rsv i := by rw [R.res]; rfl
  rw [er]
  by_cases c3 : ((r.w.tr t).rsv i).testBit a = true
  · rw [if_pos c3, if_pos c3]; exact fin_no h (chg_no rfl (by decide)) rfl
  rw [if_neg c3, if_neg c3]
  have c3' : ((r.w.tr t).rsv i).testBit a = false := by simpa using c3
  have c2' : (r.w.tr t).mem.testBit i = true := by simpa using c2
  have ha4 : a < 4 := by have := R.al; omega
  have R' := R.reserve h.now.n6 (i := i) (a := a) (by omega) ha4 c2' c3'
  rw [er] at R'
  refine fin_yes h (chg_yes rfl (by omega)) ?_ (h.now.put (by omega) R' rfl)
  have e := cnt_or _ (R.rsv64 i) a (by omega)
  rw [c3'] at e
  simp at e
  rw [e]
  rfl
theorem ok_unreserve (h : RD r d) (t i a : Nat) : Fine r d (.unreserve t i a) := by
  unfold Fine; simp only [stepM, act, opUnreserve]
  simp only [h.noT, h.noS, decide_eq_true_eq]
  by_cases ct : r.w.ts.length ≤ t
  · rw [if_pos (Or.inl ct), if_pos (Or.inl ct)]; exact fin_no h rfl rfl
  simp only [h.noA (show t < r.w.ts.length by omega), decide_eq_true_eq]
  by_cases c0 : r.w.ts.length ≤ t ∨ r.w.n ≤ i ∨ (r.w.tr t).arts.length ≤ a
  · rw [if_pos c0, if_pos c0]; exact fin_no h rfl rfl
  have R := h.now.tr (t := t) (by omega)
  have et := R.turn
  have em := R.mem
  rw [if_neg c0, if_neg c0]
  have er : (d.now.treaty t).reserved.getD i 0 = (r.w.tr t).rsv i := by rw [R.res]; rfl
  rw [er]
  by_cases c3 : ((r.w.tr t).rsv i).testBit a = false
  · rw [if_pos c3, if_pos c3]; exact fin_no h (chg_no rfl (by decide)) rfl
  rw [if_neg c3, if_neg c3]
  have c3' : ((r.w.tr t).rsv i).testBit a = true := by simpa using c3
  have ha4 : a < 4 := by have := R.al; omega
  have R' := R.unres h.now.n6 (i := i) (a := a) (by omega) ha4 c3'
  rw [er] at R'
  have ht : ((r.w.tr t).unreserve i a).turn = (r.w.tr t).turn := by
    unfold T.unreserve
    simp only
    split <;> rfl
  refine fin_yes h (chg_yes rfl (by omega)) ?_ (h.now.put (by omega) R' ht)
  have e := cnt_wo _ (R.rsv64 i) a (by omega)
  rw [c3'] at e
  simp at e
  rw [show count ((r.w.tr t).rsv i) - 1 = count (without ((r.w.tr t).rsv i) a) by omega]
  rfl
end
end Mi
namespace Mi
open Km485 (count without inside bits again_ act only n2i)
section
variable {r : R} {d : Km485.Desk}
theorem contains_bit {n : Nat} {t : T} {x : Km485.Treaty} (R : RT n t x) (j i : Nat) : x.objects.contains (j, i) = (t.row j).testBit i := (R.objs j i).symm
theorem ok_object (h : RD r d) (t j i : Nat) : Fine r d (.object t j i) := by
  unfold Fine; simp only [stepM, act, opObject]
  simp only [h.noT, h.noS, decide_eq_true_eq]
  by_cases c0 : r.w.ts.length ≤ t ∨ r.w.n ≤ j ∨ r.w.n ≤ i
  · rw [if_pos c0, if_pos c0]; exact fin_no h rfl rfl
  have R := h.now.tr (t := t) (by omega)
  have em := R.mem
  have er : (d.now.treaty t).reserved.getD i 0 = (r.w.tr t).rsv i := by rw [R.res]; rfl
  have eo := contains_bit R j i
  rw [if_neg c0, if_neg c0]
  by_cases c1 : j = i
  · rw [if_pos c1, if_pos c1.symm]; exact fin_no h (chg_no rfl (by decide)) rfl
  rw [if_neg c1, if_neg (show ¬ i = j from fun z => c1 z.symm)]
  by_cases c2 : (r.w.tr t).mem.testBit j = false ∨ (r.w.tr t).rsv i = 0
  · rw [if_pos c2, if_pos (show (d.now.treaty t).members.testBit j = false ∨ (d.now.treaty t).reserved.getD i 0 = 0 by rw [em, er]; exact c2)]; exact fin_no h (chg_no rfl (by decide)) rfl
  rw [if_neg c2, if_neg (show ¬ ((d.now.treaty t).members.testBit j = false ∨ (d.now.treaty t).reserved.getD i 0 = 0) by rw [em, er]; exact c2)]
  by_cases c3 : ((r.w.tr t).row j).testBit i = true
  · rw [if_pos c3, if_pos (eo.trans c3)]; exact fin_no h (chg_no rfl (by decide)) rfl
  rw [if_neg c3, if_neg (fun z => c3 ((eo.symm.trans z : _ = _)))]
  have c3' : ((r.w.tr t).row j).testBit i = false := by simpa using c3
  have R' := R.addObj h.now.n6 (j := j) (i := i) (by omega) (by omega) c1 (Bool.of_not_eq_false fun z => c2 (.inl z)) (fun z => c2 (.inr z)) c3'
  have e := R'.objections h.now.n6
  rw [List.length_append] at e
  refine fin_yes h (chg_yes rfl (by omega)) ?_ (h.now.put (by omega) R' rfl)
  rw [e]
  rfl
theorem ok_accept (h : RD r d) (t j i : Nat) : Fine r d (.accept t j i) := by
  unfold Fine; simp only [stepM, act, opAccept]
  simp only [h.noT, h.noS, decide_eq_true_eq]
  by_cases c0 : r.w.ts.length ≤ t ∨ r.w.n ≤ j ∨ r.w.n ≤ i
  · rw [if_pos c0, if_pos c0]; exact fin_no h rfl rfl
  have R := h.now.tr (t := t) (by omega)
  have eo := contains_bit R j i
  rw [if_neg c0, if_neg c0]
  by_cases c3 : ((r.w.tr t).row j).testBit i = false
  · rw [if_pos c3, if_pos (eo.trans c3)]; exact fin_no h (chg_no rfl (by decide)) rfl
  rw [if_neg c3, if_neg (fun z => c3 ((eo.symm.trans z : _ = _)))]
  have c3' : ((r.w.tr t).row j).testBit i = true := by simpa using c3
  have R' := R.delObj h.now.n6 (j := j) (i := i) (by omega) (by omega)
  have e := R'.objections h.now.n6
  have e1 := R.objections h.now.n6
  refine fin_yes h (chg_yes rfl (by omega)) ?_ (h.now.put (by omega) R' rfl)
  have n6 := h.now.n6
  have hj : j < (r.w.tr t).obj.length := by rw [R.lb]; omega
  have e2 := sum_set_cnt (r.w.tr t).obj j (without ((r.w.tr t).row j) i) hj
  have e3 := cnt_wo _ (R.row64 j) i (by omega)
  rw [c3'] at e3
  simp at e3
  have e4 : ((r.w.tr t).delObj j i).objections + 1 = (r.w.tr t).objections := by
    unfold T.objections T.delObj
    show ((((r.w.tr t).obj.set j (without ((r.w.tr t).row j) i)).map count).sum) + 1 = _
    have : count ((r.w.tr t).obj.getD j 0) = count ((r.w.tr t).row j) := rfl
    omega
  rw [show (d.now.treaty t).objects.length - 1 = ((r.w.tr t).delObj j i).objections by omega]
  rfl
theorem ok_favour (h : RD r d) (i j : Nat) : Fine r d (.favour i j) := by
  unfold Fine; simp only [stepM, act, opFavour]
  simp only [h.noS, decide_eq_true_eq]
  by_cases c0 : r.w.n ≤ i ∨ r.w.n ≤ j
  · rw [if_pos c0, if_pos c0]; exact fin_no h rfl rfl
  have eo := (h.now.fav i j).symm
  rw [if_neg c0, if_neg c0]
  by_cases c1 : i = j
  · rw [if_pos c1, if_pos c1]; exact fin_no h (chg_no rfl (by decide)) rfl
  rw [if_neg c1, if_neg c1]
  by_cases c3 : (r.w.favs i).testBit j = true
  · rw [if_pos c3, if_pos (eo.trans c3)]; exact fin_no h (chg_no rfl (by decide)) rfl
  rw [if_neg c3, if_neg (fun z => c3 ((eo.symm.trans z : _ = _)))]
  have R' := h.now.addFav (i := i) (j := j) (by omega) (by omega) (by simpa using c3)
  have e := R'.allFav
  rw [List.length_append] at e
  refine fin_yes h (chg_yes rfl (by omega)) ?_ R'
  rw [e]
  rfl
theorem ok_unfavour (h : RD r d) (i j : Nat) : Fine r d (.unfavour i j) := by
  unfold Fine; simp only [stepM, act, opUnfavour]
  simp only [h.noS, decide_eq_true_eq]
  by_cases c0 : r.w.n ≤ i ∨ r.w.n ≤ j
  · rw [if_pos c0, if_pos c0]; exact fin_no h rfl rfl
  have eo := (h.now.fav i j).symm
  rw [if_neg c0, if_neg c0]
  by_cases c3 : (r.w.favs i).testBit j = false
  · rw [if_pos c3, if_pos (eo.trans c3)]; exact fin_no h (chg_no rfl (by decide)) rfl
  rw [if_neg c3, if_neg (fun z => c3 ((eo.symm.trans z : _ = _)))]
  have c3' : (r.w.favs i).testBit j = true := by simpa using c3
  have R' := h.now.delFav (i := i) (j := j) (by omega) (by omega)
  have e1 := h.now.allFav
  have n6 := h.now.n6
  have hj : i < r.w.fav.length := by rw [h.now.lf]; omega
  have e2 := sum_set_cnt r.w.fav i (without (r.w.favs i) j) hj
  have e3 := cnt_wo _ (getD_lt (by decide) h.now.fl i) j (by omega)
  have c3'' : (r.w.fav.getD i 0).testBit j = true := c3'
  rw [c3''] at e3
  simp at e3
  have e4 : (r.w.delFav i j).allFav + 1 = r.w.allFav := by
    unfold W.allFav W.delFav
    show (((r.w.fav.set i (without (r.w.favs i) j)).map count).sum) + 1 = _
    have : count (without (r.w.fav.getD i 0) j) = count (without (r.w.favs i) j) := rfl
    have e3' : count (r.w.fav.getD i 0) = count (without (r.w.fav.getD i 0) j) + 1 := by
      have := cnt_wo _ (getD_lt (by decide) h.now.fl i) j (by omega)
      rw [c3''] at this
      simpa using this
    omega
  refine fin_yes h (chg_yes rfl (by omega)) ?_ R'
  rw [show d.now.favours.length - 1 = (r.w.delFav i j).allFav by omega]
  rfl
theorem ok_part (h : RD r d) (i mode : Nat) : Fine r d (.part i mode) := by
  unfold Fine; simp only [stepM, act, opPart]
  simp only [h.noS, decide_eq_true_eq]
  by_cases c0 : r.w.n ≤ i
  · rw [if_pos c0, if_pos c0]; exact fin_no h rfl rfl
  rw [if_neg c0, if_neg c0]
  by_cases c1 : 1 < mode
  · rw [if_pos c1, if_pos c1]; exact fin_no h (chg_no rfl (by decide)) rfl
  rw [if_neg c1, if_neg c1]
  have en := h.now.n
  by_cases c2 : 6 ≤ r.w.n
  · rw [if_pos c2, if_pos (show Km485.STATES ≤ d.now.n by rw [en]; exact c2)]; exact fin_no h (chg_no rfl (by decide)) rfl
  rw [if_neg c2, if_neg (show ¬ Km485.STATES ≤ d.now.n by rw [en]; exact c2)]
  refine fin_yes h (chg_yes rfl (by omega)) ?_ (h.now.part (i := i) (mode := mode) (by omega) (by omega) (by omega))
  rw [← en]
  rfl
theorem ok_members (h : RD r d) (t : Nat) : Fine r d (.members t) := by
  unfold Fine; simp only [stepM, act, qMembers]
  simp only [h.noT, decide_eq_true_eq]
  by_cases c0 : r.w.ts.length ≤ t
  · rw [if_pos c0, if_pos c0]; exact fin_no h rfl rfl
  have R := h.now.tr (t := t) (by omega)
  rw [if_neg c0, if_neg c0, R.mem, R.turn]
  exact fin_q h rfl rfl rfl
theorem ok_between (h : RD r d) (t i j : Nat) : Fine r d (.between t i j) := by
  unfold Fine; simp only [stepM, act, qBetween]
  simp only [h.noT, h.noS, decide_eq_true_eq]
  by_cases c0 : r.w.ts.length ≤ t ∨ r.w.n ≤ i ∨ r.w.n ≤ j
  · rw [if_pos c0, if_pos c0]; exact fin_no h rfl rfl
  have R := h.now.tr (t := t) (by omega)
  rw [if_neg c0, if_neg c0]
  by_cases c1 : i = j
  · rw [if_pos c1, if_pos c1]; exact fin_no h rfl rfl
  rw [if_neg c1, if_neg c1, R.between c1]
  exact fin_q h rfl rfl rfl
theorem ok_applies (h : RD r d) (t i j a : Nat) : Fine r d (.applies t i j a) := by
  unfold Fine; simp only [stepM, act, qApplies]
  simp only [h.noT, h.noS, decide_eq_true_eq]
  by_cases ct : r.w.ts.length ≤ t
  · rw [if_pos (Or.inl ct), if_pos (Or.inl ct)]; exact fin_no h rfl rfl
  simp only [h.noA (show t < r.w.ts.length by omega), decide_eq_true_eq]
  by_cases c0 : r.w.ts.length ≤ t ∨ r.w.n ≤ i ∨ r.w.n ≤ j ∨ (r.w.tr t).arts.length ≤ a
  · rw [if_pos c0, if_pos c0]; exact fin_no h rfl rfl
  have R := h.now.tr (t := t) (by omega)
  rw [if_neg c0, if_neg c0]
  by_cases c1 : i = j
  · rw [if_pos c1, if_pos c1]; exact fin_no h rfl rfl
  rw [if_neg c1, if_neg c1, R.applies c1]
  exact fin_q h rfl rfl rfl
theorem ok_rule (h : RD r d) (i j s : Nat) : Fine r d (.rule i j s) := by
  unfold Fine; simp only [stepM, act, qRule]
  simp only [h.noS, decide_eq_true_eq]
  by_cases c0 : r.w.n ≤ i ∨ r.w.n ≤ j
  · rw [if_pos c0, if_pos c0]; exact fin_no h rfl rfl
  rw [if_neg c0, if_neg c0]
  by_cases c1 : i = j ∨ 4 ≤ s
  · rw [if_pos c1, if_pos (show i = j ∨ Km485.SUBJECTS ≤ s from c1)]; exact fin_no h rfl rfl
  rw [if_neg c1, if_neg (show ¬ (i = j ∨ Km485.SUBJECTS ≤ s) from c1)]
  have hij : i ≠ j := fun z => c1 (.inl z)
  rw [h.now.rule hij, h.now.most hij]
  unfold W.allowed
  cases e : r.w.ahead i j s with
  | none => exact fin_no h rfl rfl
  | some x => exact fin_q h rfl rfl rfl
theorem ok_takes (h : RD r d) (i j s : Nat) : Fine r d (.takes i j s) := by
  unfold Fine; simp only [stepM, act, qTakes]
  simp only [h.noS, decide_eq_true_eq]
  by_cases c0 : r.w.n ≤ i ∨ r.w.n ≤ j
  · rw [if_pos c0, if_pos c0]; exact fin_no h rfl rfl
  rw [if_neg c0, if_neg c0]
  by_cases c1 : i = j ∨ 4 ≤ s
  · rw [if_pos c1, if_pos (show i = j ∨ Km485.SUBJECTS ≤ s from c1)]; exact fin_no h rfl rfl
  rw [if_neg c1, if_neg (show ¬ (i = j ∨ Km485.SUBJECTS ≤ s) from c1)]
  rw [h.now.takes fun z => c1 (.inl z)]
  exact fin_q h rfl rfl rfl
theorem ok_table (h : RD r d) (s : Nat) : Fine r d (.table s) := by
  unfold Fine; simp only [stepM, act, qTable]
  by_cases c1 : 4 ≤ s
  · rw [if_pos c1, if_pos (show Km485.SUBJECTS ≤ s from c1)]; exact fin_no h rfl rfl
  rw [if_neg c1, if_neg (show ¬ Km485.SUBJECTS ≤ s from c1), h.now.ruled, h.now.sum]
  exact fin_q h rfl rfl rfl
theorem told_len : ∀ l : List (Nat × Nat), (l.flatMap fun p => [p.1, p.2]).length = 2 * l.length
  | [] => rfl
  | p :: l => by rw [List.flatMap_cons, List.length_append, told_len l]; simp; omega
theorem told_cast : ∀ l : List (Nat × Nat), (l.flatMap fun p => [((p.1 : Nat) : Int), ((p.2 : Nat) : Int)]) = (l.flatMap fun p => [p.1, p.2]).map fun (x : Nat) => (x : Int)
  | [] => rfl
  | p :: l => by rw [List.flatMap_cons, List.flatMap_cons, List.map_append, told_cast l]; rfl
theorem rep_pair : ∀ k : Nat, (List.replicate k [(0 : Int), 0]).flatten = List.replicate (2 * k) 0
  | 0 => rfl
  | k + 1 => by
    rw [List.replicate_succ, List.flatten_cons, rep_pair k, show 2 * (k + 1) = 2 * k + 1 + 1 by omega, List.replicate_succ, List.replicate_succ]
    rfl
theorem ok_told (h : RD r d) (t : Nat) : Fine r d (.told t) := by
  unfold Fine; simp only [stepM, act]
  simp only [h.noT, decide_eq_true_eq]
  by_cases c0 : r.w.ts.length ≤ t
  · rw [if_pos c0, if_pos c0]; exact fin_no h rfl rfl
  have R := h.now.tr (t := t) (by omega)
  rw [if_neg c0, if_neg c0]
  refine fin_q h rfl rfl ?_
  have e1 : ((d.now.treaty t).articles.flatMap fun a => [a.subject, a.most]) = (r.w.tr t).arts.flatMap fun p => [p.1, p.2] := by
    rw [R.arts, List.flatMap_map]
  have el : (d.now.treaty t).articles.length = (r.w.tr t).arts.length := by rw [R.arts, List.length_map]
  have hl := told_len (r.w.tr t).arts
  have al := R.al
  unfold qTold Km485Neutral.told Km485Neutral.nums Km485.fill
  rw [e1, el, R.need, told_cast, rep_pair, hl, List.take_of_length_le (by omega)]
  rw [show 2 * (4 - (r.w.tr t).arts.length) = 8 - 2 * (r.w.tr t).arts.length by omega]
  simp [List.map_append, n2i]
theorem all2_snoc {α β : Type} {P : α → β → Prop} {l : List α} {b : β} {m : List β} (h : All2 P l (m ++ [b])) : ∃ l' a, l = l' ++ [a] ∧ P a b ∧ All2 P l' m := by
  have h2 := h.reverse
  rw [List.reverse_append, List.reverse_singleton] at h2
  generalize e : l.reverse = q at h2
  cases h2 with
  | cons ha ht =>
    rename_i a l2
    refine ⟨l2.reverse, a, ?_, ha, ?_⟩
    · rw [← List.reverse_reverse l, e, List.reverse_cons]
    · have q : All2 P l2 m.reverse := ht
      have := q.reverse
      rwa [List.reverse_reverse] at this
theorem all2_nil {α β : Type} {P : α → β → Prop} {l : List α} (h : All2 P l []) : l = [] := by cases h; rfl
theorem ok_back (h : RD r d) : Fine r d .back := by
  unfold Fine; simp only [stepM, act]
  have hp := h.past
  have hc := h.cap
  cases e : d.past with
  | nil =>
    rw [e] at hp
    rw [all2_nil hp]
    exact fin_no h rfl rfl
  | cons k q =>
    rw [e, List.reverse_cons] at hp
    obtain ⟨l', a, hl, ha, ht⟩ := all2_snoc hp
    rw [hl, List.getLast?_concat]
    simp only [List.dropLast_concat]
    rw [hl] at hc
    refine ⟨⟨ha, ht, ?_, ?_⟩, ?_⟩
    · show All2 RW (r.und ++ [r.w]) (d.now :: d.future).reverse
      rw [List.reverse_cons]
      exact h.fut.append (.cons h.now .nil)
    · show l'.length + (r.und ++ [r.w]).length ≤ 20
      simp at hc ⊢
      omega
    · have := ht.len
      simp at this ⊢
      show _ = [n2i q.length]
      rw [this]
      rfl
theorem ok_again (h : RD r d) : Fine r d .again := by
  unfold Fine; simp only [stepM, act]
  have hp := h.fut
  have hc := h.cap
  have hpl := h.past.len
  cases e : d.future with
  | nil =>
    rw [e] at hp
    rw [all2_nil hp]
    exact fin_no h rfl rfl
  | cons k q =>
    rw [e, List.reverse_cons] at hp
    obtain ⟨l', a, hl, ha, ht⟩ := all2_snoc hp
    rw [hl, List.getLast?_concat]
    simp only [List.dropLast_concat]
    rw [hl] at hc
    rw [List.length_reverse] at hpl
    simp at hc
    refine ⟨⟨ha, ?_, ht, ?_⟩, ?_⟩
    · show All2 RW (r.past ++ [r.w]) ((d.now :: d.past).take Km485.PAST).reverse
      rw [List.take_of_length_le (by simp [Km485.PAST]; omega), List.reverse_cons]
      exact h.past.append (.cons h.now .nil)
    · show (r.past ++ [r.w]).length + l'.length ≤ 20
      simp
      omega
    · have := ht.len
      simp at this ⊢
      show _ = [n2i q.length]
      rw [this]
      rfl
theorem ok_state (h : RD r d) : Fine r d .state := by
  unfold Fine; simp only [stepM, act]
  refine ⟨h, ?_⟩
  have h1 := h.past.len
  have h2 := h.fut.len
  rw [List.length_reverse] at h1 h2
  rw [h.now.len, h.now.n, ← h.now.allFav, h.now.turns, ← h1, ← h2]
  rfl
theorem step_ok (h : RD r d) : ∀ c, Fine r d c
  | .start n => ok_start h n
  | .treaty k => ok_treaty h k
  | .article t s x => ok_article h t s x
  | .offer t i k m => ok_offer h t i k m
  | .unoffer t i => ok_unoffer h t i
  | .joiners t => ok_joiners h t
  | .waits t => ok_waits h t
  | .first t => ok_first h t
  | .conclude t => ok_conclude h t
  | .accede t i => ok_accede h t i
  | .leave t i => ok_leave h t i
  | .reserve t i a => ok_reserve h t i a
  | .unreserve t i a => ok_unreserve h t i a
  | .object t j i => ok_object h t j i
  | .accept t j i => ok_accept h t j i
  | .favour i j => ok_favour h i j
  | .unfavour i j => ok_unfavour h i j
  | .part i mode => ok_part h i mode
  | .members t => ok_members h t
  | .between t i j => ok_between h t i j
  | .applies t i j a => ok_applies h t i j a
  | .rule i j s => ok_rule h i j s
  | .takes i j s => ok_takes h i j s
  | .table s => ok_table h s
  | .told t => ok_told h t
  | .back => ok_back h
  | .again => ok_again h
  | .state => ok_state h
end
end Mi
namespace Mi
open Km485 (Call)
def enc : Call → List Nat
  | .start n => [0, n]
  | .treaty k => [1, k]
  | .article t s x => [2, t, s, x]
  | .offer t i k m => [3, t, i, k, m]
  | .unoffer t i => [4, t, i]
  | .joiners t => [5, t]
  | .waits t => [6, t]
  | .first t => [7, t]
  | .conclude t => [8, t]
  | .accede t i => [9, t, i]
  | .leave t i => [10, t, i]
  | .reserve t i a => [11, t, i, a]
  | .unreserve t i a => [12, t, i, a]
  | .object t j i => [13, t, j, i]
  | .accept t j i => [14, t, j, i]
  | .favour i j => [15, i, j]
  | .unfavour i j => [16, i, j]
  | .part i mode => [17, i, mode]
  | .members t => [18, t]
  | .between t i j => [19, t, i, j]
  | .applies t i j a => [20, t, i, j, a]
  | .rule i j s => [21, i, j, s]
  | .takes i j s => [22, i, j, s]
  | .table s => [23, s]
  | .told t => [24, t]
  | .back => [25]
  | .again => [26]
  | .state => [27]
def intsF (l : List Nat) : List Int := l.map fun (x : Nat) => (x : Int)
theorem nat_ok {z : Int} (h : Km485Neutral.natural z 32 = true) : ((z.toNat : Nat) : Int) = z ∧ z.toNat < 4294967296 := by
  unfold Km485Neutral.natural at h
  simp only [Bool.and_eq_true, decide_eq_true_eq] at h
  obtain ⟨h1, h2⟩ := h
  exact ⟨Int.toNat_of_nonneg h1, by omega⟩
theorem len0 {a : List Int} (h : 0 = a.length) : a = [] := List.length_eq_zero_iff.mp h.symm
theorem len1 {a : List Int} (h : 1 = a.length) : ∃ x, a = [x] := match a, h with | [x], _ => ⟨x, rfl⟩
theorem len2 {a : List Int} (h : 2 = a.length) : ∃ x y, a = [x, y] := match a, h with | [x, y], _ => ⟨x, y, rfl⟩
theorem len3 {a : List Int} (h : 3 = a.length) : ∃ x y z, a = [x, y, z] := match a, h with | [x, y, z], _ => ⟨x, y, z, rfl⟩
theorem len4 {a : List Int} (h : 4 = a.length) : ∃ x y z u, a = [x, y, z, u] := match a, h with | [x, y, z, u], _ => ⟨x, y, z, u, rfl⟩
theorem and2 {a b : Bool} (h : (a && b) = true) : a = true ∧ b = true := by simpa using h
def CallIs (c : List (List Int)) (x : Call) : Prop := Km485Neutral.callOf (PyKm485.whole c) = some x ∧ PyKm485.whole c = c ∧ c = [intsF (enc x)] ∧ ∀ z ∈ enc x, z < 4294967296
theorem is_0 (x : Int) (h : Km485Neutral.asked1 (PyKm485.whole [[0, x]]) = true) : ∃ c, CallIs [[0, x]] c := by
  have h : (Km485Neutral.natural x 32) = true := h
  have h0 := h
  obtain ⟨e0, g0⟩ := nat_ok h0
  refine ⟨.start x.toNat, rfl, rfl, ?_, fun z hz => ?_⟩
  · simp only [enc, intsF, List.map_cons, List.map_nil, e0]
    rfl
  · simp only [enc, List.mem_cons, List.not_mem_nil, or_false] at hz
    omega
theorem is_1 (x : Int) (h : Km485Neutral.asked1 (PyKm485.whole [[1, x]]) = true) : ∃ c, CallIs [[1, x]] c := by
  have h : (Km485Neutral.natural x 32) = true := h
  have h0 := h
  obtain ⟨e0, g0⟩ := nat_ok h0
  refine ⟨.treaty x.toNat, rfl, rfl, ?_, fun z hz => ?_⟩
  · simp only [enc, intsF, List.map_cons, List.map_nil, e0]
    rfl
  · simp only [enc, List.mem_cons, List.not_mem_nil, or_false] at hz
    omega
theorem is_2 (x y z : Int) (h : Km485Neutral.asked1 (PyKm485.whole [[2, x, y, z]]) = true) : ∃ c, CallIs [[2, x, y, z]] c := by
  have h : (Km485Neutral.natural x 32 && Km485Neutral.natural y 32 && Km485Neutral.natural z 32) = true := h
  obtain ⟨h, h2⟩ := and2 h
  obtain ⟨h0, h1⟩ := and2 h
  obtain ⟨e0, g0⟩ := nat_ok h0
  obtain ⟨e1, g1⟩ := nat_ok h1
  obtain ⟨e2, g2⟩ := nat_ok h2
  refine ⟨.article x.toNat y.toNat z.toNat, rfl, rfl, ?_, fun z hz => ?_⟩
  · simp only [enc, intsF, List.map_cons, List.map_nil, e0, e1, e2]
    rfl
  · simp only [enc, List.mem_cons, List.not_mem_nil, or_false] at hz
    omega
theorem is_3 (x y z u : Int) (h : Km485Neutral.asked1 (PyKm485.whole [[3, x, y, z, u]]) = true) : ∃ c, CallIs [[3, x, y, z, u]] c := by
  have h : (Km485Neutral.natural x 32 && Km485Neutral.natural y 32 && Km485Neutral.natural z 32 && Km485Neutral.natural u 32) = true := h
  obtain ⟨h, h3⟩ := and2 h
  obtain ⟨h, h2⟩ := and2 h
  obtain ⟨h0, h1⟩ := and2 h
  obtain ⟨e0, g0⟩ := nat_ok h0
  obtain ⟨e1, g1⟩ := nat_ok h1
  obtain ⟨e2, g2⟩ := nat_ok h2
  obtain ⟨e3, g3⟩ := nat_ok h3
  refine ⟨.offer x.toNat y.toNat z.toNat u.toNat, rfl, rfl, ?_, fun z hz => ?_⟩
  · simp only [enc, intsF, List.map_cons, List.map_nil, e0, e1, e2, e3]
    rfl
  · simp only [enc, List.mem_cons, List.not_mem_nil, or_false] at hz
    omega
theorem is_4 (x y : Int) (h : Km485Neutral.asked1 (PyKm485.whole [[4, x, y]]) = true) : ∃ c, CallIs [[4, x, y]] c := by
  have h : (Km485Neutral.natural x 32 && Km485Neutral.natural y 32) = true := h
  obtain ⟨h0, h1⟩ := and2 h
  obtain ⟨e0, g0⟩ := nat_ok h0
  obtain ⟨e1, g1⟩ := nat_ok h1
  refine ⟨.unoffer x.toNat y.toNat, rfl, rfl, ?_, fun z hz => ?_⟩
  · simp only [enc, intsF, List.map_cons, List.map_nil, e0, e1]
    rfl
  · simp only [enc, List.mem_cons, List.not_mem_nil, or_false] at hz
    omega
theorem is_5 (x : Int) (h : Km485Neutral.asked1 (PyKm485.whole [[5, x]]) = true) : ∃ c, CallIs [[5, x]] c := by
  have h : (Km485Neutral.natural x 32) = true := h
  have h0 := h
  obtain ⟨e0, g0⟩ := nat_ok h0
  refine ⟨.joiners x.toNat, rfl, rfl, ?_, fun z hz => ?_⟩
  · simp only [enc, intsF, List.map_cons, List.map_nil, e0]
    rfl
  · simp only [enc, List.mem_cons, List.not_mem_nil, or_false] at hz
    omega
theorem is_6 (x : Int) (h : Km485Neutral.asked1 (PyKm485.whole [[6, x]]) = true) : ∃ c, CallIs [[6, x]] c := by
  have h : (Km485Neutral.natural x 32) = true := h
  have h0 := h
  obtain ⟨e0, g0⟩ := nat_ok h0
  refine ⟨.waits x.toNat, rfl, rfl, ?_, fun z hz => ?_⟩
  · simp only [enc, intsF, List.map_cons, List.map_nil, e0]
    rfl
  · simp only [enc, List.mem_cons, List.not_mem_nil, or_false] at hz
    omega
theorem is_7 (x : Int) (h : Km485Neutral.asked1 (PyKm485.whole [[7, x]]) = true) : ∃ c, CallIs [[7, x]] c := by
  have h : (Km485Neutral.natural x 32) = true := h
  have h0 := h
  obtain ⟨e0, g0⟩ := nat_ok h0
  refine ⟨.first x.toNat, rfl, rfl, ?_, fun z hz => ?_⟩
  · simp only [enc, intsF, List.map_cons, List.map_nil, e0]
    rfl
  · simp only [enc, List.mem_cons, List.not_mem_nil, or_false] at hz
    omega
theorem is_8 (x : Int) (h : Km485Neutral.asked1 (PyKm485.whole [[8, x]]) = true) : ∃ c, CallIs [[8, x]] c := by
  have h : (Km485Neutral.natural x 32) = true := h
  have h0 := h
  obtain ⟨e0, g0⟩ := nat_ok h0
  refine ⟨.conclude x.toNat, rfl, rfl, ?_, fun z hz => ?_⟩
  · simp only [enc, intsF, List.map_cons, List.map_nil, e0]
    rfl
  · simp only [enc, List.mem_cons, List.not_mem_nil, or_false] at hz
    omega
theorem is_9 (x y : Int) (h : Km485Neutral.asked1 (PyKm485.whole [[9, x, y]]) = true) : ∃ c, CallIs [[9, x, y]] c := by
  have h : (Km485Neutral.natural x 32 && Km485Neutral.natural y 32) = true := h
  obtain ⟨h0, h1⟩ := and2 h
  obtain ⟨e0, g0⟩ := nat_ok h0
  obtain ⟨e1, g1⟩ := nat_ok h1
  refine ⟨.accede x.toNat y.toNat, rfl, rfl, ?_, fun z hz => ?_⟩
  · simp only [enc, intsF, List.map_cons, List.map_nil, e0, e1]
    rfl
  · simp only [enc, List.mem_cons, List.not_mem_nil, or_false] at hz
    omega
theorem is_10 (x y : Int) (h : Km485Neutral.asked1 (PyKm485.whole [[10, x, y]]) = true) : ∃ c, CallIs [[10, x, y]] c := by
  have h : (Km485Neutral.natural x 32 && Km485Neutral.natural y 32) = true := h
  obtain ⟨h0, h1⟩ := and2 h
  obtain ⟨e0, g0⟩ := nat_ok h0
  obtain ⟨e1, g1⟩ := nat_ok h1
  refine ⟨.leave x.toNat y.toNat, rfl, rfl, ?_, fun z hz => ?_⟩
  · simp only [enc, intsF, List.map_cons, List.map_nil, e0, e1]
    rfl
  · simp only [enc, List.mem_cons, List.not_mem_nil, or_false] at hz
    omega
theorem is_11 (x y z : Int) (h : Km485Neutral.asked1 (PyKm485.whole [[11, x, y, z]]) = true) : ∃ c, CallIs [[11, x, y, z]] c := by
  have h : (Km485Neutral.natural x 32 && Km485Neutral.natural y 32 && Km485Neutral.natural z 32) = true := h
  obtain ⟨h, h2⟩ := and2 h
  obtain ⟨h0, h1⟩ := and2 h
  obtain ⟨e0, g0⟩ := nat_ok h0
  obtain ⟨e1, g1⟩ := nat_ok h1
  obtain ⟨e2, g2⟩ := nat_ok h2
  refine ⟨.reserve x.toNat y.toNat z.toNat, rfl, rfl, ?_, fun z hz => ?_⟩
  · simp only [enc, intsF, List.map_cons, List.map_nil, e0, e1, e2]
    rfl
  · simp only [enc, List.mem_cons, List.not_mem_nil, or_false] at hz
    omega
theorem is_12 (x y z : Int) (h : Km485Neutral.asked1 (PyKm485.whole [[12, x, y, z]]) = true) : ∃ c, CallIs [[12, x, y, z]] c := by
  have h : (Km485Neutral.natural x 32 && Km485Neutral.natural y 32 && Km485Neutral.natural z 32) = true := h
  obtain ⟨h, h2⟩ := and2 h
  obtain ⟨h0, h1⟩ := and2 h
  obtain ⟨e0, g0⟩ := nat_ok h0
  obtain ⟨e1, g1⟩ := nat_ok h1
  obtain ⟨e2, g2⟩ := nat_ok h2
  refine ⟨.unreserve x.toNat y.toNat z.toNat, rfl, rfl, ?_, fun z hz => ?_⟩
  · simp only [enc, intsF, List.map_cons, List.map_nil, e0, e1, e2]
    rfl
  · simp only [enc, List.mem_cons, List.not_mem_nil, or_false] at hz
    omega
theorem is_13 (x y z : Int) (h : Km485Neutral.asked1 (PyKm485.whole [[13, x, y, z]]) = true) : ∃ c, CallIs [[13, x, y, z]] c := by
  have h : (Km485Neutral.natural x 32 && Km485Neutral.natural y 32 && Km485Neutral.natural z 32) = true := h
  obtain ⟨h, h2⟩ := and2 h
  obtain ⟨h0, h1⟩ := and2 h
  obtain ⟨e0, g0⟩ := nat_ok h0
  obtain ⟨e1, g1⟩ := nat_ok h1
  obtain ⟨e2, g2⟩ := nat_ok h2
  refine ⟨.object x.toNat y.toNat z.toNat, rfl, rfl, ?_, fun z hz => ?_⟩
  · simp only [enc, intsF, List.map_cons, List.map_nil, e0, e1, e2]
    rfl
  · simp only [enc, List.mem_cons, List.not_mem_nil, or_false] at hz
    omega
theorem is_14 (x y z : Int) (h : Km485Neutral.asked1 (PyKm485.whole [[14, x, y, z]]) = true) : ∃ c, CallIs [[14, x, y, z]] c := by
  have h : (Km485Neutral.natural x 32 && Km485Neutral.natural y 32 && Km485Neutral.natural z 32) = true := h
  obtain ⟨h, h2⟩ := and2 h
  obtain ⟨h0, h1⟩ := and2 h
  obtain ⟨e0, g0⟩ := nat_ok h0
  obtain ⟨e1, g1⟩ := nat_ok h1
  obtain ⟨e2, g2⟩ := nat_ok h2
  refine ⟨.accept x.toNat y.toNat z.toNat, rfl, rfl, ?_, fun z hz => ?_⟩
  · simp only [enc, intsF, List.map_cons, List.map_nil, e0, e1, e2]
    rfl
  · simp only [enc, List.mem_cons, List.not_mem_nil, or_false] at hz
    omega
theorem is_15 (x y : Int) (h : Km485Neutral.asked1 (PyKm485.whole [[15, x, y]]) = true) : ∃ c, CallIs [[15, x, y]] c := by
  have h : (Km485Neutral.natural x 32 && Km485Neutral.natural y 32) = true := h
  obtain ⟨h0, h1⟩ := and2 h
  obtain ⟨e0, g0⟩ := nat_ok h0
  obtain ⟨e1, g1⟩ := nat_ok h1
  refine ⟨.favour x.toNat y.toNat, rfl, rfl, ?_, fun z hz => ?_⟩
  · simp only [enc, intsF, List.map_cons, List.map_nil, e0, e1]
    rfl
  · simp only [enc, List.mem_cons, List.not_mem_nil, or_false] at hz
    omega
theorem is_16 (x y : Int) (h : Km485Neutral.asked1 (PyKm485.whole [[16, x, y]]) = true) : ∃ c, CallIs [[16, x, y]] c := by
  have h : (Km485Neutral.natural x 32 && Km485Neutral.natural y 32) = true := h
  obtain ⟨h0, h1⟩ := and2 h
  obtain ⟨e0, g0⟩ := nat_ok h0
  obtain ⟨e1, g1⟩ := nat_ok h1
  refine ⟨.unfavour x.toNat y.toNat, rfl, rfl, ?_, fun z hz => ?_⟩
  · simp only [enc, intsF, List.map_cons, List.map_nil, e0, e1]
    rfl
  · simp only [enc, List.mem_cons, List.not_mem_nil, or_false] at hz
    omega
theorem is_17 (x y : Int) (h : Km485Neutral.asked1 (PyKm485.whole [[17, x, y]]) = true) : ∃ c, CallIs [[17, x, y]] c := by
  have h : (Km485Neutral.natural x 32 && Km485Neutral.natural y 32) = true := h
  obtain ⟨h0, h1⟩ := and2 h
  obtain ⟨e0, g0⟩ := nat_ok h0
  obtain ⟨e1, g1⟩ := nat_ok h1
  refine ⟨.part x.toNat y.toNat, rfl, rfl, ?_, fun z hz => ?_⟩
  · simp only [enc, intsF, List.map_cons, List.map_nil, e0, e1]
    rfl
  · simp only [enc, List.mem_cons, List.not_mem_nil, or_false] at hz
    omega
theorem is_18 (x : Int) (h : Km485Neutral.asked1 (PyKm485.whole [[18, x]]) = true) : ∃ c, CallIs [[18, x]] c := by
  have h : (Km485Neutral.natural x 32) = true := h
  have h0 := h
  obtain ⟨e0, g0⟩ := nat_ok h0
  refine ⟨.members x.toNat, rfl, rfl, ?_, fun z hz => ?_⟩
  · simp only [enc, intsF, List.map_cons, List.map_nil, e0]
    rfl
  · simp only [enc, List.mem_cons, List.not_mem_nil, or_false] at hz
    omega
theorem is_19 (x y z : Int) (h : Km485Neutral.asked1 (PyKm485.whole [[19, x, y, z]]) = true) : ∃ c, CallIs [[19, x, y, z]] c := by
  have h : (Km485Neutral.natural x 32 && Km485Neutral.natural y 32 && Km485Neutral.natural z 32) = true := h
  obtain ⟨h, h2⟩ := and2 h
  obtain ⟨h0, h1⟩ := and2 h
  obtain ⟨e0, g0⟩ := nat_ok h0
  obtain ⟨e1, g1⟩ := nat_ok h1
  obtain ⟨e2, g2⟩ := nat_ok h2
  refine ⟨.between x.toNat y.toNat z.toNat, rfl, rfl, ?_, fun z hz => ?_⟩
  · simp only [enc, intsF, List.map_cons, List.map_nil, e0, e1, e2]
    rfl
  · simp only [enc, List.mem_cons, List.not_mem_nil, or_false] at hz
    omega
theorem is_20 (x y z u : Int) (h : Km485Neutral.asked1 (PyKm485.whole [[20, x, y, z, u]]) = true) : ∃ c, CallIs [[20, x, y, z, u]] c := by
  have h : (Km485Neutral.natural x 32 && Km485Neutral.natural y 32 && Km485Neutral.natural z 32 && Km485Neutral.natural u 32) = true := h
  obtain ⟨h, h3⟩ := and2 h
  obtain ⟨h, h2⟩ := and2 h
  obtain ⟨h0, h1⟩ := and2 h
  obtain ⟨e0, g0⟩ := nat_ok h0
  obtain ⟨e1, g1⟩ := nat_ok h1
  obtain ⟨e2, g2⟩ := nat_ok h2
  obtain ⟨e3, g3⟩ := nat_ok h3
  refine ⟨.applies x.toNat y.toNat z.toNat u.toNat, rfl, rfl, ?_, fun z hz => ?_⟩
  · simp only [enc, intsF, List.map_cons, List.map_nil, e0, e1, e2, e3]
    rfl
  · simp only [enc, List.mem_cons, List.not_mem_nil, or_false] at hz
    omega
theorem is_21 (x y z : Int) (h : Km485Neutral.asked1 (PyKm485.whole [[21, x, y, z]]) = true) : ∃ c, CallIs [[21, x, y, z]] c := by
  have h : (Km485Neutral.natural x 32 && Km485Neutral.natural y 32 && Km485Neutral.natural z 32) = true := h
  obtain ⟨h, h2⟩ := and2 h
  obtain ⟨h0, h1⟩ := and2 h
  obtain ⟨e0, g0⟩ := nat_ok h0
  obtain ⟨e1, g1⟩ := nat_ok h1
  obtain ⟨e2, g2⟩ := nat_ok h2
  refine ⟨.rule x.toNat y.toNat z.toNat, rfl, rfl, ?_, fun z hz => ?_⟩
  · simp only [enc, intsF, List.map_cons, List.map_nil, e0, e1, e2]
    rfl
  · simp only [enc, List.mem_cons, List.not_mem_nil, or_false] at hz
    omega
theorem is_22 (x y z : Int) (h : Km485Neutral.asked1 (PyKm485.whole [[22, x, y, z]]) = true) : ∃ c, CallIs [[22, x, y, z]] c := by
  have h : (Km485Neutral.natural x 32 && Km485Neutral.natural y 32 && Km485Neutral.natural z 32) = true := h
  obtain ⟨h, h2⟩ := and2 h
  obtain ⟨h0, h1⟩ := and2 h
  obtain ⟨e0, g0⟩ := nat_ok h0
  obtain ⟨e1, g1⟩ := nat_ok h1
  obtain ⟨e2, g2⟩ := nat_ok h2
  refine ⟨.takes x.toNat y.toNat z.toNat, rfl, rfl, ?_, fun z hz => ?_⟩
  · simp only [enc, intsF, List.map_cons, List.map_nil, e0, e1, e2]
    rfl
  · simp only [enc, List.mem_cons, List.not_mem_nil, or_false] at hz
    omega
theorem is_23 (x : Int) (h : Km485Neutral.asked1 (PyKm485.whole [[23, x]]) = true) : ∃ c, CallIs [[23, x]] c := by
  have h : (Km485Neutral.natural x 32) = true := h
  have h0 := h
  obtain ⟨e0, g0⟩ := nat_ok h0
  refine ⟨.table x.toNat, rfl, rfl, ?_, fun z hz => ?_⟩
  · simp only [enc, intsF, List.map_cons, List.map_nil, e0]
    rfl
  · simp only [enc, List.mem_cons, List.not_mem_nil, or_false] at hz
    omega
theorem is_24 (x : Int) (h : Km485Neutral.asked1 (PyKm485.whole [[24, x]]) = true) : ∃ c, CallIs [[24, x]] c := by
  have h : (Km485Neutral.natural x 32) = true := h
  have h0 := h
  obtain ⟨e0, g0⟩ := nat_ok h0
  refine ⟨.told x.toNat, rfl, rfl, ?_, fun z hz => ?_⟩
  · simp only [enc, intsF, List.map_cons, List.map_nil, e0]
    rfl
  · simp only [enc, List.mem_cons, List.not_mem_nil, or_false] at hz
    omega
theorem is_25 (h : Km485Neutral.asked1 (PyKm485.whole [[25]]) = true) : ∃ c, CallIs [[25]] c := by
  exact ⟨.back, rfl, rfl, rfl, fun z hz => by
    simp only [enc, List.mem_cons, List.not_mem_nil, or_false] at hz
    omega⟩
theorem is_26 (h : Km485Neutral.asked1 (PyKm485.whole [[26]]) = true) : ∃ c, CallIs [[26]] c := by
  exact ⟨.again, rfl, rfl, rfl, fun z hz => by
    simp only [enc, List.mem_cons, List.not_mem_nil, or_false] at hz
    omega⟩
theorem is_27 (h : Km485Neutral.asked1 (PyKm485.whole [[27]]) = true) : ∃ c, CallIs [[27]] c := by
  exact ⟨.state, rfl, rfl, rfl, fun z hz => by
    simp only [enc, List.mem_cons, List.not_mem_nil, or_false] at hz
    omega⟩
theorem call_ok {c : List (List Int)} (ho : PyFlat.okCall PyKm485.shape c) (h : Km485Neutral.asked1 (PyKm485.whole c) = true) : ∃ x, CallIs c x := by
  obtain ⟨p, a, xs, rfl, hs⟩ := ho
  unfold PyKm485.shape at hs
  by_cases e0 : p = 0
  · subst e0
    rw [if_pos rfl] at hs
    injection hs with hs
    injection hs with h1 h2
    have := List.length_eq_zero_iff.mp h2.symm
    subst this
    obtain ⟨x, rfl⟩ := len1 h1
    exact is_0 x h
  rw [if_neg e0] at hs
  by_cases e1 : p = 1
  · subst e1
    rw [if_pos rfl] at hs
    injection hs with hs
    injection hs with h1 h2
    have := List.length_eq_zero_iff.mp h2.symm
    subst this
    obtain ⟨x, rfl⟩ := len1 h1
    exact is_1 x h
  rw [if_neg e1] at hs
  by_cases e2 : p = 2
  · subst e2
    rw [if_pos rfl] at hs
    injection hs with hs
    injection hs with h1 h2
    have := List.length_eq_zero_iff.mp h2.symm
    subst this
    obtain ⟨x, y, z, rfl⟩ := len3 h1
    exact is_2 x y z h
  rw [if_neg e2] at hs
  by_cases e3 : p = 3
  · subst e3
    rw [if_pos rfl] at hs
    injection hs with hs
    injection hs with h1 h2
    have := List.length_eq_zero_iff.mp h2.symm
    subst this
    obtain ⟨x, y, z, u, rfl⟩ := len4 h1
    exact is_3 x y z u h
  rw [if_neg e3] at hs
  by_cases e4 : p = 4
  · subst e4
    rw [if_pos rfl] at hs
    injection hs with hs
    injection hs with h1 h2
    have := List.length_eq_zero_iff.mp h2.symm
    subst this
    obtain ⟨x, y, rfl⟩ := len2 h1
    exact is_4 x y h
  rw [if_neg e4] at hs
  by_cases e5 : p = 5
  · subst e5
    rw [if_pos rfl] at hs
    injection hs with hs
    injection hs with h1 h2
    have := List.length_eq_zero_iff.mp h2.symm
    subst this
    obtain ⟨x, rfl⟩ := len1 h1
    exact is_5 x h
  rw [if_neg e5] at hs
  by_cases e6 : p = 6
  · subst e6
    rw [if_pos rfl] at hs
    injection hs with hs
    injection hs with h1 h2
    have := List.length_eq_zero_iff.mp h2.symm
    subst this
    obtain ⟨x, rfl⟩ := len1 h1
    exact is_6 x h
  rw [if_neg e6] at hs
  by_cases e7 : p = 7
  · subst e7
    rw [if_pos rfl] at hs
    injection hs with hs
    injection hs with h1 h2
    have := List.length_eq_zero_iff.mp h2.symm
    subst this
    obtain ⟨x, rfl⟩ := len1 h1
    exact is_7 x h
  rw [if_neg e7] at hs
  by_cases e8 : p = 8
  · subst e8
    rw [if_pos rfl] at hs
    injection hs with hs
    injection hs with h1 h2
    have := List.length_eq_zero_iff.mp h2.symm
    subst this
    obtain ⟨x, rfl⟩ := len1 h1
    exact is_8 x h
  rw [if_neg e8] at hs
  by_cases e9 : p = 9
  · subst e9
    rw [if_pos rfl] at hs
    injection hs with hs
    injection hs with h1 h2
    have := List.length_eq_zero_iff.mp h2.symm
    subst this
    obtain ⟨x, y, rfl⟩ := len2 h1
    exact is_9 x y h
  rw [if_neg e9] at hs
  by_cases e10 : p = 10
  · subst e10
    rw [if_pos rfl] at hs
    injection hs with hs
    injection hs with h1 h2
    have := List.length_eq_zero_iff.mp h2.symm
    subst this
    obtain ⟨x, y, rfl⟩ := len2 h1
    exact is_10 x y h
  rw [if_neg e10] at hs
  by_cases e11 : p = 11
  · subst e11
    rw [if_pos rfl] at hs
    injection hs with hs
    injection hs with h1 h2
    have := List.length_eq_zero_iff.mp h2.symm
    subst this
    obtain ⟨x, y, z, rfl⟩ := len3 h1
    exact is_11 x y z h
  rw [if_neg e11] at hs
  by_cases e12 : p = 12
  · subst e12
    rw [if_pos rfl] at hs
    injection hs with hs
    injection hs with h1 h2
    have := List.length_eq_zero_iff.mp h2.symm
    subst this
    obtain ⟨x, y, z, rfl⟩ := len3 h1
    exact is_12 x y z h
  rw [if_neg e12] at hs
  by_cases e13 : p = 13
  · subst e13
    rw [if_pos rfl] at hs
    injection hs with hs
    injection hs with h1 h2
    have := List.length_eq_zero_iff.mp h2.symm
    subst this
    obtain ⟨x, y, z, rfl⟩ := len3 h1
    exact is_13 x y z h
  rw [if_neg e13] at hs
  by_cases e14 : p = 14
  · subst e14
    rw [if_pos rfl] at hs
    injection hs with hs
    injection hs with h1 h2
    have := List.length_eq_zero_iff.mp h2.symm
    subst this
    obtain ⟨x, y, z, rfl⟩ := len3 h1
    exact is_14 x y z h
  rw [if_neg e14] at hs
  by_cases e15 : p = 15
  · subst e15
    rw [if_pos rfl] at hs
    injection hs with hs
    injection hs with h1 h2
    have := List.length_eq_zero_iff.mp h2.symm
    subst this
    obtain ⟨x, y, rfl⟩ := len2 h1
    exact is_15 x y h
  rw [if_neg e15] at hs
  by_cases e16 : p = 16
  · subst e16
    rw [if_pos rfl] at hs
    injection hs with hs
    injection hs with h1 h2
    have := List.length_eq_zero_iff.mp h2.symm
    subst this
    obtain ⟨x, y, rfl⟩ := len2 h1
    exact is_16 x y h
  rw [if_neg e16] at hs
  by_cases e17 : p = 17
  · subst e17
    rw [if_pos rfl] at hs
    injection hs with hs
    injection hs with h1 h2
    have := List.length_eq_zero_iff.mp h2.symm
    subst this
    obtain ⟨x, y, rfl⟩ := len2 h1
    exact is_17 x y h
  rw [if_neg e17] at hs
  by_cases e18 : p = 18
  · subst e18
    rw [if_pos rfl] at hs
    injection hs with hs
    injection hs with h1 h2
    have := List.length_eq_zero_iff.mp h2.symm
    subst this
    obtain ⟨x, rfl⟩ := len1 h1
    exact is_18 x h
  rw [if_neg e18] at hs
  by_cases e19 : p = 19
  · subst e19
    rw [if_pos rfl] at hs
    injection hs with hs
    injection hs with h1 h2
    have := List.length_eq_zero_iff.mp h2.symm
    subst this
    obtain ⟨x, y, z, rfl⟩ := len3 h1
    exact is_19 x y z h
  rw [if_neg e19] at hs
  by_cases e20 : p = 20
  · subst e20
    rw [if_pos rfl] at hs
    injection hs with hs
    injection hs with h1 h2
    have := List.length_eq_zero_iff.mp h2.symm
    subst this
    obtain ⟨x, y, z, u, rfl⟩ := len4 h1
    exact is_20 x y z u h
  rw [if_neg e20] at hs
  by_cases e21 : p = 21
  · subst e21
    rw [if_pos rfl] at hs
    injection hs with hs
    injection hs with h1 h2
    have := List.length_eq_zero_iff.mp h2.symm
    subst this
    obtain ⟨x, y, z, rfl⟩ := len3 h1
    exact is_21 x y z h
  rw [if_neg e21] at hs
  by_cases e22 : p = 22
  · subst e22
    rw [if_pos rfl] at hs
    injection hs with hs
    injection hs with h1 h2
    have := List.length_eq_zero_iff.mp h2.symm
    subst this
    obtain ⟨x, y, z, rfl⟩ := len3 h1
    exact is_22 x y z h
  rw [if_neg e22] at hs
  by_cases e23 : p = 23
  · subst e23
    rw [if_pos rfl] at hs
    injection hs with hs
    injection hs with h1 h2
    have := List.length_eq_zero_iff.mp h2.symm
    subst this
    obtain ⟨x, rfl⟩ := len1 h1
    exact is_23 x h
  rw [if_neg e23] at hs
  by_cases e24 : p = 24
  · subst e24
    rw [if_pos rfl] at hs
    injection hs with hs
    injection hs with h1 h2
    have := List.length_eq_zero_iff.mp h2.symm
    subst this
    obtain ⟨x, rfl⟩ := len1 h1
    exact is_24 x h
  rw [if_neg e24] at hs
  by_cases e25 : p = 25
  · subst e25
    rw [if_pos rfl] at hs
    injection hs with hs
    injection hs with h1 h2
    have := List.length_eq_zero_iff.mp h2.symm
    subst this
    have := len0 h1
    subst this
    exact is_25 h
  rw [if_neg e25] at hs
  by_cases e26 : p = 26
  · subst e26
    rw [if_pos rfl] at hs
    injection hs with hs
    injection hs with h1 h2
    have := List.length_eq_zero_iff.mp h2.symm
    subst this
    have := len0 h1
    subst this
    exact is_26 h
  rw [if_neg e26] at hs
  by_cases e27 : p = 27
  · subst e27
    rw [if_pos rfl] at hs
    injection hs with hs
    injection hs with h1 h2
    have := List.length_eq_zero_iff.mp h2.symm
    subst this
    have := len0 h1
    subst this
    exact is_27 h
  rw [if_neg e27] at hs
  cases hs
def r0 : R := ⟨newW 0, [], []⟩
def RS (s : Option Km485.Desk) (r : R) : Prop := match s with
  | none => r = r0
  | some d => RD r d
def Ok (r : R) (x : Call) : Prop := (∃ d, RD r d) ∨ (r = r0 ∧ ∃ n, x = .start n)
def OkRun : R → List Call → Prop
  | _, [] => True
  | r, x :: xs => Ok r x ∧ OkRun (stepM r x).1 xs
def run : R → List Call → List (List Int)
  | _, [] => []
  | r, x :: xs => (stepM r x).2 :: run (stepM r x).1 xs
theorem one_step {s : Option Km485.Desk} {r : R} (h : RS s r) {c : List (List Int)} {x : Call} (hx : Km485Neutral.callOf c = some x) (hm : ((Km485Neutral.step s c).2.isEmpty) = false) :
    Ok r x ∧ (Km485Neutral.step s c).2 = (stepM r x).2 ∧ RS (Km485Neutral.step s c).1 (stepM r x).1 := by
  unfold Km485Neutral.step at hm ⊢
  rw [hx] at hm ⊢
  cases s with
  | some d =>
    obtain ⟨h1, h2⟩ := step_ok h x
    exact ⟨.inl ⟨d, h⟩, h2.symm, h1⟩
  | none =>
    simp only at hm ⊢
    cases x with
    | start n =>
      have h : r = r0 := h
      subst h
      refine ⟨.inr ⟨rfl, n, rfl⟩, ?_⟩
      by_cases c1 : n < 2 ∨ 4 < n
      · have ea : Km485.act (Km485.fresh 2) (.start n) = (Km485.fresh 2, Km485.only (-22)) := if_pos c1
        simp only [Km485Neutral.isStart, if_true, ea, stepM, if_pos c1]
        exact ⟨rfl, rfl⟩
      · have ea : Km485.act (Km485.fresh 2) (.start n) = (⟨⟨n, [], [], 0⟩, [], []⟩, Km485.only 0) := if_neg c1
        simp only [Km485Neutral.isStart, if_true, ea, stepM, if_neg c1]
        exact ⟨rfl, RW.fresh (by omega) (by omega), .nil, .nil, by show 0 + 0 ≤ 20; decide⟩
    | _ => simp [Km485Neutral.isStart] at hm
theorem runs : ∀ (cs : List (List (List Int))) (s : Option Km485.Desk) (r : R), RS s r → (∀ c ∈ cs, PyFlat.okCall PyKm485.shape c ∧ Km485Neutral.asked1 (PyKm485.whole c) = true) → Km485Neutral.may s (cs.map PyKm485.whole) = true →
    ∃ xs : List Call, xs.length = cs.length ∧ OkRun r xs ∧ PyFlat.played Km485Neutral.step s (cs.map PyKm485.whole) = run r xs ∧ PyFlat.put cs = intsF (xs.flatMap enc) ∧ ∀ x ∈ xs, ∀ z ∈ enc x, z < 4294967296
  | [], _, _, _, _, _ => ⟨[], rfl, trivial, rfl, rfl, fun x hx => by cases hx⟩
  | c :: cs, s, r, h, ha, hm => by
    rw [List.map_cons] at hm ⊢
    unfold Km485Neutral.may at hm
    simp only [Bool.and_eq_true, Bool.not_eq_true'] at hm
    obtain ⟨x, hx, hw, hc, hz⟩ := call_ok (ha c List.mem_cons_self).1 (ha c List.mem_cons_self).2
    obtain ⟨o1, o2, o3⟩ := one_step h hx hm.1
    obtain ⟨xs, q1, q2, q3, q4, q5⟩ := runs cs _ _ o3 (fun c hc => ha c (List.mem_cons_of_mem _ hc)) hm.2
    refine ⟨x :: xs, by simp [q1], ⟨o1, q2⟩, ?_, ?_, ?_⟩
    · show (Km485Neutral.step s (PyKm485.whole c)).2 :: PyFlat.played _ (Km485Neutral.step s (PyKm485.whole c)).1 (cs.map PyKm485.whole) = (stepM r x).2 :: run (stepM r x).1 xs
      rw [o2, q3]
    · have e : PyFlat.put (c :: cs) = PyFlat.put1 c ++ PyFlat.put cs := rfl
      rw [e, q4, hc, List.flatMap_cons]
      have : PyFlat.put1 [intsF (enc x)] = intsF (enc x) := by simp [PyFlat.put1, PyFlat.putRows]
      rw [this]
      unfold intsF
      rw [List.map_append]
    · intro y hy
      rcases List.mem_cons.mp hy with rfl | hy
      · exact hz
      · exact q5 y hy
theorem flat {l : List Int} (h : PyKm485.answers_asked l = true) : ∃ xs : List Call, xs ≠ [] ∧ xs.length ≤ 1000 ∧ OkRun r0 xs ∧ l = intsF (xs.flatMap enc) ∧ PyKm485.answers l = PyFlat.told (run r0 xs) ∧ ∀ x ∈ xs, ∀ z ∈ enc x, z < 4294967296 := by
  unfold PyKm485.answers_asked at h
  cases e : PyFlat.calls PyKm485.shape l.length l with
  | none => rw [e] at h; cases h
  | some raw =>
    rw [e] at h
    simp only [Bool.and_eq_true] at h
    obtain ⟨⟨⟨⟨h1, h2⟩, h3⟩, h4⟩, h5⟩ := h
    unfold Km485Neutral.asked at h4
    simp only [Bool.and_eq_true, decide_eq_true_eq] at h4
    obtain ⟨a1, a2, a3, a4⟩ := h4
    obtain ⟨p1, p2⟩ := PyFlat.put_calls _ _ _ e
    obtain ⟨xs, q1, q2, q3, q4, q5⟩ := runs raw none r0 rfl (fun c hc => ⟨p2 c hc, List.all_eq_true.mp a3 _ (List.mem_map_of_mem hc)⟩) a4
    refine ⟨xs, fun z => ?_, by rw [List.length_map] at a2; omega, q2, by rw [p1, q4], ?_, q5⟩
    · rw [z] at q1
      simp at q1 a1
      omega
    · unfold PyKm485.answers PyKm485.calls
      rw [e]
      simp only
      rw [← q3]
      rfl
end Mi
namespace Rg
open PySem PySem.Spec PyProof.Rows L2
open Mi (T W R All2)
open Km485 (count without)
theorem bitAnd_nat (a b : Nat) : Builtin.bitAnd (a : Int) (b : Int) = ((a &&& b : Nat) : Int) := by rfl
theorem bitOr_nat (a b : Nat) : Builtin.bitOr (a : Int) (b : Int) = ((a ||| b : Nat) : Int) := Bits.bitOr_pp (Int.natCast_nonneg a) (Int.natCast_nonneg b)
theorem bit_clear : ∀ s, s < 64 → ∀ i, i < 6 → Builtin.bitAnd ((s : Nat) : Int) (Builtin.bitNot ((2 ^ i : Nat) : Int)) = ((without s i : Nat) : Int) := by decide +kernel
theorem bit_minus : ∀ s, s < 64 → ∀ j, j < 64 → (j &&& s == j) = true → Builtin.bitAnd ((s : Nat) : Int) (Builtin.bitNot ((j : Nat) : Int)) = ((s ^^^ j : Nat) : Int) := by decide +kernel
theorem and_pow (m i : Nat) : ((m &&& 2 ^ i) != 0) = m.testBit i := by
  rw [Bool.eq_iff_iff, bne_iff_ne]
  constructor
  · intro h
    cases q : m.testBit i with
    | true => rfl
    | false =>
      exfalso
      apply h
      apply Nat.eq_of_testBit_eq
      intro k
      rw [Nat.testBit_and, Nat.testBit_two_pow, Nat.zero_testBit]
      by_cases e : i = k
      · subst e; rw [q]; rfl
      · simp [e]
  · intro h z
    have : (m &&& 2 ^ i).testBit i = true := by rw [Nat.testBit_and, h, Nat.testBit_two_pow]; simp
    rw [z, Nat.zero_testBit] at this
    cases this
theorem ne_bit (m i : Nat) : (!decide (V.int (Builtin.bitAnd ((m : Nat) : Int) ((2 ^ i : Nat) : Int)) = V.int 0)) = m.testBit i := by
  rw [← and_pow, bitAnd_nat]
  by_cases h : m &&& 2 ^ i = 0
  · simp [h]
  · have : ¬ (((m &&& 2 ^ i : Nat) : Int) = 0) := by omega
    rw [decide_eq_false (fun q => this (V.int.inj q))]
    simp [h]
theorem tr_bit (m i : Nat) : ((Builtin.bitAnd ((m : Nat) : Int) ((2 ^ i : Nat) : Int)) != 0) = m.testBit i := by
  rw [← and_pow, bitAnd_nat]
  by_cases h : m &&& 2 ^ i = 0
  · simp [h]
  · have h1 : ((((m &&& 2 ^ i : Nat) : Int)) != 0) = true := bne_iff_ne.mpr (by omega)
    have h2 : ((m &&& 2 ^ i) != 0) = true := bne_iff_ne.mpr h
    rw [h1, h2]
def nv (l : List Nat) : List V := l.map fun (n : Nat) => V.int n
theorem nv_len (l : List Nat) : (nv l).length = l.length := List.length_map ..
theorem nv_at {l : List Nat} {i : Nat} (h : i < l.length) : (nv l)[i]? = some (V.int (l.getD i 0)) := by
  unfold nv
  rw [List.getElem?_map, List.getElem?_eq_getElem h, List.getD_eq_getElem?_getD, List.getElem?_eq_getElem h]
  rfl
theorem nv_set (l : List Nat) (i v : Nat) : (nv l).set i (V.int v) = nv (l.set i v) := by
  unfold nv
  rw [List.map_set]
def Kp (M : List Addr) (H H' : Hp) : Prop := ∀ b o, H b = some o → b ∉ M → H' b = some o
theorem Kp.refl (M : List Addr) (H : Hp) : Kp M H H := fun _ _ h _ => h
theorem Same.kp {H H' : Hp} (s : Same H H') (M : List Addr) : Kp M H H' := fun b o h _ => s b o h
theorem Kp.trans {M : List Addr} {H H1 H2 : Hp} (a : Kp M H H1) (b : Kp M H1 H2) : Kp M H H2 := fun c o h n => b c o (a c o h n) n
theorem Kp.mono {M N : List Addr} {H H1 : Hp} (a : Kp M H H1) (h : ∀ b ∈ M, b ∈ N) : Kp N H H1 := fun c o q n => a c o q fun z => n (h c z)
theorem same_upd {H : Hp} {p : Addr} {o : HO} (h : H p = none) : Same H (upd H p o) := fun b u e => by rw [upd_ne (ne_of_none e h)]; exact e
theorem kp_upd {H : Hp} {p : Addr} {o : HO} : Kp [p] H (upd H p o) := fun b u e n => by rw [upd_ne (fun z => n (by rw [z]; simp))]; exact e
structure TA where
  o : Addr
  ar : Addr
  of : Addr
  re : Addr
  ob : Addr
def fpT (A : TA) : List Addr := [A.o, A.ar, A.of, A.re, A.ob]
def tf (A : TA) (t : T) : List (Str × V) := [("need", .int (t.need : Nat)), ("articles", .ref A.ar), ("offers", .ref A.of), ("turn", .int (t.turn : Nat)), ("members", .int (t.mem : Nat)), ("reserved", .ref A.re), ("objected", .ref A.ob)]
def pr (p : Nat × Nat) : List V := [.int (p.1 : Nat), .int (p.2 : Nat)]
def OV (H : Hp) (v : V) : Option (Nat × Nat) → Prop
  | none => v = .non
  | some p => ∃ a, v = .ref a ∧ H a = some (.tup (pr p))
structure TAt (C : Addr) (H : Hp) (A : TA) (t : T) : Prop where
  obj : ∃ dx, H A.o = some (.ins C dx (tf A t))
  ar : ∃ as : List Addr, H A.ar = some (.lst (as.map V.ref)) ∧ All2 (fun a p => H a = some (.tup (pr p))) as t.arts
  of : ∃ vs : List V, H A.of = some (.lst vs) ∧ All2 (OV H) vs t.offs
  re : H A.re = some (.lst (nv t.res))
  ob : H A.ob = some (.lst (nv t.obj))
  nd : (fpT A).Nodup
structure WA where
  o : Addr
  tl : Addr
  fl : Addr
  ts : List TA
def fpW (B : WA) : List Addr := B.o :: B.tl :: B.fl :: B.ts.flatMap fpT
def wf (B : WA) (w : W) : List (Str × V) := [("states", .int (w.n : Nat)), ("treaties", .ref B.tl), ("favoured", .ref B.fl)]
structure WAt (CT CW : Addr) (H : Hp) (B : WA) (w : W) : Prop where
  obj : ∃ dx, H B.o = some (.ins CW dx (wf B w))
  tl : H B.tl = some (.lst (B.ts.map fun A => V.ref A.o))
  fl : H B.fl = some (.lst (nv w.fav))
  ts : All2 (TAt CT H) B.ts w.ts
  nd : (fpW B).Nodup
structure RA where
  o : Addr
  pl : Addr
  ul : Addr
  w : WA
  ps : List WA
  us : List WA
def rf (A : RA) : List (Str × V) := [("world", .ref A.w.o), ("past", .ref A.pl), ("undone", .ref A.ul)]
structure RAt (CT CW CR : Addr) (H : Hp) (A : RA) (r : R) : Prop where
  obj : ∃ dx, H A.o = some (.ins CR dx (rf A))
  pl : H A.pl = some (.lst (A.ps.map fun B => V.ref B.o))
  ul : H A.ul = some (.lst (A.us.map fun B => V.ref B.o))
  w : WAt CT CW H A.w r.w
  ps : All2 (WAt CT CW H) A.ps r.past
  us : All2 (WAt CT CW H) A.us r.und
  ne : A.pl ≠ A.ul
  ap : ∀ B, B = A.w ∨ B ∈ A.ps ∨ B ∈ A.us → A.o ∉ fpW B ∧ A.pl ∉ fpW B ∧ A.ul ∉ fpW B
theorem tf_need (A : TA) (t : T) : (tf A t).lookup ("need" : Str) = some (.int (t.need : Nat)) := by kernel_rfl
theorem tf_articles (A : TA) (t : T) : (tf A t).lookup ("articles" : Str) = some (.ref A.ar) := by kernel_rfl
theorem tf_offers (A : TA) (t : T) : (tf A t).lookup ("offers" : Str) = some (.ref A.of) := by kernel_rfl
theorem tf_turn (A : TA) (t : T) : (tf A t).lookup ("turn" : Str) = some (.int (t.turn : Nat)) := by kernel_rfl
theorem tf_members (A : TA) (t : T) : (tf A t).lookup ("members" : Str) = some (.int (t.mem : Nat)) := by kernel_rfl
theorem tf_reserved (A : TA) (t : T) : (tf A t).lookup ("reserved" : Str) = some (.ref A.re) := by kernel_rfl
theorem tf_objected (A : TA) (t : T) : (tf A t).lookup ("objected" : Str) = some (.ref A.ob) := by kernel_rfl
theorem wf_states (B : WA) (w : W) : (wf B w).lookup ("states" : Str) = some (.int (w.n : Nat)) := by kernel_rfl
theorem wf_treaties (B : WA) (w : W) : (wf B w).lookup ("treaties" : Str) = some (.ref B.tl) := by kernel_rfl
theorem wf_favoured (B : WA) (w : W) : (wf B w).lookup ("favoured" : Str) = some (.ref B.fl) := by kernel_rfl
theorem rf_world (A : RA) : (rf A).lookup ("world" : Str) = some (.ref A.w.o) := by kernel_rfl
theorem rf_past (A : RA) : (rf A).lookup ("past" : Str) = some (.ref A.pl) := by kernel_rfl
theorem rf_undone (A : RA) : (rf A).lookup ("undone" : Str) = some (.ref A.ul) := by kernel_rfl
section
variable {C CT CW CR : Addr} {H H' : Hp} {A : TA} {t : T} {B : WA} {w : W}
theorem OV.mono {v : V} {o : Option (Nat × Nat)} (h : OV H v o) (k : ∀ a l, H a = some (.tup l) → H' a = some (.tup l)) : OV H' v o := by
  cases o with
  | none => exact h
  | some p => obtain ⟨a, e, q⟩ := h; exact ⟨a, e, k a _ q⟩
theorem TAt.keep (h : TAt C H A t) (k : ∀ a ∈ fpT A, ∀ o, H a = some o → H' a = some o) (kt : ∀ a l, H a = some (.tup l) → H' a = some (.tup l)) : TAt C H' A t := by
  obtain ⟨dx, h1⟩ := h.obj
  obtain ⟨as, h2, h3⟩ := h.ar
  obtain ⟨vs, h4, h5⟩ := h.of
  exact ⟨⟨dx, k _ (by simp [fpT]) _ h1⟩, ⟨as, k _ (by simp [fpT]) _ h2, h3.imp fun a p q => kt a _ q⟩, ⟨vs, k _ (by simp [fpT]) _ h4, h5.imp fun a p q => OV.mono q kt⟩, k _ (by simp [fpT]) _ h.re, k _ (by simp [fpT]) _ h.ob, h.nd⟩
theorem TAt.mono (h : TAt C H A t) (s : Same H H') : TAt C H' A t := h.keep (fun a _ o q => s a o q) fun a l q => s a _ q
theorem TAt.there (h : TAt C H A t) : ∀ a ∈ fpT A, ∃ o, H a = some o ∧ ∀ l, o ≠ .tup l := fun a ha => by
  obtain ⟨dx, h1⟩ := h.obj
  obtain ⟨as, h2, h3⟩ := h.ar
  obtain ⟨vs, h4, h5⟩ := h.of
  have : a = A.o ∨ a = A.ar ∨ a = A.of ∨ a = A.re ∨ a = A.ob := by simpa [fpT] using ha
  rcases this with e | e | e | e | e <;> rw [e]
  · exact ⟨_, h1, fun l z => by cases z⟩
  · exact ⟨_, h2, fun l z => by cases z⟩
  · exact ⟨_, h4, fun l z => by cases z⟩
  · exact ⟨_, h.re, fun l z => by cases z⟩
  · exact ⟨_, h.ob, fun l z => by cases z⟩
theorem WAt.there (h : WAt CT CW H B w) : ∀ a ∈ fpW B, ∃ o, H a = some o ∧ ∀ l, o ≠ .tup l := fun a ha => by
  obtain ⟨dx, h1⟩ := h.obj
  have : a = B.o ∨ a = B.tl ∨ a = B.fl ∨ ∃ A ∈ B.ts, a ∈ fpT A := by simpa [fpW] using ha
  rcases this with e | e | e | ⟨A, hA, e⟩
  · rw [e]; exact ⟨_, h1, fun l z => by cases z⟩
  · rw [e]; exact ⟨_, h.tl, fun l z => by cases z⟩
  · rw [e]; exact ⟨_, h.fl, fun l z => by cases z⟩
  · obtain ⟨i, hi⟩ := List.getElem?_of_mem hA
    obtain ⟨t, _, ht⟩ := h.ts.get hi
    exact ht.there a e
theorem mem_fpW {A : TA} (hA : A ∈ B.ts) {a : Addr} (ha : a ∈ fpT A) : a ∈ fpW B := by
  unfold fpW
  exact List.mem_cons_of_mem _ (List.mem_cons_of_mem _ (List.mem_cons_of_mem _ (List.mem_flatMap.mpr ⟨A, hA, ha⟩)))
theorem All2.mem_imp {α β : Type} {P Q : α → β → Prop} : ∀ {l : List α} {m : List β}, All2 P l m → (∀ a b, a ∈ l → P a b → Q a b) → All2 Q l m
  | _, _, .nil, _ => .nil
  | _, _, .cons h t, f => .cons (f _ _ List.mem_cons_self h) (All2.mem_imp t fun a b m q => f a b (List.mem_cons_of_mem _ m) q)
theorem WAt.keep (h : WAt CT CW H B w) (k : ∀ a ∈ fpW B, ∀ o, H a = some o → H' a = some o) (kt : ∀ a l, H a = some (.tup l) → H' a = some (.tup l)) : WAt CT CW H' B w := by
  obtain ⟨dx, h1⟩ := h.obj
  exact ⟨⟨dx, k _ (by simp [fpW]) _ h1⟩, k _ (by simp [fpW]) _ h.tl, k _ (by simp [fpW]) _ h.fl, All2.mem_imp h.ts fun A t hA q => q.keep (fun a ha o e => k a (mem_fpW hA ha) o e) kt, h.nd⟩
theorem WAt.mono (h : WAt CT CW H B w) (s : Same H H') : WAt CT CW H' B w := h.keep (fun a _ o q => s a o q) fun a l q => s a _ q
theorem WAt.tr (h : WAt CT CW H B w) {i : Nat} (hi : i < w.ts.length) : ∃ A, B.ts[i]? = some A ∧ TAt CT H A (w.tr i) := by
  have hl := h.ts.len
  have hi' : i < B.ts.length := by omega
  obtain ⟨t, h1, h2⟩ := h.ts.get (List.getElem?_eq_getElem hi')
  refine ⟨_, List.getElem?_eq_getElem hi', ?_⟩
  have : w.tr i = t := by unfold W.tr; rw [List.getD_eq_getElem?_getD, h1]; rfl
  rw [this]
  exact h2
end
end Rg
namespace Rg
open PySem PySem.Spec PyProof.Rows L2
open Mi (T W R All2)
open Km485 (count without)
structure Good (P : Program) (w : World) (K : PySem.W.Frag) (mg : Str → Option Value) (base : Heap) (k : Nat) (f : Addr) (ps : List Str) (sp : Sp) : Prop where
  ex : ∃ fd, FnOk P w K mg base CX0 k f fd ps sp ∧ Binds K fd ps []
  kp : PySem.W.keepIn K (.ref f) = true
theorem Good.mono {P : Program} {w : World} {K : PySem.W.Frag} {mg : Str → Option Value} {base : Heap} {j k : Nat} {f : Addr} {ps : List Str} {sp : Sp} (G : Good P w K mg base j f ps sp) (h : j ≤ k) : Good P w K mg base k f ps sp := by
  obtain ⟨fd, a, b⟩ := G.ex
  exact ⟨⟨fd, a.mono h, b⟩, G.kp⟩
def Dfn (K : PySem.W.Frag) (x qual : Str) (st : Stmt) (f : Addr) (ps : List Str) : Prop := ∃ fd, Fun K x qual st f fd ∧ Binds K fd ps []
theorem Dfn.good {P : Program} {w : World} {K : PySem.W.Frag} {mg : Str → Option Value} {base : Heap} {x qual : Str} {st : Stmt} {f : Addr} {N ps : List Str} {k : Nat} {sp : Sp} (F : Dfn K x qual st f ps) (S : FnScope N ps (defScope st))
    (len : ∀ vs H Q E, sp vs H Q E → vs.length = ps.length)
    (hbody : ∀ (cdv : Value) (A : Around) (outer : List Env) (s : Shared) (H : Hp) (vs : List V) (Q : VK) (E : XK), Room k (A.deeper (envOfC qual (defScope st) s.heap.objs.size f cdv)) → sp vs H Q E →
      ∃ t, PSs (cxOf CX0 P w K mg base N qual (defScope st) f cdv A outer s H E).nox (defBody st) t ∧ t { nx := fun _ H' => Q .non H', rt := Q } (start N vs) H) : Good P w K mg base (k + 1) f ps sp := by
  obtain ⟨fd, F, b⟩ := F
  exact ⟨⟨fd, F.ok S len hbody, b⟩, F.kp⟩
section
variable {X : Cx} {k : Nat} {f C : Addr} {ps : List Str} {sp : Sp} {x m : Str} {p pos apos : Pos} {e o : Expr} {es : List Expr} {ta : TE} {t : L2.TA}
def tCal (sp : Sp) (t : L2.TA) : TE := fun σ H Q => t σ H fun vs H1 => sp vs H1 Q E0
theorem pg_call (G : Good X.prog X.w X.K X.mg X.base k f ps sp) (hr : Room k X.A) (hg : Gl X x) (hm : X.mg x = some (.ref f)) (ha : PA X (e :: es) t) (hx : Passes CX0 X E0 := pass0) (hdb : (x == ("__debug__" : Str)) = false := by decide) (he : starEach (e :: es) X.env = (false, eval e X.env) :: starEach es X.env := by rfl) (hpl : (backTo pos (starEach es X.env)).any (·.1) = false := by rfl) :
    PE X (.Call (.Name x p) (e :: es) [] pos) (tCal sp t) := by
  obtain ⟨fd, F, b⟩ := G.ex
  intro pins s σ H Q I h
  refine wpAny_Call_Name_kw (ld_glob I hg hm ?_ hdb)
  refine PySem.W.callWith_K (h₀ := X.base) I.ok.mod.kin G.kp (thn (ha pos pins s σ H _ I h) fun us s1 ⟨vs, H1, I1, r, q⟩ => ⟨I1.kIn, ?_⟩) he hpl
  exact run_fn (dvs := []) (ds := []) F hr b .nil hx I1 r (by rw [List.append_nil]; exact q)
structure View (C : Addr) (α β : Type) where
  P : Hp → α → β → Prop
  ad : α → Addr
  fl : α → β → List (Str × V)
  ok : ∀ H a b, P H a b → ∃ dx, H (ad a) = some (.ins C dx (fl a b))
variable {α β : Type} {Y : View C α β} {g : α → β → V} {fn : Str}
def tV (Y : View C α β) (g : α → β → V) (ta : TE) : TE := fun σ H Q => ta σ H fun x H1 => ∃ a b, x = .ref (Y.ad a) ∧ Y.P H1 a b ∧ Q (g a b) H1
theorem pv_fld (c : Cls X.K C) (n : NoAttr X.K C fn) (hl : ∀ a b, (Y.fl a b).lookup fn = some (g a b)) (he : PE X e ta) (hb : attributeBase e fn X.env (eval e X.env) = eval e X.env := by rfl) : PE X (.Attribute e fn pos) (tV Y g ta) := by
  intro pins s σ H Q I h
  refine attr_of hb (thn (he pins s σ H _ I h) fun u s1 ⟨x, H1, I1, rx, a, b, ex, hp, q⟩ => ?_)
  subst ex
  obtain rfl : u = Value.ref (Y.ad a) := rx
  obtain ⟨dx, ea⟩ := Y.ok _ _ _ hp
  exact getattr_ok I1 ea c n (hl a b) fun u' s2 I2 ru => ⟨_, H1, I2, ru, q⟩
def tVM (Y : View C α β) (sp : Sp) (ta : TE) (t : L2.TA) : TE := fun σ H Q => ta σ H fun x H1 => ∃ a b, x = .ref (Y.ad a) ∧ Y.P H1 a b ∧ t σ H1 fun vs H2 => sp (x :: vs) H2 Q E0
theorem pv_meth {pl : Sem Bool} (he : PE X o ta) (c : Cls X.K C) (hm : Meth X.K C m f) (hl : ∀ a b, (Y.fl a b).lookup m = none) (G : Good X.prog X.w X.K X.mg X.base k f ps sp) (hr : Room k X.A) (ha : PA X (e :: es) t) (hx : Passes CX0 X E0 := pass0)
    (hst : starEach (e :: es) X.env = (false, eval e X.env) :: starEach es X.env := by rfl) (hpl : (backTo pos (starEach es X.env)).any (·.1) = false := by rfl)
    (ht : eval (.Call (.Attribute o m apos) (e :: es) [] pos) X.env = (do
      let ov ← eval o X.env
      standAt apos.atName
      let (f, first) ← holding [ov] (getMethod ov m pl)
      callWith pos f first (backTo pos (starEach (e :: es) X.env)) (backToKw pos (keywordEach [] X.env))) := by rfl) :
    PE X (.Call (.Attribute o m apos) (e :: es) [] pos) (tVM Y sp ta t) := by
  obtain ⟨fd, F, b⟩ := G.ex
  intro pins s σ H Q I h
  refine PySem.W.methodCall_KW (pl := pl) (thn (he pins s σ H _ I h) fun u s1 ⟨x, H1, I1, rx, a, b', ex, hp, q⟩ => ?_) ht
  subst ex
  obtain rfl : u = Value.ref (Y.ad a) := rx
  obtain ⟨dx, ea⟩ := Y.ok _ _ _ hp
  refine getmeth_ok I1 ea c hm (hl a b') ?_
  refine PySem.W.callWith_K (first := [.ref (Y.ad a)]) (h₀ := X.base) I.ok.mod.kin hm.kp (thn (ha pos pins s1 σ H1 _ I1 q) fun us s2 ⟨vs, H2, I2, r, q2⟩ => ⟨I2.kIn, ?_⟩) hst hpl
  exact run_fn (dvs := []) (ds := []) (us := .ref (Y.ad a) :: us) (vs := .ref (Y.ad a) :: vs) F hr b .nil hx I2 (.cons rfl r) (by rw [List.append_nil]; exact q2)
theorem pv_meth0 {pl : Sem Bool} (he : PE X o ta) (c : Cls X.K C) (hm : Meth X.K C m f) (hl : ∀ a b, (Y.fl a b).lookup m = none) (G : Good X.prog X.w X.K X.mg X.base k f ps sp) (hr : Room k X.A) (hx : Passes CX0 X E0 := pass0)
    (ht : eval (.Call (.Attribute o m apos) [] [] pos) X.env = (do
      let ov ← eval o X.env
      standAt apos.atName
      let (f, first) ← holding [ov] (getMethod ov m pl)
      callWith pos f first (backTo pos (starEach [] X.env)) (backToKw pos (keywordEach [] X.env))) := by rfl) :
    PE X (.Call (.Attribute o m apos) [] [] pos) (tVM Y sp ta tNil) := by
  obtain ⟨fd, F, b⟩ := G.ex
  intro pins s σ H Q I h
  refine PySem.W.methodCall_KW (pl := pl) (thn (he pins s σ H _ I h) fun u s1 ⟨x, H1, I1, rx, a, b', ex, hp, q⟩ => ?_) ht
  subst ex
  obtain rfl : u = Value.ref (Y.ad a) := rx
  obtain ⟨dx, ea⟩ := Y.ok _ _ _ hp
  refine getmeth_ok I1 ea c hm (hl a b') ?_
  exact PySem.W.callWith_K0 (first := [.ref (Y.ad a)]) I1.kIn hm.kp (run_fn (dvs := []) (ds := []) (us := [.ref (Y.ad a)]) (vs := [.ref (Y.ad a)]) F hr b .nil hx I1 (.cons rfl .nil) (by rw [List.append_nil]; exact q))
def tMk (C : Addr) (sp : Sp) (t : L2.TA) : TE := fun σ H Q => t σ H fun vs H1 => ∀ x dx, H1 x = none → H1 dx = none → dx ≠ x →
  sp (.ref x :: vs) (upd (upd H1 dx (.own x)) x (.ins C dx [])) (fun v H2 => v = .non ∧ Q (.ref x) H2) E0
theorem pg_make (M : Mk X.K C f) (G : Good X.prog X.w X.K X.mg X.base k f ps sp) (hr : Room (k + 1) X.A) (hg : Gl X x) (hm : X.mg x = some (.ref C)) (ha : PA X (e :: es) t) (hx : Passes CX0 X E0 := pass0) (hdb : (x == ("__debug__" : Str)) = false := by decide) (he : starEach (e :: es) X.env = (false, eval e X.env) :: starEach es X.env := by rfl) (hpl : (backTo pos (starEach es X.env)).any (·.1) = false := by rfl) :
    PE X (.Call (.Name x p) (e :: es) [] pos) (tMk C sp t) := by
  obtain ⟨fd, F, b⟩ := G.ex
  intro pins s σ H Q I h
  refine wpAny_Call_Name_kw (ld_glob I hg hm ?_ hdb)
  refine PySem.W.callWith_K (h₀ := X.base) I.ok.mod.kin M.kp (thn (ha pos pins s σ H _ I h) fun us s1 ⟨vs, H1, I1, r, q⟩ => ⟨I1.kIn, ?_⟩) he hpl
  exact run_make (dvs := []) (ds := []) M F hr b .nil hx I1 r fun x dx h1 h2 h3 => by rw [List.append_nil]; exact q x dx h1 h2 h3
theorem pg_make0 (M : Mk X.K C f) (G : Good X.prog X.w X.K X.mg X.base k f ps sp) (hr : Room (k + 1) X.A) (hg : Gl X x) (hm : X.mg x = some (.ref C)) (hx : Passes CX0 X E0 := pass0) (hdb : (x == ("__debug__" : Str)) = false := by decide) :
    PE X (.Call (.Name x p) [] [] pos) (tMk C sp tNil) := by
  obtain ⟨fd, F, b⟩ := G.ex
  intro pins s σ H Q I h
  refine wpAny_Call_Name_kw (ld_glob I hg hm ?_ hdb)
  exact PySem.W.callWith_K0 I.kIn M.kp (run_make (dvs := []) (ds := []) (us := []) M F hr b .nil hx I .nil fun x dx h1 h2 h3 => by rw [List.append_nil]; exact h x dx h1 h2 h3)
theorem pg_int {i : Int} (hg : Gl X x) (h : ∃ t, X.mg x = some (.int i t)) (hd : (x == ("__debug__" : Str)) = false := by decide) : PE X (.Name x pos) (tC (.int i)) := by
  obtain ⟨t, h⟩ := h
  exact pe_glob hg h ⟨t, rfl⟩ hd
theorem pg_ref {a : Addr} (hg : Gl X x) (h : X.mg x = some (.ref a)) (hd : (x == ("__debug__" : Str)) = false := by decide) : PE X (.Name x pos) (tC (.ref a)) := pe_glob hg h rfl hd
def KT (K : PySem.W.Frag) (a : Addr) (xs : List V) : Prop := ∃ (o : Obj) (its : Array Value) (n : Nat), K.lookup a = some o ∧ o.cls = .type "tuple" ∧ o.data = .seq its n ∧ its.size ≤ sizeLine ∧ Vals xs its.toList
theorem KT.sq {K : PySem.W.Frag} {a : Addr} {xs : List V} (h : KT K a xs) (H : Hp) : SqT K H a xs := .inr h
def bitsV : List V := nv [1, 2, 4, 8, 16, 32]
theorem bits_at : ∀ i, i < 6 → bitsV[i]? = some (V.int ((2 ^ i : Nat) : Int)) := by decide +kernel
def TruF : V → Option Bool
  | .non => some false
  | .bl b => some b
  | .int i => some (i != 0)
  | _ => none
def tTru (ta : TE) : TT := fun σ H Q => ta σ H fun x H' => ∃ k, TruF x = some k ∧ Q k H'
theorem TruF.v {K : PySem.W.Frag} {x : V} {H : Hp} {k : Bool} (h : TruF x = some k) : TruV K x H k := by
  cases x with
  | non => exact (Option.some.inj h).symm
  | bl b => exact (Option.some.inj h).symm
  | int i => exact (Option.some.inj h).symm
  | _ => cases h
theorem pt_tr (ha : PE X e ta) (he : ∀ whole, isTrue e X.env whole = (do let v ← whole; standAt e.pos; holding [v] (truthy v)) := by intro _; rfl) : PT X e (tTru ta) := by
  intro pins s σ H Q I h
  exact isTrue_plain (thn (ha pins s σ H _ I h) fun v s1 ⟨x, H1, I1, r1, k, hk, q1⟩ => tru_ok pins s1 σ H1 x v Q I1 r1 ⟨k, TruF.v hk, q1⟩) (he _)
def tBit (te : TE) : TE := fun σ H Q => te σ H fun x H1 => ∃ i : Nat, x = .int i ∧ i < 6 ∧ Q (.int ((2 ^ i : Nat) : Int)) H1
theorem pg_bit {a : Addr} (hg : Gl X x) (h : X.mg x = some (.ref a)) (hk : KT X.K a bitsV) (he : PE X e ta) (hs : PlainIx e := by intro _ _; rfl) (hd : (x == ("__debug__" : Str)) = false := by decide) : PE X (.Subscript (.Name x p) e pos) (tBit ta) := by
  intro pins s σ H Q I q
  refine Subscript_ (binT (ta := tC (.ref a)) (tb := ta) (R := fun x y H2 => x = .ref a ∧ ∃ i : Nat, y = .int i ∧ i < 6 ∧ Q (.int ((2 ^ i : Nat) : Int)) H2) (pg_ref hg h hd) he I ?_ fun v u s2 x' y H2 I2 rx ry q => ?_)
  · show ta σ H fun y H2 => (V.ref a = .ref a) ∧ _
    have : (fun (y : V) (H2 : Hp) => (V.ref a = .ref a) ∧ ∃ i : Nat, y = .int i ∧ i < 6 ∧ Q (.int ((2 ^ i : Nat) : Int)) H2) = fun y H2 => ∃ i : Nat, y = .int i ∧ i < 6 ∧ Q (.int ((2 ^ i : Nat) : Int)) H2 := by
      funext y H2
      rw [eq_self, true_and]
    rw [this]
    exact q
  · obtain ⟨rfl, i, rfl, hi, q⟩ := q
    exact ix_tup (.Name x p) e pins s2 σ H2 (.ref a) (.int i) v u Q I2 rx ry ⟨a, bitsV, i, _, rfl, rfl, hk.sq H2, atI_nat (bits_at i hi), q⟩ (hs _ _)
end
end Rg
namespace Rg
open PySem PySem.Spec PyProof.Rows L2
open Mi (T W R All2)
def topS (i : Nat) : Stmt := PySem.Challenge.pw_treatyregistry_s01_answers.main.body.getD i (.Pass ⟨0, 0, 0, 0⟩)
abbrev s_size : Stmt := topS 2
theorem sc_size : FnScope ["together", "bit"] ["together"] (defScope s_size) := ⟨rfl, rfl, rfl, by decide +kernel, rfl, by decide +kernel, by decide +kernel⟩
abbrev s_T_init : Stmt := inClass (topS 3) 0
theorem sc_T_init : FnScope ["self", "need"] ["self", "need"] (defScope s_T_init) := ⟨rfl, rfl, rfl, by decide +kernel, rfl, by decide +kernel, by decide +kernel⟩
abbrev s_T_copied : Stmt := inClass (topS 3) 1
theorem sc_T_copied : FnScope ["self", "other"] ["self"] (defScope s_T_copied) := ⟨rfl, rfl, rfl, by decide +kernel, rfl, by decide +kernel, by decide +kernel⟩
abbrev s_T_concluded : Stmt := inClass (topS 3) 2
theorem sc_T_concluded : FnScope ["self"] ["self"] (defScope s_T_concluded) := ⟨rfl, rfl, rfl, by decide +kernel, rfl, by decide +kernel, by decide +kernel⟩
abbrev s_T_offered : Stmt := inClass (topS 3) 3
theorem sc_T_offered : FnScope ["self", "together", "i", "offer"] ["self"] (defScope s_T_offered) := ⟨rfl, rfl, rfl, by decide +kernel, rfl, by decide +kernel, by decide +kernel⟩
abbrev s_T_holds : Stmt := inClass (topS 3) 4
theorem sc_T_holds : FnScope ["self", "i", "together", "free", "need", "named"] ["self", "i", "together", "free"] (defScope s_T_holds) := ⟨rfl, rfl, rfl, by decide +kernel, rfl, by decide +kernel, by decide +kernel⟩
abbrev s_T_holding : Stmt := inClass (topS 3) 5
theorem sc_T_holding : FnScope ["self", "together", "free", "held", "i", "bit"] ["self", "together", "free"] (defScope s_T_holding) := ⟨rfl, rfl, rfl, by decide +kernel, rfl, by decide +kernel, by decide +kernel⟩
abbrev s_T_joiners : Stmt := inClass (topS 3) 6
theorem sc_T_joiners : FnScope ["self", "free", "together", "held"] ["self", "free"] (defScope s_T_joiners) := ⟨rfl, rfl, rfl, by decide +kernel, rfl, by decide +kernel, by decide +kernel⟩
abbrev s_T_enough_join : Stmt := inClass (topS 3) 7
theorem sc_T_enough_join : FnScope ["self", "free"] ["self", "free"] (defScope s_T_enough_join) := ⟨rfl, rfl, rfl, by decide +kernel, rfl, by decide +kernel, by decide +kernel⟩
abbrev s_T_first : Stmt := inClass (topS 3) 8
theorem sc_T_first : FnScope ["self", "offered", "fewest", "tried"] ["self"] (defScope s_T_first) := ⟨rfl, rfl, rfl, by decide +kernel, rfl, by decide +kernel, by decide +kernel⟩
abbrev s_T_is_member : Stmt := inClass (topS 3) 9
theorem sc_T_is_member : FnScope ["self", "i"] ["self", "i"] (defScope s_T_is_member) := ⟨rfl, rfl, rfl, by decide +kernel, rfl, by decide +kernel, by decide +kernel⟩
abbrev s_T_has_reserved : Stmt := inClass (topS 3) 10
theorem sc_T_has_reserved : FnScope ["self", "i", "a"] ["self", "i", "a"] (defScope s_T_has_reserved) := ⟨rfl, rfl, rfl, by decide +kernel, rfl, by decide +kernel, by decide +kernel⟩
abbrev s_T_objects : Stmt := inClass (topS 3) 11
theorem sc_T_objects : FnScope ["self", "j", "i"] ["self", "j", "i"] (defScope s_T_objects) := ⟨rfl, rfl, rfl, by decide +kernel, rfl, by decide +kernel, by decide +kernel⟩
abbrev s_T_objections : Stmt := inClass (topS 3) 12
theorem sc_T_objections : FnScope ["self", "those"] ["self"] (defScope s_T_objections) := ⟨rfl, rfl, rfl, by decide +kernel, rfl, by decide +kernel, by decide +kernel⟩
abbrev s_T_drop_objections_to : Stmt := inClass (topS 3) 13
theorem sc_T_drop_objections_to : FnScope ["self", "i", "those"] ["self", "i"] (defScope s_T_drop_objections_to) := ⟨rfl, rfl, rfl, by decide +kernel, rfl, by decide +kernel, by decide +kernel⟩
abbrev s_T_leave : Stmt := inClass (topS 3) 14
theorem sc_T_leave : FnScope ["self", "i"] ["self", "i"] (defScope s_T_leave) := ⟨rfl, rfl, rfl, by decide +kernel, rfl, by decide +kernel, by decide +kernel⟩
abbrev s_T_unreserve : Stmt := inClass (topS 3) 15
theorem sc_T_unreserve : FnScope ["self", "i", "a"] ["self", "i", "a"] (defScope s_T_unreserve) := ⟨rfl, rfl, rfl, by decide +kernel, rfl, by decide +kernel, by decide +kernel⟩
abbrev s_T_take_after : Stmt := inClass (topS 3) 16
theorem sc_T_take_after : FnScope ["self", "new", "i", "j"] ["self", "new", "i"] (defScope s_T_take_after) := ⟨rfl, rfl, rfl, by decide +kernel, rfl, by decide +kernel, by decide +kernel⟩
abbrev s_T_between : Stmt := inClass (topS 3) 17
theorem sc_T_between : FnScope ["self", "i", "j", "both"] ["self", "i", "j"] (defScope s_T_between) := ⟨rfl, rfl, rfl, by decide +kernel, rfl, by decide +kernel, by decide +kernel⟩
abbrev s_T_applies : Stmt := inClass (topS 3) 18
theorem sc_T_applies : FnScope ["self", "i", "j", "a"] ["self", "i", "j", "a"] (defScope s_T_applies) := ⟨rfl, rfl, rfl, by decide +kernel, rfl, by decide +kernel, by decide +kernel⟩
abbrev s_T_last_applying : Stmt := inClass (topS 3) 19
theorem sc_T_last_applying : FnScope ["self", "i", "j", "s", "found", "a", "article"] ["self", "i", "j", "s"] (defScope s_T_last_applying) := ⟨rfl, rfl, rfl, by decide +kernel, rfl, by decide +kernel, by decide +kernel⟩
abbrev s_W_init : Stmt := inClass (topS 7) 0
theorem sc_W_init : FnScope ["self", "states"] ["self", "states"] (defScope s_W_init) := ⟨rfl, rfl, rfl, by decide +kernel, rfl, by decide +kernel, by decide +kernel⟩
abbrev s_W_copied : Stmt := inClass (topS 7) 1
theorem sc_W_copied : FnScope ["self", "other", "treaty"] ["self"] (defScope s_W_copied) := ⟨rfl, rfl, rfl, by decide +kernel, rfl, by decide +kernel, by decide +kernel⟩
abbrev s_W_turns : Stmt := inClass (topS 7) 2
theorem sc_W_turns : FnScope ["self", "treaty"] ["self"] (defScope s_W_turns) := ⟨rfl, rfl, rfl, by decide +kernel, rfl, by decide +kernel, by decide +kernel⟩
abbrev s_W_favours : Stmt := inClass (topS 7) 3
theorem sc_W_favours : FnScope ["self", "i", "j"] ["self", "i", "j"] (defScope s_W_favours) := ⟨rfl, rfl, rfl, by decide +kernel, rfl, by decide +kernel, by decide +kernel⟩
abbrev s_W_all_favours : Stmt := inClass (topS 7) 4
theorem sc_W_all_favours : FnScope ["self", "those"] ["self"] (defScope s_W_all_favours) := ⟨rfl, rfl, rfl, by decide +kernel, rfl, by decide +kernel, by decide +kernel⟩
abbrev s_W_part : Stmt := inClass (topS 7) 5
theorem sc_W_part : FnScope ["self", "i", "with_treaties", "new", "treaty"] ["self", "i", "with_treaties"] (defScope s_W_part) := ⟨rfl, rfl, rfl, by decide +kernel, rfl, by decide +kernel, by decide +kernel⟩
abbrev s_W_ahead : Stmt := inClass (topS 7) 6
theorem sc_W_ahead : FnScope ["self", "i", "j", "s", "found", "latest", "t", "treaty", "a"] ["self", "i", "j", "s"] (defScope s_W_ahead) := ⟨rfl, rfl, rfl, by decide +kernel, rfl, by decide +kernel, by decide +kernel⟩
abbrev s_W_amount : Stmt := inClass (topS 7) 7
theorem sc_W_amount : FnScope ["self", "t", "a"] ["self", "t", "a"] (defScope s_W_amount) := ⟨rfl, rfl, rfl, by decide +kernel, rfl, by decide +kernel, by decide +kernel⟩
abbrev s_W_allowed : Stmt := inClass (topS 7) 8
theorem sc_W_allowed : FnScope ["self", "i", "j", "s", "found"] ["self", "i", "j", "s"] (defScope s_W_allowed) := ⟨rfl, rfl, rfl, by decide +kernel, rfl, by decide +kernel, by decide +kernel⟩
abbrev s_W_takes : Stmt := inClass (topS 7) 9
theorem sc_W_takes : FnScope ["self", "i", "j", "s", "k"] ["self", "i", "j", "s"] (defScope s_W_takes) := ⟨rfl, rfl, rfl, by decide +kernel, rfl, by decide +kernel, by decide +kernel⟩
abbrev s_rt_treaty : Stmt := topS 19
theorem sc_rt_treaty : FnScope ["world", "need"] ["world", "need"] (defScope s_rt_treaty) := ⟨rfl, rfl, rfl, by decide +kernel, rfl, by decide +kernel, by decide +kernel⟩
abbrev s_rt_article : Stmt := topS 20
theorem sc_rt_article : FnScope ["world", "t", "s", "x", "treaty"] ["world", "t", "s", "x"] (defScope s_rt_article) := ⟨rfl, rfl, rfl, by decide +kernel, rfl, by decide +kernel, by decide +kernel⟩
abbrev s_rt_offer : Stmt := topS 21
theorem sc_rt_offer : FnScope ["world", "t", "i", "need", "named", "treaty", "had"] ["world", "t", "i", "need", "named"] (defScope s_rt_offer) := ⟨rfl, rfl, rfl, by decide +kernel, rfl, by decide +kernel, by decide +kernel⟩
abbrev s_rt_unoffer : Stmt := topS 22
theorem sc_rt_unoffer : FnScope ["world", "t", "i", "treaty"] ["world", "t", "i"] (defScope s_rt_unoffer) := ⟨rfl, rfl, rfl, by decide +kernel, rfl, by decide +kernel, by decide +kernel⟩
abbrev s_rt_joiners : Stmt := topS 23
theorem sc_rt_joiners : FnScope ["world", "t", "treaty", "together"] ["world", "t"] (defScope s_rt_joiners) := ⟨rfl, rfl, rfl, by decide +kernel, rfl, by decide +kernel, by decide +kernel⟩
abbrev s_rt_waits : Stmt := topS 24
theorem sc_rt_waits : FnScope ["world", "t", "treaty", "waiting"] ["world", "t"] (defScope s_rt_waits) := ⟨rfl, rfl, rfl, by decide +kernel, rfl, by decide +kernel, by decide +kernel⟩
abbrev s_rt_first : Stmt := topS 25
theorem sc_rt_first : FnScope ["world", "t", "treaty", "fewest"] ["world", "t"] (defScope s_rt_first) := ⟨rfl, rfl, rfl, by decide +kernel, rfl, by decide +kernel, by decide +kernel⟩
abbrev s_rt_conclude : Stmt := topS 26
theorem sc_rt_conclude : FnScope ["world", "t", "treaty"] ["world", "t"] (defScope s_rt_conclude) := ⟨rfl, rfl, rfl, by decide +kernel, rfl, by decide +kernel, by decide +kernel⟩
abbrev s_rt_accede : Stmt := topS 27
theorem sc_rt_accede : FnScope ["world", "t", "i", "treaty"] ["world", "t", "i"] (defScope s_rt_accede) := ⟨rfl, rfl, rfl, by decide +kernel, rfl, by decide +kernel, by decide +kernel⟩
abbrev s_rt_leave : Stmt := topS 28
theorem sc_rt_leave : FnScope ["world", "t", "i", "treaty"] ["world", "t", "i"] (defScope s_rt_leave) := ⟨rfl, rfl, rfl, by decide +kernel, rfl, by decide +kernel, by decide +kernel⟩
abbrev s_rt_reserve : Stmt := topS 29
theorem sc_rt_reserve : FnScope ["world", "t", "i", "a", "treaty"] ["world", "t", "i", "a"] (defScope s_rt_reserve) := ⟨rfl, rfl, rfl, by decide +kernel, rfl, by decide +kernel, by decide +kernel⟩
abbrev s_rt_unreserve : Stmt := topS 30
theorem sc_rt_unreserve : FnScope ["world", "t", "i", "a", "treaty"] ["world", "t", "i", "a"] (defScope s_rt_unreserve) := ⟨rfl, rfl, rfl, by decide +kernel, rfl, by decide +kernel, by decide +kernel⟩
abbrev s_rt_object : Stmt := topS 31
theorem sc_rt_object : FnScope ["world", "t", "j", "i", "treaty"] ["world", "t", "j", "i"] (defScope s_rt_object) := ⟨rfl, rfl, rfl, by decide +kernel, rfl, by decide +kernel, by decide +kernel⟩
abbrev s_rt_accept : Stmt := topS 32
theorem sc_rt_accept : FnScope ["world", "t", "j", "i", "treaty"] ["world", "t", "j", "i"] (defScope s_rt_accept) := ⟨rfl, rfl, rfl, by decide +kernel, rfl, by decide +kernel, by decide +kernel⟩
abbrev s_rt_favour : Stmt := topS 33
theorem sc_rt_favour : FnScope ["world", "i", "j"] ["world", "i", "j"] (defScope s_rt_favour) := ⟨rfl, rfl, rfl, by decide +kernel, rfl, by decide +kernel, by decide +kernel⟩
abbrev s_rt_unfavour : Stmt := topS 34
theorem sc_rt_unfavour : FnScope ["world", "i", "j"] ["world", "i", "j"] (defScope s_rt_unfavour) := ⟨rfl, rfl, rfl, by decide +kernel, rfl, by decide +kernel, by decide +kernel⟩
abbrev s_rt_part : Stmt := topS 35
theorem sc_rt_part : FnScope ["world", "i", "mode"] ["world", "i", "mode"] (defScope s_rt_part) := ⟨rfl, rfl, rfl, by decide +kernel, rfl, by decide +kernel, by decide +kernel⟩
abbrev s_rt_members : Stmt := topS 36
theorem sc_rt_members : FnScope ["world", "t", "treaty"] ["world", "t"] (defScope s_rt_members) := ⟨rfl, rfl, rfl, by decide +kernel, rfl, by decide +kernel, by decide +kernel⟩
abbrev s_rt_between : Stmt := topS 37
theorem sc_rt_between : FnScope ["world", "t", "i", "j"] ["world", "t", "i", "j"] (defScope s_rt_between) := ⟨rfl, rfl, rfl, by decide +kernel, rfl, by decide +kernel, by decide +kernel⟩
abbrev s_rt_applies : Stmt := topS 38
theorem sc_rt_applies : FnScope ["world", "t", "i", "j", "a"] ["world", "t", "i", "j", "a"] (defScope s_rt_applies) := ⟨rfl, rfl, rfl, by decide +kernel, rfl, by decide +kernel, by decide +kernel⟩
abbrev s_rt_rule : Stmt := topS 39
theorem sc_rt_rule : FnScope ["world", "i", "j", "s", "found"] ["world", "i", "j", "s"] (defScope s_rt_rule) := ⟨rfl, rfl, rfl, by decide +kernel, rfl, by decide +kernel, by decide +kernel⟩
abbrev s_rt_takes : Stmt := topS 40
theorem sc_rt_takes : FnScope ["world", "i", "j", "s"] ["world", "i", "j", "s"] (defScope s_rt_takes) := ⟨rfl, rfl, rfl, by decide +kernel, rfl, by decide +kernel, by decide +kernel⟩
abbrev s_rt_table : Stmt := topS 41
theorem sc_rt_table : FnScope ["world", "s", "pairs", "taken", "i", "j"] ["world", "s"] (defScope s_rt_table) := ⟨rfl, rfl, rfl, by decide +kernel, rfl, by decide +kernel, by decide +kernel⟩
abbrev s_rt_told : Stmt := topS 42
theorem sc_rt_told : FnScope ["world", "t", "treaty", "told", "article"] ["world", "t"] (defScope s_rt_told) := ⟨rfl, rfl, rfl, by decide +kernel, rfl, by decide +kernel, by decide +kernel⟩
abbrev s_lacks : Stmt := topS 52
theorem sc_lacks : FnScope ["world", "names", "told", "name", "number"] ["world", "names", "told"] (defScope s_lacks) := ⟨rfl, rfl, rfl, by decide +kernel, rfl, by decide +kernel, by decide +kernel⟩
abbrev s_called : Stmt := topS 53
theorem sc_called : FnScope ["call", "world", "told"] ["call", "world", "told"] (defScope s_called) := ⟨rfl, rfl, rfl, by decide +kernel, rfl, by decide +kernel, by decide +kernel⟩
abbrev s_R_init : Stmt := inClass (topS 54) 0
theorem sc_R_init : FnScope ["self"] ["self"] (defScope s_R_init) := ⟨rfl, rfl, rfl, by decide +kernel, rfl, by decide +kernel, by decide +kernel⟩
abbrev s_R_begin : Stmt := inClass (topS 54) 1
theorem sc_R_begin : FnScope ["self", "n"] ["self", "n"] (defScope s_R_begin) := ⟨rfl, rfl, rfl, by decide +kernel, rfl, by decide +kernel, by decide +kernel⟩
abbrev s_R_change : Stmt := inClass (topS 54) 2
theorem sc_R_change : FnScope ["self", "call", "told", "world", "answer"] ["self", "call", "told"] (defScope s_R_change) := ⟨rfl, rfl, rfl, by decide +kernel, rfl, by decide +kernel, by decide +kernel⟩
abbrev s_R_back : Stmt := inClass (topS 54) 3
theorem sc_R_back : FnScope ["self"] ["self"] (defScope s_R_back) := ⟨rfl, rfl, rfl, by decide +kernel, rfl, by decide +kernel, by decide +kernel⟩
abbrev s_R_again : Stmt := inClass (topS 54) 4
theorem sc_R_again : FnScope ["self"] ["self"] (defScope s_R_again) := ⟨rfl, rfl, rfl, by decide +kernel, rfl, by decide +kernel, by decide +kernel⟩
abbrev s_R_state : Stmt := inClass (topS 54) 5
theorem sc_R_state : FnScope ["self", "world", "counts"] ["self"] (defScope s_R_state) := ⟨rfl, rfl, rfl, by decide +kernel, rfl, by decide +kernel, by decide +kernel⟩
abbrev s_R_answer : Stmt := inClass (topS 54) 6
theorem sc_R_answer : FnScope ["self", "number", "told"] ["self", "number", "told"] (defScope s_R_answer) := ⟨rfl, rfl, rfl, by decide +kernel, rfl, by decide +kernel, by decide +kernel⟩
abbrev s_answers : Stmt := topS 55
theorem sc_answers : FnScope ["calls", "kept", "given", "at", "number", "behind", "answer"] ["calls"] (defScope s_answers) := ⟨rfl, rfl, rfl, by decide +kernel, rfl, by decide +kernel, by decide +kernel⟩
structure Adr where
  cT : Addr
  cW : Addr
  cR : Addr
  bits : Addr
  pars : Addr
  qs : Addr
  cs : Addr
  f : Nat → Addr
structure Tx (K : PySem.W.Frag) (mg : Str → Option Value) (Z : Adr) : Prop where
  clT : Cls K Z.cT
  g_Treaty : mg "Treaty" = some (.ref Z.cT)
  mkT : Mk K Z.cT (Z.f 1)
  nT_need : NoAttr K Z.cT "need"
  nT_articles : NoAttr K Z.cT "articles"
  nT_offers : NoAttr K Z.cT "offers"
  nT_turn : NoAttr K Z.cT "turn"
  nT_members : NoAttr K Z.cT "members"
  nT_reserved : NoAttr K Z.cT "reserved"
  nT_objected : NoAttr K Z.cT "objected"
  clW : Cls K Z.cW
  g_World : mg "World" = some (.ref Z.cW)
  mkW : Mk K Z.cW (Z.f 21)
  nW_states : NoAttr K Z.cW "states"
  nW_treaties : NoAttr K Z.cW "treaties"
  nW_favoured : NoAttr K Z.cW "favoured"
  clR : Cls K Z.cR
  g_Registry : mg "Registry" = some (.ref Z.cR)
  mkR : Mk K Z.cR (Z.f 57)
  nR_world : NoAttr K Z.cR "world"
  nR_past : NoAttr K Z.cR "past"
  nR_undone : NoAttr K Z.cR "undone"
  g_MOST_STATES : ∃ t, mg "MOST_STATES" = some (.int (6) t)
  g_MOST_TAKEN : ∃ t, mg "MOST_TAKEN" = some (.int (100) t)
  g_NOT_THERE : ∃ t, mg "NOT_THERE" = some (.int (-2) t)
  g_NOT_SO : ∃ t, mg "NOT_SO" = some (.int (-6) t)
  g_CONCLUDED : ∃ t, mg "CONCLUDED" = some (.int (-16) t)
  g_ALREADY_SO : ∃ t, mg "ALREADY_SO" = some (.int (-17) t)
  g_WRONG : ∃ t, mg "WRONG" = some (.int (-22) t)
  g_FULL : ∃ t, mg "FULL" = some (.int (-28) t)
  g_TOO_LITTLE : ∃ t, mg "TOO_LITTLE" = some (.int (-33) t)
  g_MOST_TREATIES : ∃ t, mg "MOST_TREATIES" = some (.int (4) t)
  g_MOST_ARTICLES : ∃ t, mg "MOST_ARTICLES" = some (.int (4) t)
  g_SUBJECTS : ∃ t, mg "SUBJECTS" = some (.int (4) t)
  g_MOST_BACK : ∃ t, mg "MOST_BACK" = some (.int (20) t)
  g_START : ∃ t, mg "START" = some (.int (0) t)
  g_BACK : ∃ t, mg "BACK" = some (.int (25) t)
  g_AGAIN : ∃ t, mg "AGAIN" = some (.int (26) t)
  g_STATE : ∃ t, mg "STATE" = some (.int (27) t)
  g_BITS : mg "BITS" = some (.ref Z.bits)
  bits : KT K Z.bits bitsV
  g_PARAMETERS : mg "PARAMETERS" = some (.ref Z.pars)
  b_len : mg "len" = none
  b_sum : mg "sum" = none
  b_min : mg "min" = none
  b_list : mg "list" = none
  b_range : mg "range" = none
  b_enumerate : mg "enumerate" = none
  b_zip : mg "zip" = none
  d_size : Dfn K "size" "size" s_size (Z.f 0) ["together"]
  g_size : mg "size" = some (.ref (Z.f 0))
  d_T_init : Dfn K "__init__" "Treaty.__init__" s_T_init (Z.f 1) ["self", "need"]
  d_T_copied : Dfn K "copied" "Treaty.copied" s_T_copied (Z.f 2) ["self"]
  m_T_copied : Meth K Z.cT "copied" (Z.f 2)
  d_T_concluded : Dfn K "concluded" "Treaty.concluded" s_T_concluded (Z.f 3) ["self"]
  m_T_concluded : Meth K Z.cT "concluded" (Z.f 3)
  d_T_offered : Dfn K "offered" "Treaty.offered" s_T_offered (Z.f 4) ["self"]
  m_T_offered : Meth K Z.cT "offered" (Z.f 4)
  d_T_holds : Dfn K "holds" "Treaty.holds" s_T_holds (Z.f 5) ["self", "i", "together", "free"]
  m_T_holds : Meth K Z.cT "holds" (Z.f 5)
  d_T_holding : Dfn K "holding" "Treaty.holding" s_T_holding (Z.f 6) ["self", "together", "free"]
  m_T_holding : Meth K Z.cT "holding" (Z.f 6)
  d_T_joiners : Dfn K "joiners" "Treaty.joiners" s_T_joiners (Z.f 7) ["self", "free"]
  m_T_joiners : Meth K Z.cT "joiners" (Z.f 7)
  d_T_enough_join : Dfn K "enough_join" "Treaty.enough_join" s_T_enough_join (Z.f 8) ["self", "free"]
  m_T_enough_join : Meth K Z.cT "enough_join" (Z.f 8)
  d_T_first : Dfn K "first" "Treaty.first" s_T_first (Z.f 9) ["self"]
  m_T_first : Meth K Z.cT "first" (Z.f 9)
  d_T_is_member : Dfn K "is_member" "Treaty.is_member" s_T_is_member (Z.f 10) ["self", "i"]
  m_T_is_member : Meth K Z.cT "is_member" (Z.f 10)
  d_T_has_reserved : Dfn K "has_reserved" "Treaty.has_reserved" s_T_has_reserved (Z.f 11) ["self", "i", "a"]
  m_T_has_reserved : Meth K Z.cT "has_reserved" (Z.f 11)
  d_T_objects : Dfn K "objects" "Treaty.objects" s_T_objects (Z.f 12) ["self", "j", "i"]
  m_T_objects : Meth K Z.cT "objects" (Z.f 12)
  d_T_objections : Dfn K "objections" "Treaty.objections" s_T_objections (Z.f 13) ["self"]
  m_T_objections : Meth K Z.cT "objections" (Z.f 13)
  d_T_drop_objections_to : Dfn K "drop_objections_to" "Treaty.drop_objections_to" s_T_drop_objections_to (Z.f 14) ["self", "i"]
  m_T_drop_objections_to : Meth K Z.cT "drop_objections_to" (Z.f 14)
  d_T_leave : Dfn K "leave" "Treaty.leave" s_T_leave (Z.f 15) ["self", "i"]
  m_T_leave : Meth K Z.cT "leave" (Z.f 15)
  d_T_unreserve : Dfn K "unreserve" "Treaty.unreserve" s_T_unreserve (Z.f 16) ["self", "i", "a"]
  m_T_unreserve : Meth K Z.cT "unreserve" (Z.f 16)
  d_T_take_after : Dfn K "take_after" "Treaty.take_after" s_T_take_after (Z.f 17) ["self", "new", "i"]
  m_T_take_after : Meth K Z.cT "take_after" (Z.f 17)
  d_T_between : Dfn K "between" "Treaty.between" s_T_between (Z.f 18) ["self", "i", "j"]
  m_T_between : Meth K Z.cT "between" (Z.f 18)
  d_T_applies : Dfn K "applies" "Treaty.applies" s_T_applies (Z.f 19) ["self", "i", "j", "a"]
  m_T_applies : Meth K Z.cT "applies" (Z.f 19)
  d_T_last_applying : Dfn K "last_applying" "Treaty.last_applying" s_T_last_applying (Z.f 20) ["self", "i", "j", "s"]
  m_T_last_applying : Meth K Z.cT "last_applying" (Z.f 20)
  d_W_init : Dfn K "__init__" "World.__init__" s_W_init (Z.f 21) ["self", "states"]
  d_W_copied : Dfn K "copied" "World.copied" s_W_copied (Z.f 22) ["self"]
  m_W_copied : Meth K Z.cW "copied" (Z.f 22)
  d_W_turns : Dfn K "turns" "World.turns" s_W_turns (Z.f 23) ["self"]
  m_W_turns : Meth K Z.cW "turns" (Z.f 23)
  d_W_favours : Dfn K "favours" "World.favours" s_W_favours (Z.f 24) ["self", "i", "j"]
  m_W_favours : Meth K Z.cW "favours" (Z.f 24)
  d_W_all_favours : Dfn K "all_favours" "World.all_favours" s_W_all_favours (Z.f 25) ["self"]
  m_W_all_favours : Meth K Z.cW "all_favours" (Z.f 25)
  d_W_part : Dfn K "part" "World.part" s_W_part (Z.f 26) ["self", "i", "with_treaties"]
  m_W_part : Meth K Z.cW "part" (Z.f 26)
  d_W_ahead : Dfn K "ahead" "World.ahead" s_W_ahead (Z.f 27) ["self", "i", "j", "s"]
  m_W_ahead : Meth K Z.cW "ahead" (Z.f 27)
  d_W_amount : Dfn K "amount" "World.amount" s_W_amount (Z.f 28) ["self", "t", "a"]
  m_W_amount : Meth K Z.cW "amount" (Z.f 28)
  d_W_allowed : Dfn K "allowed" "World.allowed" s_W_allowed (Z.f 29) ["self", "i", "j", "s"]
  m_W_allowed : Meth K Z.cW "allowed" (Z.f 29)
  d_W_takes : Dfn K "takes" "World.takes" s_W_takes (Z.f 30) ["self", "i", "j", "s"]
  m_W_takes : Meth K Z.cW "takes" (Z.f 30)
  d_rt_treaty : Dfn K "rt_treaty" "rt_treaty" s_rt_treaty (Z.f 31) ["world", "need"]
  g_rt_treaty : mg "rt_treaty" = some (.ref (Z.f 31))
  d_rt_article : Dfn K "rt_article" "rt_article" s_rt_article (Z.f 32) ["world", "t", "s", "x"]
  g_rt_article : mg "rt_article" = some (.ref (Z.f 32))
  d_rt_offer : Dfn K "rt_offer" "rt_offer" s_rt_offer (Z.f 33) ["world", "t", "i", "need", "named"]
  g_rt_offer : mg "rt_offer" = some (.ref (Z.f 33))
  d_rt_unoffer : Dfn K "rt_unoffer" "rt_unoffer" s_rt_unoffer (Z.f 34) ["world", "t", "i"]
  g_rt_unoffer : mg "rt_unoffer" = some (.ref (Z.f 34))
  d_rt_joiners : Dfn K "rt_joiners" "rt_joiners" s_rt_joiners (Z.f 35) ["world", "t"]
  g_rt_joiners : mg "rt_joiners" = some (.ref (Z.f 35))
  d_rt_waits : Dfn K "rt_waits" "rt_waits" s_rt_waits (Z.f 36) ["world", "t"]
  g_rt_waits : mg "rt_waits" = some (.ref (Z.f 36))
  d_rt_first : Dfn K "rt_first" "rt_first" s_rt_first (Z.f 37) ["world", "t"]
  g_rt_first : mg "rt_first" = some (.ref (Z.f 37))
  d_rt_conclude : Dfn K "rt_conclude" "rt_conclude" s_rt_conclude (Z.f 38) ["world", "t"]
  g_rt_conclude : mg "rt_conclude" = some (.ref (Z.f 38))
  d_rt_accede : Dfn K "rt_accede" "rt_accede" s_rt_accede (Z.f 39) ["world", "t", "i"]
  g_rt_accede : mg "rt_accede" = some (.ref (Z.f 39))
  d_rt_leave : Dfn K "rt_leave" "rt_leave" s_rt_leave (Z.f 40) ["world", "t", "i"]
  g_rt_leave : mg "rt_leave" = some (.ref (Z.f 40))
  d_rt_reserve : Dfn K "rt_reserve" "rt_reserve" s_rt_reserve (Z.f 41) ["world", "t", "i", "a"]
  g_rt_reserve : mg "rt_reserve" = some (.ref (Z.f 41))
  d_rt_unreserve : Dfn K "rt_unreserve" "rt_unreserve" s_rt_unreserve (Z.f 42) ["world", "t", "i", "a"]
  g_rt_unreserve : mg "rt_unreserve" = some (.ref (Z.f 42))
  d_rt_object : Dfn K "rt_object" "rt_object" s_rt_object (Z.f 43) ["world", "t", "j", "i"]
  g_rt_object : mg "rt_object" = some (.ref (Z.f 43))
  d_rt_accept : Dfn K "rt_accept" "rt_accept" s_rt_accept (Z.f 44) ["world", "t", "j", "i"]
  g_rt_accept : mg "rt_accept" = some (.ref (Z.f 44))
  d_rt_favour : Dfn K "rt_favour" "rt_favour" s_rt_favour (Z.f 45) ["world", "i", "j"]
  g_rt_favour : mg "rt_favour" = some (.ref (Z.f 45))
  d_rt_unfavour : Dfn K "rt_unfavour" "rt_unfavour" s_rt_unfavour (Z.f 46) ["world", "i", "j"]
  g_rt_unfavour : mg "rt_unfavour" = some (.ref (Z.f 46))
  d_rt_part : Dfn K "rt_part" "rt_part" s_rt_part (Z.f 47) ["world", "i", "mode"]
  g_rt_part : mg "rt_part" = some (.ref (Z.f 47))
  d_rt_members : Dfn K "rt_members" "rt_members" s_rt_members (Z.f 48) ["world", "t"]
  g_rt_members : mg "rt_members" = some (.ref (Z.f 48))
  d_rt_between : Dfn K "rt_between" "rt_between" s_rt_between (Z.f 49) ["world", "t", "i", "j"]
  g_rt_between : mg "rt_between" = some (.ref (Z.f 49))
  d_rt_applies : Dfn K "rt_applies" "rt_applies" s_rt_applies (Z.f 50) ["world", "t", "i", "j", "a"]
  g_rt_applies : mg "rt_applies" = some (.ref (Z.f 50))
  d_rt_rule : Dfn K "rt_rule" "rt_rule" s_rt_rule (Z.f 51) ["world", "i", "j", "s"]
  g_rt_rule : mg "rt_rule" = some (.ref (Z.f 51))
  d_rt_takes : Dfn K "rt_takes" "rt_takes" s_rt_takes (Z.f 52) ["world", "i", "j", "s"]
  g_rt_takes : mg "rt_takes" = some (.ref (Z.f 52))
  d_rt_table : Dfn K "rt_table" "rt_table" s_rt_table (Z.f 53) ["world", "s"]
  g_rt_table : mg "rt_table" = some (.ref (Z.f 53))
  d_rt_told : Dfn K "rt_told" "rt_told" s_rt_told (Z.f 54) ["world", "t"]
  g_rt_told : mg "rt_told" = some (.ref (Z.f 54))
  d_lacks : Dfn K "lacks" "lacks" s_lacks (Z.f 55) ["world", "names", "told"]
  g_lacks : mg "lacks" = some (.ref (Z.f 55))
  d_called : Dfn K "called" "called" s_called (Z.f 56) ["call", "world", "told"]
  g_called : mg "called" = some (.ref (Z.f 56))
  d_R_init : Dfn K "__init__" "Registry.__init__" s_R_init (Z.f 57) ["self"]
  d_R_begin : Dfn K "begin" "Registry.begin" s_R_begin (Z.f 58) ["self", "n"]
  m_R_begin : Meth K Z.cR "begin" (Z.f 58)
  d_R_change : Dfn K "change" "Registry.change" s_R_change (Z.f 59) ["self", "call", "told"]
  m_R_change : Meth K Z.cR "change" (Z.f 59)
  d_R_back : Dfn K "back" "Registry.back" s_R_back (Z.f 60) ["self"]
  m_R_back : Meth K Z.cR "back" (Z.f 60)
  d_R_again : Dfn K "again" "Registry.again" s_R_again (Z.f 61) ["self"]
  m_R_again : Meth K Z.cR "again" (Z.f 61)
  d_R_state : Dfn K "state" "Registry.state" s_R_state (Z.f 62) ["self"]
  m_R_state : Meth K Z.cR "state" (Z.f 62)
  d_R_answer : Dfn K "answer" "Registry.answer" s_R_answer (Z.f 63) ["self", "number", "told"]
  m_R_answer : Meth K Z.cR "answer" (Z.f 63)
  d_answers : Dfn K "answers" "answers" s_answers (Z.f 64) ["calls"]
  g_answers : mg "answers" = some (.ref (Z.f 64))
def vT (Z : Adr) : View Z.cT TA T := ⟨TAt Z.cT, TA.o, tf, fun _ _ _ h => h.obj⟩
def vW (Z : Adr) : View Z.cW WA W := ⟨WAt Z.cT Z.cW, WA.o, wf, fun _ _ _ h => h.obj⟩
def vR (Z : Adr) : View Z.cR RA R := ⟨RAt Z.cT Z.cW Z.cR, RA.o, fun a _ => rf a, fun _ _ _ h => h.obj⟩
theorem look_no {m : Str} : ∀ {fs : List (Str × V)}, m ∉ fs.map (·.1) → fs.lookup m = none
  | [], _ => rfl
  | (k, v) :: r, h => by
    rw [List.lookup_cons]
    have h1 : ¬ m = k := fun e => h (by rw [e]; simp)
    rw [beq_false_of_ne h1]
    exact look_no fun z => h (by simp only [List.map_cons, List.mem_cons]; exact .inr z)
theorem no_T (a : TA) (b : T) {m : Str} (h : m ∉ (["need", "articles", "offers", "turn", "members", "reserved", "objected"] : List Str)) : (tf a b).lookup m = none := look_no h
theorem no_W (a : WA) (b : W) {m : Str} (h : m ∉ (["states", "treaties", "favoured"] : List Str)) : (wf a b).lookup m = none := look_no h
theorem no_R (a : RA) (b : R) {m : Str} (h : m ∉ (["world", "past", "undone"] : List Str)) : (rf a).lookup m = none := look_no h
end Rg
namespace Rg
open PySem PySem.Spec PyProof.Rows L2
open AutoSeq1 (wpAny_loadPart')
section
variable {prog : Program} {w : World} {A : Around} {E : Value → Shared → Prop} {s : Shared}
theorem nextT_item {it tp : Addr} {j : Nat} {its : Array Value} {z : Value} {Q : Value → Shared → Prop} (hit : s.heap.IsTupleIter it tp j) (htp : s.heap.IsTuple tp its) (hz : its[j]? = some z)
    (k : ∀ g, g.IsTupleIter it tp (j + 1) → Heap.SameBut it s.heap g → Q z { s with heap := g }) : wpAny (model prog w) A (Builtin.SmallTypes.nextOf (.ref it)) Q E s := by
  obtain ⟨ob, hob, hcl, hda⟩ := id hit
  obtain ⟨ot, hot, _, nt, hdt⟩ := htp
  unfold Builtin.SmallTypes.nextOf
  refine wpAny_bind (wpAny_callSpecial?_slot (name := Str.ofString "__next__") hit.typeIs F.slot_tuple_iterator_next (wpAny_call_entry F.slot_tuple_iterator_next hit.typeIs F.entry_tuple_iterator_next ?_ (F.args_tuple_iterator_next_1 _)))
  show wpAny _ _ (field (.ref it) 0 >>= _) _ _ s; refine wpAny_bind (wpAny_field hob hda (x := .ref tp) rfl ?_)
  show wpAny _ _ (if (Value.ref tp == Value.none) = true then _ else _) _ _ s; rw [if_neg (show ¬ ((Value.ref tp == Value.none) = true) from Bool.false_ne_true)]
  show wpAny _ _ (field (.ref it) 1 >>= _) _ _ s; refine wpAny_bind (wpAny_field hob hda (x := .int j 0) rfl ?_)
  show wpAny _ _ (seqItems? (.ref tp) >>= _) _ _ s; refine wpAny_bind (wpAny_seqItems hot hdt ?_)
  simp only [Int.toNat_natCast, hz]
  refine wpAny_bind (wpAny_setField hob hda (by simp) (wpAny_pure ⟨z, rfl, wpAny_pure (k _ ?_ (Heap.SameBut.update ..))⟩))
  refine ⟨_, Heap.get?_update_self _ hob (Obj.isFreed_of_fields (Obj.data_mapFields hda _)), (Obj.cls_mapFields ..).trans hcl, ?_⟩
  rw [Obj.data_mapFields hda]
  simp [rawInt]
theorem nextT_end {it tp : Addr} {j : Nat} {its : Array Value} {Q : Value → Shared → Prop} (hA : A.handled = none) (hit : s.heap.IsTupleIter it tp j) (htp : s.heap.IsTuple tp its) (hz : its[j]? = none)
    (k : ∀ g e, Heap.ExtBut it s.heap g → (∃ ob, g.get? e = some ob ∧ ob.cls = .type "StopIteration") → E (.ref e) { s with heap := g }) : wpAny (model prog w) A (Builtin.SmallTypes.nextOf (.ref it)) Q E s := by
  obtain ⟨ob, hob, hcl, hda⟩ := id hit
  obtain ⟨ot, hot, _, nt, hdt⟩ := htp
  unfold Builtin.SmallTypes.nextOf
  refine wpAny_bind (wpAny_callSpecial?_slot (name := Str.ofString "__next__") hit.typeIs F.slot_tuple_iterator_next (wpAny_call_entry F.slot_tuple_iterator_next hit.typeIs F.entry_tuple_iterator_next ?_ (F.args_tuple_iterator_next_1 _)))
  show wpAny _ _ (field (.ref it) 0 >>= _) _ _ s; refine wpAny_bind (wpAny_field hob hda (x := .ref tp) rfl ?_)
  show wpAny _ _ (if (Value.ref tp == Value.none) = true then _ else _) _ _ s; rw [if_neg (show ¬ ((Value.ref tp == Value.none) = true) from Bool.false_ne_true)]
  show wpAny _ _ (field (.ref it) 1 >>= _) _ _ s; refine wpAny_bind (wpAny_field hob hda (x := .int j 0) rfl ?_)
  show wpAny _ _ (seqItems? (.ref tp) >>= _) _ _ s; refine wpAny_bind (wpAny_seqItems hot hdt ?_)
  simp only [Int.toNat_natCast, hz]
  refine wpAny_bind (wpAny_rule (wpAny_bind (wpAny_setField hob hda (by simp) ?_)))
  show wpAny _ _ (newExc (.type "StopIteration") [] >>= _) _ _ _; refine wpAny_bind ?_; simp only [newExc, newTuple]
  refine wpAny_bind (wpAny_newObj_type ?_ (by size_fits)); refine wpAny_bind (m := firstArgMember _ _) (wpAny_of_eq (a := Value.none) (by first | rfl | (simp only [firstArgMember]; rfl)) ?_)
  refine wpAny_newObj_type ?_ (by size_fits); simp only [raiseNew]; refine wpAny_bind (wpAny_handled ?_)
  first | rw [show A.in1.handled = none from hA] | rw [hA]
  refine wpAny_bind (wpAny_pure (wpAny_throw ?_)); exact k _ _ (((Heap.SameBut.update ..).extBut.push _).push _) ⟨_, Heap.get?_push_size _ rfl, rfl⟩
end
theorem drawsT {prog : Program} {w : World} {A : Around} (hA : A.handled = none) (it tp : Addr) (hne : tp ≠ it) (its : Array Value) :
    Draws prog w A it [it, tp] its.size (fun j z => its[j]? = some z) (fun j h => h.IsTupleIter it tp j ∧ h.IsTuple tp its) where
  live := fun _ _ st => let ⟨⟨o, ho, _⟩, _⟩ := st; ⟨o, ho⟩
  frame := fun _ _ _ st hk => ⟨st.1.at fun o e => hk it (by simp) o e, by obtain ⟨o, ho, r⟩ := st.2; exact ⟨o, hk tp (by simp) o ho, r⟩⟩
  item := fun j s Q E hj st hQ => nextT_item st.1 st.2 (z := its[j]) (by simp [hj]) fun g hg hs => hQ _ g s.toks (by simp [hj]) ⟨hg, by obtain ⟨o, ho, r⟩ := st.2; exact ⟨o, hs.extBut _ _ hne ho, r⟩⟩ hs
  done := fun s Q E st hE => nextT_end hA st.1 st.2 (by simp) hE
theorem enum_newT (tp : Addr) (its : Array Value) (n : Nat) (dct : Option Addr) (sl : Array (Option Value)) :
    Meets (Builtin.«enumerate.__new__» ⟨[.type "enumerate", .ref tp], []⟩) (fun _ R s => s.heap.get? tp = some { cls := .type "tuple", dict := dct, data := .seq its n, slots := sl } ∧
      R (.ok (.ret (.ref (s.heap.push { cls := .type "tuple_iterator", data := .fields #[.ref tp, .int 0 0] }).objs.size))) { s with heap := (s.heap.push { cls := .type "tuple_iterator", data := .fields #[.ref tp, .int 0 0] }).push { cls := .type "enumerate", data := .fields #[.none, .bool false, .ref s.heap.objs.size, rawInt 0, .none, .none] } }) :=
  .of_wp fun prog w A R s h => by
    obtain ⟨hp, g, d, tk, os⟩ := s
    obtain ⟨htp, h⟩ := h
    have hsb := sub_enumerate
    have hTp : Heap.IsTuple (Shared.heap ⟨hp, g, d, tk, os⟩) tp its := ⟨_, htp, rfl, n, rfl⟩
    wp_walk using wpAny_loadPart' htp
    refine wpAny_stack_any fun st => wpAny_pure ?_
    split
    · rename_i c _ _ _ _ _
      cases (c == Value.type "enumerate") <;> (wp_walk using wpAny_loadPart' htp, wpAny_pyIter_tuple hTp; exact ⟨_, rfl, h⟩)
    · wp_walk using wpAny_loadPart' htp, wpAny_pyIter_tuple hTp
      exact ⟨_, rfl, h⟩
theorem call_enumT {prog : Program} {w : World} {A : Around} {E : Value → Shared → Prop} {s : Shared} {tp : Addr} {its : Array Value} {Q : Value → Shared → Prop} (hTp : s.heap.IsTuple tp its)
    (k : ∀ g, IsEnum g (s.heap.objs.size + 1) s.heap.objs.size 0 .none → g.IsTupleIter s.heap.objs.size tp 0 → (∀ b o, s.heap.get? b = some o → g.get? b = some o) → Q (.ref (s.heap.objs.size + 1)) { s with heap := g }) :
    wpAny (model prog w) A (call (.type "enumerate") [.ref tp]) Q E s := by
  obtain ⟨⟨c, dct, dt, sl⟩, ht, hc, n, hd⟩ := hTp
  replace hc : c = .type "tuple" := hc
  replace hd : dt = .seq its n := hd
  subst hc hd
  refine callType_new F.called_enumerate (by decide) (F.typeCall_enumerate_1 _) (F.newCall_enumerate_1 _) (fun obj => F.args_object_init_2 obj _) F.entry_enumerate_new (enum_newT tp its n dct sl) ⟨ht, ?_⟩
  have hz : (s.heap.push { cls := .type "tuple_iterator", data := .fields #[.ref tp, .int 0 0] }).objs.size = s.heap.objs.size + 1 := Heap.size_push ..
  show _ ∧ _
  rw [hz]
  have he : IsEnum ((s.heap.push { cls := .type "tuple_iterator", data := .fields #[.ref tp, .int 0 0] }).push { cls := .type "enumerate", data := .fields #[.none, .bool false, .ref s.heap.objs.size, rawInt 0, .none, .none] }) (s.heap.objs.size + 1) s.heap.objs.size 0 .none := by
    have q := Heap.get?_push_size (s.heap.push { cls := .type "tuple_iterator", data := .fields #[.ref tp, .int 0 0] }) (o := { cls := .type "enumerate", data := .fields #[.none, .bool false, .ref s.heap.objs.size, rawInt 0, .none, .none] }) rfl
    rw [hz] at q
    exact q
  exact ⟨⟨_, he, rfl⟩, k _ he ⟨_, Heap.get?_push_of_some _ (Heap.get?_push_size _ rfl), rfl, rfl⟩ fun b o x => Heap.get?_push_of_some _ (Heap.get?_push_of_some _ x)⟩
end Rg
namespace Rg
open PySem PySem.Spec PyProof.Rows L2
def IteT (K : PySem.W.Frag) (a : Addr) : It :=
  ⟨fun i H => ∃ (xs : List V) (x : V), SqT K H a xs ∧ xs[i]? = some x, fun i H v H' => ∃ U x, v = .ref U ∧ H U = none ∧ H' = upd H U (.tup [.int (i : Nat), x]) ∧ ∀ xs, SqT K H a xs → xs[i]? = some x, fun i H => ∃ xs : List V, SqT K H a xs ∧ xs.length ≤ i⟩
theorem ty_ne {h : Heap} {a b : Addr} {oa ob : Obj} {x y : String} (ha : h.get? a = some oa) (hx : oa.cls = .type x) (hb : h.get? b = some ob) (hy : ob.cls = .type y) (n : x ≠ y) : a ≠ b := fun e => by
  subst e
  rw [ha] at hb
  cases hb
  rw [hx] at hy
  exact n (Value.type.inj hy)
theorem turn_enumT {P : Program} {w : World} {K : PySem.W.Frag} {elts : List Expr} {kk : Nat} {tpos : Pos} (a e it : Addr) :
    Turn P w K (.Tuple elts kk tpos) (IteT K a) [e, it] e (fun i h => (∃ old, IsEnum h e it ((i : Nat) : Int) old) ∧ h.IsTupleIter it a i ∧ e ≠ it) where
  mem := by simp
  obj := fun i h st b hb => by
    obtain ⟨⟨old, he⟩, ⟨o, ho, hc, hd⟩, _⟩ := st
    rcases (by simpa using hb : b = e ∨ b = it) with z | z
    · rw [z]; exact ⟨_, he, fun v q => nomatch q⟩
    · rw [z]; exact ⟨o, ho, fun v q => by rw [hd] at q; cases q⟩
  keep := fun i h h' st k => let ⟨⟨old, he⟩, hi, hne⟩ := st; ⟨⟨old, k e (by simp) _ he⟩, hi.at fun o q => k it (by simp) o q, hne⟩
  item := by
    intro X hP hw hK hc i pins s σ H E I hf st hg
    subst hP hw hK
    obtain ⟨⟨old, he⟩, hit, hne⟩ := st
    obtain ⟨xs, x, hq, hx⟩ := hg
    obtain ⟨its, rv, p, hz⟩ := I.tuple hq
    obtain ⟨u, hu, ru⟩ := rv.get hx
    have htp : s.heap.IsTuple a its.toArray := p
    have hel : e < s.heap.objs.size := Heap.lt_size he
    have hil : it < s.heap.objs.size := by obtain ⟨_, q, _⟩ := hit; exact Heap.lt_size q
    obtain ⟨ob1, g1, c1, _⟩ := id hit
    obtain ⟨ob2, g2, c2, _⟩ := id htp
    have nai : a ≠ it := ty_ne g2 c2 g1 c1 (by decide)
    have nea : e ≠ a := ty_ne he rfl g2 c2 (by decide)
    have hlen : i < its.toArray.size := by
      have := (List.getElem?_eq_some_iff.mp hu).1
      simpa using this
    refine wpAny_pyNext_enum_itemD (drawsT (A := X.A.in1) (I.ok.hd hc) it a nai its.toArray) he ⟨hit, htp⟩ hlen hne (by simp [hne, nea]) fun x' h' tk hPx ho hit' hT hsz hk => ?_
    have exu : u = x' := by
      have h1 : its.toArray[i]? = some u := by simpa using hu
      exact Option.some.inj (h1.symm.trans hPx)
    subst exu
    refine ⟨_, rfl, wpAny_letOwnedTupleGo_enum (s := { s with heap := h', toks := tk + 1 }) ho fun h'' he' sb => ?_⟩
    have hT2 : h''.get? s.heap.objs.size = some { cls := .type "tuple", data := .seq #[.int i tk, u] } := (sb.2 _ (Nat.ne_of_gt hel)).trans hT
    have new : ObjOk X.prog X.w (upd H s.heap.objs.size (.tup [.int (i : Nat), x])) h'' s.heap.objs.size (.tup [.int (i : Nat), x]) :=
      ⟨by show 2 ≤ sizeLine; decide, [.int i tk, u], .cons ⟨_, rfl⟩ (.cons ru .nil), ⟨_, hT2, rfl, _, rfl⟩⟩
    have I1 : Inv X pins σ (upd H s.heap.objs.size (.tup [.int (i : Nat), x])) { s with heap := h'', toks := tk + 1 } :=
      I.turnedNew (ch := [e, it]) (fun b ob hb q => (sb.2 b (fun z => hb (by simp [z]))).trans (hk b ob (fun z => hb (by simp [z])) (fun z => hb (by simp [z])) q)) hf (Nat.le_refl _) new
    refine ⟨.ref s.heap.objs.size, _, I1, rfl, ⟨_, x, rfl, I.hok.fresh (Nat.le_refl _), rfl, fun ys hy => by rw [I.tuple_inj hy hq]; exact hx⟩, ⟨⟨u, ?_⟩, hit'.1.at fun o q => (sb.2 it (Ne.symm hne)).trans q, hne⟩, fun b hb => ?_⟩
    · rw [show ((i + 1 : Nat) : Int) = (i : Int) + 1 by omega]
      exact he'
    · have hb' : b < s.heap.objs.size := by
        rcases (by simpa using hb : b = e ∨ b = it) with z | z <;> rw [z] <;> assumption
      rw [upd_ne (Nat.ne_of_lt hb')]
      exact (hf b hb).1
  done := by
    intro X hP hw hK hc i pins s σ H E I hf st hg
    subst hP hw hK
    obtain ⟨⟨old, he⟩, hit, hne⟩ := st
    obtain ⟨xs, hq, hx⟩ := hg
    obtain ⟨its, rv, p, hz⟩ := I.tuple hq
    have htp : s.heap.IsTuple a its.toArray := p
    obtain ⟨f0, f1, f2, f3, f4, f5⟩ := hf it (by simp)
    obtain ⟨ob1, g1, c1, d1⟩ := id hit
    have hl := rv.length
    have hT : s.TypeIs (.ref e) "enumerate" := ⟨_, he, rfl⟩
    unfold pyNext
    refine wpAny_bind (wpAny_attempt (wpAny_callSpecial?_slot (name := Str.ofString "__next__") hT F.slot_enumerate_next (wpAny_call_entry F.slot_enumerate_next hT F.entry_enumerate_next ?_ (F.args_enumerate_next_1 _))))
    show wpAny _ _ (field (.ref e) 2 >>= _) _ _ _; refine wpAny_bind (wpAny_field he rfl (x := .ref it) rfl ?_)
    refine wpAny_bind (nextT_end (A := X.A.in1) (I.ok.hd hc) hit htp (by simp; omega) fun h' y he' hy => ?_)
    obtain ⟨o, ho, hcl⟩ := hy
    refine wpAny_bind (wpAny_isInstance (T := "StopIteration") (b := true) ⟨o, ho, hcl⟩ isSubtype_stop ?_); exact wpAny_pure ⟨rfl, I.turned (t' := s.toks) (fun b o hb q => he' b o hb q) f0 f1 f3 f4 f5⟩
  self := fun A i s Q E st h => let ⟨⟨_, he⟩, _⟩ := st; wpAny_pyIter_enum he h
def iEnumT (K : PySem.W.Frag) (ta : L2.TA) : TI := fun σ H R => ta σ H fun vs H1 => ∃ a xs, vs = [.ref a] ∧ SqT K H1 a xs ∧ R (IteT K a) H1
theorem pi_enumT {X : Cx} {e : Expr} {ta : L2.TA} {p pos tpos : Pos} {elts : List Expr} {kk : Nat} (hg : Gl X "enumerate") (hm : X.mg "enumerate" = none) (ha : PA X [e] ta) (hs : starEach [e] X.env = [(false, eval e X.env)] := by rfl) :
    PI X (.Tuple elts kk tpos) (.Call (.Name "enumerate" p) [e] [] pos) (iEnumT X.K ta) := by
  intro pins s σ H R I h
  refine Call_ (ld_blt I hg hm boot_enumerate (PyProof.Rows.callWith_type1 (thn (ha pos pins s σ H _ I h) fun us s1 ⟨vs, H1, I1, r1, q1⟩ => ?_) hs rfl))
  obtain ⟨a, xs, ex, hq, q⟩ := q1
  subst ex
  cases r1 with
  | cons r rr =>
    cases rr
    cases r
    obtain ⟨its, rv, p', hz⟩ := I1.tuple hq
    refine call_enumT (show s1.heap.IsTuple a its.toArray from p') fun h' he hit hk => wpAny_pyIter_enum he ?_
    have I2 : Inv X pins σ H1 { s1 with heap := h' } := I1.kept (t' := s1.toks) hk
    refine ⟨s1.heap.objs.size + 1, [s1.heap.objs.size + 1, s1.heap.objs.size], _, _, H1, rfl, I2, turn_enumT a (s1.heap.objs.size + 1) s1.heap.objs.size, ⟨⟨.none, he⟩, hit, Nat.succ_ne_self _⟩, fun b hb => ?_, q⟩
    have hle : s1.heap.objs.size ≤ b := by
      rcases (by simpa using hb : b = s1.heap.objs.size + 1 ∨ b = s1.heap.objs.size) with z | z <;> rw [z]
      · exact Nat.le_add_right _ _
      · exact Nat.le_refl _
    exact I1.fpOk hle (I1.hok.fresh hle)
theorem for_enumT {K : PySem.W.Frag} {a : Addr} {xs : List V} {g : TG} {tb : TS} {D : Ends} {σ : L2.St} {H : Hp} (Pv : Nat → L2.St → Hp → Prop) (h0 : Pv 0 σ H) (hl : ∀ i σ H, i ≤ xs.length → Pv i σ H → SqT K H a xs)
    (hs : ∀ i x σ H U, xs[i]? = some x → Pv i σ H → H U = none → g (.ref U) σ (upd H U (.tup [.int (i : Nat), x])) fun σ2 H2 => tb { D with nx := Pv (i + 1), ct := Pv (i + 1), bk := D.nx } σ2 H2) (hd : ∀ σ H, Pv xs.length σ H → D.nx σ H) :
    ∃ W : Nat → Nat → L2.St → Hp → Prop, (∃ m, W 0 m σ H) ∧ ∀ i m σ H, W i m σ H →
      ((IteT K a).stop i H ∧ D.nx σ H) ∨ ((IteT K a).go i H ∧ ∃ N : L2.St → Hp → Prop, (∀ σ' H', N σ' H' → ∃ m', m' < m ∧ W (i + 1) m' σ' H') ∧ ∀ x H', (IteT K a).yld i H x H' → g x σ H' fun σ2 H2 => tb { D with nx := N, ct := N, bk := D.nx } σ2 H2) := by
  refine ⟨fun i m σ H => m = xs.length - i ∧ i ≤ xs.length ∧ Pv i σ H, ⟨xs.length, by simp, Nat.zero_le _, h0⟩, ?_⟩
  rintro i m σ H ⟨rfl, hi, p⟩
  have q := hl i σ H hi p
  by_cases hlt : i < xs.length
  · refine .inr ⟨⟨xs, xs[i], q, by simp [hlt]⟩, Pv (i + 1), fun σ' H' p' => ⟨xs.length - (i + 1), by omega, rfl, hlt, p'⟩, fun x H' y => ?_⟩
    obtain ⟨U, z, rfl, hU, rfl, hz⟩ := y
    exact hs i z σ _ U (hz xs q) p hU
  · have e : i = xs.length := by omega
    subst e
    exact .inl ⟨⟨xs, q, Nat.le_refl _⟩, hd σ H p⟩
theorem for_enum {K : PySem.W.Frag} {a : Addr} {xs : List V} {g : TG} {tb : TS} {D : Ends} {σ : L2.St} {H : Hp} (Pv : Nat → L2.St → Hp → Prop) (h0 : Pv 0 σ H) (hl : ∀ i σ H, i ≤ xs.length → Pv i σ H → SqL K H a xs)
    (hs : ∀ i x σ H U, xs[i]? = some x → Pv i σ H → H U = none → g (.ref U) σ (upd H U (.tup [.int (i : Nat), x])) fun σ2 H2 => tb { D with nx := Pv (i + 1), ct := Pv (i + 1), bk := D.nx } σ2 H2) (hd : ∀ σ H, Pv xs.length σ H → D.nx σ H) :
    ∃ W : Nat → Nat → L2.St → Hp → Prop, (∃ m, W 0 m σ H) ∧ ∀ i m σ H, W i m σ H →
      ((Ite K a).stop i H ∧ D.nx σ H) ∨ ((Ite K a).go i H ∧ ∃ N : L2.St → Hp → Prop, (∀ σ' H', N σ' H' → ∃ m', m' < m ∧ W (i + 1) m' σ' H') ∧ ∀ x H', (Ite K a).yld i H x H' → g x σ H' fun σ2 H2 => tb { D with nx := N, ct := N, bk := D.nx } σ2 H2) := by
  refine ⟨fun i m σ H => m = xs.length - i ∧ i ≤ xs.length ∧ Pv i σ H, ⟨xs.length, by simp, Nat.zero_le _, h0⟩, ?_⟩
  rintro i m σ H ⟨rfl, hi, p⟩
  have q := hl i σ H hi p
  by_cases hlt : i < xs.length
  · refine .inr ⟨⟨xs, xs[i], q, by simp [hlt]⟩, Pv (i + 1), fun σ' H' p' => ⟨xs.length - (i + 1), by omega, rfl, hlt, p'⟩, fun x H' y => ?_⟩
    obtain ⟨U, z, rfl, hU, rfl, hz⟩ := y
    exact hs i z σ _ U (hz xs q) p hU
  · have e : i = xs.length := by omega
    subst e
    exact .inl ⟨⟨xs, q, Nat.le_refl _⟩, hd σ H p⟩
theorem get_list {X : Cx} : PGet X (rIxL X.K) := by
  intro pins s σ H o i ov iv Q I ro ri h
  obtain ⟨p, xs, j, z, rfl, rfl, hq, he, q⟩ := h
  cases ro
  obtain ⟨t, rfl⟩ := ri
  obtain ⟨its, r, pl, hz⟩ := I.list hq
  obtain ⟨n, h1, h2, h3, h4, h5⟩ := atI_get he
  obtain ⟨u, eu, ru⟩ := r.get h2
  have hl := r.length
  have hn := line63
  have fin : EP X pins σ Q u s := ⟨z, H, I, ru, q⟩
  by_cases h0 : 0 ≤ j
  · have hj : j.toNat = n := by
      rw [seqIndex_of h0 h5] at h1
      exact Option.some.inj h1
    exact wpAny_getItem_list pl.isList h0 (by omega) (by rw [hj]; simpa using eu) fin
  · have hj : (j + (its.toArray.size : Int)).toNat = n := by
      rw [seqIndex_neg (by omega) h4] at h1
      rw [List.size_toArray, ← hl]
      exact Option.some.inj h1
    exact wpAny_getItem_list_neg pl.isList (by omega) (by rw [List.size_toArray] <;> omega) (by omega) (by rw [hj]; simpa using eu) fin
def rExtS (K : PySem.W.Frag) : V → List V → Hp → VK → Prop := fun x vs H Q => ∃ l b xs zs, x = .ref l ∧ vs = [.ref b] ∧ H l = some (.lst xs) ∧ (H b = some (.lst zs) ∨ H b = some (.tup zs)) ∧ xs.length + zs.length ≤ sizeLine ∧ Q .non (upd H l (.lst (xs ++ zs)))
theorem ext_tup (l : Addr) (xs : Array Value) (n : Nat) (b : Addr) (ys : Array Value) (m : Nat) (dct : Option Addr) (sl : Array (Option Value)) (h0 : ¬(!xs.isEmpty && Builtin.List.listTooLong (xs.size + ys.size)) = true) (h1 : xs.size ≤ sizeLine) (h2 : (xs ++ ys).size ≤ sizeLine + 1) :
    Meets (Builtin.«list.extend» ⟨[.ref l, .ref b], []⟩) (fun _ R s => s.heap.get? l = some { cls := .type "list", dict := none, data := .seq xs n, slots := #[] } ∧ s.heap.get? b = some { cls := .type "tuple", dict := dct, data := .seq ys m, slots := sl } ∧
      R (.ok (.ret Value.none)) { s with heap := s.heap.update l (Obj.mapSeq fun x => x ++ ys), toks := s.toks }) :=
  .of_wp fun prog w A R s h => by
    obtain ⟨hp, g, d, tk, os⟩ := s
    obtain ⟨hl, hb, h⟩ := h
    have f1 := AutoSeq1.idx_int
    have f2 := AutoSeq1.sub_tuple_tuple
    have f3 := AutoSeq1.sub_list_list
    have f4 := AutoSeq1.sub_tuple_list
    have f5 := AutoSeq1.sub_list_tuple
    wp_walk using (wpAny_updateSeq hl rfl (hz := h1) (_hz' := h2)), AutoSeq1.wpAny_loadPart' hl, AutoSeq1.wpAny_loadPart' hb
    exact ⟨_, rfl, h⟩
theorem mt_extendS {X : Cx} : MtM X "list.extend" (rExtS X.K) := by
  intro pins s σ H x vs v us Q I rx rv h
  obtain ⟨l, b, xs, zs, rfl, rfl, hH, hB, hz, q⟩ := h
  rcases hB with hB | hB
  · exact mt_extend pins s σ H _ _ v us Q I rx rv ⟨l, b, xs, zs, rfl, rfl, hH, hB, hz, q⟩
  · cases rx
    obtain ⟨u, rfl, ru⟩ := rv.one
    cases ru
    obtain ⟨z, its, n, r, hl, e⟩ := I.lstM hH
    obtain ⟨its2, r2, p2, z2⟩ := I.tuple (SqT.of (K := X.K) hB)
    obtain ⟨⟨c, dct, dt, sl⟩, e2, hc2, n2, hd2⟩ := p2
    replace hc2 : c = .type "tuple" := hc2
    replace hd2 : dt = .seq its2.toArray n2 := hd2
    subst hc2 hd2
    have hl2 := r2.length
    have hsz : its.toArray.size + its2.toArray.size ≤ sizeLine := by rw [List.size_toArray, List.size_toArray]; omega
    have hlong : ¬ (!its.toArray.isEmpty && Builtin.List.listTooLong (its.toArray.size + its2.toArray.size)) = true := by
      rw [notLongL hsz, Bool.and_false]
      exact Bool.false_ne_true
    refine call_meets F.slot_list_extend ⟨_, e, rfl⟩ F.entry_list_extend (F.args_list_extend_2 _ _) (ext_tup l its.toArray n b its2.toArray n2 dct sl hlong (by rw [List.size_toArray]; omega) (by rw [Array.size_append]; omega)) ⟨e, e2, ?_⟩
    refine ⟨.non, _, I.lset (its' := its ++ its2) hH e (by simp) (r.append r2) ?_, rfl, q⟩
    rw [List.length_append]
    omega
def tCalv (K : PySem.W.Frag) (G : Nat → Addr → List Str → Sp → Prop) (j : Nat) (tf : TE) (t : L2.TA) : TE := fun σ H Q => tf σ H fun x H1 => ∃ f ps sp, x = .ref f ∧ G j f ps sp ∧ t σ H1 fun vs H2 => sp vs H2 Q E0
theorem pg_callv {X : Cx} {j i : Nat} {x : Str} {p pos : Pos} {e : Expr} {es : List Expr} {t : L2.TA} (hv : PE X (.Name x p) (tVar i)) (hr : Room j X.A) (ha : PA X (e :: es) t) (he : starEach (e :: es) X.env = (false, eval e X.env) :: starEach es X.env := by rfl) (hpl : (backTo pos (starEach es X.env)).any (·.1) = false := by rfl) (hx : Passes CX0 X E0 := pass0) :
    PE X (.Call (.Name x p) (e :: es) [] pos) (tCalv X.K (fun j f ps sp => Good X.prog X.w X.K X.mg X.base j f ps sp) j (tVar i) t) := by
  intro pins s σ H Q I h
  refine wpAny_Call_Name_kw (thn (hv pins s σ H _ I h) fun u s1 ⟨y, H1, I1, ry, f, ps, sp, ey, G, q⟩ => ?_)
  subst ey
  obtain rfl : u = Value.ref f := ry
  obtain ⟨fd, F, b⟩ := G.ex
  refine PySem.W.callWith_K (h₀ := X.base) I.ok.mod.kin G.kp (thn (ha pos pins s1 σ H1 _ I1 q) fun us s2 ⟨vs, H2, I2, r, q2⟩ => ⟨I2.kIn, ?_⟩) he hpl
  exact run_fn (dvs := []) (ds := []) F hr b .nil hx I2 r (by rw [List.append_nil]; exact q2)
end Rg
namespace Rg
open PySem PySem.Spec PyProof.Rows L2
section
variable {X : Cx} {o e value : Expr} {f : Str} {pos pos' tpos : Pos} {ta tv : TE}
def sFldA (K : PySem.W.Frag) (ta tv : TE) (f : Str) : TS := fun D σ H => tv σ H fun y H1 => ta σ H1 fun x H2 => ∃ a C dx fs, x = .ref a ∧ H2 a = some (.ins C dx fs) ∧ Cls K C ∧ NoAttr K C f ∧ fs.length < 1000 ∧
  ∀ H3 : Hp, H3 a = some (.ins C dx (putF f y fs)) → Kp [a] H2 H3 → D.nx σ H3
theorem ps_fldA (ha : PE X o ta) (hv : PE X value tv) (hs : swapsWith value (some (.Attribute o f pos')) pos.line X.env = pure false) : PS X (.Assign [.Attribute o f pos'] value pos) (sFldA X.K ta tv f) := by
  intro pins s σ H D I h
  refine plainObj_wpAny_Assign_Attribute (thn (hv pins s σ H _ I h) fun u s1 ⟨y, H1, I1, ry, q⟩ => thn (ha pins s1 σ H1 _ I1 q) fun ov s2 ⟨x, H2, I2, rx, a, C, dx, fs, ex, ea, c, n, l, q2⟩ => ?_) hs
  subst ex
  obtain rfl : ov = Value.ref a := rx
  exact setattr_ok I2 ea c n l ry fun s3 I3 => ⟨σ, _, I3, q2 _ upd_same kp_upd⟩
def sFldAugA (K : PySem.W.Frag) (ta tv : TE) (rd : V → V → Hp → VK → Prop) (f : Str) : TS := fun D σ H => ta σ H fun x H1 => ∃ a C dx fs v, x = .ref a ∧ H1 a = some (.ins C dx fs) ∧ Cls K C ∧ NoAttr K C f ∧ fs.lookup f = some v ∧
  tv σ H1 fun y H2 => rd v y H2 fun z H3 => ∃ dx' fs', H3 a = some (.ins C dx' fs') ∧ fs'.length < 1000 ∧ ∀ H4 : Hp, H4 a = some (.ins C dx' (putF f z fs')) → Kp [a] H3 H4 → D.nx σ H4
theorem ps_fldaugA {op : Operator} {rd : V → V → Hp → VK → Prop} (ha : PE X o ta) (hv : PE X value tv) (hop : InOp X op rd) : PS X (.AugAssign (.Attribute o f tpos) op value pos) (sFldAugA X.K ta tv rd f) := by
  intro pins s σ H D I h
  refine wpAny_AugAssign_AttributeAny (thn (ha pins s σ H _ I h) fun ov s1 ⟨x, H1, I1, rx, a, C, dx, fs, v, ex, ea, c, n, l, q⟩ => ?_)
  subst ex
  obtain rfl : ov = Value.ref a := rx
  refine getattr_ok I1 ea c n l fun u s2 I2 ru => thn (hv pins s2 σ H1 _ I2 q) fun w3 s3 ⟨y, H2, I3, ry, q3⟩ => thn (hop pins s3 σ H2 v y u w3 _ I3 ru ry q3) fun w4 s4 ⟨z, H3, I4, rz, dx', fs', ea', l', q4⟩ => ?_
  exact setattr_ok I4 ea' c n l' rz fun s5 I5 => ⟨σ, _, I5, q4 _ upd_same kp_upd⟩
def rSetA : V → V → V → Hp → (Hp → Prop) → Prop := fun o i v H Q => ∃ p xs k j, o = .ref p ∧ i = .int k ∧ H p = some (.lst xs) ∧ ixN xs.length k = some j ∧ ∀ H' : Hp, H' p = some (.lst (xs.set j v)) → Kp [p] H H' → Q H'
theorem set_listA : PSet X rSetA := by
  intro pins s σ H o i v ov iv u Q I ro ri rv h
  obtain ⟨p, xs, k, j, e1, e2, hp, hj, q⟩ := h
  exact set_list pins s σ H o i v ov iv u Q I ro ri rv ⟨p, xs, k, j, e1, e2, hp, hj, q _ upd_same kp_upd⟩
def rAppA : V → List V → Hp → VK → Prop := fun x vs H Q => ∃ l xs y, x = .ref l ∧ vs = [y] ∧ H l = some (.lst xs) ∧ xs.length < sizeLine ∧ ∀ H' : Hp, H' l = some (.lst (xs ++ [y])) → Kp [l] H H' → Q .non H'
theorem mt_appendA : MtM X "list.append" rAppA := by
  intro pins s σ H x vs v us Q I rx rv h
  obtain ⟨l, xs, y, e1, e2, hl, hz, q⟩ := h
  exact mt_append pins s σ H x vs v us Q I rx rv ⟨l, xs, y, e1, e2, hl, hz, q _ upd_same kp_upd⟩
def rExtA (K : PySem.W.Frag) : V → List V → Hp → VK → Prop := fun x vs H Q => ∃ l b xs zs, x = .ref l ∧ vs = [.ref b] ∧ H l = some (.lst xs) ∧ (H b = some (.lst zs) ∨ H b = some (.tup zs)) ∧ xs.length + zs.length ≤ sizeLine ∧ ∀ H' : Hp, H' l = some (.lst (xs ++ zs)) → Kp [l] H H' → Q .non H'
theorem mt_extendA : MtM X "list.extend" (rExtA X.K) := by
  intro pins s σ H x vs v us Q I rx rv h
  obtain ⟨l, b, xs, zs, e1, e2, hl, hb, hz, q⟩ := h
  exact mt_extendS pins s σ H x vs v us Q I rx rv ⟨l, b, xs, zs, e1, e2, hl, hb, hz, q _ upd_same kp_upd⟩
def rPopA : V → List V → Hp → VK → Prop := fun x vs H Q => ∃ l xs y, x = .ref l ∧ vs = [] ∧ H l = some (.lst xs) ∧ xs[xs.length - 1]? = some y ∧ ∀ H' : Hp, H' l = some (.lst xs.dropLast) → Kp [l] H H' → Q y H'
theorem mt_popA : MtM X "list.pop" rPopA := by
  intro pins s σ H x vs v us Q I rx rv h
  obtain ⟨l, xs, y, e1, e2, hl, hz, q⟩ := h
  exact mt_pop pins s σ H x vs v us Q I rx rv ⟨l, xs, y, e1, e2, hl, hz, q _ upd_same kp_upd⟩
end
theorem Kp.free {M : List Addr} {H H' : Hp} (k : Kp M H H') {q : Addr} (h : H' q = none) (hM : q ∉ M) : H q = none := by
  cases e : H q with
  | none => rfl
  | some o => rw [k q o e hM] at h; cases h
theorem Kp.at1 {a b : Addr} {H H' : Hp} {o : HO} (k : Kp [a] H H') (hb : H b = some o) (n : b ≠ a) : H' b = some o := k b o hb fun z => n (List.mem_singleton.mp z)
theorem put_articles (A : TA) (t : Mi.T) (l : Addr) : putF "articles" (.ref l) (tf A t) = tf { A with ar := l } t := by kernel_rfl
theorem put_offers (A : TA) (t : Mi.T) (l : Addr) : putF "offers" (.ref l) (tf A t) = tf { A with of := l } t := by kernel_rfl
theorem put_turn (A : TA) (t : Mi.T) (n : Nat) : putF "turn" (.int (n : Nat)) (tf A t) = tf A { t with turn := n } := by kernel_rfl
theorem put_members (A : TA) (t : Mi.T) (n : Nat) : putF "members" (.int (n : Nat)) (tf A t) = tf A { t with mem := n } := by kernel_rfl
theorem put_reserved (A : TA) (t : Mi.T) (l : Addr) : putF "reserved" (.ref l) (tf A t) = tf { A with re := l } t := by kernel_rfl
theorem put_objected (A : TA) (t : Mi.T) (l : Addr) : putF "objected" (.ref l) (tf A t) = tf { A with ob := l } t := by kernel_rfl
theorem put_states (B : WA) (w : Mi.W) (n : Nat) : putF "states" (.int (n : Nat)) (wf B w) = wf B { w with n := n } := by kernel_rfl
theorem put_treaties (B : WA) (w : Mi.W) (l : Addr) : putF "treaties" (.ref l) (wf B w) = wf { B with tl := l } w := by kernel_rfl
theorem put_favoured (B : WA) (w : Mi.W) (l : Addr) : putF "favoured" (.ref l) (wf B w) = wf { B with fl := l } w := by kernel_rfl
theorem init_tf (n : Nat) (o a b c d : Addr) : putF "objected" (.ref d) (putF "reserved" (.ref c) (putF "members" (.int 0) (putF "turn" (.int 0) (putF "offers" (.ref b) (putF "articles" (.ref a) (putF "need" (.int (n : Nat)) [])))))) = tf ⟨o, a, b, c, d⟩ (Mi.newT n) := by kernel_rfl
theorem init_wf (n : Nat) (o a b : Addr) (ts : List TA) (xs : List Mi.T) (ys : List Nat) : putF "favoured" (.ref b) (putF "treaties" (.ref a) (putF "states" (.int (n : Nat)) [])) = wf ⟨o, a, b, ts⟩ ⟨n, xs, ys⟩ := by kernel_rfl
structure TCh (C : Addr) (H : Hp) (A : TA) (H' : Hp) (A' : TA) (t' : Mi.T) : Prop where
  at_ : TAt C H' A' t'
  o : A'.o = A.o
  kp : Kp (fpT A) H H'
  nw : ∀ b ∈ fpT A', b ∈ fpT A ∨ H b = none
end Rg
namespace Rg
open PySem PySem.Spec PyProof.Rows L2
def KD (P : Program) (w : World) (K : PySem.W.Frag) (a : Addr) (kvs : List (Key × V)) : Prop := (a == sysModules) = false ∧ ∀ h : Heap, K.In h → ∃ vs, KV kvs vs ∧ h.DictOf (mixKind P w) a vs
section
variable {X : Cx} {x : Str} {p pos : Pos} {e : Expr} {te : TE} {a : Addr} {kvs : List (Key × V)}
def tKGet (kvs : List (Key × V)) (te : TE) : TE := fun σ H Q => te σ H fun y H1 => ∃ (i : Int) (v : V), y = .int i ∧ valV kvs (Sum.inl i) = some v ∧ Q v H1
theorem pg_dget (hg : Gl X x) (hm : X.mg x = some (.ref a)) (hk : KD X.prog X.w X.K a kvs) (he : PE X e te) (hs : NoSl e := by intro _ _; rfl) (hdb : (x == ("__debug__" : Str)) = false := by decide) : PE X (.Subscript (.Name x p) e pos) (tKGet kvs te) := by
  intro pins s σ H Q I h
  refine subD_of PySem.F.slot_dict_getitem.lookup hs (ld_glob I hg hm (thn (he pins s σ H _ I h) fun u s1 ⟨y, H1, I1, ry, i, v, ey, hv, q⟩ => ?_) hdb)
  subst ey
  obtain ⟨vs, rel, dd⟩ := hk.2 s1.heap I1.kIn
  obtain ⟨u', hu, ru⟩ := RelO.some_of (v := v) (o := valueAt vs (Sum.inl i)) (by rw [← hv]; exact rel.val (Sum.inl i))
  refine ⟨dd.typeIs, wpAny_getItem_of (kV_is (k := Sum.inl i) ry) dd.mapOf hu ⟨v, H1, I1.tok _, ru, q⟩⟩
def tKIn (kvs : List (Key × V)) (te : TE) : TE := fun σ H Q => te σ H fun y H1 => ∃ i : Int, y = .int i ∧ Q (.bl (valV kvs (Sum.inl i)).isSome) H1
theorem pc_kin (hg : Gl X x) (hm : X.mg x = some (.ref a)) (hk : KD X.prog X.w X.K a kvs) (he : PE X e te) (hdb : (x == ("__debug__" : Str)) = false := by decide) : PC X .In e (.Name x p) (tKIn kvs te) := by
  intro pins s σ H Q I h
  refine thn (he pins s σ H _ I h) fun u s1 ⟨y, H1, I1, ry, i, ey, q⟩ => ld_glob I1 hg hm ?_ hdb
  subst ey
  obtain ⟨vs, rel, dd⟩ := hk.2 s1.heap I1.kIn
  refine wpAny_in_of (kV_is (k := Sum.inl i) ry) hk.1 dd.mapOf ?_
  rw [← (rel.val (Sum.inl i)).isSome_eq]
  exact ⟨.bl (valV kvs (Sum.inl i)).isSome, H1, I1.tok _, rfl, q⟩
end
end Rg
namespace Rg
open PySem PySem.Spec PyProof.Rows L2
theorem pairK {h g : Heap} {b c : Addr} {x y : Value} (p : IsPair h c x y) (s : Heap.SameBut b h g) (n : c ≠ b) : IsPair g c x y := s.extBut _ _ n p
theorem tupK {h g : Heap} {b c : Addr} {xs : Array Value} (p : h.IsTuple c xs) (s : Heap.SameBut b h g) (n : c ≠ b) : g.IsTuple c xs := by
  obtain ⟨o, e, r⟩ := p
  exact ⟨o, s.extBut _ _ n e, r⟩
section
variable {prog : Program} {w : World} {A : Around} {E : Value → Shared → Prop} {s : Shared} {z U O ia ib la lb : Addr} {m n : Nat} {xs ys : Array Value} {a b : Value}
theorem zipTL_item {x y : Value} {Q : Value → Shared → Prop} (ap : ZipApart z U O ia ib la lb) (pz : IsZip s.heap z U O .none) (pU : IsPair s.heap U (.ref ia) (.ref ib)) (pO : IsPair s.heap O a b) (pa : s.heap.IsTupleIter ia la m) (pb : s.heap.IsListIter ib lb n)
    (ta : s.heap.IsTuple la xs) (tb : s.heap.IsList lb ys) (ex : xs[m]? = some x) (ey : ys[n]? = some y)
    (k : ∀ g, IsZip g z U O (rawInt s.heap.objs.size) → IsPair g O x y → g.IsTupleIter ia la (m + 1) → g.IsListIter ib lb (n + 1) → IsPair g s.heap.objs.size x y →
      (∀ c o, c ≠ z → c ≠ O → c ≠ ia → c ≠ ib → s.heap.get? c = some o → g.get? c = some o) → Q (.ref s.heap.objs.size) { s with heap := g }) :
    wpAny (model prog w) A (Builtin.«zip.__next__» ⟨[.ref z], []⟩) (fun fin s' => ∃ v, fin = .done (.ret v) ∧ Q v s') E s := by
  show wpAny _ _ (field (.ref z) 2 >>= _) _ _ _; refine wpAny_bind (wpAny_field pz rfl (x := .bool false) rfl ?_)
  show wpAny _ _ (field (.ref z) 3 >>= _) _ _ _; refine wpAny_bind (wpAny_field pz rfl (x := .ref U) rfl (?_)); refine wpAny_bind (wpAny_seqItems pU rfl ?_)
  show wpAny _ _ (Builtin.SmallTypes.ownedTupleIsFree (.ref z) >>= _) _ _ _; refine wpAny_bind ?_; unfold Builtin.SmallTypes.ownedTupleIsFree
  refine wpAny_bind (wpAny_field pz rfl (x := .none) rfl (wpAny_pure ?_)); simp only [if_true]; refine wpAny_bind (wpAny_rule ?_)
  refine wpAny_bind (wpAny_field pz rfl (x := .ref O) rfl ?_); refine wpAny_bind (wpAny_setField_rec pz (by simp) fun g1 pz1 t1 => ?_)
  replace pz1 : IsZip g1 z U O .ellipsis := pz1
  refine wpAny_bind ?_; simp only [List.zipIdx_cons, List.zipIdx_nil, List.forIn_cons, List.forIn_nil]
  refine wpAny_bind (wpAny_bind (wpAny_onRaise ?_)); show wpAny _ _ (Builtin.SmallTypes.nextOf (.ref ia) >>= _) _ _ _
  refine wpAny_bind (nextT_item (pa.extBut t1.extBut ap.i1z) (tupK ta t1 ap.l1z) ex fun g2 pa2 t2 => wpAny_pure ?_)
  have pO2 : IsPair g2 O a b := pairK (pairK pO t1 ap.TOz) t2 ap.TOi1
  refine wpAny_bind (wpAny_seqItems pO2 rfl ?_); refine wpAny_bind (wpAny_updateSeq_pair pO2 fun g3 pO3 t3 => ?_)
  replace pO3 : IsPair g3 O x b := pO3
  refine wpAny_bind (wpAny_letGo (wpAny_pure ?_)); refine wpAny_bind (wpAny_bind (wpAny_onRaise ?_)); show wpAny _ _ (Builtin.SmallTypes.nextOf (.ref ib) >>= _) _ _ _
  refine wpAny_bind (wpAny_nextOf_list_item (((pb.extBut t1.extBut ap.i2z).extBut t2.extBut ap.i12.symm).extBut t3.extBut ap.TOi2.symm) (((tb.extBut t1.extBut ap.l2z).extBut t2.extBut ap.l2i1).extBut t3.extBut ap.l2TO) ey fun g4 pb4 t4 => wpAny_pure ?_)
  have pO4 : IsPair g4 O x b := pairK pO3 t4 ap.TOi2
  refine wpAny_bind (wpAny_seqItems pO4 rfl ?_); refine wpAny_bind (wpAny_updateSeq_pair pO4 fun g5 pO5 t5 => ?_)
  replace pO5 : IsPair g5 O x y := pO5
  refine wpAny_bind (wpAny_letGo (wpAny_pure (wpAny_pure ?_))); refine wpAny_bind (wpAny_seqItems pO5 rfl ?_); refine wpAny_bind (wpAny_newTuple ?_)
  have zs : g5.objs.size = s.heap.objs.size := by rw [t5.1, t4.1, t3.1, t2.1, t1.1]
  have pz5 : IsZip g5 z U O .ellipsis := t5.extBut _ _ ap.TOz.symm (t4.extBut _ _ ap.i2z.symm (t3.extBut _ _ ap.TOz.symm (t2.extBut _ _ ap.i1z.symm pz1)))
  have keep5 : ∀ c o, c ≠ z → c ≠ O → c ≠ ia → c ≠ ib → s.heap.get? c = some o → g5.get? c = some o := fun c o c1 c2 c3 c4 e => t5.extBut _ _ c2 (t4.extBut _ _ c4 (t3.extBut _ _ c2 (t2.extBut _ _ c3 (t1.extBut _ _ c1 e))))
  have pa5 : g5.IsTupleIter ia la (m + 1) := ((pa2.extBut t3.extBut ap.TOi1.symm).extBut t4.extBut ap.i12).extBut t5.extBut ap.TOi1.symm
  have pb5 : g5.IsListIter ib lb (n + 1) := pb4.extBut t5.extBut ap.TOi2.symm
  have lz : z < g5.objs.size := Heap.lt_size pz5
  show wpAny _ _ (Builtin.SmallTypes.ownedTupleHandOut (.ref z) (.ref g5.objs.size) >>= _) _ _ _; refine wpAny_bind ?_; unfold Builtin.SmallTypes.ownedTupleHandOut
  have pz6 : IsZip (g5.push { cls := .type "tuple", data := .seq #[x, y] }) z U O .ellipsis := Heap.get?_push_of_some _ pz5
  refine wpAny_bind (wpAny_setField_rec pz6 (by simp) fun g7 pz7 t7 => ?_)
  replace pz7 : IsZip g7 z U O (rawInt g5.objs.size) := pz7
  refine wpAny_setField_rec pz7 (by simp) fun g8 pz8 t8 => ?_
  replace pz8 : IsZip g8 z U O (rawInt g5.objs.size) := pz8
  have up8 : ∀ c o, c ≠ z → g5.get? c = some o → g8.get? c = some o := fun c o c1 e => t8.extBut _ _ c1 (t7.extBut _ _ c1 (Heap.get?_push_of_some _ e))
  have pT8 : IsPair g8 g5.objs.size x y := t8.extBut _ _ (Nat.ne_of_gt lz) (t7.extBut _ _ (Nat.ne_of_gt lz) (Heap.get?_push_size _ rfl))
  rw [zs] at pz8 pT8
  refine wpAny_pure ⟨_, rfl, ?_⟩
  show Q (.ref g5.objs.size) _
  rw [zs]
  exact k g8 pz8 (up8 _ _ ap.TOz pO5) (pa5.at fun o e => up8 _ o ap.i1z e) (pb5.at fun o e => up8 _ o ap.i2z e) pT8 fun c o c1 c2 c3 c4 e => up8 c o c1 (keep5 c o c1 c2 c3 c4 e)
theorem zipTL_end {Q : Fin → Shared → Prop} (hA : A.handled = none) (ap : ZipApart z U O ia ib la lb) (pz : IsZip s.heap z U O .none) (pU : IsPair s.heap U (.ref ia) (.ref ib)) (pa : s.heap.IsTupleIter ia la m) (ta : s.heap.IsTuple la xs) (ex : xs[m]? = none)
    (k : ∀ g e, (∀ c o, c ≠ z → c ≠ ia → s.heap.get? c = some o → g.get? c = some o) → (∃ o, g.get? e = some o ∧ o.cls = .type "StopIteration") → E (.ref e) { s with heap := g }) : wpAny (model prog w) A (Builtin.«zip.__next__» ⟨[.ref z], []⟩) Q E s := by
  show wpAny _ _ (field (.ref z) 2 >>= _) _ _ _; refine wpAny_bind (wpAny_field pz rfl (x := .bool false) rfl ?_)
  show wpAny _ _ (field (.ref z) 3 >>= _) _ _ _; refine wpAny_bind (wpAny_field pz rfl (x := .ref U) rfl (?_)); refine wpAny_bind (wpAny_seqItems pU rfl ?_)
  show wpAny _ _ (Builtin.SmallTypes.ownedTupleIsFree (.ref z) >>= _) _ _ _; refine wpAny_bind ?_; unfold Builtin.SmallTypes.ownedTupleIsFree
  refine wpAny_bind (wpAny_field pz rfl (x := .none) rfl (wpAny_pure ?_)); simp only [if_true]; refine wpAny_bind (wpAny_rule ?_)
  refine wpAny_bind (wpAny_field pz rfl (x := .ref O) rfl ?_); refine wpAny_bind (wpAny_setField_rec pz (by simp) fun g1 pz1 t1 => ?_)
  replace pz1 : IsZip g1 z U O .ellipsis := pz1
  refine wpAny_bind ?_; simp only [List.zipIdx_cons, List.zipIdx_nil, List.forIn_cons, List.forIn_nil]
  refine wpAny_bind (wpAny_bind (wpAny_onRaise ?_)); show wpAny _ _ (Builtin.SmallTypes.nextOf (.ref ia) >>= _) _ _ _
  refine wpAny_bind (nextT_end hA (pa.extBut t1.extBut ap.i1z) (tupK ta t1 ap.l1z) ex fun g2 e t2 he => ?_)
  obtain ⟨oe, h1, h2⟩ := he
  have pz2 : IsZip g2 z U O .ellipsis := t2 _ _ ap.i1z.symm pz1
  have nz : e ≠ z := fun q => by subst q; rw [pz2] at h1; cases h1; simp at h2
  refine wpAny_setField_rec pz2 (by simp) fun g3 _ t3 => k g3 e (fun c o c1 c3 q => t3.extBut _ _ c1 (t2 _ _ c3 (t1.extBut _ _ c1 q))) ⟨oe, t3.extBut _ _ nz h1, h2⟩
end
end Rg
namespace Rg
open PySem PySem.Spec PyProof.Rows L2
abbrev zA (h : Heap) (la : Addr) : Heap := h.push { cls := .type "tuple_iterator", data := .fields #[.ref la, .int 0 0] }
abbrev zB (h : Heap) (la lb : Addr) : Heap := (zA h la).push { cls := .type "list_iterator", data := .fields #[.ref lb, .int 0 0] }
abbrev zC (h : Heap) (la lb : Addr) : Heap := (zB h la lb).push { cls := .type "tuple", data := .seq #[.ref h.objs.size, .ref (zA h la).objs.size] }
abbrev zD (h : Heap) (la lb : Addr) : Heap := (zC h la lb).push { cls := .type "tuple", data := .seq #[.none, .none] }
abbrev zE (h : Heap) (la lb : Addr) : Heap := (zD h la lb).push { cls := .type "zip", data := .fields #[.none, .bool false, .bool false, .ref (zB h la lb).objs.size, .ref (zC h la lb).objs.size] }
theorem zip_newTL (la lb : Addr) (xs ys : Array Value) :
    Meets (Builtin.«zip.__new__» ⟨[.type "zip", .ref la, .ref lb], []⟩) (fun _ R s => s.heap.IsTuple la xs ∧ s.heap.IsList lb ys ∧ R (.ok (.ret (.ref (zD s.heap la lb).objs.size))) { s with heap := zE s.heap la lb }) :=
  .of_wp fun prog w A R s h => by
    obtain ⟨hp, g, d, tk, os⟩ := s
    obtain ⟨ta, tb, h⟩ := h
    have hsb := sub_zip
    have tA : Heap.IsTuple (Shared.heap ⟨hp, g, d, tk, os⟩) la xs := ta
    have tB : Heap.IsList (Shared.heap ⟨hp.push { cls := .type "tuple_iterator", data := .fields #[.ref la, .int 0 0] }, g, d, tk, os⟩) lb ys := Heap.IsList.push tb _
    wp_walk using wpAny_pyIter_tuple tA, wpAny_pyIter_list tB
    exact ⟨_, rfl, h⟩
theorem call_zipTL {prog : Program} {w : World} {A : Around} {E : Value → Shared → Prop} {s : Shared} {la lb : Addr} {xs ys : Array Value} {Q : Value → Shared → Prop} (ta : s.heap.IsTuple la xs) (tb : s.heap.IsList lb ys)
    (k : ∀ g, IsZip g (s.heap.objs.size + 4) (s.heap.objs.size + 2) (s.heap.objs.size + 3) .none → IsPair g (s.heap.objs.size + 2) (.ref s.heap.objs.size) (.ref (s.heap.objs.size + 1)) → IsPair g (s.heap.objs.size + 3) .none .none → g.IsTupleIter s.heap.objs.size la 0 → g.IsListIter (s.heap.objs.size + 1) lb 0 →
      (∀ c o, s.heap.get? c = some o → g.get? c = some o) → Q (.ref (s.heap.objs.size + 4)) { s with heap := g }) : wpAny (model prog w) A (call (.type "zip") [.ref la, .ref lb]) Q E s := by
  refine callType_new F.called_zip (by decide) (F.typeCall_zip_2 _ _) (F.newCall_zip_2 _ _) (fun obj => F.args_object_init_3 obj _ _) F.entry_zip_new (zip_newTL la lb xs ys) ⟨ta, tb, ?_⟩
  have z1 : (zA s.heap la).objs.size = s.heap.objs.size + 1 := Heap.size_push ..
  have z2 : (zB s.heap la lb).objs.size = s.heap.objs.size + 2 := by rw [Heap.size_push, z1]
  have z3 : (zC s.heap la lb).objs.size = s.heap.objs.size + 3 := by rw [Heap.size_push, z2]
  have z4 : (zD s.heap la lb).objs.size = s.heap.objs.size + 4 := by rw [Heap.size_push, z3]
  have e5 : (zE s.heap la lb).get? (zD s.heap la lb).objs.size = some _ := Heap.get?_push_size _ rfl
  have e4 : (zE s.heap la lb).get? (zC s.heap la lb).objs.size = some _ := Heap.get?_push_of_some _ (Heap.get?_push_size _ rfl)
  have e3 : (zE s.heap la lb).get? (zB s.heap la lb).objs.size = some _ := Heap.get?_push_of_some _ (Heap.get?_push_of_some _ (Heap.get?_push_size _ rfl))
  have e2 : (zE s.heap la lb).get? (zA s.heap la).objs.size = some _ := Heap.get?_push_of_some _ (Heap.get?_push_of_some _ (Heap.get?_push_of_some _ (Heap.get?_push_size _ rfl)))
  have e1 : (zE s.heap la lb).get? s.heap.objs.size = some _ := Heap.get?_push_of_some _ (Heap.get?_push_of_some _ (Heap.get?_push_of_some _ (Heap.get?_push_of_some _ (Heap.get?_push_size _ rfl))))
  show _ ∧ _
  rw [z2, z3, z4] at e5
  rw [z1, z2] at e3
  rw [z3] at e4
  rw [z1] at e2
  rw [z4]
  exact ⟨⟨_, e5, rfl⟩, k _ e5 e3 e4 ⟨_, e1, rfl, rfl⟩ ⟨_, e2, rfl, rfl⟩ fun c o q => Heap.get?_push_of_some _ (Heap.get?_push_of_some _ (Heap.get?_push_of_some _ (Heap.get?_push_of_some _ (Heap.get?_push_of_some _ q))))⟩
def ItzT (K : PySem.W.Frag) (a b : Addr) : It :=
  ⟨fun i H => ∃ (xs ys : List V) (x y : V), SqT K H a xs ∧ SqL K H b ys ∧ xs[i]? = some x ∧ ys[i]? = some y,
    fun i H v H' => ∃ U x y, v = .ref U ∧ H U = none ∧ H' = upd H U (.tup [x, y]) ∧ (∀ xs, SqT K H a xs → xs[i]? = some x) ∧ ∀ ys, SqL K H b ys → ys[i]? = some y,
    fun i H => ∃ xs : List V, SqT K H a xs ∧ xs.length ≤ i⟩
theorem turn_zipTL {P : Program} {w : World} {K : PySem.W.Frag} {elts : List Expr} {kk : Nat} {tpos : Pos} {a b z U O ia ib : Addr} (ap : ZipApart z U O ia ib a b) :
    Turn P w K (.Tuple elts kk tpos) (ItzT K a b) [z, U, O, ia, ib] z (fun i h => IsZip h z U O .none ∧ IsPair h U (.ref ia) (.ref ib) ∧ (∃ x y, IsPair h O x y) ∧ h.IsTupleIter ia a i ∧ h.IsListIter ib b i) where
  mem := by simp
  obj := fun i h st c hc => by
    obtain ⟨pz, pU, ⟨x, y, pO⟩, ⟨o1, e1, _, d1⟩, ⟨o2, e2, _, d2⟩⟩ := st
    rcases (by simpa using hc : c = z ∨ c = U ∨ c = O ∨ c = ia ∨ c = ib) with q | q | q | q | q <;> rw [q]
    · exact ⟨_, pz, fun v q => nomatch q⟩
    · exact ⟨_, pU, fun v q => nomatch q⟩
    · exact ⟨_, pO, fun v q => nomatch q⟩
    · exact ⟨o1, e1, fun v q => by rw [d1] at q; cases q⟩
    · exact ⟨o2, e2, fun v q => by rw [d2] at q; cases q⟩
  keep := fun i h h' st k => by
    obtain ⟨pz, pU, ⟨x, y, pO⟩, p1, p2⟩ := st
    exact ⟨k z (by simp) _ pz, k U (by simp) _ pU, ⟨x, y, k O (by simp) _ pO⟩, p1.at fun o q => k ia (by simp) o q, p2.at fun o q => k ib (by simp) o q⟩
  item := by
    intro X hP hw hK hc i pins s σ H E I hf st hg
    subst hP hw hK
    obtain ⟨pz, pU, ⟨x0, y0, pO⟩, p1, p2⟩ := st
    obtain ⟨xs, ys, x, y, hqx, hqy, hx, hy⟩ := hg
    obtain ⟨its, rv, p, _⟩ := I.tuple hqx
    obtain ⟨its2, rv2, q2, _⟩ := I.list hqy
    obtain ⟨u, hu, ru⟩ := rv.get hx
    obtain ⟨u2, hu2, ru2⟩ := rv2.get hy
    have lz : z < s.heap.objs.size := Heap.lt_size pz
    have hT : s.TypeIs (.ref z) "zip" := ⟨_, pz, rfl⟩
    unfold pyNext
    refine wpAny_bind (wpAny_attempt (wpAny_callSpecial?_slot (name := Str.ofString "__next__") hT F.slot_zip_next (wpAny_call_entry F.slot_zip_next hT F.entry_zip_next (zipTL_item ap pz pU pO p1 p2 (show s.heap.IsTuple a its.toArray from p) q2.isList (x := u) (y := u2) (by simpa using hu) (by simpa using hu2) fun h' z' O' p1' p2' hT2 hk => wpAny_pure ?_) (F.args_zip_next_1 _))))
    refine ⟨_, rfl, wpAny_letOwnedTupleGo_zip (s := { s with heap := h' }) z' fun h'' z'' sb => ?_⟩
    have hT3 : h''.get? s.heap.objs.size = some { cls := .type "tuple", data := .seq #[u, u2] } := (sb.2 _ (Nat.ne_of_gt lz)).trans hT2
    have new : ObjOk X.prog X.w (upd H s.heap.objs.size (.tup [x, y])) h'' s.heap.objs.size (.tup [x, y]) := ⟨by show 2 ≤ sizeLine; decide, [u, u2], .cons ru (.cons ru2 .nil), ⟨_, hT3, rfl, _, rfl⟩⟩
    have I1 : Inv X pins σ (upd H s.heap.objs.size (.tup [x, y])) { s with heap := h'' } :=
      I.turnedNew (t' := s.toks) (ch := [z, U, O, ia, ib]) (fun c o hb q => (sb.2 c (fun q' => hb (by simp [q']))).trans (hk c o (fun q' => hb (by simp [q'])) (fun q' => hb (by simp [q'])) (fun q' => hb (by simp [q'])) (fun q' => hb (by simp [q'])) q)) hf (Nat.le_refl _) new
    refine ⟨.ref s.heap.objs.size, _, I1, rfl, ⟨_, x, y, rfl, I.hok.fresh (Nat.le_refl _), rfl, fun l hl => by rw [I.tuple_inj hl hqx]; exact hx, fun l hl => by rw [I.list_inj hl hqy]; exact hy⟩, ⟨z'', ?_, ⟨u, u2, ?_⟩, ?_, ?_⟩, fun c hcm => ?_⟩
    · exact (sb.2 _ ap.TIz).trans (hk _ _ ap.TIz ap.TITO ap.TIi1 ap.TIi2 pU)
    · exact (sb.2 _ ap.TOz).trans O'
    · exact p1'.at fun o q => (sb.2 _ ap.i1z).trans q
    · exact p2'.at fun o q => (sb.2 _ ap.i2z).trans q
    · have hlt : c < s.heap.objs.size := by
        rcases (by simpa using hcm : c = z ∨ c = U ∨ c = O ∨ c = ia ∨ c = ib) with q | q | q | q | q <;> rw [q]
        · exact lz
        · exact Heap.lt_size pU
        · exact Heap.lt_size pO
        · obtain ⟨_, e1, _⟩ := p1; exact Heap.lt_size e1
        · obtain ⟨_, e2, _⟩ := p2; exact Heap.lt_size e2
      rw [upd_ne (Nat.ne_of_lt hlt)]
      exact (hf c hcm).1
  done := by
    intro X hP hw hK hc i pins s σ H E I hf st hg
    subst hP hw hK
    obtain ⟨pz, pU, ⟨x0, y0, pO⟩, p1, p2⟩ := st
    obtain ⟨xs, hqx, hend⟩ := hg
    obtain ⟨its, rv, p, _⟩ := I.tuple hqx
    have l1 := rv.length
    have hT : s.TypeIs (.ref z) "zip" := ⟨_, pz, rfl⟩
    unfold pyNext
    refine wpAny_bind (wpAny_attempt (wpAny_callSpecial?_slot (name := Str.ofString "__next__") hT F.slot_zip_next (wpAny_call_entry F.slot_zip_next hT F.entry_zip_next (zipTL_end (I.ok.hd hc) ap pz pU p1 (show s.heap.IsTuple a its.toArray from p) (by simp; omega) fun h' e hk he => ?_) (F.args_zip_next_1 _))))
    obtain ⟨o, ho, hcl⟩ := he
    refine wpAny_bind (wpAny_isInstance (T := "StopIteration") (b := true) ⟨o, ho, hcl⟩ isSubtype_stop (wpAny_pure ⟨rfl, I.turnedL (t' := s.toks) (ch := [z, U, O, ia, ib]) (fun c o hb q => hk c o (fun q' => hb (by simp [q'])) (fun q' => hb (by simp [q'])) q) hf⟩))
  self := fun A i s Q E st h => wpAny_pyIter_zip st.1 h
def iZipTL (K : PySem.W.Frag) (ta : L2.TA) : TI := fun σ H R => ta σ H fun vs H1 => ∃ a b xs ys, vs = [.ref a, .ref b] ∧ SqT K H1 a xs ∧ SqL K H1 b ys ∧ R (ItzT K a b) H1
theorem pi_zipTL {X : Cx} {e e2 : Expr} {ta : L2.TA} {p pos tpos : Pos} {elts : List Expr} {kk : Nat} (hg : Gl X "zip") (hm : X.mg "zip" = none) (ha : PA X [e, e2] ta) (hs : starEach [e, e2] X.env = (false, eval e X.env) :: starEach [e2] X.env := by rfl) (hpl : (backTo pos (starEach [e2] X.env)).any (·.1) = false := by rfl) :
    PI X (.Tuple elts kk tpos) (.Call (.Name "zip" p) [e, e2] [] pos) (iZipTL X.K ta) := by
  intro pins s σ H R I h
  refine Call_ (ld_blt I hg hm boot_zip5 (PyProof.Rows.callWith_type1 (thn (ha pos pins s σ H _ I h) fun us s1 ⟨vs, H1, I1, r1, q1⟩ => ?_) hs hpl))
  obtain ⟨a, b, xs, ys, ex, hqx, hqy, q⟩ := q1
  subst ex
  obtain ⟨u, u2, rfl, r, r'⟩ := r1.two
  cases r
  cases r'
  obtain ⟨its, rv, p1, _⟩ := I1.tuple hqx
  obtain ⟨its2, rv2, p2, _⟩ := I1.list hqy
  have la : a < s1.heap.objs.size := p1.lt
  have lb : b < s1.heap.objs.size := p2.lt
  refine call_zipTL (show s1.heap.IsTuple a its.toArray from p1) p2.isList fun h' hz hTI hTO h1 h2 hk => wpAny_pyIter_zip hz ?_
  have I2 : Inv X pins σ H1 { s1 with heap := h' } := I1.kept (t' := s1.toks) hk
  refine ⟨s1.heap.objs.size + 4, [s1.heap.objs.size + 4, s1.heap.objs.size + 2, s1.heap.objs.size + 3, s1.heap.objs.size, s1.heap.objs.size + 1], _, _, H1, rfl, I2, turn_zipTL (PySem.W.ktu_apart s1.heap.objs.size a b la lb), ⟨hz, hTI, ⟨_, _, hTO⟩, h1, h2⟩, fun c hcm => ?_, q⟩
  have hle : s1.heap.objs.size ≤ c := by
    rcases (by simpa using hcm : c = s1.heap.objs.size + 4 ∨ c = s1.heap.objs.size + 2 ∨ c = s1.heap.objs.size + 3 ∨ c = s1.heap.objs.size ∨ c = s1.heap.objs.size + 1) with z | z | z | z | z <;> rw [z] <;> omega
  exact I1.fpOk hle (I1.hok.fresh hle)
theorem for_zipTL {K : PySem.W.Frag} {a b : Addr} {xs ys : List V} {g : TG} {tb : TS} {D : Ends} {σ : L2.St} {H : Hp} (Pv : Nat → L2.St → Hp → Prop) (hlen : xs.length = ys.length) (h0 : Pv 0 σ H) (hl : ∀ i σ H, i ≤ xs.length → Pv i σ H → SqT K H a xs ∧ SqL K H b ys)
    (hs : ∀ i x y σ H U, xs[i]? = some x → ys[i]? = some y → Pv i σ H → H U = none → g (.ref U) σ (upd H U (.tup [x, y])) fun σ2 H2 => tb { D with nx := Pv (i + 1), ct := Pv (i + 1), bk := D.nx } σ2 H2) (hd : ∀ σ H, Pv xs.length σ H → D.nx σ H) :
    ∃ W : Nat → Nat → L2.St → Hp → Prop, (∃ m, W 0 m σ H) ∧ ∀ i m σ H, W i m σ H →
      ((ItzT K a b).stop i H ∧ D.nx σ H) ∨ ((ItzT K a b).go i H ∧ ∃ N : L2.St → Hp → Prop, (∀ σ' H', N σ' H' → ∃ m', m' < m ∧ W (i + 1) m' σ' H') ∧ ∀ x H', (ItzT K a b).yld i H x H' → g x σ H' fun σ2 H2 => tb { D with nx := N, ct := N, bk := D.nx } σ2 H2) := by
  refine ⟨fun i m σ H => m = xs.length - i ∧ i ≤ xs.length ∧ Pv i σ H, ⟨xs.length, by simp, Nat.zero_le _, h0⟩, ?_⟩
  rintro i m σ H ⟨rfl, hi, p⟩
  obtain ⟨q1, q2⟩ := hl i σ H hi p
  by_cases hlt : i < xs.length
  · refine .inr ⟨⟨xs, ys, xs[i], ys[i]'(by omega), q1, q2, by simp [hlt], List.getElem?_eq_getElem (by omega)⟩, Pv (i + 1), fun σ' H' p' => ⟨xs.length - (i + 1), by omega, rfl, hlt, p'⟩, fun x H' y => ?_⟩
    obtain ⟨U, x1, y1, rfl, hU, rfl, hz, hz2⟩ := y
    exact hs i x1 y1 σ _ U (hz xs q1) (hz2 ys q2) p hU
  · have e : i = xs.length := by omega
    subst e
    exact .inl ⟨⟨xs, q1, Nat.le_refl _⟩, hd σ H p⟩
end Rg
namespace Rg
open PySem PySem.Spec PyProof.Rows L2
open Mi (T W R All2)
open Km485 (count without)
section
variable {P : Program} {w : World} {K : PySem.W.Frag} {mg : Str → Option Value} {base : Heap} {Z : Adr}
def spSize : Sp := fun vs H Q _ => ∃ s : Nat, vs = [.int s] ∧ ∀ H', Same H H' → Q (.int (count s : Nat)) H'
def sel (s k : Nat) : List V := ((List.range k).filter fun i => s.testBit i).map fun i => V.int ((2 ^ i : Nat) : Int)
theorem sel_succ (s k : Nat) : sel s (k + 1) = if s.testBit k = true then sel s k ++ [V.int ((2 ^ k : Nat) : Int)] else sel s k := by
  unfold sel
  rw [List.range_succ, List.filter_append]
  by_cases h : s.testBit k = true
  · rw [if_pos h]; simp [h]
  · rw [if_neg h]; simp [h]
theorem sel_len (s k : Nat) : (sel s k).length ≤ k := by
  unfold sel
  rw [List.length_map]
  exact Nat.le_trans (List.length_filter_le _ _) (by simp)
theorem iteB {c : Bool} {A B : Prop} (h1 : c = true → A) (h2 : c = false → B) : if c = true then A else B := by
  cases c with
  | true => rw [if_pos rfl]; exact h1 rfl
  | false => rw [if_neg (by decide)]; exact h2 rfl
theorem small6 {n : Nat} (h : n ≤ 6) : n < sizeLine := Nat.lt_of_le_of_lt h (by decide)
theorem ok_size (T : Tx K mg Z) : Good P w K mg base 1 (Z.f 0) ["together"] (spSize) := by
  refine T.d_size.good sc_size (fun vs H Q E h => ?_) (fun cdv Ar outer s H vs Q E hr h => ?_)
  · obtain ⟨n, rfl, _⟩ := h
    rfl
  · obtain ⟨n, rfl, k⟩ := h
    refine ⟨_, (pss_one (ps_ret (pe_callB call_len_seq (by rfl) T.b_len boot_len (pa_cons (pe_lc (own := [("bit", 1)]) rfl sc_size.nd (pi_tup (pg_ref rfl T.g_BITS)) (blkOk_by (by kernel_rfl)) (fun _ _ _ _ _ => pg_name (i := 1) sc_size.nd rfl (Or.inl rfl)) (fun _ _ _ _ _ => pts_one (pt_tr (pe_op op_and (pv 0) (pv 1)))) (fun _ _ _ _ _ => (pv 1))) pa_nil)))), ?_⟩
    refine ⟨Z.bits, rfl, ⟨_, T.bits.sq _⟩, fun D hD => ?_⟩
    refine lc_tup (K := K) (a := Z.bits) (xs := bitsV) (fun i H' => H' = upd H D (.lst (sel n i))) rfl (fun i H' _ _ => T.bits.sq _) ?_ ?_
    · rintro i x H' hx rfl
      have hi : i < 6 := (List.getElem?_eq_some_iff.mp hx).1
      have ex : V.int ((2 ^ i : Nat) : Int) = x := Option.some.inj ((bits_at i hi).symm.trans hx)
      subst ex
      refine ⟨rfl, _, rfl, _, rfl, _, _, rfl, rfl, _, rfl, ?_⟩
      refine iteB (fun h => ?_) fun h => ?_
      · rw [tr_bit] at h
        refine ⟨_, rfl, _, upd_same, small6 (Nat.le_trans (sel_len n i) (by omega)), ?_⟩
        rw [sel_succ, if_pos h, upd_upd]
      · rw [tr_bit] at h
        rw [sel_succ, if_neg (by rw [h]; decide)]
    · rintro H' rfl
      refine ⟨D, _, rfl, .inl (SqL.of upd_same), ?_⟩
      have : (sel n bitsV.length).length = count n := by
        unfold sel
        rw [List.length_map]
        rfl
      rw [this]
      exact k _ (same_upd hD)
def spConcluded (Z : Adr) : Sp := fun vs H Q _ => ∃ A t, vs = [.ref A.o] ∧ TAt Z.cT H A t ∧ Q (.bl (decide (0 < t.turn))) H
theorem dec_pos (n : Nat) : decide ((0 : Int) < ((n : Nat) : Int)) = decide (0 < n) := by
  rw [decide_eq_decide]
  omega
theorem ok_T_concluded (T : Tx K mg Z) : Good P w K mg base 1 (Z.f 3) ["self"] (spConcluded Z) := by
  refine T.d_T_concluded.good sc_T_concluded (fun vs H Q E h => ?_) (fun cdv Ar outer s H vs Q E hr h => ?_)
  · obtain ⟨A, t, rfl, _⟩ := h
    rfl
  · obtain ⟨A, t, rfl, hT, k⟩ := h
    refine ⟨_, (pss_one (ps_ret (pe_cmpR op_gt (pv_fld (Y := vT Z) T.clT T.nT_turn (fun a b => tf_turn a b) (pv 0)) pe_int (nomark _)))), ?_⟩
    refine ⟨_, rfl, A, t, rfl, hT, _, _, rfl, rfl, ?_⟩
    rw [← dec_pos] at k
    exact k
def spIsMember (Z : Adr) : Sp := fun vs H Q _ => ∃ A t, ∃ i : Nat, vs = [.ref A.o, .int i] ∧ TAt Z.cT H A t ∧ i < 6 ∧ Q (.bl (t.mem.testBit i)) H
theorem ok_T_is_member (T : Tx K mg Z) : Good P w K mg base 1 (Z.f 10) ["self", "i"] (spIsMember Z) := by
  refine T.d_T_is_member.good sc_T_is_member (fun vs H Q E h => ?_) (fun cdv Ar outer s H vs Q E hr h => ?_)
  · obtain ⟨A, t, i, rfl, _⟩ := h
    rfl
  · obtain ⟨A, t, i, rfl, hT, hi, k⟩ := h
    refine ⟨_, (pss_one (ps_ret (pe_cmpR op_ne (pe_op op_and (pv_fld (Y := vT Z) T.clT T.nT_members (fun a b => tf_members a b) (pv 0)) (pg_bit rfl T.g_BITS T.bits (pv 1))) pe_int (nomark _)))), ?_⟩
    refine ⟨_, rfl, A, t, rfl, hT, _, rfl, i, rfl, hi, _, _, rfl, rfl, rfl, ?_⟩
    rw [ne_bit]
    exact k
def spHasReserved (Z : Adr) : Sp := fun vs H Q _ => ∃ A t, ∃ i a : Nat, vs = [.ref A.o, .int i, .int a] ∧ TAt Z.cT H A t ∧ t.res.length = 6 ∧ i < 6 ∧ a < 6 ∧ Q (.bl ((t.rsv i).testBit a)) H
theorem ok_T_has_reserved (T : Tx K mg Z) : Good P w K mg base 1 (Z.f 11) ["self", "i", "a"] (spHasReserved Z) := by
  refine T.d_T_has_reserved.good sc_T_has_reserved (fun vs H Q E h => ?_) (fun cdv Ar outer s H vs Q E hr h => ?_)
  · obtain ⟨A, t, i, a, rfl, _⟩ := h
    rfl
  · obtain ⟨A, t, i, a, rfl, hT, hl, hi, ha, k⟩ := h
    refine ⟨_, (pss_one (ps_ret (pe_cmpR op_ne (pe_op op_and (pe_ix ix_list (pv_fld (Y := vT Z) T.clT T.nT_reserved (fun a b => tf_reserved a b) (pv 0)) (pv 1) (fun _ _ => rfl)) (pg_bit rfl T.g_BITS T.bits (pv 2))) pe_int (nomark _)))), ?_⟩
    refine ⟨_, rfl, A, t, rfl, hT, _, rfl, _, _, _, _, rfl, rfl, SqL.of hT.re, atI_nat (nv_at (by omega)), _, rfl, a, rfl, ha, _, _, rfl, rfl, rfl, ?_⟩
    rw [ne_bit]
    exact k
def spObjects (Z : Adr) : Sp := fun vs H Q _ => ∃ A t, ∃ j i : Nat, vs = [.ref A.o, .int j, .int i] ∧ TAt Z.cT H A t ∧ t.obj.length = 6 ∧ j < 6 ∧ i < 6 ∧ Q (.bl ((t.row j).testBit i)) H
theorem ok_T_objects (T : Tx K mg Z) : Good P w K mg base 1 (Z.f 12) ["self", "j", "i"] (spObjects Z) := by
  refine T.d_T_objects.good sc_T_objects (fun vs H Q E h => ?_) (fun cdv Ar outer s H vs Q E hr h => ?_)
  · obtain ⟨A, t, j, i, rfl, _⟩ := h
    rfl
  · obtain ⟨A, t, j, i, rfl, hT, hl, hj, hi, k⟩ := h
    refine ⟨_, (pss_one (ps_ret (pe_cmpR op_ne (pe_op op_and (pe_ix ix_list (pv_fld (Y := vT Z) T.clT T.nT_objected (fun a b => tf_objected a b) (pv 0)) (pv 1) (fun _ _ => rfl)) (pg_bit rfl T.g_BITS T.bits (pv 2))) pe_int (nomark _)))), ?_⟩
    refine ⟨_, rfl, A, t, rfl, hT, _, rfl, _, _, _, _, rfl, rfl, SqL.of hT.ob, atI_nat (nv_at (by omega)), _, rfl, i, rfl, hi, _, _, rfl, rfl, rfl, ?_⟩
    rw [ne_bit]
    exact k
end
end Rg
namespace Rg
open PySem PySem.Spec PyProof.Rows L2
open Mi (T W R All2 gath)
open Km485 (count without again_)
section
variable {P : Program} {w : World} {K : PySem.W.Frag} {mg : Str → Option Value} {base : Heap} {Z : Adr}
theorem off_of {t : T} {H : Hp} {vs : List V} (h : All2 (OV H) vs t.offs) {i : Nat} {x : V} (hx : vs[i]? = some x) : OV H x (t.off i) := by
  obtain ⟨o, h1, h2⟩ := h.get hx
  have : t.off i = o := by unfold T.off; rw [List.getD_eq_getElem?_getD, h1]; rfl
  rw [this]
  exact h2
theorem ov_dec {H : Hp} {x : V} {o : Option (Nat × Nat)} (h : OV H x o) : (!decide (x = V.non)) = o.isSome := by
  cases o with
  | none =>
    have h : x = .non := h
    subst h
    decide
  | some p =>
    obtain ⟨a, rfl, _⟩ := h
    rw [decide_eq_false (fun z => by cases z)]
    rfl
def spOffered (Z : Adr) : Sp := fun vs H Q _ => ∃ A t, vs = [.ref A.o] ∧ TAt Z.cT H A t ∧ t.offs.length = 6 ∧ ∀ H', Same H H' → Q (.int (t.offd : Nat)) H'
theorem ok_T_offered (T : Tx K mg Z) : Good P w K mg base 1 (Z.f 4) ["self"] (spOffered Z) := by
  refine T.d_T_offered.good sc_T_offered (fun vs H Q E h => ?_) (fun cdv Ar outer s H vs Q E hr h => ?_)
  · obtain ⟨A, t, rfl, _⟩ := h
    rfl
  · obtain ⟨A, t, rfl, hT, hl, k⟩ := h
    refine ⟨_, (pss_cons (ps_set (i := 1) sc_T_offered.nd rfl (Or.inl rfl) pe_int) (pss_cons (ps_for PassesOwn.never rfl (pi_enum rfl T.b_enumerate (pa_cons (pv_fld (Y := vT Z) T.clT T.nT_offers (fun a b => tf_offers a b) (pv 0)) pa_nil)) (pg_tup rfl (pgs_cons (pg_name (i := 2) sc_T_offered.nd rfl (Or.inl rfl)) (pgs_cons (pg_name (i := 3) sc_T_offered.nd rfl (Or.inl rfl)) pgs_nil))) (pss_one (ps_if (pt_cmp (pc_notN (pv 3))) (pss_one (ps_aug (i := 1) sc_T_offered.nd rfl (Or.inl rfl) (pg_bit rfl T.g_BITS T.bits (pv 2)) iop_or)) pss_nil))) (pss_one (ps_ret (pv 1))))), ?_⟩
    obtain ⟨vs, hof, hov⟩ := hT.of
    have hvl : vs.length = 6 := by rw [hov.len]; exact hl
    refine ⟨_, rfl, A, t, rfl, hT, A.of, vs, rfl, SqL.of hof, ?_⟩
    refine for_enum (K := K) (a := A.of) (xs := vs) (fun i σ H' => ∃ v2 v3, σ = [some (.ref A.o), some (.int (gath (fun i => (t.off i).isSome) i : Nat)), v2, v3] ∧ Same H H')
      ⟨none, none, rfl, Same.refl _⟩ (fun i σ H' _ ⟨_, _, _, s1⟩ => SqL.of (s1 _ _ hof)) ?_ ?_
    · rintro i x σ H' U hx ⟨v2, v3, rfl, s1⟩ hU
      have hi : i < 6 := by rw [← hvl]; exact (List.getElem?_eq_some_iff.mp hx).1
      refine ⟨U, _, rfl, SqT.of upd_same, rfl, _, _, rfl, _, _, rfl, rfl, ?_⟩
      refine ⟨_, rfl, _, rfl, iteB (fun h => ?_) fun h => ?_⟩
      · rw [ov_dec (off_of hov hx)] at h
        refine ⟨_, rfl, _, rfl, i, rfl, hi, _, _, rfl, rfl, some (.int (i : Nat)), some x, ?_, s1.trans (same_upd hU)⟩
        show [_, some (V.int (Builtin.bitOr _ _)), _, _] = _
        rw [bitOr_nat, gath, if_pos h]
      · rw [ov_dec (off_of hov hx)] at h
        refine ⟨some (.int (i : Nat)), some x, ?_, s1.trans (same_upd hU)⟩
        rw [gath, if_neg (by rw [h]; decide)]
        rfl
    · rintro σ H' ⟨v2, v3, rfl, s1⟩
      rw [hvl]
      exact ⟨_, rfl, k H' s1⟩
def spHolds (Z : Adr) : Sp := fun vs H Q _ => ∃ A t, ∃ i s f : Nat, vs = [.ref A.o, .int i, .int s, .int f] ∧ TAt Z.cT H A t ∧ t.offs.length = 6 ∧ i < 6 ∧ (t.off i).isSome = true ∧ ∀ H', Same H H' → Q (.bl (t.holds i s f)) H'
theorem pair0 (p : Nat × Nat) : atI (pr p) 0 = some (V.int (p.1 : Nat)) := rfl
theorem pair1 (p : Nat × Nat) : atI (pr p) 1 = some (V.int (p.2 : Nat)) := rfl
theorem dec_ge (c k : Nat) : decide (((k : Nat) : Int) ≤ ((c : Nat) : Int) - 1) = decide (k + 1 ≤ c) := by
  rw [decide_eq_decide]
  omega
theorem eq_and (m s : Nat) : decide (V.int (Builtin.bitAnd ((m : Nat) : Int) ((s : Nat) : Int)) = V.int ((m : Nat) : Int)) = (m &&& s == m) := by
  rw [bitAnd_nat]
  by_cases h : m &&& s = m
  · rw [h]; simp
  · have : ¬ (((m &&& s : Nat) : Int) = ((m : Nat) : Int)) := by omega
    rw [decide_eq_false (fun q => this (V.int.inj q)), beq_false_of_ne h]
theorem ok_T_holds (T : Tx K mg Z) : Good P w K mg base 2 (Z.f 5) ["self", "i", "together", "free"] (spHolds Z) := by
  refine T.d_T_holds.good sc_T_holds (fun vs H Q E h => ?_) (fun cdv Ar outer s H vs Q E hr h => ?_)
  · obtain ⟨A, t, i, n, f, rfl, _⟩ := h
    rfl
  · obtain ⟨A, t, i, n, f, rfl, hT, hl, hi, ho, k⟩ := h
    refine ⟨_, (pss_cons (ps_if (pt_tr (pe_op op_and (pv 3) (pg_bit rfl T.g_BITS T.bits (pv 1)))) (pss_one (ps_ret pe_bl)) pss_nil) (pss_cons (ps_set (i := 4) sc_T_holds.nd rfl (Or.inl rfl) (pe_ix ix_tup (pe_ix ix_list (pv_fld (Y := vT Z) T.clT T.nT_offers (fun a b => tf_offers a b) (pv 0)) (pv 1) (fun _ _ => rfl)) pe_int (fun _ _ => rfl))) (pss_cons (ps_set (i := 5) sc_T_holds.nd rfl (Or.inl rfl) (pe_ix ix_tup (pe_ix ix_list (pv_fld (Y := vT Z) T.clT T.nT_offers (fun a b => tf_offers a b) (pv 0)) (pv 1) (fun _ _ => rfl)) pe_int (fun _ _ => rfl))) (pss_one (ps_ret (pe_and (pe_cmpR op_ge (pe_op op_sub (pg_call (ok_size (P := P) (w := w) (base := base) T) (hr.mono (by decide)) rfl T.g_size (pa_cons (pv 2) pa_nil)) pe_int) (pv 4) (nomark _)) (pe_one (pe_cmpR op_eq (pe_op op_and (pv 5) (pv 2)) (pv 5) (nomark _))))))))), ?_⟩
    refine ⟨_, rfl, _, rfl, i, rfl, hi, _, _, rfl, rfl, _, rfl, iteB (fun h => ?_) fun h => ?_⟩
    · rw [tr_bit] at h
      have e : t.holds i n f = true := by unfold Mi.T.holds; rw [if_pos h]
      rw [e] at k
      exact k H (Same.refl _)
    · rw [tr_bit] at h
      obtain ⟨vs, hof, hov⟩ := hT.of
      have hvl : vs.length = 6 := by rw [hov.len]; exact hl
      have hx : vs[i]? = some (vs[i]'(by omega)) := List.getElem?_eq_getElem (by omega)
      have hv := off_of hov hx
      cases q : t.off i with
      | none => rw [q] at ho; cases ho
      | some p =>
        rw [q] at hv
        obtain ⟨a, ea, ha⟩ := hv
        rw [ea] at hx
        have e : t.holds i n f = (decide (p.1 + 1 ≤ count n) && (p.2 &&& n == p.2)) := by unfold Mi.T.holds; rw [if_neg (by rw [h]; decide), q]
        rw [e] at k
        refine ⟨_, rfl, A, t, rfl, hT, _, rfl, _, _, _, _, rfl, rfl, SqL.of hof, atI_nat hx, _, _, _, _, rfl, rfl, SqT.of ha, pair0 p, ?_⟩
        refine ⟨_, rfl, A, t, rfl, hT, _, rfl, _, _, _, _, rfl, rfl, SqL.of hof, atI_nat hx, _, _, _, _, rfl, rfl, SqT.of ha, pair1 p, ?_⟩
        refine ⟨_, rfl, n, rfl, fun H1 s1 => ?_⟩
        refine ⟨_, _, rfl, rfl, _, rfl, _, _, rfl, rfl, _, rfl, iteB (fun h1 => ?_) fun h1 => ?_⟩
        · rw [dec_ge] at h1
          refine ⟨_, rfl, _, rfl, _, _, rfl, rfl, _, rfl, rfl, ?_⟩
          rw [h1, Bool.true_and, ← eq_and] at k
          exact k H1 s1
        · rw [dec_ge] at h1
          rw [h1, Bool.false_and] at k
          exact k H1 s1
def spHolding (Z : Adr) : Sp := fun vs H Q _ => ∃ A t, ∃ s f : Nat, vs = [.ref A.o, .int s, .int f] ∧ TAt Z.cT H A t ∧ t.offs.length = 6 ∧ (∀ i, i < 6 → s.testBit i = true → (t.off i).isSome = true) ∧ ∀ H', Same H H' → Q (.int (t.holding s f : Nat)) H'
theorem ok_T_holding (T : Tx K mg Z) : Good P w K mg base 3 (Z.f 6) ["self", "together", "free"] (spHolding Z) := by
  refine T.d_T_holding.good sc_T_holding (fun vs H Q E h => ?_) (fun cdv Ar outer s H vs Q E hr h => ?_)
  · obtain ⟨A, t, n, f, rfl, _⟩ := h
    rfl
  · obtain ⟨A, t, n, f, rfl, hT, hl, hsub, k⟩ := h
    refine ⟨_, (pss_cons (ps_set (i := 3) sc_T_holding.nd rfl (Or.inl rfl) pe_int) (pss_cons (ps_for PassesOwn.never rfl (pi_enumT rfl T.b_enumerate (pa_cons (pg_ref rfl T.g_BITS) pa_nil)) (pg_tup rfl (pgs_cons (pg_name (i := 4) sc_T_holding.nd rfl (Or.inl rfl)) (pgs_cons (pg_name (i := 5) sc_T_holding.nd rfl (Or.inl rfl)) pgs_nil))) (pss_one (ps_if (PW.pt (pw_and (pt_tr (pe_op op_and (pv 1) (pv 5))) (pw_and1 (pt_tr (pv_meth (Y := vT Z) (pv 0) T.clT T.m_T_holds (fun a b => no_T a b (by decide +kernel)) (ok_T_holds (P := P) (w := w) (base := base) T) (hr.mono (by decide)) (pa_cons (pv 4) (pa_cons (pv 1) (pa_cons (pv 2) pa_nil)))))))) (pss_one (ps_aug (i := 3) sc_T_holding.nd rfl (Or.inl rfl) (pv 5) iop_or)) pss_nil))) (pss_one (ps_ret (pv 3))))), ?_⟩
    refine ⟨_, _, rfl, T.bits.sq _, ?_⟩
    refine for_enumT (K := K) (a := Z.bits) (xs := bitsV) (fun i σ H' => ∃ v4 v5, σ = [some (.ref A.o), some (.int (n : Nat)), some (.int (f : Nat)), some (.int (gath (fun i => n.testBit i && t.holds i n f) i : Nat)), v4, v5] ∧ Same H H')
      ⟨none, none, rfl, Same.refl _⟩ (fun i σ H' _ _ => T.bits.sq _) ?_ ?_
    · rintro i x σ H' U hx ⟨v2, v3, rfl, s1⟩ hU
      have hi : i < 6 := (List.getElem?_eq_some_iff.mp hx).1
      have ex : V.int ((2 ^ i : Nat) : Int) = x := Option.some.inj ((bits_at i hi).symm.trans hx)
      subst ex
      have s2 := s1.trans (same_upd (o := .tup [.int (i : Nat), V.int ((2 ^ i : Nat) : Int)]) hU)
      refine ⟨U, _, rfl, SqT.of upd_same, rfl, _, _, rfl, _, _, rfl, rfl, ?_⟩
      refine ⟨_, rfl, _, rfl, _, _, rfl, rfl, _, rfl, iteB (fun h => ?_) fun h => ?_⟩
      · rw [tr_bit] at h
        refine ⟨_, rfl, A, t, rfl, hT.mono s2, _, rfl, _, rfl, _, rfl, A, t, i, n, f, rfl, hT.mono s2, hl, hi, hsub i hi h, fun H3 s3 => ?_⟩
        refine ⟨_, rfl, iteB (fun h1 => ?_) fun h1 => ?_⟩
        · refine ⟨_, rfl, _, rfl, _, _, rfl, rfl, some (.int (i : Nat)), some (.int ((2 ^ i : Nat) : Int)), ?_, s2.trans s3⟩
          show [_, _, _, some (V.int (Builtin.bitOr _ _)), _, _] = _
          rw [bitOr_nat, gath, if_pos (by rw [h, h1]; rfl)]
        · refine ⟨some (.int (i : Nat)), some (.int ((2 ^ i : Nat) : Int)), ?_, s2.trans s3⟩
          rw [gath, if_neg (by rw [h, h1]; decide)]
          rfl
      · rw [tr_bit] at h
        refine iteF ⟨some (.int (i : Nat)), some (.int ((2 ^ i : Nat) : Int)), ?_, s2⟩
        rw [gath, if_neg (by rw [h]; simp)]
        rfl
    · rintro σ H' ⟨v2, v3, rfl, s1⟩
      exact ⟨_, rfl, k H' s1⟩
end
end Rg
namespace Rg
open PySem PySem.Spec PyProof.Rows L2
open Mi (T W R All2 gath)
open Km485 (count without again_)
section
variable {P : Program} {w : World} {K : PySem.W.Frag} {mg : Str → Option Value} {base : Heap} {Z : Adr}
theorem off_sub {t : T} {s : Nat} (h : ∀ i, s.testBit i = true → t.offd.testBit i = true) : ∀ i, i < 6 → s.testBit i = true → (t.off i).isSome = true := fun i hi hb => by
  have := h i hb
  rw [Mi.T.offd, Mi.gath_bit] at this
  simp [hi] at this
  exact this
def spJoiners (Z : Adr) : Sp := fun vs H Q _ => ∃ A t, ∃ f : Nat, vs = [.ref A.o, .int f] ∧ TAt Z.cT H A t ∧ t.offs.length = 6 ∧ ∀ H', Same H H' → Q (.int (t.joiners f : Nat)) H'
theorem ne_int (a b : Nat) : (!decide (V.int ((a : Nat) : Int) = V.int ((b : Nat) : Int))) = !(a == b) := by
  by_cases h : a = b
  · subst h; simp
  · have : ¬ (((a : Nat) : Int) = ((b : Nat) : Int)) := by omega
    rw [decide_eq_false (fun q => this (V.int.inj q)), beq_false_of_ne h]
def valN : Option (Option V) → Nat
  | some (some (.int i)) => i.toNat
  | _ => 0
theorem ok_T_joiners (T : Tx K mg Z) : Good P w K mg base 4 (Z.f 7) ["self", "free"] (spJoiners Z) := by
  refine T.d_T_joiners.good sc_T_joiners (fun vs H Q E h => ?_) (fun cdv Ar outer s H vs Q E hr h => ?_)
  · obtain ⟨A, t, f, rfl, _⟩ := h
    rfl
  · obtain ⟨A, t, f, rfl, hT, hl, k⟩ := h
    refine ⟨_, (pss_cons (ps_set (i := 2) sc_T_joiners.nd rfl (Or.inl rfl) (pv_meth0 (Y := vT Z) (pv 0) T.clT T.m_T_offered (fun a b => no_T a b (by decide +kernel)) (ok_T_offered (P := P) (w := w) (base := base) T) (hr.mono (by decide)))) (pss_cons (ps_set (i := 3) sc_T_joiners.nd rfl (Or.inl rfl) (pv_meth (Y := vT Z) (pv 0) T.clT T.m_T_holding (fun a b => no_T a b (by decide +kernel)) (ok_T_holding (P := P) (w := w) (base := base) T) (hr.mono (by decide)) (pa_cons (pv 2) (pa_cons (pv 1) pa_nil)))) (pss_cons (ps_while PassesOwn.never (pt_cmpR op_ne (pv 3) (pv 2) (nomark _)) (pss_cons (ps_set (i := 2) sc_T_joiners.nd rfl (Or.inl rfl) (pv 3)) (pss_one (ps_set (i := 3) sc_T_joiners.nd rfl (Or.inl rfl) (pv_meth (Y := vT Z) (pv 0) T.clT T.m_T_holding (fun a b => no_T a b (by decide +kernel)) (ok_T_holding (P := P) (w := w) (base := base) T) (hr.mono (by decide)) (pa_cons (pv 2) (pa_cons (pv 1) pa_nil))))))) (pss_one (ps_ret (pv 2)))))), ?_⟩
    refine ⟨_, rfl, A, t, rfl, hT, A, t, rfl, hT, hl, fun H1 s1 => ?_⟩
    have hT1 := hT.mono s1
    refine ⟨_, rfl, A, t, rfl, hT1, _, rfl, _, rfl, A, t, _, f, rfl, hT1, hl, off_sub (fun i h => h), fun H2 s2 => ?_⟩
    have s12 := s1.trans s2
    refine while_by (fun σ H' => ∃ (n : Nat) (u : Nat), u = again_ (fun s => t.holding s f) n t.offd ∧ σ = [some (.ref A.o), some (.int (f : Nat)), some (.int (u : Nat)), some (.int (t.holding u f : Nat))] ∧ Same H H') (fun σ H' => valN σ[2]?) ⟨0, t.offd, rfl, rfl, s12⟩ ?_ ?_
    · rintro σ H' ⟨n, u, hu, rfl, s3⟩
      have hu64 : u < 64 := by rw [hu]; exact (t.less f).iter_lt t.offd_lt n
      refine ⟨_, rfl, _, rfl, rfl, _, rfl, iteB (fun h => ?_) fun h => ?_⟩
      · rw [ne_int] at h
        have hne : t.holding u f ≠ u := fun z => by rw [z] at h; simp at h
        have hlt := Mi.lt_of_sub hu64 (Mi.sub_lt64 (t := t) (s := u) (f := f)) (fun i hi => (t.less f).sub u i hi) hne
        have hsub : ∀ i, (t.holding u f).testBit i = true → t.offd.testBit i = true := fun i hi => by
          have hb : ∀ m j, (again_ (fun s => t.holding s f) m t.offd).testBit j = true → t.offd.testBit j = true := by
            intro m
            induction m with
            | zero => exact fun j hj => hj
            | succ m ih =>
              intro j hj
              rw [Mi.again_succ] at hj
              exact ih j ((t.less f).sub _ j hj)
          refine hb n i ?_
          rw [← hu]
          exact (t.less f).sub u i hi
        have hT3 := hT.mono s3
        refine ⟨_, rfl, _, rfl, A, t, rfl, hT3, _, rfl, _, rfl, A, t, _, f, rfl, hT3, hl, off_sub hsub, fun H4 s4 => ?_⟩
        refine ⟨⟨n + 1, t.holding u f, ?_, rfl, s3.trans s4⟩, ?_⟩
        · rw [Mi.again_succ, ← hu]
        · show ((t.holding u f : Nat) : Int).toNat < ((u : Nat) : Int).toNat
          rw [Int.toNat_natCast, Int.toNat_natCast]
          exact hlt
      · rw [ne_int] at h
        have he : t.holding u f = u := by simpa using h
        have e := (t.less f).stop t.offd_lt hu he
        refine ⟨_, rfl, ?_⟩
        have e2 : u = t.joiners f := e
        rw [e2]
        exact k H' s3
    · rintro σ H' Q1 Q2 hq ⟨a, ha, b, hb, hc, d, hd, h⟩
      exact ⟨a, ha, b, hb, hc, d, hd, hq _ _ h⟩
def spEnough (Z : Adr) : Sp := fun vs H Q _ => ∃ A t, ∃ f : Nat, vs = [.ref A.o, .int f] ∧ TAt Z.cT H A t ∧ t.offs.length = 6 ∧ ∀ H', Same H H' → Q (.bl (t.enough f)) H'
theorem dec_le (a b : Nat) : decide (((a : Nat) : Int) ≤ ((b : Nat) : Int)) = decide (a ≤ b) := by
  rw [decide_eq_decide]
  omega
theorem dec_lt (a b : Nat) : decide (((a : Nat) : Int) < ((b : Nat) : Int)) = decide (a < b) := by
  rw [decide_eq_decide]
  omega
theorem ok_T_enough_join (T : Tx K mg Z) : Good P w K mg base 5 (Z.f 8) ["self", "free"] (spEnough Z) := by
  refine T.d_T_enough_join.good sc_T_enough_join (fun vs H Q E h => ?_) (fun cdv Ar outer s H vs Q E hr h => ?_)
  · obtain ⟨A, t, f, rfl, _⟩ := h
    rfl
  · obtain ⟨A, t, f, rfl, hT, hl, k⟩ := h
    refine ⟨_, (pss_one (ps_ret (pe_cmpR op_ge (pg_call (ok_size (P := P) (w := w) (base := base) T) (hr.mono (by decide)) rfl T.g_size (pa_cons (pv_meth (Y := vT Z) (pv 0) T.clT T.m_T_joiners (fun a b => no_T a b (by decide +kernel)) (ok_T_joiners (P := P) (w := w) (base := base) T) (hr.mono (by decide)) (pa_cons (pv 1) pa_nil)) pa_nil)) (pv_fld (Y := vT Z) T.clT T.nT_need (fun a b => tf_need a b) (pv 0)) (nomark _)))), ?_⟩
    refine ⟨_, rfl, A, t, rfl, hT, _, rfl, A, t, f, rfl, hT, hl, fun H1 s1 => ?_⟩
    refine ⟨_, rfl, fun H2 s2 => ?_⟩
    have s12 := s1.trans s2
    refine ⟨_, rfl, A, t, rfl, hT.mono s12, _, _, rfl, rfl, ?_⟩
    have k := k H2 s12
    unfold Mi.T.enough at k
    rw [← dec_le] at k
    exact k
def spFirst (Z : Adr) : Sp := fun vs H Q _ => ∃ A t, vs = [.ref A.o] ∧ TAt Z.cT H A t ∧ t.offs.length = 6 ∧ ∀ H', Same H H' → Q (.int (t.first : Nat)) H'
theorem ok_T_first (T : Tx K mg Z) : Good P w K mg base 6 (Z.f 9) ["self"] (spFirst Z) := by
  refine T.d_T_first.good sc_T_first (fun vs H Q E h => ?_) (fun cdv Ar outer s H vs Q E hr h => ?_)
  · obtain ⟨A, t, rfl, _⟩ := h
    rfl
  · obtain ⟨A, t, rfl, hT, hl, k⟩ := h
    refine ⟨_, (pss_cons (ps_set (i := 1) sc_T_first.nd rfl (Or.inl rfl) (pv_meth0 (Y := vT Z) (pv 0) T.clT T.m_T_offered (fun a b => no_T a b (by decide +kernel)) (ok_T_offered (P := P) (w := w) (base := base) T) (hr.mono (by decide)))) (pss_cons (ps_set (i := 2) sc_T_first.nd rfl (Or.inl rfl) (pv 1)) (pss_cons (ps_for PassesOwn.never rfl (pi_range1 rfl T.b_range (pa_cons (pv 1) pa_nil)) (pg_name (i := 3) sc_T_first.nd rfl (Or.inl rfl)) (pss_one (ps_if (PW.pt (pw_and (pt_cmpR op_eq (pe_op op_and (pv 3) (pv 1)) (pv 3) (nomark _)) (pw_and (pt_cmpR op_lt (pg_call (ok_size (P := P) (w := w) (base := base) T) (hr.mono (by decide)) rfl T.g_size (pa_cons (pv 3) pa_nil)) (pg_call (ok_size (P := P) (w := w) (base := base) T) (hr.mono (by decide)) rfl T.g_size (pa_cons (pv 2) pa_nil)) (nomark _)) (pw_and1 (pt_tr (pv_meth (Y := vT Z) (pv 0) T.clT T.m_T_enough_join (fun a b => no_T a b (by decide +kernel)) (ok_T_enough_join (P := P) (w := w) (base := base) T) (hr.mono (by decide)) (pa_cons (pv 3) pa_nil))))))) (pss_one (ps_set (i := 2) sc_T_first.nd rfl (Or.inl rfl) (pv 3))) pss_nil))) (pss_one (ps_ret (pv 2)))))), ?_⟩
    refine ⟨_, rfl, A, t, rfl, hT, A, t, rfl, hT, hl, fun H1 s1 => ?_⟩
    have h64 := t.offd_lt
    refine ⟨_, rfl, _, rfl, _, rfl, by omega, by omega, ?_⟩
    refine for_range (lo := 0) (n := ((t.offd : Nat) : Int).toNat) (fun i σ H' => ∃ v, σ = [some (.ref A.o), some (.int (t.offd : Nat)), some (.int (t.firstTo i : Nat)), v] ∧ Same H H') ⟨none, rfl, s1⟩ ?_ ?_
    · rintro i σ H' hi ⟨v, rfl, s3⟩
      have ez : (0 : Int) + (i : Nat) = ((i : Nat) : Int) := Int.zero_add _
      rw [ez]
      have fin : ∀ (b : Bool) (σ2 : L2.St) (H2 : Hp), ((i &&& t.offd == i) && (decide (count i < count (t.firstTo i)) && t.enough i)) = b → Same H H2 → σ2 = [some (.ref A.o), some (.int (t.offd : Nat)), some (.int ((if b = true then i else t.firstTo i) : Nat)), some (.int (i : Nat))] →
          ∃ v, σ2 = [some (.ref A.o), some (.int (t.offd : Nat)), some (.int (t.firstTo (i + 1) : Nat)), v] ∧ Same H H2 := by
        intro b σ2 H2 hb s4 e
        refine ⟨some (.int (i : Nat)), ?_, s4⟩
        rw [e, Mi.T.firstTo, hb]
      refine ⟨_, rfl, _, rfl, _, _, rfl, rfl, _, rfl, rfl, _, rfl, iteB (fun h => ?_) fun h => ?_⟩
      · rw [eq_and] at h
        refine ⟨_, rfl, i, rfl, fun H4 s4 => ?_⟩
        refine ⟨_, rfl, _, rfl, fun H5 s5 => ?_⟩
        have s6 := (s3.trans s4).trans s5
        refine ⟨_, _, rfl, rfl, _, rfl, iteB (fun h1 => ?_) fun h1 => ?_⟩
        · rw [dec_lt] at h1
          refine ⟨_, rfl, A, t, rfl, hT.mono s6, _, rfl, A, t, i, rfl, hT.mono s6, hl, fun H7 s7 => ?_⟩
          refine ⟨_, rfl, iteB (fun h2 => ?_) fun h2 => ?_⟩
          · exact ⟨_, rfl, fin true _ _ (by rw [h, h1, h2]; rfl) (s6.trans s7) rfl⟩
          · exact fin false _ _ (by rw [h, h1, h2]; rfl) (s6.trans s7) rfl
        · rw [dec_lt] at h1
          exact iteF (fin false _ _ (by rw [h, h1]; rfl) s6 rfl)
      · rw [eq_and] at h
        exact iteF (fin false _ _ (by rw [h]; rfl) s3 rfl)
    · rintro σ H' ⟨v, rfl, s3⟩
      have e : t.firstTo ((t.offd : Nat) : Int).toNat = t.first := by rw [Int.toNat_natCast]; rfl
      rw [e]
      exact ⟨_, rfl, k H' s3⟩
def spBetween (Z : Adr) : Sp := fun vs H Q _ => ∃ A t, ∃ i j : Nat, vs = [.ref A.o, .int i, .int j] ∧ TAt Z.cT H A t ∧ t.obj.length = 6 ∧ i < 6 ∧ j < 6 ∧ Q (.bl (t.between i j)) H
theorem eq_and2 (m s : Nat) : decide (V.int (Builtin.bitAnd ((m : Nat) : Int) ((s : Nat) : Int)) = V.int ((s : Nat) : Int)) = (m &&& s == s) := by
  rw [bitAnd_nat]
  by_cases h : m &&& s = s
  · rw [h]; simp
  · have : ¬ (((m &&& s : Nat) : Int) = ((s : Nat) : Int)) := by omega
    rw [decide_eq_false (fun q => this (V.int.inj q)), beq_false_of_ne h]
theorem ok_T_between (T : Tx K mg Z) : Good P w K mg base 2 (Z.f 18) ["self", "i", "j"] (spBetween Z) := by
  refine T.d_T_between.good sc_T_between (fun vs H Q E h => ?_) (fun cdv Ar outer s H vs Q E hr h => ?_)
  · obtain ⟨A, t, i, j, rfl, _⟩ := h
    rfl
  · obtain ⟨A, t, i, j, rfl, hT, hl, hi, hj, k⟩ := h
    refine ⟨_, (pss_cons (ps_set (i := 3) sc_T_between.nd rfl (Or.inl rfl) (pe_op op_or (pg_bit rfl T.g_BITS T.bits (pv 1)) (pg_bit rfl T.g_BITS T.bits (pv 2)))) (pss_one (ps_ret (pe_and (pe_cmpR op_eq (pe_op op_and (pv_fld (Y := vT Z) T.clT T.nT_members (fun a b => tf_members a b) (pv 0)) (pv 3)) (pv 3) (nomark _)) (pe_and (pe_not (pv_meth (Y := vT Z) (pv 0) T.clT T.m_T_objects (fun a b => no_T a b (by decide +kernel)) (ok_T_objects (P := P) (w := w) (base := base) T) (hr.mono (by decide)) (pa_cons (pv 1) (pa_cons (pv 2) pa_nil)))) (pe_one (pe_not (pv_meth (Y := vT Z) (pv 0) T.clT T.m_T_objects (fun a b => no_T a b (by decide +kernel)) (ok_T_objects (P := P) (w := w) (base := base) T) (hr.mono (by decide)) (pa_cons (pv 2) (pa_cons (pv 1) pa_nil)))))))))), ?_⟩
    refine ⟨_, rfl, i, rfl, hi, _, rfl, j, rfl, hj, _, _, rfl, rfl, ?_⟩
    unfold Mi.T.between at k
    refine ⟨_, rfl, A, t, rfl, hT, _, rfl, _, _, rfl, rfl, _, rfl, rfl, _, rfl, iteB (fun h => ?_) fun h => ?_⟩
    · have h : decide (V.int (Builtin.bitAnd ((t.mem : Nat) : Int) (Builtin.bitOr ((2 ^ i : Nat) : Int) ((2 ^ j : Nat) : Int))) = V.int (Builtin.bitOr ((2 ^ i : Nat) : Int) ((2 ^ j : Nat) : Int))) = true := h
      rw [bitOr_nat, eq_and2] at h
      rw [h, Bool.true_and] at k
      refine ⟨_, rfl, A, t, rfl, hT, _, rfl, _, rfl, A, t, i, j, rfl, hT, hl, hi, hj, _, rfl, _, rfl, iteB (fun h1 => ?_) fun h1 => ?_⟩
      · rw [h1, Bool.true_and] at k
        exact ⟨_, rfl, A, t, rfl, hT, _, rfl, _, rfl, A, t, j, i, rfl, hT, hl, hj, hi, _, rfl, k⟩
      · rw [h1, Bool.false_and] at k
        exact k
    · have h : decide (V.int (Builtin.bitAnd ((t.mem : Nat) : Int) (Builtin.bitOr ((2 ^ i : Nat) : Int) ((2 ^ j : Nat) : Int))) = V.int (Builtin.bitOr ((2 ^ i : Nat) : Int) ((2 ^ j : Nat) : Int))) = false := h
      rw [bitOr_nat, eq_and2] at h
      rw [h, Bool.false_and] at k
      exact k
def spApplies (Z : Adr) : Sp := fun vs H Q _ => ∃ A t, ∃ i j a : Nat, vs = [.ref A.o, .int i, .int j, .int a] ∧ TAt Z.cT H A t ∧ t.obj.length = 6 ∧ t.res.length = 6 ∧ i < 6 ∧ j < 6 ∧ a < 6 ∧ Q (.bl (t.applies i j a)) H
theorem ok_T_applies (T : Tx K mg Z) : Good P w K mg base 3 (Z.f 19) ["self", "i", "j", "a"] (spApplies Z) := by
  refine T.d_T_applies.good sc_T_applies (fun vs H Q E h => ?_) (fun cdv Ar outer s H vs Q E hr h => ?_)
  · obtain ⟨A, t, i, j, a, rfl, _⟩ := h
    rfl
  · obtain ⟨A, t, i, j, a, rfl, hT, hl, hr', hi, hj, ha, k⟩ := h
    refine ⟨_, (pss_one (ps_ret (pe_and (pv_meth (Y := vT Z) (pv 0) T.clT T.m_T_between (fun a b => no_T a b (by decide +kernel)) (ok_T_between (P := P) (w := w) (base := base) T) (hr.mono (by decide)) (pa_cons (pv 1) (pa_cons (pv 2) pa_nil))) (pe_and (pe_not (pv_meth (Y := vT Z) (pv 0) T.clT T.m_T_has_reserved (fun a b => no_T a b (by decide +kernel)) (ok_T_has_reserved (P := P) (w := w) (base := base) T) (hr.mono (by decide)) (pa_cons (pv 1) (pa_cons (pv 3) pa_nil)))) (pe_one (pe_not (pv_meth (Y := vT Z) (pv 0) T.clT T.m_T_has_reserved (fun a b => no_T a b (by decide +kernel)) (ok_T_has_reserved (P := P) (w := w) (base := base) T) (hr.mono (by decide)) (pa_cons (pv 2) (pa_cons (pv 3) pa_nil))))))))), ?_⟩
    unfold Mi.T.applies at k
    refine ⟨_, rfl, A, t, rfl, hT, _, rfl, _, rfl, A, t, i, j, rfl, hT, hl, hi, hj, _, rfl, iteB (fun h => ?_) fun h => ?_⟩
    · rw [h, Bool.true_and] at k
      refine ⟨_, rfl, A, t, rfl, hT, _, rfl, _, rfl, A, t, i, a, rfl, hT, hr', hi, ha, _, rfl, _, rfl, iteB (fun h1 => ?_) fun h1 => ?_⟩
      · rw [h1, Bool.true_and] at k
        exact ⟨_, rfl, A, t, rfl, hT, _, rfl, _, rfl, A, t, j, a, rfl, hT, hr', hj, ha, _, rfl, k⟩
      · rw [h1, Bool.false_and] at k
        exact k
    · rw [h, Bool.false_and] at k
      exact k
end
end Rg
namespace Rg
open PySem PySem.Spec PyProof.Rows L2
open Mi (T W R All2 gath)
open Km485 (count without again_)
section
variable {P : Program} {w : World} {K : PySem.W.Frag} {mg : Str → Option Value} {base : Heap} {Z : Adr}
theorem same_upd2 {H H1 : Hp} {p : Addr} {o : HO} (s : Same H H1) (h : H p = none) : Same H (upd H1 p o) := fun b u e => by rw [upd_ne (ne_of_none e h)]; exact s b u e
theorem sum_cast : ∀ l : List Nat, (l.map fun (n : Nat) => (n : Int)).sum = ((l.sum : Nat) : Int)
  | [] => rfl
  | a :: l => by rw [List.map_cons, List.sum_cons, List.sum_cons, sum_cast l]; omega
theorem nv_map (l : List Nat) : nv l = (l.map fun (n : Nat) => (n : Int)).map V.int := by
  unfold nv
  rw [List.map_map]
  rfl
theorem nv_get {l : List Nat} {i : Nat} {x : V} (h : (nv l)[i]? = some x) : i < l.length ∧ x = V.int (l.getD i 0 : Nat) := by
  have hi : i < l.length := by rw [← nv_len l]; exact (List.getElem?_eq_some_iff.mp h).1
  rw [nv_at hi] at h
  exact ⟨hi, (Option.some.inj h).symm⟩
theorem take_map_snoc {f : Nat → Nat} {l : List Nat} {i : Nat} (hi : i < l.length) : nv ((l.map f).take i) ++ [V.int (f (l.getD i 0) : Nat)] = nv ((l.map f).take (i + 1)) := by
  have hi' : i < (l.map f).length := by rw [List.length_map]; exact hi
  rw [List.take_add_one, List.getElem?_eq_getElem hi']
  unfold nv
  rw [List.map_append]
  congr 1
  rw [List.getElem_map, List.getD_eq_getElem?_getD, List.getElem?_eq_getElem hi]
  rfl
theorem small1 {n : Nat} (h : n ≤ 1000) : n < sizeLine := Nat.lt_of_le_of_lt h (by decide)
def spObjections (Z : Adr) : Sp := fun vs H Q _ => ∃ A t, vs = [.ref A.o] ∧ TAt Z.cT H A t ∧ t.obj.length = 6 ∧ ∀ H', Same H H' → Q (.int (t.objections : Nat)) H'
theorem ok_T_objections (T : Tx K mg Z) : Good P w K mg base 2 (Z.f 13) ["self"] (spObjections Z) := by
  refine T.d_T_objections.good sc_T_objections (fun vs H Q E h => ?_) (fun cdv Ar outer s H vs Q E hr h => ?_)
  · obtain ⟨A, t, rfl, _⟩ := h
    rfl
  · obtain ⟨A, t, rfl, hT, hl, k⟩ := h
    refine ⟨_, (pss_one (ps_ret (pe_callB (cr_sum rfl) (by rfl) T.b_sum boot_sum (pa_cons (pe_lc (own := [("those", 1)]) rfl sc_T_objections.nd (pi_list (pv_fld (Y := vT Z) T.clT T.nT_objected (fun a b => tf_objected a b) (pv 0))) (blkOk_by (by kernel_rfl)) (fun _ _ _ _ _ => pg_name (i := 1) sc_T_objections.nd rfl (Or.inl rfl)) (fun _ _ _ _ _ => pts_nil) (fun _ _ _ _ _ => (pg_call (ok_size (P := P) (w := w) (base := base) T) (hr.mono (by decide)) rfl T.g_size (pa_cons (pv 1) pa_nil)))) pa_nil)))), ?_⟩
    refine ⟨_, rfl, A, t, rfl, hT, A.ob, rfl, ⟨_, SqL.of hT.ob⟩, fun D hD => ?_⟩
    refine lc_list (K := K) (a := A.ob) (xs := nv t.obj) (fun i H' => Same H H' ∧ H' D = some (.lst (nv ((t.obj.map count).take i)))) ⟨same_upd hD, upd_same⟩ (fun i H' _ h => SqL.of (h.1 _ _ hT.ob)) ?_ ?_
    · rintro i x H' hx ⟨s1, hDl⟩
      obtain ⟨hi, rfl⟩ := nv_get hx
      refine ⟨rfl, ?_⟩
      refine ⟨_, rfl, _, rfl, fun H2 s2 => ?_⟩
      refine ⟨_, s2 _ _ hDl, small1 (by rw [nv_len, List.length_take]; omega), same_upd2 (s1.trans s2) hD, ?_⟩
      rw [upd_same, take_map_snoc hi]
    · rintro H' ⟨s1, hDl⟩
      rw [nv_len, List.take_of_length_le (by rw [List.length_map]; exact Nat.le_refl _)] at hDl
      refine ⟨D, (t.obj.map count).map (fun (n : Nat) => (n : Int)), rfl, SqL.of (by rw [hDl, nv_map]), ?_⟩
      rw [sum_cast]
      exact k H' s1
def optV : Option Nat → V
  | none => .non
  | some a => .int (a : Nat)
theorem eq_int2 (a b : Nat) : decide (V.int ((a : Nat) : Int) = V.int ((b : Nat) : Int)) = (a == b) := by
  by_cases h : a = b
  · subst h; simp
  · have : ¬ (((a : Nat) : Int) = ((b : Nat) : Int)) := by omega
    rw [decide_eq_false (fun q => this (V.int.inj q)), beq_false_of_ne h]
theorem art_of {t : T} {H : Hp} {as : List Addr} (h : All2 (fun a p => H a = some (.tup (pr p))) as t.arts) {i : Nat} {x : V} (hx : (as.map V.ref)[i]? = some x) : ∃ a, x = .ref a ∧ H a = some (.tup (pr (t.arts.getD i (0, 0)))) := by
  rw [List.getElem?_map] at hx
  cases e : as[i]? with
  | none => rw [e] at hx; cases hx
  | some a =>
    rw [e] at hx
    obtain ⟨p, h1, h2⟩ := h.get e
    refine ⟨a, (Option.some.inj hx).symm, ?_⟩
    rw [List.getD_eq_getElem?_getD, h1]
    exact h2
def spLast (Z : Adr) : Sp := fun vs H Q _ => ∃ A t, ∃ i j s : Nat, vs = [.ref A.o, .int i, .int j, .int s] ∧ TAt Z.cT H A t ∧ t.obj.length = 6 ∧ t.res.length = 6 ∧ t.arts.length ≤ 4 ∧ i < 6 ∧ j < 6 ∧ ∀ H', Same H H' → Q (optV (t.last i j s)) H'
theorem ok_T_last_applying (T : Tx K mg Z) : Good P w K mg base 4 (Z.f 20) ["self", "i", "j", "s"] (spLast Z) := by
  refine T.d_T_last_applying.good sc_T_last_applying (fun vs H Q E h => ?_) (fun cdv Ar outer s H vs Q E hr h => ?_)
  · obtain ⟨A, t, i, j, n, rfl, _⟩ := h
    rfl
  · obtain ⟨A, t, i, j, n, rfl, hT, hl, hr', hal, hi, hj, k⟩ := h
    refine ⟨_, (pss_cons (ps_set (i := 4) sc_T_last_applying.nd rfl (Or.inl rfl) pe_non) (pss_cons (ps_for PassesOwn.never rfl (pi_enum rfl T.b_enumerate (pa_cons (pv_fld (Y := vT Z) T.clT T.nT_articles (fun a b => tf_articles a b) (pv 0)) pa_nil)) (pg_tup rfl (pgs_cons (pg_name (i := 5) sc_T_last_applying.nd rfl (Or.inl rfl)) (pgs_cons (pg_name (i := 6) sc_T_last_applying.nd rfl (Or.inl rfl)) pgs_nil))) (pss_one (ps_if (PW.pt (pw_and (pt_cmpR op_eq (pe_ix ix_tup (pv 6) pe_int (fun _ _ => rfl)) (pv 3) (nomark _)) (pw_and1 (pt_tr (pv_meth (Y := vT Z) (pv 0) T.clT T.m_T_applies (fun a b => no_T a b (by decide +kernel)) (ok_T_applies (P := P) (w := w) (base := base) T) (hr.mono (by decide)) (pa_cons (pv 1) (pa_cons (pv 2) (pa_cons (pv 5) pa_nil)))))))) (pss_one (ps_set (i := 4) sc_T_last_applying.nd rfl (Or.inl rfl) (pv 5))) pss_nil))) (pss_one (ps_ret (pv 4))))), ?_⟩
    obtain ⟨as, har, hal2⟩ := hT.ar
    have hasl : as.length = t.arts.length := hal2.len
    refine ⟨_, rfl, A, t, rfl, hT, A.ar, _, rfl, SqL.of har, ?_⟩
    refine for_enum (K := K) (a := A.ar) (xs := as.map V.ref) (fun m σ H' => ∃ v5 v6, σ = [some (.ref A.o), some (.int (i : Nat)), some (.int (j : Nat)), some (.int (n : Nat)), some (optV (t.lastTo i j n m)), v5, v6] ∧ Same H H')
      ⟨none, none, rfl, Same.refl _⟩ (fun m σ H' _ ⟨_, _, _, s1⟩ => SqL.of (s1 _ _ har)) ?_ ?_
    · rintro m x σ H' U hx ⟨v5, v6, rfl, s1⟩ hU
      obtain ⟨a, rfl, ha⟩ := art_of hal2 hx
      have hm : m < t.arts.length := by rw [← hasl]; have := (List.getElem?_eq_some_iff.mp hx).1; simpa using this
      have s2 := s1.trans (same_upd (o := .tup [.int (m : Nat), V.ref a]) hU)
      have fin : ∀ (b : Bool) (σ2 : L2.St) (H2 : Hp), (((t.arts.getD m (0, 0)).1 == n) && t.applies i j m) = b → Same H H2 → σ2 = [some (.ref A.o), some (.int (i : Nat)), some (.int (j : Nat)), some (.int (n : Nat)), some (optV (if b = true then some m else t.lastTo i j n m)), some (.int (m : Nat)), some (.ref a)] →
          ∃ v5 v6, σ2 = [some (.ref A.o), some (.int (i : Nat)), some (.int (j : Nat)), some (.int (n : Nat)), some (optV (t.lastTo i j n (m + 1))), v5, v6] ∧ Same H H2 := by
        intro b σ2 H2 hb s4 e
        refine ⟨some (.int (m : Nat)), some (.ref a), ?_, s4⟩
        rw [e, Mi.T.lastTo, hb]
      refine ⟨U, _, rfl, SqT.of upd_same, rfl, _, _, rfl, _, _, rfl, rfl, ?_⟩
      refine ⟨_, rfl, _, _, _, _, rfl, rfl, SqT.of (s2 _ _ ha), pair0 _, _, rfl, rfl, _, rfl, iteB (fun h => ?_) fun h => ?_⟩
      · rw [eq_int2] at h
        refine ⟨_, rfl, A, t, rfl, hT.mono s2, _, rfl, _, rfl, _, rfl, A, t, i, j, m, rfl, hT.mono s2, hl, hr', hi, hj, by omega, _, rfl, iteB (fun h1 => ?_) fun h1 => ?_⟩
        · exact ⟨_, rfl, fin true _ _ (by rw [h, h1]; rfl) s2 rfl⟩
        · exact fin false _ _ (by rw [h, h1]; rfl) s2 rfl
      · rw [eq_int2] at h
        exact iteF (fin false _ _ (by rw [h]; rfl) s2 rfl)
    · rintro σ H' ⟨v5, v6, rfl, s1⟩
      refine ⟨_, rfl, ?_⟩
      rw [List.length_map, hasl]
      exact k H' s1
end
end Rg
namespace Rg
open PySem PySem.Spec PyProof.Rows L2
open Mi (T W R All2 gath newT)
open Km485 (count without again_)
section
variable {P : Program} {w : World} {K : PySem.W.Frag} {mg : Str → Option Value} {base : Heap} {Z : Adr}
def spTInit (Z : Adr) : Sp := fun vs H Q _ => ∃ p dx, ∃ n : Nat, vs = [.ref p, .int n] ∧ H p = some (.ins Z.cT dx []) ∧ ∀ (H' : Hp) (A : TA), A.o = p → TAt Z.cT H' A (newT n) → (∀ b ∈ fpT A, b = p ∨ H b = none) → Kp [p] H H' → Q .non H'
theorem lput {f : Str} {v : V} {fs : List (Str × V)} {k : Nat} (h : fs.length ≤ k) : (putF f v fs).length ≤ k + 1 := Nat.le_trans (length_putF f v fs) (by omega)
theorem ov6 (H : Hp) : ∀ n, All2 (OV H) (List.replicate n V.non) (List.replicate n none)
  | 0 => .nil
  | n + 1 => .cons rfl (ov6 H n)
theorem ok_T_init (T : Tx K mg Z) : Good P w K mg base 1 (Z.f 1) ["self", "need"] (spTInit Z) := by
  refine T.d_T_init.good sc_T_init (fun vs H Q E h => ?_) (fun cdv Ar outer s H vs Q E hr h => ?_)
  · obtain ⟨p, dx, n, rfl, _⟩ := h
    rfl
  · obtain ⟨p, dx, n, rfl, hp, k⟩ := h
    refine ⟨_, (pss_cons (ps_fldA (pv 0) (pv 1) rfl) (pss_cons (ps_fldA (pv 0) (pe_lst pa_nil) rfl) (pss_cons (ps_fldA (pv 0) (pe_op op_rep (pe_lst (pa_cons pe_non pa_nil)) (pe_callB call_len_seq (by rfl) T.b_len boot_len (pa_cons (pg_ref rfl T.g_BITS) pa_nil))) rfl) (pss_cons (ps_fldA (pv 0) pe_int rfl) (pss_cons (ps_fldA (pv 0) pe_int rfl) (pss_cons (ps_fldA (pv 0) (pe_op op_rep (pe_lst (pa_cons pe_int pa_nil)) (pe_callB call_len_seq (by rfl) T.b_len boot_len (pa_cons (pg_ref rfl T.g_BITS) pa_nil))) rfl) (pss_one (ps_fldA (pv 0) (pe_op op_rep (pe_lst (pa_cons pe_int pa_nil)) (pe_callB call_len_seq (by rfl) T.b_len boot_len (pa_cons (pg_ref rfl T.g_BITS) pa_nil))) rfl)))))))), ?_⟩
    refine ⟨_, rfl, _, rfl, p, Z.cT, dx, [], rfl, hp, T.clT, T.nT_need, (by decide), fun H1 f1 k1 => ?_⟩
    have l1 := lput (f := "need") (v := .int (n : Nat)) (Nat.le_refl ([] : List (Str × V)).length)
    refine ⟨Nat.zero_le _, fun a ha => ?_⟩
    have pa : p ≠ a := ne_of_none f1 ha
    refine ⟨_, rfl, p, Z.cT, dx, _, rfl, (upd_ne pa).trans f1, T.clT, T.nT_articles, Nat.lt_of_le_of_lt l1 (by decide), fun H2 f2 k2 => ?_⟩
    have l2 := lput (f := "articles") (v := .ref a) l1
    have fa2 : H2 a = some (.lst []) := k2.at1 upd_same (fun z => pa z.symm)
    have kk2 : Kp [p] H H2 := (k1.trans (Same.kp (same_upd ha) _)).trans k2
    refine ⟨(by decide), fun q hq => ⟨Z.bits, _, rfl, .inr (T.bits.sq _), q, _, _, rfl, rfl, upd_same, (by decide), (by decide), (by decide), fun b hb => ?_⟩⟩
    have sq := same_upd (o := .lst [V.non]) hq
    have sb := sq.trans (same_upd (o := .lst (List.replicate ((bitsV.length : Nat) : Int).toNat [V.non]).flatten) hb)
    have pb : p ≠ b := ne_of_none (sq _ _ f2) hb
    have ab : a ≠ b := ne_of_none (sq _ _ fa2) hb
    refine ⟨_, rfl, p, Z.cT, dx, _, rfl, sb _ _ f2, T.clT, T.nT_offers, Nat.lt_of_le_of_lt l2 (by decide), fun H3 f3 k3 => ?_⟩
    have l3 := lput (f := "offers") (v := .ref b) l2
    have fb3 : H3 b = some (.lst (List.replicate 6 V.non)) := k3.at1 upd_same (fun z => pb z.symm)
    have fa3 : H3 a = some (.lst []) := k3.at1 (sb _ _ fa2) (fun z => pa z.symm)
    have hb0 : H b = none := kk2.free (sq.free hb) (fun z => pb (List.mem_singleton.mp z).symm)
    have kk3 : Kp [p] H H3 := (kk2.trans (Same.kp sb _)).trans k3
    refine ⟨_, rfl, p, Z.cT, dx, _, rfl, f3, T.clT, T.nT_turn, Nat.lt_of_le_of_lt l3 (by decide), fun H4 f4 k4 => ?_⟩
    have l4 := lput (f := "turn") (v := .int 0) l3
    have fa4 := k4.at1 fa3 (fun z => pa z.symm)
    have fb4 := k4.at1 fb3 (fun z => pb z.symm)
    refine ⟨_, rfl, p, Z.cT, dx, _, rfl, f4, T.clT, T.nT_members, Nat.lt_of_le_of_lt l4 (by decide), fun H5 f5 k5 => ?_⟩
    have l5 := lput (f := "members") (v := .int 0) l4
    have fa5 := k5.at1 fa4 (fun z => pa z.symm)
    have fb5 := k5.at1 fb4 (fun z => pb z.symm)
    have kk5 : Kp [p] H H5 := (kk3.trans k4).trans k5
    refine ⟨(by decide), fun q2 hq2 => ⟨Z.bits, _, rfl, .inr (T.bits.sq _), q2, _, _, rfl, rfl, upd_same, (by decide), (by decide), (by decide), fun c hc => ?_⟩⟩
    have sq2 := same_upd (o := .lst [V.int 0]) hq2
    have sc2 := sq2.trans (same_upd (o := .lst (List.replicate ((bitsV.length : Nat) : Int).toNat [V.int 0]).flatten) hc)
    have pc : p ≠ c := ne_of_none (sq2 _ _ f5) hc
    have ac : a ≠ c := ne_of_none (sq2 _ _ fa5) hc
    have bc : b ≠ c := ne_of_none (sq2 _ _ fb5) hc
    refine ⟨_, rfl, p, Z.cT, dx, _, rfl, sc2 _ _ f5, T.clT, T.nT_reserved, Nat.lt_of_le_of_lt l5 (by decide), fun H6 f6 k6 => ?_⟩
    have l6 := lput (f := "reserved") (v := .ref c) l5
    have fc6 : H6 c = some (.lst (nv (List.replicate 6 0))) := k6.at1 upd_same (fun z => pc z.symm)
    have fa6 := k6.at1 (sc2 _ _ fa5) (fun z => pa z.symm)
    have fb6 := k6.at1 (sc2 _ _ fb5) (fun z => pb z.symm)
    have hc0 : H c = none := kk5.free (sq2.free hc) (fun z => pc (List.mem_singleton.mp z).symm)
    have kk6 : Kp [p] H H6 := (kk5.trans (Same.kp sc2 _)).trans k6
    refine ⟨(by decide), fun q3 hq3 => ⟨Z.bits, _, rfl, .inr (T.bits.sq _), q3, _, _, rfl, rfl, upd_same, (by decide), (by decide), (by decide), fun d hd => ?_⟩⟩
    have sq3 := same_upd (o := .lst [V.int 0]) hq3
    have sd3 := sq3.trans (same_upd (o := .lst (List.replicate ((bitsV.length : Nat) : Int).toNat [V.int 0]).flatten) hd)
    have pd : p ≠ d := ne_of_none (sq3 _ _ f6) hd
    have ad : a ≠ d := ne_of_none (sq3 _ _ fa6) hd
    have bd : b ≠ d := ne_of_none (sq3 _ _ fb6) hd
    have cd : c ≠ d := ne_of_none (sq3 _ _ fc6) hd
    refine ⟨_, rfl, p, Z.cT, dx, _, rfl, sd3 _ _ f6, T.clT, T.nT_objected, Nat.lt_of_le_of_lt l6 (by decide), fun H7 f7 k7 => ?_⟩
    have fd7 : H7 d = some (.lst (nv (List.replicate 6 0))) := k7.at1 upd_same (fun z => pd z.symm)
    have fa7 := k7.at1 (sd3 _ _ fa6) (fun z => pa z.symm)
    have fb7 := k7.at1 (sd3 _ _ fb6) (fun z => pb z.symm)
    have fc7 := k7.at1 (sd3 _ _ fc6) (fun z => pc z.symm)
    have hd0 : H d = none := kk6.free (sq3.free hd) (fun z => pd (List.mem_singleton.mp z).symm)
    have ha0 : H a = none := k1.free ha (fun z => pa (List.mem_singleton.mp z).symm)
    have kk7 : Kp [p] H H7 := (kk6.trans (Same.kp sd3 _)).trans k7
    rw [init_tf n p a b c d] at f7
    refine k H7 ⟨p, a, b, c, d⟩ rfl ⟨⟨dx, f7⟩, ⟨[], fa7, .nil⟩, ⟨_, fb7, ov6 _ 6⟩, fc7, fd7, ?_⟩ ?_ kk7
    · simp [fpT, pa, pb, pc, pd, ab, ac, ad, bc, bd, cd]
    · intro x hx
      rcases (by simpa [fpT] using hx : x = p ∨ x = a ∨ x = b ∨ x = c ∨ x = d) with e | e | e | e | e <;> rw [e]
      · exact .inl rfl
      · exact .inr ha0
      · exact .inr hb0
      · exact .inr hc0
      · exact .inr hd0
end
end Rg
namespace Rg
open PySem PySem.Spec PyProof.Rows L2
open Mi (T W R All2 gath newT)
open Km485 (count without again_)
section
variable {P : Program} {w : World} {K : PySem.W.Frag} {mg : Str → Option Value} {base : Heap} {Z : Adr}
theorem made_free {H : Hp} {x dx C b : Addr} (h : b = x ∨ (upd (upd H dx (.own x)) x (.ins C dx [])) b = none) (hx : H x = none) : H b = none := by
  rcases h with e | h
  · rw [e]; exact hx
  · by_cases e1 : b = x
    · rw [e1]; exact hx
    · rw [upd_ne e1] at h
      by_cases e2 : b = dx
      · rw [e2, upd_same] at h; cases h
      · rw [upd_ne e2] at h; exact h
theorem made_same {H H1 : Hp} {x dx C : Addr} (hx : H x = none) (hd : H dx = none) (k : Kp [x] (upd (upd H dx (.own x)) x (.ins C dx [])) H1) : Same H H1 := Same.made hx hd fun b o e n => k b o e (by simpa using n)
theorem new_write {H H1 H2 H3 : Hp} {x : Addr} (s1 : Same H H1) (hx : H x = none) (s2 : Same H1 H2) (k : Kp [x] H2 H3) : Same H H3 := fun b o e => k b o (s2 b o (s1 b o e)) (by intro z; rw [List.mem_singleton.mp z, hx] at e; cases e)
def spTCopied (Z : Adr) : Sp := fun vs H Q _ => ∃ A t, vs = [.ref A.o] ∧ TAt Z.cT H A t ∧ ∀ (H' : Hp) (A' : TA), TAt Z.cT H' A' t → (∀ b ∈ fpT A', H b = none) → Same H H' → Q (.ref A'.o) H'
theorem ok_T_copied (T : Tx K mg Z) : Good P w K mg base 3 (Z.f 2) ["self"] (spTCopied Z) := by
  refine T.d_T_copied.good sc_T_copied (fun vs H Q E h => ?_) (fun cdv Ar outer s H vs Q E hr h => ?_)
  · obtain ⟨A, t, rfl, _⟩ := h
    rfl
  · obtain ⟨A, t, rfl, hT, k⟩ := h
    refine ⟨_, (pss_cons (ps_set (i := 1) sc_T_copied.nd rfl (Or.inl rfl) (pg_make T.mkT (ok_T_init (P := P) (w := w) (base := base) T) (hr.mono (by decide)) rfl T.g_Treaty (pa_cons (pv_fld (Y := vT Z) T.clT T.nT_need (fun a b => tf_need a b) (pv 0)) pa_nil))) (pss_cons (ps_fldA (pv 1) (pe_callTy call_list_of (by rfl) T.b_list boot_list (pa_cons (pv_fld (Y := vT Z) T.clT T.nT_articles (fun a b => tf_articles a b) (pv 0)) pa_nil)) rfl) (pss_cons (ps_fldA (pv 1) (pe_callTy call_list_of (by rfl) T.b_list boot_list (pa_cons (pv_fld (Y := vT Z) T.clT T.nT_offers (fun a b => tf_offers a b) (pv 0)) pa_nil)) rfl) (pss_cons (ps_fldA (pv 1) (pv_fld (Y := vT Z) T.clT T.nT_turn (fun a b => tf_turn a b) (pv 0)) rfl) (pss_cons (ps_fldA (pv 1) (pv_fld (Y := vT Z) T.clT T.nT_members (fun a b => tf_members a b) (pv 0)) rfl) (pss_cons (ps_fldA (pv 1) (pe_callTy call_list_of (by rfl) T.b_list boot_list (pa_cons (pv_fld (Y := vT Z) T.clT T.nT_reserved (fun a b => tf_reserved a b) (pv 0)) pa_nil)) rfl) (pss_cons (ps_fldA (pv 1) (pe_callTy call_list_of (by rfl) T.b_list boot_list (pa_cons (pv_fld (Y := vT Z) T.clT T.nT_objected (fun a b => tf_objected a b) (pv 0)) pa_nil)) rfl) (pss_one (ps_ret (pv 1)))))))))), ?_⟩
    obtain ⟨as, har, has⟩ := hT.ar
    obtain ⟨vs, hof, hvs⟩ := hT.of
    refine ⟨_, rfl, A, t, rfl, hT, fun x dx hx hdx hne => ⟨x, dx, t.need, rfl, upd_same, fun H1 A1 eo hT1 hnw k1 => ⟨rfl, ?_⟩⟩⟩
    have s1 : Same H H1 := made_same hx hdx k1
    subst eo
    obtain ⟨d1, f1⟩ := hT1.obj
    refine ⟨_, rfl, A, t, rfl, hT.mono s1, A.ar, _, rfl, .inl (SqL.of (s1 _ _ har)), fun l1 hl1 => ?_⟩
    have n1 : A1.o ≠ l1 := ne_of_none f1 hl1
    have z1 : H l1 = none := s1.free hl1
    refine ⟨_, rfl, A1.o, Z.cT, d1, _, rfl, (upd_ne n1).trans f1, T.clT, T.nT_articles, (by show 7 < 1000; decide), fun H2 f2 k2 => ?_⟩
    rw [put_articles] at f2
    have s2 : Same H H2 := new_write s1 hx (same_upd hl1) k2
    have g1 := k2.at1 upd_same (fun z => n1 z.symm)
    refine ⟨_, rfl, A, t, rfl, hT.mono s2, A.of, _, rfl, .inl (SqL.of (s2 _ _ hof)), fun l2 hl2 => ?_⟩
    have n2 : A1.o ≠ l2 := ne_of_none f2 hl2
    have n12 : l1 ≠ l2 := ne_of_none g1 hl2
    have z2 : H l2 = none := s2.free hl2
    refine ⟨_, rfl, A1.o, Z.cT, d1, _, rfl, (upd_ne n2).trans f2, T.clT, T.nT_offers, (by show 7 < 1000; decide), fun H3 f3 k3 => ?_⟩
    rw [put_offers] at f3
    have s3 : Same H H3 := new_write s2 hx (same_upd hl2) k3
    have g13 := k3.at1 ((upd_ne n12).trans g1) (fun z => n1 z.symm)
    have g2 := k3.at1 upd_same (fun z => n2 z.symm)
    refine ⟨_, rfl, A, t, rfl, hT.mono s3, _, rfl, A1.o, Z.cT, d1, _, rfl, f3, T.clT, T.nT_turn, (by show 7 < 1000; decide), fun H4 f4 k4 => ?_⟩
    rw [put_turn] at f4
    have s4 : Same H H4 := new_write s3 hx (Same.refl _) k4
    have g14 := k4.at1 g13 (fun z => n1 z.symm)
    have g24 := k4.at1 g2 (fun z => n2 z.symm)
    refine ⟨_, rfl, A, t, rfl, hT.mono s4, _, rfl, A1.o, Z.cT, d1, _, rfl, f4, T.clT, T.nT_members, (by show 7 < 1000; decide), fun H5 f5 k5 => ?_⟩
    rw [put_members] at f5
    have s5 : Same H H5 := new_write s4 hx (Same.refl _) k5
    have g15 := k5.at1 g14 (fun z => n1 z.symm)
    have g25 := k5.at1 g24 (fun z => n2 z.symm)
    refine ⟨_, rfl, A, t, rfl, hT.mono s5, A.re, _, rfl, .inl (SqL.of (s5 _ _ hT.re)), fun l3 hl3 => ?_⟩
    have n3 : A1.o ≠ l3 := ne_of_none f5 hl3
    have n13 : l1 ≠ l3 := ne_of_none g15 hl3
    have n23 : l2 ≠ l3 := ne_of_none g25 hl3
    have z3 : H l3 = none := s5.free hl3
    refine ⟨_, rfl, A1.o, Z.cT, d1, _, rfl, (upd_ne n3).trans f5, T.clT, T.nT_reserved, (by show 7 < 1000; decide), fun H6 f6 k6 => ?_⟩
    rw [put_reserved] at f6
    have s6 : Same H H6 := new_write s5 hx (same_upd hl3) k6
    have g16 := k6.at1 ((upd_ne n13).trans g15) (fun z => n1 z.symm)
    have g26 := k6.at1 ((upd_ne n23).trans g25) (fun z => n2 z.symm)
    have g36 := k6.at1 upd_same (fun z => n3 z.symm)
    refine ⟨_, rfl, A, t, rfl, hT.mono s6, A.ob, _, rfl, .inl (SqL.of (s6 _ _ hT.ob)), fun l4 hl4 => ?_⟩
    have n4 : A1.o ≠ l4 := ne_of_none f6 hl4
    have n14 : l1 ≠ l4 := ne_of_none g16 hl4
    have n24 : l2 ≠ l4 := ne_of_none g26 hl4
    have n34 : l3 ≠ l4 := ne_of_none g36 hl4
    have z4 : H l4 = none := s6.free hl4
    refine ⟨_, rfl, A1.o, Z.cT, d1, _, rfl, (upd_ne n4).trans f6, T.clT, T.nT_objected, (by show 7 < 1000; decide), fun H7 f7 k7 => ?_⟩
    rw [put_objected] at f7
    have s7 : Same H H7 := new_write s6 hx (same_upd hl4) k7
    have g17 := k7.at1 ((upd_ne n14).trans g16) (fun z => n1 z.symm)
    have g27 := k7.at1 ((upd_ne n24).trans g26) (fun z => n2 z.symm)
    have g37 := k7.at1 ((upd_ne n34).trans g36) (fun z => n3 z.symm)
    have g47 := k7.at1 upd_same (fun z => n4 z.symm)
    refine ⟨_, rfl, ?_⟩
    refine k H7 ⟨A1.o, l1, l2, l3, l4⟩ ⟨⟨d1, f7⟩, ⟨as, g17, has.imp fun a p q => s7 _ _ q⟩, ⟨vs, g27, hvs.imp fun v o q => OV.mono q fun a l e => s7 _ _ e⟩, g37, g47, ?_⟩ ?_ s7
    · simp [fpT, n1, n2, n3, n4, n12, n13, n14, n23, n24, n34]
    · intro b hb
      rcases (by simpa [fpT] using hb : b = A1.o ∨ b = l1 ∨ b = l2 ∨ b = l3 ∨ b = l4) with e | e | e | e | e <;> rw [e] <;> assumption
theorem fp_o (A : TA) : A.o ∈ fpT A := by simp [fpT]
theorem fp_ar (A : TA) : A.ar ∈ fpT A := by simp [fpT]
theorem fp_of (A : TA) : A.of ∈ fpT A := by simp [fpT]
theorem fp_re (A : TA) : A.re ∈ fpT A := by simp [fpT]
theorem fp_ob (A : TA) : A.ob ∈ fpT A := by simp [fpT]
theorem TAt.ne (h : TAt C H A t) : A.o ≠ A.ar ∧ A.o ≠ A.of ∧ A.o ≠ A.re ∧ A.o ≠ A.ob ∧ A.ar ≠ A.of ∧ A.ar ≠ A.re ∧ A.ar ≠ A.ob ∧ A.of ≠ A.re ∧ A.of ≠ A.ob ∧ A.re ≠ A.ob := by
  have := h.nd
  simp [fpT] at this
  obtain ⟨⟨a, b, c, d⟩, ⟨e, f, g⟩, ⟨i, j⟩, k⟩ := this
  exact ⟨a, b, c, d, e, f, g, i, j, k⟩
theorem Kp.tup {a : Addr} {H H' : Hp} {o : HO} (k : Kp [a] H H') (ha : H a = some o) (hn : ∀ l, o ≠ .tup l) : ∀ b l, H b = some (.tup l) → H' b = some (.tup l) := fun b l e => k.at1 e fun z => by rw [z, ha] at e; exact hn l (Option.some.inj e)
theorem TAt.wo {C : Addr} {H H' : Hp} {A : TA} {t t' : T} {dx : Addr} (h : TAt C H A t) (f : H' A.o = some (.ins C dx (tf A t'))) (k : Kp [A.o] H H') (e1 : t'.arts = t.arts) (e2 : t'.offs = t.offs) (e3 : t'.res = t.res) (e4 : t'.obj = t.obj) : TCh C H A H' A t' := by
  obtain ⟨d0, h0⟩ := h.obj
  obtain ⟨n1, n2, n3, n4, _⟩ := h.ne
  have kt := k.tup h0 (fun l z => by cases z)
  obtain ⟨as, h2, h3⟩ := h.ar
  obtain ⟨vs, h4, h5⟩ := h.of
  refine ⟨⟨⟨dx, f⟩, ⟨as, k.at1 h2 n1.symm, by rw [e1]; exact h3.imp fun a p q => kt _ _ q⟩, ⟨vs, k.at1 h4 n2.symm, by rw [e2]; exact h5.imp fun v o q => OV.mono q kt⟩, by rw [e3]; exact k.at1 h.re n3.symm, by rw [e4]; exact k.at1 h.ob n4.symm, h.nd⟩, rfl, k.mono fun b hb => by rw [List.mem_singleton.mp hb]; exact fp_o A, fun b hb => .inl hb⟩
theorem TAt.wre {C : Addr} {H H' : Hp} {A : TA} {t t' : T} (h : TAt C H A t) (f : H' A.re = some (.lst (nv t'.res))) (k : Kp [A.re] H H') (e : t' = { t with res := t'.res }) : TCh C H A H' A t' := by
  obtain ⟨d0, h0⟩ := h.obj
  obtain ⟨_, _, n3, _, _, n6, _, n8, _, n10⟩ := h.ne
  have kt := k.tup h.re (fun l z => by cases z)
  obtain ⟨as, h2, h3⟩ := h.ar
  obtain ⟨vs, h4, h5⟩ := h.of
  have e1 : t'.arts = t.arts := by rw [e]
  have e2 : t'.offs = t.offs := by rw [e]
  have e4 : t'.obj = t.obj := by rw [e]
  have e5 : tf A t' = tf A t := by rw [e]; rfl
  refine ⟨⟨⟨d0, by rw [e5]; exact k.at1 h0 n3⟩, ⟨as, k.at1 h2 n6, by rw [e1]; exact h3.imp fun a p q => kt _ _ q⟩, ⟨vs, k.at1 h4 n8, by rw [e2]; exact h5.imp fun v o q => OV.mono q kt⟩, f, by rw [e4]; exact k.at1 h.ob n10.symm, h.nd⟩, rfl, k.mono fun b hb => by rw [List.mem_singleton.mp hb]; exact fp_re A, fun b hb => .inl hb⟩
theorem TAt.wob {C : Addr} {H H' : Hp} {A : TA} {t t' : T} (h : TAt C H A t) (f : H' A.ob = some (.lst (nv t'.obj))) (k : Kp [A.ob] H H') (e : t' = { t with obj := t'.obj }) : TCh C H A H' A t' := by
  obtain ⟨d0, h0⟩ := h.obj
  obtain ⟨_, _, _, n4, _, _, n7, _, n9, n10⟩ := h.ne
  have kt := k.tup h.ob (fun l z => by cases z)
  obtain ⟨as, h2, h3⟩ := h.ar
  obtain ⟨vs, h4, h5⟩ := h.of
  have e1 : t'.arts = t.arts := by rw [e]
  have e2 : t'.offs = t.offs := by rw [e]
  have e4 : t'.res = t.res := by rw [e]
  have e5 : tf A t' = tf A t := by rw [e]; rfl
  refine ⟨⟨⟨d0, by rw [e5]; exact k.at1 h0 n4⟩, ⟨as, k.at1 h2 n7, by rw [e1]; exact h3.imp fun a p q => kt _ _ q⟩, ⟨vs, k.at1 h4 n9, by rw [e2]; exact h5.imp fun v o q => OV.mono q kt⟩, by rw [e4]; exact k.at1 h.re n10, f, h.nd⟩, rfl, k.mono fun b hb => by rw [List.mem_singleton.mp hb]; exact fp_ob A, fun b hb => .inl hb⟩
theorem TCh.trans {C : Addr} {H H1 H2 : Hp} {A A1 A2 : TA} {t1 t2 : T} (a : TCh C H A H1 A1 t1) (b : TCh C H1 A1 H2 A2 t2) : TCh C H A H2 A2 t2 := by
  refine ⟨b.at_, b.o.trans a.o, fun x o e n => b.kp x o (a.kp x o e n) (fun z => ?_), fun x hx => ?_⟩
  · rcases a.nw x z with q | q
    · exact n q
    · rw [q] at e; cases e
  · rcases b.nw x hx with q | q
    · exact a.nw x q
    · cases e : H x with
      | none => exact .inr rfl
      | some o =>
        by_cases hA : x ∈ fpT A
        · exact .inl hA
        · rw [a.kp x o e hA] at q; cases q
theorem TCh.refl {C : Addr} {H : Hp} {A : TA} {t : T} (h : TAt C H A t) : TCh C H A H A t := ⟨h, rfl, Kp.refl _ _, fun b hb => .inl hb⟩
end
end Rg
namespace Rg
open PySem PySem.Spec PyProof.Rows L2
open Mi (T W R All2 gath newT spread)
open Km485 (count without again_)
section
variable {P : Program} {w : World} {K : PySem.W.Frag} {mg : Str → Option Value} {base : Heap} {Z : Adr}
theorem ixn {n i : Nat} (h : i < n) : ixN n ((i : Nat) : Int) = some i := by
  unfold ixN
  rw [if_pos (by omega), if_pos (by omega), Int.toNat_natCast]
def spDrop (Z : Adr) : Sp := fun vs H Q _ => ∃ A t, ∃ i : Nat, vs = [.ref A.o, .int i] ∧ TAt Z.cT H A t ∧ t.obj.length = 6 ∧ (∀ r ∈ t.obj, r < 64) ∧ i < 6 ∧ ∀ (H' : Hp) (A' : TA), TCh Z.cT H A H' A' (t.drop i) → Q .non H'
theorem ok_T_drop_objections_to (T : Tx K mg Z) : Good P w K mg base 1 (Z.f 14) ["self", "i"] (spDrop Z) := by
  refine T.d_T_drop_objections_to.good sc_T_drop_objections_to (fun vs H Q E h => ?_) (fun cdv Ar outer s H vs Q E hr h => ?_)
  · obtain ⟨A, t, i, rfl, _⟩ := h
    rfl
  · obtain ⟨A, t, i, rfl, hT, hl, hlt, hi, k⟩ := h
    refine ⟨_, (pss_one (ps_fldA (pv 0) (pe_lc (own := [("those", 2)]) rfl sc_T_drop_objections_to.nd (pi_list (pv_fld (Y := vT Z) T.clT T.nT_objected (fun a b => tf_objected a b) (pv 0))) (blkOk_by (by kernel_rfl)) (fun _ _ _ _ _ => pg_name (i := 2) sc_T_drop_objections_to.nd rfl (Or.inl rfl)) (fun _ _ _ _ _ => pts_nil) (fun _ _ _ _ _ => (pe_op op_and (pv 2) (pe_un un_inv (pg_bit rfl T.g_BITS T.bits (pv 1)))))) rfl)), ?_⟩
    obtain ⟨dx, ho⟩ := hT.obj
    refine ⟨_, rfl, A, t, rfl, hT, A.ob, rfl, ⟨_, SqL.of hT.ob⟩, fun D hD => ?_⟩
    have hne : A.ob ≠ D := ne_of_none hT.ob hD
    refine lc_list (K := K) (a := A.ob) (xs := nv t.obj) (fun m H' => H' = upd H D (.lst (nv ((t.obj.map fun r => Km485.without r i).take m)))) rfl (fun m H' _ h => by rw [h]; exact SqL.of ((upd_ne hne).trans hT.ob)) ?_ ?_
    · rintro m x H' hx rfl
      obtain ⟨hm, rfl⟩ := nv_get hx
      refine ⟨rfl, _, rfl, _, rfl, i, rfl, hi, _, rfl, _, _, rfl, rfl, _, upd_same, small1 (by rw [nv_len, List.length_take]; omega), ?_⟩
      rw [upd_upd, ← take_map_snoc hm]
      show upd H D (.lst (_ ++ [V.int (Builtin.bitAnd _ (Builtin.bitNot _))])) = _
      rw [bit_clear _ (Mi.getD_lt (by decide) hlt m) i hi]
    · rintro H' rfl
      rw [nv_len, List.take_of_length_le (by rw [List.length_map]; exact Nat.le_refl _)]
      have nod : A.o ≠ D := ne_of_none ho hD
      refine ⟨_, rfl, A.o, Z.cT, dx, _, rfl, (upd_ne nod).trans ho, T.clT, T.nT_objected, (by show 7 < 1000; decide), fun H3 f3 k3 => ?_⟩
      rw [put_objected] at f3
      have sD := same_upd (o := .lst (nv (t.obj.map fun r => Km485.without r i))) hD
      have hT2 := hT.mono sD
      obtain ⟨n1, n2, n3, n4, n5, n6, n7, n8, n9, n10⟩ := hT.ne
      have kt : ∀ b l, H b = some (.tup l) → H3 b = some (.tup l) := fun b l e => k3.at1 (sD _ _ e) fun z => by rw [z, ho] at e; cases e
      obtain ⟨as, h2, h3⟩ := hT.ar
      obtain ⟨vs, h4, h5⟩ := hT.of
      refine k H3 { A with ob := D } ⟨⟨⟨dx, f3⟩, ⟨as, k3.at1 (sD _ _ h2) n1.symm, h3.imp fun a p q => kt _ _ q⟩, ⟨vs, k3.at1 (sD _ _ h4) n2.symm, h5.imp fun v o q => OV.mono q kt⟩, k3.at1 (sD _ _ hT.re) n3.symm, k3.at1 upd_same nod.symm, ?_⟩, rfl, fun b o e n => k3.at1 (sD _ _ e) fun z => n (by rw [z]; exact fp_o A), fun b hb => ?_⟩
      · have m1 : A.ar ≠ D := ne_of_none h2 hD
        have m2 : A.of ≠ D := ne_of_none h4 hD
        have m3 : A.re ≠ D := ne_of_none hT.re hD
        simp [fpT, n1, n2, n3, nod, n5, n6, m1, n8, m2, m3]
      · rcases (by simpa [fpT] using hb : b = A.o ∨ b = A.ar ∨ b = A.of ∨ b = A.re ∨ b = D) with e | e | e | e | e <;> rw [e]
        · exact .inl (fp_o A)
        · exact .inl (fp_ar A)
        · exact .inl (fp_of A)
        · exact .inl (fp_re A)
        · exact .inr hD
def spLeave (Z : Adr) : Sp := fun vs H Q _ => ∃ A t, ∃ i : Nat, vs = [.ref A.o, .int i] ∧ TAt Z.cT H A t ∧ t.obj.length = 6 ∧ t.res.length = 6 ∧ t.mem < 64 ∧ (∀ r ∈ t.obj, r < 64) ∧ i < 6 ∧ ∀ (H' : Hp) (A' : TA), TCh Z.cT H A H' A' (t.leave i) → Q .non H'
theorem ok_T_leave (T : Tx K mg Z) : Good P w K mg base 2 (Z.f 15) ["self", "i"] (spLeave Z) := by
  refine T.d_T_leave.good sc_T_leave (fun vs H Q E h => ?_) (fun cdv Ar outer s H vs Q E hr h => ?_)
  · obtain ⟨A, t, i, rfl, _⟩ := h
    rfl
  · obtain ⟨A, t, i, rfl, hT, hl, hrl, hm, hlt, hi, k⟩ := h
    refine ⟨_, (pss_cons (ps_fldaugA (pv 0) (pe_un un_inv (pg_bit rfl T.g_BITS T.bits (pv 1))) iop_and) (pss_cons (ps_asg pe_int (pg_sub (pv_fld (Y := vT Z) T.clT T.nT_reserved (fun a b => tf_reserved a b) (pv 0)) (pv 1) set_listA)) (pss_cons (ps_asg pe_int (pg_sub (pv_fld (Y := vT Z) T.clT T.nT_objected (fun a b => tf_objected a b) (pv 0)) (pv 1) set_listA)) (pss_one (ps_expr (pv_meth (Y := vT Z) (pv 0) T.clT T.m_T_drop_objections_to (fun a b => no_T a b (by decide +kernel)) (ok_T_drop_objections_to (P := P) (w := w) (base := base) T) (hr.mono (by decide)) (pa_cons (pv 1) pa_nil))))))), ?_⟩
    obtain ⟨dx, ho⟩ := hT.obj
    refine ⟨_, rfl, A.o, Z.cT, dx, _, _, rfl, ho, T.clT, T.nT_members, tf_members A t, _, rfl, i, rfl, hi, _, rfl, _, _, rfl, rfl, dx, _, ho, (by show 7 < 1000; decide), fun H1 f1 k1 => ?_⟩
    have f1 : H1 A.o = some (.ins Z.cT dx (putF "members" (.int (Builtin.bitAnd ((t.mem : Nat) : Int) (Builtin.bitNot ((2 ^ i : Nat) : Int)))) (tf A t))) := f1
    rw [bit_clear _ hm i hi, put_members] at f1
    have c1 : TCh Z.cT H A H1 A { t with mem := without t.mem i } := hT.wo f1 k1 rfl rfl rfl rfl
    refine ⟨_, rfl, A, _, rfl, c1.at_, _, rfl, A.re, _, _, i, rfl, rfl, c1.at_.re, ixn (by rw [nv_len]; show i < t.res.length; omega), fun H2 f2 k2 => ?_⟩
    have c2 := c1.at_.wre (t' := { t with mem := without t.mem i, res := t.res.set i 0 }) (f2.trans (congrArg (fun z => some (HO.lst z)) (nv_set t.res i 0))) k2 rfl
    refine ⟨_, rfl, A, _, rfl, c2.at_, _, rfl, A.ob, _, _, i, rfl, rfl, c2.at_.ob, ixn (by rw [nv_len]; show i < t.obj.length; omega), fun H3 f3 k3 => ?_⟩
    have c3 := c2.at_.wob (t' := { t with mem := without t.mem i, res := t.res.set i 0, obj := t.obj.set i 0 }) (f3.trans (congrArg (fun z => some (HO.lst z)) (nv_set t.obj i 0))) k3 rfl
    refine ⟨_, rfl, A, _, rfl, c3.at_, _, rfl, A, _, i, rfl, c3.at_, by show (t.obj.set i 0).length = 6; rw [List.length_set]; exact hl, Mi.mem_set_lt hlt (by decide), hi, fun H4 A4 c4 => ?_⟩
    exact k H4 A4 (((c1.trans c2).trans c3).trans c4)
def spUnres (Z : Adr) : Sp := fun vs H Q _ => ∃ A t, ∃ i a : Nat, vs = [.ref A.o, .int i, .int a] ∧ TAt Z.cT H A t ∧ t.obj.length = 6 ∧ t.res.length = 6 ∧ (∀ r ∈ t.res, r < 64) ∧ (∀ r ∈ t.obj, r < 64) ∧ i < 6 ∧ a < 6 ∧ ∀ (H' : Hp) (A' : TA), TCh Z.cT H A H' A' (t.unreserve i a) → Q .non H'
theorem eq_zero (a : Nat) : decide (V.int ((a : Nat) : Int) = V.int 0) = (a == 0) := eq_int2 a 0
theorem ok_T_unreserve (T : Tx K mg Z) : Good P w K mg base 2 (Z.f 16) ["self", "i", "a"] (spUnres Z) := by
  refine T.d_T_unreserve.good sc_T_unreserve (fun vs H Q E h => ?_) (fun cdv Ar outer s H vs Q E hr h => ?_)
  · obtain ⟨A, t, i, a, rfl, _⟩ := h
    rfl
  · obtain ⟨A, t, i, a, rfl, hT, hl, hrl, hrt, hlt, hi, ha, k⟩ := h
    refine ⟨_, (pss_cons (ps_augS (pv_fld (Y := vT Z) T.clT T.nT_reserved (fun a b => tf_reserved a b) (pv 0)) (pv 1) get_list (pe_un un_inv (pg_bit rfl T.g_BITS T.bits (pv 2))) iop_and set_listA) (pss_one (ps_if (pt_cmpR op_eq (pe_ix ix_list (pv_fld (Y := vT Z) T.clT T.nT_reserved (fun a b => tf_reserved a b) (pv 0)) (pv 1) (fun _ _ => rfl)) pe_int (nomark _)) (pss_one (ps_expr (pv_meth (Y := vT Z) (pv 0) T.clT T.m_T_drop_objections_to (fun a b => no_T a b (by decide +kernel)) (ok_T_drop_objections_to (P := P) (w := w) (base := base) T) (hr.mono (by decide)) (pa_cons (pv 1) pa_nil)))) pss_nil))), ?_⟩
    have hir : i < t.res.length := by omega
    have h64 : t.rsv i < 64 := Mi.getD_lt (by decide) hrt i
    refine ⟨_, rfl, A, t, rfl, hT, _, rfl, A.re, _, _, _, rfl, rfl, SqL.of hT.re, atI_nat (nv_at hir), _, rfl, a, rfl, ha, _, rfl, _, _, rfl, rfl, A.re, _, _, i, rfl, rfl, hT.re, ixn (by rw [nv_len]; exact hir), fun H1 f1 k1 => ?_⟩
    have f1 : H1 A.re = some (.lst ((nv t.res).set i (.int (Builtin.bitAnd ((t.rsv i : Nat) : Int) (Builtin.bitNot ((2 ^ a : Nat) : Int)))))) := f1
    rw [bit_clear _ h64 a ha, nv_set] at f1
    have c1 := hT.wre (t' := { t with res := t.res.set i (without (t.rsv i) a) }) f1 k1 rfl
    have hg : (t.res.set i (without (t.rsv i) a)).getD i 0 = without (t.rsv i) a := by rw [Mi.getD_set _ _ _ _ _ hir, if_pos rfl]
    refine ⟨_, rfl, A, _, rfl, c1.at_, _, rfl, A.re, _, _, _, rfl, rfl, SqL.of c1.at_.re, atI_nat (nv_at (by show i < (t.res.set _ _).length; rw [List.length_set]; exact hir)), rfl, _, rfl, iteB (fun h => ?_) fun h => ?_⟩
    · have h : decide (V.int (((t.res.set i (without (t.rsv i) a)).getD i 0 : Nat) : Int) = V.int 0) = true := h
      rw [hg, eq_zero] at h
      have hz : without (t.rsv i) a = 0 := by simpa using h
      refine ⟨_, rfl, A, _, rfl, c1.at_, _, rfl, A, _, i, rfl, c1.at_, hl, hlt, hi, fun H4 A4 c4 => ?_⟩
      have e : t.unreserve i a = ({ t with res := t.res.set i (without (t.rsv i) a) } : Mi.T).drop i := by unfold Mi.T.unreserve; exact if_pos hz
      rw [← e] at c4
      exact k H4 A4 (c1.trans c4)
    · have h : decide (V.int (((t.res.set i (without (t.rsv i) a)).getD i 0 : Nat) : Int) = V.int 0) = false := h
      rw [hg, eq_zero] at h
      have hz : ¬ without (t.rsv i) a = 0 := by simpa using h
      have e : t.unreserve i a = { t with res := t.res.set i (without (t.rsv i) a) } := by unfold Mi.T.unreserve; exact if_neg hz
      rw [← e] at c1
      exact k H1 A c1
def mix (f : Nat → Nat) (l : List Nat) (m : Nat) : List Nat := (l.take m).map f ++ l.drop m
theorem mix_len (f : Nat → Nat) (l : List Nat) (m : Nat) : (mix f l m).length = l.length := by
  unfold mix
  rw [List.length_append, List.length_map, List.length_take, List.length_drop]
  omega
theorem mix_at {f : Nat → Nat} {l : List Nat} {m : Nat} (h : m < l.length) : (mix f l m).getD m 0 = l.getD m 0 := by
  unfold mix
  have e : ((l.take m).map f).length = m := by rw [List.length_map, List.length_take]; omega
  rw [List.getD_eq_getElem?_getD, List.getElem?_append_right (by omega), e, Nat.sub_self, List.getElem?_drop, Nat.add_zero, List.getD_eq_getElem?_getD]
theorem mix_succ {f : Nat → Nat} {l : List Nat} {m : Nat} (h : m < l.length) : mix f l (m + 1) = (mix f l m).set m (f (l.getD m 0)) := by
  unfold mix
  have e : ((l.take m).map f).length = m := by rw [List.length_map, List.length_take]; omega
  rw [List.set_append_right _ _ (by omega), e, Nat.sub_self, List.take_add_one, List.getElem?_eq_getElem h, List.drop_eq_getElem_cons h, List.set_cons_zero, List.getD_eq_getElem?_getD, List.getElem?_eq_getElem h, List.map_append, List.append_assoc]
  rfl
def spTake (Z : Adr) : Sp := fun vs H Q _ => ∃ A t, ∃ n i : Nat, vs = [.ref A.o, .int n, .int i] ∧ TAt Z.cT H A t ∧ t.obj.length = 6 ∧ t.res.length = 6 ∧ n < 6 ∧ i < 6 ∧ ∀ (H' : Hp) (A' : TA), TCh Z.cT H A H' A' (t.takeAfter n i) → Q .non H'
theorem ok_T_take_after (T : Tx K mg Z) : Good P w K mg base 2 (Z.f 17) ["self", "new", "i"] (spTake Z) := by
  refine T.d_T_take_after.good sc_T_take_after (fun vs H Q E h => ?_) (fun cdv Ar outer s H vs Q E hr h => ?_)
  · obtain ⟨A, t, n, i, rfl, _⟩ := h
    rfl
  · obtain ⟨A, t, n, i, rfl, hT, hl, hrl, hn, hi, k⟩ := h
    refine ⟨_, (pss_cons (ps_if (pt_tr (pv_meth (Y := vT Z) (pv 0) T.clT T.m_T_is_member (fun a b => no_T a b (by decide +kernel)) (ok_T_is_member (P := P) (w := w) (base := base) T) (hr.mono (by decide)) (pa_cons (pv 2) pa_nil))) (pss_one (ps_fldaugA (pv 0) (pg_bit rfl T.g_BITS T.bits (pv 1)) iop_or)) pss_nil) (pss_cons (ps_asg (pe_ix ix_list (pv_fld (Y := vT Z) T.clT T.nT_reserved (fun a b => tf_reserved a b) (pv 0)) (pv 2) (fun _ _ => rfl)) (pg_sub (pv_fld (Y := vT Z) T.clT T.nT_reserved (fun a b => tf_reserved a b) (pv 0)) (pv 1) set_listA)) (pss_cons (ps_asg (pe_ix ix_list (pv_fld (Y := vT Z) T.clT T.nT_objected (fun a b => tf_objected a b) (pv 0)) (pv 2) (fun _ _ => rfl)) (pg_sub (pv_fld (Y := vT Z) T.clT T.nT_objected (fun a b => tf_objected a b) (pv 0)) (pv 1) set_listA)) (pss_one (ps_for PassesOwn.never rfl (pi_range1 rfl T.b_range (pa_cons (pe_callB call_len_seq (by rfl) T.b_len boot_len (pa_cons (pg_ref rfl T.g_BITS) pa_nil)) pa_nil)) (pg_name (i := 3) sc_T_take_after.nd rfl (Or.inl rfl)) (pss_one (ps_if (pt_tr (pv_meth (Y := vT Z) (pv 0) T.clT T.m_T_objects (fun a b => no_T a b (by decide +kernel)) (ok_T_objects (P := P) (w := w) (base := base) T) (hr.mono (by decide)) (pa_cons (pv 3) (pa_cons (pv 2) pa_nil)))) (pss_one (ps_augS (pv_fld (Y := vT Z) T.clT T.nT_objected (fun a b => tf_objected a b) (pv 0)) (pv 3) get_list (pg_bit rfl T.g_BITS T.bits (pv 1)) iop_or set_listA)) pss_nil))))))), ?_⟩
    obtain ⟨dx, ho⟩ := hT.obj
    refine ⟨_, rfl, A, t, rfl, hT, _, rfl, A, t, i, rfl, hT, hi, _, rfl, iteB (fun h => ?b1) (fun h => ?b2)⟩
    case' b1 =>
      refine ⟨_, rfl, A.o, Z.cT, dx, _, _, rfl, ho, T.clT, T.nT_members, tf_members A t, _, rfl, n, rfl, hn, _, _, rfl, rfl, dx, _, ho, (by show 7 < 1000; decide), fun H1 f1 k1 => ?_⟩
      have f1 : H1 A.o = some (.ins Z.cT dx (putF "members" (.int (Builtin.bitOr ((t.mem : Nat) : Int) ((2 ^ n : Nat) : Int))) (tf A t))) := f1
      rw [bitOr_nat, put_members] at f1
      have c1 : TCh Z.cT H A H1 A { t with mem := if t.mem.testBit i = true then t.mem ||| 2 ^ n else t.mem } := by
        rw [if_pos h]
        exact hT.wo f1 k1 rfl rfl rfl rfl
    case' b2 =>
      have c1 : TCh Z.cT H A H A { t with mem := if t.mem.testBit i = true then t.mem ||| 2 ^ n else t.mem } := by
        rw [if_neg (by rw [h]; decide)]
        exact TCh.refl hT
    all_goals
      have hir : i < t.res.length := by omega
      have hnr : n < t.res.length := by omega
      have hio : i < t.obj.length := by omega
      have hno : n < t.obj.length := by omega
      refine ⟨_, rfl, A, _, rfl, c1.at_, _, rfl, A.re, _, _, _, rfl, rfl, SqL.of c1.at_.re, atI_nat (nv_at hir), ?_⟩
      refine ⟨_, rfl, A, _, rfl, c1.at_, _, rfl, A.re, _, _, n, rfl, rfl, c1.at_.re, ixn (by rw [nv_len]; exact hnr), fun H2 f2 k2 => ?_⟩
      have c2 := c1.at_.wre (t' := { t with mem := if t.mem.testBit i = true then t.mem ||| 2 ^ n else t.mem, res := t.res.set n (t.rsv i) }) (f2.trans (congrArg (fun z => some (HO.lst z)) (nv_set t.res n (t.rsv i)))) k2 rfl
      refine ⟨_, rfl, A, _, rfl, c2.at_, _, rfl, A.ob, _, _, _, rfl, rfl, SqL.of c2.at_.ob, atI_nat (nv_at hio), ?_⟩
      refine ⟨_, rfl, A, _, rfl, c2.at_, _, rfl, A.ob, _, _, n, rfl, rfl, c2.at_.ob, ixn (by rw [nv_len]; exact hno), fun H3 f3 k3 => ?_⟩
      have c3 := (c1.trans c2).trans (c2.at_.wob (t' := { t with mem := if t.mem.testBit i = true then t.mem ||| 2 ^ n else t.mem, res := t.res.set n (t.rsv i), obj := t.obj.set n (t.row i) }) (f3.trans (congrArg (fun z => some (HO.lst z)) (nv_set t.obj n (t.row i)))) k3 rfl)
      have hl1 : (t.obj.set n (t.row i)).length = 6 := by rw [List.length_set]; exact hl
      refine ⟨Z.bits, _, rfl, .inr (T.bits.sq _), _, rfl, by decide, by decide, ?_⟩
      refine for_range (lo := 0) (n := ((bitsV.length : Nat) : Int).toNat) (fun m σ H' => ∃ v, σ = [some (.ref A.o), some (.int (n : Nat)), some (.int (i : Nat)), v] ∧ TCh Z.cT H A H' A { t with mem := if t.mem.testBit i = true then t.mem ||| 2 ^ n else t.mem, res := t.res.set n (t.rsv i), obj := mix (spread n i) (t.obj.set n (t.row i)) m }) ⟨none, rfl, c3⟩ ?_ ?_
      · rintro m σ H' hm ⟨v, rfl, c⟩
        have hm6 : m < 6 := hm
        have ez : (0 : Int) + (m : Nat) = ((m : Nat) : Int) := Int.zero_add _
        rw [ez]
        have hml : m < (t.obj.set n (t.row i)).length := by omega
        have er : (mix (spread n i) (t.obj.set n (t.row i)) m).getD m 0 = (t.obj.set n (t.row i)).getD m 0 := mix_at hml
        have hml2 : m < (mix (spread n i) (t.obj.set n (t.row i)) m).length := by rw [mix_len]; exact hml
        refine ⟨_, rfl, A, _, rfl, c.at_, _, rfl, _, rfl, A, _, m, i, rfl, c.at_, (mix_len _ _ _).trans hl1, hm6, hi, _, rfl, iteB (fun h => ?_) fun h => ?_⟩
        · have h : ((mix (spread n i) (t.obj.set n (t.row i)) m).getD m 0).testBit i = true := h
          refine ⟨_, rfl, A, _, rfl, c.at_, _, rfl, A.ob, _, _, _, rfl, rfl, SqL.of c.at_.ob, atI_nat (nv_at hml2), _, rfl, n, rfl, hn, _, _, rfl, rfl, A.ob, _, _, m, rfl, rfl, c.at_.ob, ixn (by rw [nv_len]; exact hml2), fun H4 f4 k4 => ⟨some (.int (m : Nat)), rfl, ?_⟩⟩
          have f4 : H4 A.ob = some (.lst ((nv (mix (spread n i) (t.obj.set n (t.row i)) m)).set m (.int (Builtin.bitOr (((mix (spread n i) (t.obj.set n (t.row i)) m).getD m 0 : Nat) : Int) ((2 ^ n : Nat) : Int))))) := f4
          rw [bitOr_nat, nv_set] at f4
          refine c.trans (c.at_.wob ?_ k4 rfl)
          rw [f4]
          show some (HO.lst (nv _)) = some (HO.lst (nv (mix _ _ (m + 1))))
          rw [mix_succ hml]
          rw [er] at h ⊢
          unfold spread
          rw [if_pos h]
        · have h : ((mix (spread n i) (t.obj.set n (t.row i)) m).getD m 0).testBit i = false := h
          refine ⟨some (.int (m : Nat)), rfl, ?_⟩
          have e : mix (spread n i) (t.obj.set n (t.row i)) (m + 1) = mix (spread n i) (t.obj.set n (t.row i)) m := by
            rw [mix_succ hml]
            apply Mi.set_self
            rw [er] at h ⊢
            unfold spread
            rw [if_neg (by rw [h]; decide)]
          rw [e]
          exact c
      · rintro σ H' ⟨v, rfl, c⟩
        have e : mix (spread n i) (t.obj.set n (t.row i)) ((bitsV.length : Nat) : Int).toNat = (t.obj.set n (t.row i)).map (spread n i) := by
          unfold mix
          have h6 : ((bitsV.length : Nat) : Int).toNat = 6 := rfl
          rw [h6, List.take_of_length_le (by omega), List.drop_of_length_le (by omega), List.append_nil]
        rw [e] at c
        exact k H' A c
end
end Rg
namespace Rg
open PySem PySem.Spec PyProof.Rows L2
open Mi (T W R All2 gath newT newW RW RT)
open Km485 (count again_)
section
variable {P : Program} {w : World} {K : PySem.W.Frag} {mg : Str → Option Value} {base : Heap} {Z : Adr}
def spFavours (Z : Adr) : Sp := fun vs H Q _ => ∃ B v, ∃ i j : Nat, vs = [.ref B.o, .int i, .int j] ∧ WAt Z.cT Z.cW H B v ∧ v.fav.length = 6 ∧ i < 6 ∧ j < 6 ∧ Q (.bl ((v.favs i).testBit j)) H
theorem ok_W_favours (T : Tx K mg Z) : Good P w K mg base 1 (Z.f 24) ["self", "i", "j"] (spFavours Z) := by
  refine T.d_W_favours.good sc_W_favours (fun vs H Q E h => ?_) (fun cdv Ar outer s H vs Q E hr h => ?_)
  · obtain ⟨B, v, i, j, rfl, _⟩ := h
    rfl
  · obtain ⟨B, v, i, j, rfl, hW, hl, hi, hj, k⟩ := h
    refine ⟨_, (pss_one (ps_ret (pe_cmpR op_ne (pe_op op_and (pe_ix ix_list (pv_fld (Y := vW Z) T.clW T.nW_favoured (fun a b => wf_favoured a b) (pv 0)) (pv 1) (fun _ _ => rfl)) (pg_bit rfl T.g_BITS T.bits (pv 2))) pe_int (nomark _)))), ?_⟩
    refine ⟨_, rfl, B, v, rfl, hW, _, rfl, _, _, _, _, rfl, rfl, SqL.of hW.fl, atI_nat (nv_at (by omega)), _, rfl, j, rfl, hj, _, _, rfl, rfl, rfl, ?_⟩
    rw [ne_bit]
    exact k
def spAllFav (Z : Adr) : Sp := fun vs H Q _ => ∃ B v, vs = [.ref B.o] ∧ WAt Z.cT Z.cW H B v ∧ v.fav.length = 6 ∧ ∀ H', Same H H' → Q (.int (v.allFav : Nat)) H'
theorem ok_W_all_favours (T : Tx K mg Z) : Good P w K mg base 2 (Z.f 25) ["self"] (spAllFav Z) := by
  refine T.d_W_all_favours.good sc_W_all_favours (fun vs H Q E h => ?_) (fun cdv Ar outer s H vs Q E hr h => ?_)
  · obtain ⟨B, v, rfl, _⟩ := h
    rfl
  · obtain ⟨B, v, rfl, hW, hl, k⟩ := h
    refine ⟨_, (pss_one (ps_ret (pe_callB (cr_sum rfl) (by rfl) T.b_sum boot_sum (pa_cons (pe_lc (own := [("those", 1)]) rfl sc_W_all_favours.nd (pi_list (pv_fld (Y := vW Z) T.clW T.nW_favoured (fun a b => wf_favoured a b) (pv 0))) (blkOk_by (by kernel_rfl)) (fun _ _ _ _ _ => pg_name (i := 1) sc_W_all_favours.nd rfl (Or.inl rfl)) (fun _ _ _ _ _ => pts_nil) (fun _ _ _ _ _ => (pg_call (ok_size (P := P) (w := w) (base := base) T) (hr.mono (by decide)) rfl T.g_size (pa_cons (pv 1) pa_nil)))) pa_nil)))), ?_⟩
    refine ⟨_, rfl, B, v, rfl, hW, B.fl, rfl, ⟨_, SqL.of hW.fl⟩, fun D hD => ?_⟩
    refine lc_list (K := K) (a := B.fl) (xs := nv v.fav) (fun i H' => Same H H' ∧ H' D = some (.lst (nv ((v.fav.map count).take i)))) ⟨same_upd hD, upd_same⟩ (fun i H' _ h => SqL.of (h.1 _ _ hW.fl)) ?_ ?_
    · rintro i x H' hx ⟨s1, hDl⟩
      obtain ⟨hi, rfl⟩ := nv_get hx
      refine ⟨rfl, ?_⟩
      refine ⟨_, rfl, _, rfl, fun H2 s2 => ?_⟩
      refine ⟨_, s2 _ _ hDl, small1 (by rw [nv_len, List.length_take]; omega), same_upd2 (s1.trans s2) hD, ?_⟩
      rw [upd_same, take_map_snoc hi]
    · rintro H' ⟨s1, hDl⟩
      rw [nv_len, List.take_of_length_le (by rw [List.length_map]; exact Nat.le_refl _)] at hDl
      refine ⟨D, (v.fav.map count).map (fun (n : Nat) => (n : Int)), rfl, SqL.of (by rw [hDl, nv_map]), ?_⟩
      rw [sum_cast]
      exact k H' s1
theorem ts_get {CT CW : Addr} {H : Hp} {B : WA} {v : W} (h : WAt CT CW H B v) {i : Nat} {x : V} (hx : (B.ts.map fun A => V.ref A.o)[i]? = some x) : ∃ A, B.ts[i]? = some A ∧ x = .ref A.o ∧ i < v.ts.length ∧ TAt CT H A (v.tr i) := by
  have hi : i < B.ts.length := by have := (List.getElem?_eq_some_iff.mp hx).1; simpa using this
  have hl := h.ts.len
  obtain ⟨A, h1, h2⟩ := h.tr (i := i) (by omega)
  rw [List.getElem?_map, h1] at hx
  exact ⟨A, h1, (Option.some.inj hx).symm, by omega, h2⟩
theorem tr_get {v : W} {i : Nat} (hi : i < v.ts.length) : v.ts[i]? = some (v.tr i) := by
  unfold Mi.W.tr
  rw [List.getD_eq_getElem?_getD, List.getElem?_eq_getElem hi]
  rfl
def spTurns (Z : Adr) : Sp := fun vs H Q _ => ∃ B v, vs = [.ref B.o] ∧ WAt Z.cT Z.cW H B v ∧ v.ts.length ≤ 4 ∧ ∀ H', Same H H' → Q (.int (v.turns : Nat)) H'
theorem ok_W_turns (T : Tx K mg Z) : Good P w K mg base 2 (Z.f 23) ["self"] (spTurns Z) := by
  refine T.d_W_turns.good sc_W_turns (fun vs H Q E h => ?_) (fun cdv Ar outer s H vs Q E hr h => ?_)
  · obtain ⟨B, v, rfl, _⟩ := h
    rfl
  · obtain ⟨B, v, rfl, hW, hl, k⟩ := h
    refine ⟨_, (pss_one (ps_ret (pe_callB call_len_seq (by rfl) T.b_len boot_len (pa_cons (pe_lc (own := [("treaty", 1)]) rfl sc_W_turns.nd (pi_list (pv_fld (Y := vW Z) T.clW T.nW_treaties (fun a b => wf_treaties a b) (pv 0))) (blkOk_by (by kernel_rfl)) (fun _ _ _ _ _ => pg_name (i := 1) sc_W_turns.nd rfl (Or.inl rfl)) (fun _ _ _ _ _ => pts_one (pt_tr (pv_meth0 (Y := vT Z) (pv 1) T.clT T.m_T_concluded (fun a b => no_T a b (by decide +kernel)) (ok_T_concluded (P := P) (w := w) (base := base) T) (hr.mono (by decide))))) (fun _ _ _ _ _ => (pv 1))) pa_nil)))), ?_⟩
    refine ⟨_, rfl, B, v, rfl, hW, B.tl, rfl, ⟨_, SqL.of hW.tl⟩, fun D hD => ?_⟩
    have hlen := hW.ts.len
    have nD : B.tl ≠ D := ne_of_none hW.tl hD
    refine lc_list (K := K) (a := B.tl) (xs := B.ts.map fun A => V.ref A.o) (fun m H' => ∃ l, H' = upd H D (.lst l) ∧ l.length = ((v.ts.take m).filter fun t => decide (0 < t.turn)).length) ⟨[], rfl, rfl⟩ (fun i H' _ ⟨l, e, _⟩ => by rw [e]; exact SqL.of ((upd_ne nD).trans hW.tl)) ?_ ?_
    · rintro m x H' hx ⟨l, rfl, hll⟩
      obtain ⟨A, hA, rfl, hm, hT⟩ := ts_get hW hx
      have sD := same_upd (o := .lst l) hD
      have et : v.ts.take (m + 1) = v.ts.take m ++ [v.tr m] := by rw [List.take_add_one, tr_get hm]; rfl
      refine ⟨rfl, _, rfl, A, _, rfl, hT.mono sD, A, _, rfl, hT.mono sD, _, rfl, iteB (fun h => ?_) fun h => ?_⟩
      · have hb : l.length ≤ 1000 := by rw [hll]; exact Nat.le_trans (List.length_filter_le _ _) (by rw [List.length_take]; omega)
        refine ⟨_, rfl, _, upd_same, small1 hb, l ++ [.ref A.o], upd_upd, ?_⟩
        rw [et, List.filter_append, List.length_append, List.length_append, hll, List.filter_cons, if_pos h]
        rfl
      · refine ⟨l, rfl, ?_⟩
        rw [et, List.filter_append, List.length_append, hll, List.filter_cons, if_neg (by rw [h]; decide)]
        rfl
    · rintro H' ⟨l, rfl, hll⟩
      rw [List.length_map, hlen, List.take_length] at hll
      refine ⟨D, _, rfl, .inl (SqL.of upd_same), ?_⟩
      rw [hll]
      exact k _ (same_upd hD)
def spAmount (Z : Adr) : Sp := fun vs H Q _ => ∃ B v, ∃ t a : Nat, vs = [.ref B.o, .int t, .int a] ∧ WAt Z.cT Z.cW H B v ∧ t < v.ts.length ∧ a < (v.tr t).arts.length ∧ Q (.int (v.amount t a : Nat)) H
theorem tl_at {CT CW : Addr} {H : Hp} {B : WA} {v : W} (h : WAt CT CW H B v) {i : Nat} (hi : i < v.ts.length) : ∃ A, B.ts[i]? = some A ∧ (B.ts.map fun A => V.ref A.o)[i]? = some (.ref A.o) ∧ TAt CT H A (v.tr i) := by
  obtain ⟨A, h1, h2⟩ := h.tr hi
  exact ⟨A, h1, by rw [List.getElem?_map, h1]; rfl, h2⟩
theorem ok_W_amount (T : Tx K mg Z) : Good P w K mg base 1 (Z.f 28) ["self", "t", "a"] (spAmount Z) := by
  refine T.d_W_amount.good sc_W_amount (fun vs H Q E h => ?_) (fun cdv Ar outer s H vs Q E hr h => ?_)
  · obtain ⟨B, v, t, a, rfl, _⟩ := h
    rfl
  · obtain ⟨B, v, t, a, rfl, hW, ht, ha, k⟩ := h
    refine ⟨_, (pss_one (ps_ret (pe_ix ix_tup (pe_ix ix_list (pv_fld (Y := vT Z) T.clT T.nT_articles (fun a b => tf_articles a b) (pe_ix ix_list (pv_fld (Y := vW Z) T.clW T.nW_treaties (fun a b => wf_treaties a b) (pv 0)) (pv 1) (fun _ _ => rfl))) (pv 2) (fun _ _ => rfl)) pe_int (fun _ _ => rfl)))), ?_⟩
    obtain ⟨A, hA, hx, hT⟩ := tl_at hW ht
    obtain ⟨as, har, has⟩ := hT.ar
    have hal : a < as.length := by rw [has.len]; exact ha
    obtain ⟨x, rfl, hp⟩ : ∃ y, as[a]'hal = y ∧ H y = some (.tup (pr ((v.tr t).arts.getD a (0, 0)))) := by
      obtain ⟨p, h1, h2⟩ := has.get (List.getElem?_eq_getElem hal)
      refine ⟨_, rfl, ?_⟩
      rw [List.getD_eq_getElem?_getD, h1]
      exact h2
    refine ⟨_, rfl, B, v, rfl, hW, _, rfl, B.tl, _, _, _, rfl, rfl, SqL.of hW.tl, atI_nat hx, A, _, rfl, hT, _, rfl, A.ar, _, _, _, rfl, rfl, SqL.of har, atI_nat (by rw [List.getElem?_map, List.getElem?_eq_getElem hal]; rfl), _, _, _, _, rfl, rfl, SqT.of hp, pair1 _, k⟩
def spAhead (Z : Adr) : Sp := fun vs H Q _ => ∃ B v b, ∃ i j s : Nat, vs = [.ref B.o, .int i, .int j, .int s] ∧ WAt Z.cT Z.cW H B v ∧ RW v b ∧ i < 6 ∧ j < 6 ∧ ∀ (H' : Hp) (x : V), Same H H' → OV H' x (v.ahead i j s) → Q x H'
theorem ok_W_ahead (T : Tx K mg Z) : Good P w K mg base 5 (Z.f 27) ["self", "i", "j", "s"] (spAhead Z) := by
  refine T.d_W_ahead.good sc_W_ahead (fun vs H Q E h => ?_) (fun cdv Ar outer s H vs Q E hr h => ?_)
  · obtain ⟨B, v, b, i, j, n, rfl, _⟩ := h
    rfl
  · obtain ⟨B, v, b, i, j, n, rfl, hW, hR, hi, hj, k⟩ := h
    refine ⟨_, (pss_cons (ps_set (i := 4) sc_W_ahead.nd rfl (Or.inl rfl) pe_non) (pss_cons (ps_set (i := 5) sc_W_ahead.nd rfl (Or.inl rfl) pe_int) (pss_cons (ps_for PassesOwn.never rfl (pi_enum rfl T.b_enumerate (pa_cons (pv_fld (Y := vW Z) T.clW T.nW_treaties (fun a b => wf_treaties a b) (pv 0)) pa_nil)) (pg_tup rfl (pgs_cons (pg_name (i := 6) sc_W_ahead.nd rfl (Or.inl rfl)) (pgs_cons (pg_name (i := 7) sc_W_ahead.nd rfl (Or.inl rfl)) pgs_nil))) (pss_cons (ps_set (i := 8) sc_W_ahead.nd rfl (Or.inl rfl) (pv_meth (Y := vT Z) (pv 7) T.clT T.m_T_last_applying (fun a b => no_T a b (by decide +kernel)) (ok_T_last_applying (P := P) (w := w) (base := base) T) (hr.mono (by decide)) (pa_cons (pv 1) (pa_cons (pv 2) (pa_cons (pv 3) pa_nil))))) (pss_one (ps_if (PW.pt (pw_and (pt_cmp (pc_notN (pv 8))) (pw_and1 (pt_cmpR op_gt (pv_fld (Y := vT Z) T.clT T.nT_turn (fun a b => tf_turn a b) (pv 7)) (pv 5) (nomark _))))) (pss_cons (ps_set (i := 4) sc_W_ahead.nd rfl (Or.inl rfl) (pe_tup (pa_cons (pv 6) (pa_cons (pv 8) pa_nil)))) (pss_one (ps_set (i := 5) sc_W_ahead.nd rfl (Or.inl rfl) (pv_fld (Y := vT Z) T.clT T.nT_turn (fun a b => tf_turn a b) (pv 7))))) pss_nil)))) (pss_one (ps_ret (pv 4)))))), ?_⟩
    have hlen := hW.ts.len
    refine ⟨_, rfl, B, v, rfl, hW, B.tl, _, rfl, SqL.of hW.tl, ?_⟩
    refine for_enum (K := K) (a := B.tl) (xs := B.ts.map fun A => V.ref A.o) (fun m σ H' => ∃ x v6 v7 v8, σ = [some (.ref B.o), some (.int (i : Nat)), some (.int (j : Nat)), some (.int (n : Nat)), some x, some (.int ((v.aheadTo i j n m).2 : Nat)), v6, v7, v8] ∧ OV H' x (v.aheadTo i j n m).1 ∧ Same H H')
      ⟨.non, none, none, none, rfl, rfl, Same.refl _⟩ (fun m σ H' _ ⟨_, _, _, _, _, _, s1⟩ => SqL.of (s1 _ _ hW.tl)) ?_ ?_
    · rintro m x σ H' U hx ⟨y, v6, v7, v8, rfl, hy, s1⟩ hU
      obtain ⟨A, hA, rfl, hm, hT⟩ := ts_get hW hx
      have hRT := hR.tr hm
      have sU := same_upd (o := .tup [.int (m : Nat), V.ref A.o]) hU
      have s2 := s1.trans sU
      refine ⟨U, _, rfl, SqT.of upd_same, rfl, _, _, rfl, _, _, rfl, rfl, ?_⟩
      refine ⟨_, rfl, A, _, rfl, hT.mono s2, _, rfl, _, rfl, _, rfl, A, _, i, j, n, rfl, hT.mono s2, hRT.lb, hRT.lr, hRT.al, hi, hj, fun H3 s3 => ?_⟩
      have s4 := s2.trans s3
      have hy4 : OV H3 y (v.aheadTo i j n m).1 := OV.mono hy fun a l e => s3 _ _ (sU _ _ e)
      have es := Mi.W.aheadTo_succ v i j n m
      cases q : (v.tr m).last i j n with
      | none =>
        rw [q] at es
        refine ⟨_, rfl, _, rfl, iteF (iteF ⟨y, some (.int (m : Nat)), some (.ref A.o), some .non, ?_, ?_, s4⟩)⟩
        · rw [es]; rfl
        · rw [es]; exact hy4
      | some a =>
        rw [q] at es
        refine ⟨_, rfl, _, rfl, ?_⟩
        refine ⟨_, rfl, A, _, rfl, hT.mono s4, _, rfl, _, _, rfl, rfl, _, rfl, iteB (fun h => ?_) fun h => ?_⟩
        · have h : decide ((((v.aheadTo i j n m).2 : Nat) : Int) < (((v.tr m).turn : Nat) : Int)) = true := h
          rw [dec_lt] at h
          have h := of_decide_eq_true h
          simp only [h, if_true] at es
          refine ⟨_, rfl, _, rfl, (by show 2 ≤ sizeLine; decide), fun p hp => ?_⟩
          refine ⟨_, rfl, A, _, rfl, hT.mono (s4.trans (same_upd hp)), .ref p, some (.int (m : Nat)), some (.ref A.o), some (.int (a : Nat)), ?_, ?_, s4.trans (same_upd hp)⟩
          · rw [es]; rfl
          · rw [es]; exact ⟨p, rfl, upd_same⟩
        · have h : decide ((((v.aheadTo i j n m).2 : Nat) : Int) < (((v.tr m).turn : Nat) : Int)) = false := h
          rw [dec_lt] at h
          have h := of_decide_eq_false h
          simp only [h, if_false] at es
          refine ⟨y, some (.int (m : Nat)), some (.ref A.o), some (.int (a : Nat)), ?_, ?_, s4⟩
          · rw [es]; rfl
          · rw [es]; exact hy4
    · rintro σ H' ⟨y, v6, v7, v8, rfl, hy, s1⟩
      rw [List.length_map, hlen] at hy
      exact ⟨_, rfl, k H' y s1 hy⟩
def spAllowed (Z : Adr) : Sp := fun vs H Q _ => ∃ B v b, ∃ i j s : Nat, vs = [.ref B.o, .int i, .int j, .int s] ∧ WAt Z.cT Z.cW H B v ∧ RW v b ∧ i < 6 ∧ j < 6 ∧ i ≠ j ∧ ∀ H' : Hp, Same H H' → Q (.int (v.allowed i j s : Nat)) H'
theorem ok_W_allowed (T : Tx K mg Z) : Good P w K mg base 6 (Z.f 29) ["self", "i", "j", "s"] (spAllowed Z) := by
  refine T.d_W_allowed.good sc_W_allowed (fun vs H Q E h => ?_) (fun cdv Ar outer s H vs Q E hr h => ?_)
  · obtain ⟨B, v, b, i, j, n, rfl, _⟩ := h
    rfl
  · obtain ⟨B, v, b, i, j, n, rfl, hW, hR, hi, hj, hij, k⟩ := h
    refine ⟨_, (pss_cons (ps_set (i := 4) sc_W_allowed.nd rfl (Or.inl rfl) (pv_meth (Y := vW Z) (pv 0) T.clW T.m_W_ahead (fun a b => no_W a b (by decide +kernel)) (ok_W_ahead (P := P) (w := w) (base := base) T) (hr.mono (by decide)) (pa_cons (pv 1) (pa_cons (pv 2) (pa_cons (pv 3) pa_nil))))) (pss_one (ps_ret (pe_ifExp (pt_cmp (pc_isN (pv 4))) (pg_int rfl T.g_MOST_TAKEN) (pv_meth (Y := vW Z) (pv 0) T.clW T.m_W_amount (fun a b => no_W a b (by decide +kernel)) (ok_W_amount (P := P) (w := w) (base := base) T) (hr.mono (by decide)) (pa_cons (pe_ix ix_tup (pv 4) pe_int (fun _ _ => rfl)) (pa_cons (pe_ix ix_tup (pv 4) pe_int (fun _ _ => rfl)) pa_nil))))))), ?_⟩
    refine ⟨_, rfl, B, v, rfl, hW, _, rfl, _, rfl, _, rfl, B, v, b, i, j, n, rfl, hW, hR, hi, hj, fun H1 x s1 hx => ?_⟩
    unfold Mi.W.allowed at k
    cases q : v.ahead i j n with
    | none =>
      rw [q] at hx k
      have hx : x = .non := hx
      subst hx
      exact ⟨_, rfl, _, rfl, k H1 s1⟩
    | some y =>
      rw [q] at hx k
      obtain ⟨p, rfl, hp⟩ := hx
      obtain ⟨y1, y2⟩ := hR.ahead_in hij n q
      have hW1 := hW.mono s1
      exact ⟨_, rfl, _, rfl, ⟨_, rfl, B, v, rfl, hW1, _, rfl, _, _, _, _, rfl, rfl, SqT.of hp, pair0 y, _, rfl, _, _, _, _, rfl, rfl, SqT.of hp, pair1 y, B, v, y.1, y.2, rfl, hW1, y1, y2, k H1 s1⟩⟩
end
end Rg
namespace Rg
open PySem PySem.Spec PyProof.Rows L2
open Mi (T W R All2 gath newT newW RW RT)
open Km485 (count again_)
section
variable {P : Program} {w : World} {K : PySem.W.Frag} {mg : Str → Option Value} {base : Heap} {Z : Adr}
def spTakes (Z : Adr) : Sp := fun vs H Q _ => ∃ B v b, ∃ i j s : Nat, vs = [.ref B.o, .int i, .int j, .int s] ∧ WAt Z.cT Z.cW H B v ∧ RW v b ∧ i < v.n ∧ j < v.n ∧ i ≠ j ∧ ∀ H' : Hp, Same H H' → Q (.int (v.takes i j s : Nat)) H'
def oth (v : W) (i s m : Nat) : List Nat := ((List.range m).filter fun k => !(k == i)).map fun k => v.allowed i k s
theorem oth_succ (v : W) (i s m : Nat) : oth v i s (m + 1) = if (!(m == i)) = true then oth v i s m ++ [v.allowed i m s] else oth v i s m := by
  unfold oth
  rw [List.range_succ, List.filter_append]
  by_cases h : (!(m == i)) = true
  · rw [if_pos h]; simp [h]
  · rw [if_neg h]; simp [h]
theorem oth_len (v : W) (i s m : Nat) : (oth v i s m).length ≤ m := by
  unfold oth
  rw [List.length_map]
  exact Nat.le_trans (List.length_filter_le _ _) (by simp)
theorem nv_snoc (l : List Nat) (x : Nat) : nv l ++ [V.int (x : Nat)] = nv (l ++ [x]) := by
  unfold nv
  rw [List.map_append]
  rfl
theorem ok_W_takes (T : Tx K mg Z) : Good P w K mg base 7 (Z.f 30) ["self", "i", "j", "s"] (spTakes Z) := by
  refine T.d_W_takes.good sc_W_takes (fun vs H Q E h => ?_) (fun cdv Ar outer s H vs Q E hr h => ?_)
  · obtain ⟨B, v, b, i, j, n, rfl, _⟩ := h
    rfl
  · obtain ⟨B, v, b, i, j, n, rfl, hW, hR, hi, hj, hij, k⟩ := h
    refine ⟨_, (pss_cons (ps_if (pt_tr (pv_meth (Y := vW Z) (pv 0) T.clW T.m_W_favours (fun a b => no_W a b (by decide +kernel)) (ok_W_favours (P := P) (w := w) (base := base) T) (hr.mono (by decide)) (pa_cons (pv 1) (pa_cons (pv 2) pa_nil)))) (pss_one (ps_ret (pe_callB (cr_min rfl) (by rfl) T.b_min boot_min (pa_cons (pe_lc (own := [("k", 4)]) rfl sc_W_takes.nd (pi_range1 rfl T.b_range (pa_cons (pv_fld (Y := vW Z) T.clW T.nW_states (fun a b => wf_states a b) (pv 0)) pa_nil)) (blkOk_by (by kernel_rfl)) (fun _ _ _ _ _ => pg_name (i := 4) sc_W_takes.nd rfl (Or.inl rfl)) (fun _ _ _ _ _ => pts_one (pt_cmpR op_ne (pv 4) (pv 1) (nomark _))) (fun _ _ _ _ _ => (pv_meth (Y := vW Z) (pv 0) T.clW T.m_W_allowed (fun a b => no_W a b (by decide +kernel)) (ok_W_allowed (P := P) (w := w) (base := base) T) (hr.mono (by decide)) (pa_cons (pv 1) (pa_cons (pv 4) (pa_cons (pv 3) pa_nil)))))) pa_nil)))) pss_nil) (pss_one (ps_ret (pv_meth (Y := vW Z) (pv 0) T.clW T.m_W_allowed (fun a b => no_W a b (by decide +kernel)) (ok_W_allowed (P := P) (w := w) (base := base) T) (hr.mono (by decide)) (pa_cons (pv 1) (pa_cons (pv 2) (pa_cons (pv 3) pa_nil))))))), ?_⟩
    have n6 := hR.n6
    refine ⟨_, rfl, B, v, rfl, hW, _, rfl, _, rfl, B, v, i, j, rfl, hW, hR.lf, by omega, by omega, _, rfl, iteB (fun h => ?_) fun h => ?_⟩
    · unfold Mi.W.takes at k
      rw [if_pos h] at k
      refine ⟨_, rfl, B, v, rfl, hW, _, rfl, by omega, by omega, fun D hD => ?_⟩
      refine lc_range (lo := 0) (n := ((v.n : Nat) : Int).toNat) (fun m H' => Same H H' ∧ H' D = some (.lst (nv (oth v i n m)))) ⟨same_upd hD, upd_same⟩ ?_ ?_
      · rintro m H' hm ⟨s1, hDl⟩
        have hm : m < v.n := by rw [Int.toNat_natCast] at hm; exact hm
        have ez : (0 : Int) + (m : Nat) = ((m : Nat) : Int) := Int.zero_add _
        rw [ez]
        refine ⟨rfl, _, rfl, _, rfl, rfl, _, rfl, iteB (fun h1 => ?_) fun h1 => ?_⟩
        · have h1 : (!decide (V.int ((m : Nat) : Int) = V.int ((i : Nat) : Int))) = true := h1
          rw [ne_int] at h1
          have hmi : m ≠ i := by simpa using h1
          refine ⟨_, rfl, B, v, rfl, hW.mono s1, _, rfl, _, rfl, _, rfl, B, v, b, i, m, n, rfl, hW.mono s1, hR, by omega, by omega, fun z => hmi z.symm, fun H2 s2 => ?_⟩
          refine ⟨_, s2 _ _ hDl, small1 (by rw [nv_len]; exact Nat.le_trans (oth_len v i n m) (by omega)), same_upd2 (s1.trans s2) hD, ?_⟩
          rw [upd_same, oth_succ, if_pos h1, nv_snoc]
        · have h1 : (!decide (V.int ((m : Nat) : Int) = V.int ((i : Nat) : Int))) = false := h1
          rw [ne_int] at h1
          refine ⟨s1, ?_⟩
          rw [oth_succ, if_neg (by rw [h1]; decide)]
          exact hDl
      · rintro H' ⟨s1, hDl⟩
        rw [Int.toNat_natCast] at hDl
        have eo : oth v i n v.n = v.others i n := rfl
        rw [eo] at hDl
        have hmem := v.mem_others (i := i) (j := j) (fun z => hij z.symm) hj n
        refine ⟨D, (v.others i n).map (fun (x : Nat) => (x : Int)), rfl, SqL.of (by rw [hDl, nv_map]), by rw [List.length_map]; exact List.length_pos_of_mem hmem, fun m hm hle => ?_⟩
        obtain ⟨m0, hm0, rfl⟩ := List.mem_map.mp hm
        have e := v.min_is (i := i) (j := j) (fun z => hij z.symm) hj n hm0 (fun y hy => by
          have := hle _ (List.mem_map_of_mem hy)
          omega)
        rw [e] at k
        exact k H' s1
    · unfold Mi.W.takes at k
      rw [if_neg (by rw [h]; decide)] at k
      exact ⟨_, rfl, B, v, rfl, hW, _, rfl, _, rfl, _, rfl, B, v, b, i, j, n, rfl, hW, hR, by omega, by omega, hij, k⟩
def spWInit (Z : Adr) : Sp := fun vs H Q _ => ∃ p dx, ∃ n : Nat, vs = [.ref p, .int n] ∧ H p = some (.ins Z.cW dx []) ∧ ∀ (H' : Hp) (B : WA), B.o = p → B.ts = [] → WAt Z.cT Z.cW H' B (newW n) → (∀ b ∈ fpW B, b = p ∨ H b = none) → Kp [p] H H' → Q .non H'
theorem ok_W_init (T : Tx K mg Z) : Good P w K mg base 1 (Z.f 21) ["self", "states"] (spWInit Z) := by
  refine T.d_W_init.good sc_W_init (fun vs H Q E h => ?_) (fun cdv Ar outer s H vs Q E hr h => ?_)
  · obtain ⟨p, dx, n, rfl, _⟩ := h
    rfl
  · obtain ⟨p, dx, n, rfl, hp, k⟩ := h
    refine ⟨_, (pss_cons (ps_fldA (pv 0) (pv 1) rfl) (pss_cons (ps_fldA (pv 0) (pe_lst pa_nil) rfl) (pss_one (ps_fldA (pv 0) (pe_op op_rep (pe_lst (pa_cons pe_int pa_nil)) (pg_int rfl T.g_MOST_STATES)) rfl)))), ?_⟩
    refine ⟨_, rfl, _, rfl, p, Z.cW, dx, [], rfl, hp, T.clW, T.nW_states, (by decide), fun H1 f1 k1 => ?_⟩
    have l1 := lput (f := "states") (v := .int (n : Nat)) (Nat.le_refl ([] : List (Str × V)).length)
    refine ⟨Nat.zero_le _, fun a ha => ?_⟩
    have pa : p ≠ a := ne_of_none f1 ha
    refine ⟨_, rfl, p, Z.cW, dx, _, rfl, (upd_ne pa).trans f1, T.clW, T.nW_treaties, Nat.lt_of_le_of_lt l1 (by decide), fun H2 f2 k2 => ?_⟩
    have l2 := lput (f := "treaties") (v := .ref a) l1
    have fa2 : H2 a = some (.lst []) := k2.at1 upd_same (fun z => pa z.symm)
    have kk2 : Kp [p] H H2 := (k1.trans (Same.kp (same_upd ha) _)).trans k2
    refine ⟨(by decide), fun q hq => ⟨q, _, _, rfl, rfl, upd_same, (by decide), (by decide), (by decide), fun b hb => ?_⟩⟩
    have sq := same_upd (o := .lst [V.int 0]) hq
    have sb := sq.trans (same_upd (o := .lst (List.replicate (6 : Int).toNat [V.int 0]).flatten) hb)
    have pb : p ≠ b := ne_of_none (sq _ _ f2) hb
    have ab : a ≠ b := ne_of_none (sq _ _ fa2) hb
    refine ⟨_, rfl, p, Z.cW, dx, _, rfl, sb _ _ f2, T.clW, T.nW_favoured, Nat.lt_of_le_of_lt l2 (by decide), fun H3 f3 k3 => ?_⟩
    have fb3 : H3 b = some (.lst (nv (List.replicate 6 0))) := k3.at1 upd_same (fun z => pb z.symm)
    have fa3 : H3 a = some (.lst []) := k3.at1 (sb _ _ fa2) (fun z => pa z.symm)
    have hb0 : H b = none := kk2.free (sq.free hb) (fun z => pb (List.mem_singleton.mp z).symm)
    have ha0 : H a = none := k1.free ha (fun z => pa (List.mem_singleton.mp z).symm)
    have kk3 : Kp [p] H H3 := (kk2.trans (Same.kp sb _)).trans k3
    rw [init_wf n p a b [] [] (List.replicate 6 0)] at f3
    refine k H3 ⟨p, a, b, []⟩ rfl rfl ⟨⟨dx, f3⟩, fa3, fb3, .nil, ?_⟩ ?_ kk3
    · simp [fpW, pa, pb, ab]
    · intro x hx
      rcases (by simpa [fpW] using hx : x = p ∨ x = a ∨ x = b) with e | e | e <;> rw [e]
      · exact .inl rfl
      · exact .inr ha0
      · exact .inr hb0
structure WCh (CT CW : Addr) (H : Hp) (B : WA) (H' : Hp) (B' : WA) (v' : W) : Prop where
  at_ : WAt CT CW H' B' v'
  o : B'.o = B.o
  kp : Kp (fpW B) H H'
  nw : ∀ b ∈ fpW B', b ∈ fpW B ∨ H b = none
theorem WCh.refl {CT CW : Addr} {H : Hp} {B : WA} {v : W} (h : WAt CT CW H B v) : WCh CT CW H B H B v := ⟨h, rfl, Kp.refl _ _, fun b hb => .inl hb⟩
theorem WCh.trans {CT CW : Addr} {H H1 H2 : Hp} {B B1 B2 : WA} {v1 v2 : W} (a : WCh CT CW H B H1 B1 v1) (b : WCh CT CW H1 B1 H2 B2 v2) : WCh CT CW H B H2 B2 v2 := by
  refine ⟨b.at_, b.o.trans a.o, fun x o e n => b.kp x o (a.kp x o e n) (fun z => ?_), fun x hx => ?_⟩
  · rcases a.nw x z with q | q
    · exact n q
    · rw [q] at e; cases e
  · rcases b.nw x hx with q | q
    · exact a.nw x q
    · cases e : H x with
      | none => exact .inr rfl
      | some o =>
        by_cases hA : x ∈ fpW B
        · exact .inl hA
        · rw [a.kp x o e hA] at q; cases q
theorem TCh.same {C : Addr} {H H1 H2 : Hp} {A A2 : TA} {t2 : T} (s : Same H H1) (b : TCh C H1 A H2 A2 t2) : TCh C H A H2 A2 t2 :=
  ⟨b.at_, b.o, fun x o e n => b.kp x o (s x o e) n, fun x hx => (b.nw x hx).imp id fun q => s.free q⟩
theorem WCh.after {CT CW : Addr} {H H1 H2 : Hp} {B B1 : WA} {v1 : W} (a : WCh CT CW H B H1 B1 v1) (s : Same H1 H2) : WCh CT CW H B H2 B1 v1 :=
  ⟨a.at_.mono s, a.o, fun x o e n => s x o (a.kp x o e n), a.nw⟩
theorem nd_flat {l : List TA} (h : (l.flatMap fpT).Nodup) : ∀ {i j : Nat} {A A' : TA}, l[i]? = some A → l[j]? = some A' → i ≠ j → ∀ x ∈ fpT A, x ∉ fpT A' := by
  induction l with
  | nil => intro i j A A' h1; simp at h1
  | cons a l ih =>
    rw [List.flatMap_cons, List.nodup_append] at h
    obtain ⟨n1, n2, n3⟩ := h
    intro i j A A' h1 h2 hij x hx hx'
    cases i with
    | zero =>
      simp at h1
      subst h1
      cases j with
      | zero => exact hij rfl
      | succ j => exact n3 x hx x (List.mem_flatMap.mpr ⟨A', List.mem_of_getElem? (by simpa using h2), hx'⟩) rfl
    | succ i =>
      cases j with
      | zero =>
        simp at h2
        subst h2
        exact n3 x hx' x (List.mem_flatMap.mpr ⟨A, List.mem_of_getElem? (by simpa using h1), hx⟩) rfl
      | succ j => exact ih n2 (by simpa using h1) (by simpa using h2) (by omega) x hx hx'
theorem nd_build {l : List TA} (h1 : ∀ A ∈ l, (fpT A).Nodup) (h2 : ∀ (i j : Nat) (A A' : TA), l[i]? = some A → l[j]? = some A' → i ≠ j → ∀ x ∈ fpT A, x ∉ fpT A') : (l.flatMap fpT).Nodup := by
  induction l with
  | nil => simp
  | cons a l ih =>
    rw [List.flatMap_cons, List.nodup_append]
    refine ⟨h1 a List.mem_cons_self, ih (fun A hA => h1 A (List.mem_cons_of_mem _ hA)) (fun i j A A' e1 e2 hij => h2 (i + 1) (j + 1) A A' (by simpa using e1) (by simpa using e2) (by omega)), fun x hx y hy => ?_⟩
    obtain ⟨A, hA, hyA⟩ := List.mem_flatMap.mp hy
    obtain ⟨j, hj⟩ := List.getElem?_of_mem hA
    rintro rfl
    exact h2 0 (j + 1) a A rfl (by simpa using hj) (by omega) x hx hyA
theorem nd_W {B : WA} (h : (fpW B).Nodup) : B.o ≠ B.tl ∧ B.o ≠ B.fl ∧ B.tl ≠ B.fl ∧ (∀ A ∈ B.ts, B.o ∉ fpT A ∧ B.tl ∉ fpT A ∧ B.fl ∉ fpT A) ∧ (B.ts.flatMap fpT).Nodup := by
  unfold fpW at h
  rw [List.nodup_cons, List.nodup_cons, List.nodup_cons] at h
  obtain ⟨h1, h2, h3, h4⟩ := h
  simp only [List.mem_cons, not_or] at h1 h2
  have q : ∀ x, x ∉ B.ts.flatMap fpT → ∀ A ∈ B.ts, x ∉ fpT A := fun x hx A hA z => hx (List.mem_flatMap.mpr ⟨A, hA, z⟩)
  exact ⟨h1.1, h1.2.1, h2.1, fun A hA => ⟨q _ h1.2.2 A hA, q _ h2.2 A hA, q _ h3 A hA⟩, h4⟩
theorem nd_W' {B : WA} (a : B.o ≠ B.tl) (b : B.o ≠ B.fl) (c : B.tl ≠ B.fl) (d : ∀ A ∈ B.ts, B.o ∉ fpT A ∧ B.tl ∉ fpT A ∧ B.fl ∉ fpT A) (e : (B.ts.flatMap fpT).Nodup) : (fpW B).Nodup := by
  unfold fpW
  have q : ∀ x, (∀ A ∈ B.ts, x ∉ fpT A) → x ∉ B.ts.flatMap fpT := fun x hx z => by obtain ⟨A, hA, h⟩ := List.mem_flatMap.mp z; exact hx A hA h
  rw [List.nodup_cons, List.nodup_cons, List.nodup_cons]
  simp only [List.mem_cons, not_or]
  exact ⟨⟨a, b, q _ fun A hA => (d A hA).1⟩, ⟨c, q _ fun A hA => (d A hA).2.1⟩, q _ fun A hA => (d A hA).2.2, e⟩
end
end Rg
namespace Rg
open PySem PySem.Spec PyProof.Rows L2
open Mi (T W R All2 gath newT newW RW RT)
open Km485 (count again_)
section
variable {P : Program} {w : World} {K : PySem.W.Frag} {mg : Str → Option Value} {base : Heap} {Z : Adr}
theorem all2_of {α β : Type} {P : α → β → Prop} : ∀ {l : List α} {m : List β}, l.length = m.length → (∀ (j : Nat) (a : α) (b : β), l[j]? = some a → m[j]? = some b → P a b) → All2 P l m
  | [], [], _, _ => .nil
  | [], _ :: _, h, _ => by simp at h
  | _ :: _, [], h, _ => by simp at h
  | a :: l, b :: m, h, f => .cons (f 0 a b rfl rfl) (all2_of (by simpa using h) fun j a b h1 h2 => f (j + 1) a b (by simpa using h1) (by simpa using h2))
theorem all2_at {α β : Type} {P : α → β → Prop} {l : List α} {m : List β} (h : All2 P l m) {j : Nat} {a : α} {b : β} (h1 : l[j]? = some a) (h2 : m[j]? = some b) : P a b := by
  obtain ⟨c, e, p⟩ := h.get h1
  rw [h2] at e
  cases e
  exact p
theorem WAt.step {CT CW : Addr} {H H' : Hp} {B : WA} {v : W} {i : Nat} {A A' : TA} {t' : T} (h : WAt CT CW H B v) (hA : B.ts[i]? = some A) (c : TCh CT H A H' A' t') : WCh CT CW H B H' { B with ts := B.ts.set i A' } { v with ts := v.ts.set i t' } := by
  obtain ⟨a1, a2, a3, a4, a5⟩ := nd_W h.nd
  have mA := List.mem_of_getElem? hA
  obtain ⟨m1, m2, m3⟩ := a4 A mA
  obtain ⟨dx, ho⟩ := h.obj
  obtain ⟨t, _, hT⟩ := h.ts.get hA
  have hi : i < B.ts.length := (List.getElem?_eq_some_iff.mp hA).1
  have kt : ∀ b l, H b = some (.tup l) → H' b = some (.tup l) := fun b l e => c.kp b _ e fun z => by obtain ⟨o, e2, n⟩ := hT.there b z; rw [e] at e2; exact n l (Option.some.inj e2).symm
  have hold : ∀ x ∈ fpT A', ∀ y ∈ fpW B, y ∉ fpT A → x ≠ y := fun x hx y hy hn e => by
    rcases c.nw x hx with q | q
    · exact hn (e ▸ q)
    · obtain ⟨o, e2, _⟩ := h.there y hy; rw [← e, q] at e2; cases e2
  have hoth : ∀ (j : Nat) (A2 : TA), B.ts[j]? = some A2 → j ≠ i → ∀ x ∈ fpT A2, x ∉ fpT A := fun j A2 e n => nd_flat a5 e hA n
  have hts : All2 (TAt CT H') (B.ts.set i A') (v.ts.set i t') := by
    refine all2_of (by rw [List.length_set, List.length_set]; exact h.ts.len) fun j A2 t2 e1 e2 => ?_
    by_cases hj : i = j
    · subst hj
      rw [List.getElem?_set_self hi] at e1
      rw [List.getElem?_set_self (by rw [← h.ts.len]; exact hi)] at e2
      cases e1
      cases e2
      exact c.at_
    · rw [List.getElem?_set_ne hj] at e1 e2
      exact (all2_at h.ts e1 e2).keep (fun x hx o e => c.kp x o e (hoth j A2 e1 (fun z => hj z.symm) x hx)) kt
  have hmap : (B.ts.set i A').map (fun A => V.ref A.o) = B.ts.map fun A => V.ref A.o := by
    rw [List.map_set]
    apply List.ext_getElem?
    intro j
    by_cases hj : i = j
    · subst hj
      rw [List.getElem?_set_self (by rw [List.length_map]; exact hi), List.getElem?_map, hA, c.o]
      rfl
    · rw [List.getElem?_set_ne hj]
  refine ⟨⟨⟨dx, c.kp _ _ ho m1⟩, ?_, c.kp _ _ h.fl m3, hts, ?_⟩, rfl, c.kp.mono fun b hb => mem_fpW mA hb, fun b hb => ?_⟩
  · show H' B.tl = some (.lst ((B.ts.set i A').map _))
    rw [hmap]
    exact c.kp _ _ h.tl m2
  · refine nd_W' a1 a2 a3 (fun A2 hA2 => ?_) (nd_build (fun A2 hA2 => ?_) fun j k A2 A3 e1 e2 hjk x hx hx3 => ?_)
    · rcases List.mem_or_eq_of_mem_set hA2 with q | q
      · exact a4 A2 q
      · subst q
        exact ⟨fun z => hold _ z B.o (by simp [fpW]) m1 rfl, fun z => hold _ z B.tl (by simp [fpW]) m2 rfl, fun z => hold _ z B.fl (by simp [fpW]) m3 rfl⟩
    · rcases List.mem_or_eq_of_mem_set hA2 with q | q
      · obtain ⟨j, hj⟩ := List.getElem?_of_mem q
        obtain ⟨t2, _, h2⟩ := h.ts.get hj
        exact h2.nd
      · subst q; exact c.at_.nd
    · by_cases hj : i = j
      · subst hj
        rw [List.getElem?_set_self hi] at e1
        cases e1
        rw [List.getElem?_set_ne hjk] at e2
        exact hold x hx x (mem_fpW (List.mem_of_getElem? e2) hx3) (hoth k A3 e2 (fun z => hjk z.symm) x hx3) rfl
      · rw [List.getElem?_set_ne hj] at e1
        by_cases hk : i = k
        · subst hk
          rw [List.getElem?_set_self hi] at e2
          cases e2
          exact hold x hx3 x (mem_fpW (List.mem_of_getElem? e1) hx) (hoth j A2 e1 (fun z => hj z.symm) x hx) rfl
        · rw [List.getElem?_set_ne hk] at e2
          exact nd_flat a5 e1 e2 hjk x hx hx3
  · have : b = B.o ∨ b = B.tl ∨ b = B.fl ∨ ∃ A2 ∈ B.ts.set i A', b ∈ fpT A2 := by simpa [fpW] using hb
    rcases this with e | e | e | ⟨A2, hA2, e⟩
    · exact .inl (by rw [e]; simp [fpW])
    · exact .inl (by rw [e]; simp [fpW])
    · exact .inl (by rw [e]; simp [fpW])
    · rcases List.mem_or_eq_of_mem_set hA2 with q | q
      · exact .inl (mem_fpW q e)
      · subst q
        exact (c.nw b e).imp (fun z => mem_fpW mA z) id
theorem WAt.wn {CT CW : Addr} {H H' : Hp} {B : WA} {v : W} {dx : Addr} {n : Nat} (h : WAt CT CW H B v) (f : H' B.o = some (.ins CW dx (wf B { v with n := n }))) (k : Kp [B.o] H H') : WCh CT CW H B H' B { v with n := n } := by
  obtain ⟨a1, a2, a3, a4, a5⟩ := nd_W h.nd
  obtain ⟨d0, ho⟩ := h.obj
  have kt := k.tup ho (fun l z => by cases z)
  refine ⟨⟨⟨dx, f⟩, k.at1 h.tl a1.symm, k.at1 h.fl a2.symm, All2.mem_imp h.ts fun A t hA q => q.keep (fun a ha o e => k.at1 e fun z => (a4 A hA).1 (z ▸ ha)) kt, h.nd⟩, rfl, k.mono fun b hb => by rw [List.mem_singleton.mp hb]; simp [fpW], fun b hb => .inl hb⟩
theorem WAt.wfl {CT CW : Addr} {H H' : Hp} {B : WA} {v : W} {l : List Nat} (h : WAt CT CW H B v) (f : H' B.fl = some (.lst (nv l))) (k : Kp [B.fl] H H') : WCh CT CW H B H' B { v with fav := l } := by
  obtain ⟨a1, a2, a3, a4, a5⟩ := nd_W h.nd
  obtain ⟨d0, ho⟩ := h.obj
  have kt := k.tup h.fl (fun l z => by cases z)
  refine ⟨⟨⟨d0, k.at1 ho a2⟩, k.at1 h.tl a3, f, All2.mem_imp h.ts fun A t hA q => q.keep (fun a ha o e => k.at1 e fun z => (a4 A hA).2.2 (z ▸ ha)) kt, h.nd⟩, rfl, k.mono fun b hb => by rw [List.mem_singleton.mp hb]; simp [fpW], fun b hb => .inl hb⟩
theorem WAt.more {CT CW : Addr} {H H1 H2 : Hp} {B : WA} {v : W} {A : TA} {t : T} (h : WAt CT CW H B v) (s : Same H H1) (hT : TAt CT H1 A t) (hn : ∀ b ∈ fpT A, H b = none) (f : H2 B.tl = some (.lst ((B.ts.map fun A => V.ref A.o) ++ [.ref A.o]))) (k : Kp [B.tl] H1 H2) : WCh CT CW H B H2 { B with ts := B.ts ++ [A] } { v with ts := v.ts ++ [t] } := by
  obtain ⟨a1, a2, a3, a4, a5⟩ := nd_W h.nd
  have h1 := h.mono s
  obtain ⟨d0, ho⟩ := h1.obj
  have kt := k.tup h1.tl (fun l z => by cases z)
  have old : ∀ y ∈ fpW B, y ∉ fpT A := fun y hy z => by obtain ⟨o, e, _⟩ := h.there y hy; rw [hn y z] at e; cases e
  refine ⟨⟨⟨d0, k.at1 ho a1⟩, ?_, k.at1 h1.fl a3.symm, (All2.mem_imp h1.ts fun A2 t2 hA q => q.keep (fun a ha o e => k.at1 e fun z => (a4 A2 hA).2.1 (z ▸ ha)) kt).append (.cons (hT.keep (fun a ha o e => k.at1 e fun z => old B.tl (by simp [fpW]) (z ▸ ha)) kt) .nil), ?_⟩, rfl, fun b o e n => k.at1 (s b o e) fun z => n (by rw [z]; simp [fpW]), fun b hb => ?_⟩
  · show H2 B.tl = some (.lst ((B.ts ++ [A]).map _))
    rw [List.map_append]
    exact f
  · refine nd_W' a1 a2 a3 (fun A2 hA2 => ?_) ?_
    · rcases List.mem_append.mp hA2 with q | q
      · exact a4 A2 q
      · rw [List.mem_singleton] at q
        subst q
        exact ⟨old _ (by simp [fpW]), old _ (by simp [fpW]), old _ (by simp [fpW])⟩
    · show ((B.ts ++ [A]).flatMap fpT).Nodup
      rw [List.flatMap_append, List.nodup_append]
      refine ⟨a5, by simpa using hT.nd, fun x hx y hy => ?_⟩
      rintro rfl
      obtain ⟨A2, hA2, hx2⟩ := List.mem_flatMap.mp hx
      exact old x (mem_fpW hA2 hx2) (by simpa using hy)
  · have : b = B.o ∨ b = B.tl ∨ b = B.fl ∨ (∃ A2 ∈ B.ts, b ∈ fpT A2) ∨ b ∈ fpT A := by simpa [fpW, or_assoc] using hb
    rcases this with e | e | e | ⟨A2, hA2, e⟩ | e
    · exact .inl (by rw [e]; simp [fpW])
    · exact .inl (by rw [e]; simp [fpW])
    · exact .inl (by rw [e]; simp [fpW])
    · exact .inl (mem_fpW hA2 e)
    · exact .inr (hn b e)
def spWPart (Z : Adr) : Sp := fun vs H Q _ => ∃ B v, ∃ i : Nat, ∃ m : Bool, vs = [.ref B.o, .int i, .bl m] ∧ WAt Z.cT Z.cW H B v ∧ (∀ t ∈ v.ts, t.obj.length = 6 ∧ t.res.length = 6) ∧ v.n < 6 ∧ i < 6 ∧ ∀ (H' : Hp) (B' : WA), WCh Z.cT Z.cW H B H' B' (v.part i m) → Q (.int (v.n : Nat)) H'
def mixT (f : T → T) (l : List T) (m : Nat) : List T := (l.take m).map f ++ l.drop m
theorem mixT_at {f : T → T} {l : List T} {m : Nat} (h : m < l.length) : (mixT f l m)[m]? = some l[m] := by
  unfold mixT
  have e : ((l.take m).map f).length = m := by rw [List.length_map, List.length_take]; omega
  rw [List.getElem?_append_right (by omega), e, Nat.sub_self, List.getElem?_drop, Nat.add_zero, List.getElem?_eq_getElem h]
theorem mixT_succ {f : T → T} {l : List T} {m : Nat} (h : m < l.length) : mixT f l (m + 1) = (mixT f l m).set m (f l[m]) := by
  unfold mixT
  have e : ((l.take m).map f).length = m := by rw [List.length_map, List.length_take]; omega
  rw [List.set_append_right _ _ (by omega), e, Nat.sub_self, List.take_add_one, List.getElem?_eq_getElem h, List.drop_eq_getElem_cons h, List.set_cons_zero, List.map_append, List.append_assoc]
  rfl
theorem ok_W_part (T : Tx K mg Z) : Good P w K mg base 3 (Z.f 26) ["self", "i", "with_treaties"] (spWPart Z) := by
  refine T.d_W_part.good sc_W_part (fun vs H Q E h => ?_) (fun cdv Ar outer s H vs Q E hr h => ?_)
  · obtain ⟨B, v, i, m, rfl, _⟩ := h
    rfl
  · obtain ⟨B, v, i, m, rfl, hW, hwf, hn, hi, k⟩ := h
    refine ⟨_, (pss_cons (ps_set (i := 3) sc_W_part.nd rfl (Or.inl rfl) (pv_fld (Y := vW Z) T.clW T.nW_states (fun a b => wf_states a b) (pv 0))) (pss_cons (ps_fldaugA (pv 0) pe_int iop_add) (pss_cons (ps_if (pt_tr (pv 2)) (pss_one (ps_for PassesOwn.never rfl (pi_list (pv_fld (Y := vW Z) T.clW T.nW_treaties (fun a b => wf_treaties a b) (pv 0))) (pg_name (i := 4) sc_W_part.nd rfl (Or.inl rfl)) (pss_one (ps_expr (pv_meth (Y := vT Z) (pv 4) T.clT T.m_T_take_after (fun a b => no_T a b (by decide +kernel)) (ok_T_take_after (P := P) (w := w) (base := base) T) (hr.mono (by decide)) (pa_cons (pv 3) (pa_cons (pv 1) pa_nil))))))) pss_nil) (pss_one (ps_ret (pv 3)))))), ?_⟩
    obtain ⟨dx, ho⟩ := hW.obj
    refine ⟨_, rfl, B, v, rfl, hW, ?_⟩
    refine ⟨_, rfl, B.o, Z.cW, dx, _, _, rfl, ho, T.clW, T.nW_states, wf_states B v, _, _, rfl, rfl, dx, _, ho, (by show 3 < 1000; decide), fun H1 f1 k1 => ?_⟩
    have f1 : H1 B.o = some (.ins Z.cW dx (putF "states" (.int ((v.n : Nat) + 1 : Int)) (wf B v))) := f1
    rw [show ((v.n : Nat) + 1 : Int) = ((v.n + 1 : Nat) : Int) by omega, put_states] at f1
    have c1 := hW.wn f1 k1
    refine ⟨_, rfl, _, rfl, iteB (fun h => ?_) fun h => ?_⟩
    · subst h
      have hlen := hW.ts.len
      refine ⟨_, rfl, B, _, rfl, c1.at_, B.tl, rfl, ⟨_, SqL.of c1.at_.tl⟩, ?_⟩
      refine for_list (K := K) (a := B.tl) (xs := B.ts.map fun A => V.ref A.o) (fun q σ H' => ∃ x ts, σ = [some (.ref B.o), some (.int (i : Nat)), some (.bl true), some (.int (v.n : Nat)), x] ∧ WCh Z.cT Z.cW H B H' { B with ts := ts } { v with n := v.n + 1, ts := mixT (fun t => t.takeAfter v.n i) v.ts q } ∧ ts.map (fun A => V.ref A.o) = B.ts.map fun A => V.ref A.o)
        ⟨none, B.ts, rfl, c1, rfl⟩ (fun q σ H' _ ⟨_, ts, _, c, e⟩ => by have := c.at_.tl; rw [e] at this; exact SqL.of this) ?_ ?_
      · rintro q x σ H' hx ⟨y, ts, rfl, c, e⟩
        rw [← e] at hx
        obtain ⟨A, hA, rfl, hq, hT⟩ := ts_get c.at_ hx
        have hqv : q < v.ts.length := by
          have h2 := (List.getElem?_eq_some_iff.mp hx).1
          rw [e, List.length_map, hlen] at h2
          exact h2
        have hg := mixT_at (f := fun t => t.takeAfter v.n i) hqv
        have et : ({ v with n := v.n + 1, ts := mixT (fun t => t.takeAfter v.n i) v.ts q } : W).tr q = v.ts[q] := by
          show (mixT _ _ _).getD q _ = _
          rw [List.getD_eq_getElem?_getD, hg]
          rfl
        rw [et] at hT
        obtain ⟨w1, w2⟩ := hwf _ (List.getElem_mem hqv)
        refine ⟨_, rfl, A, _, rfl, hT, _, rfl, _, rfl, A, _, v.n, i, rfl, hT, w1, w2, hn, hi, fun H4 A4 c4 => ?_⟩
        have c5 := c.trans (c.at_.step hA c4)
        refine ⟨some (.ref A.o), ts.set q A4, rfl, ?_, ?_⟩
        · rw [mixT_succ hqv]
          exact c5
        · rw [← e, List.map_set]
          apply List.ext_getElem?
          intro j
          by_cases hj : q = j
          · subst hj
            rw [List.getElem?_set_self (by rw [List.length_map]; exact (List.getElem?_eq_some_iff.mp hA).1), List.getElem?_map, hA, c4.o]
            rfl
          · rw [List.getElem?_set_ne hj]
      · rintro σ H' ⟨y, ts, rfl, c, e⟩
        rw [List.length_map, hlen] at c
        refine ⟨_, rfl, k H' { B with ts := ts } ?_⟩
        have e2 : mixT (fun t => t.takeAfter v.n i) v.ts v.ts.length = v.ts.map fun t => t.takeAfter v.n i := by
          unfold mixT
          rw [List.take_length, List.drop_length, List.append_nil]
        rw [e2] at c
        exact c
    · subst h
      exact ⟨_, rfl, k H1 B c1⟩
end
end Rg
namespace Rg
open PySem PySem.Spec PyProof.Rows L2
open Mi (T W R All2 gath newT newW RW RT)
open Km485 (count again_)
section
variable {P : Program} {w : World} {K : PySem.W.Frag} {mg : Str → Option Value} {base : Heap} {Z : Adr}
theorem TAt.upd1 {C : Addr} {H : Hp} {A : TA} {t : T} {D : Addr} {l : List V} {o : HO} (h : TAt C H A t) (hn : D ∉ fpT A) (hD : H D = some (.lst l)) : TAt C (upd H D o) A t :=
  h.keep (fun a ha u e => by rw [upd_ne (show a ≠ D from fun z => hn (z ▸ ha))]; exact e) fun a m e => by rw [upd_ne (show a ≠ D from fun z => by rw [z, hD] at e; cases e)]; exact e
def spWCopied (Z : Adr) : Sp := fun vs H Q _ => ∃ B v, vs = [.ref B.o] ∧ WAt Z.cT Z.cW H B v ∧ v.ts.length ≤ 4 ∧ ∀ (H' : Hp) (B' : WA), WAt Z.cT Z.cW H' B' v → (∀ b ∈ fpW B', H b = none) → Same H H' → Q (.ref B'.o) H'
theorem ok_W_copied (T : Tx K mg Z) : Good P w K mg base 4 (Z.f 22) ["self"] (spWCopied Z) := by
  refine T.d_W_copied.good sc_W_copied (fun vs H Q E h => ?_) (fun cdv Ar outer s H vs Q E hr h => ?_)
  · obtain ⟨B, v, rfl, _⟩ := h
    rfl
  · obtain ⟨B, v, rfl, hW, hl4, k⟩ := h
    refine ⟨_, (pss_cons (ps_set (i := 1) sc_W_copied.nd rfl (Or.inl rfl) (pg_make T.mkW (ok_W_init (P := P) (w := w) (base := base) T) (hr.mono (by decide)) rfl T.g_World (pa_cons (pv_fld (Y := vW Z) T.clW T.nW_states (fun a b => wf_states a b) (pv 0)) pa_nil))) (pss_cons (ps_fldA (pv 1) (pe_lc (own := [("treaty", 2)]) rfl sc_W_copied.nd (pi_list (pv_fld (Y := vW Z) T.clW T.nW_treaties (fun a b => wf_treaties a b) (pv 0))) (blkOk_by (by kernel_rfl)) (fun _ _ _ _ _ => pg_name (i := 2) sc_W_copied.nd rfl (Or.inl rfl)) (fun _ _ _ _ _ => pts_nil) (fun _ _ _ _ _ => (pv_meth0 (Y := vT Z) (pv 2) T.clT T.m_T_copied (fun a b => no_T a b (by decide +kernel)) (ok_T_copied (P := P) (w := w) (base := base) T) (hr.mono (by decide))))) rfl) (pss_cons (ps_fldA (pv 1) (pe_callTy call_list_of (by rfl) T.b_list boot_list (pa_cons (pv_fld (Y := vW Z) T.clW T.nW_favoured (fun a b => wf_favoured a b) (pv 0)) pa_nil)) rfl) (pss_one (ps_ret (pv 1)))))), ?_⟩
    refine ⟨_, rfl, B, v, rfl, hW, fun x dx hx hdx hne => ⟨x, dx, v.n, rfl, upd_same, fun H1 B1 eo et hW1 hnw k1 => ⟨rfl, ?_⟩⟩⟩
    have s1 : Same H H1 := made_same hx hdx k1
    subst eo
    have hlen := hW.ts.len
    obtain ⟨d1, f1⟩ := hW1.obj
    have hWs := hW.mono s1
    refine ⟨_, rfl, B, v, rfl, hWs, B.tl, rfl, ⟨_, SqL.of hWs.tl⟩, fun D hD => ?_⟩
    have nBD : B.tl ≠ D := ne_of_none hWs.tl hD
    refine lc_list (K := K) (a := B.tl) (xs := B.ts.map fun A => V.ref A.o) (fun m H' => ∃ As : List TA, Same H1 H' ∧ H' D = some (.lst (As.map fun A => V.ref A.o)) ∧ All2 (TAt Z.cT H') As (v.ts.take m) ∧ (As.flatMap fpT).Nodup ∧ (∀ b ∈ As.flatMap fpT, H1 b = none ∧ b ≠ D))
      ⟨[], same_upd hD, upd_same, .nil, by simp, fun b hb => by simp at hb⟩ (fun m H' _ ⟨As, s, _⟩ => SqL.of (s _ _ hWs.tl)) ?_ ?_
    · rintro m y H' hy ⟨As, s2, hDl, hAs, hnd, hfr⟩
      obtain ⟨A, hA, rfl, hm, hT⟩ := ts_get hWs hy
      have hT' := hT.mono s2
      have hAl : As.length ≤ 1000 := by rw [hAs.len, List.length_take]; omega
      refine ⟨rfl, _, rfl, A, _, rfl, hT', A, _, rfl, hT', fun H2 A2 hT2 hf2 s3 => ⟨_, s3 _ _ hDl, small1 (by rw [List.length_map]; exact hAl), As ++ [A2], ?_, ?_, ?_, ?_, ?_⟩⟩
      · exact same_upd2 (s2.trans s3) hD
      · rw [upd_same, List.map_append]; rfl
      · have et2 : v.ts.take (m + 1) = v.ts.take m ++ [v.tr m] := by rw [List.take_add_one, tr_get hm]; rfl
        rw [et2]
        refine All2.append (All2.mem_imp hAs fun A3 t3 h3 q => (q.mono s3).upd1 (fun z => (hfr D (List.mem_flatMap.mpr ⟨A3, h3, z⟩)).2 rfl) (s3 _ _ hDl)) (.cons (hT2.upd1 (fun z => by have := hf2 D z; rw [hDl] at this; cases this) (s3 _ _ hDl)) .nil)
      · rw [List.flatMap_append, List.nodup_append]
        refine ⟨hnd, by simpa using hT2.nd, fun x hx' z hz => ?_⟩
        rintro rfl
        obtain ⟨A3, h3, hx3⟩ := List.mem_flatMap.mp hx'
        obtain ⟨j, hj⟩ := List.getElem?_of_mem h3
        obtain ⟨t3, _, q3⟩ := hAs.get hj
        obtain ⟨o, e, _⟩ := q3.there x hx3
        rw [hf2 x (by simpa using hz)] at e
        cases e
      · intro b hb
        rw [List.flatMap_append] at hb
        rcases List.mem_append.mp hb with q | q
        · exact hfr b q
        · have hb2 := hf2 b (by simpa using q)
          refine ⟨s2.free hb2, fun z => ?_⟩
          rw [z, hDl] at hb2
          cases hb2
    · rintro H' ⟨As, s2, hDl, hAs, hnd, hfr⟩
      rw [List.length_map, hlen, List.take_length] at hAs
      have noD : B1.o ≠ D := ne_of_none f1 hD
      have zD : H D = none := s1.free hD
      have f1' := s2 _ _ f1
      refine ⟨_, rfl, B1.o, Z.cW, d1, _, rfl, f1', T.clW, T.nW_treaties, (by show 3 < 1000; decide), fun H4 f4 k4 => ?_⟩
      rw [put_treaties] at f4
      have s4 : Same H H4 := new_write (s1.trans s2) hx (Same.refl _) k4
      have hW4 := hW.mono s4
      have gD := k4.at1 hDl noD.symm
      have no1 : ∀ A ∈ As, B1.o ∉ fpT A := fun A hA z => by have := (hfr _ (List.mem_flatMap.mpr ⟨A, hA, z⟩)).1; rw [f1] at this; cases this
      have hAs4 : All2 (TAt Z.cT H4) As v.ts := All2.mem_imp hAs fun A t hA q => q.keep (fun a ha o e => k4.at1 e fun z => no1 A hA (z ▸ ha)) (k4.tup f1' (fun l z => by cases z))
      refine ⟨_, rfl, B, v, rfl, hW4, B.fl, _, rfl, .inl (SqL.of hW4.fl), fun l hl => ?_⟩
      have n1 : B1.o ≠ l := ne_of_none f4 hl
      have n2 : D ≠ l := ne_of_none gD hl
      have zl : H l = none := s4.free hl
      refine ⟨_, rfl, B1.o, Z.cW, d1, _, rfl, (upd_ne n1).trans f4, T.clW, T.nW_favoured, (by show 3 < 1000; decide), fun H6 f6 k6 => ?_⟩
      rw [put_favoured] at f6
      have s6 : Same H H6 := new_write s4 hx (same_upd hl) k6
      have sl := same_upd (o := .lst (nv v.fav)) hl
      have noA : ∀ A ∈ As, l ∉ fpT A := fun A hA z => by
        obtain ⟨j, hj⟩ := List.getElem?_of_mem hA
        obtain ⟨t3, _, q3⟩ := hAs4.get hj
        obtain ⟨o, e, _⟩ := q3.there l z
        rw [hl] at e
        cases e
      have hAs6 : All2 (TAt Z.cT H6) As v.ts := All2.mem_imp hAs4 fun A t hA q => (q.mono sl).keep (fun a ha o e => k6.at1 e fun z => no1 A hA (z ▸ ha)) (k6.tup (sl _ _ f4) (fun l z => by cases z))
      refine ⟨_, rfl, k H6 ⟨B1.o, D, l, As⟩ ⟨⟨d1, f6⟩, k6.at1 (sl _ _ gD) noD.symm, k6.at1 upd_same n1.symm, hAs6, ?_⟩ ?_ s6⟩
      · exact nd_W' (B := ⟨B1.o, D, l, As⟩) noD n1 n2 (fun A hA => ⟨no1 A hA, fun z => (hfr D (List.mem_flatMap.mpr ⟨A, hA, z⟩)).2 rfl, noA A hA⟩) hnd
      · intro b hb
        have : b = B1.o ∨ b = D ∨ b = l ∨ b ∈ As.flatMap fpT := by simpa [fpW] using hb
        rcases this with e | e | e | e
        · rw [e]; exact hx
        · rw [e]; exact zD
        · rw [e]; exact zl
        · exact s1.free (hfr b e).1
end
end Rg
namespace Rg
open PySem PySem.Spec PyProof.Rows L2
open Mi (T W R All2 gath newT newW RW RT)
open Km485 (count again_)
section
variable {P : Program} {w : World} {K : PySem.W.Frag} {mg : Str → Option Value} {base : Heap} {Z : Adr}
def Chg (Z : Adr) (H : Hp) (B : WA) (Q : VK) (o : Mi.Out) : Prop := ∀ (H' : Hp) (B' : WA) (p : Addr), WCh Z.cT Z.cW H B H' B' o.2 → H' p = some (.lst (o.1.map V.int)) → (∀ b u, H b = some u → b ∉ fpW B → b ≠ p) → Q (.ref p) H'
theorem yes_ret {H H1 : Hp} {B B1 : WA} {Q : VK} {o : Mi.Out} {l : List Int} {v' : W} (k : Chg Z H B Q o) (e : o = (l, v')) (c : WCh Z.cT Z.cW H B H1 B1 v') (hl : l.length ≤ 1000) : (l.map V.int).length ≤ sizeLine ∧ ∀ p, H1 p = none → Q (.ref p) (upd H1 p (.lst (l.map V.int))) := by
  subst e
  refine ⟨Nat.le_of_lt (small1 (by rw [List.length_map]; exact hl)), fun p hp => k _ B1 p (c.after (same_upd hp)) upd_same fun b u e n => ne_of_none (c.kp b u e n) hp⟩
theorem no_ret {H H1 : Hp} {B : WA} {v : W} {Q : VK} {o : Mi.Out} {c : Int} (k : Chg Z H B Q o) (e : o = ([c], v)) (hW : WAt Z.cT Z.cW H B v) (s : Same H H1) : ([V.int c] : List V).length ≤ sizeLine ∧ ∀ p, H1 p = none → Q (.ref p) (upd H1 p (.lst [V.int c])) :=
  yes_ret k e ((WCh.refl hW).after s) (by show 1 ≤ 1000; decide)
def spTreaty (Z : Adr) : Sp := fun vs H Q _ => ∃ B v b, ∃ n : Nat, vs = [.ref B.o, .int n] ∧ WAt Z.cT Z.cW H B v ∧ RW v b ∧ Chg Z H B Q (Mi.opTreaty v n)
theorem ok_rt_treaty (T : Tx K mg Z) : Good P w K mg base 3 (Z.f 31) ["world", "need"] (spTreaty Z) := by
  refine T.d_rt_treaty.good sc_rt_treaty (fun vs H Q E h => ?_) (fun cdv Ar outer s H vs Q E hr h => ?_)
  · obtain ⟨B, v, b, n, rfl, _⟩ := h
    rfl
  · obtain ⟨B, v, b, n, rfl, hW, hR, k⟩ := h
    refine ⟨_, (pss_cons (ps_if (PW.pt (pw_or (pt_cmpR op_lt (pv 1) pe_int (nomark _)) (pw_or1 (pt_cmpR op_gt (pv 1) (pv_fld (Y := vW Z) T.clW T.nW_states (fun a b => wf_states a b) (pv 0)) (nomark _))))) (pss_one (ps_ret (pe_lst (pa_cons (pg_int rfl T.g_WRONG) pa_nil)))) pss_nil) (pss_cons (ps_if (pt_cmpR op_ge (pe_callB call_len_seq (by rfl) T.b_len boot_len (pa_cons (pv_fld (Y := vW Z) T.clW T.nW_treaties (fun a b => wf_treaties a b) (pv 0)) pa_nil)) (pg_int rfl T.g_MOST_TREATIES) (nomark _)) (pss_one (ps_ret (pe_lst (pa_cons (pg_int rfl T.g_FULL) pa_nil)))) pss_nil) (pss_cons (ps_expr (pe_bm PySem.F.plainAttrs_list PySem.F.slot_list_append PySem.F.type_list_append mt_appendA (pv_fld (Y := vW Z) T.clW T.nW_treaties (fun a b => wf_treaties a b) (pv 0)) (pa_cons (pg_make T.mkT (ok_T_init (P := P) (w := w) (base := base) T) (hr.mono (by decide)) rfl T.g_Treaty (pa_cons (pv 1) pa_nil)) pa_nil))) (pss_one (ps_ret (pe_lst (pa_cons (pe_op op_sub (pe_callB call_len_seq (by rfl) T.b_len boot_len (pa_cons (pv_fld (Y := vW Z) T.clW T.nW_treaties (fun a b => wf_treaties a b) (pv 0)) pa_nil)) pe_int) pa_nil))))))), ?_⟩
    have hlen := hW.ts.len
    have htl := hR.tl
    unfold Mi.opTreaty at k
    refine ⟨_, rfl, _, _, rfl, rfl, _, rfl, iteB (fun h => ?_) fun h => ?_⟩
    · have h := of_decide_eq_true h
      exact no_ret k (if_pos (by omega)) hW (Same.refl _)
    have h := of_decide_eq_false h
    refine ⟨_, rfl, _, rfl, B, v, rfl, hW, _, _, rfl, rfl, _, rfl, iteB (fun h1 => ?_) fun h1 => ?_⟩
    · have h1 := of_decide_eq_true h1
      exact no_ret k (if_pos (by omega)) hW (Same.refl _)
    have h1 := of_decide_eq_false h1
    rw [if_neg (show ¬ (n < 2 ∨ v.n < n) by omega)] at k
    refine ⟨_, rfl, B, v, rfl, hW, _, _, rfl, .inl (SqL.of hW.tl), _, _, rfl, rfl, _, rfl, iteB (fun h2 => ?_) fun h2 => ?_⟩
    · have h2 := of_decide_eq_true h2
      rw [List.length_map, hlen] at h2
      exact no_ret k (if_pos (by omega)) hW (Same.refl _)
    have h2 := of_decide_eq_false h2
    rw [List.length_map, hlen] at h2
    rw [if_neg (show ¬ 4 ≤ v.ts.length by omega)] at k
    refine ⟨_, rfl, B, v, rfl, hW, .inl ⟨rfl, _, SqL.of hW.tl⟩, _, rfl, fun x dx hx hdx hne => ⟨x, dx, n, rfl, upd_same, fun H1 A1 eo hT1 hnw k1 => ⟨rfl, ?_⟩⟩⟩
    have s1 : Same H H1 := made_same hx hdx k1
    subst eo
    refine ⟨B.tl, _, _, rfl, rfl, (hW.mono s1).tl, small1 (by rw [List.length_map]; omega), fun H2 f2 k2 => ?_⟩
    have c := hW.more s1 hT1 (fun z hz => made_free (hnw z hz) hx) f2 k2
    refine ⟨_, rfl, { B with ts := B.ts ++ [A1] }, _, rfl, c.at_, _, _, rfl, .inl (SqL.of c.at_.tl), _, _, rfl, rfl, ?_⟩
    have e : (((((B.ts ++ [A1]).map fun A => V.ref A.o).length : Nat) : Int) - 1) = (v.ts.length : Int) := by rw [List.length_map, List.length_append, hlen]; simp
    rw [← e] at k
    exact yes_ret k rfl c (by show 1 ≤ 1000; decide)
def spArticle (Z : Adr) : Sp := fun vs H Q _ => ∃ B v b, ∃ t s x : Nat, vs = [.ref B.o, .int t, .int s, .int x] ∧ WAt Z.cT Z.cW H B v ∧ RW v b ∧ t < v.ts.length ∧ Chg Z H B Q (Mi.opArticle v t s x)
theorem TAt.war {C : Addr} {H H1 H' : Hp} {A : TA} {t : T} {as : List Addr} {q : Addr} {p : Nat × Nat} (h : TAt C H A t) (s : Same H H1) (ha : H A.ar = some (.lst (as.map V.ref))) (hs : All2 (fun a p => H a = some (.tup (pr p))) as t.arts) (hq : H1 q = some (.tup (pr p))) (f : H' A.ar = some (.lst (as.map V.ref ++ [.ref q]))) (k : Kp [A.ar] H1 H') : TCh C H A H' A { t with arts := t.arts ++ [p] } := by
  have h1 := h.mono s
  obtain ⟨d0, h0⟩ := h1.obj
  obtain ⟨n1, _, _, _, n5, n6, n7, _⟩ := h.ne
  have kt := k.tup (s _ _ ha) (fun l z => by cases z)
  obtain ⟨vs, h4, h5⟩ := h1.of
  refine ⟨⟨⟨d0, k.at1 h0 n1⟩, ⟨as ++ [q], by rw [List.map_append]; exact f, (hs.imp fun a p e => kt _ _ (s _ _ e)).append (.cons (kt _ _ hq) .nil)⟩, ⟨vs, k.at1 h4 n5.symm, h5.imp fun v o e => OV.mono e kt⟩, k.at1 h1.re n6.symm, k.at1 h1.ob n7.symm, h.nd⟩, rfl, fun b o e n => k.at1 (s _ _ e) fun z => n (by rw [z]; exact fp_ar A), fun b hb => .inl hb⟩
theorem ok_rt_article (T : Tx K mg Z) : Good P w K mg base 2 (Z.f 32) ["world", "t", "s", "x"] (spArticle Z) := by
  refine T.d_rt_article.good sc_rt_article (fun vs H Q E h => ?_) (fun cdv Ar outer s H vs Q E hr h => ?_)
  · obtain ⟨B, v, b, t, n, x, rfl, _⟩ := h
    rfl
  · obtain ⟨B, v, b, t, n, x, rfl, hW, hR, ht, k⟩ := h
    refine ⟨_, (pss_cons (ps_set (i := 4) sc_rt_article.nd rfl (Or.inl rfl) (pe_ix ix_list (pv_fld (Y := vW Z) T.clW T.nW_treaties (fun a b => wf_treaties a b) (pv 0)) (pv 1) (fun _ _ => rfl))) (pss_cons (ps_if (PW.pt (pw_or (pt_cmpR op_ge (pv 2) (pg_int rfl T.g_SUBJECTS) (nomark _)) (pw_or1 (pt_cmpR op_gt (pv 3) (pg_int rfl T.g_MOST_TAKEN) (nomark _))))) (pss_one (ps_ret (pe_lst (pa_cons (pg_int rfl T.g_WRONG) pa_nil)))) pss_nil) (pss_cons (ps_if (pt_tr (pv_meth0 (Y := vT Z) (pv 4) T.clT T.m_T_concluded (fun a b => no_T a b (by decide +kernel)) (ok_T_concluded (P := P) (w := w) (base := base) T) (hr.mono (by decide)))) (pss_one (ps_ret (pe_lst (pa_cons (pg_int rfl T.g_CONCLUDED) pa_nil)))) pss_nil) (pss_cons (ps_if (pt_cmpR op_ge (pe_callB call_len_seq (by rfl) T.b_len boot_len (pa_cons (pv_fld (Y := vT Z) T.clT T.nT_articles (fun a b => tf_articles a b) (pv 4)) pa_nil)) (pg_int rfl T.g_MOST_ARTICLES) (nomark _)) (pss_one (ps_ret (pe_lst (pa_cons (pg_int rfl T.g_FULL) pa_nil)))) pss_nil) (pss_cons (ps_expr (pe_bm PySem.F.plainAttrs_list PySem.F.slot_list_append PySem.F.type_list_append mt_appendA (pv_fld (Y := vT Z) T.clT T.nT_articles (fun a b => tf_articles a b) (pv 4)) (pa_cons (pe_tup (pa_cons (pv 2) (pa_cons (pv 3) pa_nil))) pa_nil))) (pss_one (ps_ret (pe_lst (pa_cons (pe_op op_sub (pe_callB call_len_seq (by rfl) T.b_len boot_len (pa_cons (pv_fld (Y := vT Z) T.clT T.nT_articles (fun a b => tf_articles a b) (pv 4)) pa_nil)) pe_int) pa_nil))))))))), ?_⟩
    obtain ⟨A, hA, hx, hT⟩ := tl_at hW ht
    have hRT := hR.tr ht
    have hal := hRT.al
    unfold Mi.opArticle at k
    refine ⟨_, rfl, B, v, rfl, hW, _, rfl, B.tl, _, _, _, rfl, rfl, SqL.of hW.tl, atI_nat hx, ?_⟩
    refine ⟨_, rfl, _, _, rfl, rfl, _, rfl, iteB (fun h => ?_) fun h => ?_⟩
    · have h := of_decide_eq_true h
      exact no_ret k (if_pos (by omega)) hW (Same.refl _)
    have h := of_decide_eq_false h
    refine ⟨_, rfl, _, _, rfl, rfl, _, rfl, iteB (fun h1 => ?_) fun h1 => ?_⟩
    · have h1 := of_decide_eq_true h1
      exact no_ret k (if_pos (by omega)) hW (Same.refl _)
    have h1 := of_decide_eq_false h1
    rw [if_neg (show ¬ (4 ≤ n ∨ 100 < x) by omega)] at k
    refine ⟨_, rfl, A, _, rfl, hT, A, _, rfl, hT, _, rfl, iteB (fun h2 => ?_) fun h2 => ?_⟩
    · exact no_ret k (if_pos (of_decide_eq_true h2)) hW (Same.refl _)
    rw [if_neg (of_decide_eq_false h2)] at k
    obtain ⟨as, har, has⟩ := hT.ar
    have hasl := has.len
    refine ⟨_, rfl, A, _, rfl, hT, _, _, rfl, .inl (SqL.of har), _, _, rfl, rfl, _, rfl, iteB (fun h3 => ?_) fun h3 => ?_⟩
    · have h3 := of_decide_eq_true h3
      rw [List.length_map, hasl] at h3
      exact no_ret k (if_pos (by omega)) hW (Same.refl _)
    have h3 := of_decide_eq_false h3
    rw [List.length_map, hasl] at h3
    rw [if_neg (show ¬ 4 ≤ (v.tr t).arts.length by omega)] at k
    refine ⟨_, rfl, A, _, rfl, hT, .inl ⟨rfl, _, SqL.of har⟩, _, rfl, _, rfl, (by show 2 ≤ sizeLine; decide), fun q hq => ?_⟩
    have s1 := same_upd (o := .tup [.int (n : Nat), .int (x : Nat)]) hq
    refine ⟨A.ar, _, _, rfl, rfl, s1 _ _ har, small1 (by rw [List.length_map]; omega), fun H2 f2 k2 => ?_⟩
    have c := hW.step hA (hT.war (p := (n, x)) s1 har has upd_same f2 k2)
    obtain ⟨A', hA', hx', hT'⟩ := tl_at c.at_ (i := t) (by show t < (v.ts.set _ _).length; rw [List.length_set]; exact ht)
    have eA : A' = A := by
      have : (B.ts.set t A)[t]? = some A' := hA'
      rw [List.getElem?_set_self (List.getElem?_eq_some_iff.mp hA).1] at this
      exact (Option.some.inj this).symm
    subst eA
    refine ⟨_, rfl, A', _, rfl, hT', _, _, rfl, .inl (SqL.of f2), _, _, rfl, rfl, ?_⟩
    rw [← show (((as.map V.ref ++ [V.ref q]).length : Nat) : Int) - 1 = ((v.tr t).arts.length : Int) by rw [List.length_append, List.length_map, hasl]; simp] at k
    exact yes_ret k rfl c (by show 1 ≤ 1000; decide)
end
end Rg
namespace Rg
open PySem PySem.Spec PyProof.Rows L2
open Mi (T W R All2 gath newT newW RW RT)
open Km485 (count again_)
section
variable {P : Program} {w : World} {K : PySem.W.Frag} {mg : Str → Option Value} {base : Heap} {Z : Adr}
theorem TAt.wof {C : Addr} {H H1 H' : Hp} {A : TA} {t : T} {vs : List V} {i : Nat} {x : V} {p : Option (Nat × Nat)} (h : TAt C H A t) (s : Same H H1) (ha : H A.of = some (.lst vs)) (hs : All2 (OV H) vs t.offs) (hx : OV H1 x p) (f : H' A.of = some (.lst (vs.set i x))) (k : Kp [A.of] H1 H') : TCh C H A H' A { t with offs := t.offs.set i p } := by
  have h1 := h.mono s
  obtain ⟨d0, h0⟩ := h1.obj
  obtain ⟨_, n2, _, _, n5, _, _, n8, n9, _⟩ := h.ne
  have kt := k.tup (s _ _ ha) (fun l z => by cases z)
  obtain ⟨as, h4, h5⟩ := h1.ar
  refine ⟨⟨⟨d0, k.at1 h0 n2⟩, ⟨as, k.at1 h4 n5, h5.imp fun a p e => kt _ _ e⟩, ⟨vs.set i x, f, (hs.imp fun v o e => OV.mono e fun a l q => kt _ _ (s _ _ q)).set i (OV.mono hx kt)⟩, k.at1 h1.re n8.symm, k.at1 h1.ob n9.symm, h.nd⟩, rfl, fun b o e n => k.at1 (s _ _ e) fun z => n (by rw [z]; exact fp_of A), fun b hb => .inl hb⟩
theorem shr_ne (m n : Nat) : (((m : Nat) : Int) / 2 ^ ((n : Nat) : Int).toNat != 0) = decide (2 ^ n ≤ m) := by
  rw [Int.toNat_natCast]
  have e : ((m : Nat) : Int) / 2 ^ n = ((m / 2 ^ n : Nat) : Int) := by
    rw [Int.natCast_ediv, Int.natCast_pow]
    rfl
  rw [e, Bool.eq_iff_iff, bne_iff_ne, decide_eq_true_eq]
  have := Nat.div_pos_iff (a := m) (b := 2 ^ n)
  have h2 := Nat.two_pow_pos n
  constructor
  · intro h
    apply Nat.le_of_not_lt
    intro h3
    rw [Nat.div_eq_of_lt h3] at h
    exact h rfl
  · intro h h3
    have : 0 < m / 2 ^ n := Nat.div_pos h h2
    omega
def spOffer (Z : Adr) : Sp := fun vs H Q _ => ∃ B v b, ∃ t i n m : Nat, vs = [.ref B.o, .int t, .int i, .int n, .int m] ∧ WAt Z.cT Z.cW H B v ∧ RW v b ∧ t < v.ts.length ∧ i < v.n ∧ Chg Z H B Q (Mi.opOffer v t i n m)
theorem ok_rt_offer (T : Tx K mg Z) : Good P w K mg base 2 (Z.f 33) ["world", "t", "i", "need", "named"] (spOffer Z) := by
  refine T.d_rt_offer.good sc_rt_offer (fun vs H Q E h => ?_) (fun cdv Ar outer s H vs Q E hr h => ?_)
  · obtain ⟨B, v, b, t, i, n, m, rfl, _⟩ := h
    rfl
  · obtain ⟨B, v, b, t, i, n, m, rfl, hW, hR, ht, hi, k⟩ := h
    refine ⟨_, (pss_cons (ps_set (i := 5) sc_rt_offer.nd rfl (Or.inl rfl) (pe_ix ix_list (pv_fld (Y := vW Z) T.clW T.nW_treaties (fun a b => wf_treaties a b) (pv 0)) (pv 1) (fun _ _ => rfl))) (pss_cons (ps_if (PW.pt (pw_or (pt_cmpR op_gt (pv 3) (pv_fld (Y := vW Z) T.clW T.nW_states (fun a b => wf_states a b) (pv 0)) (nomark _)) (pw_or (pt_tr (pe_op op_shr (pv 4) (pv_fld (Y := vW Z) T.clW T.nW_states (fun a b => wf_states a b) (pv 0)))) (pw_or1 (pt_tr (pe_op op_and (pv 4) (pg_bit rfl T.g_BITS T.bits (pv 2)))))))) (pss_one (ps_ret (pe_lst (pa_cons (pg_int rfl T.g_WRONG) pa_nil)))) pss_nil) (pss_cons (ps_if (pt_tr (pv_meth0 (Y := vT Z) (pv 5) T.clT T.m_T_concluded (fun a b => no_T a b (by decide +kernel)) (ok_T_concluded (P := P) (w := w) (base := base) T) (hr.mono (by decide)))) (pss_one (ps_ret (pe_lst (pa_cons (pg_int rfl T.g_CONCLUDED) pa_nil)))) pss_nil) (pss_cons (ps_set (i := 6) sc_rt_offer.nd rfl (Or.inl rfl) (pe_ifExp (pt_cmp (pc_isN (pe_ix ix_list (pv_fld (Y := vT Z) T.clT T.nT_offers (fun a b => tf_offers a b) (pv 5)) (pv 2) (fun _ _ => rfl)))) pe_int pe_int)) (pss_cons (ps_asg (pe_tup (pa_cons (pv 3) (pa_cons (pv 4) pa_nil))) (pg_sub (pv_fld (Y := vT Z) T.clT T.nT_offers (fun a b => tf_offers a b) (pv 5)) (pv 2) set_listA)) (pss_one (ps_ret (pe_lst (pa_cons (pv 6) pa_nil))))))))), ?_⟩
    unfold Mi.opOffer at k
    obtain ⟨A, hA, hx, hT⟩ := tl_at hW ht
    have hRT := hR.tr ht
    have n6 := hR.n6
    refine ⟨_, rfl, B, v, rfl, hW, _, rfl, B.tl, _, _, _, rfl, rfl, SqL.of hW.tl, atI_nat hx, ?_⟩
    refine ⟨_, rfl, _, rfl, B, v, rfl, hW, _, _, rfl, rfl, _, rfl, iteB (fun h => ?_) fun h => ?_⟩
    · have h := of_decide_eq_true h
      exact no_ret k (if_pos (.inl (by omega))) hW (Same.refl _)
    have h := of_decide_eq_false h
    refine ⟨_, rfl, _, rfl, B, v, rfl, hW, _, _, rfl, rfl, (by show (0 : Int) ≤ ((v.n : Nat) : Int); omega), _, rfl, iteB (fun h1 => ?_) fun h1 => ?_⟩
    · rw [shr_ne] at h1
      exact no_ret k (if_pos (.inr (.inl (of_decide_eq_true h1)))) hW (Same.refl _)
    rw [shr_ne] at h1
    have h1 := of_decide_eq_false h1
    refine ⟨_, rfl, _, rfl, i, rfl, by omega, _, _, rfl, rfl, _, rfl, iteB (fun h2 => ?_) fun h2 => ?_⟩
    · rw [tr_bit] at h2
      exact no_ret k (if_pos (.inr (.inr h2))) hW (Same.refl _)
    rw [tr_bit] at h2
    rw [if_neg (fun z => by rcases z with z | z | z; exact h (by omega); exact h1 z; rw [h2] at z; cases z)] at k
    clear h2
    refine ⟨_, rfl, A, _, rfl, hT, A, _, rfl, hT, _, rfl, iteB (fun h2 => ?_) fun h2 => ?_⟩
    · exact no_ret k (if_pos (of_decide_eq_true h2)) hW (Same.refl _)
    rw [if_neg (of_decide_eq_false h2)] at k
    obtain ⟨vs, hof, hvs⟩ := hT.of
    have hvl : vs.length = 6 := by rw [hvs.len]; exact hRT.lo
    have hxv : vs[i]? = some (vs[i]'(by omega)) := List.getElem?_eq_getElem (by omega)
    have hov := off_of hvs hxv
    refine ⟨_, rfl, A, _, rfl, hT, _, rfl, A.of, _, _, _, rfl, rfl, SqL.of hof, atI_nat hxv, _, rfl, ?_⟩
    have hd : decide (vs[i]'(by omega) = V.non) = !((v.tr t).off i).isSome := by rw [← ov_dec hov, Bool.not_not]
    rw [hd]
    have fin : ∀ (c : Nat) (x6 : Option V) , (if ((v.tr t).off i).isSome = true then (1 : Int) else 0) = (c : Nat) → ∀ (H2 : Hp) (q : Addr), H q = none → H2 A.of = some (.lst (vs.set i (.ref q))) → Kp [A.of] (upd H q (.tup [.int (n : Nat), .int (m : Nat)])) H2 → ([V.int (c : Nat)] : List V).length ≤ sizeLine ∧ ∀ p, H2 p = none → Q (.ref p) (upd H2 p (.lst [V.int (c : Nat)])) := by
      intro c x6 ec H2 q hq f2 k2
      have s1 := same_upd (o := .tup [.int (n : Nat), .int (m : Nat)]) hq
      have c2 := hW.step hA (hT.wof (i := i) (p := some (n, m)) s1 hof hvs ⟨q, rfl, upd_same⟩ f2 k2)
      rw [ec] at k
      exact yes_ret k rfl c2 (by show 1 ≤ 1000; decide)
    refine iteB (fun h3 => ?_) fun h3 => ?_
    · have e3 : ((v.tr t).off i).isSome = false := by simpa using h3
      refine ⟨_, rfl, _, rfl, (by show 2 ≤ sizeLine; decide), fun q hq => ?_⟩
      have s1 := same_upd (o := .tup [.int (n : Nat), .int (m : Nat)]) hq
      refine ⟨_, rfl, A, _, rfl, hT.mono s1, _, rfl, A.of, _, _, i, rfl, rfl, s1 _ _ hof, ixn (by omega), fun H2 f2 k2 => ⟨_, rfl, ?_⟩⟩
      exact fin 0 none (by rw [e3]; rfl) H2 q hq f2 k2
    · have e3 : ((v.tr t).off i).isSome = true := by simpa using h3
      refine ⟨_, rfl, _, rfl, (by show 2 ≤ sizeLine; decide), fun q hq => ?_⟩
      have s1 := same_upd (o := .tup [.int (n : Nat), .int (m : Nat)]) hq
      refine ⟨_, rfl, A, _, rfl, hT.mono s1, _, rfl, A.of, _, _, i, rfl, rfl, s1 _ _ hof, ixn (by omega), fun H2 f2 k2 => ⟨_, rfl, ?_⟩⟩
      exact fin 1 none (by rw [e3]; rfl) H2 q hq f2 k2
def spUnoffer (Z : Adr) : Sp := fun vs H Q _ => ∃ B v b, ∃ t i : Nat, vs = [.ref B.o, .int t, .int i] ∧ WAt Z.cT Z.cW H B v ∧ RW v b ∧ t < v.ts.length ∧ i < v.n ∧ Chg Z H B Q (Mi.opUnoffer v t i)
theorem ok_rt_unoffer (T : Tx K mg Z) : Good P w K mg base 2 (Z.f 34) ["world", "t", "i"] (spUnoffer Z) := by
  refine T.d_rt_unoffer.good sc_rt_unoffer (fun vs H Q E h => ?_) (fun cdv Ar outer s H vs Q E hr h => ?_)
  · obtain ⟨B, v, b, t, i, rfl, _⟩ := h
    rfl
  · obtain ⟨B, v, b, t, i, rfl, hW, hR, ht, hi, k⟩ := h
    refine ⟨_, (pss_cons (ps_set (i := 3) sc_rt_unoffer.nd rfl (Or.inl rfl) (pe_ix ix_list (pv_fld (Y := vW Z) T.clW T.nW_treaties (fun a b => wf_treaties a b) (pv 0)) (pv 1) (fun _ _ => rfl))) (pss_cons (ps_if (pt_tr (pv_meth0 (Y := vT Z) (pv 3) T.clT T.m_T_concluded (fun a b => no_T a b (by decide +kernel)) (ok_T_concluded (P := P) (w := w) (base := base) T) (hr.mono (by decide)))) (pss_one (ps_ret (pe_lst (pa_cons (pg_int rfl T.g_CONCLUDED) pa_nil)))) pss_nil) (pss_cons (ps_if (pt_cmp (pc_isN (pe_ix ix_list (pv_fld (Y := vT Z) T.clT T.nT_offers (fun a b => tf_offers a b) (pv 3)) (pv 2) (fun _ _ => rfl)))) (pss_one (ps_ret (pe_lst (pa_cons (pg_int rfl T.g_NOT_SO) pa_nil)))) pss_nil) (pss_cons (ps_asg pe_non (pg_sub (pv_fld (Y := vT Z) T.clT T.nT_offers (fun a b => tf_offers a b) (pv 3)) (pv 2) set_listA)) (pss_one (ps_ret (pe_lst (pa_cons (pg_call (ok_size (P := P) (w := w) (base := base) T) (hr.mono (by decide)) rfl T.g_size (pa_cons (pv_meth0 (Y := vT Z) (pv 3) T.clT T.m_T_offered (fun a b => no_T a b (by decide +kernel)) (ok_T_offered (P := P) (w := w) (base := base) T) (hr.mono (by decide))) pa_nil)) pa_nil)))))))), ?_⟩
    unfold Mi.opUnoffer at k
    obtain ⟨A, hA, hx, hT⟩ := tl_at hW ht
    have hRT := hR.tr ht
    have n6 := hR.n6
    refine ⟨_, rfl, B, v, rfl, hW, _, rfl, B.tl, _, _, _, rfl, rfl, SqL.of hW.tl, atI_nat hx, ?_⟩
    refine ⟨_, rfl, A, _, rfl, hT, A, _, rfl, hT, _, rfl, iteB (fun h2 => ?_) fun h2 => ?_⟩
    · exact no_ret k (if_pos (of_decide_eq_true h2)) hW (Same.refl _)
    rw [if_neg (of_decide_eq_false h2)] at k
    obtain ⟨vs, hof, hvs⟩ := hT.of
    have hvl : vs.length = 6 := by rw [hvs.len]; exact hRT.lo
    have hxv : vs[i]? = some (vs[i]'(by omega)) := List.getElem?_eq_getElem (by omega)
    have hov := off_of hvs hxv
    have hd : decide (vs[i]'(by omega) = V.non) = !((v.tr t).off i).isSome := by rw [← ov_dec hov, Bool.not_not]
    refine ⟨_, rfl, A, _, rfl, hT, _, rfl, A.of, _, _, _, rfl, rfl, SqL.of hof, atI_nat hxv, _, rfl, ?_⟩
    rw [hd]
    refine iteB (fun h3 => ?_) fun h3 => ?_
    · have e3 : ((v.tr t).off i).isSome = false := by simpa using h3
      exact no_ret k (if_pos e3) hW (Same.refl _)
    have e3 : ((v.tr t).off i).isSome = true := by simpa using h3
    rw [if_neg (by rw [e3]; decide)] at k
    refine ⟨_, rfl, A, _, rfl, hT, _, rfl, A.of, _, _, i, rfl, rfl, hof, ixn (by omega), fun H2 f2 k2 => ?_⟩
    have c1 := hT.wof (i := i) (p := none) (x := .non) (Same.refl _) hof hvs rfl f2 k2
    have c2 := hW.step hA c1
    refine ⟨_, rfl, A, _, rfl, c1.at_, A, _, rfl, c1.at_, by show ((v.tr t).offs.set i none).length = 6; rw [List.length_set]; exact hRT.lo, fun H3 s3 => ?_⟩
    refine ⟨_, rfl, fun H4 s4 => ?_⟩
    exact yes_ret k rfl (c2.after (s3.trans s4)) (by show 1 ≤ 1000; decide)
def spConclude (Z : Adr) : Sp := fun vs H Q _ => ∃ B v b, ∃ t : Nat, vs = [.ref B.o, .int t] ∧ WAt Z.cT Z.cW H B v ∧ RW v b ∧ t < v.ts.length ∧ Chg Z H B Q (Mi.opConclude v t)
theorem ok_rt_conclude (T : Tx K mg Z) : Good P w K mg base 6 (Z.f 38) ["world", "t"] (spConclude Z) := by
  refine T.d_rt_conclude.good sc_rt_conclude (fun vs H Q E h => ?_) (fun cdv Ar outer s H vs Q E hr h => ?_)
  · obtain ⟨B, v, b, t, rfl, _⟩ := h
    rfl
  · obtain ⟨B, v, b, t, rfl, hW, hR, ht, k⟩ := h
    refine ⟨_, (pss_cons (ps_set (i := 2) sc_rt_conclude.nd rfl (Or.inl rfl) (pe_ix ix_list (pv_fld (Y := vW Z) T.clW T.nW_treaties (fun a b => wf_treaties a b) (pv 0)) (pv 1) (fun _ _ => rfl))) (pss_cons (ps_if (pt_tr (pv_meth0 (Y := vT Z) (pv 2) T.clT T.m_T_concluded (fun a b => no_T a b (by decide +kernel)) (ok_T_concluded (P := P) (w := w) (base := base) T) (hr.mono (by decide)))) (pss_one (ps_ret (pe_lst (pa_cons (pg_int rfl T.g_ALREADY_SO) pa_nil)))) pss_nil) (pss_cons (ps_if (pt_cmpR op_eq (pe_callB call_len_seq (by rfl) T.b_len boot_len (pa_cons (pv_fld (Y := vT Z) T.clT T.nT_articles (fun a b => tf_articles a b) (pv 2)) pa_nil)) pe_int (nomark _)) (pss_one (ps_ret (pe_lst (pa_cons (pg_int rfl T.g_NOT_SO) pa_nil)))) pss_nil) (pss_cons (ps_if (pt_not (pt_tr (pv_meth (Y := vT Z) (pv 2) T.clT T.m_T_enough_join (fun a b => no_T a b (by decide +kernel)) (ok_T_enough_join (P := P) (w := w) (base := base) T) (hr.mono (by decide)) (pa_cons pe_int pa_nil)))) (pss_one (ps_ret (pe_lst (pa_cons (pg_int rfl T.g_TOO_LITTLE) pa_nil)))) pss_nil) (pss_cons (ps_fldA (pv 2) (pe_op op_add (pv_meth0 (Y := vW Z) (pv 0) T.clW T.m_W_turns (fun a b => no_W a b (by decide +kernel)) (ok_W_turns (P := P) (w := w) (base := base) T) (hr.mono (by decide))) pe_int) rfl) (pss_cons (ps_fldA (pv 2) (pv_meth (Y := vT Z) (pv 2) T.clT T.m_T_joiners (fun a b => no_T a b (by decide +kernel)) (ok_T_joiners (P := P) (w := w) (base := base) T) (hr.mono (by decide)) (pa_cons pe_int pa_nil)) rfl) (pss_one (ps_ret (pe_lst (pa_cons (pg_call (ok_size (P := P) (w := w) (base := base) T) (hr.mono (by decide)) rfl T.g_size (pa_cons (pv_fld (Y := vT Z) T.clT T.nT_members (fun a b => tf_members a b) (pv 2)) pa_nil)) pa_nil)))))))))), ?_⟩
    unfold Mi.opConclude at k
    obtain ⟨A, hA, hx, hT⟩ := tl_at hW ht
    have hRT := hR.tr ht
    have n6 := hR.n6
    refine ⟨_, rfl, B, v, rfl, hW, _, rfl, B.tl, _, _, _, rfl, rfl, SqL.of hW.tl, atI_nat hx, ?_⟩
    refine ⟨_, rfl, A, _, rfl, hT, A, _, rfl, hT, _, rfl, iteB (fun h2 => ?_) fun h2 => ?_⟩
    · exact no_ret k (if_pos (of_decide_eq_true h2)) hW (Same.refl _)
    rw [if_neg (of_decide_eq_false h2)] at k
    obtain ⟨as, har, has⟩ := hT.ar
    have hasl := has.len
    refine ⟨_, rfl, A, _, rfl, hT, _, _, rfl, .inl (SqL.of har), rfl, _, rfl, iteB (fun h3 => ?_) fun h3 => ?_⟩
    · have h3 : decide (V.int (((as.map V.ref).length : Nat) : Int) = V.int 0) = true := h3
      rw [eq_zero, List.length_map, hasl] at h3
      exact no_ret k (if_pos (by simpa using h3)) hW (Same.refl _)
    have h3 : decide (V.int (((as.map V.ref).length : Nat) : Int) = V.int 0) = false := h3
    rw [eq_zero, List.length_map, hasl] at h3
    rw [if_neg (show ¬ (v.tr t).arts.length = 0 by simpa using h3)] at k
    refine ⟨_, rfl, A, _, rfl, hT, A, _, 0, rfl, hT, hRT.lo, fun H1 s1 => ⟨_, rfl, iteB (fun h4 => ?_) fun h4 => ?_⟩⟩
    · exact no_ret k (if_pos (by simpa using h4)) hW s1
    rw [if_neg (show ¬ (v.tr t).enough 0 = false by rw [show (v.tr t).enough 0 = true by simpa using h4]; decide)] at k
    have hW1 := hW.mono s1
    have hT1 := hT.mono s1
    obtain ⟨dx, ho⟩ := hT1.obj
    refine ⟨_, rfl, B, v, rfl, hW1, B, v, rfl, hW1, hR.tl, fun H2 s2 => ?_⟩
    have hT2 := hT1.mono s2
    refine ⟨_, _, rfl, rfl, _, rfl, A.o, Z.cT, dx, _, rfl, s2 _ _ ho, T.clT, T.nT_turn, (by show 7 < 1000; decide), fun H3 f3 k3 => ?_⟩
    have f3 : H3 A.o = some (.ins Z.cT dx (putF "turn" (.int (((v.turns : Nat) : Int) + 1)) (tf A (v.tr t)))) := f3
    rw [show ((v.turns : Nat) : Int) + 1 = ((v.turns + 1 : Nat) : Int) by omega, put_turn] at f3
    have c3 := hT2.wo f3 k3 rfl rfl rfl rfl
    refine ⟨_, rfl, A, _, rfl, c3.at_, A, _, 0, rfl, c3.at_, hRT.lo, fun H4 s4 => ?_⟩
    have hT4 := c3.at_.mono s4
    obtain ⟨dx4, ho4⟩ := hT4.obj
    refine ⟨_, rfl, A.o, Z.cT, dx4, _, rfl, ho4, T.clT, T.nT_members, (by show 7 < 1000; decide), fun H5 f5 k5 => ?_⟩
    have ej : ({ v.tr t with turn := v.turns + 1 } : Mi.T).joiners 0 = (v.tr t).joiners 0 := rfl
    rw [ej, put_members] at f5
    have c5 : TCh Z.cT H A H5 A { v.tr t with turn := v.turns + 1, mem := (v.tr t).joiners 0 } := TCh.same (s1.trans s2) (c3.trans (TCh.same s4 (hT4.wo f5 k5 rfl rfl rfl rfl)))
    have c6 := hW.step hA c5
    refine ⟨_, rfl, A, _, rfl, c5.at_, _, rfl, fun H6 s6 => ?_⟩
    exact yes_ret k rfl (c6.after s6) (by show 1 ≤ 1000; decide)
def spAccede (Z : Adr) : Sp := fun vs H Q _ => ∃ B v b, ∃ t i : Nat, vs = [.ref B.o, .int t, .int i] ∧ WAt Z.cT Z.cW H B v ∧ RW v b ∧ t < v.ts.length ∧ i < v.n ∧ Chg Z H B Q (Mi.opAccede v t i)
theorem ok_rt_accede (T : Tx K mg Z) : Good P w K mg base 2 (Z.f 39) ["world", "t", "i"] (spAccede Z) := by
  refine T.d_rt_accede.good sc_rt_accede (fun vs H Q E h => ?_) (fun cdv Ar outer s H vs Q E hr h => ?_)
  · obtain ⟨B, v, b, t, i, rfl, _⟩ := h
    rfl
  · obtain ⟨B, v, b, t, i, rfl, hW, hR, ht, hi, k⟩ := h
    refine ⟨_, (pss_cons (ps_set (i := 3) sc_rt_accede.nd rfl (Or.inl rfl) (pe_ix ix_list (pv_fld (Y := vW Z) T.clW T.nW_treaties (fun a b => wf_treaties a b) (pv 0)) (pv 1) (fun _ _ => rfl))) (pss_cons (ps_if (pt_not (pt_tr (pv_meth0 (Y := vT Z) (pv 3) T.clT T.m_T_concluded (fun a b => no_T a b (by decide +kernel)) (ok_T_concluded (P := P) (w := w) (base := base) T) (hr.mono (by decide))))) (pss_one (ps_ret (pe_lst (pa_cons (pg_int rfl T.g_NOT_SO) pa_nil)))) pss_nil) (pss_cons (ps_if (pt_tr (pv_meth (Y := vT Z) (pv 3) T.clT T.m_T_is_member (fun a b => no_T a b (by decide +kernel)) (ok_T_is_member (P := P) (w := w) (base := base) T) (hr.mono (by decide)) (pa_cons (pv 2) pa_nil))) (pss_one (ps_ret (pe_lst (pa_cons (pg_int rfl T.g_ALREADY_SO) pa_nil)))) pss_nil) (pss_cons (ps_fldaugA (pv 3) (pg_bit rfl T.g_BITS T.bits (pv 2)) iop_or) (pss_one (ps_ret (pe_lst (pa_cons (pg_call (ok_size (P := P) (w := w) (base := base) T) (hr.mono (by decide)) rfl T.g_size (pa_cons (pv_fld (Y := vT Z) T.clT T.nT_members (fun a b => tf_members a b) (pv 3)) pa_nil)) pa_nil)))))))), ?_⟩
    unfold Mi.opAccede at k
    obtain ⟨A, hA, hx, hT⟩ := tl_at hW ht
    have hRT := hR.tr ht
    have n6 := hR.n6
    refine ⟨_, rfl, B, v, rfl, hW, _, rfl, B.tl, _, _, _, rfl, rfl, SqL.of hW.tl, atI_nat hx, ?_⟩
    refine ⟨_, rfl, A, _, rfl, hT, A, _, rfl, hT, _, rfl, iteB (fun h2 => ?_) fun h2 => ?_⟩
    · have h2 : (!decide (0 < (v.tr t).turn)) = true := h2
      exact no_ret k (if_pos (by simp at h2; exact h2)) hW (Same.refl _)
    have h2 : (!decide (0 < (v.tr t).turn)) = false := h2
    rw [if_neg (show ¬ (v.tr t).turn = 0 by simp at h2; omega)] at k
    refine ⟨_, rfl, A, _, rfl, hT, _, rfl, A, _, i, rfl, hT, by omega, _, rfl, iteB (fun h3 => ?_) fun h3 => ?_⟩
    · exact no_ret k (if_pos h3) hW (Same.refl _)
    rw [if_neg (by rw [h3]; decide)] at k
    obtain ⟨dx, ho⟩ := hT.obj
    refine ⟨_, rfl, A.o, Z.cT, dx, _, _, rfl, ho, T.clT, T.nT_members, tf_members A _, _, rfl, i, rfl, by omega, _, _, rfl, rfl, dx, _, ho, (by show 7 < 1000; decide), fun H1 f1 k1 => ?_⟩
    have f1 : H1 A.o = some (.ins Z.cT dx (putF "members" (.int (Builtin.bitOr (((v.tr t).mem : Nat) : Int) ((2 ^ i : Nat) : Int))) (tf A (v.tr t)))) := f1
    rw [bitOr_nat, put_members] at f1
    have c1 := hT.wo f1 k1 rfl rfl rfl rfl
    refine ⟨_, rfl, A, _, rfl, c1.at_, _, rfl, fun H6 s6 => ?_⟩
    exact yes_ret k rfl ((hW.step hA c1).after s6) (by show 1 ≤ 1000; decide)
def spOLeave (Z : Adr) : Sp := fun vs H Q _ => ∃ B v b, ∃ t i : Nat, vs = [.ref B.o, .int t, .int i] ∧ WAt Z.cT Z.cW H B v ∧ RW v b ∧ t < v.ts.length ∧ i < v.n ∧ Chg Z H B Q (Mi.opLeave v t i)
theorem ok_rt_leave (T : Tx K mg Z) : Good P w K mg base 3 (Z.f 40) ["world", "t", "i"] (spOLeave Z) := by
  refine T.d_rt_leave.good sc_rt_leave (fun vs H Q E h => ?_) (fun cdv Ar outer s H vs Q E hr h => ?_)
  · obtain ⟨B, v, b, t, i, rfl, _⟩ := h
    rfl
  · obtain ⟨B, v, b, t, i, rfl, hW, hR, ht, hi, k⟩ := h
    refine ⟨_, (pss_cons (ps_set (i := 3) sc_rt_leave.nd rfl (Or.inl rfl) (pe_ix ix_list (pv_fld (Y := vW Z) T.clW T.nW_treaties (fun a b => wf_treaties a b) (pv 0)) (pv 1) (fun _ _ => rfl))) (pss_cons (ps_if (pt_not (pt_tr (pv_meth (Y := vT Z) (pv 3) T.clT T.m_T_is_member (fun a b => no_T a b (by decide +kernel)) (ok_T_is_member (P := P) (w := w) (base := base) T) (hr.mono (by decide)) (pa_cons (pv 2) pa_nil)))) (pss_one (ps_ret (pe_lst (pa_cons (pg_int rfl T.g_NOT_SO) pa_nil)))) pss_nil) (pss_cons (ps_expr (pv_meth (Y := vT Z) (pv 3) T.clT T.m_T_leave (fun a b => no_T a b (by decide +kernel)) (ok_T_leave (P := P) (w := w) (base := base) T) (hr.mono (by decide)) (pa_cons (pv 2) pa_nil))) (pss_one (ps_ret (pe_lst (pa_cons (pg_call (ok_size (P := P) (w := w) (base := base) T) (hr.mono (by decide)) rfl T.g_size (pa_cons (pv_fld (Y := vT Z) T.clT T.nT_members (fun a b => tf_members a b) (pv 3)) pa_nil)) pa_nil))))))), ?_⟩
    unfold Mi.opLeave at k
    obtain ⟨A, hA, hx, hT⟩ := tl_at hW ht
    have hRT := hR.tr ht
    have n6 := hR.n6
    refine ⟨_, rfl, B, v, rfl, hW, _, rfl, B.tl, _, _, _, rfl, rfl, SqL.of hW.tl, atI_nat hx, ?_⟩
    refine ⟨_, rfl, A, _, rfl, hT, _, rfl, A, _, i, rfl, hT, by omega, _, rfl, iteB (fun h3 => ?_) fun h3 => ?_⟩
    · exact no_ret k (if_pos (by simpa using h3)) hW (Same.refl _)
    rw [if_neg (by rw [show (v.tr t).mem.testBit i = true by simpa using h3]; decide)] at k
    refine ⟨_, rfl, A, _, rfl, hT, _, rfl, A, _, i, rfl, hT, hRT.lb, hRT.lr, hRT.m64 n6, hRT.rowlt, by omega, fun H1 A1 c1 => ?_⟩
    refine ⟨_, rfl, A1, _, congrArg V.ref c1.o.symm, c1.at_, _, rfl, fun H6 s6 => ?_⟩
    exact yes_ret k rfl ((hW.step hA c1).after s6) (by show 1 ≤ 1000; decide)
end
end Rg
namespace Rg
open PySem PySem.Spec PyProof.Rows L2
open Mi (T W R All2 gath newT newW RW RT)
open Km485 (count again_)
section
variable {P : Program} {w : World} {K : PySem.W.Frag} {mg : Str → Option Value} {base : Heap} {Z : Adr}
def spOReserve (Z : Adr) : Sp := fun vs H Q _ => ∃ B v b, ∃ t i a : Nat, vs = [.ref B.o, .int t, .int i, .int a] ∧ WAt Z.cT Z.cW H B v ∧ RW v b ∧ t < v.ts.length ∧ i < v.n ∧ a < (v.tr t).arts.length ∧ Chg Z H B Q (Mi.opReserve v t i a)
theorem ok_rt_reserve (T : Tx K mg Z) : Good P w K mg base 2 (Z.f 41) ["world", "t", "i", "a"] (spOReserve Z) := by
  refine T.d_rt_reserve.good sc_rt_reserve (fun vs H Q E h => ?_) (fun cdv Ar outer s H vs Q E hr h => ?_)
  · obtain ⟨B, v, b, t, i, a, rfl, _⟩ := h
    rfl
  · obtain ⟨B, v, b, t, i, a, rfl, hW, hR, ht, hi, ha, k⟩ := h
    refine ⟨_, (pss_cons (ps_set (i := 4) sc_rt_reserve.nd rfl (Or.inl rfl) (pe_ix ix_list (pv_fld (Y := vW Z) T.clW T.nW_treaties (fun a b => wf_treaties a b) (pv 0)) (pv 1) (fun _ _ => rfl))) (pss_cons (ps_if (pt_not (pt_tr (pv_meth (Y := vT Z) (pv 4) T.clT T.m_T_is_member (fun a b => no_T a b (by decide +kernel)) (ok_T_is_member (P := P) (w := w) (base := base) T) (hr.mono (by decide)) (pa_cons (pv 2) pa_nil)))) (pss_one (ps_ret (pe_lst (pa_cons (pg_int rfl T.g_NOT_SO) pa_nil)))) pss_nil) (pss_cons (ps_if (pt_tr (pv_meth (Y := vT Z) (pv 4) T.clT T.m_T_has_reserved (fun a b => no_T a b (by decide +kernel)) (ok_T_has_reserved (P := P) (w := w) (base := base) T) (hr.mono (by decide)) (pa_cons (pv 2) (pa_cons (pv 3) pa_nil)))) (pss_one (ps_ret (pe_lst (pa_cons (pg_int rfl T.g_ALREADY_SO) pa_nil)))) pss_nil) (pss_cons (ps_augS (pv_fld (Y := vT Z) T.clT T.nT_reserved (fun a b => tf_reserved a b) (pv 4)) (pv 2) get_list (pg_bit rfl T.g_BITS T.bits (pv 3)) iop_or set_listA) (pss_one (ps_ret (pe_lst (pa_cons (pg_call (ok_size (P := P) (w := w) (base := base) T) (hr.mono (by decide)) rfl T.g_size (pa_cons (pe_ix ix_list (pv_fld (Y := vT Z) T.clT T.nT_reserved (fun a b => tf_reserved a b) (pv 4)) (pv 2) (fun _ _ => rfl)) pa_nil)) pa_nil)))))))), ?_⟩
    unfold Mi.opReserve at k
    obtain ⟨A, hA, hx, hT⟩ := tl_at hW ht
    have hRT := hR.tr ht
    have n6 := hR.n6
    refine ⟨_, rfl, B, v, rfl, hW, _, rfl, B.tl, _, _, _, rfl, rfl, SqL.of hW.tl, atI_nat hx, ?_⟩
    have ha6 : a < 6 := by have := hRT.al; omega
    have hir : i < (v.tr t).res.length := by rw [hRT.lr]; omega
    refine ⟨_, rfl, A, _, rfl, hT, _, rfl, A, _, i, rfl, hT, by omega, _, rfl, iteB (fun h3 => ?_) fun h3 => ?_⟩
    · exact no_ret k (if_pos (by simpa using h3)) hW (Same.refl _)
    rw [if_neg (by rw [show (v.tr t).mem.testBit i = true by simpa using h3]; decide)] at k
    refine ⟨_, rfl, A, _, rfl, hT, _, rfl, _, rfl, A, _, i, a, rfl, hT, hRT.lr, by omega, ha6, _, rfl, iteB (fun h4 => ?_) fun h4 => ?_⟩
    · exact no_ret k (if_pos h4) hW (Same.refl _)
    rw [if_neg (by rw [h4]; decide)] at k
    refine ⟨_, rfl, A, _, rfl, hT, _, rfl, A.re, _, _, _, rfl, rfl, SqL.of hT.re, atI_nat (nv_at hir), _, rfl, a, rfl, ha6, _, _, rfl, rfl, A.re, _, _, i, rfl, rfl, hT.re, ixn (by rw [nv_len]; exact hir), fun H1 f1 k1 => ?_⟩
    have f1 : H1 A.re = some (.lst ((nv (v.tr t).res).set i (.int (Builtin.bitOr (((v.tr t).rsv i : Nat) : Int) ((2 ^ a : Nat) : Int))))) := f1
    rw [bitOr_nat, nv_set] at f1
    have c1 := hT.wre (t' := { v.tr t with res := (v.tr t).res.set i ((v.tr t).rsv i ||| 2 ^ a) }) f1 k1 rfl
    have hg : ((v.tr t).res.set i ((v.tr t).rsv i ||| 2 ^ a)).getD i 0 = (v.tr t).rsv i ||| 2 ^ a := by rw [Mi.getD_set _ _ _ _ _ hir, if_pos rfl]
    refine ⟨_, rfl, A, _, rfl, c1.at_, _, rfl, A.re, _, _, _, rfl, rfl, SqL.of c1.at_.re, atI_nat (nv_at (by show i < ((v.tr t).res.set _ _).length; rw [List.length_set]; exact hir)), _, rfl, fun H6 s6 => ?_⟩
    exact yes_ret (l := [(count (((v.tr t).res.set i ((v.tr t).rsv i ||| 2 ^ a)).getD i 0) : Int)]) k (by rw [hg]; rfl) ((hW.step hA c1).after s6) (by show 1 ≤ 1000; decide)
def spOUnreserve (Z : Adr) : Sp := fun vs H Q _ => ∃ B v b, ∃ t i a : Nat, vs = [.ref B.o, .int t, .int i, .int a] ∧ WAt Z.cT Z.cW H B v ∧ RW v b ∧ t < v.ts.length ∧ i < v.n ∧ a < (v.tr t).arts.length ∧ Chg Z H B Q (Mi.opUnreserve v t i a)
theorem unres_res (t : T) (i a : Nat) : (t.unreserve i a).res = t.res.set i (Km485.without (t.rsv i) a) := by
  unfold Mi.T.unreserve
  simp only
  split <;> rfl
theorem ok_rt_unreserve (T : Tx K mg Z) : Good P w K mg base 3 (Z.f 42) ["world", "t", "i", "a"] (spOUnreserve Z) := by
  refine T.d_rt_unreserve.good sc_rt_unreserve (fun vs H Q E h => ?_) (fun cdv Ar outer s H vs Q E hr h => ?_)
  · obtain ⟨B, v, b, t, i, a, rfl, _⟩ := h
    rfl
  · obtain ⟨B, v, b, t, i, a, rfl, hW, hR, ht, hi, ha, k⟩ := h
    refine ⟨_, (pss_cons (ps_set (i := 4) sc_rt_unreserve.nd rfl (Or.inl rfl) (pe_ix ix_list (pv_fld (Y := vW Z) T.clW T.nW_treaties (fun a b => wf_treaties a b) (pv 0)) (pv 1) (fun _ _ => rfl))) (pss_cons (ps_if (pt_not (pt_tr (pv_meth (Y := vT Z) (pv 4) T.clT T.m_T_has_reserved (fun a b => no_T a b (by decide +kernel)) (ok_T_has_reserved (P := P) (w := w) (base := base) T) (hr.mono (by decide)) (pa_cons (pv 2) (pa_cons (pv 3) pa_nil))))) (pss_one (ps_ret (pe_lst (pa_cons (pg_int rfl T.g_NOT_SO) pa_nil)))) pss_nil) (pss_cons (ps_expr (pv_meth (Y := vT Z) (pv 4) T.clT T.m_T_unreserve (fun a b => no_T a b (by decide +kernel)) (ok_T_unreserve (P := P) (w := w) (base := base) T) (hr.mono (by decide)) (pa_cons (pv 2) (pa_cons (pv 3) pa_nil)))) (pss_one (ps_ret (pe_lst (pa_cons (pg_call (ok_size (P := P) (w := w) (base := base) T) (hr.mono (by decide)) rfl T.g_size (pa_cons (pe_ix ix_list (pv_fld (Y := vT Z) T.clT T.nT_reserved (fun a b => tf_reserved a b) (pv 4)) (pv 2) (fun _ _ => rfl)) pa_nil)) pa_nil))))))), ?_⟩
    unfold Mi.opUnreserve at k
    obtain ⟨A, hA, hx, hT⟩ := tl_at hW ht
    have hRT := hR.tr ht
    have n6 := hR.n6
    refine ⟨_, rfl, B, v, rfl, hW, _, rfl, B.tl, _, _, _, rfl, rfl, SqL.of hW.tl, atI_nat hx, ?_⟩
    have ha6 : a < 6 := by have := hRT.al; omega
    have hir : i < (v.tr t).res.length := by rw [hRT.lr]; omega
    refine ⟨_, rfl, A, _, rfl, hT, _, rfl, _, rfl, A, _, i, a, rfl, hT, hRT.lr, by omega, ha6, _, rfl, iteB (fun h3 => ?_) fun h3 => ?_⟩
    · exact no_ret k (if_pos (by simpa using h3)) hW (Same.refl _)
    rw [if_neg (by rw [show ((v.tr t).rsv i).testBit a = true by simpa using h3]; decide)] at k
    refine ⟨_, rfl, A, _, rfl, hT, _, rfl, _, rfl, A, _, i, a, rfl, hT, hRT.lb, hRT.lr, hRT.rl, hRT.rowlt, by omega, ha6, fun H1 A1 c1 => ?_⟩
    have hre := c1.at_.re
    have hg : ((v.tr t).unreserve i a).res.getD i 0 = Km485.without ((v.tr t).rsv i) a := by rw [unres_res, Mi.getD_set _ _ _ _ _ hir, if_pos rfl]
    refine ⟨_, rfl, A1, _, congrArg V.ref c1.o.symm, c1.at_, _, rfl, A1.re, _, _, _, rfl, rfl, SqL.of hre, atI_nat (nv_at (by rw [unres_res, List.length_set]; exact hir)), _, rfl, fun H6 s6 => ?_⟩
    rw [← hg] at k
    exact yes_ret k rfl ((hW.step hA c1).after s6) (by show 1 ≤ 1000; decide)
def spOObject (Z : Adr) : Sp := fun vs H Q _ => ∃ B v b, ∃ t j i : Nat, vs = [.ref B.o, .int t, .int j, .int i] ∧ WAt Z.cT Z.cW H B v ∧ RW v b ∧ t < v.ts.length ∧ j < v.n ∧ i < v.n ∧ Chg Z H B Q (Mi.opObject v t j i)
theorem ok_rt_object (T : Tx K mg Z) : Good P w K mg base 3 (Z.f 43) ["world", "t", "j", "i"] (spOObject Z) := by
  refine T.d_rt_object.good sc_rt_object (fun vs H Q E h => ?_) (fun cdv Ar outer s H vs Q E hr h => ?_)
  · obtain ⟨B, v, b, t, j, i, rfl, _⟩ := h
    rfl
  · obtain ⟨B, v, b, t, j, i, rfl, hW, hR, ht, hj, hi, k⟩ := h
    refine ⟨_, (pss_cons (ps_set (i := 4) sc_rt_object.nd rfl (Or.inl rfl) (pe_ix ix_list (pv_fld (Y := vW Z) T.clW T.nW_treaties (fun a b => wf_treaties a b) (pv 0)) (pv 1) (fun _ _ => rfl))) (pss_cons (ps_if (pt_cmpR op_eq (pv 2) (pv 3) (nomark _)) (pss_one (ps_ret (pe_lst (pa_cons (pg_int rfl T.g_WRONG) pa_nil)))) pss_nil) (pss_cons (ps_if (PW.pt (pw_or (pt_not (pt_tr (pv_meth (Y := vT Z) (pv 4) T.clT T.m_T_is_member (fun a b => no_T a b (by decide +kernel)) (ok_T_is_member (P := P) (w := w) (base := base) T) (hr.mono (by decide)) (pa_cons (pv 2) pa_nil)))) (pw_or1 (pt_cmpR op_eq (pe_ix ix_list (pv_fld (Y := vT Z) T.clT T.nT_reserved (fun a b => tf_reserved a b) (pv 4)) (pv 3) (fun _ _ => rfl)) pe_int (nomark _))))) (pss_one (ps_ret (pe_lst (pa_cons (pg_int rfl T.g_NOT_SO) pa_nil)))) pss_nil) (pss_cons (ps_if (pt_tr (pv_meth (Y := vT Z) (pv 4) T.clT T.m_T_objects (fun a b => no_T a b (by decide +kernel)) (ok_T_objects (P := P) (w := w) (base := base) T) (hr.mono (by decide)) (pa_cons (pv 2) (pa_cons (pv 3) pa_nil)))) (pss_one (ps_ret (pe_lst (pa_cons (pg_int rfl T.g_ALREADY_SO) pa_nil)))) pss_nil) (pss_cons (ps_augS (pv_fld (Y := vT Z) T.clT T.nT_objected (fun a b => tf_objected a b) (pv 4)) (pv 2) get_list (pg_bit rfl T.g_BITS T.bits (pv 3)) iop_or set_listA) (pss_one (ps_ret (pe_lst (pa_cons (pv_meth0 (Y := vT Z) (pv 4) T.clT T.m_T_objections (fun a b => no_T a b (by decide +kernel)) (ok_T_objections (P := P) (w := w) (base := base) T) (hr.mono (by decide))) pa_nil))))))))), ?_⟩
    unfold Mi.opObject at k
    obtain ⟨A, hA, hx, hT⟩ := tl_at hW ht
    have hRT := hR.tr ht
    have n6 := hR.n6
    refine ⟨_, rfl, B, v, rfl, hW, _, rfl, B.tl, _, _, _, rfl, rfl, SqL.of hW.tl, atI_nat hx, ?_⟩
    have hjo : j < (v.tr t).obj.length := by rw [hRT.lb]; omega
    have hir : i < (v.tr t).res.length := by rw [hRT.lr]; omega
    refine ⟨_, rfl, _, rfl, rfl, _, rfl, iteB (fun h => ?_) fun h => ?_⟩
    · have h : decide (V.int ((j : Nat) : Int) = V.int ((i : Nat) : Int)) = true := h
      rw [eq_int2] at h
      exact no_ret k (if_pos (by simpa using h)) hW (Same.refl _)
    have h : decide (V.int ((j : Nat) : Int) = V.int ((i : Nat) : Int)) = false := h
    rw [eq_int2] at h
    rw [if_neg (show ¬ j = i by simpa using h)] at k
    refine ⟨_, rfl, A, _, rfl, hT, _, rfl, A, _, j, rfl, hT, by omega, _, rfl, iteB (fun h3 => ?_) fun h3 => ?_⟩
    · exact no_ret k (if_pos (.inl (by simpa using h3))) hW (Same.refl _)
    refine ⟨_, rfl, A, _, rfl, hT, _, rfl, A.re, _, _, _, rfl, rfl, SqL.of hT.re, atI_nat (nv_at hir), rfl, _, rfl, iteB (fun h4 => ?_) fun h4 => ?_⟩
    · have h4 : decide (V.int (((v.tr t).rsv i : Nat) : Int) = V.int 0) = true := h4
      rw [eq_zero] at h4
      exact no_ret k (if_pos (.inr (by simpa using h4))) hW (Same.refl _)
    have h4 : decide (V.int (((v.tr t).rsv i : Nat) : Int) = V.int 0) = false := h4
    rw [eq_zero] at h4
    rw [if_neg (fun z => by
      rcases z with z | z
      · rw [z] at h3; simp at h3
      · rw [z] at h4; simp at h4)] at k
    refine ⟨_, rfl, A, _, rfl, hT, _, rfl, _, rfl, A, _, j, i, rfl, hT, hRT.lb, by omega, by omega, _, rfl, iteB (fun h5 => ?_) fun h5 => ?_⟩
    · exact no_ret k (if_pos h5) hW (Same.refl _)
    rw [if_neg (by rw [h5]; decide)] at k
    refine ⟨_, rfl, A, _, rfl, hT, _, rfl, A.ob, _, _, _, rfl, rfl, SqL.of hT.ob, atI_nat (nv_at hjo), _, rfl, i, rfl, by omega, _, _, rfl, rfl, A.ob, _, _, j, rfl, rfl, hT.ob, ixn (by rw [nv_len]; exact hjo), fun H1 f1 k1 => ?_⟩
    have f1 : H1 A.ob = some (.lst ((nv (v.tr t).obj).set j (.int (Builtin.bitOr (((v.tr t).row j : Nat) : Int) ((2 ^ i : Nat) : Int))))) := f1
    rw [bitOr_nat, nv_set] at f1
    have c1 := hT.wob (t' := (v.tr t).addObj j i) f1 k1 rfl
    refine ⟨_, rfl, A, _, rfl, c1.at_, A, _, rfl, c1.at_, by show ((v.tr t).obj.set _ _).length = 6; rw [List.length_set]; exact hRT.lb, fun H6 s6 => ?_⟩
    exact yes_ret k rfl ((hW.step hA c1).after s6) (by show 1 ≤ 1000; decide)
def spOAccept (Z : Adr) : Sp := fun vs H Q _ => ∃ B v b, ∃ t j i : Nat, vs = [.ref B.o, .int t, .int j, .int i] ∧ WAt Z.cT Z.cW H B v ∧ RW v b ∧ t < v.ts.length ∧ j < v.n ∧ i < v.n ∧ Chg Z H B Q (Mi.opAccept v t j i)
theorem ok_rt_accept (T : Tx K mg Z) : Good P w K mg base 3 (Z.f 44) ["world", "t", "j", "i"] (spOAccept Z) := by
  refine T.d_rt_accept.good sc_rt_accept (fun vs H Q E h => ?_) (fun cdv Ar outer s H vs Q E hr h => ?_)
  · obtain ⟨B, v, b, t, j, i, rfl, _⟩ := h
    rfl
  · obtain ⟨B, v, b, t, j, i, rfl, hW, hR, ht, hj, hi, k⟩ := h
    refine ⟨_, (pss_cons (ps_set (i := 4) sc_rt_accept.nd rfl (Or.inl rfl) (pe_ix ix_list (pv_fld (Y := vW Z) T.clW T.nW_treaties (fun a b => wf_treaties a b) (pv 0)) (pv 1) (fun _ _ => rfl))) (pss_cons (ps_if (pt_not (pt_tr (pv_meth (Y := vT Z) (pv 4) T.clT T.m_T_objects (fun a b => no_T a b (by decide +kernel)) (ok_T_objects (P := P) (w := w) (base := base) T) (hr.mono (by decide)) (pa_cons (pv 2) (pa_cons (pv 3) pa_nil))))) (pss_one (ps_ret (pe_lst (pa_cons (pg_int rfl T.g_NOT_SO) pa_nil)))) pss_nil) (pss_cons (ps_augS (pv_fld (Y := vT Z) T.clT T.nT_objected (fun a b => tf_objected a b) (pv 4)) (pv 2) get_list (pe_un un_inv (pg_bit rfl T.g_BITS T.bits (pv 3))) iop_and set_listA) (pss_one (ps_ret (pe_lst (pa_cons (pv_meth0 (Y := vT Z) (pv 4) T.clT T.m_T_objections (fun a b => no_T a b (by decide +kernel)) (ok_T_objections (P := P) (w := w) (base := base) T) (hr.mono (by decide))) pa_nil))))))), ?_⟩
    unfold Mi.opAccept at k
    obtain ⟨A, hA, hx, hT⟩ := tl_at hW ht
    have hRT := hR.tr ht
    have n6 := hR.n6
    refine ⟨_, rfl, B, v, rfl, hW, _, rfl, B.tl, _, _, _, rfl, rfl, SqL.of hW.tl, atI_nat hx, ?_⟩
    have hjo : j < (v.tr t).obj.length := by rw [hRT.lb]; omega
    refine ⟨_, rfl, A, _, rfl, hT, _, rfl, _, rfl, A, _, j, i, rfl, hT, hRT.lb, by omega, by omega, _, rfl, iteB (fun h5 => ?_) fun h5 => ?_⟩
    · exact no_ret k (if_pos (by simpa using h5)) hW (Same.refl _)
    rw [if_neg (by rw [show ((v.tr t).row j).testBit i = true by simpa using h5]; decide)] at k
    refine ⟨_, rfl, A, _, rfl, hT, _, rfl, A.ob, _, _, _, rfl, rfl, SqL.of hT.ob, atI_nat (nv_at hjo), _, rfl, i, rfl, by omega, _, rfl, _, _, rfl, rfl, A.ob, _, _, j, rfl, rfl, hT.ob, ixn (by rw [nv_len]; exact hjo), fun H1 f1 k1 => ?_⟩
    have f1 : H1 A.ob = some (.lst ((nv (v.tr t).obj).set j (.int (Builtin.bitAnd (((v.tr t).row j : Nat) : Int) (Builtin.bitNot ((2 ^ i : Nat) : Int)))))) := f1
    rw [bit_clear _ (hRT.row64 j) i (by omega), nv_set] at f1
    have c1 := hT.wob (t' := (v.tr t).delObj j i) f1 k1 rfl
    refine ⟨_, rfl, A, _, rfl, c1.at_, A, _, rfl, c1.at_, by show ((v.tr t).obj.set _ _).length = 6; rw [List.length_set]; exact hRT.lb, fun H6 s6 => ?_⟩
    exact yes_ret k rfl ((hW.step hA c1).after s6) (by show 1 ≤ 1000; decide)
def spOFavour (Z : Adr) : Sp := fun vs H Q _ => ∃ B v b, ∃ i j : Nat, vs = [.ref B.o, .int i, .int j] ∧ WAt Z.cT Z.cW H B v ∧ RW v b ∧ i < v.n ∧ j < v.n ∧ Chg Z H B Q (Mi.opFavour v i j)
theorem ok_rt_favour (T : Tx K mg Z) : Good P w K mg base 3 (Z.f 45) ["world", "i", "j"] (spOFavour Z) := by
  refine T.d_rt_favour.good sc_rt_favour (fun vs H Q E h => ?_) (fun cdv Ar outer s H vs Q E hr h => ?_)
  · obtain ⟨B, v, b, i, j, rfl, _⟩ := h
    rfl
  · obtain ⟨B, v, b, i, j, rfl, hW, hR, hi, hj, k⟩ := h
    refine ⟨_, (pss_cons (ps_if (pt_cmpR op_eq (pv 1) (pv 2) (nomark _)) (pss_one (ps_ret (pe_lst (pa_cons (pg_int rfl T.g_WRONG) pa_nil)))) pss_nil) (pss_cons (ps_if (pt_tr (pv_meth (Y := vW Z) (pv 0) T.clW T.m_W_favours (fun a b => no_W a b (by decide +kernel)) (ok_W_favours (P := P) (w := w) (base := base) T) (hr.mono (by decide)) (pa_cons (pv 1) (pa_cons (pv 2) pa_nil)))) (pss_one (ps_ret (pe_lst (pa_cons (pg_int rfl T.g_ALREADY_SO) pa_nil)))) pss_nil) (pss_cons (ps_augS (pv_fld (Y := vW Z) T.clW T.nW_favoured (fun a b => wf_favoured a b) (pv 0)) (pv 1) get_list (pg_bit rfl T.g_BITS T.bits (pv 2)) iop_or set_listA) (pss_one (ps_ret (pe_lst (pa_cons (pv_meth0 (Y := vW Z) (pv 0) T.clW T.m_W_all_favours (fun a b => no_W a b (by decide +kernel)) (ok_W_all_favours (P := P) (w := w) (base := base) T) (hr.mono (by decide))) pa_nil))))))), ?_⟩
    unfold Mi.opFavour at k
    have n6 := hR.n6
    have hif : i < v.fav.length := by rw [hR.lf]; omega
    refine ⟨_, rfl, _, rfl, rfl, _, rfl, iteB (fun h => ?_) fun h => ?_⟩
    · have h : decide (V.int ((i : Nat) : Int) = V.int ((j : Nat) : Int)) = true := h
      rw [eq_int2] at h
      exact no_ret k (if_pos (by simpa using h)) hW (Same.refl _)
    have h : decide (V.int ((i : Nat) : Int) = V.int ((j : Nat) : Int)) = false := h
    rw [eq_int2] at h
    rw [if_neg (show ¬ i = j by simpa using h)] at k
    refine ⟨_, rfl, B, v, rfl, hW, _, rfl, _, rfl, B, v, i, j, rfl, hW, hR.lf, by omega, by omega, _, rfl, iteB (fun h5 => ?_) fun h5 => ?_⟩
    · exact no_ret k (if_pos h5) hW (Same.refl _)
    rw [if_neg (by rw [h5]; decide)] at k
    refine ⟨_, rfl, B, v, rfl, hW, _, rfl, B.fl, _, _, _, rfl, rfl, SqL.of hW.fl, atI_nat (nv_at hif), _, rfl, j, rfl, by omega, _, _, rfl, rfl, B.fl, _, _, i, rfl, rfl, hW.fl, ixn (by rw [nv_len]; exact hif), fun H1 f1 k1 => ?_⟩
    have f1 : H1 B.fl = some (.lst ((nv v.fav).set i (.int (Builtin.bitOr ((v.favs i : Nat) : Int) ((2 ^ j : Nat) : Int))))) := f1
    rw [bitOr_nat, nv_set] at f1
    have c1 := hW.wfl f1 k1
    refine ⟨_, rfl, B, _, rfl, c1.at_, B, _, rfl, c1.at_, by show (v.fav.set _ _).length = 6; rw [List.length_set]; exact hR.lf, fun H6 s6 => ?_⟩
    exact yes_ret k rfl (c1.after s6) (by show 1 ≤ 1000; decide)
def spOUnfavour (Z : Adr) : Sp := fun vs H Q _ => ∃ B v b, ∃ i j : Nat, vs = [.ref B.o, .int i, .int j] ∧ WAt Z.cT Z.cW H B v ∧ RW v b ∧ i < v.n ∧ j < v.n ∧ Chg Z H B Q (Mi.opUnfavour v i j)
theorem ok_rt_unfavour (T : Tx K mg Z) : Good P w K mg base 3 (Z.f 46) ["world", "i", "j"] (spOUnfavour Z) := by
  refine T.d_rt_unfavour.good sc_rt_unfavour (fun vs H Q E h => ?_) (fun cdv Ar outer s H vs Q E hr h => ?_)
  · obtain ⟨B, v, b, i, j, rfl, _⟩ := h
    rfl
  · obtain ⟨B, v, b, i, j, rfl, hW, hR, hi, hj, k⟩ := h
    refine ⟨_, (pss_cons (ps_if (pt_not (pt_tr (pv_meth (Y := vW Z) (pv 0) T.clW T.m_W_favours (fun a b => no_W a b (by decide +kernel)) (ok_W_favours (P := P) (w := w) (base := base) T) (hr.mono (by decide)) (pa_cons (pv 1) (pa_cons (pv 2) pa_nil))))) (pss_one (ps_ret (pe_lst (pa_cons (pg_int rfl T.g_NOT_SO) pa_nil)))) pss_nil) (pss_cons (ps_augS (pv_fld (Y := vW Z) T.clW T.nW_favoured (fun a b => wf_favoured a b) (pv 0)) (pv 1) get_list (pe_un un_inv (pg_bit rfl T.g_BITS T.bits (pv 2))) iop_and set_listA) (pss_one (ps_ret (pe_lst (pa_cons (pv_meth0 (Y := vW Z) (pv 0) T.clW T.m_W_all_favours (fun a b => no_W a b (by decide +kernel)) (ok_W_all_favours (P := P) (w := w) (base := base) T) (hr.mono (by decide))) pa_nil)))))), ?_⟩
    unfold Mi.opUnfavour at k
    have n6 := hR.n6
    have hif : i < v.fav.length := by rw [hR.lf]; omega
    refine ⟨_, rfl, B, v, rfl, hW, _, rfl, _, rfl, B, v, i, j, rfl, hW, hR.lf, by omega, by omega, _, rfl, iteB (fun h5 => ?_) fun h5 => ?_⟩
    · exact no_ret k (if_pos (by simpa using h5)) hW (Same.refl _)
    rw [if_neg (by rw [show (v.favs i).testBit j = true by simpa using h5]; decide)] at k
    refine ⟨_, rfl, B, v, rfl, hW, _, rfl, B.fl, _, _, _, rfl, rfl, SqL.of hW.fl, atI_nat (nv_at hif), _, rfl, j, rfl, by omega, _, rfl, _, _, rfl, rfl, B.fl, _, _, i, rfl, rfl, hW.fl, ixn (by rw [nv_len]; exact hif), fun H1 f1 k1 => ?_⟩
    have f1 : H1 B.fl = some (.lst ((nv v.fav).set i (.int (Builtin.bitAnd ((v.favs i : Nat) : Int) (Builtin.bitNot ((2 ^ j : Nat) : Int)))))) := f1
    rw [bit_clear (v.favs i) (Mi.getD_lt (by decide) hR.fl i) j (by omega), nv_set] at f1
    have c1 := hW.wfl f1 k1
    refine ⟨_, rfl, B, _, rfl, c1.at_, B, _, rfl, c1.at_, by show (v.fav.set _ _).length = 6; rw [List.length_set]; exact hR.lf, fun H6 s6 => ?_⟩
    exact yes_ret k rfl (c1.after s6) (by show 1 ≤ 1000; decide)
def spOPart (Z : Adr) : Sp := fun vs H Q _ => ∃ B v b, ∃ i m : Nat, vs = [.ref B.o, .int i, .int m] ∧ WAt Z.cT Z.cW H B v ∧ RW v b ∧ i < v.n ∧ Chg Z H B Q (Mi.opPart v i m)
theorem all2_left {α β : Type} {P : α → β → Prop} {l : List α} {m : List β} (h : All2 P l m) {a : α} (ha : a ∈ l) : ∃ b, P a b := by
  obtain ⟨i, hi⟩ := List.getElem?_of_mem ha
  obtain ⟨b, _, p⟩ := h.get hi
  exact ⟨b, p⟩
theorem eq_one (m : Nat) : decide (V.int ((m : Nat) : Int) = V.int 1) = (m == 1) := eq_int2 m 1
theorem ok_rt_part (T : Tx K mg Z) : Good P w K mg base 4 (Z.f 47) ["world", "i", "mode"] (spOPart Z) := by
  refine T.d_rt_part.good sc_rt_part (fun vs H Q E h => ?_) (fun cdv Ar outer s H vs Q E hr h => ?_)
  · obtain ⟨B, v, b, i, m, rfl, _⟩ := h
    rfl
  · obtain ⟨B, v, b, i, m, rfl, hW, hR, hi, k⟩ := h
    refine ⟨_, (pss_cons (ps_if (pt_cmpR op_gt (pv 2) pe_int (nomark _)) (pss_one (ps_ret (pe_lst (pa_cons (pg_int rfl T.g_WRONG) pa_nil)))) pss_nil) (pss_cons (ps_if (pt_cmpR op_ge (pv_fld (Y := vW Z) T.clW T.nW_states (fun a b => wf_states a b) (pv 0)) (pg_int rfl T.g_MOST_STATES) (nomark _)) (pss_one (ps_ret (pe_lst (pa_cons (pg_int rfl T.g_FULL) pa_nil)))) pss_nil) (pss_one (ps_ret (pe_lst (pa_cons (pv_meth (Y := vW Z) (pv 0) T.clW T.m_W_part (fun a b => no_W a b (by decide +kernel)) (ok_W_part (P := P) (w := w) (base := base) T) (hr.mono (by decide)) (pa_cons (pv 1) (pa_cons (pe_cmpR op_eq (pv 2) pe_int (nomark _)) pa_nil))) pa_nil)))))), ?_⟩
    unfold Mi.opPart at k
    have n6 := hR.n6
    refine ⟨_, rfl, _, _, rfl, rfl, _, rfl, iteB (fun h => ?_) fun h => ?_⟩
    · have h := of_decide_eq_true h
      exact no_ret k (if_pos (by omega)) hW (Same.refl _)
    have h := of_decide_eq_false h
    rw [if_neg (show ¬ 1 < m by omega)] at k
    refine ⟨_, rfl, B, v, rfl, hW, _, _, rfl, rfl, _, rfl, iteB (fun h1 => ?_) fun h1 => ?_⟩
    · have h1 := of_decide_eq_true h1
      exact no_ret k (if_pos (by omega)) hW (Same.refl _)
    have h1 := of_decide_eq_false h1
    rw [if_neg (show ¬ 6 ≤ v.n by omega)] at k
    refine ⟨_, rfl, B, v, rfl, hW, _, rfl, _, rfl, rfl, ?_⟩
    rw [eq_one]
    refine ⟨B, v, i, m == 1, rfl, hW, fun t ht => ?_, by omega, by omega, fun H1 B1 c1 => ?_⟩
    · obtain ⟨x, hx⟩ := all2_left hR.ts ht
      exact ⟨hx.lb, hx.lr⟩
    · exact yes_ret k rfl c1 (by show 1 ≤ 1000; decide)
end
end Rg
namespace Rg
open PySem PySem.Spec PyProof.Rows L2
open Mi (T W R All2 gath newT newW RW RT)
open Km485 (count again_)
section
variable {P : Program} {w : World} {K : PySem.W.Frag} {mg : Str → Option Value} {base : Heap} {Z : Adr}
def Ans (H : Hp) (Q : VK) (l : List Int) : Prop := ∀ (H' : Hp) (p : Addr), Same H H' → H' p = some (.lst (l.map V.int)) → H p = none → Q (.ref p) H'
theorem an_ret {H H1 : Hp} {Q : VK} {l l' : List Int} (k : Ans H Q l) (e : l = l') (s : Same H H1) (hl : l'.length ≤ 1000) : (l'.map V.int).length ≤ sizeLine ∧ ∀ p, H1 p = none → Q (.ref p) (upd H1 p (.lst (l'.map V.int))) := by
  subst e
  exact ⟨Nat.le_of_lt (small1 (by rw [List.length_map]; exact hl)), fun p hp => k _ p (s.trans (same_upd hp)) upd_same (s.free hp)⟩
def spQ1 (Z : Adr) (f : W → Nat → List Int) : Sp := fun vs H Q _ => ∃ B v b, ∃ t : Nat, vs = [.ref B.o, .int t] ∧ WAt Z.cT Z.cW H B v ∧ RW v b ∧ t < v.ts.length ∧ Ans H Q (f v t)
theorem ok_rt_joiners (T : Tx K mg Z) : Good P w K mg base 5 (Z.f 35) ["world", "t"] (spQ1 Z Mi.qJoiners) := by
  refine T.d_rt_joiners.good sc_rt_joiners (fun vs H Q E h => ?_) (fun cdv Ar outer s H vs Q E hr h => ?_)
  · obtain ⟨B, v, b, t, rfl, _⟩ := h
    rfl
  · obtain ⟨B, v, b, t, rfl, hW, hR, ht, k⟩ := h
    refine ⟨_, (pss_cons (ps_set (i := 2) sc_rt_joiners.nd rfl (Or.inl rfl) (pe_ix ix_list (pv_fld (Y := vW Z) T.clW T.nW_treaties (fun a b => wf_treaties a b) (pv 0)) (pv 1) (fun _ _ => rfl))) (pss_cons (ps_if (pt_tr (pv_meth0 (Y := vT Z) (pv 2) T.clT T.m_T_concluded (fun a b => no_T a b (by decide +kernel)) (ok_T_concluded (P := P) (w := w) (base := base) T) (hr.mono (by decide)))) (pss_one (ps_ret (pe_lst (pa_cons (pg_int rfl T.g_CONCLUDED) pa_nil)))) pss_nil) (pss_cons (ps_set (i := 3) sc_rt_joiners.nd rfl (Or.inl rfl) (pv_meth (Y := vT Z) (pv 2) T.clT T.m_T_joiners (fun a b => no_T a b (by decide +kernel)) (ok_T_joiners (P := P) (w := w) (base := base) T) (hr.mono (by decide)) (pa_cons pe_int pa_nil))) (pss_one (ps_ret (pe_lst (pa_cons (pg_call (ok_size (P := P) (w := w) (base := base) T) (hr.mono (by decide)) rfl T.g_size (pa_cons (pv 3) pa_nil)) (pa_cons (pv 3) pa_nil)))))))), ?_⟩
    unfold Mi.qJoiners at k
    obtain ⟨A, hA, hx, hT⟩ := tl_at hW ht
    have hRT := hR.tr ht
    have n6 := hR.n6
    refine ⟨_, rfl, B, v, rfl, hW, _, rfl, B.tl, _, _, _, rfl, rfl, SqL.of hW.tl, atI_nat hx, ?_⟩
    refine ⟨_, rfl, A, _, rfl, hT, A, _, rfl, hT, _, rfl, iteB (fun h2 => ?_) fun h2 => ?_⟩
    · exact an_ret k (if_pos (of_decide_eq_true h2)) (Same.refl _) (by show 1 ≤ 1000; decide)
    rw [if_neg (of_decide_eq_false h2)] at k
    refine ⟨_, rfl, A, _, rfl, hT, A, _, 0, rfl, hT, hRT.lo, fun H1 s1 => ?_⟩
    refine ⟨_, rfl, _, rfl, fun H2 s2 => ⟨_, rfl, ?_⟩⟩
    exact an_ret k rfl (s1.trans s2) (by show 2 ≤ 1000; decide)
theorem ok_rt_waits (T : Tx K mg Z) : Good P w K mg base 5 (Z.f 36) ["world", "t"] (spQ1 Z Mi.qWaits) := by
  refine T.d_rt_waits.good sc_rt_waits (fun vs H Q E h => ?_) (fun cdv Ar outer s H vs Q E hr h => ?_)
  · obtain ⟨B, v, b, t, rfl, _⟩ := h
    rfl
  · obtain ⟨B, v, b, t, rfl, hW, hR, ht, k⟩ := h
    refine ⟨_, (pss_cons (ps_set (i := 2) sc_rt_waits.nd rfl (Or.inl rfl) (pe_ix ix_list (pv_fld (Y := vW Z) T.clW T.nW_treaties (fun a b => wf_treaties a b) (pv 0)) (pv 1) (fun _ _ => rfl))) (pss_cons (ps_if (pt_tr (pv_meth0 (Y := vT Z) (pv 2) T.clT T.m_T_concluded (fun a b => no_T a b (by decide +kernel)) (ok_T_concluded (P := P) (w := w) (base := base) T) (hr.mono (by decide)))) (pss_one (ps_ret (pe_lst (pa_cons (pg_int rfl T.g_CONCLUDED) pa_nil)))) pss_nil) (pss_cons (ps_set (i := 3) sc_rt_waits.nd rfl (Or.inl rfl) (pe_op op_and (pv_meth0 (Y := vT Z) (pv 2) T.clT T.m_T_offered (fun a b => no_T a b (by decide +kernel)) (ok_T_offered (P := P) (w := w) (base := base) T) (hr.mono (by decide))) (pe_un un_inv (pv_meth (Y := vT Z) (pv 2) T.clT T.m_T_joiners (fun a b => no_T a b (by decide +kernel)) (ok_T_joiners (P := P) (w := w) (base := base) T) (hr.mono (by decide)) (pa_cons pe_int pa_nil))))) (pss_one (ps_ret (pe_lst (pa_cons (pg_call (ok_size (P := P) (w := w) (base := base) T) (hr.mono (by decide)) rfl T.g_size (pa_cons (pv 3) pa_nil)) (pa_cons (pv 3) pa_nil)))))))), ?_⟩
    unfold Mi.qWaits at k
    obtain ⟨A, hA, hx, hT⟩ := tl_at hW ht
    have hRT := hR.tr ht
    have n6 := hR.n6
    refine ⟨_, rfl, B, v, rfl, hW, _, rfl, B.tl, _, _, _, rfl, rfl, SqL.of hW.tl, atI_nat hx, ?_⟩
    refine ⟨_, rfl, A, _, rfl, hT, A, _, rfl, hT, _, rfl, iteB (fun h2 => ?_) fun h2 => ?_⟩
    · exact an_ret k (if_pos (of_decide_eq_true h2)) (Same.refl _) (by show 1 ≤ 1000; decide)
    rw [if_neg (of_decide_eq_false h2)] at k
    refine ⟨_, rfl, A, _, rfl, hT, A, _, rfl, hT, hRT.lo, fun H1 s1 => ?_⟩
    refine ⟨_, rfl, A, _, rfl, hT.mono s1, A, _, 0, rfl, hT.mono s1, hRT.lo, fun H2 s2 => ?_⟩
    have e := bit_minus _ (v.tr t).offd_lt _ ((v.tr t).joiners_lt 0) (by
      rw [beq_iff_eq]
      apply Nat.eq_of_testBit_eq
      intro j
      rw [Nat.testBit_and]
      cases hb : ((v.tr t).joiners 0).testBit j with
      | false => rfl
      | true => rw [(v.tr t).joiners_sub 0 j hb]; rfl)
    refine ⟨_, rfl, _, _, rfl, rfl, ?_⟩
    refine ⟨_, rfl, (v.tr t).offd ^^^ (v.tr t).joiners 0, congrArg (fun z => [V.int z]) e, fun H3 s3 => ⟨_, rfl, ?_⟩⟩
    rw [← e] at k
    exact an_ret k rfl ((s1.trans s2).trans s3) (by show 2 ≤ 1000; decide)
theorem ok_rt_first (T : Tx K mg Z) : Good P w K mg base 7 (Z.f 37) ["world", "t"] (spQ1 Z Mi.qFirst) := by
  refine T.d_rt_first.good sc_rt_first (fun vs H Q E h => ?_) (fun cdv Ar outer s H vs Q E hr h => ?_)
  · obtain ⟨B, v, b, t, rfl, _⟩ := h
    rfl
  · obtain ⟨B, v, b, t, rfl, hW, hR, ht, k⟩ := h
    refine ⟨_, (pss_cons (ps_set (i := 2) sc_rt_first.nd rfl (Or.inl rfl) (pe_ix ix_list (pv_fld (Y := vW Z) T.clW T.nW_treaties (fun a b => wf_treaties a b) (pv 0)) (pv 1) (fun _ _ => rfl))) (pss_cons (ps_if (pt_tr (pv_meth0 (Y := vT Z) (pv 2) T.clT T.m_T_concluded (fun a b => no_T a b (by decide +kernel)) (ok_T_concluded (P := P) (w := w) (base := base) T) (hr.mono (by decide)))) (pss_one (ps_ret (pe_lst (pa_cons (pg_int rfl T.g_CONCLUDED) pa_nil)))) pss_nil) (pss_cons (ps_if (pt_not (pt_tr (pv_meth (Y := vT Z) (pv 2) T.clT T.m_T_enough_join (fun a b => no_T a b (by decide +kernel)) (ok_T_enough_join (P := P) (w := w) (base := base) T) (hr.mono (by decide)) (pa_cons (pv_meth0 (Y := vT Z) (pv 2) T.clT T.m_T_offered (fun a b => no_T a b (by decide +kernel)) (ok_T_offered (P := P) (w := w) (base := base) T) (hr.mono (by decide))) pa_nil)))) (pss_one (ps_ret (pe_lst (pa_cons (pg_int rfl T.g_TOO_LITTLE) pa_nil)))) pss_nil) (pss_cons (ps_set (i := 3) sc_rt_first.nd rfl (Or.inl rfl) (pv_meth0 (Y := vT Z) (pv 2) T.clT T.m_T_first (fun a b => no_T a b (by decide +kernel)) (ok_T_first (P := P) (w := w) (base := base) T) (hr.mono (by decide)))) (pss_one (ps_ret (pe_lst (pa_cons (pg_call (ok_size (P := P) (w := w) (base := base) T) (hr.mono (by decide)) rfl T.g_size (pa_cons (pv 3) pa_nil)) (pa_cons (pv 3) pa_nil))))))))), ?_⟩
    unfold Mi.qFirst at k
    obtain ⟨A, hA, hx, hT⟩ := tl_at hW ht
    have hRT := hR.tr ht
    have n6 := hR.n6
    refine ⟨_, rfl, B, v, rfl, hW, _, rfl, B.tl, _, _, _, rfl, rfl, SqL.of hW.tl, atI_nat hx, ?_⟩
    refine ⟨_, rfl, A, _, rfl, hT, A, _, rfl, hT, _, rfl, iteB (fun h2 => ?_) fun h2 => ?_⟩
    · exact an_ret k (if_pos (of_decide_eq_true h2)) (Same.refl _) (by show 1 ≤ 1000; decide)
    rw [if_neg (of_decide_eq_false h2)] at k
    refine ⟨_, rfl, A, _, rfl, hT, _, rfl, A, _, rfl, hT, A, _, rfl, hT, hRT.lo, fun H1 s1 => ?_⟩
    refine ⟨A, _, _, rfl, hT.mono s1, hRT.lo, fun H2 s2 => ⟨_, rfl, iteB (fun h4 => ?_) fun h4 => ?_⟩⟩
    · exact an_ret k (if_pos (by simpa using h4)) (s1.trans s2) (by show 1 ≤ 1000; decide)
    rw [if_neg (show ¬ (v.tr t).enough (v.tr t).offd = false by rw [show (v.tr t).enough (v.tr t).offd = true by simpa using h4]; decide)] at k
    have hT2 := hT.mono (s1.trans s2)
    refine ⟨_, rfl, A, _, rfl, hT2, A, _, rfl, hT2, hRT.lo, fun H3 s3 => ?_⟩
    refine ⟨_, rfl, _, rfl, fun H4 s4 => ⟨_, rfl, ?_⟩⟩
    exact an_ret k rfl (((s1.trans s2).trans s3).trans s4) (by show 2 ≤ 1000; decide)
theorem ok_rt_members (T : Tx K mg Z) : Good P w K mg base 2 (Z.f 48) ["world", "t"] (spQ1 Z Mi.qMembers) := by
  refine T.d_rt_members.good sc_rt_members (fun vs H Q E h => ?_) (fun cdv Ar outer s H vs Q E hr h => ?_)
  · obtain ⟨B, v, b, t, rfl, _⟩ := h
    rfl
  · obtain ⟨B, v, b, t, rfl, hW, hR, ht, k⟩ := h
    refine ⟨_, (pss_cons (ps_set (i := 2) sc_rt_members.nd rfl (Or.inl rfl) (pe_ix ix_list (pv_fld (Y := vW Z) T.clW T.nW_treaties (fun a b => wf_treaties a b) (pv 0)) (pv 1) (fun _ _ => rfl))) (pss_one (ps_ret (pe_lst (pa_cons (pg_call (ok_size (P := P) (w := w) (base := base) T) (hr.mono (by decide)) rfl T.g_size (pa_cons (pv_fld (Y := vT Z) T.clT T.nT_members (fun a b => tf_members a b) (pv 2)) pa_nil)) (pa_cons (pv_fld (Y := vT Z) T.clT T.nT_members (fun a b => tf_members a b) (pv 2)) (pa_cons (pv_fld (Y := vT Z) T.clT T.nT_turn (fun a b => tf_turn a b) (pv 2)) pa_nil))))))), ?_⟩
    unfold Mi.qMembers at k
    obtain ⟨A, hA, hx, hT⟩ := tl_at hW ht
    have hRT := hR.tr ht
    have n6 := hR.n6
    refine ⟨_, rfl, B, v, rfl, hW, _, rfl, B.tl, _, _, _, rfl, rfl, SqL.of hW.tl, atI_nat hx, ?_⟩
    refine ⟨_, rfl, A, _, rfl, hT, _, rfl, fun H1 s1 => ?_⟩
    have hT1 := hT.mono s1
    refine ⟨_, rfl, A, _, rfl, hT1, _, rfl, A, _, rfl, hT1, ?_⟩
    exact an_ret k rfl s1 (by show 3 ≤ 1000; decide)
def spQBetween (Z : Adr) : Sp := fun vs H Q _ => ∃ B v b, ∃ t i j : Nat, vs = [.ref B.o, .int t, .int i, .int j] ∧ WAt Z.cT Z.cW H B v ∧ RW v b ∧ t < v.ts.length ∧ i < v.n ∧ j < v.n ∧ Ans H Q (Mi.qBetween v t i j)
theorem ok_rt_between (T : Tx K mg Z) : Good P w K mg base 3 (Z.f 49) ["world", "t", "i", "j"] (spQBetween Z) := by
  refine T.d_rt_between.good sc_rt_between (fun vs H Q E h => ?_) (fun cdv Ar outer s H vs Q E hr h => ?_)
  · obtain ⟨B, v, b, t, i, j, rfl, _⟩ := h
    rfl
  · obtain ⟨B, v, b, t, i, j, rfl, hW, hR, ht, hi, hj, k⟩ := h
    refine ⟨_, (pss_cons (ps_if (pt_cmpR op_eq (pv 2) (pv 3) (nomark _)) (pss_one (ps_ret (pe_lst (pa_cons (pg_int rfl T.g_WRONG) pa_nil)))) pss_nil) (pss_one (ps_ret (pe_lst (pa_cons (pe_ifExp (pt_tr (pv_meth (Y := vT Z) (pe_ix ix_list (pv_fld (Y := vW Z) T.clW T.nW_treaties (fun a b => wf_treaties a b) (pv 0)) (pv 1) (fun _ _ => rfl)) T.clT T.m_T_between (fun a b => no_T a b (by decide +kernel)) (ok_T_between (P := P) (w := w) (base := base) T) (hr.mono (by decide)) (pa_cons (pv 2) (pa_cons (pv 3) pa_nil)))) pe_int pe_int) pa_nil))))), ?_⟩
    unfold Mi.qBetween at k
    obtain ⟨A, hA, hx, hT⟩ := tl_at hW ht
    have hRT := hR.tr ht
    have n6 := hR.n6
    refine ⟨_, rfl, _, rfl, rfl, _, rfl, iteB (fun h => ?_) fun h => ?_⟩
    · have h : decide (V.int ((i : Nat) : Int) = V.int ((j : Nat) : Int)) = true := h
      rw [eq_int2] at h
      exact an_ret k (if_pos (by simpa using h)) (Same.refl _) (by show 1 ≤ 1000; decide)
    have h : decide (V.int ((i : Nat) : Int) = V.int ((j : Nat) : Int)) = false := h
    rw [eq_int2] at h
    rw [if_neg (show ¬ i = j by simpa using h)] at k
    refine ⟨_, rfl, B, v, rfl, hW, _, rfl, B.tl, _, _, _, rfl, rfl, SqL.of hW.tl, atI_nat hx, A, _, rfl, hT, _, rfl, _, rfl, A, _, i, j, rfl, hT, hRT.lb, by omega, by omega, _, rfl, iteB (fun h1 => ?_) fun h1 => ?_⟩
    · rw [if_pos h1] at k
      exact an_ret k rfl (Same.refl _) (by show 1 ≤ 1000; decide)
    · rw [if_neg (by rw [h1]; decide)] at k
      exact an_ret k rfl (Same.refl _) (by show 1 ≤ 1000; decide)
def spQApplies (Z : Adr) : Sp := fun vs H Q _ => ∃ B v b, ∃ t i j a : Nat, vs = [.ref B.o, .int t, .int i, .int j, .int a] ∧ WAt Z.cT Z.cW H B v ∧ RW v b ∧ t < v.ts.length ∧ i < v.n ∧ j < v.n ∧ a < (v.tr t).arts.length ∧ Ans H Q (Mi.qApplies v t i j a)
theorem ok_rt_applies (T : Tx K mg Z) : Good P w K mg base 4 (Z.f 50) ["world", "t", "i", "j", "a"] (spQApplies Z) := by
  refine T.d_rt_applies.good sc_rt_applies (fun vs H Q E h => ?_) (fun cdv Ar outer s H vs Q E hr h => ?_)
  · obtain ⟨B, v, b, t, i, j, a, rfl, _⟩ := h
    rfl
  · obtain ⟨B, v, b, t, i, j, a, rfl, hW, hR, ht, hi, hj, ha, k⟩ := h
    refine ⟨_, (pss_cons (ps_if (pt_cmpR op_eq (pv 2) (pv 3) (nomark _)) (pss_one (ps_ret (pe_lst (pa_cons (pg_int rfl T.g_WRONG) pa_nil)))) pss_nil) (pss_one (ps_ret (pe_lst (pa_cons (pe_ifExp (pt_tr (pv_meth (Y := vT Z) (pe_ix ix_list (pv_fld (Y := vW Z) T.clW T.nW_treaties (fun a b => wf_treaties a b) (pv 0)) (pv 1) (fun _ _ => rfl)) T.clT T.m_T_applies (fun a b => no_T a b (by decide +kernel)) (ok_T_applies (P := P) (w := w) (base := base) T) (hr.mono (by decide)) (pa_cons (pv 2) (pa_cons (pv 3) (pa_cons (pv 4) pa_nil))))) pe_int pe_int) pa_nil))))), ?_⟩
    unfold Mi.qApplies at k
    obtain ⟨A, hA, hx, hT⟩ := tl_at hW ht
    have hRT := hR.tr ht
    have n6 := hR.n6
    have hal := hRT.al
    refine ⟨_, rfl, _, rfl, rfl, _, rfl, iteB (fun h => ?_) fun h => ?_⟩
    · have h : decide (V.int ((i : Nat) : Int) = V.int ((j : Nat) : Int)) = true := h
      rw [eq_int2] at h
      exact an_ret k (if_pos (by simpa using h)) (Same.refl _) (by show 1 ≤ 1000; decide)
    have h : decide (V.int ((i : Nat) : Int) = V.int ((j : Nat) : Int)) = false := h
    rw [eq_int2] at h
    rw [if_neg (show ¬ i = j by simpa using h)] at k
    refine ⟨_, rfl, B, v, rfl, hW, _, rfl, B.tl, _, _, _, rfl, rfl, SqL.of hW.tl, atI_nat hx, A, _, rfl, hT, _, rfl, _, rfl, _, rfl, A, _, i, j, a, rfl, hT, hRT.lb, hRT.lr, by omega, by omega, by omega, _, rfl, iteB (fun h1 => ?_) fun h1 => ?_⟩
    · rw [if_pos h1] at k
      exact an_ret k rfl (Same.refl _) (by show 1 ≤ 1000; decide)
    · rw [if_neg (by rw [h1]; decide)] at k
      exact an_ret k rfl (Same.refl _) (by show 1 ≤ 1000; decide)
def spQ3 (Z : Adr) (f : W → Nat → Nat → Nat → List Int) : Sp := fun vs H Q _ => ∃ B v b, ∃ i j s : Nat, vs = [.ref B.o, .int i, .int j, .int s] ∧ WAt Z.cT Z.cW H B v ∧ RW v b ∧ i < v.n ∧ j < v.n ∧ Ans H Q (f v i j s)
theorem ok_rt_rule (T : Tx K mg Z) : Good P w K mg base 6 (Z.f 51) ["world", "i", "j", "s"] (spQ3 Z Mi.qRule) := by
  refine T.d_rt_rule.good sc_rt_rule (fun vs H Q E h => ?_) (fun cdv Ar outer s H vs Q E hr h => ?_)
  · obtain ⟨B, v, b, i, j, n, rfl, _⟩ := h
    rfl
  · obtain ⟨B, v, b, i, j, n, rfl, hW, hR, hi, hj, k⟩ := h
    refine ⟨_, (pss_cons (ps_if (PW.pt (pw_or (pt_cmpR op_eq (pv 1) (pv 2) (nomark _)) (pw_or1 (pt_cmpR op_ge (pv 3) (pg_int rfl T.g_SUBJECTS) (nomark _))))) (pss_one (ps_ret (pe_lst (pa_cons (pg_int rfl T.g_WRONG) pa_nil)))) pss_nil) (pss_cons (ps_set (i := 4) sc_rt_rule.nd rfl (Or.inl rfl) (pv_meth (Y := vW Z) (pv 0) T.clW T.m_W_ahead (fun a b => no_W a b (by decide +kernel)) (ok_W_ahead (P := P) (w := w) (base := base) T) (hr.mono (by decide)) (pa_cons (pv 1) (pa_cons (pv 2) (pa_cons (pv 3) pa_nil))))) (pss_cons (ps_if (pt_cmp (pc_isN (pv 4))) (pss_one (ps_ret (pe_lst (pa_cons (pg_int rfl T.g_TOO_LITTLE) pa_nil)))) pss_nil) (pss_one (ps_ret (pe_lst (pa_cons (pe_ix ix_tup (pv 4) pe_int (fun _ _ => rfl)) (pa_cons (pe_ix ix_tup (pv 4) pe_int (fun _ _ => rfl)) (pa_cons (pv_meth (Y := vW Z) (pv 0) T.clW T.m_W_amount (fun a b => no_W a b (by decide +kernel)) (ok_W_amount (P := P) (w := w) (base := base) T) (hr.mono (by decide)) (pa_cons (pe_ix ix_tup (pv 4) pe_int (fun _ _ => rfl)) (pa_cons (pe_ix ix_tup (pv 4) pe_int (fun _ _ => rfl)) pa_nil))) pa_nil))))))))), ?_⟩
    unfold Mi.qRule at k
    have n6 := hR.n6
    refine ⟨_, rfl, _, rfl, rfl, _, rfl, iteB (fun h => ?_) fun h => ?_⟩
    · have h : decide (V.int ((i : Nat) : Int) = V.int ((j : Nat) : Int)) = true := h
      rw [eq_int2] at h
      exact an_ret k (if_pos (.inl (by simpa using h))) (Same.refl _) (by show 1 ≤ 1000; decide)
    have h : decide (V.int ((i : Nat) : Int) = V.int ((j : Nat) : Int)) = false := h
    rw [eq_int2] at h
    have hij : i ≠ j := by simpa using h
    refine ⟨_, rfl, _, _, rfl, rfl, _, rfl, iteB (fun h1 => ?_) fun h1 => ?_⟩
    · have h1 := of_decide_eq_true h1
      exact an_ret k (if_pos (.inr (by omega))) (Same.refl _) (by show 1 ≤ 1000; decide)
    have h1 := of_decide_eq_false h1
    rw [if_neg (show ¬ (i = j ∨ 4 ≤ n) by omega)] at k
    refine ⟨_, rfl, B, v, rfl, hW, _, rfl, _, rfl, _, rfl, B, v, b, i, j, n, rfl, hW, hR, by omega, by omega, fun H1 x s1 hx => ?_⟩
    cases q : v.ahead i j n with
    | none =>
      rw [q] at hx k
      have hx : x = .non := hx
      subst hx
      exact ⟨_, rfl, _, rfl, an_ret k rfl s1 (by show 1 ≤ 1000; decide)⟩
    | some y =>
      rw [q] at hx k
      obtain ⟨p, rfl, hp⟩ := hx
      obtain ⟨y1, y2⟩ := hR.ahead_in hij n q
      have hW1 := hW.mono s1
      refine ⟨_, rfl, _, rfl, ?_⟩
      refine ⟨_, rfl, _, _, _, _, rfl, rfl, SqT.of hp, pair0 y, _, rfl, _, _, _, _, rfl, rfl, SqT.of hp, pair1 y, _, rfl, B, v, rfl, hW1, _, rfl, _, _, _, _, rfl, rfl, SqT.of hp, pair0 y, _, rfl, _, _, _, _, rfl, rfl, SqT.of hp, pair1 y, B, v, y.1, y.2, rfl, hW1, y1, y2, ?_⟩
      exact an_ret k rfl s1 (by show 3 ≤ 1000; decide)
theorem ok_rt_takes (T : Tx K mg Z) : Good P w K mg base 8 (Z.f 52) ["world", "i", "j", "s"] (spQ3 Z Mi.qTakes) := by
  refine T.d_rt_takes.good sc_rt_takes (fun vs H Q E h => ?_) (fun cdv Ar outer s H vs Q E hr h => ?_)
  · obtain ⟨B, v, b, i, j, n, rfl, _⟩ := h
    rfl
  · obtain ⟨B, v, b, i, j, n, rfl, hW, hR, hi, hj, k⟩ := h
    refine ⟨_, (pss_cons (ps_if (PW.pt (pw_or (pt_cmpR op_eq (pv 1) (pv 2) (nomark _)) (pw_or1 (pt_cmpR op_ge (pv 3) (pg_int rfl T.g_SUBJECTS) (nomark _))))) (pss_one (ps_ret (pe_lst (pa_cons (pg_int rfl T.g_WRONG) pa_nil)))) pss_nil) (pss_one (ps_ret (pe_lst (pa_cons (pv_meth (Y := vW Z) (pv 0) T.clW T.m_W_takes (fun a b => no_W a b (by decide +kernel)) (ok_W_takes (P := P) (w := w) (base := base) T) (hr.mono (by decide)) (pa_cons (pv 1) (pa_cons (pv 2) (pa_cons (pv 3) pa_nil)))) pa_nil))))), ?_⟩
    unfold Mi.qTakes at k
    refine ⟨_, rfl, _, rfl, rfl, _, rfl, iteB (fun h => ?_) fun h => ?_⟩
    · have h : decide (V.int ((i : Nat) : Int) = V.int ((j : Nat) : Int)) = true := h
      rw [eq_int2] at h
      exact an_ret k (if_pos (.inl (by simpa using h))) (Same.refl _) (by show 1 ≤ 1000; decide)
    have h : decide (V.int ((i : Nat) : Int) = V.int ((j : Nat) : Int)) = false := h
    rw [eq_int2] at h
    have hij : i ≠ j := by simpa using h
    refine ⟨_, rfl, _, _, rfl, rfl, _, rfl, iteB (fun h1 => ?_) fun h1 => ?_⟩
    · have h1 := of_decide_eq_true h1
      exact an_ret k (if_pos (.inr (by omega))) (Same.refl _) (by show 1 ≤ 1000; decide)
    have h1 := of_decide_eq_false h1
    rw [if_neg (show ¬ (i = j ∨ 4 ≤ n) by omega)] at k
    refine ⟨_, rfl, B, v, rfl, hW, _, rfl, _, rfl, _, rfl, B, v, b, i, j, n, rfl, hW, hR, hi, hj, hij, fun H1 s1 => ?_⟩
    exact an_ret k rfl s1 (by show 1 ≤ 1000; decide)
end
end Rg
namespace Rg
open PySem PySem.Spec PyProof.Rows L2
open Mi (T W R All2 gath newT newW RW RT)
open Km485 (count again_)
section
variable {P : Program} {w : World} {K : PySem.W.Frag} {mg : Str → Option Value} {base : Heap} {Z : Adr}
def spQTable (Z : Adr) : Sp := fun vs H Q _ => ∃ B v b, ∃ s : Nat, vs = [.ref B.o, .int s] ∧ WAt Z.cT Z.cW H B v ∧ RW v b ∧ Ans H Q (Mi.qTable v s)
theorem ok_rt_table (T : Tx K mg Z) : Good P w K mg base 8 (Z.f 53) ["world", "s"] (spQTable Z) := by
  refine T.d_rt_table.good sc_rt_table (fun vs H Q E h => ?_) (fun cdv Ar outer s H vs Q E hr h => ?_)
  · obtain ⟨B, v, b, n, rfl, _⟩ := h
    rfl
  · obtain ⟨B, v, b, n, rfl, hW, hR, k⟩ := h
    refine ⟨_, (pss_cons (ps_if (pt_cmpR op_ge (pv 1) (pg_int rfl T.g_SUBJECTS) (nomark _)) (pss_one (ps_ret (pe_lst (pa_cons (pg_int rfl T.g_WRONG) pa_nil)))) pss_nil) (pss_cons (ps_set (i := 2) sc_rt_table.nd rfl (Or.inl rfl) pe_int) (pss_cons (ps_set (i := 3) sc_rt_table.nd rfl (Or.inl rfl) pe_int) (pss_cons (ps_for PassesOwn.never rfl (pi_range1 rfl T.b_range (pa_cons (pv_fld (Y := vW Z) T.clW T.nW_states (fun a b => wf_states a b) (pv 0)) pa_nil)) (pg_name (i := 4) sc_rt_table.nd rfl (Or.inl rfl)) (pss_one (ps_for PassesOwn.never rfl (pi_range1 rfl T.b_range (pa_cons (pv 4) pa_nil)) (pg_name (i := 5) sc_rt_table.nd rfl (Or.inl rfl)) (pss_cons (ps_aug (i := 2) sc_rt_table.nd rfl (Or.inl rfl) (pe_ifExp (pt_cmp (pc_isN (pv_meth (Y := vW Z) (pv 0) T.clW T.m_W_ahead (fun a b => no_W a b (by decide +kernel)) (ok_W_ahead (P := P) (w := w) (base := base) T) (hr.mono (by decide)) (pa_cons (pv 4) (pa_cons (pv 5) (pa_cons (pv 1) pa_nil)))))) pe_int pe_int) iop_add) (pss_one (ps_aug (i := 3) sc_rt_table.nd rfl (Or.inl rfl) (pe_op op_add (pv_meth (Y := vW Z) (pv 0) T.clW T.m_W_takes (fun a b => no_W a b (by decide +kernel)) (ok_W_takes (P := P) (w := w) (base := base) T) (hr.mono (by decide)) (pa_cons (pv 4) (pa_cons (pv 5) (pa_cons (pv 1) pa_nil)))) (pv_meth (Y := vW Z) (pv 0) T.clW T.m_W_takes (fun a b => no_W a b (by decide +kernel)) (ok_W_takes (P := P) (w := w) (base := base) T) (hr.mono (by decide)) (pa_cons (pv 5) (pa_cons (pv 4) (pa_cons (pv 1) pa_nil))))) iop_add)))))) (pss_one (ps_ret (pe_lst (pa_cons (pv 2) (pa_cons (pv 3) pa_nil))))))))), ?_⟩
    unfold Mi.qTable at k
    have n6 := hR.n6
    refine ⟨_, rfl, _, _, rfl, rfl, _, rfl, iteB (fun h1 => ?_) fun h1 => ?_⟩
    · have h1 := of_decide_eq_true h1
      exact an_ret k (if_pos (by omega)) (Same.refl _) (by show 1 ≤ 1000; decide)
    have h1 := of_decide_eq_false h1
    rw [if_neg (show ¬ 4 ≤ n by omega)] at k
    refine ⟨_, rfl, B, v, rfl, hW, _, rfl, by omega, by omega, ?_⟩
    refine for_range (lo := 0) (n := ((v.n : Nat) : Int).toNat) (fun i σ H' => ∃ v4 v5, σ = [some (.ref B.o), some (.int (n : Nat)), some (.int ((v.tabTo n i).1 : Nat)), some (.int ((v.tabTo n i).2 : Nat)), v4, v5] ∧ Same H H') ⟨none, none, rfl, Same.refl _⟩ ?_ ?_
    · rintro i σ H' hi ⟨v4, v5, rfl, s1⟩
      have hi : i < v.n := by rw [Int.toNat_natCast] at hi; exact hi
      have ez : (0 : Int) + (i : Nat) = ((i : Nat) : Int) := Int.zero_add _
      rw [ez]
      refine ⟨_, rfl, _, rfl, by omega, by omega, ?_⟩
      refine for_range (lo := 0) (n := ((i : Nat) : Int).toNat) (fun j σ H' => ∃ v5, σ = [some (.ref B.o), some (.int (n : Nat)), some (.int ((v.tabTo n i).1 + (v.inner n i j).1 : Nat)), some (.int ((v.tabTo n i).2 + (v.inner n i j).2 : Nat)), some (.int (i : Nat)), v5] ∧ Same H H') ⟨v5, rfl, s1⟩ ?_ ?_
      · rintro j σ H2 hj ⟨w5, rfl, s2⟩
        have hj : j < i := by rw [Int.toNat_natCast] at hj; exact hj
        have ez2 : (0 : Int) + (j : Nat) = ((j : Nat) : Int) := Int.zero_add _
        rw [ez2]
        have fin : ∀ (c : Nat) (H3 : Hp), (if (v.ahead i j n).isSome then 1 else 0) = c → Same H H3 → ∀ z : Int, z = (((v.tabTo n i).1 + (v.inner n i j).1 : Nat) : Int) + (c : Nat) →
            tAug 3 (tOp (rI0 fun i j => .int (i + j)) (tVM (vW Z) (spTakes Z) (tVar 0) (tCons (tVar 4) (tCons (tVar 5) (tCons (tVar 1) tNil)))) (tVM (vW Z) (spTakes Z) (tVar 0) (tCons (tVar 5) (tCons (tVar 4) (tCons (tVar 1) tNil))))) (rI0 fun i j => .int (i + j))
              { nx := fun σ H' => ∃ v5, σ = [some (.ref B.o), some (.int (n : Nat)), some (.int ((v.tabTo n i).1 + (v.inner n i (j + 1)).1 : Nat)), some (.int ((v.tabTo n i).2 + (v.inner n i (j + 1)).2 : Nat)), some (.int (i : Nat)), v5] ∧ Same H H', rt := Q }
              [some (.ref B.o), some (.int (n : Nat)), some (.int z), some (.int ((v.tabTo n i).2 + (v.inner n i j).2 : Nat)), some (.int (i : Nat)), some (.int (j : Nat))] H3 := by
          intro c H3 hc s3 z hz
          have hW3 := hW.mono s3
          refine ⟨_, rfl, _, rfl, B, v, rfl, hW3, _, rfl, _, rfl, _, rfl, B, v, b, i, j, n, rfl, hW3, hR, hi, by omega, by omega, fun H4 s4 => ?_⟩
          have hW4 := hW3.mono s4
          refine ⟨_, rfl, B, v, rfl, hW4, _, rfl, _, rfl, _, rfl, B, v, b, j, i, n, rfl, hW4, hR, by omega, hi, by omega, fun H5 s5 => ?_⟩
          refine ⟨_, _, rfl, rfl, _, _, rfl, rfl, some (.int (j : Nat)), ?_, (s3.trans s4).trans s5⟩
          rw [hz, ← hc]
          have ei : v.inner n i (j + 1) = ((v.inner n i j).1 + (if (v.ahead i j n).isSome then 1 else 0), (v.inner n i j).2 + (v.takes i j n + v.takes j i n)) := rfl
          rw [ei]
          have e1 : ((((v.tabTo n i).1 + (v.inner n i j).1 : Nat) : Int) + ((if (v.ahead i j n).isSome then 1 else 0 : Nat) : Int)) = (((v.tabTo n i).1 + ((v.inner n i j).1 + (if (v.ahead i j n).isSome then 1 else 0)) : Nat) : Int) := by omega
          have e2 : ((((v.tabTo n i).2 + (v.inner n i j).2 : Nat) : Int) + (((v.takes i j n : Nat) : Int) + ((v.takes j i n : Nat) : Int))) = (((v.tabTo n i).2 + ((v.inner n i j).2 + (v.takes i j n + v.takes j i n)) : Nat) : Int) := by omega
          rw [e1]
          show [_, _, _, some (V.int ((((v.tabTo n i).2 + (v.inner n i j).2 : Nat) : Int) + (((v.takes i j n : Nat) : Int) + ((v.takes j i n : Nat) : Int)))), _, _] = _
          rw [e2]
        refine ⟨_, rfl, _, rfl, B, v, rfl, hW.mono s2, _, rfl, _, rfl, _, rfl, B, v, b, i, j, n, rfl, hW.mono s2, hR, by omega, by omega, fun H3 x s3 hx => ⟨_, rfl, ?_⟩⟩
        have s23 := s2.trans s3
        cases q : v.ahead i j n with
        | none =>
          rw [q] at hx
          have hx : x = .non := hx
          subst hx
          refine ⟨_, _, rfl, rfl, ?_⟩
          exact fin 0 H3 (by rw [q]; rfl) s23 _ rfl
        | some y =>
          rw [q] at hx
          obtain ⟨p, rfl, hp⟩ := hx
          refine ⟨_, _, rfl, rfl, ?_⟩
          exact fin 1 H3 (by rw [q]; rfl) s23 _ rfl
      · rintro σ H2 ⟨w5, rfl, s2⟩
        rw [Int.toNat_natCast]
        exact ⟨some (.int (i : Nat)), w5, rfl, s2⟩
    · rintro σ H' ⟨v4, v5, rfl, s1⟩
      rw [Int.toNat_natCast]
      exact ⟨_, rfl, _, rfl, an_ret k rfl s1 (by show 2 ≤ 1000; decide)⟩
theorem toldV_succ {t : T} {m : Nat} (h : m < t.arts.length) : ((t.arts.take m).flatMap pr) ++ pr (t.arts.getD m (0, 0)) = (t.arts.take (m + 1)).flatMap pr := by
  rw [List.take_add_one, List.getElem?_eq_getElem h, List.flatMap_append, List.getD_eq_getElem?_getD, List.getElem?_eq_getElem h]
  simp
theorem prLen : ∀ l : List (Nat × Nat), (l.flatMap pr).length = 2 * l.length
  | [] => rfl
  | p :: l => by rw [List.flatMap_cons, List.length_append, prLen l]; simp [pr]; omega
theorem toldV_eq (v : W) (t : Nat) : (Mi.qTold v t).map V.int = [V.int ((v.tr t).arts.length : Nat), V.int ((v.tr t).need : Nat)] ++ (v.tr t).arts.flatMap pr ++ (List.replicate (4 - (v.tr t).arts.length) [V.int 0, V.int 0]).flatten := by
  unfold Mi.qTold
  rw [List.map_append, List.map_append]
  congr 1
  · congr 1
    induction (v.tr t).arts with
    | nil => rfl
    | cons p l ih => rw [List.flatMap_cons, List.flatMap_cons, List.map_append, ih]; rfl
  · induction (4 - (v.tr t).arts.length) with
    | zero => rfl
    | succ n ih => rw [List.replicate_succ, List.replicate_succ, List.flatten_cons, List.flatten_cons, List.map_append, ih]; rfl
theorem ok_rt_told (T : Tx K mg Z) : Good P w K mg base 1 (Z.f 54) ["world", "t"] (spQ1 Z Mi.qTold) := by
  refine T.d_rt_told.good sc_rt_told (fun vs H Q E h => ?_) (fun cdv Ar outer s H vs Q E hr h => ?_)
  · obtain ⟨B, v, b, t, rfl, _⟩ := h
    rfl
  · obtain ⟨B, v, b, t, rfl, hW, hR, ht, k⟩ := h
    refine ⟨_, (pss_cons (ps_set (i := 2) sc_rt_told.nd rfl (Or.inl rfl) (pe_ix ix_list (pv_fld (Y := vW Z) T.clW T.nW_treaties (fun a b => wf_treaties a b) (pv 0)) (pv 1) (fun _ _ => rfl))) (pss_cons (ps_set (i := 3) sc_rt_told.nd rfl (Or.inl rfl) (pe_lst (pa_cons (pe_callB call_len_seq (by rfl) T.b_len boot_len (pa_cons (pv_fld (Y := vT Z) T.clT T.nT_articles (fun a b => tf_articles a b) (pv 2)) pa_nil)) (pa_cons (pv_fld (Y := vT Z) T.clT T.nT_need (fun a b => tf_need a b) (pv 2)) pa_nil)))) (pss_cons (ps_for PassesOwn.never rfl (pi_list (pv_fld (Y := vT Z) T.clT T.nT_articles (fun a b => tf_articles a b) (pv 2))) (pg_name (i := 4) sc_rt_told.nd rfl (Or.inl rfl)) (pss_one (ps_expr (pe_bm PySem.F.plainAttrs_list PySem.F.slot_list_extend PySem.F.type_list_extend mt_extendA (pv 3) (pa_cons (pv 4) pa_nil))))) (pss_one (ps_ret (pe_op op_cat (pv 3) (pe_op op_rep (pe_lst (pa_cons pe_int (pa_cons pe_int pa_nil))) (pe_op op_sub (pg_int rfl T.g_MOST_ARTICLES) (pe_callB call_len_seq (by rfl) T.b_len boot_len (pa_cons (pv_fld (Y := vT Z) T.clT T.nT_articles (fun a b => tf_articles a b) (pv 2)) pa_nil)))))))))), ?_⟩
    obtain ⟨A, hA, hx, hT⟩ := tl_at hW ht
    have hRT := hR.tr ht
    have hal := hRT.al
    obtain ⟨as, har, has⟩ := hT.ar
    have hasl := has.len
    refine ⟨_, rfl, B, v, rfl, hW, _, rfl, B.tl, _, _, _, rfl, rfl, SqL.of hW.tl, atI_nat hx, ?_⟩
    refine ⟨_, rfl, A, _, rfl, hT, A.ar, _, rfl, .inl (SqL.of har), _, rfl, A, _, rfl, hT, (by show 2 ≤ sizeLine; decide), fun l hl => ?_⟩
    rw [List.length_map, hasl]
    have s0 := same_upd (o := .lst [V.int ((v.tr t).arts.length : Nat), V.int ((v.tr t).need : Nat)]) hl
    have nl : A.ar ≠ l := ne_of_none har hl
    refine ⟨_, rfl, A, _, rfl, hT.mono s0, A.ar, rfl, ⟨_, SqL.of (s0 _ _ har)⟩, ?_⟩
    refine for_list (K := K) (a := A.ar) (xs := as.map V.ref) (fun m σ H' => ∃ x, σ = [some (.ref B.o), some (.int (t : Nat)), some (.ref A.o), some (.ref l), x] ∧ H' l = some (.lst ([V.int ((v.tr t).arts.length : Nat), V.int ((v.tr t).need : Nat)] ++ ((v.tr t).arts.take m).flatMap pr)) ∧ Kp [l] H H') ⟨none, rfl, upd_same, Same.kp s0 _⟩ (fun m σ H' _ ⟨_, _, _, kp⟩ => SqL.of (kp.at1 har nl)) ?_ ?_
    · rintro m x σ H' hxm ⟨y, rfl, hl', kp⟩
      obtain ⟨a, rfl, ha⟩ := art_of has hxm
      have hm : m < (v.tr t).arts.length := by rw [← hasl]; have := (List.getElem?_eq_some_iff.mp hxm).1; simpa using this
      have nal : a ≠ l := fun z => by rw [z, hl] at ha; cases ha
      refine ⟨_, rfl, .inl ⟨rfl, _, SqL.of hl'⟩, _, rfl, l, a, _, _, rfl, rfl, hl', .inr (kp.at1 ha nal), ?_, fun H2 f2 k2 => ⟨some (.ref a), rfl, ?_, kp.trans k2⟩⟩
      · refine Nat.le_of_lt (small1 ?_)
        rw [List.length_append, prLen, List.length_take]
        simp [pr]
        omega
      · rw [f2, List.append_assoc, toldV_succ hm]
    · rintro σ H' ⟨y, rfl, hl', kp⟩
      rw [List.length_map, hasl, List.take_length] at hl'
      have hT' : TAt Z.cT H' A (v.tr t) := hT.keep (fun a ha o e => kp.at1 e fun z => by rw [z, hl] at e; cases e) fun a m e => kp.at1 e fun z => by rw [z, hl] at e; cases e
      have har' := kp.at1 har nl
      refine ⟨_, rfl, (by show 2 ≤ sizeLine; decide), fun q hq => ?_⟩
      have sq := same_upd (o := .lst [V.int 0, V.int 0]) hq
      refine ⟨_, rfl, A, _, rfl, hT'.mono sq, A.ar, _, rfl, .inl (SqL.of (sq _ _ har')), _, _, rfl, rfl, ?_⟩
      rw [List.length_map, hasl]
      have e4 : ((4 : Int) - ((v.tr t).arts.length : Nat)).toNat = 4 - (v.tr t).arts.length := by omega
      refine ⟨q, _, _, rfl, rfl, upd_same, by omega, by omega, ?_, fun r hr => ?_⟩
      · refine Nat.le_of_lt (small1 ?_)
        rw [e4]
        show 2 * _ ≤ 1000
        omega
      have sr := sq.trans (same_upd (o := .lst (List.replicate ((4 : Int) - ((v.tr t).arts.length : Nat)).toNat [V.int 0, V.int 0]).flatten) hr)
      refine ⟨l, r, _, _, rfl, rfl, sr _ _ hl', upd_same, ?_, fun p hp => ?_⟩
      · refine Nat.le_of_lt (small1 ?_)
        rw [e4, List.length_append, prLen, len_rep]
        simp
        omega
      have sp' := sr.trans (same_upd (o := .lst (([V.int ((v.tr t).arts.length : Nat), V.int ((v.tr t).need : Nat)] ++ (v.tr t).arts.flatMap pr) ++ (List.replicate ((4 : Int) - ((v.tr t).arts.length : Nat)).toNat [V.int 0, V.int 0]).flatten)) hp)
      have kl : Kp [l] H (upd (upd (upd H' q (.lst [V.int 0, V.int 0])) r (.lst (List.replicate ((4 : Int) - ((v.tr t).arts.length : Nat)).toNat [V.int 0, V.int 0]).flatten)) p (.lst (([V.int ((v.tr t).arts.length : Nat), V.int ((v.tr t).need : Nat)] ++ (v.tr t).arts.flatMap pr) ++ (List.replicate ((4 : Int) - ((v.tr t).arts.length : Nat)).toNat [V.int 0, V.int 0]).flatten))) := kp.trans (Same.kp sp' _)
      refine k _ p (fun b o e => kl.at1 e fun z => by rw [z, hl] at e; cases e) ?_ ?_
      · rw [upd_same, toldV_eq, e4]
      · have h1 : H' p = none := sr.free hp
        exact kp.free h1 fun z => by rw [List.mem_singleton.mp z, hl'] at h1; cases h1
end
end Rg
namespace Rg
open PySem PySem.Spec PyProof.Rows L2
open Mi (T W R All2 gath newT newW RW RT)
open Km485 (count again_)
section
variable {P : Program} {w : World} {K : PySem.W.Frag} {mg : Str → Option Value} {base : Heap} {Z : Adr}
def lack1 (v : W) (t0 : Nat) (s : Str) (x : Nat) : Bool := (decide (s = "t") && decide (v.ts.length ≤ x)) || (((decide (s = "i") || decide (s = "j")) && decide (v.n ≤ x)) || (decide (s = "a") && decide ((v.tr t0).arts.length ≤ x)))
def lacksM (v : W) (ns : List Str) (xs : List Nat) : Bool := (List.range ns.length).any fun k => lack1 v (xs.getD 0 0) (ns.getD k "") (xs.getD k 0)
def spLacks (K : PySem.W.Frag) (Z : Adr) : Sp := fun vs H Q _ => ∃ B v a l ns xs, vs = [.ref B.o, .ref a, .ref l] ∧ WAt Z.cT Z.cW H B v ∧ KT K a (ns.map V.str) ∧ H l = some (.lst (nv xs)) ∧ ns.length = xs.length ∧ (∀ k : Nat, ns[k]? = some ("a" : Str) → ns[0]? = some ("t" : Str)) ∧ ∀ H', Same H H' → Q (.bl (lacksM v ns xs)) H'
theorem dec_st (a b : Str) : decide (V.str a = V.str b) = decide (a = b) := by
  rw [decide_eq_decide]
  exact ⟨V.str.inj, fun e => by rw [e]⟩
theorem in_ij (s : Str) : inV (V.str s) [V.str "i", V.str "j"] = (decide (s = "i") || decide (s = "j")) := by
  show ((("i" : Str) == s) || ((("j" : Str) == s) || false)) = _
  rw [Bool.or_false]
  have q : ∀ b : Str, (b == s) = decide (s = b) := fun b => by
    by_cases h : s = b
    · subst h; simp
    · rw [decide_eq_false h]
      exact beq_false_of_ne fun z => h z.symm
  rw [q, q]
theorem ok_lacks (T : Tx K mg Z) : Good P w K mg base 1 (Z.f 55) ["world", "names", "told"] (spLacks K Z) := by
  refine T.d_lacks.good sc_lacks (fun vs H Q E h => ?_) (fun cdv Ar outer s H vs Q E hr h => ?_)
  · obtain ⟨B, v, a, l, ns, xs, rfl, _⟩ := h
    rfl
  · obtain ⟨B, v, a, l, ns, xs, rfl, hW, hK, hl, hlen, hta, k⟩ := h
    refine ⟨_, (pss_cons (ps_for PassesOwn.never rfl (pi_zipTL rfl T.b_zip (pa_cons (pv 1) (pa_cons (pv 2) pa_nil))) (pg_tup rfl (pgs_cons (pg_name (i := 3) sc_lacks.nd rfl (Or.inl rfl)) (pgs_cons (pg_name (i := 4) sc_lacks.nd rfl (Or.inl rfl)) pgs_nil))) (pss_cons (ps_if (PW.pt (pw_and (pt_cmpR op_eq (pv 3) pe_str (nomark _)) (pw_and1 (pt_cmpR op_ge (pv 4) (pe_callB call_len_seq (by rfl) T.b_len boot_len (pa_cons (pv_fld (Y := vW Z) T.clW T.nW_treaties (fun a b => wf_treaties a b) (pv 0)) pa_nil)) (nomark _))))) (pss_one (ps_ret pe_bl)) pss_nil) (pss_cons (ps_if (PW.pt (pw_and (pt_cmpR op_in_seq (pv 3) (pe_tup (pa_cons pe_str (pa_cons pe_str pa_nil))) (by with_unfolding_all rfl)) (pw_and1 (pt_cmpR op_ge (pv 4) (pv_fld (Y := vW Z) T.clW T.nW_states (fun a b => wf_states a b) (pv 0)) (nomark _))))) (pss_one (ps_ret pe_bl)) pss_nil) (pss_one (ps_if (PW.pt (pw_and (pt_cmpR op_eq (pv 3) pe_str (nomark _)) (pw_and1 (pt_cmpR op_ge (pv 4) (pe_callB call_len_seq (by rfl) T.b_len boot_len (pa_cons (pv_fld (Y := vT Z) T.clT T.nT_articles (fun a b => tf_articles a b) (pe_ix ix_list (pv_fld (Y := vW Z) T.clW T.nW_treaties (fun a b => wf_treaties a b) (pv 0)) (pe_ix ix_list (pv 2) pe_int (fun _ _ => rfl)) (fun _ _ => rfl))) pa_nil)) (nomark _))))) (pss_one (ps_ret pe_bl)) pss_nil))))) (pss_one (ps_ret pe_bl))), ?_⟩
    have hbl := hW.ts.len
    refine ⟨_, rfl, _, rfl, a, l, _, _, rfl, hK.sq _, SqL.of hl, ?_⟩
    refine for_zipTL (K := K) (a := a) (b := l) (xs := ns.map V.str) (ys := nv xs) (fun m σ H' => ∃ v3 v4, σ = [some (.ref B.o), some (.ref a), some (.ref l), v3, v4] ∧ Same H H' ∧ ∀ k, k < m → lack1 v (xs.getD 0 0) (ns.getD k "") (xs.getD k 0) = false) (by rw [List.length_map, nv_len]; exact hlen)
      ⟨none, none, rfl, Same.refl _, fun k hk => by omega⟩ (fun m σ H' _ ⟨_, _, _, s1, _⟩ => ⟨hK.sq _, SqL.of (s1 _ _ hl)⟩) ?_ ?_
    · rintro m x y σ H' U hx hy ⟨v3, v4, rfl, s1, hno⟩ hU
      obtain ⟨hm, rfl⟩ := nv_get hy
      have hmn : m < ns.length := by omega
      have ex : x = V.str (ns.getD m "") := by
        rw [List.getElem?_map, List.getElem?_eq_getElem hmn] at hx
        rw [List.getD_eq_getElem?_getD, List.getElem?_eq_getElem hmn]
        exact (Option.some.inj hx).symm
      subst ex
      have hyes : lack1 v (xs.getD 0 0) (ns.getD m "") (xs.getD m 0) = true → lacksM v ns xs = true := fun h => by
        unfold lacksM
        rw [List.any_eq_true]
        exact ⟨m, List.mem_range.mpr hmn, h⟩
      have s2 := s1.trans (same_upd (o := .tup [V.str (ns.getD m ""), V.int (xs.getD m 0 : Nat)]) hU)
      have fin : ∀ (H2 : Hp), Same H H2 → lack1 v (xs.getD 0 0) (ns.getD m "") (xs.getD m 0) = false → ∃ v3 v4, [some (V.ref B.o), some (V.ref a), some (V.ref l), some (V.str (ns.getD m "")), some (V.int (xs.getD m 0 : Nat))] = [some (V.ref B.o), some (V.ref a), some (V.ref l), v3, v4] ∧ Same H H2 ∧ ∀ k, k < m + 1 → lack1 v (xs.getD 0 0) (ns.getD k "") (xs.getD k 0) = false := fun H2 s h => ⟨_, _, rfl, s, fun k hk => by
        by_cases e : k = m
        · rw [e]; exact h
        · exact hno k (by omega)⟩
      have yes : ∀ H2 : Hp, Same H H2 → lack1 v (xs.getD 0 0) (ns.getD m "") (xs.getD m 0) = true → Q (.bl true) H2 := fun H2 s h => by
        have := k H2 s
        rw [hyes h] at this
        exact this
      refine ⟨U, _, rfl, SqT.of upd_same, rfl, _, _, rfl, _, _, rfl, rfl, ?_⟩
      have hW2 := hW.mono s2
      have third : ∀ H3 : Hp, Same H H3 → (decide (ns.getD m "" = "t") && decide (v.ts.length ≤ xs.getD m 0)) = false → ((decide (ns.getD m "" = "i") || decide (ns.getD m "" = "j")) && decide (v.n ≤ xs.getD m 0)) = false →
          tIfS (tAnd (tTest (tOp rEq (tVar 3) (tC (V.str "a")))) (tTest (tOp (rI0 fun i j => .bl (decide (j ≤ i))) (tVar 4) (tCB (fun xs H Q => ∃ p ys, xs = [.ref p] ∧ (SqL K H p ys ∨ SqT K H p ys) ∧ Q (.int ys.length) H) (tCons (tV (vT Z) (fun a b => .ref a.ar) (tOp (rIxL K) (tV (vW Z) (fun a b => .ref a.tl) (tVar 0)) (tOp (rIxL K) (tVar 2) (tC (.int 0))))) tNil))))) (tRet (tC (.bl true))) tNext
            { nx := fun σ H' => ∃ v3 v4, σ = [some (V.ref B.o), some (V.ref a), some (V.ref l), v3, v4] ∧ Same H H' ∧ ∀ k, k < m + 1 → lack1 v (xs.getD 0 0) (ns.getD k "") (xs.getD k 0) = false, rt := Q }
            [some (V.ref B.o), some (V.ref a), some (V.ref l), some (V.str (ns.getD m "")), some (V.int (xs.getD m 0 : Nat))] H3 := by
        intro H3 s3 n1 n2
        have hW3 := hW.mono s3
        refine ⟨_, rfl, rfl, _, rfl, iteB (fun h5 => ?_) fun h5 => ?_⟩
        · rw [dec_st] at h5
          have ea : ns.getD m "" = "a" := of_decide_eq_true h5
          have em : ns[m]? = some ("a" : Str) := by
            rw [List.getD_eq_getElem?_getD, List.getElem?_eq_getElem hmn] at ea
            rw [List.getElem?_eq_getElem hmn]
            exact congrArg some ea
          have e0 := hta m em
          have hm0 : m ≠ 0 := fun z => by
            rw [z, e0] at em
            exact absurd (Option.some.inj em) (by decide +kernel)
          have h00 := hno 0 (by omega)
          have ht0 : xs.getD 0 0 < v.ts.length := by
            have e0' : ns.getD 0 "" = "t" := by rw [List.getD_eq_getElem?_getD, e0]; rfl
            unfold lack1 at h00
            rw [e0', decide_eq_true rfl, Bool.true_and] at h00
            have := (Bool.or_eq_false_iff.mp h00).1
            have := of_decide_eq_false this
            omega
          obtain ⟨A, hA, hxA, hT⟩ := tl_at hW3 ht0
          obtain ⟨as, har, has⟩ := hT.ar
          refine ⟨_, rfl, _, rfl, B, v, rfl, hW3, _, rfl, l, _, _, _, rfl, rfl, SqL.of (s3 _ _ hl), atI_nat (j := 0) (nv_at (by omega)), B.tl, _, _, _, rfl, rfl, SqL.of hW3.tl, atI_nat hxA, A, _, rfl, hT, A.ar, _, rfl, .inl (SqL.of har), _, _, rfl, rfl, _, rfl, iteB (fun h6 => ?_) fun h6 => ?_⟩
          · have h6 := of_decide_eq_true h6
            rw [List.length_map, has.len] at h6
            refine yes H3 s3 ?_
            unfold lack1
            rw [n1, n2, h5, decide_eq_true (show (v.tr (xs.getD 0 0)).arts.length ≤ xs.getD m 0 by omega)]
            rfl
          · have h6 := of_decide_eq_false h6
            rw [List.length_map, has.len] at h6
            refine fin H3 s3 ?_
            unfold lack1
            rw [n1, n2, decide_eq_false (show ¬ (v.tr (xs.getD 0 0)).arts.length ≤ xs.getD m 0 by omega), Bool.and_false]
            rfl
        · rw [dec_st] at h5
          refine iteF (fin H3 s3 ?_)
          unfold lack1
          rw [n1, n2, h5]
          rfl
      have second : ∀ H3 : Hp, Same H H3 → (decide (ns.getD m "" = "t") && decide (v.ts.length ≤ xs.getD m 0)) = false →
          tSeq (tIfS (tAnd (tTest (tOp (rIn K false) (tVar 3) (tTup (tCons (tC (V.str "i")) (tCons (tC (V.str "j")) tNil))))) (tTest (tOp (rI0 fun i j => .bl (decide (j ≤ i))) (tVar 4) (tV (vW Z) (fun a b => .int (b.n : Nat)) (tVar 0))))) (tRet (tC (.bl true))) tNext) (tIfS (tAnd (tTest (tOp rEq (tVar 3) (tC (V.str "a")))) (tTest (tOp (rI0 fun i j => .bl (decide (j ≤ i))) (tVar 4) (tCB (fun xs H Q => ∃ p ys, xs = [.ref p] ∧ (SqL K H p ys ∨ SqT K H p ys) ∧ Q (.int ys.length) H) (tCons (tV (vT Z) (fun a b => .ref a.ar) (tOp (rIxL K) (tV (vW Z) (fun a b => .ref a.tl) (tVar 0)) (tOp (rIxL K) (tVar 2) (tC (.int 0))))) tNil))))) (tRet (tC (.bl true))) tNext)
            { nx := fun σ H' => ∃ v3 v4, σ = [some (V.ref B.o), some (V.ref a), some (V.ref l), v3, v4] ∧ Same H H' ∧ ∀ k, k < m + 1 → lack1 v (xs.getD 0 0) (ns.getD k "") (xs.getD k 0) = false, rt := Q }
            [some (V.ref B.o), some (V.ref a), some (V.ref l), some (V.str (ns.getD m "")), some (V.int (xs.getD m 0 : Nat))] H3 := by
        intro H3 s3 n1
        refine ⟨_, rfl, (by show 2 ≤ sizeLine; decide), fun q hq => ?_⟩
        have s4 := s3.trans (same_upd (o := .tup [V.str "i", V.str "j"]) hq)
        have hW4 := hW.mono s4
        refine ⟨q, _, rfl, .inr (SqT.of upd_same), rfl, rfl, _, rfl, iteB (fun h3 => ?_) fun h3 => ?_⟩
        · have h3 : inV (V.str (ns.getD m "")) [V.str "i", V.str "j"] = true := h3
          rw [in_ij] at h3
          refine ⟨_, rfl, _, rfl, B, v, rfl, hW4, _, _, rfl, rfl, _, rfl, iteB (fun h4 => ?_) fun h4 => ?_⟩
          · have h4 := of_decide_eq_true h4
            refine yes _ s4 ?_
            unfold lack1
            rw [n1, h3, decide_eq_true (show v.n ≤ xs.getD m 0 by omega)]
            rfl
          · have h4 := of_decide_eq_false h4
            exact third _ s4 n1 (by rw [decide_eq_false (show ¬ v.n ≤ xs.getD m 0 by omega), Bool.and_false])
        · have h3 : inV (V.str (ns.getD m "")) [V.str "i", V.str "j"] = false := h3
          rw [in_ij] at h3
          exact third _ s4 n1 (by rw [h3]; rfl)
      refine ⟨_, rfl, rfl, _, rfl, iteB (fun h => ?_) fun h => ?_⟩
      · rw [dec_st] at h
        refine ⟨_, rfl, _, rfl, B, v, rfl, hW2, B.tl, _, rfl, .inl (SqL.of hW2.tl), _, _, rfl, rfl, _, rfl, iteB (fun h2 => ?_) fun h2 => ?_⟩
        · have h2 := of_decide_eq_true h2
          rw [List.length_map, hbl] at h2
          refine yes _ s2 ?_
          unfold lack1
          rw [h, decide_eq_true (show v.ts.length ≤ xs.getD m 0 by omega)]
          rfl
        · have h2 := of_decide_eq_false h2
          rw [List.length_map, hbl] at h2
          exact second _ s2 (by rw [decide_eq_false (show ¬ v.ts.length ≤ xs.getD m 0 by omega), Bool.and_false])
      · rw [dec_st] at h
        exact second _ s2 (by rw [h]; rfl)
    · rintro σ H' ⟨v3, v4, rfl, s1, hno⟩
      rw [List.length_map] at hno
      have e : lacksM v ns xs = false := by
        unfold lacksM
        rw [List.any_eq_false]
        intro k hk
        rw [hno k (List.mem_range.mp hk)]
        decide
      rw [e] at k
      exact k H' s1
def spCalled (P : Program) (w : World) (K : PySem.W.Frag) (mg : Str → Option Value) (base : Heap) : Sp := fun vs H Q _ => ∃ f ps sp wv l, ∃ xs : List Nat, vs = [.ref f, wv, .ref l] ∧ Good P w K mg base 8 f ps sp ∧ H l = some (.lst (nv xs)) ∧ 1 ≤ xs.length ∧ xs.length ≤ 4 ∧ sp (wv :: nv xs) H Q E0
theorem ok_called (T : Tx K mg Z) : Good P w K mg base 9 (Z.f 56) ["call", "world", "told"] (spCalled P w K mg base) := by
  refine T.d_called.good sc_called (fun vs H Q E h => ?_) (fun cdv Ar outer s H vs Q E hr h => ?_)
  · obtain ⟨f, ps, sp, wv, l, xs, rfl, _⟩ := h
    rfl
  · obtain ⟨f, ps, sp, wv, l, xs, rfl, G, hl, h1, h4, k⟩ := h
    refine ⟨_, (pss_cons (ps_if (pt_cmpR op_eq (pe_callB call_len_seq (by rfl) T.b_len boot_len (pa_cons (pv 2) pa_nil)) pe_int (nomark _)) (pss_one (ps_ret (pg_callv (j := 8) (pv 0) (hr.mono (by decide)) (pa_cons (pv 1) (pa_cons (pe_ix ix_list (pv 2) pe_int (fun _ _ => rfl)) pa_nil))))) pss_nil) (pss_cons (ps_if (pt_cmpR op_eq (pe_callB call_len_seq (by rfl) T.b_len boot_len (pa_cons (pv 2) pa_nil)) pe_int (nomark _)) (pss_one (ps_ret (pg_callv (j := 8) (pv 0) (hr.mono (by decide)) (pa_cons (pv 1) (pa_cons (pe_ix ix_list (pv 2) pe_int (fun _ _ => rfl)) (pa_cons (pe_ix ix_list (pv 2) pe_int (fun _ _ => rfl)) pa_nil)))))) pss_nil) (pss_cons (ps_if (pt_cmpR op_eq (pe_callB call_len_seq (by rfl) T.b_len boot_len (pa_cons (pv 2) pa_nil)) pe_int (nomark _)) (pss_one (ps_ret (pg_callv (j := 8) (pv 0) (hr.mono (by decide)) (pa_cons (pv 1) (pa_cons (pe_ix ix_list (pv 2) pe_int (fun _ _ => rfl)) (pa_cons (pe_ix ix_list (pv 2) pe_int (fun _ _ => rfl)) (pa_cons (pe_ix ix_list (pv 2) pe_int (fun _ _ => rfl)) pa_nil))))))) pss_nil) (pss_one (ps_ret (pg_callv (j := 8) (pv 0) (hr.mono (by decide)) (pa_cons (pv 1) (pa_cons (pe_ix ix_list (pv 2) pe_int (fun _ _ => rfl)) (pa_cons (pe_ix ix_list (pv 2) pe_int (fun _ _ => rfl)) (pa_cons (pe_ix ix_list (pv 2) pe_int (fun _ _ => rfl)) (pa_cons (pe_ix ix_list (pv 2) pe_int (fun _ _ => rfl)) pa_nil))))))))))), ?_⟩
    match xs, h1, h4, hl, k with
    | [a], _, _, hl, k =>
      exact ⟨_, rfl, l, _, rfl, .inl (SqL.of hl), rfl, _, rfl, ⟨_, rfl, f, ps, sp, rfl, G, _, rfl, _, rfl, l, _, _, _, rfl, rfl, SqL.of hl, rfl, k⟩⟩
    | [a, b], _, _, hl, k =>
      exact ⟨_, rfl, l, _, rfl, .inl (SqL.of hl), rfl, _, rfl, ⟨_, rfl, l, _, rfl, .inl (SqL.of hl), rfl, _, rfl, ⟨_, rfl, f, ps, sp, rfl, G, _, rfl, _, rfl, l, _, _, _, rfl, rfl, SqL.of hl, rfl, _, rfl, l, _, _, _, rfl, rfl, SqL.of hl, rfl, k⟩⟩⟩
    | [a, b, c], _, _, hl, k =>
      exact ⟨_, rfl, l, _, rfl, .inl (SqL.of hl), rfl, _, rfl, ⟨_, rfl, l, _, rfl, .inl (SqL.of hl), rfl, _, rfl, ⟨_, rfl, l, _, rfl, .inl (SqL.of hl), rfl, _, rfl, ⟨_, rfl, f, ps, sp, rfl, G, _, rfl, _, rfl, l, _, _, _, rfl, rfl, SqL.of hl, rfl, _, rfl, l, _, _, _, rfl, rfl, SqL.of hl, rfl, _, rfl, l, _, _, _, rfl, rfl, SqL.of hl, rfl, k⟩⟩⟩⟩
    | [a, b, c, d], _, _, hl, k =>
      exact ⟨_, rfl, l, _, rfl, .inl (SqL.of hl), rfl, _, rfl, ⟨_, rfl, l, _, rfl, .inl (SqL.of hl), rfl, _, rfl, ⟨_, rfl, l, _, rfl, .inl (SqL.of hl), rfl, _, rfl, ⟨_, rfl, f, ps, sp, rfl, G, _, rfl, _, rfl, l, _, _, _, rfl, rfl, SqL.of hl, rfl, _, rfl, l, _, _, _, rfl, rfl, SqL.of hl, rfl, _, rfl, l, _, _, _, rfl, rfl, SqL.of hl, rfl, _, rfl, l, _, _, _, rfl, rfl, SqL.of hl, rfl, k⟩⟩⟩⟩
    | [], h, _, _, _ => exact absurd h (by decide)
    | _ :: _ :: _ :: _ :: _ :: r, _, h, _, _ => exact absurd h (by simp)
end
end Rg
namespace Rg
open PySem PySem.Spec PyProof.Rows L2
open Mi (T W R All2 gath newT newW RW RT)
open Km485 (count again_)
section
variable {P : Program} {w : World} {K : PySem.W.Frag} {mg : Str → Option Value} {base : Heap} {Z : Adr}
def fpR (A : RA) : List Addr := [A.o, A.pl, A.ul]
def InR (A : RA) (B : WA) : Prop := B = A.w ∨ B ∈ A.ps ∨ B ∈ A.us
structure RCh (Z : Adr) (H : Hp) (A : RA) (H' : Hp) (A' : RA) (r' : R) : Prop where
  at_ : RAt Z.cT Z.cW Z.cR H' A' r'
  o : A'.o = A.o
  kp : Kp (fpR A) H H'
  nw : ∀ b ∈ fpR A', b ∈ fpR A ∨ H b = none
  ws : ∀ B, InR A' B → ∀ b ∈ fpW B, (∃ D, InR A D ∧ b ∈ fpW D) ∨ H b = none
theorem ws_refl {H : Hp} {A : RA} : ∀ B, InR A B → ∀ b ∈ fpW B, (∃ D, InR A D ∧ b ∈ fpW D) ∨ H b = none := fun B hB b hb => .inl ⟨B, hB, hb⟩
def RQ (Z : Adr) (H : Hp) (A : RA) (Q : VK) (o : R × List Int) : Prop := ∀ (H' : Hp) (A' : RA) (p : Addr), RCh Z H A H' A' o.1 → H' p = some (.lst (o.2.map V.int)) → (∀ b u, H b = some u → b ∉ fpR A → b ≠ p) → Q (.ref p) H'
def rfx (x p u : Addr) : List (Str × V) := [("world", .ref x), ("past", .ref p), ("undone", .ref u)]
theorem put_world (x p u y : Addr) : putF "world" (.ref y) (rfx x p u) = rfx y p u := by kernel_rfl
theorem put_past (x p u y : Addr) : putF "past" (.ref y) (rfx x p u) = rfx x y u := by kernel_rfl
theorem put_undone (x p u y : Addr) : putF "undone" (.ref y) (rfx x p u) = rfx x p y := by kernel_rfl
theorem init_rf (x p u : Addr) : putF "undone" (.ref u) (putF "past" (.ref p) (putF "world" (.ref x) [])) = rfx x p u := by kernel_rfl
theorem RAt.mono {CT CW CR : Addr} {H H' : Hp} {A : RA} {r : R} (h : RAt CT CW CR H A r) (s : Same H H') : RAt CT CW CR H' A r := by
  obtain ⟨dx, ho⟩ := h.obj
  exact ⟨⟨dx, s _ _ ho⟩, s _ _ h.pl, s _ _ h.ul, h.w.mono s, h.ps.imp fun B v q => q.mono s, h.us.imp fun B v q => q.mono s, h.ne, h.ap⟩
theorem WAt.kp {CT CW : Addr} {H H' : Hp} {B : WA} {v : W} {M : List Addr} (h : WAt CT CW H B v) (k : Kp M H H') (hn : ∀ a ∈ M, a ∉ fpW B) (hm : ∀ a ∈ M, ∀ l, H a ≠ some (.tup l)) : WAt CT CW H' B v :=
  h.keep (fun a ha o e => k a o e fun z => hn a z ha) fun a l e => k a _ e fun z => hm a z l e
theorem RCh.refl {H : Hp} {A : RA} {r : R} (h : RAt Z.cT Z.cW Z.cR H A r) : RCh Z H A H A r := ⟨h, rfl, Kp.refl _ _, fun b hb => .inl hb, ws_refl⟩
theorem RCh.after {H H1 H2 : Hp} {A A1 : RA} {r1 : R} (a : RCh Z H A H1 A1 r1) (s : Same H1 H2) : RCh Z H A H2 A1 r1 := ⟨a.at_.mono s, a.o, fun x o e n => s x o (a.kp x o e n), a.nw, a.ws⟩
theorem rq_ret {H H1 : Hp} {A A1 : RA} {Q : VK} {o : R × List Int} {l : List Int} {r' : R} (k : RQ Z H A Q o) (e : o = (r', l)) (c : RCh Z H A H1 A1 r') (hl : l.length ≤ 1000) : (l.map V.int).length ≤ sizeLine ∧ ∀ p, H1 p = none → Q (.ref p) (upd H1 p (.lst (l.map V.int))) := by
  subst e
  exact ⟨Nat.le_of_lt (small1 (by rw [List.length_map]; exact hl)), fun p hp => k _ A1 p (c.after (same_upd hp)) upd_same fun b u e n => ne_of_none (c.kp b u e n) hp⟩
def spRInit (Z : Adr) : Sp := fun vs H Q _ => ∃ p dx, vs = [.ref p] ∧ H p = some (.ins Z.cR dx []) ∧ ∀ (H' : Hp) (A : RA), A.o = p → RAt Z.cT Z.cW Z.cR H' A Mi.r0 → Kp [p] H H' → Q .non H'
theorem ok_R_init (T : Tx K mg Z) : Good P w K mg base 3 (Z.f 57) ["self"] (spRInit Z) := by
  refine T.d_R_init.good sc_R_init (fun vs H Q E h => ?_) (fun cdv Ar outer s H vs Q E hr h => ?_)
  · obtain ⟨p, dx, rfl, _⟩ := h
    rfl
  · obtain ⟨p, dx, rfl, hp, k⟩ := h
    refine ⟨_, (pss_cons (ps_fldA (pv 0) (pg_make T.mkW (ok_W_init (P := P) (w := w) (base := base) T) (hr.mono (by decide)) rfl T.g_World (pa_cons pe_int pa_nil)) rfl) (pss_cons (ps_fldA (pv 0) (pe_lst pa_nil) rfl) (pss_one (ps_fldA (pv 0) (pe_lst pa_nil) rfl)))), ?_⟩
    refine fun x d hx hd hne => ⟨x, d, 0, rfl, upd_same, fun H1 B1 eo et hB1 hnw k1 => ⟨rfl, ?_⟩⟩
    have s1 : Same H H1 := made_same hx hd k1
    subst eo
    refine ⟨_, rfl, p, Z.cR, dx, [], rfl, s1 _ _ hp, T.clR, T.nR_world, (by decide), fun H2 f2 k2 => ?_⟩
    have l1 := lput (f := "world") (v := .ref B1.o) (Nat.le_refl ([] : List (Str × V)).length)
    have pB : p ∉ fpW B1 := fun z => by have := made_free (hnw p z) hx; rw [hp] at this; cases this
    have hB2 : WAt Z.cT Z.cW H2 B1 (newW 0) := hB1.kp k2 (fun a ha => by rw [List.mem_singleton.mp ha]; exact pB) fun a ha l e => by rw [List.mem_singleton.mp ha, s1 _ _ hp] at e; cases e
    refine ⟨Nat.zero_le _, fun a ha => ?_⟩
    have pa : p ≠ a := ne_of_none f2 ha
    have sa := same_upd (o := .lst []) ha
    refine ⟨_, rfl, p, Z.cR, dx, _, rfl, sa _ _ f2, T.clR, T.nR_past, Nat.lt_of_le_of_lt l1 (by decide), fun H3 f3 k3 => ?_⟩
    have l2 := lput (f := "past") (v := .ref a) l1
    have hB3 : WAt Z.cT Z.cW H3 B1 (newW 0) := (hB2.mono sa).kp k3 (fun b hb => by rw [List.mem_singleton.mp hb]; exact pB) fun b hb l e => by rw [List.mem_singleton.mp hb, sa _ _ f2] at e; cases e
    have fa3 := k3.at1 upd_same pa.symm
    have aB : a ∉ fpW B1 := fun z => by obtain ⟨o, e, _⟩ := hB2.there a z; rw [ha] at e; cases e
    refine ⟨Nat.zero_le _, fun u hu => ?_⟩
    have pu : p ≠ u := ne_of_none f3 hu
    have au : a ≠ u := ne_of_none fa3 hu
    have su := same_upd (o := .lst []) hu
    refine ⟨_, rfl, p, Z.cR, dx, _, rfl, su _ _ f3, T.clR, T.nR_undone, Nat.lt_of_le_of_lt l2 (by decide), fun H4 f4 k4 => ?_⟩
    have hB4 : WAt Z.cT Z.cW H4 B1 (newW 0) := (hB3.mono su).kp k4 (fun b hb => by rw [List.mem_singleton.mp hb]; exact pB) fun b hb l e => by rw [List.mem_singleton.mp hb, su _ _ f3] at e; cases e
    have uB : u ∉ fpW B1 := fun z => by obtain ⟨o, e, _⟩ := hB3.there u z; rw [hu] at e; cases e
    rw [init_rf] at f4
    refine k H4 ⟨p, a, u, B1, [], []⟩ rfl ⟨⟨dx, f4⟩, k4.at1 (su _ _ fa3) pa.symm, k4.at1 upd_same pu.symm, hB4, .nil, .nil, au, fun B hB => ?_⟩ (((((Same.kp s1 _).trans k2).trans (Same.kp sa _)).trans k3).trans (Same.kp su _) |>.trans k4)
    rcases hB with e | e | e
    · rw [e]; exact ⟨pB, aB, uB⟩
    · simp at e
    · simp at e
def spRBegin (Z : Adr) : Sp := fun vs H Q _ => ∃ A r, ∃ n : Nat, vs = [.ref A.o, .int n] ∧ RAt Z.cT Z.cW Z.cR H A r ∧ RQ Z H A Q (Mi.stepM r (.start n))
theorem ok_R_begin (T : Tx K mg Z) : Good P w K mg base 3 (Z.f 58) ["self", "n"] (spRBegin Z) := by
  refine T.d_R_begin.good sc_R_begin (fun vs H Q E h => ?_) (fun cdv Ar outer s H vs Q E hr h => ?_)
  · obtain ⟨A, r, n, rfl, _⟩ := h
    rfl
  · obtain ⟨A, r, n, rfl, hA, k⟩ := h
    refine ⟨_, (pss_cons (ps_if (PW.pt (pw_or (pt_cmpR op_lt (pv 1) pe_int (nomark _)) (pw_or1 (pt_cmpR op_gt (pv 1) pe_int (nomark _))))) (pss_one (ps_ret (pe_lst (pa_cons (pg_int rfl T.g_WRONG) pa_nil)))) pss_nil) (pss_cons (ps_fldA (pv 0) (pg_make T.mkW (ok_W_init (P := P) (w := w) (base := base) T) (hr.mono (by decide)) rfl T.g_World (pa_cons (pv 1) pa_nil)) rfl) (pss_cons (ps_fldA (pv 0) (pe_lst pa_nil) rfl) (pss_cons (ps_fldA (pv 0) (pe_lst pa_nil) rfl) (pss_one (ps_ret (pe_lst (pa_cons pe_int pa_nil)))))))), ?_⟩
    simp only [Mi.stepM] at k
    refine ⟨_, rfl, _, _, rfl, rfl, _, rfl, iteB (fun h => ?_) fun h => ?_⟩
    · have h := of_decide_eq_true h
      exact rq_ret k (if_pos (by omega)) (RCh.refl hA) (by show 1 ≤ 1000; decide)
    have h := of_decide_eq_false h
    refine ⟨_, rfl, _, _, rfl, rfl, _, rfl, iteB (fun h1 => ?_) fun h1 => ?_⟩
    · have h1 := of_decide_eq_true h1
      exact rq_ret k (if_pos (by omega)) (RCh.refl hA) (by show 1 ≤ 1000; decide)
    have h1 := of_decide_eq_false h1
    rw [if_neg (show ¬ (n < 2 ∨ 4 < n) by omega)] at k
    obtain ⟨dx, ho⟩ := hA.obj
    refine ⟨_, rfl, fun x d hx hd hne => ⟨x, d, n, rfl, upd_same, fun H1 B1 eo et hB1 hnw k1 => ⟨rfl, ?_⟩⟩⟩
    have s1 : Same H H1 := made_same hx hd k1
    subst eo
    refine ⟨_, rfl, A.o, Z.cR, dx, _, rfl, s1 _ _ ho, T.clR, T.nR_world, (by show 3 < 1000; decide), fun H2 f2 k2 => ?_⟩
    have f2 : H2 A.o = some (.ins Z.cR dx (putF "world" (.ref B1.o) (rfx A.w.o A.pl A.ul))) := f2
    rw [put_world] at f2
    have pB : A.o ∉ fpW B1 := fun z => by have := made_free (hnw A.o z) hx; rw [ho] at this; cases this
    have hB2 : WAt Z.cT Z.cW H2 B1 (newW n) := hB1.kp k2 (fun a ha => by rw [List.mem_singleton.mp ha]; exact pB) fun a ha l e => by rw [List.mem_singleton.mp ha, s1 _ _ ho] at e; cases e
    refine ⟨Nat.zero_le _, fun a ha => ?_⟩
    have pa : A.o ≠ a := ne_of_none f2 ha
    have sa := same_upd (o := .lst []) ha
    refine ⟨_, rfl, A.o, Z.cR, dx, _, rfl, sa _ _ f2, T.clR, T.nR_past, (by show 3 < 1000; decide), fun H3 f3 k3 => ?_⟩
    rw [put_past] at f3
    have hB3 : WAt Z.cT Z.cW H3 B1 (newW n) := (hB2.mono sa).kp k3 (fun b hb => by rw [List.mem_singleton.mp hb]; exact pB) fun b hb l e => by rw [List.mem_singleton.mp hb, sa _ _ f2] at e; cases e
    have fa3 := k3.at1 upd_same pa.symm
    have aB : a ∉ fpW B1 := fun z => by obtain ⟨o, e, _⟩ := hB2.there a z; rw [ha] at e; cases e
    refine ⟨Nat.zero_le _, fun u hu => ?_⟩
    have pu : A.o ≠ u := ne_of_none f3 hu
    have au : a ≠ u := ne_of_none fa3 hu
    have su := same_upd (o := .lst []) hu
    refine ⟨_, rfl, A.o, Z.cR, dx, _, rfl, su _ _ f3, T.clR, T.nR_undone, (by show 3 < 1000; decide), fun H4 f4 k4 => ?_⟩
    rw [put_undone] at f4
    have hB4 : WAt Z.cT Z.cW H4 B1 (newW n) := (hB3.mono su).kp k4 (fun b hb => by rw [List.mem_singleton.mp hb]; exact pB) fun b hb l e => by rw [List.mem_singleton.mp hb, su _ _ f3] at e; cases e
    have uB : u ∉ fpW B1 := fun z => by obtain ⟨o, e, _⟩ := hB3.there u z; rw [hu] at e; cases e
    have kk2 : Kp [A.o] H H2 := (Same.kp s1 _).trans k2
    have kk3 : Kp [A.o] H H3 := (kk2.trans (Same.kp sa _)).trans k3
    have kk4 : Kp [A.o] H H4 := (kk3.trans (Same.kp su _)).trans k4
    have hno : ∀ B, B = B1 ∨ B ∈ ([] : List WA) ∨ B ∈ ([] : List WA) → A.o ∉ fpW B ∧ a ∉ fpW B ∧ u ∉ fpW B := fun B hB => by
      rcases hB with e | e | e
      · rw [e]; exact ⟨pB, aB, uB⟩
      · simp at e
      · simp at e
    exact rq_ret (A1 := ⟨A.o, a, u, B1, [], []⟩) k rfl ⟨⟨⟨dx, f4⟩, k4.at1 (su _ _ fa3) pa.symm, k4.at1 upd_same pu.symm, hB4, .nil, .nil, au, hno⟩, rfl, kk4.mono (fun b hb => by rw [List.mem_singleton.mp hb]; simp [fpR]), fun b hb => by
      rcases (by simpa [fpR] using hb : b = A.o ∨ b = a ∨ b = u) with e | e | e
      · left; rw [e]; simp [fpR]
      · right; rw [e]; exact kk2.free ha fun z => pa (List.mem_singleton.mp z).symm
      · right; rw [e]; exact kk3.free hu fun z => pu (List.mem_singleton.mp z).symm, fun B hB b hb => by
      rcases hB with e | e | e
      · rw [e] at hb
        exact .inr (made_free (hnw b hb) hx)
      · cases e
      · cases e⟩ (by show 1 ≤ 1000; decide)
end
end Rg
namespace Rg
open PySem PySem.Spec PyProof.Rows L2
open Mi (T W R All2 gath newT newW RW RT RD)
open Km485 (count again_)
section
variable {P : Program} {w : World} {K : PySem.W.Frag} {mg : Str → Option Value} {base : Heap} {Z : Adr}
theorem snoc_of {α : Type} {l : List α} (h : l ≠ []) : ∃ l' a, l = l' ++ [a] := ⟨l.dropLast, l.getLast h, (List.dropLast_concat_getLast h).symm⟩
theorem all2_last {α β : Type} {P : α → β → Prop} {l : List α} {a : α} {m : List β} (h : All2 P (l ++ [a]) m) : ∃ m' b, m = m' ++ [b] ∧ P a b ∧ All2 P l m' := by
  have hl := h.len
  have hne : m ≠ [] := fun z => by rw [z] at hl; simp at hl
  obtain ⟨m', b, rfl⟩ := snoc_of hne
  have hlen : l.length = m'.length := by simpa using hl
  refine ⟨m', b, rfl, ?_, ?_⟩
  · exact all2_at h (j := l.length) (by simp) (by rw [hlen]; simp)
  · refine all2_of hlen fun j x y hx hy => all2_at h (j := j) ?_ ?_
    · rw [List.getElem?_append_left (List.getElem?_eq_some_iff.mp hx).1]; exact hx
    · rw [List.getElem?_append_left (List.getElem?_eq_some_iff.mp hy).1]; exact hy
theorem WAt.one {H H1 : Hp} {B : WA} {v : W} {a : Addr} {o : HO} (h : WAt Z.cT Z.cW H B v) (k : Kp [a] H H1) (ha : H a = some o) (hn : ∀ l, o ≠ .tup l) (hf : a ∉ fpW B) : WAt Z.cT Z.cW H1 B v :=
  h.kp k (fun b hb => by rw [List.mem_singleton.mp hb]; exact hf) fun b hb l e => by rw [List.mem_singleton.mp hb, ha] at e; exact hn l (Option.some.inj e)
abbrev Ap (A : RA) (B : WA) : Prop := A.o ∉ fpW B ∧ A.pl ∉ fpW B ∧ A.ul ∉ fpW B
theorem RAt.wul {H H1 : Hp} {A : RA} {r : R} {us : List WA} {und : List W} (h : RAt Z.cT Z.cW Z.cR H A r) (f : H1 A.ul = some (.lst (us.map fun B => V.ref B.o))) (k : Kp [A.ul] H H1) (hu : All2 (WAt Z.cT Z.cW H) us und) (ap : ∀ B ∈ us, Ap A B) : RAt Z.cT Z.cW Z.cR H1 { A with us := us } { r with und := und } := by
  obtain ⟨dx, ho⟩ := h.obj
  have oau : A.o ≠ A.ul := ne_of ho h.ul (by intro z; cases z)
  refine ⟨⟨dx, k.at1 ho oau⟩, k.at1 h.pl h.ne, f, h.w.one k h.ul (fun l z => by cases z) (h.ap A.w (.inl rfl)).2.2, All2.mem_imp h.ps fun B v hB q => q.one k h.ul (fun l z => by cases z) (h.ap B (.inr (.inl hB))).2.2, All2.mem_imp hu fun B v hB q => q.one k h.ul (fun l z => by cases z) (ap B hB).2.2, h.ne, fun B hB => ?_⟩
  rcases hB with e | e | e
  · exact h.ap B (.inl e)
  · exact h.ap B (.inr (.inl e))
  · exact ap B e
theorem RAt.wpl {H H1 : Hp} {A : RA} {r : R} {ps : List WA} {past : List W} (h : RAt Z.cT Z.cW Z.cR H A r) (f : H1 A.pl = some (.lst (ps.map fun B => V.ref B.o))) (k : Kp [A.pl] H H1) (hu : All2 (WAt Z.cT Z.cW H) ps past) (ap : ∀ B ∈ ps, Ap A B) : RAt Z.cT Z.cW Z.cR H1 { A with ps := ps } { r with past := past } := by
  obtain ⟨dx, ho⟩ := h.obj
  have oap : A.o ≠ A.pl := ne_of ho h.pl (by intro z; cases z)
  refine ⟨⟨dx, k.at1 ho oap⟩, f, k.at1 h.ul h.ne.symm, h.w.one k h.pl (fun l z => by cases z) (h.ap A.w (.inl rfl)).2.1, All2.mem_imp hu fun B v hB q => q.one k h.pl (fun l z => by cases z) (ap B hB).2.1, All2.mem_imp h.us fun B v hB q => q.one k h.pl (fun l z => by cases z) (h.ap B (.inr (.inr hB))).2.1, h.ne, fun B hB => ?_⟩
  rcases hB with e | e | e
  · exact h.ap B (.inl e)
  · exact ap B e
  · exact h.ap B (.inr (.inr e))
theorem RAt.ww {H H1 : Hp} {A : RA} {r : R} {B : WA} {v : W} {dx : Addr} (h : RAt Z.cT Z.cW Z.cR H A r) (f : H1 A.o = some (.ins Z.cR dx (rfx B.o A.pl A.ul))) (k : Kp [A.o] H H1) (hB : WAt Z.cT Z.cW H B v) (ap : Ap A B) : RAt Z.cT Z.cW Z.cR H1 { A with w := B } { r with w := v } := by
  obtain ⟨d0, ho⟩ := h.obj
  have oap : A.o ≠ A.pl := ne_of ho h.pl (by intro z; cases z)
  have oau : A.o ≠ A.ul := ne_of ho h.ul (by intro z; cases z)
  refine ⟨⟨dx, f⟩, k.at1 h.pl oap.symm, k.at1 h.ul oau.symm, hB.one k ho (fun l z => by cases z) ap.1, All2.mem_imp h.ps fun D u hD q => q.one k ho (fun l z => by cases z) (h.ap D (.inr (.inl hD))).1, All2.mem_imp h.us fun D u hD q => q.one k ho (fun l z => by cases z) (h.ap D (.inr (.inr hD))).1, h.ne, fun D hD => ?_⟩
  rcases hD with e | e | e
  · rw [e]; exact ap
  · exact h.ap D (.inr (.inl e))
  · exact h.ap D (.inr (.inr e))
theorem kpo {A : RA} {H H' : Hp} (k : Kp [A.o] H H') : Kp (fpR A) H H' := k.mono fun b hb => by rw [List.mem_singleton.mp hb]; simp [fpR]
theorem kpp {A : RA} {H H' : Hp} (k : Kp [A.pl] H H') : Kp (fpR A) H H' := k.mono fun b hb => by rw [List.mem_singleton.mp hb]; simp [fpR]
theorem kpu {A : RA} {H H' : Hp} (k : Kp [A.ul] H H') : Kp (fpR A) H H' := k.mono fun b hb => by rw [List.mem_singleton.mp hb]; simp [fpR]
theorem ws_mv {H : Hp} {A : RA} {B : WA} {qs : List WA} (hq : A.ps = qs ++ [B]) : ∀ D, InR ⟨A.o, A.pl, A.ul, B, qs, A.us ++ [A.w]⟩ D → ∀ b ∈ fpW D, (∃ D, InR A D ∧ b ∈ fpW D) ∨ H b = none := fun D hD b hb => .inl ⟨D, by
  rcases hD with e | e | e
  · exact .inr (.inl (by rw [hq, e]; simp))
  · exact .inr (.inl (by rw [hq]; exact List.mem_append_left _ e))
  · rcases List.mem_append.mp e with e | e
    · exact .inr (.inr e)
    · exact .inl (List.mem_singleton.mp e), hb⟩
theorem ws_mv2 {H : Hp} {A : RA} {B : WA} {qs : List WA} (hq : A.us = qs ++ [B]) : ∀ D, InR ⟨A.o, A.pl, A.ul, B, A.ps ++ [A.w], qs⟩ D → ∀ b ∈ fpW D, (∃ D, InR A D ∧ b ∈ fpW D) ∨ H b = none := fun D hD b hb => .inl ⟨D, by
  rcases hD with e | e | e
  · exact .inr (.inr (by rw [hq, e]; simp))
  · rcases List.mem_append.mp e with e | e
    · exact .inr (.inl e)
    · exact .inl (List.mem_singleton.mp e)
  · exact .inr (.inr (by rw [hq]; exact List.mem_append_left _ e)), hb⟩
def spRBack (Z : Adr) : Sp := fun vs H Q _ => ∃ A r, vs = [.ref A.o] ∧ RAt Z.cT Z.cW Z.cR H A r ∧ r.past.length + r.und.length ≤ 20 ∧ RQ Z H A Q (Mi.stepM r .back)
theorem ok_R_back (T : Tx K mg Z) : Good P w K mg base 1 (Z.f 60) ["self"] (spRBack Z) := by
  refine T.d_R_back.good sc_R_back (fun vs H Q E h => ?_) (fun cdv Ar outer s H vs Q E hr h => ?_)
  · obtain ⟨A, r, rfl, _⟩ := h
    rfl
  · obtain ⟨A, r, rfl, hA, hc, k⟩ := h
    refine ⟨_, (pss_cons (ps_if (pt_cmpR op_eq (pe_callB call_len_seq (by rfl) T.b_len boot_len (pa_cons (pv_fld (Y := vR Z) T.clR T.nR_past (fun a b => rf_past a) (pv 0)) pa_nil)) pe_int (nomark _)) (pss_one (ps_ret (pe_lst (pa_cons (pg_int rfl T.g_NOT_THERE) pa_nil)))) pss_nil) (pss_cons (ps_expr (pe_bm PySem.F.plainAttrs_list PySem.F.slot_list_append PySem.F.type_list_append mt_appendA (pv_fld (Y := vR Z) T.clR T.nR_undone (fun a b => rf_undone a) (pv 0)) (pa_cons (pv_fld (Y := vR Z) T.clR T.nR_world (fun a b => rf_world a) (pv 0)) pa_nil))) (pss_cons (ps_fldA (pv 0) (pe_bm0 PySem.F.plainAttrs_list PySem.F.slot_list_pop PySem.F.type_list_pop mt_popA (pv_fld (Y := vR Z) T.clR T.nR_past (fun a b => rf_past a) (pv 0))) rfl) (pss_one (ps_ret (pe_lst (pa_cons (pe_callB call_len_seq (by rfl) T.b_len boot_len (pa_cons (pv_fld (Y := vR Z) T.clR T.nR_past (fun a b => rf_past a) (pv 0)) pa_nil)) pa_nil))))))), ?_⟩
    simp only [Mi.stepM] at k
    have hpl := hA.ps.len
    have hul := hA.us.len
    refine ⟨_, rfl, A, r, rfl, hA, A.pl, _, rfl, .inl (SqL.of hA.pl), rfl, _, rfl, iteB (fun h => ?_) fun h => ?_⟩
    · have h : decide (V.int (((A.ps.map fun B => V.ref B.o).length : Nat) : Int) = V.int 0) = true := h
      rw [eq_zero, List.length_map, hpl] at h
      have h0 : r.past = [] := by simpa using h
      rw [h0] at k
      exact rq_ret k rfl (RCh.refl hA) (by show 1 ≤ 1000; decide)
    have h : decide (V.int (((A.ps.map fun B => V.ref B.o).length : Nat) : Int) = V.int 0) = false := h
    rw [eq_zero, List.length_map] at h
    have h0 : A.ps ≠ [] := fun z => by rw [z] at h; simp at h
    obtain ⟨qs, B, hqs⟩ := snoc_of h0
    have hps := hA.ps
    rw [hqs] at hps
    obtain ⟨ms, v, hms, hB, hqm⟩ := all2_last hps
    rw [hms, List.getLast?_concat] at k
    simp only [List.dropLast_concat] at k
    have apw := hA.ap A.w (.inl rfl)
    have apB : Ap A B := hA.ap B (.inr (.inl (by rw [hqs]; simp)))
    refine ⟨_, rfl, A, r, rfl, hA, .inl ⟨rfl, _, SqL.of hA.ul⟩, _, rfl, A, r, rfl, hA, A.ul, _, _, rfl, rfl, hA.ul, small1 (by rw [List.length_map]; omega), fun H1 f1 k1 => ?_⟩
    have hB1 : WAt Z.cT Z.cW H1 B v := hB.one k1 hA.ul (fun l z => by cases z) apB.2.2
    have hA1 := hA.wul (us := A.us ++ [A.w]) (und := r.und ++ [r.w]) (by rw [List.map_append]; exact f1) k1 (hA.us.append (.cons hA.w .nil)) (fun D hD => by
      rcases List.mem_append.mp hD with q | q
      · exact hA.ap D (.inr (.inr q))
      · rw [List.mem_singleton.mp q]; exact apw)
    have e1 : A.ps.map (fun B => V.ref B.o) = qs.map (fun B => V.ref B.o) ++ [V.ref B.o] := by rw [hqs, List.map_append]; rfl
    have g1 : H1 A.pl = some (.lst (qs.map (fun B => V.ref B.o) ++ [V.ref B.o])) := by rw [← e1]; exact hA1.pl
    refine ⟨_, rfl, { A with us := A.us ++ [A.w] }, _, rfl, hA1, .inl ⟨rfl, _, SqL.of g1⟩, A.pl, _, V.ref B.o, rfl, rfl, g1, (by simp), fun H2 f2 k2 => ?_⟩
    rw [List.dropLast_concat] at f2
    have hB2 : WAt Z.cT Z.cW H2 B v := hB1.one k2 g1 (fun l z => by cases z) apB.2.1
    have hA2 := hA1.wpl (ps := qs) (past := ms) f2 k2 (by
      have := hA1.ps
      rw [show ({ A with us := A.us ++ [A.w] } : RA).ps = qs ++ [B] from hqs, show ({ r with und := r.und ++ [r.w] } : R).past = ms ++ [v] from hms] at this
      obtain ⟨m2, b2, e2, _, q⟩ := all2_last this
      rw [(List.append_inj' e2 rfl).1]
      exact q) (fun D hD => hA.ap D (.inr (.inl (by rw [hqs]; exact List.mem_append_left _ hD))))
    obtain ⟨dx, ho⟩ := hA2.obj
    refine ⟨_, rfl, A.o, Z.cR, dx, _, rfl, ho, T.clR, T.nR_world, (by show 3 < 1000; decide), fun H3 f3 k3 => ?_⟩
    have f3 : H3 A.o = some (.ins Z.cR dx (putF "world" (.ref B.o) (rfx A.w.o A.pl A.ul))) := f3
    rw [put_world] at f3
    have hA3 : RAt Z.cT Z.cW Z.cR H3 ⟨A.o, A.pl, A.ul, B, qs, A.us ++ [A.w]⟩ ⟨v, ms, r.und ++ [r.w]⟩ := hA2.ww f3 k3 hB2 apB
    refine ⟨_, rfl, ⟨A.o, A.pl, A.ul, B, qs, A.us ++ [A.w]⟩, ⟨v, ms, r.und ++ [r.w]⟩, rfl, hA3, A.pl, _, rfl, .inl (SqL.of hA3.pl), ?_⟩
    rw [show (ms ++ [v]).length - 1 = (qs.map fun B => V.ref B.o).length by rw [List.length_map, hqm.len]; simp] at k
    exact rq_ret k rfl ⟨hA3, rfl, ((kpu k1).trans (kpp k2)).trans (kpo k3), fun b hb => .inl hb, ws_mv (A := A) hqs⟩ (by show 1 ≤ 1000; decide)
def spRAgain (Z : Adr) : Sp := fun vs H Q _ => ∃ A r, vs = [.ref A.o] ∧ RAt Z.cT Z.cW Z.cR H A r ∧ r.past.length + r.und.length ≤ 20 ∧ RQ Z H A Q (Mi.stepM r .again)
theorem ok_R_again (T : Tx K mg Z) : Good P w K mg base 1 (Z.f 61) ["self"] (spRAgain Z) := by
  refine T.d_R_again.good sc_R_again (fun vs H Q E h => ?_) (fun cdv Ar outer s H vs Q E hr h => ?_)
  · obtain ⟨A, r, rfl, _⟩ := h
    rfl
  · obtain ⟨A, r, rfl, hA, hc, k⟩ := h
    refine ⟨_, (pss_cons (ps_if (pt_cmpR op_eq (pe_callB call_len_seq (by rfl) T.b_len boot_len (pa_cons (pv_fld (Y := vR Z) T.clR T.nR_undone (fun a b => rf_undone a) (pv 0)) pa_nil)) pe_int (nomark _)) (pss_one (ps_ret (pe_lst (pa_cons (pg_int rfl T.g_NOT_THERE) pa_nil)))) pss_nil) (pss_cons (ps_expr (pe_bm PySem.F.plainAttrs_list PySem.F.slot_list_append PySem.F.type_list_append mt_appendA (pv_fld (Y := vR Z) T.clR T.nR_past (fun a b => rf_past a) (pv 0)) (pa_cons (pv_fld (Y := vR Z) T.clR T.nR_world (fun a b => rf_world a) (pv 0)) pa_nil))) (pss_cons (ps_fldA (pv 0) (pe_bm0 PySem.F.plainAttrs_list PySem.F.slot_list_pop PySem.F.type_list_pop mt_popA (pv_fld (Y := vR Z) T.clR T.nR_undone (fun a b => rf_undone a) (pv 0))) rfl) (pss_one (ps_ret (pe_lst (pa_cons (pe_callB call_len_seq (by rfl) T.b_len boot_len (pa_cons (pv_fld (Y := vR Z) T.clR T.nR_undone (fun a b => rf_undone a) (pv 0)) pa_nil)) pa_nil))))))), ?_⟩
    simp only [Mi.stepM] at k
    have hul := hA.us.len
    have hpl := hA.ps.len
    refine ⟨_, rfl, A, r, rfl, hA, A.ul, _, rfl, .inl (SqL.of hA.ul), rfl, _, rfl, iteB (fun h => ?_) fun h => ?_⟩
    · have h : decide (V.int (((A.us.map fun B => V.ref B.o).length : Nat) : Int) = V.int 0) = true := h
      rw [eq_zero, List.length_map, hul] at h
      have h0 : r.und = [] := by simpa using h
      rw [h0] at k
      exact rq_ret k rfl (RCh.refl hA) (by show 1 ≤ 1000; decide)
    have h : decide (V.int (((A.us.map fun B => V.ref B.o).length : Nat) : Int) = V.int 0) = false := h
    rw [eq_zero, List.length_map] at h
    have h0 : A.us ≠ [] := fun z => by rw [z] at h; simp at h
    obtain ⟨qs, B, hqs⟩ := snoc_of h0
    have hps := hA.us
    rw [hqs] at hps
    obtain ⟨ms, v, hms, hB, hqm⟩ := all2_last hps
    rw [hms, List.getLast?_concat] at k
    simp only [List.dropLast_concat] at k
    have apw := hA.ap A.w (.inl rfl)
    have apB : Ap A B := hA.ap B (.inr (.inr (by rw [hqs]; simp)))
    refine ⟨_, rfl, A, r, rfl, hA, .inl ⟨rfl, _, SqL.of hA.pl⟩, _, rfl, A, r, rfl, hA, A.pl, _, _, rfl, rfl, hA.pl, small1 (by rw [List.length_map]; omega), fun H1 f1 k1 => ?_⟩
    have hB1 : WAt Z.cT Z.cW H1 B v := hB.one k1 hA.pl (fun l z => by cases z) apB.2.1
    have hA1 := hA.wpl (ps := A.ps ++ [A.w]) (past := r.past ++ [r.w]) (by rw [List.map_append]; exact f1) k1 (hA.ps.append (.cons hA.w .nil)) (fun D hD => by
      rcases List.mem_append.mp hD with q | q
      · exact hA.ap D (.inr (.inl q))
      · rw [List.mem_singleton.mp q]; exact apw)
    have e1 : A.us.map (fun B => V.ref B.o) = qs.map (fun B => V.ref B.o) ++ [V.ref B.o] := by rw [hqs, List.map_append]; rfl
    have g1 : H1 A.ul = some (.lst (qs.map (fun B => V.ref B.o) ++ [V.ref B.o])) := by rw [← e1]; exact hA1.ul
    refine ⟨_, rfl, { A with ps := A.ps ++ [A.w] }, _, rfl, hA1, .inl ⟨rfl, _, SqL.of g1⟩, A.ul, _, V.ref B.o, rfl, rfl, g1, (by simp), fun H2 f2 k2 => ?_⟩
    rw [List.dropLast_concat] at f2
    have hB2 : WAt Z.cT Z.cW H2 B v := hB1.one k2 g1 (fun l z => by cases z) apB.2.2
    have hA2 := hA1.wul (us := qs) (und := ms) f2 k2 (by
      have := hA1.us
      rw [show ({ A with ps := A.ps ++ [A.w] } : RA).us = qs ++ [B] from hqs, show ({ r with past := r.past ++ [r.w] } : R).und = ms ++ [v] from hms] at this
      obtain ⟨m2, b2, e2, _, q⟩ := all2_last this
      rw [(List.append_inj' e2 rfl).1]
      exact q) (fun D hD => hA.ap D (.inr (.inr (by rw [hqs]; exact List.mem_append_left _ hD))))
    obtain ⟨dx, ho⟩ := hA2.obj
    refine ⟨_, rfl, A.o, Z.cR, dx, _, rfl, ho, T.clR, T.nR_world, (by show 3 < 1000; decide), fun H3 f3 k3 => ?_⟩
    have f3 : H3 A.o = some (.ins Z.cR dx (putF "world" (.ref B.o) (rfx A.w.o A.pl A.ul))) := f3
    rw [put_world] at f3
    have hA3 : RAt Z.cT Z.cW Z.cR H3 ⟨A.o, A.pl, A.ul, B, A.ps ++ [A.w], qs⟩ ⟨v, r.past ++ [r.w], ms⟩ := hA2.ww f3 k3 hB2 apB
    refine ⟨_, rfl, ⟨A.o, A.pl, A.ul, B, A.ps ++ [A.w], qs⟩, ⟨v, r.past ++ [r.w], ms⟩, rfl, hA3, A.ul, _, rfl, .inl (SqL.of hA3.ul), ?_⟩
    rw [show (ms ++ [v]).length - 1 = (qs.map fun B => V.ref B.o).length by rw [List.length_map, hqm.len]; simp] at k
    exact rq_ret k rfl ⟨hA3, rfl, ((kpp k1).trans (kpu k2)).trans (kpo k3), fun b hb => .inl hb, ws_mv2 (A := A) hqs⟩ (by show 1 ≤ 1000; decide)
end
end Rg
namespace Rg
open PySem PySem.Spec PyProof.Rows L2
open Mi (T W R All2 gath newT newW RW RT RD)
open Km485 (count again_)
section
variable {P : Program} {w : World} {K : PySem.W.Frag} {mg : Str → Option Value} {base : Heap} {Z : Adr}
def spRState (Z : Adr) : Sp := fun vs H Q _ => ∃ A r b, vs = [.ref A.o] ∧ RAt Z.cT Z.cW Z.cR H A r ∧ RW r.w b ∧ RQ Z H A Q (Mi.stepM r .state)
theorem ok_R_state (T : Tx K mg Z) : Good P w K mg base 3 (Z.f 62) ["self"] (spRState Z) := by
  refine T.d_R_state.good sc_R_state (fun vs H Q E h => ?_) (fun cdv Ar outer s H vs Q E hr h => ?_)
  · obtain ⟨A, r, b, rfl, _⟩ := h
    rfl
  · obtain ⟨A, r, b, rfl, hA, hR, k⟩ := h
    refine ⟨_, (pss_cons (ps_set (i := 1) sc_R_state.nd rfl (Or.inl rfl) (pv_fld (Y := vR Z) T.clR T.nR_world (fun a b => rf_world a) (pv 0))) (pss_cons (ps_set (i := 2) sc_R_state.nd rfl (Or.inl rfl) (pe_lst (pa_cons (pv_fld (Y := vW Z) T.clW T.nW_states (fun a b => wf_states a b) (pv 1)) (pa_cons (pv_meth0 (Y := vW Z) (pv 1) T.clW T.m_W_all_favours (fun a b => no_W a b (by decide +kernel)) (ok_W_all_favours (P := P) (w := w) (base := base) T) (hr.mono (by decide))) (pa_cons (pv_meth0 (Y := vW Z) (pv 1) T.clW T.m_W_turns (fun a b => no_W a b (by decide +kernel)) (ok_W_turns (P := P) (w := w) (base := base) T) (hr.mono (by decide))) (pa_cons (pe_callB call_len_seq (by rfl) T.b_len boot_len (pa_cons (pv_fld (Y := vR Z) T.clR T.nR_past (fun a b => rf_past a) (pv 0)) pa_nil)) (pa_cons (pe_callB call_len_seq (by rfl) T.b_len boot_len (pa_cons (pv_fld (Y := vR Z) T.clR T.nR_undone (fun a b => rf_undone a) (pv 0)) pa_nil)) pa_nil))))))) (pss_one (ps_ret (pe_op op_cat (pe_lst (pa_cons (pe_callB call_len_seq (by rfl) T.b_len boot_len (pa_cons (pv_fld (Y := vW Z) T.clW T.nW_treaties (fun a b => wf_treaties a b) (pv 1)) pa_nil)) pa_nil)) (pv 2)))))), ?_⟩
    simp only [Mi.stepM] at k
    have hul := hA.us.len
    have hpl := hA.ps.len
    have htl := hA.w.ts.len
    refine ⟨_, rfl, A, r, rfl, hA, _, rfl, A.w, r.w, rfl, hA.w, _, rfl, A.w, r.w, rfl, hA.w, A.w, r.w, rfl, hA.w, hR.lf, fun H1 s1 => ?_⟩
    have hA1 := hA.mono s1
    refine ⟨_, rfl, A.w, r.w, rfl, hA1.w, A.w, r.w, rfl, hA1.w, hR.tl, fun H2 s2 => ?_⟩
    have hA2 := hA1.mono s2
    refine ⟨_, rfl, A, r, rfl, hA2, A.pl, _, rfl, .inl (SqL.of hA2.pl), _, rfl, A, r, rfl, hA2, A.ul, _, rfl, .inl (SqL.of hA2.ul), (by show 5 ≤ sizeLine; decide), fun q hq => ?_⟩
    have sq := same_upd (o := .lst [V.int (r.w.n : Nat), V.int (r.w.allFav : Nat), V.int (r.w.turns : Nat), V.int (((A.ps.map fun B => V.ref B.o).length : Nat) : Int), V.int (((A.us.map fun B => V.ref B.o).length : Nat) : Int)]) hq
    have hA3 := hA2.mono sq
    refine ⟨_, rfl, A.w, r.w, rfl, hA3.w, A.w.tl, _, rfl, .inl (SqL.of hA3.w.tl), (by show 1 ≤ sizeLine; decide), fun p hp => ?_⟩
    have qp : q ≠ p := ne_of_none upd_same hp
    have sp := same_upd (o := .lst [V.int (((A.w.ts.map fun A => V.ref A.o).length : Nat) : Int)]) hp
    refine ⟨_, rfl, p, q, _, _, rfl, rfl, upd_same, sp _ _ upd_same, (by show 1 + 5 ≤ sizeLine; decide), fun c hc => ?_⟩
    rw [← htl, ← hul, ← hpl] at k
    rw [show A.w.ts.length = (A.w.ts.map fun A => V.ref A.o).length from (List.length_map ..).symm, show A.ps.length = (A.ps.map fun B => V.ref B.o).length from (List.length_map ..).symm, show A.us.length = (A.us.map fun B => V.ref B.o).length from (List.length_map ..).symm] at k
    have s5 : Same H _ := (((s1.trans s2).trans sq).trans sp).trans (same_upd (o := .lst ([V.int (((A.w.ts.map fun A => V.ref A.o).length : Nat) : Int)] ++ [V.int (r.w.n : Nat), V.int (r.w.allFav : Nat), V.int (r.w.turns : Nat), V.int (((A.ps.map fun B => V.ref B.o).length : Nat) : Int), V.int (((A.us.map fun B => V.ref B.o).length : Nat) : Int)])) hc)
    exact k _ A c ⟨hA.mono s5, rfl, Same.kp s5 _, fun b hb => .inl hb, ws_refl⟩ upd_same fun b u e n => ne_of_none ((((s1.trans s2).trans sq).trans sp) _ _ e) hc
theorem cut20 (xs : List V) : cutV xs (some (-20)) none = xs.drop (xs.length - 20) := by
  unfold cutV
  have e : HT.sIx xs.length 0 (some (-20)) = xs.length - 20 := by
    have q : HT.sIx xs.length 0 (some (-20)) = ((-20 : Int) + (xs.length : Int)).toNat := by
      unfold HT.sIx
      exact if_pos (by decide)
    omega
  rw [e, HT.sIx_none]
  exact List.take_of_length_le (by rw [List.length_drop]; exact Nat.le_refl _)
theorem all2_drop {α β : Type} {P : α → β → Prop} : ∀ (n : Nat) {l : List α} {m : List β}, All2 P l m → All2 P (l.drop n) (m.drop n)
  | 0, _, _, h => h
  | _ + 1, _, _, .nil => .nil
  | n + 1, _, _, .cons _ t => all2_drop n t
def spRChange (P : Program) (w : World) (K : PySem.W.Frag) (mg : Str → Option Value) (base : Heap) (Z : Adr) : Sp := fun vs H Q _ => ∃ A r b f ps sp l, ∃ xs : List Nat, ∃ o : Mi.Out, vs = [.ref A.o, .ref f, .ref l] ∧ RAt Z.cT Z.cW Z.cR H A r ∧ RW r.w b ∧ r.past.length ≤ 20 ∧ Good P w K mg base 8 f ps sp ∧ H l = some (.lst (nv xs)) ∧ 1 ≤ xs.length ∧ xs.length ≤ 4 ∧ o.1 ≠ [] ∧ (∀ (H1 : Hp) (B1 : WA) (Q1 : VK), WAt Z.cT Z.cW H1 B1 r.w → Chg Z H1 B1 Q1 o → sp (.ref B1.o :: nv xs) H1 Q1 E0) ∧ RQ Z H A Q (Mi.chg r o)
theorem ok_R_change (T : Tx K mg Z) : Good P w K mg base 10 (Z.f 59) ["self", "call", "told"] (spRChange P w K mg base Z) := by
  refine T.d_R_change.good sc_R_change (fun vs H Q E h => ?_) (fun cdv Ar outer s H vs Q E hr h => ?_)
  · obtain ⟨A, r, b, f, ps, sp, l, xs, o, rfl, _⟩ := h
    rfl
  · obtain ⟨A, r, b, f, ps, sp, l, xs, o, rfl, hA, hR, hcap, G, hl, h1, h4, hne, hsp, k⟩ := h
    refine ⟨_, (pss_cons (ps_set (i := 3) sc_R_change.nd rfl (Or.inl rfl) (pv_meth0 (Y := vW Z) (pv_fld (Y := vR Z) T.clR T.nR_world (fun a b => rf_world a) (pv 0)) T.clW T.m_W_copied (fun a b => no_W a b (by decide +kernel)) (ok_W_copied (P := P) (w := w) (base := base) T) (hr.mono (by decide)))) (pss_cons (ps_set (i := 4) sc_R_change.nd rfl (Or.inl rfl) (pg_call (ok_called (P := P) (w := w) (base := base) T) (hr.mono (by decide)) rfl T.g_called (pa_cons (pv 1) (pa_cons (pv 3) (pa_cons (pv 2) pa_nil))))) (pss_cons (ps_if (pt_cmpR op_ge (pe_ix ix_list (pv 4) pe_int (fun _ _ => rfl)) pe_int (nomark _)) (pss_cons (ps_fldA (pv 0) (pe_slice sl_list (pe_op op_cat (pv_fld (Y := vR Z) T.clR T.nR_past (fun a b => rf_past a) (pv 0)) (pe_lst (pa_cons (pv_fld (Y := vR Z) T.clR T.nR_world (fun a b => rf_world a) (pv 0)) pa_nil))) (po_some (pe_un un_neg (pg_int rfl T.g_MOST_BACK))) po_none) rfl) (pss_cons (ps_fldA (pv 0) (pe_lst pa_nil) rfl) (pss_one (ps_fldA (pv 0) (pv 3) rfl)))) pss_nil) (pss_one (ps_ret (pv 4)))))), ?_⟩
    obtain ⟨os, v2⟩ := o
    cases os with
    | nil => exact absurd rfl hne
    | cons z zs =>
    have hpl := hA.ps.len
    refine ⟨_, rfl, A, r, rfl, hA, A.w, r.w, rfl, hA.w, A.w, r.w, rfl, hA.w, hR.tl, fun H1 B1 hB1 hf1 s1 => ?_⟩
    refine ⟨_, rfl, _, rfl, _, rfl, f, ps, sp, .ref B1.o, l, xs, rfl, G, s1 _ _ hl, h1, h4, hsp H1 B1 _ hB1 fun H2 B2 p c hp hnp => ?_⟩
    have s2 : Same H H2 := fun a o e => c.kp a o (s1 a o e) fun z => by rw [hf1 a z] at e; cases e
    have hA2 := hA.mono s2
    have hpne : ∀ b u, H b = some u → b ≠ p := fun b u e => hnp b u (s1 _ _ e) fun z => by rw [hf1 b z] at e; cases e
    refine ⟨_, rfl, p, _, 0, V.int z, rfl, rfl, SqL.of hp, atI_nat (j := 0) rfl, _, _, rfl, rfl, _, rfl, iteB (fun h => ?_) fun h => ?_⟩
    · have h : (0 : Int) ≤ z := of_decide_eq_true h
      have ek : Mi.chg r (z :: zs, v2) = (⟨v2, Mi.last20 (r.past ++ [r.w]), []⟩, z :: zs) := if_pos h
      rw [ek] at k
      obtain ⟨dx, ho⟩ := hA.obj
      have oB1 : ∀ b u, H b = some u → b ∉ fpW B2 := fun b u e z => by
        rcases c.nw b z with q | q
        · rw [hf1 b q] at e; cases e
        · rw [s1 _ _ e] at q; cases q
      refine ⟨_, rfl, A, r, rfl, hA2, _, rfl, A, r, rfl, hA2, (by show 1 ≤ sizeLine; decide), fun q hq => ?_⟩
      have sq := same_upd (o := .lst [V.ref A.w.o]) hq
      refine ⟨A.pl, q, _, _, rfl, rfl, sq _ _ hA2.pl, upd_same, Nat.le_of_lt (small1 (by rw [List.length_map]; show _ + 1 ≤ 1000; omega)), fun c1 hc1 => ?_⟩
      have sc1 := same_upd (o := .lst ((A.ps.map fun B => V.ref B.o) ++ [V.ref A.w.o])) hc1
      refine ⟨_, rfl, _, rfl, c1, _, rfl, SqL.of upd_same, fun c2 hc2 => ?_⟩
      have sc2 := same_upd (o := .lst (cutV ((A.ps.map fun B => V.ref B.o) ++ [V.ref A.w.o]) (some (-20)) none)) hc2
      have s3 := ((s2.trans sq).trans sc1).trans sc2
      have s23 := (sq.trans sc1).trans sc2
      have ecut : cutV ((A.ps.map fun B => V.ref B.o) ++ [V.ref A.w.o]) (some (-20)) none = ((A.ps ++ [A.w]).drop ((A.ps ++ [A.w]).length - 20)).map fun B => V.ref B.o := by
        rw [cut20, List.map_drop, List.map_append, List.length_append, List.length_append, List.length_map]
        rfl
      have fc2 : (upd (upd (upd H2 q (.lst [V.ref A.w.o])) c1 (.lst ((A.ps.map fun B => V.ref B.o) ++ [V.ref A.w.o]))) c2 (.lst (cutV ((A.ps.map fun B => V.ref B.o) ++ [V.ref A.w.o]) (some (-20)) none))) c2 = some (.lst (((A.ps ++ [A.w]).drop ((A.ps ++ [A.w]).length - 20)).map fun B => V.ref B.o)) := by rw [← ecut]; exact upd_same
      have hA3 := hA.mono s3
      have hB3 := c.at_.mono s23
      have oc2 : A.o ≠ c2 := ne_of_none (((s2.trans sq).trans sc1) _ _ ho) hc2
      have c2B2 : c2 ∉ fpW B2 := fun z => by obtain ⟨o, e, _⟩ := (c.at_.mono (sq.trans sc1)).there c2 z; rw [hc2] at e; cases e
      have c2B : ∀ B v, WAt Z.cT Z.cW H B v → c2 ∉ fpW B := fun B v hB z => by obtain ⟨o, e, _⟩ := (hB.mono ((s2.trans sq).trans sc1)).there c2 z; rw [hc2] at e; cases e
      refine ⟨_, rfl, A.o, Z.cR, dx, _, rfl, s3 _ _ ho, T.clR, T.nR_past, (by show 3 < 1000; decide), fun H4 f4 k4 => ?_⟩
      have f4 : H4 A.o = some (.ins Z.cR dx (putF "past" (.ref c2) (rfx A.w.o A.pl A.ul))) := f4
      rw [put_past] at f4
      have fc4 := k4.at1 fc2 oc2.symm
      refine ⟨Nat.zero_le _, fun u hu => ?_⟩
      have su := same_upd (o := .lst []) hu
      have ou : A.o ≠ u := ne_of_none f4 hu
      have cu : c2 ≠ u := ne_of_none fc4 hu
      refine ⟨_, rfl, A.o, Z.cR, dx, _, rfl, su _ _ f4, T.clR, T.nR_undone, (by show 3 < 1000; decide), fun H5 f5 k5 => ?_⟩
      rw [put_undone] at f5
      refine ⟨_, rfl, _, rfl, A.o, Z.cR, dx, _, rfl, f5, T.clR, T.nR_world, (by show 3 < 1000; decide), fun H6 f6 k6 => ?_⟩
      have f6 : H6 A.o = some (.ins Z.cR dx (putF "world" (.ref B1.o) (rfx A.w.o c2 u))) := f6
      rw [put_world, ← c.o] at f6
      have kall : Kp [A.o] _ H6 := ((k4.trans (Same.kp su _)).trans k5).trans k6
      have keep : ∀ B v, WAt Z.cT Z.cW _ B v → A.o ∉ fpW B → WAt Z.cT Z.cW H6 B v := fun B v hB hn => hB.one kall (s3 _ _ ho) (fun l z => by cases z) hn
      have uB : ∀ B v, WAt Z.cT Z.cW _ B v → A.o ∉ fpW B → u ∉ fpW B := fun B v hB hn z => by
        obtain ⟨o, e, _⟩ := (hB.one k4 (s3 _ _ ho) (fun l z => by cases z) hn).there u z
        rw [hu] at e; cases e
      have hps : All2 (WAt Z.cT Z.cW _) (A.ps ++ [A.w]) (r.past ++ [r.w]) := hA3.ps.append (.cons hA3.w .nil)
      have ho' : ∀ B, B ∈ A.ps ++ [A.w] → A.o ∉ fpW B := fun B hB => by
        rcases List.mem_append.mp hB with e | e
        · exact (hA.ap B (.inr (.inl e))).1
        · exact (hA.ap B (.inl (List.mem_singleton.mp e))).1
      have hlen : (A.ps ++ [A.w]).length = (r.past ++ [r.w]).length := hps.len
      have free2 : H c2 = none := ((s2.trans sq).trans sc1).free hc2
      have kk4 : Kp [A.o] H H4 := (Same.kp s3 _).trans k4
      have freeu : H u = none := kk4.free hu fun z => ou (List.mem_singleton.mp z).symm
      have all : ∀ B, B = B2 ∨ B ∈ (A.ps ++ [A.w]).drop ((A.ps ++ [A.w]).length - 20) ∨ B ∈ ([] : List WA) → A.o ∉ fpW B ∧ c2 ∉ fpW B ∧ u ∉ fpW B := fun B hB => by
        rcases hB with e | e | e
        · rw [e]; exact ⟨oB1 _ _ ho, c2B2, uB B2 _ hB3 (oB1 _ _ ho)⟩
        · have hm := List.mem_of_mem_drop e
          obtain ⟨j, hj⟩ := List.getElem?_of_mem hm
          have hps0 : All2 (WAt Z.cT Z.cW H) (A.ps ++ [A.w]) (r.past ++ [r.w]) := hA.ps.append (.cons hA.w .nil)
          obtain ⟨v, _, hv⟩ := hps0.get hj
          exact ⟨ho' B hm, c2B B v hv, uB B v (hv.mono s3) (ho' B hm)⟩
        · simp at e
      refine ⟨_, rfl, k H6 ⟨A.o, c2, u, B2, (A.ps ++ [A.w]).drop ((A.ps ++ [A.w]).length - 20), []⟩ p ⟨⟨⟨dx, f6⟩, ?_, ?_, keep B2 _ hB3 (oB1 _ _ ho), ?_, .nil, cu, all⟩, rfl, ?_, ?_, ?_⟩ (kall.at1 (s23 _ _ hp) (hpne _ _ ho).symm) fun b u e _ => hpne b u e⟩
      · exact (k5.trans k6).at1 (su _ _ fc4) oc2.symm
      · exact (k5.trans k6).at1 upd_same ou.symm
      · show All2 (WAt Z.cT Z.cW H6) _ (Mi.last20 (r.past ++ [r.w]))
        unfold Mi.last20
        rw [← hlen]
        exact all2_drop _ (All2.mem_imp hps fun B v hB q => keep B v q (ho' B hB))
      · exact ((Same.kp s3 _).trans kall).mono fun b hb => by rw [List.mem_singleton.mp hb]; simp [fpR]
      · intro b hb
        rcases (by simpa [fpR] using hb : b = A.o ∨ b = c2 ∨ b = u) with e | e | e
        · left; rw [e]; simp [fpR]
        · right; rw [e]; exact free2
        · right; rw [e]; exact freeu
      · intro B hB b hb
        rcases hB with e | e | e
        · right
          rw [e] at hb
          rcases c.nw b hb with q | q
          · exact hf1 b q
          · exact s1.free q
        · left
          refine ⟨B, ?_, hb⟩
          rcases List.mem_append.mp (List.mem_of_mem_drop e) with e | e
          · exact .inr (.inl e)
          · exact .inl (List.mem_singleton.mp e)
        · cases e
    · have h : ¬ (0 : Int) ≤ z := of_decide_eq_false h
      have ek : Mi.chg r (z :: zs, v2) = (r, z :: zs) := if_neg h
      rw [ek] at k
      exact ⟨_, rfl, k H2 A p ⟨hA2, rfl, Same.kp s2 _, fun b hb => .inl hb, ws_refl⟩ hp fun b u e _ => hpne b u e⟩
end
end Rg
namespace Rg
open PySem PySem.Spec PyProof.Rows L2
open Mi (T W R All2 gath newT newW RW RT RD)
open Km485 (count again_)
section
variable {P : Program} {w : World} {K : PySem.W.Frag} {mg : Str → Option Value} {base : Heap} {Z : Adr}
def nms : List (List Str) := [["n"], ["need"], ["t", "s", "x"], ["t", "i", "need", "named"], ["t", "i"], ["t"], ["t"], ["t"], ["t"], ["t", "i"], ["t", "i"], ["t", "i", "a"], ["t", "i", "a"], ["t", "j", "i"], ["t", "j", "i"], ["i", "j"], ["i", "j"], ["i", "mode"], ["t"], ["t", "i", "j"], ["t", "i", "j", "a"], ["i", "j", "s"], ["i", "j", "s"], ["s"], ["t"], [], [], []]
def nmOf (n : Nat) : List Str := nms.getD n []
def csV (Z : Adr) : List (Key × V) := [(Sum.inl 1, .ref (Z.f 31)), (Sum.inl 2, .ref (Z.f 32)), (Sum.inl 3, .ref (Z.f 33)), (Sum.inl 4, .ref (Z.f 34)), (Sum.inl 8, .ref (Z.f 38)), (Sum.inl 9, .ref (Z.f 39)), (Sum.inl 10, .ref (Z.f 40)), (Sum.inl 11, .ref (Z.f 41)), (Sum.inl 12, .ref (Z.f 42)), (Sum.inl 13, .ref (Z.f 43)), (Sum.inl 14, .ref (Z.f 44)), (Sum.inl 15, .ref (Z.f 45)), (Sum.inl 16, .ref (Z.f 46)), (Sum.inl 17, .ref (Z.f 47))]
def qsV (Z : Adr) : List (Key × V) := [(Sum.inl 5, .ref (Z.f 35)), (Sum.inl 6, .ref (Z.f 36)), (Sum.inl 7, .ref (Z.f 37)), (Sum.inl 18, .ref (Z.f 48)), (Sum.inl 19, .ref (Z.f 49)), (Sum.inl 20, .ref (Z.f 50)), (Sum.inl 21, .ref (Z.f 51)), (Sum.inl 22, .ref (Z.f 52)), (Sum.inl 23, .ref (Z.f 53)), (Sum.inl 24, .ref (Z.f 54))]
theorem lack_t {v : W} {t0 x : Nat} : lack1 v t0 "t" x = decide (v.ts.length ≤ x) := by
  unfold lack1
  rw [decide_eq_true (show ("t" : Str) = "t" from rfl), decide_eq_false (show ¬ ("t" : Str) = "i" by decide +kernel), decide_eq_false (show ¬ ("t" : Str) = "j" by decide +kernel), decide_eq_false (show ¬ ("t" : Str) = "a" by decide +kernel)]
  simp
theorem lack_i {v : W} {t0 x : Nat} : lack1 v t0 "i" x = decide (v.n ≤ x) := by
  unfold lack1
  rw [decide_eq_true (show ("i" : Str) = "i" from rfl), decide_eq_false (show ¬ ("i" : Str) = "t" by decide +kernel), decide_eq_false (show ¬ ("i" : Str) = "j" by decide +kernel), decide_eq_false (show ¬ ("i" : Str) = "a" by decide +kernel)]
  simp
theorem lack_j {v : W} {t0 x : Nat} : lack1 v t0 "j" x = decide (v.n ≤ x) := by
  unfold lack1
  rw [decide_eq_true (show ("j" : Str) = "j" from rfl), decide_eq_false (show ¬ ("j" : Str) = "t" by decide +kernel), decide_eq_false (show ¬ ("j" : Str) = "i" by decide +kernel), decide_eq_false (show ¬ ("j" : Str) = "a" by decide +kernel)]
  simp
theorem lack_a {v : W} {t0 x : Nat} : lack1 v t0 "a" x = decide ((v.tr t0).arts.length ≤ x) := by
  unfold lack1
  rw [decide_eq_true (show ("a" : Str) = "a" from rfl), decide_eq_false (show ¬ ("a" : Str) = "t" by decide +kernel), decide_eq_false (show ¬ ("a" : Str) = "i" by decide +kernel), decide_eq_false (show ¬ ("a" : Str) = "j" by decide +kernel)]
  simp
theorem lack_o {v : W} {t0 x : Nat} {s : Str} (h1 : ¬ s = "t") (h2 : ¬ s = "i") (h3 : ¬ s = "j") (h4 : ¬ s = "a") : lack1 v t0 s x = false := by
  unfold lack1
  rw [decide_eq_false h1, decide_eq_false h2, decide_eq_false h3, decide_eq_false h4]
  rfl
section
variable {α : Type} {x y : α} {A B C D : Prop} [Decidable A] [Decidable B] [Decidable C] [Decidable D]
theorem if1 : (if A then x else y) = if (decide A || false) = true then x else y := by simp
theorem if2 : (if A ∨ B then x else y) = if (decide A || (decide B || false)) = true then x else y := by simp
theorem if3 : (if A ∨ B ∨ C then x else y) = if (decide A || (decide B || (decide C || false))) = true then x else y := by simp
theorem if4 : (if A ∨ B ∨ C ∨ D then x else y) = if (decide A || (decide B || (decide C || (decide D || false)))) = true then x else y := by simp
end
section
variable {a b c d e f g k : Nat}
theorem no1 (h : (decide (a ≤ b) || false) = false) : b < a := by simp at h; omega
theorem no2 (h : (decide (a ≤ b) || (decide (c ≤ d) || false)) = false) : b < a ∧ d < c := by simp at h; omega
theorem no3 (h : (decide (a ≤ b) || (decide (c ≤ d) || (decide (e ≤ f) || false))) = false) : b < a ∧ d < c ∧ f < e := by simp at h; omega
theorem no4 (h : (decide (a ≤ b) || (decide (c ≤ d) || (decide (e ≤ f) || (decide (g ≤ k) || false)))) = false) : b < a ∧ d < c ∧ f < e ∧ k < g := by simp at h; omega
end
def IsQ (P : Program) (w : World) (K : PySem.W.Frag) (mg : Str → Option Value) (base : Heap) (Z : Adr) (r : R) (x : Km485.Call) (n : Nat) (xs : List Nat) : Prop := ∃ f ps sp q, 1 ≤ xs.length ∧ xs.length ≤ 4 ∧ valV (qsV Z) (Sum.inl (n : Int)) = some (.ref f) ∧ Good P w K mg base 8 f ps sp ∧ Mi.stepM r x = (if lacksM r.w (nmOf n) xs = true then (r, [-2]) else (r, q)) ∧ (lacksM r.w (nmOf n) xs = false → ∀ (H : Hp) (B : WA) (Q1 : VK), WAt Z.cT Z.cW H B r.w → Ans H Q1 q → sp (.ref B.o :: nv xs) H Q1 E0)
def IsC (P : Program) (w : World) (K : PySem.W.Frag) (mg : Str → Option Value) (base : Heap) (Z : Adr) (r : R) (x : Km485.Call) (n : Nat) (xs : List Nat) : Prop := ∃ f ps sp o, 1 ≤ xs.length ∧ xs.length ≤ 4 ∧ valV (qsV Z) (Sum.inl (n : Int)) = none ∧ valV (csV Z) (Sum.inl (n : Int)) = some (.ref f) ∧ Good P w K mg base 8 f ps sp ∧ o.1.length = 1 ∧ Mi.stepM r x = (if lacksM r.w (nmOf n) xs = true then (r, [-2]) else Mi.chg r o) ∧ (lacksM r.w (nmOf n) xs = false → ∀ (H : Hp) (B : WA) (Q1 : VK), WAt Z.cT Z.cW H B r.w → Chg Z H B Q1 o → sp (.ref B.o :: nv xs) H Q1 E0)
theorem kind (T : Tx K mg Z) {r : R} {b : Km485.Book} (hR : RW r.w b) {x : Km485.Call} {n : Nat} {xs : List Nat} (he : Mi.enc x = n :: xs) (hn0 : n ≠ 0) (hn25 : n ≠ 25) (hn26 : n ≠ 26) (hn27 : n ≠ 27) : IsQ P w K mg base Z r x n xs ∨ IsC P w K mg base Z r x n xs := by
  cases x with
  | start n => exact absurd (List.cons.inj he).1.symm hn0
  | treaty k =>
    obtain ⟨rfl, rfl⟩ := List.cons.inj he
    have el : lacksM r.w (nmOf 1) [k] = false := by
      show (lack1 r.w k "need" k || false) = _
      rw [lack_o (s := "need") (by decide +kernel) (by decide +kernel) (by decide +kernel) (by decide +kernel)]
      try rfl
    refine .inr ⟨Z.f 31, _, _, Mi.opTreaty r.w k, (by show 1 ≤ 1; decide), (by show 1 ≤ 4; decide), rfl, rfl, (ok_rt_treaty T).mono (by decide), ?_, ?_, fun hl H B Q1 hB kk => ?_⟩
    · unfold Mi.opTreaty
      (repeat' split) <;> rfl
    · rw [el]
      exact rfl
    · rw [el] at hl
      exact ⟨B, r.w, b, k, rfl, hB, hR, kk⟩
  | article t s x =>
    obtain ⟨rfl, rfl⟩ := List.cons.inj he
    have el : lacksM r.w (nmOf 2) [t, s, x] = (decide (r.w.ts.length ≤ t) || false) := by
      show (lack1 r.w t "t" t || (lack1 r.w t "s" s || (lack1 r.w t "x" x || false))) = _
      rw [lack_t, lack_o (s := "s") (by decide +kernel) (by decide +kernel) (by decide +kernel) (by decide +kernel), lack_o (s := "x") (by decide +kernel) (by decide +kernel) (by decide +kernel) (by decide +kernel)]
      try rfl
    refine .inr ⟨Z.f 32, _, _, Mi.opArticle r.w t s x, (by show 1 ≤ 3; decide), (by show 3 ≤ 4; decide), rfl, rfl, (ok_rt_article T).mono (by decide), ?_, ?_, fun hl H B Q1 hB kk => ?_⟩
    · unfold Mi.opArticle
      (repeat' split) <;> rfl
    · rw [el]
      exact if1
    · rw [el] at hl
      have h0 := no1 hl
      exact ⟨B, r.w, b, t, s, x, rfl, hB, hR, h0, kk⟩
  | offer t i k m =>
    obtain ⟨rfl, rfl⟩ := List.cons.inj he
    have el : lacksM r.w (nmOf 3) [t, i, k, m] = (decide (r.w.ts.length ≤ t) || (decide (r.w.n ≤ i) || false)) := by
      show (lack1 r.w t "t" t || (lack1 r.w t "i" i || (lack1 r.w t "need" k || (lack1 r.w t "named" m || false)))) = _
      rw [lack_t, lack_i, lack_o (s := "need") (by decide +kernel) (by decide +kernel) (by decide +kernel) (by decide +kernel), lack_o (s := "named") (by decide +kernel) (by decide +kernel) (by decide +kernel) (by decide +kernel)]
      try rfl
    refine .inr ⟨Z.f 33, _, _, Mi.opOffer r.w t i k m, (by show 1 ≤ 4; decide), (by show 4 ≤ 4; decide), rfl, rfl, (ok_rt_offer T).mono (by decide), ?_, ?_, fun hl H B Q1 hB kk => ?_⟩
    · unfold Mi.opOffer
      (repeat' split) <;> rfl
    · rw [el]
      exact if2
    · rw [el] at hl
      obtain ⟨h0, h1⟩ := no2 hl
      exact ⟨B, r.w, b, t, i, k, m, rfl, hB, hR, h0, h1, kk⟩
  | unoffer t i =>
    obtain ⟨rfl, rfl⟩ := List.cons.inj he
    have el : lacksM r.w (nmOf 4) [t, i] = (decide (r.w.ts.length ≤ t) || (decide (r.w.n ≤ i) || false)) := by
      show (lack1 r.w t "t" t || (lack1 r.w t "i" i || false)) = _
      rw [lack_t, lack_i]
    refine .inr ⟨Z.f 34, _, _, Mi.opUnoffer r.w t i, (by show 1 ≤ 2; decide), (by show 2 ≤ 4; decide), rfl, rfl, (ok_rt_unoffer T).mono (by decide), ?_, ?_, fun hl H B Q1 hB kk => ?_⟩
    · unfold Mi.opUnoffer
      (repeat' split) <;> rfl
    · rw [el]
      exact if2
    · rw [el] at hl
      obtain ⟨h0, h1⟩ := no2 hl
      exact ⟨B, r.w, b, t, i, rfl, hB, hR, h0, h1, kk⟩
  | joiners t =>
    obtain ⟨rfl, rfl⟩ := List.cons.inj he
    have el : lacksM r.w (nmOf 5) [t] = (decide (r.w.ts.length ≤ t) || false) := by
      show (lack1 r.w t "t" t || false) = _
      rw [lack_t]
    refine .inl ⟨Z.f 35, _, _, Mi.qJoiners r.w t, (by show 1 ≤ 1; decide), (by show 1 ≤ 4; decide), rfl, (ok_rt_joiners T).mono (by decide), ?_, fun hl H B Q1 hB kk => ?_⟩
    · rw [el]
      exact if1
    · rw [el] at hl
      have h0 := no1 hl
      exact ⟨B, r.w, b, t, rfl, hB, hR, h0, kk⟩
  | waits t =>
    obtain ⟨rfl, rfl⟩ := List.cons.inj he
    have el : lacksM r.w (nmOf 6) [t] = (decide (r.w.ts.length ≤ t) || false) := by
      show (lack1 r.w t "t" t || false) = _
      rw [lack_t]
    refine .inl ⟨Z.f 36, _, _, Mi.qWaits r.w t, (by show 1 ≤ 1; decide), (by show 1 ≤ 4; decide), rfl, (ok_rt_waits T).mono (by decide), ?_, fun hl H B Q1 hB kk => ?_⟩
    · rw [el]
      exact if1
    · rw [el] at hl
      have h0 := no1 hl
      exact ⟨B, r.w, b, t, rfl, hB, hR, h0, kk⟩
  | first t =>
    obtain ⟨rfl, rfl⟩ := List.cons.inj he
    have el : lacksM r.w (nmOf 7) [t] = (decide (r.w.ts.length ≤ t) || false) := by
      show (lack1 r.w t "t" t || false) = _
      rw [lack_t]
    refine .inl ⟨Z.f 37, _, _, Mi.qFirst r.w t, (by show 1 ≤ 1; decide), (by show 1 ≤ 4; decide), rfl, (ok_rt_first T).mono (by decide), ?_, fun hl H B Q1 hB kk => ?_⟩
    · rw [el]
      exact if1
    · rw [el] at hl
      have h0 := no1 hl
      exact ⟨B, r.w, b, t, rfl, hB, hR, h0, kk⟩
  | conclude t =>
    obtain ⟨rfl, rfl⟩ := List.cons.inj he
    have el : lacksM r.w (nmOf 8) [t] = (decide (r.w.ts.length ≤ t) || false) := by
      show (lack1 r.w t "t" t || false) = _
      rw [lack_t]
    refine .inr ⟨Z.f 38, _, _, Mi.opConclude r.w t, (by show 1 ≤ 1; decide), (by show 1 ≤ 4; decide), rfl, rfl, (ok_rt_conclude T).mono (by decide), ?_, ?_, fun hl H B Q1 hB kk => ?_⟩
    · unfold Mi.opConclude
      (repeat' split) <;> rfl
    · rw [el]
      exact if1
    · rw [el] at hl
      have h0 := no1 hl
      exact ⟨B, r.w, b, t, rfl, hB, hR, h0, kk⟩
  | accede t i =>
    obtain ⟨rfl, rfl⟩ := List.cons.inj he
    have el : lacksM r.w (nmOf 9) [t, i] = (decide (r.w.ts.length ≤ t) || (decide (r.w.n ≤ i) || false)) := by
      show (lack1 r.w t "t" t || (lack1 r.w t "i" i || false)) = _
      rw [lack_t, lack_i]
    refine .inr ⟨Z.f 39, _, _, Mi.opAccede r.w t i, (by show 1 ≤ 2; decide), (by show 2 ≤ 4; decide), rfl, rfl, (ok_rt_accede T).mono (by decide), ?_, ?_, fun hl H B Q1 hB kk => ?_⟩
    · unfold Mi.opAccede
      (repeat' split) <;> rfl
    · rw [el]
      exact if2
    · rw [el] at hl
      obtain ⟨h0, h1⟩ := no2 hl
      exact ⟨B, r.w, b, t, i, rfl, hB, hR, h0, h1, kk⟩
  | leave t i =>
    obtain ⟨rfl, rfl⟩ := List.cons.inj he
    have el : lacksM r.w (nmOf 10) [t, i] = (decide (r.w.ts.length ≤ t) || (decide (r.w.n ≤ i) || false)) := by
      show (lack1 r.w t "t" t || (lack1 r.w t "i" i || false)) = _
      rw [lack_t, lack_i]
    refine .inr ⟨Z.f 40, _, _, Mi.opLeave r.w t i, (by show 1 ≤ 2; decide), (by show 2 ≤ 4; decide), rfl, rfl, (ok_rt_leave T).mono (by decide), ?_, ?_, fun hl H B Q1 hB kk => ?_⟩
    · unfold Mi.opLeave
      (repeat' split) <;> rfl
    · rw [el]
      exact if2
    · rw [el] at hl
      obtain ⟨h0, h1⟩ := no2 hl
      exact ⟨B, r.w, b, t, i, rfl, hB, hR, h0, h1, kk⟩
  | reserve t i a =>
    obtain ⟨rfl, rfl⟩ := List.cons.inj he
    have el : lacksM r.w (nmOf 11) [t, i, a] = (decide (r.w.ts.length ≤ t) || (decide (r.w.n ≤ i) || (decide ((r.w.tr t).arts.length ≤ a) || false))) := by
      show (lack1 r.w t "t" t || (lack1 r.w t "i" i || (lack1 r.w t "a" a || false))) = _
      rw [lack_t, lack_i, lack_a]
    refine .inr ⟨Z.f 41, _, _, Mi.opReserve r.w t i a, (by show 1 ≤ 3; decide), (by show 3 ≤ 4; decide), rfl, rfl, (ok_rt_reserve T).mono (by decide), ?_, ?_, fun hl H B Q1 hB kk => ?_⟩
    · unfold Mi.opReserve
      (repeat' split) <;> rfl
    · rw [el]
      exact if3
    · rw [el] at hl
      obtain ⟨h0, h1, h2⟩ := no3 hl
      exact ⟨B, r.w, b, t, i, a, rfl, hB, hR, h0, h1, h2, kk⟩
  | unreserve t i a =>
    obtain ⟨rfl, rfl⟩ := List.cons.inj he
    have el : lacksM r.w (nmOf 12) [t, i, a] = (decide (r.w.ts.length ≤ t) || (decide (r.w.n ≤ i) || (decide ((r.w.tr t).arts.length ≤ a) || false))) := by
      show (lack1 r.w t "t" t || (lack1 r.w t "i" i || (lack1 r.w t "a" a || false))) = _
      rw [lack_t, lack_i, lack_a]
    refine .inr ⟨Z.f 42, _, _, Mi.opUnreserve r.w t i a, (by show 1 ≤ 3; decide), (by show 3 ≤ 4; decide), rfl, rfl, (ok_rt_unreserve T).mono (by decide), ?_, ?_, fun hl H B Q1 hB kk => ?_⟩
    · unfold Mi.opUnreserve
      (repeat' split) <;> rfl
    · rw [el]
      exact if3
    · rw [el] at hl
      obtain ⟨h0, h1, h2⟩ := no3 hl
      exact ⟨B, r.w, b, t, i, a, rfl, hB, hR, h0, h1, h2, kk⟩
  | object t j i =>
    obtain ⟨rfl, rfl⟩ := List.cons.inj he
    have el : lacksM r.w (nmOf 13) [t, j, i] = (decide (r.w.ts.length ≤ t) || (decide (r.w.n ≤ j) || (decide (r.w.n ≤ i) || false))) := by
      show (lack1 r.w t "t" t || (lack1 r.w t "j" j || (lack1 r.w t "i" i || false))) = _
      rw [lack_t, lack_j, lack_i]
    refine .inr ⟨Z.f 43, _, _, Mi.opObject r.w t j i, (by show 1 ≤ 3; decide), (by show 3 ≤ 4; decide), rfl, rfl, (ok_rt_object T).mono (by decide), ?_, ?_, fun hl H B Q1 hB kk => ?_⟩
    · unfold Mi.opObject
      (repeat' split) <;> rfl
    · rw [el]
      exact if3
    · rw [el] at hl
      obtain ⟨h0, h1, h2⟩ := no3 hl
      exact ⟨B, r.w, b, t, j, i, rfl, hB, hR, h0, h1, h2, kk⟩
  | accept t j i =>
    obtain ⟨rfl, rfl⟩ := List.cons.inj he
    have el : lacksM r.w (nmOf 14) [t, j, i] = (decide (r.w.ts.length ≤ t) || (decide (r.w.n ≤ j) || (decide (r.w.n ≤ i) || false))) := by
      show (lack1 r.w t "t" t || (lack1 r.w t "j" j || (lack1 r.w t "i" i || false))) = _
      rw [lack_t, lack_j, lack_i]
    refine .inr ⟨Z.f 44, _, _, Mi.opAccept r.w t j i, (by show 1 ≤ 3; decide), (by show 3 ≤ 4; decide), rfl, rfl, (ok_rt_accept T).mono (by decide), ?_, ?_, fun hl H B Q1 hB kk => ?_⟩
    · unfold Mi.opAccept
      (repeat' split) <;> rfl
    · rw [el]
      exact if3
    · rw [el] at hl
      obtain ⟨h0, h1, h2⟩ := no3 hl
      exact ⟨B, r.w, b, t, j, i, rfl, hB, hR, h0, h1, h2, kk⟩
  | favour i j =>
    obtain ⟨rfl, rfl⟩ := List.cons.inj he
    have el : lacksM r.w (nmOf 15) [i, j] = (decide (r.w.n ≤ i) || (decide (r.w.n ≤ j) || false)) := by
      show (lack1 r.w i "i" i || (lack1 r.w i "j" j || false)) = _
      rw [lack_i, lack_j]
    refine .inr ⟨Z.f 45, _, _, Mi.opFavour r.w i j, (by show 1 ≤ 2; decide), (by show 2 ≤ 4; decide), rfl, rfl, (ok_rt_favour T).mono (by decide), ?_, ?_, fun hl H B Q1 hB kk => ?_⟩
    · unfold Mi.opFavour
      (repeat' split) <;> rfl
    · rw [el]
      exact if2
    · rw [el] at hl
      obtain ⟨h0, h1⟩ := no2 hl
      exact ⟨B, r.w, b, i, j, rfl, hB, hR, h0, h1, kk⟩
  | unfavour i j =>
    obtain ⟨rfl, rfl⟩ := List.cons.inj he
    have el : lacksM r.w (nmOf 16) [i, j] = (decide (r.w.n ≤ i) || (decide (r.w.n ≤ j) || false)) := by
      show (lack1 r.w i "i" i || (lack1 r.w i "j" j || false)) = _
      rw [lack_i, lack_j]
    refine .inr ⟨Z.f 46, _, _, Mi.opUnfavour r.w i j, (by show 1 ≤ 2; decide), (by show 2 ≤ 4; decide), rfl, rfl, (ok_rt_unfavour T).mono (by decide), ?_, ?_, fun hl H B Q1 hB kk => ?_⟩
    · unfold Mi.opUnfavour
      (repeat' split) <;> rfl
    · rw [el]
      exact if2
    · rw [el] at hl
      obtain ⟨h0, h1⟩ := no2 hl
      exact ⟨B, r.w, b, i, j, rfl, hB, hR, h0, h1, kk⟩
  | part i m =>
    obtain ⟨rfl, rfl⟩ := List.cons.inj he
    have el : lacksM r.w (nmOf 17) [i, m] = (decide (r.w.n ≤ i) || false) := by
      show (lack1 r.w i "i" i || (lack1 r.w i "mode" m || false)) = _
      rw [lack_i, lack_o (s := "mode") (by decide +kernel) (by decide +kernel) (by decide +kernel) (by decide +kernel)]
      try rfl
    refine .inr ⟨Z.f 47, _, _, Mi.opPart r.w i m, (by show 1 ≤ 2; decide), (by show 2 ≤ 4; decide), rfl, rfl, (ok_rt_part T).mono (by decide), ?_, ?_, fun hl H B Q1 hB kk => ?_⟩
    · unfold Mi.opPart
      (repeat' split) <;> rfl
    · rw [el]
      exact if1
    · rw [el] at hl
      have h0 := no1 hl
      exact ⟨B, r.w, b, i, m, rfl, hB, hR, h0, kk⟩
  | members t =>
    obtain ⟨rfl, rfl⟩ := List.cons.inj he
    have el : lacksM r.w (nmOf 18) [t] = (decide (r.w.ts.length ≤ t) || false) := by
      show (lack1 r.w t "t" t || false) = _
      rw [lack_t]
    refine .inl ⟨Z.f 48, _, _, Mi.qMembers r.w t, (by show 1 ≤ 1; decide), (by show 1 ≤ 4; decide), rfl, (ok_rt_members T).mono (by decide), ?_, fun hl H B Q1 hB kk => ?_⟩
    · rw [el]
      exact if1
    · rw [el] at hl
      have h0 := no1 hl
      exact ⟨B, r.w, b, t, rfl, hB, hR, h0, kk⟩
  | between t i j =>
    obtain ⟨rfl, rfl⟩ := List.cons.inj he
    have el : lacksM r.w (nmOf 19) [t, i, j] = (decide (r.w.ts.length ≤ t) || (decide (r.w.n ≤ i) || (decide (r.w.n ≤ j) || false))) := by
      show (lack1 r.w t "t" t || (lack1 r.w t "i" i || (lack1 r.w t "j" j || false))) = _
      rw [lack_t, lack_i, lack_j]
    refine .inl ⟨Z.f 49, _, _, Mi.qBetween r.w t i j, (by show 1 ≤ 3; decide), (by show 3 ≤ 4; decide), rfl, (ok_rt_between T).mono (by decide), ?_, fun hl H B Q1 hB kk => ?_⟩
    · rw [el]
      exact if3
    · rw [el] at hl
      obtain ⟨h0, h1, h2⟩ := no3 hl
      exact ⟨B, r.w, b, t, i, j, rfl, hB, hR, h0, h1, h2, kk⟩
  | applies t i j a =>
    obtain ⟨rfl, rfl⟩ := List.cons.inj he
    have el : lacksM r.w (nmOf 20) [t, i, j, a] = (decide (r.w.ts.length ≤ t) || (decide (r.w.n ≤ i) || (decide (r.w.n ≤ j) || (decide ((r.w.tr t).arts.length ≤ a) || false)))) := by
      show (lack1 r.w t "t" t || (lack1 r.w t "i" i || (lack1 r.w t "j" j || (lack1 r.w t "a" a || false)))) = _
      rw [lack_t, lack_i, lack_j, lack_a]
    refine .inl ⟨Z.f 50, _, _, Mi.qApplies r.w t i j a, (by show 1 ≤ 4; decide), (by show 4 ≤ 4; decide), rfl, (ok_rt_applies T).mono (by decide), ?_, fun hl H B Q1 hB kk => ?_⟩
    · rw [el]
      exact if4
    · rw [el] at hl
      obtain ⟨h0, h1, h2, h3⟩ := no4 hl
      exact ⟨B, r.w, b, t, i, j, a, rfl, hB, hR, h0, h1, h2, h3, kk⟩
  | rule i j s =>
    obtain ⟨rfl, rfl⟩ := List.cons.inj he
    have el : lacksM r.w (nmOf 21) [i, j, s] = (decide (r.w.n ≤ i) || (decide (r.w.n ≤ j) || false)) := by
      show (lack1 r.w i "i" i || (lack1 r.w i "j" j || (lack1 r.w i "s" s || false))) = _
      rw [lack_i, lack_j, lack_o (s := "s") (by decide +kernel) (by decide +kernel) (by decide +kernel) (by decide +kernel)]
      try rfl
    refine .inl ⟨Z.f 51, _, _, Mi.qRule r.w i j s, (by show 1 ≤ 3; decide), (by show 3 ≤ 4; decide), rfl, (ok_rt_rule T).mono (by decide), ?_, fun hl H B Q1 hB kk => ?_⟩
    · rw [el]
      exact if2
    · rw [el] at hl
      obtain ⟨h0, h1⟩ := no2 hl
      exact ⟨B, r.w, b, i, j, s, rfl, hB, hR, h0, h1, kk⟩
  | takes i j s =>
    obtain ⟨rfl, rfl⟩ := List.cons.inj he
    have el : lacksM r.w (nmOf 22) [i, j, s] = (decide (r.w.n ≤ i) || (decide (r.w.n ≤ j) || false)) := by
      show (lack1 r.w i "i" i || (lack1 r.w i "j" j || (lack1 r.w i "s" s || false))) = _
      rw [lack_i, lack_j, lack_o (s := "s") (by decide +kernel) (by decide +kernel) (by decide +kernel) (by decide +kernel)]
      try rfl
    refine .inl ⟨Z.f 52, _, _, Mi.qTakes r.w i j s, (by show 1 ≤ 3; decide), (by show 3 ≤ 4; decide), rfl, (ok_rt_takes T).mono (by decide), ?_, fun hl H B Q1 hB kk => ?_⟩
    · rw [el]
      exact if2
    · rw [el] at hl
      obtain ⟨h0, h1⟩ := no2 hl
      exact ⟨B, r.w, b, i, j, s, rfl, hB, hR, h0, h1, kk⟩
  | table s =>
    obtain ⟨rfl, rfl⟩ := List.cons.inj he
    have el : lacksM r.w (nmOf 23) [s] = false := by
      show (lack1 r.w s "s" s || false) = _
      rw [lack_o (s := "s") (by decide +kernel) (by decide +kernel) (by decide +kernel) (by decide +kernel)]
      try rfl
    refine .inl ⟨Z.f 53, _, _, Mi.qTable r.w s, (by show 1 ≤ 1; decide), (by show 1 ≤ 4; decide), rfl, (ok_rt_table T).mono (by decide), ?_, fun hl H B Q1 hB kk => ?_⟩
    · rw [el]
      exact rfl
    · rw [el] at hl
      exact ⟨B, r.w, b, s, rfl, hB, hR, kk⟩
  | told t =>
    obtain ⟨rfl, rfl⟩ := List.cons.inj he
    have el : lacksM r.w (nmOf 24) [t] = (decide (r.w.ts.length ≤ t) || false) := by
      show (lack1 r.w t "t" t || false) = _
      rw [lack_t]
    refine .inl ⟨Z.f 54, _, _, Mi.qTold r.w t, (by show 1 ≤ 1; decide), (by show 1 ≤ 4; decide), rfl, (ok_rt_told T).mono (by decide), ?_, fun hl H B Q1 hB kk => ?_⟩
    · rw [el]
      exact if1
    · rw [el] at hl
      have h0 := no1 hl
      exact ⟨B, r.w, b, t, rfl, hB, hR, h0, kk⟩
  | back  => exact absurd (List.cons.inj he).1.symm hn25
  | again  => exact absurd (List.cons.inj he).1.symm hn26
  | state  => exact absurd (List.cons.inj he).1.symm hn27
end
end Rg
namespace Rg
open PySem PySem.Spec PyProof.Rows L2
open Mi (T W R All2 gath newT newW RW RT RD)
open Km485 (count again_)
section
variable {P : Program} {w : World} {K : PySem.W.Frag} {mg : Str → Option Value} {base : Heap} {Z : Adr} {Y : Nat → Addr}
structure Ty (P : Program) (w : World) (K : PySem.W.Frag) (mg : Str → Option Value) (Z : Adr) (Y : Nat → Addr) : Prop where
  tx : Tx K mg Z
  g_QUESTIONS : mg "QUESTIONS" = some (.ref Z.qs)
  g_CHANGES : mg "CHANGES" = some (.ref Z.cs)
  k_QUESTIONS : KD P w K Z.qs (qsV Z)
  k_CHANGES : KD P w K Z.cs (csV Z)
  pars : KT K Z.pars ((List.range 28).map fun k => V.ref (Y k))
  par : ∀ k, k < 28 → KT K (Y k) ((nmOf k).map V.str)
theorem enc_nm {x : Km485.Call} {n : Nat} {xs : List Nat} (he : Mi.enc x = n :: xs) : n < 28 ∧ (nmOf n).length = xs.length := by
  cases x <;> (obtain ⟨rfl, rfl⟩ := List.cons.inj he; exact ⟨by decide, rfl⟩)
theorem nm_a : ∀ n, n < 28 → ("a" : Str) ∈ nmOf n → (nmOf n)[0]? = some ("t" : Str) := by decide +kernel
theorem par_at {n : Nat} (h : n < 28) : ((List.range 28).map fun k => V.ref (Y k))[n]? = some (V.ref (Y n)) := by
  rw [List.getElem?_map, List.getElem?_range h]
  rfl
def spRAnswer (Z : Adr) : Sp := fun vs H Q _ => ∃ A r x l, ∃ n : Nat, ∃ xs, vs = [.ref A.o, .int n, .ref l] ∧ RAt Z.cT Z.cW Z.cR H A r ∧ Mi.Ok r x ∧ Mi.enc x = n :: xs ∧ H l = some (.lst (nv xs)) ∧ RQ Z H A Q (Mi.stepM r x)
theorem dead {r : R} {x : Km485.Call} {n : Nat} {xs : List Nat} (ok : Mi.Ok r x) (he : Mi.enc x = n :: xs) (h : n ≠ 0) : ∃ d, RD r d := by
  rcases ok with q | ⟨_, m, rfl⟩
  · exact q
  · exact absurd (List.cons.inj he).1.symm h
theorem is0 {x : Km485.Call} {xs : List Nat} (he : Mi.enc x = 0 :: xs) : ∃ n, x = .start n ∧ xs = [n] := by
  cases x <;> simp [Mi.enc] at he
  exact ⟨_, rfl, he.symm⟩
theorem is25 {x : Km485.Call} {xs : List Nat} (he : Mi.enc x = 25 :: xs) : x = .back := by
  cases x <;> simp [Mi.enc] at he
  rfl
theorem is26 {x : Km485.Call} {xs : List Nat} (he : Mi.enc x = 26 :: xs) : x = .again := by
  cases x <;> simp [Mi.enc] at he
  rfl
theorem is27 {x : Km485.Call} {xs : List Nat} (he : Mi.enc x = 27 :: xs) : x = .state := by
  cases x <;> simp [Mi.enc] at he
  rfl
theorem ok_R_answer (U : Ty P w K mg Z Y) : Good P w K mg base 11 (Z.f 63) ["self", "number", "told"] (spRAnswer Z) := by
  have T := U.tx
  refine T.d_R_answer.good sc_R_answer (fun vs H Q E h => ?_) (fun cdv Ar outer s H vs Q E hr h => ?_)
  · obtain ⟨A, r, x, l, n, xs, rfl, _⟩ := h
    rfl
  · obtain ⟨A, r, x, l, n, xs, rfl, hA, ok, he, hl, k⟩ := h
    refine ⟨_, (pss_cons (ps_if (pt_cmpR op_eq (pv 1) (pg_int rfl T.g_START) (nomark _)) (pss_one (ps_ret (pv_meth (Y := vR Z) (pv 0) T.clR T.m_R_begin (fun a b => no_R a b (by decide +kernel)) (ok_R_begin (P := P) (w := w) (base := base) T) (hr.mono (by decide)) (pa_cons (pe_ix ix_list (pv 2) pe_int (fun _ _ => rfl)) pa_nil)))) pss_nil) (pss_cons (ps_if (pt_cmpR op_eq (pv 1) (pg_int rfl T.g_BACK) (nomark _)) (pss_one (ps_ret (pv_meth0 (Y := vR Z) (pv 0) T.clR T.m_R_back (fun a b => no_R a b (by decide +kernel)) (ok_R_back (P := P) (w := w) (base := base) T) (hr.mono (by decide))))) pss_nil) (pss_cons (ps_if (pt_cmpR op_eq (pv 1) (pg_int rfl T.g_AGAIN) (nomark _)) (pss_one (ps_ret (pv_meth0 (Y := vR Z) (pv 0) T.clR T.m_R_again (fun a b => no_R a b (by decide +kernel)) (ok_R_again (P := P) (w := w) (base := base) T) (hr.mono (by decide))))) pss_nil) (pss_cons (ps_if (pt_cmpR op_eq (pv 1) (pg_int rfl T.g_STATE) (nomark _)) (pss_one (ps_ret (pv_meth0 (Y := vR Z) (pv 0) T.clR T.m_R_state (fun a b => no_R a b (by decide +kernel)) (ok_R_state (P := P) (w := w) (base := base) T) (hr.mono (by decide))))) pss_nil) (pss_cons (ps_if (pt_tr (pg_call (ok_lacks (P := P) (w := w) (base := base) T) (hr.mono (by decide)) rfl T.g_lacks (pa_cons (pv_fld (Y := vR Z) T.clR T.nR_world (fun a b => rf_world a) (pv 0)) (pa_cons (pe_ix ix_tup (pg_ref rfl T.g_PARAMETERS) (pv 1) (fun _ _ => rfl)) (pa_cons (pv 2) pa_nil))))) (pss_one (ps_ret (pe_lst (pa_cons (pg_int rfl T.g_NOT_THERE) pa_nil)))) pss_nil) (pss_cons (ps_if (pt_cmp (pc_kin rfl U.g_QUESTIONS U.k_QUESTIONS (pv 1))) (pss_one (ps_ret (pg_call (ok_called (P := P) (w := w) (base := base) T) (hr.mono (by decide)) rfl T.g_called (pa_cons (pg_dget rfl U.g_QUESTIONS U.k_QUESTIONS (pv 1)) (pa_cons (pv_fld (Y := vR Z) T.clR T.nR_world (fun a b => rf_world a) (pv 0)) (pa_cons (pv 2) pa_nil)))))) pss_nil) (pss_one (ps_ret (pv_meth (Y := vR Z) (pv 0) T.clR T.m_R_change (fun a b => no_R a b (by decide +kernel)) (ok_R_change (P := P) (w := w) (base := base) T) (hr.mono (by decide)) (pa_cons (pg_dget rfl U.g_CHANGES U.k_CHANGES (pv 1)) (pa_cons (pv 2) pa_nil))))))))))), ?_⟩
    obtain ⟨hn, hlen⟩ := enc_nm he
    refine ⟨_, rfl, rfl, _, rfl, iteB (fun h => ?_) fun h => ?_⟩
    · have h : decide (V.int (n : Nat) = V.int 0) = true := h
      have h := V.int.inj (of_decide_eq_true h)
      have e : n = 0 := by omega
      subst e
      obtain ⟨m, rfl, rfl⟩ := is0 he
      exact ⟨_, rfl, A, r, rfl, hA, _, rfl, l, _, 0, V.int m, rfl, rfl, SqL.of hl, atI_nat (j := 0) rfl, A, r, m, rfl, hA, k⟩
    have h : decide (V.int (n : Nat) = V.int 0) = false := h
    have n0 : n ≠ 0 := fun z => of_decide_eq_false h (by rw [z]; rfl)
    obtain ⟨d, hD⟩ := dead ok he n0
    refine ⟨_, rfl, rfl, _, rfl, iteB (fun h => ?_) fun h => ?_⟩
    · have h : decide (V.int (n : Nat) = V.int 25) = true := h
      have h := V.int.inj (of_decide_eq_true h)
      have e : n = 25 := by omega
      subst e
      have := is25 he
      subst this
      exact ⟨_, rfl, A, r, rfl, hA, A, r, rfl, hA, hD.cap, k⟩
    have h : decide (V.int (n : Nat) = V.int 25) = false := h
    have n25 : n ≠ 25 := fun z => of_decide_eq_false h (by rw [z]; rfl)
    refine ⟨_, rfl, rfl, _, rfl, iteB (fun h => ?_) fun h => ?_⟩
    · have h : decide (V.int (n : Nat) = V.int 26) = true := h
      have h := V.int.inj (of_decide_eq_true h)
      have e : n = 26 := by omega
      subst e
      have := is26 he
      subst this
      exact ⟨_, rfl, A, r, rfl, hA, A, r, rfl, hA, hD.cap, k⟩
    have h : decide (V.int (n : Nat) = V.int 26) = false := h
    have n26 : n ≠ 26 := fun z => of_decide_eq_false h (by rw [z]; rfl)
    refine ⟨_, rfl, rfl, _, rfl, iteB (fun h => ?_) fun h => ?_⟩
    · have h : decide (V.int (n : Nat) = V.int 27) = true := h
      have h := V.int.inj (of_decide_eq_true h)
      have e : n = 27 := by omega
      subst e
      have := is27 he
      subst this
      exact ⟨_, rfl, A, r, rfl, hA, A, r, d.now, rfl, hA, hD.now, k⟩
    have h : decide (V.int (n : Nat) = V.int 27) = false := h
    have n27 : n ≠ 27 := fun z => of_decide_eq_false h (by rw [z]; rfl)
    refine ⟨_, rfl, A, r, rfl, hA, _, rfl, Z.pars, _, (n : Int), V.ref (Y n), rfl, rfl, U.pars.sq _, atI_nat (par_at hn), _, rfl, A.w, r.w, Y n, l, nmOf n, xs, rfl, hA.w, U.par n hn, hl, hlen, fun j hj => nm_a n hn (List.mem_of_getElem? hj), fun H1 s1 => ⟨_, rfl, iteB (fun h => ?_) fun h => ?_⟩⟩
    all_goals have hA1 := hA.mono s1
    all_goals have hK := kind (P := P) (w := w) (base := base) T hD.now he n0 n25 n26 n27
    · have h : lacksM r.w (nmOf n) xs = true := h
      have e : Mi.stepM r x = (r, [-2]) := by
        rcases hK with ⟨_, _, _, _, _, _, _, _, e, _⟩ | ⟨_, _, _, _, _, _, _, _, _, _, e, _⟩
        · rw [e, if_pos h]
        · rw [e, if_pos h]
      exact rq_ret k e ⟨hA1, rfl, Same.kp s1 _, fun b hb => .inl hb, ws_refl⟩ (by show 1 ≤ 1000; decide)
    have h : lacksM r.w (nmOf n) xs = false := h
    rcases hK with ⟨f, ps, sp, q, l1, l4, hv, G, e, hs⟩ | ⟨f, ps, sp, o, l1, l4, hv, hc, G, ho, e, hs⟩
    · rw [e, if_neg (by rw [h]; decide)] at k
      refine ⟨_, rfl, n, rfl, _, rfl, iteB (fun h2 => ?_) fun h2 => ?_⟩
      · refine ⟨_, rfl, n, _, rfl, hv, _, rfl, A, r, rfl, hA1, _, rfl, f, ps, sp, _, l, xs, rfl, G, s1 _ _ hl, l1, l4, hs h H1 A.w _ hA1.w fun H2 p s2 hp hne => ?_⟩
        have s12 := s1.trans s2
        exact k H2 A p ⟨hA.mono s12, rfl, Same.kp s12 _, fun b hb => .inl hb, ws_refl⟩ hp fun b u e _ => ne_of_none (s1 _ _ e) hne
      · have h2 : (valV (qsV Z) (Sum.inl (n : Int))).isSome = false := h2
        rw [hv] at h2
        cases h2
    · rw [e, if_neg (by rw [h]; decide)] at k
      refine ⟨_, rfl, n, rfl, _, rfl, iteB (fun h2 => ?_) fun h2 => ?_⟩
      · have h2 : (valV (qsV Z) (Sum.inl (n : Int))).isSome = true := h2
        rw [hv] at h2
        cases h2
      · refine ⟨_, rfl, A, r, rfl, hA1, _, rfl, n, _, rfl, hc, _, rfl, A, r, d.now, f, ps, sp, l, xs, o, rfl, hA1, hD.now, (by have := hD.cap; omega), G, s1 _ _ hl, l1, l4, (fun z => by rw [z] at ho; cases ho), hs h, ?_⟩
        intro H2 A2 p c hp hne
        exact k H2 A2 p ⟨c.at_, c.o, (Same.kp s1 _).trans c.kp, fun b hb => (c.nw b hb).imp id s1.free, fun B hB b hb => (c.ws B hB b hb).imp id s1.free⟩ hp fun b u e hn => hne b u (s1 _ _ e) hn
end
end Rg
namespace Rg
open PySem PySem.Spec PyProof.Rows L2
open Mi (T W R All2 gath newT newW RW RT RD)
open Km485 (count again_)
section
variable {P : Program} {w : World} {K : PySem.W.Frag} {mg : Str → Option Value} {base : Heap} {Z : Adr} {Y : Nat → Addr}
theorem chg_len {r : R} {o : Mi.Out} (h : o.1.length = 1) : (Mi.chg r o).2.length ≤ 10 := by
  unfold Mi.chg
  split
  · show o.1.length ≤ 10; omega
  · show o.1.length ≤ 10; omega
theorem told_len {v : W} {t : Nat} (h : (v.tr t).arts.length ≤ 4) : (Mi.qTold v t).length ≤ 10 := by
  unfold Mi.qTold
  rw [List.length_append, List.length_append]
  have e1 : ∀ l : List (Nat × Nat), (l.flatMap fun p => [((p.1 : Nat) : Int), ((p.2 : Nat) : Int)]).length = 2 * l.length := by
    intro l
    induction l with
    | nil => rfl
    | cons p l ih => rw [List.flatMap_cons, List.length_append, ih]; show 2 + 2 * l.length = 2 * (l.length + 1); omega
  have e2 : ∀ n : Nat, (List.replicate n [(0 : Int), 0]).flatten.length = 2 * n := by
    intro n
    induction n with
    | zero => rfl
    | succ n ih => rw [List.replicate_succ, List.flatten_cons, List.length_append, ih]; show 2 + 2 * n = 2 * (n + 1); omega
  rw [e1, e2]
  show 2 + _ + _ ≤ 10
  omega
theorem qlen {v : W} {b : Km485.Book} (h : RW v b) (x : Km485.Call) (hs : ∀ n, x ≠ .start n) {r : R} (hr : r.w = v) : (Mi.stepM r x).2.length ≤ 10 := by
  subst hr
  cases x with
  | start n => exact absurd rfl (hs n)
  | back => simp only [Mi.stepM]; split <;> (show 1 ≤ 10; decide)
  | again => simp only [Mi.stepM]; split <;> (show 1 ≤ 10; decide)
  | state => show 6 ≤ 10; decide
  | told t =>
    simp only [Mi.stepM]
    split
    · show 1 ≤ 10; decide
    · exact told_len (h.tr (by omega)).al
  | treaty k => exact chg_len (by unfold Mi.opTreaty; (repeat' split) <;> rfl)
  | article t s x => simp only [Mi.stepM]; split <;> first | (show 1 ≤ 10; decide) | exact chg_len (by unfold Mi.opArticle; (repeat' split) <;> rfl)
  | offer t i k m => simp only [Mi.stepM]; split <;> first | (show 1 ≤ 10; decide) | exact chg_len (by unfold Mi.opOffer; (repeat' split) <;> rfl)
  | unoffer t i => simp only [Mi.stepM]; split <;> first | (show 1 ≤ 10; decide) | exact chg_len (by unfold Mi.opUnoffer; (repeat' split) <;> rfl)
  | conclude t => simp only [Mi.stepM]; split <;> first | (show 1 ≤ 10; decide) | exact chg_len (by unfold Mi.opConclude; (repeat' split) <;> rfl)
  | accede t i => simp only [Mi.stepM]; split <;> first | (show 1 ≤ 10; decide) | exact chg_len (by unfold Mi.opAccede; (repeat' split) <;> rfl)
  | leave t i => simp only [Mi.stepM]; split <;> first | (show 1 ≤ 10; decide) | exact chg_len (by unfold Mi.opLeave; (repeat' split) <;> rfl)
  | reserve t i a => simp only [Mi.stepM]; split <;> first | (show 1 ≤ 10; decide) | exact chg_len (by unfold Mi.opReserve; (repeat' split) <;> rfl)
  | unreserve t i a => simp only [Mi.stepM]; split <;> first | (show 1 ≤ 10; decide) | exact chg_len (by unfold Mi.opUnreserve; (repeat' split) <;> rfl)
  | object t j i => simp only [Mi.stepM]; split <;> first | (show 1 ≤ 10; decide) | exact chg_len (by unfold Mi.opObject; (repeat' split) <;> rfl)
  | accept t j i => simp only [Mi.stepM]; split <;> first | (show 1 ≤ 10; decide) | exact chg_len (by unfold Mi.opAccept; (repeat' split) <;> rfl)
  | favour i j => simp only [Mi.stepM]; split <;> first | (show 1 ≤ 10; decide) | exact chg_len (by unfold Mi.opFavour; (repeat' split) <;> rfl)
  | unfavour i j => simp only [Mi.stepM]; split <;> first | (show 1 ≤ 10; decide) | exact chg_len (by unfold Mi.opUnfavour; (repeat' split) <;> rfl)
  | part i m => simp only [Mi.stepM]; split <;> first | (show 1 ≤ 10; decide) | exact chg_len (by unfold Mi.opPart; (repeat' split) <;> rfl)
  | joiners t => simp only [Mi.stepM, Mi.qJoiners]; (repeat' split) <;> simp
  | waits t => simp only [Mi.stepM, Mi.qWaits]; (repeat' split) <;> simp
  | first t => simp only [Mi.stepM, Mi.qFirst]; (repeat' split) <;> simp
  | members t => simp only [Mi.stepM, Mi.qMembers]; (repeat' split) <;> simp
  | between t i j => simp only [Mi.stepM, Mi.qBetween]; (repeat' split) <;> simp
  | applies t i j a => simp only [Mi.stepM, Mi.qApplies]; (repeat' split) <;> simp
  | rule i j s => simp only [Mi.stepM, Mi.qRule]; (repeat' split) <;> simp
  | takes i j s => simp only [Mi.stepM, Mi.qTakes]; (repeat' split) <;> simp
  | table s => simp only [Mi.stepM, Mi.qTable]; (repeat' split) <;> simp
theorem step_len {r : R} {x : Km485.Call} (h : Mi.Ok r x) : (Mi.stepM r x).2.length ≤ 10 := by
  have st : ∀ n, (Mi.stepM r (.start n)).2.length ≤ 10 := fun n => by
    simp only [Mi.stepM]
    split <;> (show 1 ≤ 10; decide)
  rcases h with ⟨d, hD⟩ | ⟨_, n, rfl⟩
  · by_cases e : ∃ n, x = .start n
    · obtain ⟨n, rfl⟩ := e
      exact st n
    · exact qlen hD.now x (fun n z => e ⟨n, z⟩) rfl
  · exact st n
theorem told_cons (l : List Int) (m : List (List Int)) : PyFlat.told (l :: m) = ((l.length : Int) :: l) ++ PyFlat.told m := by
  unfold PyFlat.told
  rw [List.flatMap_cons]
theorem cut_mid (a b c : List V) : cutV (a ++ (b ++ c)) (some ((a.length : Nat) : Int)) (some ((a.length + b.length : Nat) : Int)) = b := by
  unfold cutV
  rw [HT.sIx_nat, HT.sIx_nat]
  have e1 : min a.length (a ++ (b ++ c)).length = a.length := by simp
  have e2 : min (a.length + b.length) (a ++ (b ++ c)).length = a.length + b.length := by simp
  rw [e1, e2, List.drop_left, Nat.add_sub_cancel_left, List.take_left]
end
end Rg
namespace Rg
open PySem PySem.Spec PyProof.Rows L2
open Mi (T W R All2 gath newT newW RW RT RD)
open Km485 (count again_)
section
variable {P : Program} {w : World} {K : PySem.W.Frag} {mg : Str → Option Value} {base : Heap} {Z : Adr} {Y : Nat → Addr}
theorem RAt.other {H H1 : Hp} {A : RA} {r : R} {g : Addr} {l : List V} (h : RAt Z.cT Z.cW Z.cR H A r) (k : Kp [g] H H1) (hg : H g = some (.lst l)) (hn : g ∉ fpR A) (hw : ∀ B, InR A B → g ∉ fpW B) : RAt Z.cT Z.cW Z.cR H1 A r := by
  obtain ⟨dx, ho⟩ := h.obj
  have n1 : ∀ b ∈ fpR A, b ≠ g := fun b hb z => hn (z ▸ hb)
  exact ⟨⟨dx, k.at1 ho (n1 _ (by simp [fpR]))⟩, k.at1 h.pl (n1 _ (by simp [fpR])), k.at1 h.ul (n1 _ (by simp [fpR])), h.w.one k hg (fun l z => by cases z) (hw _ (.inl rfl)), All2.mem_imp h.ps fun B v hB q => q.one k hg (fun l z => by cases z) (hw B (.inr (.inl hB))), All2.mem_imp h.us fun B v hB q => q.one k hg (fun l z => by cases z) (hw B (.inr (.inr hB))), h.ne, h.ap⟩
theorem RAt.there {H : Hp} {A : RA} {r : R} (h : RAt Z.cT Z.cW Z.cR H A r) : ∀ b ∈ fpR A, ∃ o, H b = some o ∧ ∀ c d, o ≠ .frz c d := fun b hb => by
  obtain ⟨dx, ho⟩ := h.obj
  rcases (by simpa [fpR] using hb : b = A.o ∨ b = A.pl ∨ b = A.ul) with e | e | e
  · rw [e]; exact ⟨_, ho, fun c d z => by cases z⟩
  · rw [e]; exact ⟨_, h.pl, fun c d z => by cases z⟩
  · rw [e]; exact ⟨_, h.ul, fun c d z => by cases z⟩
theorem RAt.wthere {H : Hp} {A : RA} {r : R} (h : RAt Z.cT Z.cW Z.cR H A r) {B : WA} (hB : InR A B) : ∀ b ∈ fpW B, ∃ o, H b = some o := fun b hb => by
  have q : ∃ v, WAt Z.cT Z.cW H B v := by
    rcases hB with e | e | e
    · rw [e]; exact ⟨_, h.w⟩
    · obtain ⟨j, hj⟩ := List.getElem?_of_mem e
      obtain ⟨v, _, hv⟩ := h.ps.get hj
      exact ⟨v, hv⟩
    · obtain ⟨j, hj⟩ := List.getElem?_of_mem e
      obtain ⟨v, _, hv⟩ := h.us.get hj
      exact ⟨v, hv⟩
  obtain ⟨v, hv⟩ := q
  obtain ⟨o, e, _⟩ := hv.there b hb
  exact ⟨o, e⟩
theorem enc_ne (x : Km485.Call) : ∃ n ys, Mi.enc x = n :: ys := by cases x <;> exact ⟨_, _, rfl⟩
def spAnswers (K : PySem.W.Frag) : Sp := fun vs H Q _ => ∃ a, ∃ xs : List Km485.Call, vs = [.ref a] ∧ OnlyF H ∧ (∀ H1, Same H H1 → SqL K H1 a (nv (xs.flatMap Mi.enc))) ∧ Mi.OkRun Mi.r0 xs ∧ xs.length ≤ 1000 ∧ ∀ H' p, H' p = some (.lst ((PyFlat.told (Mi.run Mi.r0 xs)).map V.int)) → Q (.ref p) H'
theorem ok_answers {fd : FuncData} (U : Ty P w K mg Z Y) (F : Fun K "answers" "answers" s_answers (Z.f 64) fd) : FnOk P w K mg base CX0 12 (Z.f 64) fd ["calls"] (spAnswers K) := by
  have T := U.tx
  refine F.ok sc_answers (fun vs H Q E h => ?_) (fun cdv Ar outer s H vs Q E hr h => ?_)
  · obtain ⟨a, xs, rfl, _⟩ := h
    rfl
  · obtain ⟨a, xs, rfl, hO, ha, ok, hx, k⟩ := h
    refine ⟨_, (pss_cons (ps_set (i := 1) sc_answers.nd rfl (Or.inl rfl) (pg_make0 T.mkR (ok_R_init (P := P) (w := w) (base := base) T) (hr.mono (by decide)) rfl T.g_Registry)) (pss_cons (ps_set (i := 2) sc_answers.nd rfl (Or.inl rfl) (pe_lst pa_nil)) (pss_cons (ps_set (i := 3) sc_answers.nd rfl (Or.inl rfl) pe_int) (pss_cons (ps_while PassesOwn.never (pt_cmpR op_lt (pv 3) (pe_callB call_len_seq (by rfl) T.b_len boot_len (pa_cons (pv 0) pa_nil)) (nomark _)) (pss_cons (ps_set (i := 4) sc_answers.nd rfl (Or.inl rfl) (pe_ix ix_list (pv 0) (pv 3) (fun _ _ => rfl))) (pss_cons (ps_set (i := 5) sc_answers.nd rfl (Or.inl rfl) (pe_op op_add (pe_op op_add (pv 3) pe_int) (pe_callB call_len_seq (by rfl) T.b_len boot_len (pa_cons (pe_ix ix_tup (pg_ref rfl T.g_PARAMETERS) (pv 4) (fun _ _ => rfl)) pa_nil)))) (pss_cons (ps_set (i := 6) sc_answers.nd rfl (Or.inl rfl) (pv_meth (Y := vR Z) (pv 1) T.clR T.m_R_answer (fun a b => no_R a b (by decide +kernel)) (ok_R_answer (P := P) (w := w) (base := base) U) (hr.mono (by decide)) (pa_cons (pv 4) (pa_cons (pe_slice sl_list (pv 0) (po_some (pe_op op_add (pv 3) pe_int)) (po_some (pv 5))) pa_nil)))) (pss_cons (ps_expr (pe_bm PySem.F.plainAttrs_list PySem.F.slot_list_append PySem.F.type_list_append mt_appendA (pv 2) (pa_cons (pe_callB call_len_seq (by rfl) T.b_len boot_len (pa_cons (pv 6) pa_nil)) pa_nil))) (pss_cons (ps_expr (pe_bm PySem.F.plainAttrs_list PySem.F.slot_list_extend PySem.F.type_list_extend mt_extendA (pv 2) (pa_cons (pv 6) pa_nil))) (pss_one (ps_set (i := 3) sc_answers.nd rfl (Or.inl rfl) (pv 5))))))))) (pss_one (ps_ret (pv 2))))))), ?_⟩
    refine fun x d hxx hd hne => ⟨x, d, rfl, upd_same, fun H1 A eo hA k1 => ⟨rfl, ?_⟩⟩
    have s1 : Same H H1 := made_same hxx hd k1
    subst eo
    have fr1 : ∀ b ∈ fpR A, H b = none := fun b hb => by
      rcases hO b with e | ⟨o, u, e⟩
      · exact e
      · obtain ⟨o2, e2, n2⟩ := hA.there b hb
        rw [s1 _ _ e] at e2
        exact absurd (Option.some.inj e2).symm (n2 o u)
    refine ⟨Nat.zero_le _, fun g hg => ?_⟩
    have sg := same_upd (o := .lst []) hg
    have zg : H g = none := s1.free hg
    refine ⟨fun m σ H' => ∃ (done rest : List Km485.Call) (A : RA) (r : R) (acc : List Int) (v4 v5 v6 : Option V), m = rest.length ∧ xs = done ++ rest ∧ σ = [some (.ref a), some (.ref A.o), some (.ref g), some (.int ((done.flatMap Mi.enc).length : Nat)), v4, v5, v6] ∧ Same H H' ∧ RAt Z.cT Z.cW Z.cR H' A r ∧ Mi.OkRun r rest ∧ H' g = some (.lst (acc.map V.int)) ∧ PyFlat.told (Mi.run Mi.r0 xs) = acc ++ PyFlat.told (Mi.run r rest) ∧ acc.length ≤ 11 * done.length ∧ (∀ b ∈ fpR A, H b = none ∧ b ≠ g) ∧ (∀ B, InR A B → g ∉ fpW B), ⟨xs.length, [], xs, A, Mi.r0, [], none, none, none, rfl, rfl, rfl, s1.trans sg, hA.mono sg, ok, upd_same, rfl, Nat.zero_le _, fun b hb => ⟨fr1 b hb, fun z => ?_⟩, fun B hB z => ?_⟩, ?_⟩
    · obtain ⟨o, e, _⟩ := hA.there b hb
      rw [z, hg] at e; cases e
    · obtain ⟨o, e⟩ := hA.wthere hB g z
      rw [hg] at e; cases e
    rintro m σ H' ⟨done, rest, A, r, acc, v4, v5, v6, rfl, exs, rfl, s2, hA, ok, hgl, ht, hal, hfr, hwg⟩
    have hL : xs.flatMap Mi.enc = done.flatMap Mi.enc ++ rest.flatMap Mi.enc := by rw [exs, List.flatMap_append]
    refine ⟨_, rfl, _, rfl, a, _, rfl, .inl (ha _ s2), _, _, rfl, rfl, _, rfl, iteB (fun h => ?_) fun h => ?_⟩
    · have h := of_decide_eq_true h
      rw [nv_len, hL, List.length_append] at h
      cases rest with
      | nil => simp at h
      | cons x rest =>
      obtain ⟨n, ys, he⟩ := enc_ne x
      obtain ⟨hn, hlen⟩ := enc_nm he
      obtain ⟨okx, okr⟩ := ok
      rw [List.flatMap_cons, he] at hL
      refine ⟨fun σ' H'' => ∃ (done rest1 : List Km485.Call) (A : RA) (r : R) (acc : List Int) (v4 v5 v6 : Option V), rest.length = rest1.length ∧ xs = done ++ rest1 ∧ σ' = [some (.ref a), some (.ref A.o), some (.ref g), some (.int ((done.flatMap Mi.enc).length : Nat)), v4, v5, v6] ∧ Same H H'' ∧ RAt Z.cT Z.cW Z.cR H'' A r ∧ Mi.OkRun r rest1 ∧ H'' g = some (.lst (acc.map V.int)) ∧ PyFlat.told (Mi.run Mi.r0 xs) = acc ++ PyFlat.told (Mi.run r rest1) ∧ acc.length ≤ 11 * done.length ∧ (∀ b ∈ fpR A, H b = none ∧ b ≠ g) ∧ (∀ B, InR A B → g ∉ fpW B), fun σ' H'' q => ⟨rest.length, Nat.lt_succ_self _, q⟩, ?_⟩
      have eget : (nv (xs.flatMap Mi.enc))[(done.flatMap Mi.enc).length]? = some (V.int (n : Nat)) := by
        rw [hL]
        unfold nv
        rw [List.map_append, List.getElem?_append_right (by rw [List.length_map]; exact Nat.le_refl _), List.length_map, Nat.sub_self]
        rfl
      refine ⟨_, rfl, _, rfl, a, _, _, V.int (n : Nat), rfl, rfl, ha _ s2, atI_nat eget, ?_⟩
      refine ⟨_, rfl, _, _, rfl, rfl, _, rfl, Z.pars, _, (n : Int), V.ref (Y n), rfl, rfl, U.pars.sq _, atI_nat (par_at hn), Y n, _, rfl, .inr ((U.par n hn).sq _), _, _, rfl, rfl, ?_⟩
      refine ⟨_, rfl, A, r, rfl, hA, _, rfl, _, rfl, _, rfl, _, _, rfl, rfl, _, rfl, _, rfl, _, rfl, a, _, rfl, ha _ s2, fun p hp => ?_⟩
      have ecut : cutV (nv (xs.flatMap Mi.enc)) (some ((((done.flatMap Mi.enc).length : Nat) : Int) + 1)) (some ((((done.flatMap Mi.enc).length : Nat) : Int) + 1 + (((nmOf n).map V.str).length : Nat))) = nv ys := by
        have q := cut_mid (nv (done.flatMap Mi.enc ++ [n])) (nv ys) (nv (rest.flatMap Mi.enc))
        have e1 : nv (done.flatMap Mi.enc ++ [n]) ++ (nv ys ++ nv (rest.flatMap Mi.enc)) = nv (xs.flatMap Mi.enc) := by
          rw [hL]
          unfold nv
          simp
        rw [e1, nv_len, nv_len, List.length_append] at q
        rw [List.length_map, hlen]
        have e2 : (((done.flatMap Mi.enc).length + [n].length : Nat) : Int) = (((done.flatMap Mi.enc).length : Nat) : Int) + 1 := by simp
        have e3 : (((done.flatMap Mi.enc).length + [n].length + ys.length : Nat) : Int) = (((done.flatMap Mi.enc).length : Nat) : Int) + 1 + ((ys.length : Nat) : Int) := by simp
        rw [e2, e3] at q
        exact q
      have sp := same_upd (o := .lst (cutV (nv (xs.flatMap Mi.enc)) (some ((((done.flatMap Mi.enc).length : Nat) : Int) + 1)) (some ((((done.flatMap Mi.enc).length : Nat) : Int) + 1 + (((nmOf n).map V.str).length : Nat))))) hp
      have hp1 : upd H' p (.lst (cutV (nv (xs.flatMap Mi.enc)) (some ((((done.flatMap Mi.enc).length : Nat) : Int) + 1)) (some ((((done.flatMap Mi.enc).length : Nat) : Int) + 1 + (((nmOf n).map V.str).length : Nat))))) p = some (.lst (nv ys)) := by
        rw [upd_same, ecut]
      have gfr : g ∉ fpR A := fun z => (hfr g z).2 rfl
      refine ⟨A, r, x, p, n, ys, rfl, hA.mono sp, okx, he, hp1, fun H2 A2 q c hq hqn => ?_⟩
      have hsl := step_len okx
      have s3 : Same H H2 := fun b o e => c.kp b o ((s2.trans sp) b o e) fun z => by rw [(hfr b z).1] at e; cases e
      have hg2 : H2 g = some (.lst (acc.map V.int)) := c.kp g _ (sp _ _ hgl) gfr
      have qg : g ≠ q := hqn g _ (sp _ _ hgl) gfr
      have hfr2 : ∀ b ∈ fpR A2, H b = none ∧ b ≠ g := fun b hb => by
        rcases c.nw b hb with z | z
        · exact hfr b z
        · exact ⟨(s2.trans sp).free z, fun e => by rw [e, sp _ _ hgl] at z; cases z⟩
      have hwg2 : ∀ B, InR A2 B → g ∉ fpW B := fun B hB z => by
        rcases c.ws B hB g z with ⟨D, hD, y⟩ | y
        · exact hwg D hD y
        · rw [sp _ _ hgl] at y; cases y
      have gfr2 : g ∉ fpR A2 := fun z => (hfr2 g z).2 rfl
      have hd1000 : done.length + (rest.length + 1) ≤ 1000 := by rw [exs, List.length_append, List.length_cons] at hx; exact hx
      have big : (2 : Nat) ^ 24 = sizeLine := rfl
      have lacc : (acc.map V.int).length < sizeLine := by rw [List.length_map, ← big]; omega
      refine ⟨_, rfl, .inl ⟨rfl, _, SqL.of hg2⟩, _, rfl, q, _, rfl, .inl (SqL.of hq), g, _, _, rfl, rfl, hg2, lacc, fun H3 f3 k3 => ?_⟩
      have hq3 := k3.at1 hq qg.symm
      have hA3 := c.at_.other k3 hg2 gfr2 hwg2
      refine ⟨_, rfl, .inl ⟨rfl, _, SqL.of f3⟩, _, rfl, g, q, _, _, rfl, rfl, f3, .inl hq3, ?_, fun H4 f4 k4 => ?_⟩
      · rw [List.length_append, List.length_map, List.length_map, ← big]
        show acc.length + 1 + _ ≤ _
        omega
      have hA4 := hA3.other k4 f3 gfr2 hwg2
      have s5 : Same H H4 := fun b o e => (k3.trans k4).at1 (s3 b o e) fun z => by rw [z, zg] at e; cases e
      refine ⟨_, rfl, done ++ [x], rest, A2, (Mi.stepM r x).1, acc ++ (((Mi.stepM r x).2.length : Int) :: (Mi.stepM r x).2), some (.int (n : Nat)), some (.int ((((done.flatMap Mi.enc).length : Nat) : Int) + 1 + (((nmOf n).map V.str).length : Nat))), some (.ref q), rfl, ?_, ?_, s5, hA4, okr, ?_, ?_, ?_, hfr2, hwg2⟩
      · rw [exs, List.append_assoc]; rfl
      · have e1 : (((done.flatMap Mi.enc).length : Nat) : Int) + 1 + (((nmOf n).map V.str).length : Nat) = ((((done ++ [x]).flatMap Mi.enc).length : Nat) : Int) := by
          rw [List.flatMap_append, List.flatMap_cons, he, List.length_append, List.length_map, hlen]
          simp
          omega
        show [some (V.ref a), some (V.ref A.o), some (V.ref g), some (V.int ((((done.flatMap Mi.enc).length : Nat) : Int) + 1 + (((nmOf n).map V.str).length : Nat))), some (V.int (n : Nat)), some (V.int ((((done.flatMap Mi.enc).length : Nat) : Int) + 1 + (((nmOf n).map V.str).length : Nat))), some (V.ref q)] = _
        rw [e1, c.o]
      · rw [f4, List.map_append, List.append_assoc, List.length_map]
        rfl
      · rw [ht]
        show acc ++ PyFlat.told ((Mi.stepM r x).2 :: Mi.run (Mi.stepM r x).1 rest) = _
        rw [told_cons, List.append_assoc]
      · rw [List.length_append, List.length_append, List.length_cons]
        show acc.length + (_ + 1) ≤ 11 * (done.length + 1)
        omega
    · have h := of_decide_eq_false h
      rw [nv_len, hL, List.length_append] at h
      cases rest with
      | cons x rest =>
        obtain ⟨n, ys, he⟩ := enc_ne x
        rw [List.flatMap_cons, he] at h
        simp at h
        omega
      | nil =>
        have e : PyFlat.told (Mi.run Mi.r0 xs) = acc := by rw [ht]; show acc ++ [] = acc; simp
        rw [← e] at hgl
        exact ⟨_, rfl, k H' g hgl⟩
end
end Rg
namespace Rg
open PySem PySem.Spec PyProof.Rows L2
def BD (x qual : Str) (st : Stmt) (ps : List Str) : Prop := ∀ (kV doc pm : Value) (an : Option Addr) (cdv ct : Value) (us : List Value), us.length = ps.length → bindArgs (PySem.W.fnOf x qual (defArgs st) (defBody st) (defScope st) .none kV doc pm an cdv ct) ⟨us, []⟩ = pure (ps.zip us)
theorem bd_size : BD "size" "size" s_size ["together"] := fun _ _ _ _ _ _ us hl => match us, hl with | [_], _ => rfl
theorem bd_T_init : BD "__init__" "Treaty.__init__" s_T_init ["self", "need"] := fun _ _ _ _ _ _ us hl => match us, hl with | [_, _], _ => rfl
theorem bd_T_copied : BD "copied" "Treaty.copied" s_T_copied ["self"] := fun _ _ _ _ _ _ us hl => match us, hl with | [_], _ => rfl
theorem bd_T_concluded : BD "concluded" "Treaty.concluded" s_T_concluded ["self"] := fun _ _ _ _ _ _ us hl => match us, hl with | [_], _ => rfl
theorem bd_T_offered : BD "offered" "Treaty.offered" s_T_offered ["self"] := fun _ _ _ _ _ _ us hl => match us, hl with | [_], _ => rfl
theorem bd_T_holds : BD "holds" "Treaty.holds" s_T_holds ["self", "i", "together", "free"] := fun _ _ _ _ _ _ us hl => match us, hl with | [_, _, _, _], _ => rfl
theorem bd_T_holding : BD "holding" "Treaty.holding" s_T_holding ["self", "together", "free"] := fun _ _ _ _ _ _ us hl => match us, hl with | [_, _, _], _ => rfl
theorem bd_T_joiners : BD "joiners" "Treaty.joiners" s_T_joiners ["self", "free"] := fun _ _ _ _ _ _ us hl => match us, hl with | [_, _], _ => rfl
theorem bd_T_enough_join : BD "enough_join" "Treaty.enough_join" s_T_enough_join ["self", "free"] := fun _ _ _ _ _ _ us hl => match us, hl with | [_, _], _ => rfl
theorem bd_T_first : BD "first" "Treaty.first" s_T_first ["self"] := fun _ _ _ _ _ _ us hl => match us, hl with | [_], _ => rfl
theorem bd_T_is_member : BD "is_member" "Treaty.is_member" s_T_is_member ["self", "i"] := fun _ _ _ _ _ _ us hl => match us, hl with | [_, _], _ => rfl
theorem bd_T_has_reserved : BD "has_reserved" "Treaty.has_reserved" s_T_has_reserved ["self", "i", "a"] := fun _ _ _ _ _ _ us hl => match us, hl with | [_, _, _], _ => rfl
theorem bd_T_objects : BD "objects" "Treaty.objects" s_T_objects ["self", "j", "i"] := fun _ _ _ _ _ _ us hl => match us, hl with | [_, _, _], _ => rfl
theorem bd_T_objections : BD "objections" "Treaty.objections" s_T_objections ["self"] := fun _ _ _ _ _ _ us hl => match us, hl with | [_], _ => rfl
theorem bd_T_drop_objections_to : BD "drop_objections_to" "Treaty.drop_objections_to" s_T_drop_objections_to ["self", "i"] := fun _ _ _ _ _ _ us hl => match us, hl with | [_, _], _ => rfl
theorem bd_T_leave : BD "leave" "Treaty.leave" s_T_leave ["self", "i"] := fun _ _ _ _ _ _ us hl => match us, hl with | [_, _], _ => rfl
theorem bd_T_unreserve : BD "unreserve" "Treaty.unreserve" s_T_unreserve ["self", "i", "a"] := fun _ _ _ _ _ _ us hl => match us, hl with | [_, _, _], _ => rfl
theorem bd_T_take_after : BD "take_after" "Treaty.take_after" s_T_take_after ["self", "new", "i"] := fun _ _ _ _ _ _ us hl => match us, hl with | [_, _, _], _ => rfl
theorem bd_T_between : BD "between" "Treaty.between" s_T_between ["self", "i", "j"] := fun _ _ _ _ _ _ us hl => match us, hl with | [_, _, _], _ => rfl
theorem bd_T_applies : BD "applies" "Treaty.applies" s_T_applies ["self", "i", "j", "a"] := fun _ _ _ _ _ _ us hl => match us, hl with | [_, _, _, _], _ => rfl
theorem bd_T_last_applying : BD "last_applying" "Treaty.last_applying" s_T_last_applying ["self", "i", "j", "s"] := fun _ _ _ _ _ _ us hl => match us, hl with | [_, _, _, _], _ => rfl
theorem bd_W_init : BD "__init__" "World.__init__" s_W_init ["self", "states"] := fun _ _ _ _ _ _ us hl => match us, hl with | [_, _], _ => rfl
theorem bd_W_copied : BD "copied" "World.copied" s_W_copied ["self"] := fun _ _ _ _ _ _ us hl => match us, hl with | [_], _ => rfl
theorem bd_W_turns : BD "turns" "World.turns" s_W_turns ["self"] := fun _ _ _ _ _ _ us hl => match us, hl with | [_], _ => rfl
theorem bd_W_favours : BD "favours" "World.favours" s_W_favours ["self", "i", "j"] := fun _ _ _ _ _ _ us hl => match us, hl with | [_, _, _], _ => rfl
theorem bd_W_all_favours : BD "all_favours" "World.all_favours" s_W_all_favours ["self"] := fun _ _ _ _ _ _ us hl => match us, hl with | [_], _ => rfl
theorem bd_W_part : BD "part" "World.part" s_W_part ["self", "i", "with_treaties"] := fun _ _ _ _ _ _ us hl => match us, hl with | [_, _, _], _ => rfl
theorem bd_W_ahead : BD "ahead" "World.ahead" s_W_ahead ["self", "i", "j", "s"] := fun _ _ _ _ _ _ us hl => match us, hl with | [_, _, _, _], _ => rfl
theorem bd_W_amount : BD "amount" "World.amount" s_W_amount ["self", "t", "a"] := fun _ _ _ _ _ _ us hl => match us, hl with | [_, _, _], _ => rfl
theorem bd_W_allowed : BD "allowed" "World.allowed" s_W_allowed ["self", "i", "j", "s"] := fun _ _ _ _ _ _ us hl => match us, hl with | [_, _, _, _], _ => rfl
theorem bd_W_takes : BD "takes" "World.takes" s_W_takes ["self", "i", "j", "s"] := fun _ _ _ _ _ _ us hl => match us, hl with | [_, _, _, _], _ => rfl
theorem bd_rt_treaty : BD "rt_treaty" "rt_treaty" s_rt_treaty ["world", "need"] := fun _ _ _ _ _ _ us hl => match us, hl with | [_, _], _ => rfl
theorem bd_rt_article : BD "rt_article" "rt_article" s_rt_article ["world", "t", "s", "x"] := fun _ _ _ _ _ _ us hl => match us, hl with | [_, _, _, _], _ => rfl
theorem bd_rt_offer : BD "rt_offer" "rt_offer" s_rt_offer ["world", "t", "i", "need", "named"] := fun _ _ _ _ _ _ us hl => match us, hl with | [_, _, _, _, _], _ => rfl
theorem bd_rt_unoffer : BD "rt_unoffer" "rt_unoffer" s_rt_unoffer ["world", "t", "i"] := fun _ _ _ _ _ _ us hl => match us, hl with | [_, _, _], _ => rfl
theorem bd_rt_joiners : BD "rt_joiners" "rt_joiners" s_rt_joiners ["world", "t"] := fun _ _ _ _ _ _ us hl => match us, hl with | [_, _], _ => rfl
theorem bd_rt_waits : BD "rt_waits" "rt_waits" s_rt_waits ["world", "t"] := fun _ _ _ _ _ _ us hl => match us, hl with | [_, _], _ => rfl
theorem bd_rt_first : BD "rt_first" "rt_first" s_rt_first ["world", "t"] := fun _ _ _ _ _ _ us hl => match us, hl with | [_, _], _ => rfl
theorem bd_rt_conclude : BD "rt_conclude" "rt_conclude" s_rt_conclude ["world", "t"] := fun _ _ _ _ _ _ us hl => match us, hl with | [_, _], _ => rfl
theorem bd_rt_accede : BD "rt_accede" "rt_accede" s_rt_accede ["world", "t", "i"] := fun _ _ _ _ _ _ us hl => match us, hl with | [_, _, _], _ => rfl
theorem bd_rt_leave : BD "rt_leave" "rt_leave" s_rt_leave ["world", "t", "i"] := fun _ _ _ _ _ _ us hl => match us, hl with | [_, _, _], _ => rfl
theorem bd_rt_reserve : BD "rt_reserve" "rt_reserve" s_rt_reserve ["world", "t", "i", "a"] := fun _ _ _ _ _ _ us hl => match us, hl with | [_, _, _, _], _ => rfl
theorem bd_rt_unreserve : BD "rt_unreserve" "rt_unreserve" s_rt_unreserve ["world", "t", "i", "a"] := fun _ _ _ _ _ _ us hl => match us, hl with | [_, _, _, _], _ => rfl
theorem bd_rt_object : BD "rt_object" "rt_object" s_rt_object ["world", "t", "j", "i"] := fun _ _ _ _ _ _ us hl => match us, hl with | [_, _, _, _], _ => rfl
theorem bd_rt_accept : BD "rt_accept" "rt_accept" s_rt_accept ["world", "t", "j", "i"] := fun _ _ _ _ _ _ us hl => match us, hl with | [_, _, _, _], _ => rfl
theorem bd_rt_favour : BD "rt_favour" "rt_favour" s_rt_favour ["world", "i", "j"] := fun _ _ _ _ _ _ us hl => match us, hl with | [_, _, _], _ => rfl
theorem bd_rt_unfavour : BD "rt_unfavour" "rt_unfavour" s_rt_unfavour ["world", "i", "j"] := fun _ _ _ _ _ _ us hl => match us, hl with | [_, _, _], _ => rfl
theorem bd_rt_part : BD "rt_part" "rt_part" s_rt_part ["world", "i", "mode"] := fun _ _ _ _ _ _ us hl => match us, hl with | [_, _, _], _ => rfl
theorem bd_rt_members : BD "rt_members" "rt_members" s_rt_members ["world", "t"] := fun _ _ _ _ _ _ us hl => match us, hl with | [_, _], _ => rfl
theorem bd_rt_between : BD "rt_between" "rt_between" s_rt_between ["world", "t", "i", "j"] := fun _ _ _ _ _ _ us hl => match us, hl with | [_, _, _, _], _ => rfl
theorem bd_rt_applies : BD "rt_applies" "rt_applies" s_rt_applies ["world", "t", "i", "j", "a"] := fun _ _ _ _ _ _ us hl => match us, hl with | [_, _, _, _, _], _ => rfl
theorem bd_rt_rule : BD "rt_rule" "rt_rule" s_rt_rule ["world", "i", "j", "s"] := fun _ _ _ _ _ _ us hl => match us, hl with | [_, _, _, _], _ => rfl
theorem bd_rt_takes : BD "rt_takes" "rt_takes" s_rt_takes ["world", "i", "j", "s"] := fun _ _ _ _ _ _ us hl => match us, hl with | [_, _, _, _], _ => rfl
theorem bd_rt_table : BD "rt_table" "rt_table" s_rt_table ["world", "s"] := fun _ _ _ _ _ _ us hl => match us, hl with | [_, _], _ => rfl
theorem bd_rt_told : BD "rt_told" "rt_told" s_rt_told ["world", "t"] := fun _ _ _ _ _ _ us hl => match us, hl with | [_, _], _ => rfl
theorem bd_lacks : BD "lacks" "lacks" s_lacks ["world", "names", "told"] := fun _ _ _ _ _ _ us hl => match us, hl with | [_, _, _], _ => rfl
theorem bd_called : BD "called" "called" s_called ["call", "world", "told"] := fun _ _ _ _ _ _ us hl => match us, hl with | [_, _, _], _ => rfl
theorem bd_R_init : BD "__init__" "Registry.__init__" s_R_init ["self"] := fun _ _ _ _ _ _ us hl => match us, hl with | [_], _ => rfl
theorem bd_R_begin : BD "begin" "Registry.begin" s_R_begin ["self", "n"] := fun _ _ _ _ _ _ us hl => match us, hl with | [_, _], _ => rfl
theorem bd_R_change : BD "change" "Registry.change" s_R_change ["self", "call", "told"] := fun _ _ _ _ _ _ us hl => match us, hl with | [_, _, _], _ => rfl
theorem bd_R_back : BD "back" "Registry.back" s_R_back ["self"] := fun _ _ _ _ _ _ us hl => match us, hl with | [_], _ => rfl
theorem bd_R_again : BD "again" "Registry.again" s_R_again ["self"] := fun _ _ _ _ _ _ us hl => match us, hl with | [_], _ => rfl
theorem bd_R_state : BD "state" "Registry.state" s_R_state ["self"] := fun _ _ _ _ _ _ us hl => match us, hl with | [_], _ => rfl
theorem bd_R_answer : BD "answer" "Registry.answer" s_R_answer ["self", "number", "told"] := fun _ _ _ _ _ _ us hl => match us, hl with | [_, _, _], _ => rfl
theorem bd_answers : BD "answers" "answers" s_answers ["calls"] := fun _ _ _ _ _ _ us hl => match us, hl with | [_], _ => rfl
structure DG (K : PySem.W.Frag) (mg : Str → Option Value) (x qual : Str) (st : Stmt) (f : Addr) (ps : List Str) : Prop where
  d : Dfn K x qual st f ps
  g : mg x = some (.ref f)
structure DM (K : PySem.W.Frag) (C : Addr) (x qual : Str) (st : Stmt) (f : Addr) (ps : List Str) : Prop where
  d : Dfn K x qual st f ps
  m : Meth K C x f
structure CK (K : PySem.W.Frag) (mg : Str → Option Value) (x : Str) (C : Addr) : Prop where
  cl : Cls K C
  g : mg x = some (.ref C)
  mks : PySem.W.makesIn K C = true
  kp : PySem.W.keepIn K (.ref C) = true
section
variable {K : PySem.W.Frag} {mg : Str → Option Value} {h : Heap} {x qual : Str} {st : Stmt} {f C : Addr} {ps : List Str} {oc kV doc pm cdv ct : Value} {od an : Option Addr} {osl : Array (Option Value)}
theorem dg_mk (X : K.In h) (G : h.Ns mainGlobals mg) (b : BD x qual st ps) (a : PySem.W.nsIn K mainGlobals x = some (some (.ref f))) (l : K.lookup f = some ⟨oc, od, .func (PySem.W.fnOf x qual (defArgs st) (defBody st) (defScope st) .none kV doc pm an cdv ct), osl⟩)
    (c : PySem.W.codeIn K cdv qual = true) (k : PySem.W.keepIn K (.ref f) = true) : DG K mg x qual st f ps := ⟨⟨_, fun_mk l c k, (fun_mk l c k).binds b⟩, PySem.W.mg_of X G a⟩
theorem dm_mk (b : BD x qual st ps) (a : PySem.W.findIn K (.ref C) x = some (some (.ref f))) (i : PySem.W.isFn K (.ref f) = true) (l : K.lookup f = some ⟨oc, od, .func (PySem.W.fnOf x qual (defArgs st) (defBody st) (defScope st) .none kV doc pm an cdv ct), osl⟩)
    (c : PySem.W.codeIn K cdv qual = true) (k : PySem.W.keepIn K (.ref f) = true) : DM K C x qual st f ps := ⟨⟨_, fun_mk l c k, (fun_mk l c k).binds b⟩, ⟨a, i, k⟩⟩
theorem ck_mk (X : K.In h) (G : h.Ns mainGlobals mg) (a : PySem.W.nsIn K mainGlobals x = some (some (.ref C))) (pg : PySem.W.plainGet K C Str.empty = true) (hd : PySem.W.hasDictIn K C = true) (po : PySem.W.plainOver K C = true) (sa : PySem.W.findIn K (.ref C) "__setattr__" = some (some (.builtin "object.__setattr__")))
    (mk : PySem.W.makesIn K C = true) (kc : PySem.W.keepIn K (.ref C) = true) : CK K mg x C := ⟨⟨pg, hd, po, sa⟩, PySem.W.mg_of X G a, mk, kc⟩
theorem kt_mk {a : Addr} {xs : List V} {its : Array Value} {n : Nat} (l : K.lookup a = some ⟨.type "tuple", od, .seq its n, osl⟩) (z : its.size ≤ 100) (v : Vals xs its.toList) : KT K a xs := ⟨_, its, n, l, rfl, rfl, Nat.le_trans z (by decide), v⟩
theorem cst_mk {v : Int} {t : Tok} (X : K.In h) (G : h.Ns mainGlobals mg) (a : PySem.W.nsIn K mainGlobals x = some (some (.int v t))) : ∃ t, mg x = some (.int v t) := ⟨t, PySem.W.mg_of X G a⟩
def DE (e : DictEntry) (kv : Key × V) : Prop := ∃ (i : Int) (f : Addr) (t : Tok), kv = (Sum.inl i, V.ref f) ∧ e = ⟨hashInt i, .int i t, .ref f⟩
theorem kd_all {P : Program} {w : World} : ∀ {es : List DictEntry} {kvs : List (Key × V)}, Paired DE es kvs → ∃ vs, KV kvs vs ∧ Pairs (mixKind P w) es vs ∧ vs.map (·.1) = kvs.map (·.1) ∧ ∀ e ∈ es, ∃ k, (mixKind P w).is k e.key = true ∧ e.hash = (mixKind P w).hash k
  | _, _, .nil => ⟨[], .nil, .nil, rfl, fun e he => by cases he⟩
  | _, _, .cons ⟨i, f, t, e1, e2⟩ r => by
    obtain ⟨vs, h1, h2, h3, h4⟩ := kd_all (P := P) (w := w) r
    subst e1 e2
    have hi : (mixKind P w).is (Sum.inl i) (Value.int i t) = true := by
      show Value.isInt i (Value.int i t) = true
      simp [Value.isInt]
    refine ⟨(Sum.inl i, Value.ref f) :: vs, .cons ⟨rfl, rfl⟩ h1, .cons hi rfl h2, by rw [List.map_cons, List.map_cons, h3], fun e he => ?_⟩
    rcases List.mem_cons.mp he with q | q
    · rw [q]; exact ⟨Sum.inl i, hi, rfl⟩
    · exact h4 e q
theorem kd_mk {P : Program} {w : World} {a : Addr} {es : Array DictEntry} {n : Nat} {kvs : List (Key × V)} (l : K.lookup a = some ⟨.type "dict", none, .dict es n, #[]⟩) (s : (a == sysModules) = false) (nd : (kvs.map (·.1)).Nodup) (v : Paired DE es.toList kvs) : KD P w K a kvs := by
  refine ⟨s, fun h X => ?_⟩
  obtain ⟨vs, h1, h2, h3, h4⟩ := kd_all (P := P) (w := w) v
  exact ⟨vs, h1, _, es, n, X _ _ l, ⟨rfl, rfl, rfl⟩, rfl, fun e he => h4 e (Array.mem_def.mp he), h2, by rw [h3]; exact nd⟩
end
theorem all_mk {P : Program} {w : World} {K : PySem.W.Frag} {mg : Str → Option Value} {cT cW cR bits pars qs cs f0 f1 f2 f3 f4 f5 f6 f7 f8 f9 f10 f11 f12 f13 f14 f15 f16 f17 f18 f19 f20 f21 f22 f23 f24 f25 f26 f27 f28 f29 f30 f31 f32 f33 f34 f35 f36 f37 f38 f39 f40 f41 f42 f43 f44 f45 f46 f47 f48 f49 f50 f51 f52 f53 f54 f55 f56 f57 f58 f59 f60 f61 f62 f63 f64 y0 y1 y2 y3 y4 y5 y6 y7 y8 y9 y10 y11 y12 y13 y14 y15 y16 y17 y18 y19 y20 y21 y22 y23 y24 y25 y26 y27 : Addr}
    (kT : CK K mg "Treaty" cT)
    (kW : CK K mg "World" cW)
    (kR : CK K mg "Registry" cR)
    (d0 : DG K mg "size" "size" s_size f0 ["together"])
    (d1 : DM K cT "__init__" "Treaty.__init__" s_T_init f1 ["self", "need"])
    (d2 : DM K cT "copied" "Treaty.copied" s_T_copied f2 ["self"])
    (d3 : DM K cT "concluded" "Treaty.concluded" s_T_concluded f3 ["self"])
    (d4 : DM K cT "offered" "Treaty.offered" s_T_offered f4 ["self"])
    (d5 : DM K cT "holds" "Treaty.holds" s_T_holds f5 ["self", "i", "together", "free"])
    (d6 : DM K cT "holding" "Treaty.holding" s_T_holding f6 ["self", "together", "free"])
    (d7 : DM K cT "joiners" "Treaty.joiners" s_T_joiners f7 ["self", "free"])
    (d8 : DM K cT "enough_join" "Treaty.enough_join" s_T_enough_join f8 ["self", "free"])
    (d9 : DM K cT "first" "Treaty.first" s_T_first f9 ["self"])
    (d10 : DM K cT "is_member" "Treaty.is_member" s_T_is_member f10 ["self", "i"])
    (d11 : DM K cT "has_reserved" "Treaty.has_reserved" s_T_has_reserved f11 ["self", "i", "a"])
    (d12 : DM K cT "objects" "Treaty.objects" s_T_objects f12 ["self", "j", "i"])
    (d13 : DM K cT "objections" "Treaty.objections" s_T_objections f13 ["self"])
    (d14 : DM K cT "drop_objections_to" "Treaty.drop_objections_to" s_T_drop_objections_to f14 ["self", "i"])
    (d15 : DM K cT "leave" "Treaty.leave" s_T_leave f15 ["self", "i"])
    (d16 : DM K cT "unreserve" "Treaty.unreserve" s_T_unreserve f16 ["self", "i", "a"])
    (d17 : DM K cT "take_after" "Treaty.take_after" s_T_take_after f17 ["self", "new", "i"])
    (d18 : DM K cT "between" "Treaty.between" s_T_between f18 ["self", "i", "j"])
    (d19 : DM K cT "applies" "Treaty.applies" s_T_applies f19 ["self", "i", "j", "a"])
    (d20 : DM K cT "last_applying" "Treaty.last_applying" s_T_last_applying f20 ["self", "i", "j", "s"])
    (d21 : DM K cW "__init__" "World.__init__" s_W_init f21 ["self", "states"])
    (d22 : DM K cW "copied" "World.copied" s_W_copied f22 ["self"])
    (d23 : DM K cW "turns" "World.turns" s_W_turns f23 ["self"])
    (d24 : DM K cW "favours" "World.favours" s_W_favours f24 ["self", "i", "j"])
    (d25 : DM K cW "all_favours" "World.all_favours" s_W_all_favours f25 ["self"])
    (d26 : DM K cW "part" "World.part" s_W_part f26 ["self", "i", "with_treaties"])
    (d27 : DM K cW "ahead" "World.ahead" s_W_ahead f27 ["self", "i", "j", "s"])
    (d28 : DM K cW "amount" "World.amount" s_W_amount f28 ["self", "t", "a"])
    (d29 : DM K cW "allowed" "World.allowed" s_W_allowed f29 ["self", "i", "j", "s"])
    (d30 : DM K cW "takes" "World.takes" s_W_takes f30 ["self", "i", "j", "s"])
    (d31 : DG K mg "rt_treaty" "rt_treaty" s_rt_treaty f31 ["world", "need"])
    (d32 : DG K mg "rt_article" "rt_article" s_rt_article f32 ["world", "t", "s", "x"])
    (d33 : DG K mg "rt_offer" "rt_offer" s_rt_offer f33 ["world", "t", "i", "need", "named"])
    (d34 : DG K mg "rt_unoffer" "rt_unoffer" s_rt_unoffer f34 ["world", "t", "i"])
    (d35 : DG K mg "rt_joiners" "rt_joiners" s_rt_joiners f35 ["world", "t"])
    (d36 : DG K mg "rt_waits" "rt_waits" s_rt_waits f36 ["world", "t"])
    (d37 : DG K mg "rt_first" "rt_first" s_rt_first f37 ["world", "t"])
    (d38 : DG K mg "rt_conclude" "rt_conclude" s_rt_conclude f38 ["world", "t"])
    (d39 : DG K mg "rt_accede" "rt_accede" s_rt_accede f39 ["world", "t", "i"])
    (d40 : DG K mg "rt_leave" "rt_leave" s_rt_leave f40 ["world", "t", "i"])
    (d41 : DG K mg "rt_reserve" "rt_reserve" s_rt_reserve f41 ["world", "t", "i", "a"])
    (d42 : DG K mg "rt_unreserve" "rt_unreserve" s_rt_unreserve f42 ["world", "t", "i", "a"])
    (d43 : DG K mg "rt_object" "rt_object" s_rt_object f43 ["world", "t", "j", "i"])
    (d44 : DG K mg "rt_accept" "rt_accept" s_rt_accept f44 ["world", "t", "j", "i"])
    (d45 : DG K mg "rt_favour" "rt_favour" s_rt_favour f45 ["world", "i", "j"])
    (d46 : DG K mg "rt_unfavour" "rt_unfavour" s_rt_unfavour f46 ["world", "i", "j"])
    (d47 : DG K mg "rt_part" "rt_part" s_rt_part f47 ["world", "i", "mode"])
    (d48 : DG K mg "rt_members" "rt_members" s_rt_members f48 ["world", "t"])
    (d49 : DG K mg "rt_between" "rt_between" s_rt_between f49 ["world", "t", "i", "j"])
    (d50 : DG K mg "rt_applies" "rt_applies" s_rt_applies f50 ["world", "t", "i", "j", "a"])
    (d51 : DG K mg "rt_rule" "rt_rule" s_rt_rule f51 ["world", "i", "j", "s"])
    (d52 : DG K mg "rt_takes" "rt_takes" s_rt_takes f52 ["world", "i", "j", "s"])
    (d53 : DG K mg "rt_table" "rt_table" s_rt_table f53 ["world", "s"])
    (d54 : DG K mg "rt_told" "rt_told" s_rt_told f54 ["world", "t"])
    (d55 : DG K mg "lacks" "lacks" s_lacks f55 ["world", "names", "told"])
    (d56 : DG K mg "called" "called" s_called f56 ["call", "world", "told"])
    (d57 : DM K cR "__init__" "Registry.__init__" s_R_init f57 ["self"])
    (d58 : DM K cR "begin" "Registry.begin" s_R_begin f58 ["self", "n"])
    (d59 : DM K cR "change" "Registry.change" s_R_change f59 ["self", "call", "told"])
    (d60 : DM K cR "back" "Registry.back" s_R_back f60 ["self"])
    (d61 : DM K cR "again" "Registry.again" s_R_again f61 ["self"])
    (d62 : DM K cR "state" "Registry.state" s_R_state f62 ["self"])
    (d63 : DM K cR "answer" "Registry.answer" s_R_answer f63 ["self", "number", "told"])
    (d64 : DG K mg "answers" "answers" s_answers f64 ["calls"])
    (nT_need : NoAttr K cT "need")
    (nT_articles : NoAttr K cT "articles")
    (nT_offers : NoAttr K cT "offers")
    (nT_turn : NoAttr K cT "turn")
    (nT_members : NoAttr K cT "members")
    (nT_reserved : NoAttr K cT "reserved")
    (nT_objected : NoAttr K cT "objected")
    (nW_states : NoAttr K cW "states")
    (nW_treaties : NoAttr K cW "treaties")
    (nW_favoured : NoAttr K cW "favoured")
    (nR_world : NoAttr K cR "world")
    (nR_past : NoAttr K cR "past")
    (nR_undone : NoAttr K cR "undone")
    (g_MOST_STATES : ∃ t, mg "MOST_STATES" = some (.int (6) t))
    (g_MOST_TAKEN : ∃ t, mg "MOST_TAKEN" = some (.int (100) t))
    (g_NOT_THERE : ∃ t, mg "NOT_THERE" = some (.int (-2) t))
    (g_NOT_SO : ∃ t, mg "NOT_SO" = some (.int (-6) t))
    (g_CONCLUDED : ∃ t, mg "CONCLUDED" = some (.int (-16) t))
    (g_ALREADY_SO : ∃ t, mg "ALREADY_SO" = some (.int (-17) t))
    (g_WRONG : ∃ t, mg "WRONG" = some (.int (-22) t))
    (g_FULL : ∃ t, mg "FULL" = some (.int (-28) t))
    (g_TOO_LITTLE : ∃ t, mg "TOO_LITTLE" = some (.int (-33) t))
    (g_MOST_TREATIES : ∃ t, mg "MOST_TREATIES" = some (.int (4) t))
    (g_MOST_ARTICLES : ∃ t, mg "MOST_ARTICLES" = some (.int (4) t))
    (g_SUBJECTS : ∃ t, mg "SUBJECTS" = some (.int (4) t))
    (g_MOST_BACK : ∃ t, mg "MOST_BACK" = some (.int (20) t))
    (g_START : ∃ t, mg "START" = some (.int (0) t))
    (g_BACK : ∃ t, mg "BACK" = some (.int (25) t))
    (g_AGAIN : ∃ t, mg "AGAIN" = some (.int (26) t))
    (g_STATE : ∃ t, mg "STATE" = some (.int (27) t))
    (g_BITS : mg "BITS" = some (.ref bits))
    (g_PARAMETERS : mg "PARAMETERS" = some (.ref pars))
    (g_QUESTIONS : mg "QUESTIONS" = some (.ref qs))
    (g_CHANGES : mg "CHANGES" = some (.ref cs))
    (b_len : mg "len" = none)
    (b_sum : mg "sum" = none)
    (b_min : mg "min" = none)
    (b_list : mg "list" = none)
    (b_range : mg "range" = none)
    (b_enumerate : mg "enumerate" = none)
    (b_zip : mg "zip" = none)
    (hbits : KT K bits bitsV)
    (hpars : KT K pars [V.ref y0, V.ref y1, V.ref y2, V.ref y3, V.ref y4, V.ref y5, V.ref y6, V.ref y7, V.ref y8, V.ref y9, V.ref y10, V.ref y11, V.ref y12, V.ref y13, V.ref y14, V.ref y15, V.ref y16, V.ref y17, V.ref y18, V.ref y19, V.ref y20, V.ref y21, V.ref y22, V.ref y23, V.ref y24, V.ref y25, V.ref y26, V.ref y27])
    (p0 : KT K y0 [V.str "n"])
    (p1 : KT K y1 [V.str "need"])
    (p2 : KT K y2 [V.str "t", V.str "s", V.str "x"])
    (p3 : KT K y3 [V.str "t", V.str "i", V.str "need", V.str "named"])
    (p4 : KT K y4 [V.str "t", V.str "i"])
    (p5 : KT K y5 [V.str "t"])
    (p6 : KT K y6 [V.str "t"])
    (p7 : KT K y7 [V.str "t"])
    (p8 : KT K y8 [V.str "t"])
    (p9 : KT K y9 [V.str "t", V.str "i"])
    (p10 : KT K y10 [V.str "t", V.str "i"])
    (p11 : KT K y11 [V.str "t", V.str "i", V.str "a"])
    (p12 : KT K y12 [V.str "t", V.str "i", V.str "a"])
    (p13 : KT K y13 [V.str "t", V.str "j", V.str "i"])
    (p14 : KT K y14 [V.str "t", V.str "j", V.str "i"])
    (p15 : KT K y15 [V.str "i", V.str "j"])
    (p16 : KT K y16 [V.str "i", V.str "j"])
    (p17 : KT K y17 [V.str "i", V.str "mode"])
    (p18 : KT K y18 [V.str "t"])
    (p19 : KT K y19 [V.str "t", V.str "i", V.str "j"])
    (p20 : KT K y20 [V.str "t", V.str "i", V.str "j", V.str "a"])
    (p21 : KT K y21 [V.str "i", V.str "j", V.str "s"])
    (p22 : KT K y22 [V.str "i", V.str "j", V.str "s"])
    (p23 : KT K y23 [V.str "s"])
    (p24 : KT K y24 [V.str "t"])
    (p25 : KT K y25 [])
    (p26 : KT K y26 [])
    (p27 : KT K y27 [])
    (hqs : KD P w K qs [(Sum.inl 5, .ref f35), (Sum.inl 6, .ref f36), (Sum.inl 7, .ref f37), (Sum.inl 18, .ref f48), (Sum.inl 19, .ref f49), (Sum.inl 20, .ref f50), (Sum.inl 21, .ref f51), (Sum.inl 22, .ref f52), (Sum.inl 23, .ref f53), (Sum.inl 24, .ref f54)])
    (hcs : KD P w K cs [(Sum.inl 1, .ref f31), (Sum.inl 2, .ref f32), (Sum.inl 3, .ref f33), (Sum.inl 4, .ref f34), (Sum.inl 8, .ref f38), (Sum.inl 9, .ref f39), (Sum.inl 10, .ref f40), (Sum.inl 11, .ref f41), (Sum.inl 12, .ref f42), (Sum.inl 13, .ref f43), (Sum.inl 14, .ref f44), (Sum.inl 15, .ref f45), (Sum.inl 16, .ref f46), (Sum.inl 17, .ref f47)])
    : Ty P w K mg ⟨cT, cW, cR, bits, pars, qs, cs, fun k => [f0, f1, f2, f3, f4, f5, f6, f7, f8, f9, f10, f11, f12, f13, f14, f15, f16, f17, f18, f19, f20, f21, f22, f23, f24, f25, f26, f27, f28, f29, f30, f31, f32, f33, f34, f35, f36, f37, f38, f39, f40, f41, f42, f43, f44, f45, f46, f47, f48, f49, f50, f51, f52, f53, f54, f55, f56, f57, f58, f59, f60, f61, f62, f63, f64].getD k 0⟩ (fun k => [y0, y1, y2, y3, y4, y5, y6, y7, y8, y9, y10, y11, y12, y13, y14, y15, y16, y17, y18, y19, y20, y21, y22, y23, y24, y25, y26, y27].getD k 0) := by
  refine ⟨?_, g_QUESTIONS, g_CHANGES, hqs, hcs, hpars, ?_⟩
  · exact {
    clT := kT.cl
    g_Treaty := kT.g
    mkT := ⟨kT.mks, d1.m.at_, d1.m.fn, kT.kp⟩
    nT_need := nT_need
    nT_articles := nT_articles
    nT_offers := nT_offers
    nT_turn := nT_turn
    nT_members := nT_members
    nT_reserved := nT_reserved
    nT_objected := nT_objected
    clW := kW.cl
    g_World := kW.g
    mkW := ⟨kW.mks, d21.m.at_, d21.m.fn, kW.kp⟩
    nW_states := nW_states
    nW_treaties := nW_treaties
    nW_favoured := nW_favoured
    clR := kR.cl
    g_Registry := kR.g
    mkR := ⟨kR.mks, d57.m.at_, d57.m.fn, kR.kp⟩
    nR_world := nR_world
    nR_past := nR_past
    nR_undone := nR_undone
    g_MOST_STATES := g_MOST_STATES
    g_MOST_TAKEN := g_MOST_TAKEN
    g_NOT_THERE := g_NOT_THERE
    g_NOT_SO := g_NOT_SO
    g_CONCLUDED := g_CONCLUDED
    g_ALREADY_SO := g_ALREADY_SO
    g_WRONG := g_WRONG
    g_FULL := g_FULL
    g_TOO_LITTLE := g_TOO_LITTLE
    g_MOST_TREATIES := g_MOST_TREATIES
    g_MOST_ARTICLES := g_MOST_ARTICLES
    g_SUBJECTS := g_SUBJECTS
    g_MOST_BACK := g_MOST_BACK
    g_START := g_START
    g_BACK := g_BACK
    g_AGAIN := g_AGAIN
    g_STATE := g_STATE
    g_BITS := g_BITS
    bits := hbits
    g_PARAMETERS := g_PARAMETERS
    b_len := b_len
    b_sum := b_sum
    b_min := b_min
    b_list := b_list
    b_range := b_range
    b_enumerate := b_enumerate
    b_zip := b_zip
    d_size := d0.d
    g_size := d0.g
    d_T_init := d1.d
    d_T_copied := d2.d
    m_T_copied := d2.m
    d_T_concluded := d3.d
    m_T_concluded := d3.m
    d_T_offered := d4.d
    m_T_offered := d4.m
    d_T_holds := d5.d
    m_T_holds := d5.m
    d_T_holding := d6.d
    m_T_holding := d6.m
    d_T_joiners := d7.d
    m_T_joiners := d7.m
    d_T_enough_join := d8.d
    m_T_enough_join := d8.m
    d_T_first := d9.d
    m_T_first := d9.m
    d_T_is_member := d10.d
    m_T_is_member := d10.m
    d_T_has_reserved := d11.d
    m_T_has_reserved := d11.m
    d_T_objects := d12.d
    m_T_objects := d12.m
    d_T_objections := d13.d
    m_T_objections := d13.m
    d_T_drop_objections_to := d14.d
    m_T_drop_objections_to := d14.m
    d_T_leave := d15.d
    m_T_leave := d15.m
    d_T_unreserve := d16.d
    m_T_unreserve := d16.m
    d_T_take_after := d17.d
    m_T_take_after := d17.m
    d_T_between := d18.d
    m_T_between := d18.m
    d_T_applies := d19.d
    m_T_applies := d19.m
    d_T_last_applying := d20.d
    m_T_last_applying := d20.m
    d_W_init := d21.d
    d_W_copied := d22.d
    m_W_copied := d22.m
    d_W_turns := d23.d
    m_W_turns := d23.m
    d_W_favours := d24.d
    m_W_favours := d24.m
    d_W_all_favours := d25.d
    m_W_all_favours := d25.m
    d_W_part := d26.d
    m_W_part := d26.m
    d_W_ahead := d27.d
    m_W_ahead := d27.m
    d_W_amount := d28.d
    m_W_amount := d28.m
    d_W_allowed := d29.d
    m_W_allowed := d29.m
    d_W_takes := d30.d
    m_W_takes := d30.m
    d_rt_treaty := d31.d
    g_rt_treaty := d31.g
    d_rt_article := d32.d
    g_rt_article := d32.g
    d_rt_offer := d33.d
    g_rt_offer := d33.g
    d_rt_unoffer := d34.d
    g_rt_unoffer := d34.g
    d_rt_joiners := d35.d
    g_rt_joiners := d35.g
    d_rt_waits := d36.d
    g_rt_waits := d36.g
    d_rt_first := d37.d
    g_rt_first := d37.g
    d_rt_conclude := d38.d
    g_rt_conclude := d38.g
    d_rt_accede := d39.d
    g_rt_accede := d39.g
    d_rt_leave := d40.d
    g_rt_leave := d40.g
    d_rt_reserve := d41.d
    g_rt_reserve := d41.g
    d_rt_unreserve := d42.d
    g_rt_unreserve := d42.g
    d_rt_object := d43.d
    g_rt_object := d43.g
    d_rt_accept := d44.d
    g_rt_accept := d44.g
    d_rt_favour := d45.d
    g_rt_favour := d45.g
    d_rt_unfavour := d46.d
    g_rt_unfavour := d46.g
    d_rt_part := d47.d
    g_rt_part := d47.g
    d_rt_members := d48.d
    g_rt_members := d48.g
    d_rt_between := d49.d
    g_rt_between := d49.g
    d_rt_applies := d50.d
    g_rt_applies := d50.g
    d_rt_rule := d51.d
    g_rt_rule := d51.g
    d_rt_takes := d52.d
    g_rt_takes := d52.g
    d_rt_table := d53.d
    g_rt_table := d53.g
    d_rt_told := d54.d
    g_rt_told := d54.g
    d_lacks := d55.d
    g_lacks := d55.g
    d_called := d56.d
    g_called := d56.g
    d_R_init := d57.d
    d_R_begin := d58.d
    m_R_begin := d58.m
    d_R_change := d59.d
    m_R_change := d59.m
    d_R_back := d60.d
    m_R_back := d60.m
    d_R_again := d61.d
    m_R_again := d61.m
    d_R_state := d62.d
    m_R_state := d62.m
    d_R_answer := d63.d
    m_R_answer := d63.m
    d_answers := d64.d
    g_answers := d64.g
  }
  · intro k hk
    match k, hk with
    | 0, _ => exact p0
    | 1, _ => exact p1
    | 2, _ => exact p2
    | 3, _ => exact p3
    | 4, _ => exact p4
    | 5, _ => exact p5
    | 6, _ => exact p6
    | 7, _ => exact p7
    | 8, _ => exact p8
    | 9, _ => exact p9
    | 10, _ => exact p10
    | 11, _ => exact p11
    | 12, _ => exact p12
    | 13, _ => exact p13
    | 14, _ => exact p14
    | 15, _ => exact p15
    | 16, _ => exact p16
    | 17, _ => exact p17
    | 18, _ => exact p18
    | 19, _ => exact p19
    | 20, _ => exact p20
    | 21, _ => exact p21
    | 22, _ => exact p22
    | 23, _ => exact p23
    | 24, _ => exact p24
    | 25, _ => exact p25
    | 26, _ => exact p26
    | 27, _ => exact p27
    | n + 28, h => exact absurd h (by omega)
theorem fin_ {P : Program} {w : World} {K : PySem.W.Frag} {mg : Str → Option Value} {Z : Adr} {Y : Nat → Addr} {fa : Addr} (U : Ty P w K mg Z Y) (hfa : mg "answers" = some (.ref fa)) :
    ∃ fd : FuncData, (∀ (s : Shared) (us : List Value), us.length = (["calls"] : List Str).length → BindsTo s fd ⟨us, []⟩ ((["calls"] : List Str).zip us)) ∧ ∀ base : Heap, K.In base → base.Ns mainGlobals mg → FnOk P w K mg base CX0 12 fa fd ["calls"] (spAnswers K) := by
  obtain ⟨fd, F, _⟩ := U.tx.d_answers
  have e := hfa.symm.trans U.tx.g_answers
  injection e with e
  injection e with e
  subst e
  refine ⟨fd, fun s us hu => ?_, fun base _ _ => ok_answers U F⟩
  obtain ⟨oc, od, kV, doc, pm, an, cdv, ct, osl, rfl, lk, hcd⟩ := F.ex
  exact .of_eq (bd_answers _ _ _ _ _ _ us hu)
theorem nv_ints : ∀ l : List Nat, (Mi.intsF l).map V.int = nv l
  | [] => rfl
  | a :: l => by
    show V.int (a : Int) :: (Mi.intsF l).map V.int = V.int (a : Int) :: nv l
    rw [nv_ints l]
theorem ask {K : PySem.W.Frag} {H : Hp} {p : Addr} {l : List Int} (hO : OnlyF H) (ha : PyKm485.answers_asked l = true) (hs : SqL K H p (l.map V.int)) : spAnswers K [.ref p] H (fun v H' => Dw K H' v (.list ((PyKm485.answers l).map PySem.W.WData.int))) fun _ _ _ => False := by
  obtain ⟨xs, _, hx, ok, e, ea, _⟩ := Mi.flat ha
  rw [ea]
  refine ⟨p, xs, rfl, hO, fun H1 s => ?_, ok, hx, fun H' q hq => .lst (SqL.of hq) (dw_ints _)⟩
  rw [← nv_ints, ← e]
  exact s.seq hs
end Rg
def PySem.W.Fast.tw5376809305353207137 : Unit := ()
def PySem.W.Fast.tw6869477307766524700 : Unit := ()
def PySem.W.Fast.tw10337896804366873747 : Unit := ()
def PySem.W.Fast.tw2905394819969306340 : Unit := ()
def PySem.W.Fast.tw2246416599700415434 : Unit := ()
def PySem.W.Fast.tw2028074101181131925 : Unit := ()
def PySem.W.Fast.tw6256218728311088779 : Unit := ()
def PySem.W.Fast.tw18376307129803048009 : Unit := ()
def PySem.W.Fast.tw481105511612466719 : Unit := ()
def PySem.W.Fast.tw2691830456597706517 : Unit := ()
def PySem.W.Fast.tw11670475168474961824 : Unit := ()
def PySem.W.Fast.tw14442000708814227951 : Unit := ()
def PySem.W.Fast.tw5630259410755298725 : Unit := ()
def PySem.W.Fast.tw8759876230384246462 : Unit := ()
def PySem.W.Fast.tw1640839482127491966 : Unit := ()
def PySem.W.Fast.tw4617289219184845303 : Unit := ()
def PySem.W.Fast.tw6369568572570512094 : Unit := ()
def PySem.W.Fast.tw17970074918624902461 : Unit := ()
def PySem.W.Fast.tw8407250130225245782 : Unit := ()
open PySem PySem.W PyProof.Rows
open Rg in
set_option maxRecDepth 100000 in
set_option maxHeartbeats 0 in
theorem PySem.Challenge.cw_treatyregistry_s01_answers_holds : PySem.Challenge.rw_treatyregistry_s01_answers.Holds := by
  w_on; k_headS; (case hw => exact ⟨[.list [.int 0, .int 2]], by decide +kernel, by decide +kernel⟩)
  k_fillS
  refine L2.walk_specK (r := PySem.Challenge.rw_treatyregistry_s01_answers) (k := 12) (CX := L2.CX0) (ps := ["calls"]) (sp := Rg.spAnswers) (by decide +kernel) rfl rfl ⟨rfl, by decide, by decide⟩ (fun w h Y => PySem.W.kIn_of Y) ?F ?S (fun _ _ _ _ z => z)
  case F =>
    intro w mg fa h Y KX G hmg
    have hfa : mg "answers" = some (.ref fa) := hmg
    clear hmg Y
    refine' fin_ (all_mk ?kT ?kW ?kR ?d0 ?d1 ?d2 ?d3 ?d4 ?d5 ?d6 ?d7 ?d8 ?d9 ?d10 ?d11 ?d12 ?d13 ?d14 ?d15 ?d16 ?d17 ?d18 ?d19 ?d20 ?d21 ?d22 ?d23 ?d24 ?d25 ?d26 ?d27 ?d28 ?d29 ?d30 ?d31 ?d32 ?d33 ?d34 ?d35 ?d36 ?d37 ?d38 ?d39 ?d40 ?d41 ?d42 ?d43 ?d44 ?d45 ?d46 ?d47 ?d48 ?d49 ?d50 ?d51 ?d52 ?d53 ?d54 ?d55 ?d56 ?d57 ?d58 ?d59 ?d60 ?d61 ?d62 ?d63 ?d64 ?nT_need ?nT_articles ?nT_offers ?nT_turn ?nT_members ?nT_reserved ?nT_objected ?nW_states ?nW_treaties ?nW_favoured ?nR_world ?nR_past ?nR_undone ?g_MOST_STATES ?g_MOST_TAKEN ?g_NOT_THERE ?g_NOT_SO ?g_CONCLUDED ?g_ALREADY_SO ?g_WRONG ?g_FULL ?g_TOO_LITTLE ?g_MOST_TREATIES ?g_MOST_ARTICLES ?g_SUBJECTS ?g_MOST_BACK ?g_START ?g_BACK ?g_AGAIN ?g_STATE ?g_BITS ?g_PARAMETERS ?g_QUESTIONS ?g_CHANGES ?b_len ?b_sum ?b_min ?b_list ?b_range ?b_enumerate ?b_zip ?hbits ?hpars ?p0 ?p1 ?p2 ?p3 ?p4 ?p5 ?p6 ?p7 ?p8 ?p9 ?p10 ?p11 ?p12 ?p13 ?p14 ?p15 ?p16 ?p17 ?p18 ?p19 ?p20 ?p21 ?p22 ?p23 ?p24 ?p25 ?p26 ?p27 ?hqs ?hcs) hfa
    case kT =>
      refine' ck_mk KX G ?a ?b ?c ?d ?e ?f ?g
      case a => k_is
      case b => k_is
      case c => k_is
      case d => k_is
      case e => k_is
      case f => k_is
      case g => k_is
    case kW =>
      refine' ck_mk KX G ?a ?b ?c ?d ?e ?f ?g
      case a => k_is
      case b => k_is
      case c => k_is
      case d => k_is
      case e => k_is
      case f => k_is
      case g => k_is
    case kR =>
      refine' ck_mk KX G ?a ?b ?c ?d ?e ?f ?g
      case a => k_is
      case b => k_is
      case c => k_is
      case d => k_is
      case e => k_is
      case f => k_is
      case g => k_is
    case d0 =>
      refine' dg_mk KX G bd_size ?a ?l ?c ?k
      case a => k_is
      case l => k_is
      case c => k_is
      case k => k_is
    case d1 =>
      refine' dm_mk bd_T_init ?a ?i ?l ?c ?k
      case a => k_is
      case i => k_is
      case l => k_is
      case c => k_is
      case k => k_is
    case d2 =>
      refine' dm_mk bd_T_copied ?a ?i ?l ?c ?k
      case a => k_is
      case i => k_is
      case l => k_is
      case c => k_is
      case k => k_is
    case d3 =>
      refine' dm_mk bd_T_concluded ?a ?i ?l ?c ?k
      case a => k_is
      case i => k_is
      case l => k_is
      case c => k_is
      case k => k_is
    case d4 =>
      refine' dm_mk bd_T_offered ?a ?i ?l ?c ?k
      case a => k_is
      case i => k_is
      case l => k_is
      case c => k_is
      case k => k_is
    case d5 =>
      refine' dm_mk bd_T_holds ?a ?i ?l ?c ?k
      case a => k_is
      case i => k_is
      case l => k_is
      case c => k_is
      case k => k_is
    case d6 =>
      refine' dm_mk bd_T_holding ?a ?i ?l ?c ?k
      case a => k_is
      case i => k_is
      case l => k_is
      case c => k_is
      case k => k_is
    case d7 =>
      refine' dm_mk bd_T_joiners ?a ?i ?l ?c ?k
      case a => k_is
      case i => k_is
      case l => k_is
      case c => k_is
      case k => k_is
    case d8 =>
      refine' dm_mk bd_T_enough_join ?a ?i ?l ?c ?k
      case a => k_is
      case i => k_is
      case l => k_is
      case c => k_is
      case k => k_is
    case d9 =>
      refine' dm_mk bd_T_first ?a ?i ?l ?c ?k
      case a => k_is
      case i => k_is
      case l => k_is
      case c => k_is
      case k => k_is
    case d10 =>
      refine' dm_mk bd_T_is_member ?a ?i ?l ?c ?k
      case a => k_is
      case i => k_is
      case l => k_is
      case c => k_is
      case k => k_is
    case d11 =>
      refine' dm_mk bd_T_has_reserved ?a ?i ?l ?c ?k
      case a => k_is
      case i => k_is
      case l => k_is
      case c => k_is
      case k => k_is
    case d12 =>
      refine' dm_mk bd_T_objects ?a ?i ?l ?c ?k
      case a => k_is
      case i => k_is
      case l => k_is
      case c => k_is
      case k => k_is
    case d13 =>
      refine' dm_mk bd_T_objections ?a ?i ?l ?c ?k
      case a => k_is
      case i => k_is
      case l => k_is
      case c => k_is
      case k => k_is
    case d14 =>
      refine' dm_mk bd_T_drop_objections_to ?a ?i ?l ?c ?k
      case a => k_is
      case i => k_is
      case l => k_is
      case c => k_is
      case k => k_is
    case d15 =>
      refine' dm_mk bd_T_leave ?a ?i ?l ?c ?k
      case a => k_is
      case i => k_is
      case l => k_is
      case c => k_is
      case k => k_is
    case d16 =>
      refine' dm_mk bd_T_unreserve ?a ?i ?l ?c ?k
      case a => k_is
      case i => k_is
      case l => k_is
      case c => k_is
      case k => k_is
    case d17 =>
      refine' dm_mk bd_T_take_after ?a ?i ?l ?c ?k
      case a => k_is
      case i => k_is
      case l => k_is
      case c => k_is
      case k => k_is
    case d18 =>
      refine' dm_mk bd_T_between ?a ?i ?l ?c ?k
      case a => k_is
      case i => k_is
      case l => k_is
      case c => k_is
      case k => k_is
    case d19 =>
      refine' dm_mk bd_T_applies ?a ?i ?l ?c ?k
      case a => k_is
      case i => k_is
      case l => k_is
      case c => k_is
      case k => k_is
    case d20 =>
      refine' dm_mk bd_T_last_applying ?a ?i ?l ?c ?k
      case a => k_is
      case i => k_is
      case l => k_is
      case c => k_is
      case k => k_is
    case d21 =>
      refine' dm_mk bd_W_init ?a ?i ?l ?c ?k
      case a => k_is
      case i => k_is
      case l => k_is
      case c => k_is
      case k => k_is
    case d22 =>
      refine' dm_mk bd_W_copied ?a ?i ?l ?c ?k
      case a => k_is
      case i => k_is
      case l => k_is
      case c => k_is
      case k => k_is
    case d23 =>
      refine' dm_mk bd_W_turns ?a ?i ?l ?c ?k
      case a => k_is
      case i => k_is
      case l => k_is
      case c => k_is
      case k => k_is
    case d24 =>
      refine' dm_mk bd_W_favours ?a ?i ?l ?c ?k
      case a => k_is
      case i => k_is
      case l => k_is
      case c => k_is
      case k => k_is
    case d25 =>
      refine' dm_mk bd_W_all_favours ?a ?i ?l ?c ?k
      case a => k_is
      case i => k_is
      case l => k_is
      case c => k_is
      case k => k_is
    case d26 =>
      refine' dm_mk bd_W_part ?a ?i ?l ?c ?k
      case a => k_is
      case i => k_is
      case l => k_is
      case c => k_is
      case k => k_is
    case d27 =>
      refine' dm_mk bd_W_ahead ?a ?i ?l ?c ?k
      case a => k_is
      case i => k_is
      case l => k_is
      case c => k_is
      case k => k_is
    case d28 =>
      refine' dm_mk bd_W_amount ?a ?i ?l ?c ?k
      case a => k_is
      case i => k_is
      case l => k_is
      case c => k_is
      case k => k_is
    case d29 =>
      refine' dm_mk bd_W_allowed ?a ?i ?l ?c ?k
      case a => k_is
      case i => k_is
      case l => k_is
      case c => k_is
      case k => k_is
    case d30 =>
      refine' dm_mk bd_W_takes ?a ?i ?l ?c ?k
      case a => k_is
      case i => k_is
      case l => k_is
      case c => k_is
      case k => k_is
    case d31 =>
      refine' dg_mk KX G bd_rt_treaty ?a ?l ?c ?k
      case a => k_is
      case l => k_is
      case c => k_is
      case k => k_is
    case d32 =>
      refine' dg_mk KX G bd_rt_article ?a ?l ?c ?k
      case a => k_is
      case l => k_is
      case c => k_is
      case k => k_is
    case d33 =>
      refine' dg_mk KX G bd_rt_offer ?a ?l ?c ?k
      case a => k_is
      case l => k_is
      case c => k_is
      case k => k_is
    case d34 =>
      refine' dg_mk KX G bd_rt_unoffer ?a ?l ?c ?k
      case a => k_is
      case l => k_is
      case c => k_is
      case k => k_is
    case d35 =>
      refine' dg_mk KX G bd_rt_joiners ?a ?l ?c ?k
      case a => k_is
      case l => k_is
      case c => k_is
      case k => k_is
    case d36 =>
      refine' dg_mk KX G bd_rt_waits ?a ?l ?c ?k
      case a => k_is
      case l => k_is
      case c => k_is
      case k => k_is
    case d37 =>
      refine' dg_mk KX G bd_rt_first ?a ?l ?c ?k
      case a => k_is
      case l => k_is
      case c => k_is
      case k => k_is
    case d38 =>
      refine' dg_mk KX G bd_rt_conclude ?a ?l ?c ?k
      case a => k_is
      case l => k_is
      case c => k_is
      case k => k_is
    case d39 =>
      refine' dg_mk KX G bd_rt_accede ?a ?l ?c ?k
      case a => k_is
      case l => k_is
      case c => k_is
      case k => k_is
    case d40 =>
      refine' dg_mk KX G bd_rt_leave ?a ?l ?c ?k
      case a => k_is
      case l => k_is
      case c => k_is
      case k => k_is
    case d41 =>
      refine' dg_mk KX G bd_rt_reserve ?a ?l ?c ?k
      case a => k_is
      case l => k_is
      case c => k_is
      case k => k_is
    case d42 =>
      refine' dg_mk KX G bd_rt_unreserve ?a ?l ?c ?k
      case a => k_is
      case l => k_is
      case c => k_is
      case k => k_is
    case d43 =>
      refine' dg_mk KX G bd_rt_object ?a ?l ?c ?k
      case a => k_is
      case l => k_is
      case c => k_is
      case k => k_is
    case d44 =>
      refine' dg_mk KX G bd_rt_accept ?a ?l ?c ?k
      case a => k_is
      case l => k_is
      case c => k_is
      case k => k_is
    case d45 =>
      refine' dg_mk KX G bd_rt_favour ?a ?l ?c ?k
      case a => k_is
      case l => k_is
      case c => k_is
      case k => k_is
    case d46 =>
      refine' dg_mk KX G bd_rt_unfavour ?a ?l ?c ?k
      case a => k_is
      case l => k_is
      case c => k_is
      case k => k_is
    case d47 =>
      refine' dg_mk KX G bd_rt_part ?a ?l ?c ?k
      case a => k_is
      case l => k_is
      case c => k_is
      case k => k_is
    case d48 =>
      refine' dg_mk KX G bd_rt_members ?a ?l ?c ?k
      case a => k_is
      case l => k_is
      case c => k_is
      case k => k_is
    case d49 =>
      refine' dg_mk KX G bd_rt_between ?a ?l ?c ?k
      case a => k_is
      case l => k_is
      case c => k_is
      case k => k_is
    case d50 =>
      refine' dg_mk KX G bd_rt_applies ?a ?l ?c ?k
      case a => k_is
      case l => k_is
      case c => k_is
      case k => k_is
    case d51 =>
      refine' dg_mk KX G bd_rt_rule ?a ?l ?c ?k
      case a => k_is
      case l => k_is
      case c => k_is
      case k => k_is
    case d52 =>
      refine' dg_mk KX G bd_rt_takes ?a ?l ?c ?k
      case a => k_is
      case l => k_is
      case c => k_is
      case k => k_is
    case d53 =>
      refine' dg_mk KX G bd_rt_table ?a ?l ?c ?k
      case a => k_is
      case l => k_is
      case c => k_is
      case k => k_is
    case d54 =>
      refine' dg_mk KX G bd_rt_told ?a ?l ?c ?k
      case a => k_is
      case l => k_is
      case c => k_is
      case k => k_is
    case d55 =>
      refine' dg_mk KX G bd_lacks ?a ?l ?c ?k
      case a => k_is
      case l => k_is
      case c => k_is
      case k => k_is
    case d56 =>
      refine' dg_mk KX G bd_called ?a ?l ?c ?k
      case a => k_is
      case l => k_is
      case c => k_is
      case k => k_is
    case d57 =>
      refine' dm_mk bd_R_init ?a ?i ?l ?c ?k
      case a => k_is
      case i => k_is
      case l => k_is
      case c => k_is
      case k => k_is
    case d58 =>
      refine' dm_mk bd_R_begin ?a ?i ?l ?c ?k
      case a => k_is
      case i => k_is
      case l => k_is
      case c => k_is
      case k => k_is
    case d59 =>
      refine' dm_mk bd_R_change ?a ?i ?l ?c ?k
      case a => k_is
      case i => k_is
      case l => k_is
      case c => k_is
      case k => k_is
    case d60 =>
      refine' dm_mk bd_R_back ?a ?i ?l ?c ?k
      case a => k_is
      case i => k_is
      case l => k_is
      case c => k_is
      case k => k_is
    case d61 =>
      refine' dm_mk bd_R_again ?a ?i ?l ?c ?k
      case a => k_is
      case i => k_is
      case l => k_is
      case c => k_is
      case k => k_is
    case d62 =>
      refine' dm_mk bd_R_state ?a ?i ?l ?c ?k
      case a => k_is
      case i => k_is
      case l => k_is
      case c => k_is
      case k => k_is
    case d63 =>
      refine' dm_mk bd_R_answer ?a ?i ?l ?c ?k
      case a => k_is
      case i => k_is
      case l => k_is
      case c => k_is
      case k => k_is
    case d64 =>
      refine' dg_mk KX G bd_answers ?a ?l ?c ?k
      case a => k_is
      case l => k_is
      case c => k_is
      case k => k_is
    case nT_need =>
      show PySem.W.findIn _ _ _ = _
      k_is
    case nT_articles =>
      show PySem.W.findIn _ _ _ = _
      k_is
    case nT_offers =>
      show PySem.W.findIn _ _ _ = _
      k_is
    case nT_turn =>
      show PySem.W.findIn _ _ _ = _
      k_is
    case nT_members =>
      show PySem.W.findIn _ _ _ = _
      k_is
    case nT_reserved =>
      show PySem.W.findIn _ _ _ = _
      k_is
    case nT_objected =>
      show PySem.W.findIn _ _ _ = _
      k_is
    case nW_states =>
      show PySem.W.findIn _ _ _ = _
      k_is
    case nW_treaties =>
      show PySem.W.findIn _ _ _ = _
      k_is
    case nW_favoured =>
      show PySem.W.findIn _ _ _ = _
      k_is
    case nR_world =>
      show PySem.W.findIn _ _ _ = _
      k_is
    case nR_past =>
      show PySem.W.findIn _ _ _ = _
      k_is
    case nR_undone =>
      show PySem.W.findIn _ _ _ = _
      k_is
    case g_MOST_STATES =>
      refine' cst_mk KX G ?a
      case a => k_is
    case g_MOST_TAKEN =>
      refine' cst_mk KX G ?a
      case a => k_is
    case g_NOT_THERE =>
      refine' cst_mk KX G ?a
      case a => k_is
    case g_NOT_SO =>
      refine' cst_mk KX G ?a
      case a => k_is
    case g_CONCLUDED =>
      refine' cst_mk KX G ?a
      case a => k_is
    case g_ALREADY_SO =>
      refine' cst_mk KX G ?a
      case a => k_is
    case g_WRONG =>
      refine' cst_mk KX G ?a
      case a => k_is
    case g_FULL =>
      refine' cst_mk KX G ?a
      case a => k_is
    case g_TOO_LITTLE =>
      refine' cst_mk KX G ?a
      case a => k_is
    case g_MOST_TREATIES =>
      refine' cst_mk KX G ?a
      case a => k_is
    case g_MOST_ARTICLES =>
      refine' cst_mk KX G ?a
      case a => k_is
    case g_SUBJECTS =>
      refine' cst_mk KX G ?a
      case a => k_is
    case g_MOST_BACK =>
      refine' cst_mk KX G ?a
      case a => k_is
    case g_START =>
      refine' cst_mk KX G ?a
      case a => k_is
    case g_BACK =>
      refine' cst_mk KX G ?a
      case a => k_is
    case g_AGAIN =>
      refine' cst_mk KX G ?a
      case a => k_is
    case g_STATE =>
      refine' cst_mk KX G ?a
      case a => k_is
    case g_BITS =>
      refine' PySem.W.mg_of KX G ?_
      k_is
    case g_PARAMETERS =>
      refine' PySem.W.mg_of KX G ?_
      k_is
    case g_QUESTIONS =>
      refine' PySem.W.mg_of KX G ?_
      k_is
    case g_CHANGES =>
      refine' PySem.W.mg_of KX G ?_
      k_is
    case b_len =>
      refine' PySem.W.mg_none_of KX G ?_
      k_is
    case b_sum =>
      refine' PySem.W.mg_none_of KX G ?_
      k_is
    case b_min =>
      refine' PySem.W.mg_none_of KX G ?_
      k_is
    case b_list =>
      refine' PySem.W.mg_none_of KX G ?_
      k_is
    case b_range =>
      refine' PySem.W.mg_none_of KX G ?_
      k_is
    case b_enumerate =>
      refine' PySem.W.mg_none_of KX G ?_
      k_is
    case b_zip =>
      refine' PySem.W.mg_none_of KX G ?_
      k_is
    case hbits =>
      refine' kt_mk ?l ?z ?v
      case l => k_is
      case z => decide
      case v => exact (.cons ⟨_, rfl⟩ (.cons ⟨_, rfl⟩ (.cons ⟨_, rfl⟩ (.cons ⟨_, rfl⟩ (.cons ⟨_, rfl⟩ (.cons ⟨_, rfl⟩ .nil))))))
    case hpars =>
      refine' kt_mk ?l ?z ?v
      case l => k_is
      case z => decide
      case v => exact (.cons rfl (.cons rfl (.cons rfl (.cons rfl (.cons rfl (.cons rfl (.cons rfl (.cons rfl (.cons rfl (.cons rfl (.cons rfl (.cons rfl (.cons rfl (.cons rfl (.cons rfl (.cons rfl (.cons rfl (.cons rfl (.cons rfl (.cons rfl (.cons rfl (.cons rfl (.cons rfl (.cons rfl (.cons rfl (.cons rfl (.cons rfl (.cons rfl .nil))))))))))))))))))))))))))))
    case p0 =>
      refine' kt_mk ?l ?z ?v
      case l => k_is
      case z => decide
      case v => exact (.cons ⟨_, rfl⟩ .nil)
    case p1 =>
      refine' kt_mk ?l ?z ?v
      case l => k_is
      case z => decide
      case v => exact (.cons ⟨_, rfl⟩ .nil)
    case p2 =>
      refine' kt_mk ?l ?z ?v
      case l => k_is
      case z => decide
      case v => exact (.cons ⟨_, rfl⟩ (.cons ⟨_, rfl⟩ (.cons ⟨_, rfl⟩ .nil)))
    case p3 =>
      refine' kt_mk ?l ?z ?v
      case l => k_is
      case z => decide
      case v => exact (.cons ⟨_, rfl⟩ (.cons ⟨_, rfl⟩ (.cons ⟨_, rfl⟩ (.cons ⟨_, rfl⟩ .nil))))
    case p4 =>
      refine' kt_mk ?l ?z ?v
      case l => k_is
      case z => decide
      case v => exact (.cons ⟨_, rfl⟩ (.cons ⟨_, rfl⟩ .nil))
    case p5 =>
      refine' kt_mk ?l ?z ?v
      case l => k_is
      case z => decide
      case v => exact (.cons ⟨_, rfl⟩ .nil)
    case p6 =>
      refine' kt_mk ?l ?z ?v
      case l => k_is
      case z => decide
      case v => exact (.cons ⟨_, rfl⟩ .nil)
    case p7 =>
      refine' kt_mk ?l ?z ?v
      case l => k_is
      case z => decide
      case v => exact (.cons ⟨_, rfl⟩ .nil)
    case p8 =>
      refine' kt_mk ?l ?z ?v
      case l => k_is
      case z => decide
      case v => exact (.cons ⟨_, rfl⟩ .nil)
    case p9 =>
      refine' kt_mk ?l ?z ?v
      case l => k_is
      case z => decide
      case v => exact (.cons ⟨_, rfl⟩ (.cons ⟨_, rfl⟩ .nil))
    case p10 =>
      refine' kt_mk ?l ?z ?v
      case l => k_is
      case z => decide
      case v => exact (.cons ⟨_, rfl⟩ (.cons ⟨_, rfl⟩ .nil))
    case p11 =>
      refine' kt_mk ?l ?z ?v
      case l => k_is
      case z => decide
      case v => exact (.cons ⟨_, rfl⟩ (.cons ⟨_, rfl⟩ (.cons ⟨_, rfl⟩ .nil)))
    case p12 =>
      refine' kt_mk ?l ?z ?v
      case l => k_is
      case z => decide
      case v => exact (.cons ⟨_, rfl⟩ (.cons ⟨_, rfl⟩ (.cons ⟨_, rfl⟩ .nil)))
    case p13 =>
      refine' kt_mk ?l ?z ?v
      case l => k_is
      case z => decide
      case v => exact (.cons ⟨_, rfl⟩ (.cons ⟨_, rfl⟩ (.cons ⟨_, rfl⟩ .nil)))
    case p14 =>
      refine' kt_mk ?l ?z ?v
      case l => k_is
      case z => decide
      case v => exact (.cons ⟨_, rfl⟩ (.cons ⟨_, rfl⟩ (.cons ⟨_, rfl⟩ .nil)))
    case p15 =>
      refine' kt_mk ?l ?z ?v
      case l => k_is
      case z => decide
      case v => exact (.cons ⟨_, rfl⟩ (.cons ⟨_, rfl⟩ .nil))
    case p16 =>
      refine' kt_mk ?l ?z ?v
      case l => k_is
      case z => decide
      case v => exact (.cons ⟨_, rfl⟩ (.cons ⟨_, rfl⟩ .nil))
    case p17 =>
      refine' kt_mk ?l ?z ?v
      case l => k_is
      case z => decide
      case v => exact (.cons ⟨_, rfl⟩ (.cons ⟨_, rfl⟩ .nil))
    case p18 =>
      refine' kt_mk ?l ?z ?v
      case l => k_is
      case z => decide
      case v => exact (.cons ⟨_, rfl⟩ .nil)
    case p19 =>
      refine' kt_mk ?l ?z ?v
      case l => k_is
      case z => decide
      case v => exact (.cons ⟨_, rfl⟩ (.cons ⟨_, rfl⟩ (.cons ⟨_, rfl⟩ .nil)))
    case p20 =>
      refine' kt_mk ?l ?z ?v
      case l => k_is
      case z => decide
      case v => exact (.cons ⟨_, rfl⟩ (.cons ⟨_, rfl⟩ (.cons ⟨_, rfl⟩ (.cons ⟨_, rfl⟩ .nil))))
    case p21 =>
      refine' kt_mk ?l ?z ?v
      case l => k_is
      case z => decide
      case v => exact (.cons ⟨_, rfl⟩ (.cons ⟨_, rfl⟩ (.cons ⟨_, rfl⟩ .nil)))
    case p22 =>
      refine' kt_mk ?l ?z ?v
      case l => k_is
      case z => decide
      case v => exact (.cons ⟨_, rfl⟩ (.cons ⟨_, rfl⟩ (.cons ⟨_, rfl⟩ .nil)))
    case p23 =>
      refine' kt_mk ?l ?z ?v
      case l => k_is
      case z => decide
      case v => exact (.cons ⟨_, rfl⟩ .nil)
    case p24 =>
      refine' kt_mk ?l ?z ?v
      case l => k_is
      case z => decide
      case v => exact (.cons ⟨_, rfl⟩ .nil)
    case p25 =>
      refine' kt_mk ?l ?z ?v
      case l => k_is
      case z => decide
      case v => exact .nil
    case p26 =>
      refine' kt_mk ?l ?z ?v
      case l => k_is
      case z => decide
      case v => exact .nil
    case p27 =>
      refine' kt_mk ?l ?z ?v
      case l => k_is
      case z => decide
      case v => exact .nil
    case hqs =>
      refine' kd_mk ?l ?s ?n ?v
      case l => k_is
      case s => decide
      case n => decide
      case v => exact (.cons ⟨_, _, _, rfl, rfl⟩ (.cons ⟨_, _, _, rfl, rfl⟩ (.cons ⟨_, _, _, rfl, rfl⟩ (.cons ⟨_, _, _, rfl, rfl⟩ (.cons ⟨_, _, _, rfl, rfl⟩ (.cons ⟨_, _, _, rfl, rfl⟩ (.cons ⟨_, _, _, rfl, rfl⟩ (.cons ⟨_, _, _, rfl, rfl⟩ (.cons ⟨_, _, _, rfl, rfl⟩ (.cons ⟨_, _, _, rfl, rfl⟩ .nil))))))))))
    case hcs =>
      refine' kd_mk ?l ?s ?n ?v
      case l => k_is
      case s => decide
      case n => decide
      case v => exact (.cons ⟨_, _, _, rfl, rfl⟩ (.cons ⟨_, _, _, rfl, rfl⟩ (.cons ⟨_, _, _, rfl, rfl⟩ (.cons ⟨_, _, _, rfl, rfl⟩ (.cons ⟨_, _, _, rfl, rfl⟩ (.cons ⟨_, _, _, rfl, rfl⟩ (.cons ⟨_, _, _, rfl, rfl⟩ (.cons ⟨_, _, _, rfl, rfl⟩ (.cons ⟨_, _, _, rfl, rfl⟩ (.cons ⟨_, _, _, rfl, rfl⟩ (.cons ⟨_, _, _, rfl, rfl⟩ (.cons ⟨_, _, _, rfl, rfl⟩ (.cons ⟨_, _, _, rfl, rfl⟩ (.cons ⟨_, _, _, rfl, rfl⟩ .nil))))))))))))))
  case S =>
    intro K H xs a hO hwi hask hx
    cases hx with
    | cons h1 h2 =>
      cases h2
      cases h1 with
      | lst hs ha =>
        have e := L2.ints_dw a.1 _ ha
        subst e
        exact Rg.ask hO hask hs
#print axioms PySem.Challenge.cw_treatyregistry_s01_answers_holds
