import PyProof.Rows.All
import Wide.All
import OpenK.AllK
import Wide.FinOn
import PyProof.EqAt
import PyProof.EqKinds
import PyProof.TupleCall
import KE.BitLaws
import KE.IntBitsLaws
import PyProof.ExcAttrAll.ValueError
import PyProof.P3In
import PyProof.Rows.SeqMore
import KE.KSortTup
import KE.KLam
import KE.KNestM
import KE.KDictList
import KE.RegKIsAll
import PyProof.Draws
import PyProof.EnumMake
import PyProof.SetKind
import PyProof.Rows.SetFrom
import PyProof.WalksMore
import PyProof.SetRoads
import PyProof.FactsAll.subtypes_4
import KE.KRevSl
import PyProof.Rows.RuleM_int
import KE.KStar
import KE.KMinKey
import PyProof.GenQ
import PyProof.CodeObjX
import KE.RegKTryMore
import OpenK.KOwn
import PySem.Challenge.RW_laidover_k04_motions_refused
section
set_option Elab.async false
set_option linter.all false
set_option maxRecDepth 100000
namespace L2
open PySem PySem.Spec PyProof.Rows
abbrev Key := Sum Int Str
def keyIs : Key → Value → Bool
  | .inl k, v => Value.isInt k v
  | .inr x, v => Value.isStrOf x v
def keyH (w : World) : Key → Int
  | .inl k => hashInt k
  | .inr x => hashStr w x
theorem keyIs_shape : ∀ {k : Key} {v : Value}, keyIs k v = true → (∃ i t, k = Sum.inl i ∧ v = Value.int i t) ∨ (∃ x t, k = Sum.inr x ∧ v = Value.str x t)
  | .inl i, v, h => by
    obtain ⟨t, e⟩ := Value.isInt_shape (k := i) (v := v) h
    exact .inl ⟨i, t, rfl, e⟩
  | .inr x, v, h => by
    obtain ⟨t, e⟩ := Value.isStrOf_shape (x := x) (v := v) h
    exact .inr ⟨x, t, rfl, e⟩
theorem keyIs_int (i : Int) (t : Tok) : keyIs (.inl i) (.int i t) = true := by simp [keyIs, Value.isInt]
theorem keyIs_str (x : Str) (t : Tok) : keyIs (.inr x) (.str x t) = true := by simp [keyIs, Value.isStrOf]
theorem key_ll (a b : Int) : decide ((Sum.inl a : Key) = Sum.inl b) = (a == b) := by
  by_cases e : a = b
  · subst e; simp
  · have h : ¬ (Sum.inl a : Key) = Sum.inl b := fun q => e (Sum.inl.inj q)
    rw [decide_eq_false h]
    exact (beq_eq_false_iff_ne.mpr e).symm
theorem key_rr (a b : Str) : decide ((Sum.inr a : Key) = Sum.inr b) = decide (a = b) := by
  by_cases e : a = b
  · subst e; simp
  · have h : ¬ (Sum.inr a : Key) = Sum.inr b := fun q => e (Sum.inr.inj q)
    rw [decide_eq_false h, decide_eq_false e]
theorem key_lr (a : Int) (b : Str) : decide ((Sum.inl a : Key) = Sum.inr b) = false := decide_eq_false (fun q => nomatch q)
theorem key_rl (a : Str) (b : Int) : decide ((Sum.inr a : Key) = Sum.inl b) = false := decide_eq_false (fun q => nomatch q)
def mixKind (prog : Program) (w : World) : PySem.KeyKind prog w Key where
  is := keyIs
  hash := keyH w
  inj := fun v a b ha hb => by
    rcases keyIs_shape ha with ⟨i, t, rfl, rfl⟩ | ⟨x, t, rfl, rfl⟩
    · rcases keyIs_shape hb with ⟨j, u, rfl, e⟩ | ⟨y, u, rfl, e⟩
      · injection e with e1 _; rw [e1]
      · exact nomatch e
    · rcases keyIs_shape hb with ⟨j, u, rfl, e⟩ | ⟨y, u, rfl, e⟩
      · exact nomatch e
      · injection e with e1 _; rw [e1]
  byValue := fun k v h => by
    rcases keyIs_shape h with ⟨i, t, rfl, rfl⟩ | ⟨x, t, rfl, rfl⟩ <;> rfl
  pyHash := fun hv h => by
    rcases keyIs_shape hv with ⟨i, t, rfl, rfl⟩ | ⟨x, t, rfl, rfl⟩
    · exact wpAny_pyHash_int h
    · exact wpAny_pyHash_str h
  eqBool := fun hu hv h => by
    rcases keyIs_shape hu with ⟨i, t, rfl, rfl⟩ | ⟨x, t, rfl, rfl⟩
    · rcases keyIs_shape hv with ⟨j, u, rfl, rfl⟩ | ⟨y, u, rfl, rfl⟩
      · rw [key_ll] at h; exact wpAny_eqBool_int h
      · rw [key_lr] at h; exact SeqAt.EqAt.int_str i t y u _ _ _ _ h
    · rcases keyIs_shape hv with ⟨j, u, rfl, rfl⟩ | ⟨y, u, rfl, rfl⟩
      · rw [key_rl] at h; exact SeqAt.EqAt.str_int x t j u _ _ _ _ h
      · rw [key_rr] at h; exact wpAny_eqBool_str h
  «strs» := fun k x t v h => by
    rcases keyIs_shape h with ⟨i, u, rfl, e⟩ | ⟨y, u, rfl, e⟩
    · exact nomatch e
    · injection e with e1 _
      subst e1
      cases v <;> rfl
theorem mixKind_int (prog : Program) (w : World) (i : Int) (t : Tok) : (mixKind prog w).is (.inl i) (.int i t) = true := keyIs_int i t
theorem mixKind_str (prog : Program) (w : World) (x : Str) (t : Tok) : (mixKind prog w).is (.inr x) (.str x t) = true := keyIs_str x t
end L2
namespace L2
open PySem PySem.Spec PyProof.Rows
inductive V where
  | non | bl (b : Bool) | int (i : Int) | str (x : Str) | byt (b : Array UInt8) | flt (b : UInt64) | ref (a : Addr) | ty (n : String)
  deriving DecidableEq
def RelV : V → Value → Prop
  | .non, u => u = Value.none
  | .bl b, u => u = Value.bool b
  | .int i, u => ∃ t, u = Value.int i t
  | .str x, u => ∃ t, u = Value.str x t
  | .byt b, u => ∃ t, u = Value.bytes b t
  | .flt b, u => ∃ t, u = Value.float b t
  | .ref a, u => u = Value.ref a
  | .ty n, u => u = Value.type n
abbrev Vals : List V → List Value → Prop := Paired RelV
theorem Vals.length {xs : List V} {us : List Value} (r : Vals xs us) : xs.length = us.length := Paired.length r
theorem Vals.get : ∀ {xs : List V} {us : List Value} {i : Nat} {x : V}, Vals xs us → xs[i]? = some x → ∃ u, us[i]? = some u ∧ RelV x u
  | _, _, _, _, .nil, e => by simp at e
  | _, _, 0, _, .cons r _, e => by simp at e; subst e; exact ⟨_, rfl, r⟩
  | _, _, i + 1, x, .cons _ t, e => by
    obtain ⟨u, h1, h2⟩ := Vals.get (i := i) (x := x) t (by simpa using e)
    exact ⟨u, by simpa using h1, h2⟩
theorem Vals.set {x : V} {u : Value} (r : RelV x u) : ∀ {xs : List V} {us : List Value} (i : Nat), Vals xs us → Vals (xs.set i x) (us.set i u)
  | _, _, _, .nil => .nil
  | _, _, 0, .cons _ t => .cons r t
  | _, _, i + 1, .cons q t => .cons q (Vals.set r i t)
theorem Vals.append : ∀ {xs ys : List V} {us ws : List Value}, Vals xs us → Vals ys ws → Vals (xs ++ ys) (us ++ ws)
  | _, _, _, _, .nil, s => s
  | _, _, _, _, .cons r t, s => .cons r (Vals.append t s)
theorem Vals.take : ∀ {xs : List V} {us : List Value} (n : Nat), Vals xs us → Vals (xs.take n) (us.take n)
  | _, _, 0, _ => .nil
  | _, _, _ + 1, .nil => .nil
  | _, _, n + 1, .cons r t => .cons r (Vals.take n t)
theorem Vals.drop : ∀ {xs : List V} {us : List Value} (n : Nat), Vals xs us → Vals (xs.drop n) (us.drop n)
  | _, _, 0, r => r
  | _, _, _ + 1, .nil => .nil
  | _, _, n + 1, .cons _ t => Vals.drop n t
def RelO : Option V → Option Value → Prop
  | some v, some u => RelV v u
  | none, none => True
  | _, _ => False
def KV {κ : Type} : List (κ × V) → List (κ × Value) → Prop := Paired fun (p : κ × V) (q : κ × Value) => p.1 = q.1 ∧ RelV p.2 q.2
def kV : Key → V
  | .inl i => .int i
  | .inr x => .str x
inductive HO where
  | lst (xs : List V)
  | tup (xs : List V)
  | dK (kvs : List (Key × V)) | dT (kvs : List (List Key × V))
  | set (S : Int → Bool) (n : Nat)
  | ins (C dx : Addr) (fs : List (Str × V))
  | own (x : Addr)
  | xd (fs : List (Str × V))
  | met (f x : Addr)
  | rng (lo hi : Int)
  | frz (o : Obj) (u : HO)
  | tbl (ps : Array Value)
  | ext (φ : Heap → Prop)
abbrev Hp := Addr → Option HO
def upd (H : Hp) (a : Addr) (o : HO) : Hp := fun b => if b = a then some o else H b
theorem upd_same {H : Hp} {a : Addr} {o : HO} : upd H a o a = some o := by unfold upd; rw [if_pos rfl]
theorem upd_ne {H : Hp} {a b : Addr} {o : HO} (h : b ≠ a) : upd H a o b = H b := by unfold upd; rw [if_neg h]
theorem ne_of_none {H : Hp} {a b : Addr} {o : HO} (h : H a = some o) (h' : H b = none) : a ≠ b := by
  intro e; subst e; rw [h] at h'; cases h'
section
variable (P : Program) (w : World)
def ObjOk (H : Hp) (h : Heap) (a : Addr) : HO → Prop
  | .lst xs => xs.length ≤ sizeLine ∧ ∃ (its : List Value) (n : Nat), Vals xs its ∧ h.get? a = some { cls := .type "list", data := .seq its.toArray n }
  | .tup xs => xs.length ≤ sizeLine ∧ ∃ its : List Value, Vals xs its ∧ IsTup h a its.toArray
  | .dK kvs => kvs.length ≤ sizeLine ∧ (a == sysModules) = false ∧ ∃ vs, KV kvs vs ∧ h.DictOf (mixKind P w) a vs
  | .dT kvs => kvs.length ≤ sizeLine ∧ (a == sysModules) = false ∧ ∃ xs : List (List Key × Addr × Value),
      Paired (fun (p : List Key × V) (q : List Key × Addr × Value) => p.1 = q.1 ∧ H q.2.1 = some (.tup (p.1.map kV)) ∧ RelV p.2 q.2.2) kvs xs ∧
      ∃ o es ep, h.get? a = some o ∧ o.ExactDict ∧ o.data = .dict es ep ∧ es.toList = xs.map (entryOfKey (tupleKind (mixKind P w))) ∧ (xs.map (·.1)).Nodup
  | .set S n => h.SetOf (intKind P w) a S n
  | .ins C dx fs => H dx = some (.own a) ∧ fs.length ≤ 1000 ∧ dx ≠ a ∧ h.get? a = some (PySem.W.instObj C dx) ∧
      ∃ mA, h.Ns1 dx mA ∧ (∀ f, RelO (fs.lookup f) (mA f)) ∧ PySem.Within mA (fs.map (·.1))
  | .own _ => ∃ o, h.get? a = some o
  | .xd fs => ∃ mA, h.Ns1 a mA ∧ ∀ f, RelO (fs.lookup f) (mA f)
  | .rng lo hi => ∃ t u v, h.get? a = some { cls := .type "range", data := .fields #[.int lo t, .int hi u, .int 1 v] }
  | .frz o u => h.get? a = some o ∧ ObjOk H h a u
  | .tbl ps => h.get? a = some { cls := .none, data := .fields ps }
  | .met f x => h.get? a = some (PySem.W.methodObj (.ref f) (.ref x))
  | .ext φ => φ h ∧ (∃ o, h.get? a = some o) ∧ ∀ h1 h2 : Heap, φ h1 → (∀ o, h1.get? a = some o → h2.get? a = some o) → φ h2
def HOk (H : Hp) (h : Heap) : Prop := ∀ a o, H a = some o → ObjOk P w H h a o
end
section
variable {P : Program} {w : World} {H H' : Hp} {h h' : Heap} {a : Addr} {o : HO}
theorem ObjOk.lt (x : ObjOk P w H h a o) : a < h.objs.size := by
  cases o with
  | lst xs => obtain ⟨_, _, _, _, e⟩ := x; exact Heap.lt_size e
  | tup xs => obtain ⟨_, _, _, p⟩ := x; exact p.lt
  | dK kvs => obtain ⟨_, _, _, _, o, _, _, e, _⟩ := x; exact Heap.lt_size e
  | dT kvs => obtain ⟨_, _, _, _, o, _, _, e, _⟩ := x; exact Heap.lt_size e
  | set S n => obtain ⟨o, _, _, _, e, _⟩ := x; exact Heap.lt_size e
  | ins C dx fs => obtain ⟨_, _, _, e, _⟩ := x; exact Heap.lt_size e
  | own y => obtain ⟨_, e⟩ := x; exact Heap.lt_size e
  | xd fs => obtain ⟨_, ⟨_, _, _, e, _⟩, _⟩ := x; exact Heap.lt_size e
  | rng lo hi => obtain ⟨_, _, _, e⟩ := x; exact Heap.lt_size e
  | frz ob u => obtain ⟨e, _⟩ := x; exact Heap.lt_size e
  | tbl ps => exact Heap.lt_size (show h.get? a = some _ from x)
  | met f y => exact Heap.lt_size (show h.get? a = some _ from x)
  | ext φ => obtain ⟨_, ⟨_, e⟩, _⟩ := x; exact Heap.lt_size e
theorem Paired.mapP {α β : Type} {F G : α → β → Prop} : ∀ {l₁ : List α} {l₂ : List β}, Paired F l₁ l₂ → (∀ a b, F a b → G a b) → Paired G l₁ l₂
  | _, _, .nil, _ => .nil
  | _, _, .cons r t, f => .cons (f _ _ r) (Paired.mapP t f)
theorem ObjOk.stay (x : ObjOk P w H h a o) (k : ∀ b u, (b = a ∨ H b = some (.own a)) → h.get? b = some u → h'.get? b = some u)
    (ho : ∀ b, H b = some (.own a) → H' b = some (.own a)) (ht : ∀ b xs, H b = some (.tup xs) → H' b = some (.tup xs)) : ObjOk P w H' h' a o := by
  induction o with
  | lst xs => obtain ⟨z, its, n, r, e⟩ := x; exact ⟨z, its, n, r, k _ _ (.inl rfl) e⟩
  | tup xs => obtain ⟨z, its, r, ob, e, c⟩ := x; exact ⟨z, its, r, ob, k _ _ (.inl rfl) e, c⟩
  | dK kvs => obtain ⟨z, y, vs, r, ob, es, ep, e, c⟩ := x; exact ⟨z, y, vs, r, ob, es, ep, k _ _ (.inl rfl) e, c⟩
  | dT kvs =>
    obtain ⟨z, y, xs, r, ob, es, ep, e, c⟩ := x
    exact ⟨z, y, xs, Paired.mapP r fun p q z => ⟨z.1, ht _ _ z.2.1, z.2.2⟩, ob, es, ep, k _ _ (.inl rfl) e, c⟩
  | set S n => obtain ⟨ob, es, ep, t, e, c⟩ := x; exact ⟨ob, es, ep, t, k _ _ (.inl rfl) e, c⟩
  | ins C dx fs =>
    obtain ⟨d, z, ne, e, mA, ⟨od, es, ep, e2, c⟩, r⟩ := x
    exact ⟨ho _ d, z, ne, k _ _ (.inl rfl) e, mA, ⟨od, es, ep, k _ _ (.inr d) e2, c⟩, r⟩
  | own y => obtain ⟨ob, e⟩ := x; exact ⟨ob, k _ _ (.inl rfl) e⟩
  | xd fs => obtain ⟨mA, ⟨od, es, ep, e, c⟩, r⟩ := x; exact ⟨mA, ⟨od, es, ep, k _ _ (.inl rfl) e, c⟩, r⟩
  | rng lo hi => obtain ⟨t, u, v, e⟩ := x; exact ⟨t, u, v, k _ _ (.inl rfl) e⟩
  | frz ob u ih => obtain ⟨e, q⟩ := x; exact ⟨k _ _ (.inl rfl) e, ih q⟩
  | tbl ps =>
    have e : h.get? a = some { cls := .none, data := .fields ps } := x
    show h'.get? a = some { cls := .none, data := .fields ps }
    exact k a _ (.inl rfl) e
  | met f y =>
    have e : h.get? a = some (PySem.W.methodObj (.ref f) (.ref y)) := x
    show h'.get? a = some (PySem.W.methodObj (.ref f) (.ref y))
    exact k a _ (.inl rfl) e
  | ext φ => obtain ⟨p, ⟨o, e⟩, st⟩ := x; exact ⟨st _ _ p fun o q => k _ _ (.inl rfl) q, ⟨o, k _ _ (.inl rfl) e⟩, st⟩
theorem HOk.lt (x : HOk P w H h) (e : H a = some o) : a < h.objs.size := (x a o e).lt
theorem HOk.fresh (x : HOk P w H h) (e : h.objs.size ≤ a) : H a = none := by
  cases q : H a with
  | none => rfl
  | some u => exact absurd (Nat.lt_of_lt_of_le (x.lt q) e) (Nat.lt_irrefl _)
theorem HOk.kept (x : HOk P w H h) (k : ∀ b u, h.get? b = some u → h'.get? b = some u) : HOk P w H h' := fun a o e =>
  (x a o e).stay (fun b u _ q => k b u q) (fun _ q => q) fun _ _ q => q
theorem HOk.laid (x : HOk P w H h) (k : ∀ b u, h.get? b = some u → h'.get? b = some u) (hp : h.objs.size ≤ a) (new : ObjOk P w (upd H a o) h' a o) : HOk P w (upd H a o) h' := fun b u e => by
  have hn := x.fresh hp
  by_cases hb : b = a
  · subst hb; rw [upd_same] at e; cases e; exact new
  · rw [upd_ne hb] at e
    exact (x b u e).stay (fun c v _ q => k c v q) (fun c q => by rw [upd_ne (ne_of_none q hn)]; exact q) fun c xs q => by rw [upd_ne (ne_of_none q hn)]; exact q
end
def Rd (H : Hp) (a : Addr) (u : HO) : Prop := H a = some u ∨ ∃ o, H a = some (.frz o u)
theorem Rd.of {H : Hp} {a : Addr} {u : HO} (h : H a = some u) : Rd H a u := .inl h
theorem Rd.ok {P : Program} {w : World} {H : Hp} {h : Heap} {a : Addr} {u : HO} (r : Rd H a u) (x : HOk P w H h) : ObjOk P w H h a u := by
  rcases r with r | ⟨o, r⟩
  · exact x a u r
  · obtain ⟨_, q⟩ := x a _ r
    exact q
def Mut : Option HO → Prop
  | some (.lst _) => True
  | some (.dK _) => True
  | some (.dT _) => True
  | some (.set _ _) => True
  | some (.ins _ _ _) => True
  | some (.ext _) => True
  | _ => False
section
variable {P : Program} {w : World} {H : Hp} {h h' : Heap} {x e : Addr} {o' : HO}
theorem HOk.write (ok : HOk P w H h) (mu : Mut (H x)) (he : e = x ∨ H e = some (.own x)) (k : ∀ b u, b ≠ e → h.get? b = some u → h'.get? b = some u) (heo : ∃ u, h'.get? e = some u)
    (new : ObjOk P w (upd H x o') h' x o') : HOk P w (upd H x o') h' := fun b u q => by
  have nown : ∀ c y, H c = some (.own y) → c ≠ x := fun c y r z => by subst z; rw [r] at mu; exact mu
  have ntup : ∀ c xs, H c = some (.tup xs) → c ≠ x := fun c xs r z => by subst z; rw [r] at mu; exact mu
  by_cases hb : b = x
  · subst hb; rw [upd_same] at q; cases q; exact new
  · rw [upd_ne hb] at q
    by_cases hbe : b = e
    · have q' : H b = some (.own x) := by
        rcases he with z | z
        · exact absurd (hbe.trans z) hb
        · rw [hbe]; exact z
      rw [q] at q'; cases q'
      obtain ⟨v, hv⟩ := heo
      exact ⟨v, by rw [hbe]; exact hv⟩
    · refine (ok b u q).stay (fun c v hc r => k c v ?_ r) (fun c r => by rw [upd_ne (nown c b r)]; exact r) fun c xs r => by rw [upd_ne (ntup c xs r)]; exact r
      rcases hc with rfl | hc
      · exact hbe
      · rintro rfl
        rcases he with z | z
        · exact nown c b hc z
        · rw [hc] at z; cases z; exact hb rfl
end
structure Un (fs ex : List Addr) (H H' : Hp) (h h' : Heap) : Prop where
  keep : ∀ b o, h.get? b = some o → H b = none → b ∉ fs → b ∉ ex → h'.get? b = some o
  slot : ∀ b o, h.get? b = some o → H b = none → b ∈ fs → b ∉ ex → ∃ sl, h'.get? b = some { o with slots := sl }
  free : ∀ b o, h.get? b = some o → H b = none → b ∉ ex → H' b = none
  there : ∀ b o, h.get? b = some o → b ∉ ex → ∃ o', h'.get? b = some o'
  tups : ∀ b xs, H b = some (.tup xs) → H' b = some (.tup xs)
  frzs : ∀ b o u, H b = some (.frz o u) → H' b = some (.frz o u)
  tbls : ∀ b ps, H b = some (.tbl ps) → ∃ more, H' b = some (.tbl (ps ++ more))
section
variable {fs fs' ex ex' : List Addr} {H H1 H2 : Hp} {h h1 h2 h' : Heap} {a x e : Addr} {o : HO}
theorem Un.any (u : Un fs ex H H1 h h1) {b : Addr} {ob : Obj} (q : h.get? b = some ob) (n : H b = none) (hx : b ∉ ex) : ∃ sl, h1.get? b = some { ob with slots := sl } := by
  by_cases hb : b ∈ fs
  · exact u.slot b ob q n hb hx
  · exact ⟨ob.slots, u.keep b ob q n hb hx⟩
theorem Un.trans (a : Un fs ex H H1 h h1) (b : Un fs ex H1 H2 h1 h2) : Un fs ex H H2 h h2 where
  keep := fun c ob q n hc hx => b.keep c ob (a.keep c ob q n hc hx) (a.free c ob q n hx) hc hx
  slot := fun c ob q n hc hx => by
    obtain ⟨sl, e1⟩ := a.slot c ob q n hc hx
    obtain ⟨sl', e2⟩ := b.slot c _ e1 (a.free c ob q n hx) hc hx
    exact ⟨sl', e2⟩
  free := fun c ob q n hx => by
    obtain ⟨o', e1⟩ := a.there c ob q hx
    exact b.free c o' e1 (a.free c ob q n hx) hx
  there := fun c ob q hx => by
    obtain ⟨o', e1⟩ := a.there c ob q hx
    exact b.there c o' e1 hx
  tups := fun c xs q => b.tups c xs (a.tups c xs q)
  frzs := fun c ob xs q => b.frzs c ob xs (a.frzs c ob xs q)
  tbls := fun c ps q => by
    obtain ⟨m1, e1⟩ := a.tbls c ps q
    obtain ⟨m2, e2⟩ := b.tbls c _ e1
    exact ⟨m1 ++ m2, by rw [e2, Array.append_assoc]⟩
theorem Un.kept (k : ∀ b u, h.get? b = some u → h'.get? b = some u) : Un fs ex H H h h' :=
  ⟨fun b ob q _ _ _ => k b ob q, fun b ob q _ _ _ => ⟨ob.slots, k b ob q⟩, fun _ _ _ n _ => n, fun b ob q _ => ⟨ob, k b ob q⟩, fun _ _ q => q, fun _ _ _ q => q, fun _ ps q => ⟨#[], by rw [q]; simp⟩⟩
theorem Un.refl : Un fs ex H H h h := Un.kept fun _ _ q => q
theorem Un.laid (k : ∀ b u, h.get? b = some u → h'.get? b = some u) (hp : h.objs.size ≤ a) (hn : H a = none) : Un fs ex H (upd H a o) h h' where
  keep := fun b u q _ _ _ => k b u q
  slot := fun b u q _ _ _ => ⟨u.slots, k b u q⟩
  free := fun b u q n _ => by rw [upd_ne (Nat.ne_of_lt (Nat.lt_of_lt_of_le (Heap.lt_size q) hp))]; exact n
  there := fun b u q _ => ⟨u, k b u q⟩
  tups := fun b xs q => by rw [upd_ne (ne_of_none q hn)]; exact q
  frzs := fun b u xs q => by rw [upd_ne (ne_of_none q hn)]; exact q
  tbls := fun b ps q => ⟨#[], by rw [upd_ne (ne_of_none q hn), q]; simp⟩
theorem Un.write (mu : Mut (H x)) (he : e = x ∨ H e = some (.own x)) (k : ∀ b u, b ≠ e → h.get? b = some u → h'.get? b = some u) (heo : ∃ u, h'.get? e = some u) : Un fs ex H (upd H x o) h h' := by
  have hx : ∀ b, H b = none → b ≠ x := fun b n z => by subst z; rw [n] at mu; exact mu
  have hb : ∀ b, H b = none → b ≠ e := fun b n z => by
    subst z
    rcases he with r | r
    · exact hx b n r
    · rw [n] at r; cases r
  have hm : ∀ b u, H b = some u → ¬ Mut (some u) → b ≠ x := fun b u q nm z => by subst z; rw [q] at mu; exact nm mu
  refine ⟨fun b u q n _ _ => k b u (hb b n) q, fun b u q n _ _ => ⟨u.slots, k b u (hb b n) q⟩, fun b u q n _ => by rw [upd_ne (hx b n)]; exact n, fun b u q _ => ?_,
    fun b xs q => by rw [upd_ne (hm b _ q fun z => z)]; exact q, fun b u xs q => by rw [upd_ne (hm b _ q fun z => z)]; exact q, fun b ps q => ⟨#[], by rw [upd_ne (hm b _ q fun z => z), q]; simp⟩⟩
  by_cases hbe : b = e
  · subst hbe; exact heo
  · exact ⟨u, k b u hbe q⟩
theorem Un.mono (u : Un fs ex H H1 h h1) (hs : ∀ b ∈ fs, b ∈ fs') (hx : ∀ b ∈ ex, b ∈ ex') : Un fs' ex' H H1 h h1 :=
  ⟨fun b ob q n hb he => u.keep b ob q n (fun z => hb (hs b z)) fun z => he (hx b z), fun _ _ q n _ he => u.any q n fun z => he (hx _ z), fun b ob q n he => u.free b ob q n fun z => he (hx b z), fun b ob q he => u.there b ob q fun z => he (hx b z), u.tups, u.frzs, u.tbls⟩
end
def trk (h : Heap) (H : Hp) : List Addr := (List.range h.objs.size).filter fun a => (H a).isSome
def hidT (h : Heap) (H : Hp) : Heap := PySem.W.hideAll h (trk h H)
theorem hidT_size (h : Heap) (H : Hp) : (hidT h H).objs.size = h.objs.size := PySem.W.hideAll_size _ _
theorem hidT_get {h : Heap} {H : Hp} {b : Addr} {o : Obj} (e : h.get? b = some o) (n : H b = none) : (hidT h H).get? b = some o :=
  PySem.W.hideAll_get _ e fun hm => by
    have q : (H b).isSome = true := (List.mem_filter.mp hm).2
    rw [n] at q; simp at q
theorem of_hidT {h : Heap} {H : Hp} {b : Addr} {o : Obj} (e : (hidT h H).get? b = some o) : h.get? b = some o ∧ H b = none := by
  have e' : h.get? b = some o := PySem.W.of_hideAll (trk h H) e
  refine ⟨e', ?_⟩
  cases q : H b with
  | none => rfl
  | some x =>
    have hm : b ∈ trk h H := List.mem_filter.mpr ⟨List.mem_range.mpr (Heap.lt_size e'), by simp [q]⟩
    have z : (hidT h H).get? b = none := PySem.W.hideAll_none (trk h H) hm
    rw [z] at e; cases e
def allNews (g h : Heap) (L : Addr) : List (Addr × Obj) := (List.range h.objs.size).filterMap fun a => if a = L ∨ (g.get? a).isSome = true then none else (h.get? a).map fun o => (a, o)
def rest (g h : Heap) (L d : Addr) : List (Addr × Obj) := (allNews g h L).filter fun p => decide (p.1 ≠ d)
end L2
namespace L2
open PySem PySem.Spec PyProof.Rows
structure Mod (K : PySem.W.Frag) (mg : Str → Option Value) (base : Heap) : Prop where
  kin : K.In base
  glob : base.Ns mainGlobals mg
  blt : ∃ mb, base.Ns builtinsNs mb ∧ ∀ x : Str, x ≠ "__name__" → mb x = bootBuiltins x
  nolimit : base.NoLimit
structure Cx where
  prog : Program
  w : World
  K : PySem.W.Frag
  mg : Str → Option Value
  base : Heap
  A : Around
  N : List Str
  s_0 : Shared
  H_0 : Hp
  env : Env
  outer : List Env
  stack : List Env
  ex : List Addr
  fn : Str → Bool
  calm : Bool
  pn : List (Addr × Obj)
  xe : Value → Shared → Prop
def frs (l : List Env) : List Addr := l.filterMap (·.frame)
abbrev Cx.fs (X : Cx) : List Addr := frs X.outer
def Vis (sc : Scope) (x : Str) : Prop := sc.names.lookup x = some .local ∨ sc.names.lookup x = some .cell ∨ sc.names.lookup x = some .free
def Loc (sc : Scope) (x : Str) : Prop := sc.names.lookup x = some .local ∨ sc.names.lookup x = some .cell
def Look (env : Env) (h : Heap) (m : Str → Option Value) (x : Str) (u : Value) : Prop :=
  (env.kindOf x = some .local ∧ m x = some u) ∨ ((env.kindOf x = some .cell ∨ env.kindOf x = some .free) ∧ ∃ c, env.cells.lookup x = some c ∧ h.IsCell c (some u))
structure Cx.Ok (X : Cx) : Prop where
  mod : Mod X.K X.mg X.base
  kind : X.env.scope.kind = .function
  glob : X.env.globals = mainGlobals
  blt : X.env.builtins = builtinsNs
  above : X.s_0.heap.objs.size ≤ X.env.locals
  inj : ∀ x y c, X.env.cells.lookup x = some c → X.env.cells.lookup y = some c → x = y
  has : ∀ x, (X.env.kindOf x = some .cell ∨ X.env.kindOf x = some .free) → ∃ c, X.env.cells.lookup x = some c
  cab : ∀ x c, X.fn x = true → X.env.cells.lookup x = some c → X.s_0.heap.objs.size ≤ c
  hd : X.calm = true → X.A.handled = none
  frames : X.A.frames = some X.stack
  stk : X.stack = X.outer ∨ (X.stack = X.env :: X.outer ∧ X.env.frame = some X.env.locals)
  exf : ∀ b ∈ X.ex, b ≠ X.env.locals ∧ ∀ x c, X.env.cells.lookup x = some c → c ≠ b
  bs : ∀ b o, X.base.get? b = some o → X.s_0.heap.get? b = some o ∧ X.H_0 b = none
  bsz : X.base.objs.size ≤ X.s_0.heap.objs.size
  noex : ∀ b o, X.base.get? b = some o → b ∉ X.ex
  exfs : ∀ b ∈ X.ex, b ∉ X.fs
  funs : X.s_0.heap.FunFrames X.base X.outer
  frf : ∀ b ∈ X.fs, X.H_0 b = none
structure Inv (X : Cx) (pins : List (Addr × Obj)) (σ : List (Option V)) (H : Hp) (s : Shared) : Prop where
  ok : X.Ok
  os : s.os = X.s_0.os
  bare : AllBare s.gens
  base : Un X.fs X.ex X.H_0 H X.s_0.heap s.heap
  loc : ∃ m, s.heap.Ns X.env.locals m ∧ ∀ (i : Nat) (x : Str) (v : V), X.N[i]? = some x → σ[i]? = some (some v) → Vis X.env.scope x → ∃ u, RelV v u ∧ Look X.env s.heap m x u
  cell : ∀ x c, X.env.cells.lookup x = some c → ∃ v, s.heap.IsCell c v
  free : H X.env.locals = none
  freeC : ∀ x c, X.env.cells.lookup x = some c → H c = none
  pin : ∀ p ∈ X.pn ++ pins, s.heap.get? p.1 = some p.2 ∧ H p.1 = none ∧ p.1 ≠ X.env.locals ∧ p.1 ∉ X.fs ∧ ∀ v, p.2.data ≠ .cell v
  hok : HOk X.prog X.w H s.heap
  len : σ.length = X.N.length
section
variable {X : Cx} {pins : List (Addr × Obj)} {σ : List (Option V)} {H H' : Hp} {s : Shared} {h' : Heap}
theorem Cx.Ok.nofr (ok : X.Ok) {b : Addr} {o : Obj} (e : X.base.get? b = some o) : b ∉ X.fs := fun hb => by
  have := (ok.funs.mem hb).1
  rw [e] at this; cases this
theorem Inv.bs (I : Inv X pins σ H s) : ∀ b o, X.base.get? b = some o → s.heap.get? b = some o ∧ H b = none := fun b o e =>
  ⟨I.base.keep b o (I.ok.bs b o e).1 (I.ok.bs b o e).2 (I.ok.nofr e) (I.ok.noex b o e), I.base.free b o (I.ok.bs b o e).1 (I.ok.bs b o e).2 (I.ok.noex b o e)⟩
theorem Inv.bk (I : Inv X pins σ H s) : ∀ b o, X.base.get? b = some o → s.heap.get? b = some o := fun b o e => (I.bs b o e).1
theorem Inv.mod (I : Inv X pins σ H s) : Mod X.K X.mg X.base := I.ok.mod
theorem Inv.kIn (I : Inv X pins σ H s) : X.K.In s.heap := I.ok.mod.kin.keeps I.bk
theorem Inv.nolimit (I : Inv X pins σ H s) : s.heap.NoLimit := I.ok.mod.nolimit.keeps I.bk
theorem Inv.fr (I : Inv X pins σ H s) : ∃ m, Fr X.base X.env.locals s.heap m :=
  let ⟨m, hn, _⟩ := I.loc
  ⟨m, hn, I.bk, Nat.le_trans I.ok.bsz I.ok.above⟩
theorem Inv.lt (I : Inv X pins σ H s) : X.env.locals < s.heap.objs.size := let ⟨_, hn, _⟩ := I.loc; hn.lt
theorem Inv.sz (I : Inv X pins σ H s) : X.s_0.heap.objs.size ≤ s.heap.objs.size := Nat.le_trans I.ok.above (Nat.le_of_lt I.lt)
theorem Inv.nofs (I : Inv X pins σ H s) {a : Addr} (h : s.heap.objs.size ≤ a) : a ∉ X.fs := fun hb => by
  obtain ⟨_, o, ho, _⟩ := I.ok.funs.mem hb
  exact absurd (Nat.lt_of_lt_of_le (Heap.lt_size ho) (Nat.le_trans I.sz h)) (Nat.lt_irrefl _)
theorem Inv.cne (I : Inv X pins σ H s) : ∀ x c, X.env.cells.lookup x = some c → c ≠ X.env.locals := fun x c e z => by
  obtain ⟨v, o, ho, hd⟩ := I.cell x c e
  obtain ⟨m, ⟨o', es, ep, ho', hd', _⟩, _⟩ := I.loc
  rw [z, ho'] at ho; cases ho; rw [hd'] at hd; cases hd
theorem Inv.funs (I : Inv X pins σ H s) : s.heap.FunFrames X.base X.outer := by
  have all : ∀ (l : List Env), (∀ b ∈ frs l, b ∈ X.fs) → X.s_0.heap.FunFrames X.base l → s.heap.FunFrames X.base l := by
    intro l
    induction l with
    | nil => intro _ _; trivial
    | cons env r ih =>
      intro hs hl
      obtain ⟨hk, ⟨L, o, hf, hn, ho, hd⟩, hr⟩ := hl
      have hL : L ∈ X.fs := hs L (by unfold frs; rw [List.filterMap_cons, hf]; exact List.mem_cons_self)
      obtain ⟨sl, e⟩ := I.base.slot L o ho (I.ok.frf L hL) hL fun z => I.ok.exfs L z hL
      exact ⟨hk, ⟨L, _, hf, hn, e, hd⟩, ih (fun b hb => hs b (by unfold frs; rw [List.filterMap_cons, hf]; exact List.mem_cons_of_mem _ hb)) hr⟩
  exact all X.outer (fun _ hb => hb) I.ok.funs
theorem Inv.stack (I : Inv X pins σ H s) : s.heap.FunFrames X.base X.stack := by
  rcases I.ok.stk with e | ⟨e, hf⟩
  · rw [e]; exact I.funs
  · rw [e]
    obtain ⟨m, hn, _⟩ := I.loc
    refine .cons (by rw [I.ok.kind]; decide) hf hn ?_ I.funs
    exact Heap.get?_none_of_le (Nat.le_trans I.ok.bsz I.ok.above)
theorem Inv.stkSub (I : Inv X pins σ H s) : ∀ b ∈ frs X.stack, b ∈ X.env.locals :: X.fs := fun b hb => by
  rcases I.ok.stk with e | ⟨e, hf⟩
  · rw [e] at hb; exact List.mem_cons_of_mem _ hb
  · rw [e] at hb
    unfold frs at hb
    rw [List.filterMap_cons, hf] at hb
    exact hb
theorem Inv.stkFree (I : Inv X pins σ H s) : ∀ b ∈ frs X.stack, H b = none := fun b hb => by
  rcases List.mem_cons.mp (I.stkSub b hb) with e | hb
  · rw [e]; exact I.free
  · obtain ⟨_, o, ho, _⟩ := I.ok.funs.mem hb
    exact I.base.free b o ho (I.ok.frf b hb) fun z => I.ok.exfs b z hb
theorem Inv.step {g' : Array GenState} {t' : Nat} {d' : Drawn} {ch : List Addr} (I : Inv X pins σ H s)
    (hch : ∀ b ∈ ch, (b ∈ X.ex ∨ X.s_0.heap.objs.size ≤ b) ∧ b ≠ X.env.locals ∧ (∀ x c, X.env.cells.lookup x = some c → c ≠ b) ∧ ∀ p ∈ X.pn ++ pins, p.1 ≠ b)
    (keep : ∀ b o, b ≠ X.env.locals → b ∉ X.fs → b ∉ ch → s.heap.get? b = some o → H b = none → h'.get? b = some o)
    (slot : ∀ b o, b ≠ X.env.locals → b ∈ X.fs → b ∉ ch → s.heap.get? b = some o → H b = none → ∃ sl, h'.get? b = some { o with slots := sl }) (free : ∀ b o, b ∉ ch → s.heap.get? b = some o → H b = none → H' b = none)
    (there : ∀ b o, b ∉ ch → s.heap.get? b = some o → ∃ o', h'.get? b = some o')
    (tups : ∀ b xs, H b = some (.tup xs) → H' b = some (.tup xs)) (frzs : ∀ b o u, H b = some (.frz o u) → H' b = some (.frz o u)) (tbls : ∀ b ps, H b = some (.tbl ps) → ∃ more, H' b = some (.tbl (ps ++ more)))
    (ns : ∀ m, s.heap.Ns X.env.locals m → h'.Ns X.env.locals m) (hok : HOk X.prog X.w H' h') (hg : AllBare g') :
    Inv X pins σ H' { s with heap := h', gens := g', drawn := d', toks := t' } := by
  have neL : ∀ b o, X.s_0.heap.get? b = some o → b ≠ X.env.locals := fun b o e => Nat.ne_of_lt (Nat.lt_of_lt_of_le (Heap.lt_size e) I.ok.above)
  have neC : ∀ b o, X.s_0.heap.get? b = some o → b ∉ X.ex → b ∉ ch := fun b o e hx hb => by
    rcases (hch b hb).1 with z | z
    · exact hx z
    · exact absurd (Nat.lt_of_lt_of_le (Heap.lt_size e) z) (Nat.lt_irrefl _)
  have cellK : ∀ x c, X.env.cells.lookup x = some c → ∀ v, s.heap.IsCell c v → h'.IsCell c v := fun x c e v ⟨o, ho, hd⟩ => by
    have nch : c ∉ ch := fun z => (hch c z).2.2.1 x c e rfl
    by_cases hc : c ∈ X.fs
    · obtain ⟨sl, q⟩ := slot c o (I.cne x c e) hc nch ho (I.freeC x c e)
      exact ⟨_, q, hd⟩
    · exact ⟨o, keep c o (I.cne x c e) hc nch ho (I.freeC x c e), hd⟩
  refine ⟨I.ok, I.os, hg, ⟨fun b o e n hb hx => ?_, fun b o e n hb hx => ?_, fun b o e n hx => ?_, fun b o e hx => ?_, fun b xs e => tups b xs (I.base.tups b xs e), fun b o xs e => frzs b o xs (I.base.frzs b o xs e), fun b ps e => ?_⟩, ?_, fun x c e => ?_, ?_, fun x c e => ?_, fun p hp => ?_, hok, I.len⟩
  · exact keep b o (neL b o e) hb (neC b o e hx) (I.base.keep b o e n hb hx) (I.base.free b o e n hx)
  · obtain ⟨sl, e1⟩ := I.base.slot b o e n hb hx
    obtain ⟨sl', e2⟩ := slot b _ (neL b o e) hb (neC b o e hx) e1 (I.base.free b o e n hx)
    exact ⟨sl', e2⟩
  · obtain ⟨o', e1⟩ := I.base.there b o e hx
    exact free b o' (neC b o e hx) e1 (I.base.free b o e n hx)
  · obtain ⟨o', e1⟩ := I.base.there b o e hx
    exact there b o' (neC b o e hx) e1
  · obtain ⟨m1, e1⟩ := I.base.tbls b ps e
    obtain ⟨m2, e2⟩ := tbls b _ e1
    exact ⟨m1 ++ m2, by rw [e2, Array.append_assoc]⟩
  · obtain ⟨m, hn, hl⟩ := I.loc
    refine ⟨m, ns m hn, fun i x v e1 e2 e3 => ?_⟩
    obtain ⟨u, r, l⟩ := hl i x v e1 e2 e3
    refine ⟨u, r, ?_⟩
    rcases l with l | ⟨k, c, e, z⟩
    · exact .inl l
    · exact .inr ⟨k, c, e, cellK x c e _ z⟩
  · obtain ⟨v, z⟩ := I.cell x c e
    exact ⟨v, cellK x c e v z⟩
  · obtain ⟨m, ⟨o, _, _, ho, _⟩, _⟩ := I.loc
    exact free _ o (fun z => (hch _ z).2.1 rfl) ho I.free
  · obtain ⟨v, o, ho, hd⟩ := I.cell x c e
    exact free c o (fun z => (hch c z).2.2.1 x c e rfl) ho (I.freeC x c e)
  · obtain ⟨e, n, ne, nf, d⟩ := I.pin p hp
    have nch : p.1 ∉ ch := fun z => (hch p.1 z).2.2.2 p hp rfl
    exact ⟨keep p.1 p.2 ne nf nch e n, free p.1 p.2 nch e n, ne, nf, d⟩
theorem Inv.un {t' : Nat} (I : Inv X pins σ H s) (u : Un X.fs [] H H' s.heap h') (hok : HOk X.prog X.w H' h') : Inv X pins σ H' { s with heap := h', toks := t' } := by
  obtain ⟨m, ⟨o, es, ep, ho, r⟩, _⟩ := id I.loc
  obtain ⟨sl, hL⟩ := u.any ho I.free (by simp)
  exact I.step (g' := s.gens) (d' := s.drawn) (ch := []) (fun _ z => nomatch z) (fun b o _ hb _ e n => u.keep b o e n hb (by simp)) (fun b o _ hb _ e n => u.slot b o e n hb (by simp)) (fun b o _ e n => u.free b o e n (by simp)) (fun b o _ e => u.there b o e (by simp)) u.tups u.frzs u.tbls (fun m' hm => by
    obtain ⟨o', es', ep', ho', r'⟩ := hm
    rw [ho] at ho'; cases ho'
    exact ⟨_, es', ep', hL, r'⟩) hok I.bare
theorem Inv.call {g' : Array GenState} {t' : Nat} {d' : Drawn} {ch : List Addr} (I : Inv X pins σ H s) (u : Un (frs X.stack) ch H H' s.heap h') (hok : HOk X.prog X.w H' h') (hg : AllBare g')
    (hch : ∀ b ∈ ch, (b ∈ X.ex ∨ X.s_0.heap.objs.size ≤ b) ∧ b ≠ X.env.locals ∧ (∀ x c, X.env.cells.lookup x = some c → c ≠ b) ∧ ∀ p ∈ X.pn ++ pins, p.1 ≠ b) :
    Inv X pins σ H' { s with heap := h', gens := g', drawn := d', toks := t' } := by
  obtain ⟨m, ⟨o, es, ep, ho, r⟩, _⟩ := id I.loc
  obtain ⟨sl, hL⟩ := u.any ho I.free fun z => (hch _ z).2.1 rfl
  exact I.step (ch := ch) hch (fun b o hL hb hc e n => u.keep b o e n (fun z => (List.mem_cons.mp (I.stkSub b z)).elim hL hb) hc) (fun b o _ _ hc e n => u.any e n hc) (fun b o hc e n => u.free b o e n hc) (fun b o hc e => u.there b o e hc) u.tups u.frzs u.tbls (fun m' hm => by
    obtain ⟨o', es', ep', ho', r'⟩ := hm
    rw [ho] at ho'; cases ho'
    exact ⟨_, es', ep', hL, r'⟩) hok hg
theorem Inv.turned {t' : Nat} {it : Addr} (I : Inv X pins σ H s) (k : ∀ b o, b ≠ it → s.heap.get? b = some o → h'.get? b = some o) (hn : H it = none) (hL : it ≠ X.env.locals)
    (h1 : it ∈ X.ex ∨ X.s_0.heap.objs.size ≤ it) (h2 : ∀ x c, X.env.cells.lookup x = some c → c ≠ it) (h3 : ∀ p ∈ X.pn ++ pins, p.1 ≠ it) : Inv X pins σ H { s with heap := h', toks := t' } := by
  have nit : ∀ b u, H b = some u → b ≠ it := fun b u e z => by rw [z, hn] at e; cases e
  refine I.step (g' := s.gens) (d' := s.drawn) (ch := [it]) (fun b hb => ?_) (fun b o _ _ hc e _ => k b o (fun z => hc (by simp [z])) e) (fun b o _ _ hc e _ => ⟨o.slots, k b o (fun z => hc (by simp [z])) e⟩) (fun _ _ _ _ n => n)
    (fun b o hc e => ⟨o, k b o (fun z => hc (by simp [z])) e⟩) (fun _ _ e => e) (fun _ _ _ e => e) (fun b ps e => ⟨#[], by rw [e]; simp⟩) (fun m hm => ?_) (fun b u e => ?_) I.bare
  · have e : b = it := by simpa using hb
    subst e
    exact ⟨h1, hL, h2, h3⟩
  · obtain ⟨o, es, ep, ho, r⟩ := hm
    exact ⟨o, es, ep, k _ o (Ne.symm hL) ho, r⟩
  · refine (I.hok b u e).stay (fun c v hc q => k c v ?_ q) (fun _ q => q) fun _ _ q => q
    rcases hc with z | z
    · rw [z]; exact nit b u e
    · exact nit c _ z
theorem Inv.tok (I : Inv X pins σ H s) (t : Nat) : Inv X pins σ H { s with toks := t } := I.un (h' := s.heap) (t' := t) Un.refl I.hok
theorem Inv.kept {t' : Nat} (I : Inv X pins σ H s) (k : ∀ b u, s.heap.get? b = some u → h'.get? b = some u) : Inv X pins σ H { s with heap := h', toks := t' } := I.un (Un.kept k) (I.hok.kept k)
theorem Inv.laid {a : Addr} {o : HO} {t' : Nat} (I : Inv X pins σ H s) (k : ∀ b u, s.heap.get? b = some u → h'.get? b = some u) (hp : s.heap.objs.size ≤ a) (new : ObjOk X.prog X.w (upd H a o) h' a o) :
    Inv X pins σ (upd H a o) { s with heap := h', toks := t' } := I.un (Un.laid k hp (I.hok.fresh hp)) (I.hok.laid k hp new)
theorem Inv.write {x e : Addr} {o : HO} {t' : Nat} (I : Inv X pins σ H s) (mu : Mut (H x)) (he : e = x ∨ H e = some (.own x)) (k : ∀ b u, b ≠ e → s.heap.get? b = some u → h'.get? b = some u) (heo : ∃ u, h'.get? e = some u)
    (new : ObjOk X.prog X.w (upd H x o) h' x o) : Inv X pins σ (upd H x o) { s with heap := h', toks := t' } := I.un (Un.write mu he k heo) (I.hok.write mu he k heo new)
theorem Inv.weak {σ' : List (Option V)} (I : Inv X pins σ H s) (hl : σ'.length = σ.length) (w : ∀ (i : Nat) v, σ'[i]? = some (some v) → σ[i]? = some (some v)) : Inv X pins σ' H s :=
  ⟨I.ok, I.os, I.bare, I.base, let ⟨m, hn, hl'⟩ := I.loc; ⟨m, hn, fun i x v e1 e2 e3 => hl' i x v e1 (w i v e2) e3⟩, I.cell, I.free, I.freeC, I.pin, I.hok, hl.trans I.len⟩
theorem Inv.pins_of {pins' : List (Addr × Obj)} (I : Inv X pins σ H s) (h : ∀ p ∈ pins', s.heap.get? p.1 = some p.2 ∧ H p.1 = none ∧ p.1 ≠ X.env.locals ∧ p.1 ∉ X.fs ∧ ∀ v, p.2.data ≠ .cell v) : Inv X pins' σ H s :=
  ⟨I.ok, I.os, I.bare, I.base, I.loc, I.cell, I.free, I.freeC, fun p hp => (List.mem_append.mp hp).elim (fun z => I.pin p (List.mem_append_left _ z)) (h p), I.hok, I.len⟩
theorem nodup_ix {N : List Str} (hN : N.Nodup) {i j : Nat} {x : Str} (a : N[i]? = some x) (b : N[j]? = some x) : i = j := by
  obtain ⟨h1, e1⟩ := List.getElem?_eq_some_iff.mp a
  obtain ⟨h2, e2⟩ := List.getElem?_eq_some_iff.mp b
  exact (List.getElem_inj hN).mp (e1.trans e2.symm)
theorem store_ok2 {M : Model} {A : Around} {E : Value → Shared → Prop} {i : Nat} {x : Str} {v : V} {u : Value} {Q : Unit → Shared → Prop} (I : Inv X pins σ H s) (hN : X.N.Nodup) (hi : X.N[i]? = some x) (hx : Loc X.env.scope x) (r : RelV v u)
    (h : ∀ s', Inv X pins (σ.set i (some v)) H s' → (∃ a, Heap.SameBut a s.heap s'.heap ∧ (a = X.env.locals ∨ X.env.cells.lookup x = some a)) → Q () s') (hf : X.fn x = true ∨ X.env.scope.names.lookup x = some .local := by first | exact .inl rfl | exact .inr rfl | assumption) : wpAny M A (storeName X.env x u) Q E s := by
  obtain ⟨m, hn, hl⟩ := id I.loc
  have hcls : (X.env.scope.kind == .class || (X.env.scope.kind == .module && X.env.locals != X.env.globals)) = false := by rw [I.ok.kind]; rfl
  have hiσ : i < σ.length := by rw [I.len]; exact (List.getElem?_eq_some_iff.mp hi).1
  have cne := I.cne
  have tracked : ∀ {a : Addr} {h' : Heap}, (∃ o, s.heap.get? a = some o ∧ H a = none) → Heap.SameBut a s.heap h' → HOk X.prog X.w H h' := fun {a h'} ha hs b ob e => by
    obtain ⟨_, _, hfree⟩ := ha
    refine (I.hok b ob e).stay (fun c w' hc q => (hs.2 c ?_).trans q) (fun _ q => q) fun _ _ q => q
    rintro rfl
    rcases hc with rfl | hc
    · rw [hfree] at e; cases e
    · rw [hfree] at hc; cases hc
  rcases hx with hk | hk
  · refine wpAny_storeName_local hk hn (fun h' hn' hs => ?_) hcls
    obtain ⟨oL, _, _, hoL, _⟩ := id hn
    refine h _ ⟨I.ok, I.os, I.bare, ⟨fun b o e n hb hx => ?_, fun b o e n hb hx => ?_, I.base.free, fun b o e hx => ?_, I.base.tups, I.base.frzs, I.base.tbls⟩, ⟨_, hn', fun j y v' e1 e2 e3 => ?_⟩, fun y c e => ?_, I.free, I.freeC, fun p hp => ?_, tracked ⟨oL, hoL, I.free⟩ hs, by simpa using I.len⟩ ⟨_, hs, .inl rfl⟩
    · exact (hs.2 b (Nat.ne_of_lt (Nat.lt_of_lt_of_le (Heap.lt_size e) I.ok.above))).trans (I.base.keep b o e n hb hx)
    · obtain ⟨sl, e1⟩ := I.base.slot b o e n hb hx
      exact ⟨sl, (hs.2 b (Nat.ne_of_lt (Nat.lt_of_lt_of_le (Heap.lt_size e) I.ok.above))).trans e1⟩
    · obtain ⟨o', e1⟩ := I.base.there b o e hx
      exact ⟨o', (hs.2 b (Nat.ne_of_lt (Nat.lt_of_lt_of_le (Heap.lt_size e) I.ok.above))).trans e1⟩
    · by_cases hj : j = i
      · subst hj
        rw [hi] at e1; cases e1
        rw [List.getElem?_set_self hiσ] at e2
        cases e2
        exact ⟨u, r, .inl ⟨hk, by simp⟩⟩
      · rw [List.getElem?_set_ne (Ne.symm hj)] at e2
        obtain ⟨u', r', q⟩ := hl j y v' e1 e2 e3
        refine ⟨u', r', ?_⟩
        rcases q with ⟨k, e⟩ | ⟨k, c, e, z⟩
        · refine .inl ⟨k, ?_⟩
          have : y ≠ x := fun e => hj (nodup_ix hN e1 (e ▸ hi))
          simp [this, e]
        · exact .inr ⟨k, c, e, z.sameBut hs (cne y c e)⟩
    · obtain ⟨w', z⟩ := I.cell y c e
      exact ⟨w', z.sameBut hs (cne y c e)⟩
    · obtain ⟨e, n, ne, nf, d⟩ := I.pin p hp
      exact ⟨(hs.2 p.1 ne).trans e, n, ne, nf, d⟩
  · have hfn : X.fn x = true := by
      rcases hf with z | z
      · exact z
      · rw [z] at hk; cases hk
    obtain ⟨c, hc⟩ := I.ok.has x (.inl hk)
    obtain ⟨w', z⟩ := I.cell x c hc
    refine wpAny_storeName_cell I.ok.kind hk hc z (fun h' hc' hs => ?_)
    obtain ⟨oc, hoc, hocd⟩ := id z
    refine h { s with heap := h' } ⟨I.ok, I.os, I.bare, ⟨fun b o e n hb hx => ?_, fun b o e n hb hx => ?_, I.base.free, fun b o e hx => ?_, I.base.tups, I.base.frzs, I.base.tbls⟩, ⟨m, hn.sameBut hs (Ne.symm (cne x c hc)), fun j y v' e1 e2 e3 => ?_⟩, fun y c' e => ?_, I.free, I.freeC, fun p hp => ?_, tracked ⟨oc, hoc, I.freeC x c hc⟩ hs, by simpa using I.len⟩ ⟨c, hs, .inr hc⟩
    · exact (hs.2 b (Nat.ne_of_lt (Nat.lt_of_lt_of_le (Heap.lt_size e) (I.ok.cab x c hfn hc)))).trans (I.base.keep b o e n hb hx)
    · obtain ⟨sl, e1⟩ := I.base.slot b o e n hb hx
      exact ⟨sl, (hs.2 b (Nat.ne_of_lt (Nat.lt_of_lt_of_le (Heap.lt_size e) (I.ok.cab x c hfn hc)))).trans e1⟩
    · obtain ⟨o', e1⟩ := I.base.there b o e hx
      exact ⟨o', (hs.2 b (Nat.ne_of_lt (Nat.lt_of_lt_of_le (Heap.lt_size e) (I.ok.cab x c hfn hc)))).trans e1⟩
    · by_cases hj : j = i
      · subst hj
        rw [hi] at e1; cases e1
        rw [List.getElem?_set_self hiσ] at e2
        cases e2
        exact ⟨u, r, .inr ⟨.inl hk, c, hc, hc'⟩⟩
      · rw [List.getElem?_set_ne (Ne.symm hj)] at e2
        obtain ⟨u', r', q⟩ := hl j y v' e1 e2 e3
        refine ⟨u', r', ?_⟩
        rcases q with q | ⟨k, c', e, z'⟩
        · exact .inl q
        · refine .inr ⟨k, c', e, z'.sameBut hs ?_⟩
          rintro rfl
          exact hj (nodup_ix hN e1 (I.ok.inj _ _ _ e hc ▸ hi))
    · by_cases hcc : c' = c
      · subst hcc; exact ⟨_, hc'⟩
      · obtain ⟨w2, z2⟩ := I.cell y c' e
        exact ⟨w2, z2.sameBut hs hcc⟩
    · obtain ⟨e, n, ne, nf, d⟩ := I.pin p hp
      refine ⟨(hs.2 p.1 ?_).trans e, n, ne, nf, d⟩
      intro q
      rw [q, hoc] at e
      have q' : oc = p.2 := Option.some.inj e
      exact d w' (by rw [← q']; exact hocd)
theorem store_ok {M : Model} {A : Around} {E : Value → Shared → Prop} {i : Nat} {x : Str} {v : V} {u : Value} {Q : Unit → Shared → Prop} (I : Inv X pins σ H s) (hN : X.N.Nodup) (hi : X.N[i]? = some x) (hx : Loc X.env.scope x) (r : RelV v u)
    (h : ∀ s', Inv X pins (σ.set i (some v)) H s' → Q () s') (hf : X.fn x = true ∨ X.env.scope.names.lookup x = some .local := by first | exact .inl rfl | exact .inr rfl | assumption) : wpAny M A (storeName X.env x u) Q E s :=
  store_ok2 I hN hi hx r (fun s' I' _ => h s' I') hf
theorem Inv.call' {s' : Shared} {ch : List Addr} (I : Inv X pins σ H s) (ho : s'.os = s.os) (u : Un (frs X.stack) ch H H' s.heap s'.heap) (hok : HOk X.prog X.w H' s'.heap) (hg : AllBare s'.gens)
    (hch : ∀ b ∈ ch, (b ∈ X.ex ∨ X.s_0.heap.objs.size ≤ b) ∧ b ≠ X.env.locals ∧ (∀ x c, X.env.cells.lookup x = some c → c ≠ b) ∧ ∀ p ∈ X.pn ++ pins, p.1 ≠ b) : Inv X pins σ H' s' := by
  obtain ⟨h', g', d', t', o'⟩ := s'
  have e : o' = s.os := ho
  subst e
  exact I.call (g' := g') (t' := t') (d' := d') u hok hg hch
end
abbrev XK := Value → Option Addr → Hp → Prop
abbrev St := List (Option V)
abbrev VK := V → Hp → Prop
abbrev TE := St → Hp → VK → Prop
abbrev TT := St → Hp → (Bool → Hp → Prop) → Prop
abbrev TA := St → Hp → (List V → Hp → Prop) → Prop
structure Ends where
  nx : St → Hp → Prop
  rt : VK
  bk : St → Hp → Prop := fun _ _ => False
  ct : St → Hp → Prop := fun _ _ => False
abbrev TS := Ends → St → Hp → Prop
def EP (X : Cx) (pins : List (Addr × Obj)) (σ : St) (Q : VK) (u : Value) (s' : Shared) : Prop := ∃ v H', Inv X pins σ H' s' ∧ RelV v u ∧ Q v H'
def TP (X : Cx) (pins : List (Addr × Obj)) (σ : St) (Q : Bool → Hp → Prop) (b : Bool) (s' : Shared) : Prop := ∃ H', Inv X pins σ H' s' ∧ Q b H'
def AP (X : Cx) (pins : List (Addr × Obj)) (σ : St) (Q : List V → Hp → Prop) (us : List Value) (s' : Shared) : Prop := ∃ vs H', Inv X pins σ H' s' ∧ Vals vs us ∧ Q vs H'
def SP (X : Cx) (pins : List (Addr × Obj)) (D : Ends) (f : Flow) (s' : Shared) : Prop :=
  match f with
  | .next => ∃ σ' H', Inv X pins σ' H' s' ∧ D.nx σ' H'
  | .brk => ∃ σ' H', Inv X pins σ' H' s' ∧ D.bk σ' H'
  | .cont => ∃ σ' H', Inv X pins σ' H' s' ∧ D.ct σ' H'
  | .ret u => ∃ v σ' H', Inv X pins σ' H' s' ∧ RelV v u ∧ D.rt v H'
def PE (X : Cx) (e : Expr) (t : TE) : Prop :=
  ∀ (pins : List (Addr × Obj)) (s : Shared) (σ : St) (H : Hp) (Q : VK), Inv X pins σ H s → t σ H Q → wpAny (model X.prog X.w) X.A (eval e X.env) (EP X pins σ Q) X.xe s
def PT (X : Cx) (e : Expr) (t : TT) : Prop :=
  ∀ (pins : List (Addr × Obj)) (s : Shared) (σ : St) (H : Hp) (Q : Bool → Hp → Prop), Inv X pins σ H s → t σ H Q → wpAny (model X.prog X.w) X.A (isTrue e X.env (eval e X.env)) (TP X pins σ Q) X.xe s
def PW (X : Cx) (e : Expr) (t : TT) : Prop :=
  ∀ (whole : Sem Value) (pins : List (Addr × Obj)) (s : Shared) (σ : St) (H : Hp) (Q : Bool → Hp → Prop), Inv X pins σ H s → t σ H Q → wpAny (model X.prog X.w) X.A (isTrue e X.env whole) (TP X pins σ Q) X.xe s
theorem PW.pt {X : Cx} {e : Expr} {t : TT} (h : PW X e t) : PT X e t := h _
def PA (X : Cx) (es : List Expr) (t : TA) : Prop :=
  ∀ (pos : Pos) (pins : List (Addr × Obj)) (s : Shared) (σ : St) (H : Hp) (Q : List V → Hp → Prop), Inv X pins σ H s → t σ H Q → wpAny (model X.prog X.w) X.A (spliced (backTo pos (starEach es X.env))) (AP X pins σ Q) X.xe s
def PS (X : Cx) (st : Stmt) (t : TS) : Prop :=
  ∀ (pins : List (Addr × Obj)) (s : Shared) (σ : St) (H : Hp) (D : Ends), Inv X pins σ H s → t D σ H → wpAny (model X.prog X.w) X.A (exec st X.env) (SP X pins D) X.xe s
def PSs (X : Cx) (st : List Stmt) (t : TS) : Prop :=
  ∀ (pins : List (Addr × Obj)) (s : Shared) (σ : St) (H : Hp) (D : Ends), Inv X pins σ H s → t D σ H → wpAny (model X.prog X.w) X.A (execs st X.env) (SP X pins D) X.xe s
theorem thn {α : Type} {t : Sem α} {Q Q' : α → Shared → Prop} {M : Model} {A : Around} {E : Value → Shared → Prop} {s : Shared} (h : wpAny M A t Q E s) (hQ : ∀ a s, Q a s → Q' a s) : wpAny M A t Q' E s := wpAny_mono h hQ fun _ _ x => x
end L2
namespace L2
open PySem PySem.Spec PyProof.Rows
section
variable {X : Cx}
def tVar (i : Nat) : TE := fun σ H Q => ∃ v, σ[i]? = some (some v) ∧ Q v H
def tC (v : V) : TE := fun _ H Q => Q v H
theorem pe_var {i : Nat} {x : Str} {pos : Pos} (hN : X.N[i]? = some x) (hv : Vis X.env.scope x) (hd : (x == ("__debug__" : Str)) = false := by decide) (hcd : (x == ("__classdict__" : Str)) = false := by decide) : PE X (.Name x pos) (tVar i) := by
  intro pins s σ H Q I h
  obtain ⟨v, e, h⟩ := h
  obtain ⟨m, hn, hl⟩ := I.loc
  obtain ⟨u, r, l⟩ := hl i x v hN e hv
  have fin : EP X pins σ Q u s := ⟨v, H, I, r, h⟩
  rcases l with ⟨hk, hm⟩ | ⟨hk, c, hc, hcell⟩
  · exact wpAny_Name (wpAny_loadName_local I.ok.kind hk hn hm fin) hd
  · rcases hk with hk | hk
    · exact wpAny_Name (wpAny_loadName_cell I.ok.kind hk hc hcell fin) hd
    · exact wpAny_Name (wpAny_loadName_free I.ok.kind hk hc hcell fin hcd) hd
theorem pe_int {i j pos} : PE X (.Constant (.int i) j pos) (tC (.int i)) := fun _ _ _ H _ I h => wpAny_Constant_int ⟨.int i, H, I.tok _, ⟨_, rfl⟩, h⟩
theorem pe_bl {b j pos} : PE X (.Constant (.bool b) j pos) (tC (.bl b)) := fun _ _ _ H _ I h => Constant_bool ⟨.bl b, H, I, rfl, h⟩
theorem pe_non {j pos} : PE X (.Constant .none j pos) (tC .non) := fun _ _ _ H _ I h => Constant_none ⟨.non, H, I, rfl, h⟩
theorem pe_str {x j pos} : PE X (.Constant (.str x) j pos) (tC (.str x)) := fun _ _ _ H _ I h => Calls.Constant_str ⟨.str x, H, I.tok _, ⟨_, rfl⟩, h⟩
def Gl (X : Cx) (x : Str) : Prop := X.env.kindOf x = some .globalImplicit
theorem ld_glob {E : Value → Shared → Prop} {pins : List (Addr × Obj)} {s : Shared} {σ : St} {H : Hp} {x : Str} {u : Value} {pos : Pos} {Q : Value → Shared → Prop} (I : Inv X pins σ H s) (hg : Gl X x) (hm : X.mg x = some u) (h : Q u s)
    (hd : (x == ("__debug__" : Str)) = false := by decide) : wpAny (model X.prog X.w) X.A (eval (.Name x pos) X.env) Q E s :=
  Calls.Name_function_global I.ok.kind hg (Calls.loadGlobal_global (by rw [I.ok.glob]; exact I.mod.glob.keeps I.bk) hm h) hd
theorem ld_blt {E : Value → Shared → Prop} {pins : List (Addr × Obj)} {s : Shared} {σ : St} {H : Hp} {x : Str} {u : Value} {pos : Pos} {Q : Value → Shared → Prop} (I : Inv X pins σ H s) (hg : Gl X x) (hm : X.mg x = none) (hv : bootBuiltins x = some u) (h : Q u s)
    (hn : x ≠ "__name__" := by decide) (hd : (x == ("__debug__" : Str)) = false := by decide) : wpAny (model X.prog X.w) X.A (eval (.Name x pos) X.env) Q E s := by
  obtain ⟨mb, h1, h2⟩ := I.mod.blt
  exact Calls.Name_function_global I.ok.kind hg (Calls.loadGlobal_builtin (by rw [I.ok.glob]; exact I.mod.glob.keeps I.bk) hm (by rw [I.ok.blt]; exact h1.keeps I.bk) ((h2 x hn).trans hv) h) hd
theorem pe_glob {x : Str} {v : V} {u : Value} {pos : Pos} (hg : Gl X x) (hm : X.mg x = some u) (r : RelV v u) (hd : (x == ("__debug__" : Str)) = false := by decide) : PE X (.Name x pos) (tC v) :=
  fun _ _ _ H _ I h => ld_glob I hg hm ⟨v, H, I, r, h⟩ hd
theorem pe_bltn {x : Str} {v : V} {u : Value} {pos : Pos} (hg : Gl X x) (hm : X.mg x = none) (hv : bootBuiltins x = some u) (r : RelV v u) (hn : x ≠ "__name__" := by decide) (hd : (x == ("__debug__" : Str)) = false := by decide) : PE X (.Name x pos) (tC v) :=
  fun _ _ _ H _ I h => ld_blt I hg hm hv ⟨v, H, I, r, h⟩ hn hd
variable {a b : Expr} {ta tb : TE} {pos : Pos}
def tB (t : TE) : TT := fun σ H Q => t σ H fun x H1 => ∃ c, x = .bl c ∧ Q c H1
theorem pt_val {e : Expr} {t : TE} (h : PE X e t) (he : ∀ whole, isTrue e X.env whole = (do let v ← whole; standAt e.pos; holding [v] (truthy v)) := by intro _; rfl) : PT X e (tB t) := by
  intro pins s σ H Q I hw
  refine isTrue_plain (thn (h pins s σ H _ I hw) fun v s1 ⟨x, H1, I1, r1, q1⟩ => ?_) (he _)
  obtain ⟨d, rfl, q⟩ := q1
  cases r1
  exact wpAny_truthy_bool ⟨H1, I1, q⟩
variable {tA tB' : TT} {rest : List Expr}
def tOr (t u : TT) : TT := fun σ H Q => t σ H fun c H1 => if c = true then Q true H1 else u σ H1 Q
def tNot (t : TT) : TT := fun σ H Q => t σ H fun c H1 => Q (!c) H1
theorem pw_or1 (ha : PT X a tA) : PW X (.BoolOp .Or [a] pos) tA := by
  intro wh pins s σ H Q I h
  refine isTrue_or (thn (ha pins s σ H Q I h) fun c s1 e => ?_)
  cases c with
  | false => exact isTrue_or_nil e
  | true => exact e
theorem pw_or (ha : PT X a tA) (hb : PW X (.BoolOp .Or (b :: rest) pos) tB') : PW X (.BoolOp .Or (a :: b :: rest) pos) (tOr tA tB') := by
  intro wh pins s σ H Q I h
  refine isTrue_or (thn (ha pins s σ H _ I h) fun c s1 ⟨H1, I1, q1⟩ => ?_)
  cases c with
  | true => exact ⟨H1, I1, q1⟩
  | false => exact hb wh pins s1 σ H1 Q I1 q1
theorem pt_not (ha : PT X a tA) : PT X (.UnaryOp .Not a pos) (tNot tA) := by
  intro pins s σ H Q I h
  exact isTrue_not (ha pins s σ H (fun c H1 => Q (!c) H1) I h)
def tAndV (ta tb : TE) : TE := fun σ H Q => ta σ H fun x H1 => ∃ c, x = .bl c ∧ if c = true then tb σ H1 Q else Q (.bl false) H1
def tOrV (ta tb : TE) : TE := fun σ H Q => ta σ H fun x H1 => ∃ c, x = .bl c ∧ if c = true then Q (.bl true) H1 else tb σ H1 Q
def tNotV (ta : TE) : TE := fun σ H Q => ta σ H fun x H1 => ∃ c, x = .bl c ∧ Q (.bl (!c)) H1
theorem pe_one {op} {t : TE} (h : PE X a t) : PE X (.BoolOp op [a] pos) t := fun pins s σ H Q I hw => BoolOp_one (h pins s σ H Q I hw)
theorem pe_and (ha : PE X a ta) (hb : PE X (.BoolOp .And (b :: rest) pos) tb) : PE X (.BoolOp .And (a :: b :: rest) pos) (tAndV ta tb) := by
  intro pins s σ H Q I h
  refine BoolOp_and (thn (ha pins s σ H _ I h) fun v s1 ⟨x, H1, I1, r1, q1⟩ => ?_)
  obtain ⟨c, rfl, q1⟩ := q1
  cases r1
  refine wpAny_truthy_bool ?_
  cases c with
  | true => exact hb pins s1 σ H1 Q I1 q1
  | false => exact ⟨.bl false, H1, I1, rfl, q1⟩
theorem pe_or (ha : PE X a ta) (hb : PE X (.BoolOp .Or (b :: rest) pos) tb) : PE X (.BoolOp .Or (a :: b :: rest) pos) (tOrV ta tb) := by
  intro pins s σ H Q I h
  refine BoolOp_or (thn (ha pins s σ H _ I h) fun v s1 ⟨x, H1, I1, r1, q1⟩ => ?_)
  obtain ⟨c, rfl, q1⟩ := q1
  cases r1
  refine wpAny_truthy_bool ?_
  cases c with
  | false => exact hb pins s1 σ H1 Q I1 q1
  | true => exact ⟨.bl true, H1, I1, rfl, q1⟩
theorem pe_not (ha : PE X a ta) : PE X (.UnaryOp .Not a pos) (tNotV ta) := by
  intro pins s σ H Q I h
  refine UnaryOp_ (thn (ha pins s σ H _ I h) fun v s1 ⟨x, H1, I1, r1, q1⟩ => ?_)
  obtain ⟨c, rfl, q1⟩ := q1
  cases r1
  exact not_of (wpAny_truthy_bool ⟨.bl (!c), H1, I1, rfl, q1⟩)
def tIf (t : TT) (ta tb : TE) : TE := fun σ H Q => t σ H fun c H1 => if c = true then ta σ H1 Q else tb σ H1 Q
theorem pe_ifExp {c : Expr} (hc : PT X c tA) (ha : PE X a ta) (hb : PE X b tb) : PE X (.IfExp c a b pos) (tIf tA ta tb) := by
  intro pins s σ H Q I h
  refine wpAny_IfExp (thn (hc pins s σ H _ I h) fun d s1 ⟨H1, I1, q1⟩ => ?_)
  cases d with
  | true => exact ha pins s1 σ H1 Q I1 q1
  | false => exact hb pins s1 σ H1 Q I1 q1
end
end L2
namespace L2
open PySem PySem.Spec PyProof.Rows
def SqL (K : PySem.W.Frag) (H : Hp) (a : Addr) (xs : List V) : Prop :=
  Rd H a (.lst xs) ∨
    ∃ (o : Obj) (its : Array Value) (n : Nat), K.lookup a = some o ∧ o.cls = .type "list" ∧ o.dict = none ∧ o.data = .seq its n ∧ its.size ≤ sizeLine ∧ Vals xs its.toList
def SqT (K : PySem.W.Frag) (H : Hp) (a : Addr) (xs : List V) : Prop :=
  Rd H a (.tup xs) ∨
    ∃ (o : Obj) (its : Array Value) (n : Nat), K.lookup a = some o ∧ o.cls = .type "tuple" ∧ o.data = .seq its n ∧ its.size ≤ sizeLine ∧ Vals xs its.toList
def absV : Value → Option V
  | .none => some .non
  | .bool b => some (.bl b)
  | .int i _ => some (.int i)
  | .str x _ => some (.str x)
  | .bytes b _ => some (.byt b)
  | .float b _ => some (.flt b)
  | .ref a => some (.ref a)
  | .type n => some (.ty n)
  | _ => none
theorem RelV.abs {x : V} {u : Value} (r : RelV x u) : absV u = some x := by
  cases x with
  | non => cases r; rfl
  | bl _ => cases r; rfl
  | int _ => obtain ⟨t, rfl⟩ := r; rfl
  | str _ => obtain ⟨t, rfl⟩ := r; rfl
  | byt _ => obtain ⟨t, rfl⟩ := r; rfl
  | flt _ => obtain ⟨t, rfl⟩ := r; rfl
  | ref _ => cases r; rfl
  | ty _ => cases r; rfl
theorem RelV.inj {x y : V} {u : Value} (r : RelV x u) (q : RelV y u) : x = y := Option.some.inj (r.abs.symm.trans q.abs)
theorem Vals.inj : ∀ {xs ys : List V} {us : List Value}, Vals xs us → Vals ys us → xs = ys
  | _, _, _, .nil, .nil => rfl
  | _, _, _, .cons r t, .cons r' t' => by rw [r.inj r', Vals.inj t t']
section
variable {X : Cx} {pins : List (Addr × Obj)} {σ : St} {H : Hp} {s : Shared} {a : Addr} {xs ys : List V}
theorem SqL.of {K : PySem.W.Frag} (h : H a = some (.lst xs)) : SqL K H a xs := .inl (.inl h)
theorem SqT.of {K : PySem.W.Frag} (h : H a = some (.tup xs)) : SqT K H a xs := .inl (.inl h)
theorem Inv.list (I : Inv X pins σ H s) (h : SqL X.K H a xs) : ∃ its : List Value, Vals xs its ∧ PlainL s.heap a its.toArray ∧ xs.length ≤ sizeLine := by
  rcases h with h | ⟨o, its, n, hk, hc, hd, hs, hz, r⟩
  · obtain ⟨z, its, n, r, e⟩ := h.ok I.hok
    exact ⟨its, r, ⟨_, n, e, rfl, rfl, rfl⟩, z⟩
  · refine ⟨its.toList, r, ⟨o, n, I.kIn a o hk, hc, hd, by simpa using hs⟩, ?_⟩
    have e := r.length
    simp only [Array.length_toList] at e
    omega
theorem Inv.tuple (I : Inv X pins σ H s) (h : SqT X.K H a xs) : ∃ its : List Value, Vals xs its ∧ IsTup s.heap a its.toArray ∧ xs.length ≤ sizeLine := by
  rcases h with h | ⟨o, its, n, hk, hc, hs, hz, r⟩
  · obtain ⟨z, its, r, p⟩ := h.ok I.hok
    exact ⟨its, r, p, z⟩
  · refine ⟨its.toList, r, ⟨o, I.kIn a o hk, hc, n, by simpa using hs⟩, ?_⟩
    have e := r.length
    simp only [Array.length_toList] at e
    omega
theorem Inv.list_inj (I : Inv X pins σ H s) (h : SqL X.K H a xs) (h' : SqL X.K H a ys) : xs = ys := by
  obtain ⟨its, r, ⟨o, n, e, _, _, d⟩, _⟩ := I.list h
  obtain ⟨its', r', ⟨o', n', e', _, _, d'⟩, _⟩ := I.list h'
  rw [e] at e'; cases e'
  rw [d] at d'
  injection d' with d1 _
  have : its = its' := by simpa using congrArg Array.toList d1
  subst this
  exact r.inj r'
theorem Inv.tuple_inj (I : Inv X pins σ H s) (h : SqT X.K H a xs) (h' : SqT X.K H a ys) : xs = ys := by
  obtain ⟨its, r, ⟨o, e, _, n, d⟩, _⟩ := I.tuple h
  obtain ⟨its', r', ⟨o', e', _, n', d'⟩, _⟩ := I.tuple h'
  rw [e] at e'; cases e'
  rw [d] at d'
  injection d' with d1 _
  have : its = its' := by simpa using congrArg Array.toList d1
  subst this
  exact r.inj r'
end
abbrev Cx.wish (X : Cx) (E : Value → Shared → Prop) : Cx := { X with xe := E }
abbrev Cx.nox (X : Cx) : Cx := X.wish fun _ _ => False
theorem Cx.Ok.wish {X : Cx} (ok : X.Ok) (E : Value → Shared → Prop) : (X.wish E).Ok :=
  ⟨ok.mod, ok.kind, ok.glob, ok.blt, ok.above, ok.inj, ok.has, ok.cab, ok.hd, ok.frames, ok.stk, ok.exf, ok.bs, ok.bsz, ok.noex, ok.exfs, ok.funs, ok.frf⟩
theorem Cx.Ok.unwish {X : Cx} {E : Value → Shared → Prop} (ok : (X.wish E).Ok) : X.Ok :=
  ⟨ok.mod, ok.kind, ok.glob, ok.blt, ok.above, ok.inj, ok.has, ok.cab, ok.hd, ok.frames, ok.stk, ok.exf, ok.bs, ok.bsz, ok.noex, ok.exfs, ok.funs, ok.frf⟩
section
variable {X : Cx} {pins : List (Addr × Obj)} {σ : St} {H : Hp} {s : Shared} {E : Value → Shared → Prop}
theorem Inv.wish (I : Inv X pins σ H s) (E : Value → Shared → Prop) : Inv (X.wish E) pins σ H s := ⟨I.ok.wish E, I.os, I.bare, I.base, I.loc, I.cell, I.free, I.freeC, I.pin, I.hok, I.len⟩
theorem Inv.unwish (I : Inv (X.wish E) pins σ H s) : Inv X pins σ H s := ⟨I.ok.unwish, I.os, I.bare, I.base, I.loc, I.cell, I.free, I.freeC, I.pin, I.hok, I.len⟩
theorem SP.unwish {D : Ends} {f : Flow} {s' : Shared} (h : SP (X.wish E) pins D f s') : SP X pins D f s' := by
  cases f with
  | next => obtain ⟨σ', H', I, q⟩ := h; exact ⟨σ', H', I.unwish, q⟩
  | brk => obtain ⟨σ', H', I, q⟩ := h; exact ⟨σ', H', I.unwish, q⟩
  | cont => obtain ⟨σ', H', I, q⟩ := h; exact ⟨σ', H', I.unwish, q⟩
  | ret u => obtain ⟨v, σ', H', I, r, q⟩ := h; exact ⟨v, σ', H', I.unwish, r, q⟩
theorem PE.nox {e : Expr} {t : TE} (h : PE X.nox e t) : PE X e t := fun pins s σ H Q I hw =>
  wpAny_mono (h pins s σ H Q (I.wish _) hw) (fun _ _ ⟨v, H', I', r, q⟩ => ⟨v, H', I'.unwish, r, q⟩) fun _ _ z => False.elim z
theorem PT.nox {e : Expr} {t : TT} (h : PT X.nox e t) : PT X e t := fun pins s σ H Q I hw =>
  wpAny_mono (h pins s σ H Q (I.wish _) hw) (fun _ _ ⟨H', I', q⟩ => ⟨H', I'.unwish, q⟩) fun _ _ z => False.elim z
theorem PSs.nox {st : List Stmt} {t : TS} (h : PSs X.nox st t) : PSs X st t := fun pins s σ H D I hw =>
  wpAny_mono (h pins s σ H D (I.wish _) hw) (fun _ _ q => q.unwish) fun _ _ z => False.elim z
end
section
variable {X : Cx} {st : Stmt} {rest : List Stmt} {t u : TS} {e : Expr} {te : TE} {pos : Pos}
def tNext : TS := fun D σ H => D.nx σ H
def tSeq (t u : TS) : TS := fun D σ H => t { D with nx := u D } σ H
theorem pss_nil : PSs X [] tNext := fun _ _ σ H _ I h => wpAny_execs_nil ⟨σ, H, I, h⟩
theorem pss_cons (h1 : PS X st t) (h2 : PSs X rest u) : PSs X (st :: rest) (tSeq t u) := by
  intro pins s σ H D I h
  refine wpAny_execs_cons (thn (h1 pins s σ H { D with nx := u D } I h) fun f s1 q => ?_)
  cases f with
  | next =>
    obtain ⟨σ', H', I', q⟩ := q
    exact h2 pins s1 σ' H' D I' q
  | ret v => exact q
  | brk => exact q
  | cont => exact q
theorem pss_one (h1 : PS X st t) : PSs X [st] t := by
  intro pins s σ H D I h
  refine wpAny_execs_cons (thn (h1 pins s σ H D I h) fun f s1 q => ?_)
  cases f with
  | next => exact wpAny_execs_nil q
  | ret v => exact q
  | brk => exact q
  | cont => exact q
theorem Inv.quiet {pins : List (Addr × Obj)} {σ : St} {H : Hp} {s : Shared} (I : Inv X pins σ H s) : interactive X.env = false := by simp [interactive, I.ok.kind]
def tDrop (te : TE) : TS := fun D σ H => te σ H fun _ H1 => D.nx σ H1
theorem ps_expr (he : PE X e te) (hs : swapsWith e none pos.line X.env = pure false := by rfl) : PS X (.Expr e pos) (tDrop te) := by
  intro pins s σ H D I h
  exact wpAny_Expr_any (thn (he pins s σ H _ I h) fun v s1 ⟨x, H1, I1, r1, q1⟩ => ⟨σ, H1, I1, q1⟩) I.quiet hs
def tRet (te : TE) : TS := fun D σ H => te σ H D.rt
theorem ps_ret (he : PE X e te) : PS X (.Return (some e) pos) (tRet te) := by
  intro pins s σ H D I h
  exact wpAny_Return_some (thn (he pins s σ H _ I h) fun v s1 ⟨x, H1, I1, r1, q1⟩ => ⟨x, σ, H1, I1, r1, q1⟩)
def tIfS (c : TT) (t u : TS) : TS := fun D σ H => c σ H fun b H1 => if b = true then t D σ H1 else u D σ H1
theorem ps_if {c : Expr} {a b : List Stmt} {tc : TT} (hc : PT X c tc) (ha : PSs X a t) (hb : PSs X b u) : PS X (.If c a b pos) (tIfS tc t u) := by
  intro pins s σ H D I h
  refine wpAny_If (thn (hc pins s σ H _ I h) fun d s1 ⟨H1, I1, q1⟩ => ?_)
  cases d with
  | true => exact ha pins s1 σ H1 D I1 q1
  | false => exact hb pins s1 σ H1 D I1 q1
end
abbrev TG := V → St → Hp → (St → Hp → Prop) → Prop
abbrev TGs := List V → St → Hp → (St → Hp → Prop) → Prop
def PG (X : Cx) (target : Expr) (t : TG) : Prop :=
  ∀ (pins : List (Addr × Obj)) (s : Shared) (σ : St) (H : Hp) (v : V) (u : Value) (Q : St → Hp → Prop), Inv X pins σ H s → RelV v u → t v σ H Q →
    wpAny (model X.prog X.w) X.A (assign target X.env u) (fun _ s' => ∃ σ' H', Inv X pins σ' H' s' ∧ Q σ' H') X.xe s
def PGs (X : Cx) (ts : List Expr) (t : TGs) : Prop :=
  ∀ (pins : List (Addr × Obj)) (s : Shared) (σ : St) (H : Hp) (vs : List V) (us : List Value) (Q : St → Hp → Prop), Inv X pins σ H s → Vals vs us → t vs σ H Q →
    wpAny (model X.prog X.w) X.A (assignInOrder ((assignEach ts X.env).map (·.2)) us) (fun _ s' => ∃ σ' H', Inv X pins σ' H' s' ∧ Q σ' H') X.xe s
abbrev TSet := V → V → V → Hp → (Hp → Prop) → Prop
def PSet (X : Cx) (t : TSet) : Prop :=
  ∀ (pins : List (Addr × Obj)) (s : Shared) (σ : St) (H : Hp) (o i v : V) (ov iv u : Value) (Q : Hp → Prop), Inv X pins σ H s → RelV o ov → RelV i iv → RelV v u → t o i v H Q →
    wpAny (model X.prog X.w) X.A (setItem ov iv u) (fun _ s' => ∃ H', Inv X pins σ H' s' ∧ Q H') X.xe s
section
variable {X : Cx} {pos : Pos}
def gName (i : Nat) : TG := fun v σ H Q => Q (σ.set i (some v)) H
theorem pg_name {i : Nat} {x : Str} (hN : X.N.Nodup) (hi : X.N[i]? = some x) (hx : Loc X.env.scope x) (hf : X.fn x = true ∨ X.env.scope.names.lookup x = some .local := by first | exact .inl rfl | exact .inr rfl | assumption) : PG X (.Name x pos) (gName i) := by
  intro pins s σ H v u Q I r h
  exact wpAny_assign_Name (store_ok I hN hi hx r (fun s' I' => ⟨_, H, I', h⟩) hf)
def gNil : TGs := fun vs σ H Q => vs = [] ∧ Q σ H
def gCons (t : TG) (u : TGs) : TGs := fun vs σ H Q => ∃ v r, vs = v :: r ∧ t v σ H fun σ' H' => u r σ' H' Q
theorem pgs_nil : PGs X [] gNil := by
  intro pins s σ H vs us Q I r h
  obtain ⟨e, h⟩ := h
  subst e
  cases r
  exact assignInOrder_nil ⟨σ, H, I, h⟩
theorem pgs_cons {e : Expr} {es : List Expr} {t : TG} {u : TGs} (h1 : PG X e t) (h2 : PGs X es u)
    (hs : (assignEach (e :: es) X.env).map (·.2) = assign e X.env :: (assignEach es X.env).map (·.2) := by rfl) : PGs X (e :: es) (gCons t u) := by
  intro pins s σ H vs us Q I r h
  obtain ⟨v, vr, e1, h⟩ := h
  subst e1
  cases r with
  | cons r rr =>
    rw [hs]
    refine assignInOrder_cons (thn (h1 pins s σ H _ _ _ I r h) fun _ s1 ⟨σ1, H1, I1, q1⟩ => ?_)
    exact h2 pins s1 σ1 H1 _ _ Q I1 rr q1
def gTup (K : PySem.W.Frag) (n : Nat) (t : TGs) : TG := fun v σ H Q => ∃ a xs, v = .ref a ∧ SqT K H a xs ∧ xs.length = n ∧ t xs σ H Q
theorem pg_tup {es : List Expr} {k : Nat} {t : TGs} {n : Nat} (hc : X.calm = true) (h : PGs X es t)
    (hn : (assignEach es X.env).length = n := by rfl) (hst : (assignEach es X.env).findIdx? (·.1) = none := by rfl) : PG X (.Tuple es k pos) (gTup X.K n t) := by
  intro pins s σ H v u Q I r hw
  obtain ⟨a, xs, e1, hq, hl, hw⟩ := hw
  subst e1
  cases r
  obtain ⟨its, rv, ht, hz⟩ := I.tuple hq
  refine assign_Tuple_tuple (I.ok.hd hc) ht (by simp [hn, ← hl, rv.length]) hst fun h' hx => ?_
  have I1 : Inv X pins σ H { s with heap := h' } := I.kept (t' := s.toks) fun b o e => hx b o (Nat.ne_of_lt (Heap.lt_size e)) e
  exact h pins _ σ H xs _ Q I1 (by simpa using rv) hw
def gSub (to ti : TE) (t : TSet) : TG := fun v σ H Q => to σ H fun o H1 => ti σ H1 fun i H2 => t o i v H2 fun H3 => Q σ H3
theorem pg_sub {o i : Expr} {to ti : TE} {t : TSet} (ho : PE X o to) (hi : PE X i ti) (hs : PSet X t)
    (ha : ∀ v, assign (.Subscript o i pos) X.env v = (do
      let ov ← holding [v] (eval o X.env)
      let iv ← holding [v, ov] (eval i X.env)
      standAt pos
      holding [v, ov, iv] (setItem ov iv v)
      release [v, ov, iv] []) := by intro _; rfl) : PG X (.Subscript o i pos) (gSub to ti t) := by
  intro pins s σ H v u Q I r h
  rw [ha]
  refine wpAny_bind (wpAny_holding (thn (ho pins s σ H _ I h) fun ov s1 ⟨x, H1, I1, r1, q1⟩ => ?_))
  refine wpAny_bind (wpAny_holding (thn (hi pins s1 σ H1 _ I1 q1) fun iv s2 ⟨y, H2, I2, r2, q2⟩ => ?_))
  refine wpAny_bind (wpAny_standAt (wpAny_bind (wpAny_holding (thn (hs pins s2 σ H2 x y v ov iv u _ I2 r1 r2 r q2) fun _ s3 ⟨H3, I3, q3⟩ => ?_))))
  exact wpAny_release ⟨σ, H3, I3, q3⟩
def tAsg (te : TE) (g : TG) : TS := fun D σ H => te σ H fun x H1 => g x σ H1 D.nx
theorem ps_asg {tg e : Expr} {te : TE} {g : TG} (he : PE X e te) (hg : PG X tg g) (hs : swapsWithSole [tg] e pos.line X.env = pure false := by rfl) (hw : swappedStores [tg] e X.env = pure none := by rfl)
    (h1 : (assignEach [tg] X.env).map (·.2) = [assign tg X.env] := by rfl) : PS X (.Assign [tg] e pos) (tAsg te g) := by
  intro pins s σ H D I h
  refine wpAny_Assign_stores (thn (he pins s σ H _ I h) fun v s1 ⟨x, H1, I1, r1, q1⟩ => ?_) hs hw
  rw [h1]
  exact thn (hg pins s1 σ H1 x v _ I1 r1 q1) fun _ s2 q => q
theorem ps_set {i : Nat} {x : Str} {e : Expr} {te : TE} {pos' : Pos} (hN : X.N.Nodup) (hi : X.N[i]? = some x) (hx : Loc X.env.scope x) (he : PE X e te) (hs : swapsWith e (some (.Name x pos')) pos.line X.env = pure false := by rfl) (hf : X.fn x = true ∨ X.env.scope.names.lookup x = some .local := by first | exact .inl rfl | exact .inr rfl | assumption) :
    PS X (.Assign [.Name x pos'] e pos) (tAsg te (gName i)) := by
  intro pins s σ H D I h
  refine wpAny_Assign_Name (thn (he pins s σ H _ I h) fun v s1 ⟨y, H1, I1, r1, q1⟩ => ?_) hs
  exact store_ok I1 hN hi hx r1 (fun s2 I2 => ⟨_, H1, I2, q1⟩) hf
def tPar (i j : Nat) (ta : TA) : TS := fun D σ H => ta σ H fun vs H1 => ∃ v w, vs = [v, w] ∧ D.nx ((σ.set i (some v)).set j (some w)) H1
theorem ps_par {i j : Nat} {x y : Str} {a b : Expr} {ta : TA} {px py pt : Pos} {kt k2 pt2} (hc : X.calm = true) (hN : X.N.Nodup) (hi : X.N[i]? = some x) (hj : X.N[j]? = some y) (hij : i ≠ j)
    (hx : X.env.scope.names.lookup x = some .local) (hy : X.env.scope.names.lookup y = some .local) (ha : PA X [a, b] ta)
    (hw : swappedStores [.Tuple [.Name x px, .Name y py] kt pt] (.Tuple [a, b] k2 pt2) X.env = pure (some [x, y]))
    (hs : swapsWithSole [.Tuple [.Name x px, .Name y py] kt pt] (.Tuple [a, b] k2 pt2) pos.line X.env = pure false := by rfl) :
    PS X (.Assign [.Tuple [.Name x px, .Name y py] kt pt] (.Tuple [a, b] k2 pt2) pos) (tPar i j ta) := by
  intro pins s σ H D I h
  rw [exec_Assign_arm]
  refine wpAny_bind (wpAny_standAt ?_)
  rw [hs]
  refine wpAny_bind (wpAny_pure ?_)
  rw [if_neg (by decide)]
  refine wpAny_bind (Tuple_ (thn (ha _ pins s σ H _ I h) fun us s1 ⟨vs, H1, I1, r1, q1⟩ => ?_))
  obtain ⟨v, w, e1, q1⟩ := q1
  subst e1
  obtain ⟨u1, u2, rfl, rv, rw'⟩ : ∃ u1 u2, us = [u1, u2] ∧ RelV v u1 ∧ RelV w u2 := by
    cases r1 with
    | cons p q =>
      cases q with
      | cons p' q' =>
        cases q'
        exact ⟨_, _, rfl, p, p'⟩
  refine wpAny_newObj_type ?_ (by show 2 ≤ sizeLine; decide)
  have I2 : Inv X pins σ H1 { s1 with heap := s1.heap.push { cls := .type "tuple", data := .seq [u1, u2].toArray } } := I1.kept (t' := s1.toks) fun b o e => Heap.get?_push_of_some _ e
  rw [hw]
  refine wpAny_bind (wpAny_pure ?_)
  show wpAny (model X.prog X.w) X.A (do rule "assign.swapped-stores"; let items ← unpackItems (.ref s1.heap.objs.size) 2 none; assignInOrder [fun v => bindName X.env y v, fun v => bindName X.env x v] items.reverse; pure Flow.next) _ _ _
  refine wpAny_bind (wpAny_rule (wpAny_bind (unpackItems_tuple (items := #[u1, u2]) (I.ok.hd hc) (IsTup.new s1.heap _) fun h' hx' => ?_)))
  have I3 := I2.kept (h' := h') (t' := s1.toks) fun b o e => hx' b o (Nat.ne_of_lt (Heap.lt_size e)) e
  show wpAny _ _ (assignInOrder [fun v => bindName X.env y v, fun v => bindName X.env x v] [u2, u1] >>= fun _ => pure Flow.next) _ _ _
  refine wpAny_bind (assignInOrder_cons (wpAny_bindName (store_ok I3 hN hj (.inl hy) rw' (fun s2 I4 => ?_) (.inr hy))))
  refine assignInOrder_cons (wpAny_bindName (store_ok I4 hN hi (.inl hx) rv (fun s3 I5 => assignInOrder_nil (wpAny_pure ?_)) (.inr hx)))
  rw [List.set_comm _ _ (Ne.symm hij)] at I5
  exact ⟨_, H1, I5, q1⟩
end
section
variable {X : Cx} {pos : Pos}
def tWhile (c : TT) (tb : TS) : TS := fun D σ H => ∃ W : Nat → St → Hp → Prop, (∃ m, W m σ H) ∧ ∀ m σ H, W m σ H →
  c σ H fun b H1 => if b = true then ∃ N : St → Hp → Prop, (∀ σ' H', N σ' H' → ∃ m', m' < m ∧ W m' σ' H') ∧ tb { D with nx := N, ct := N, bk := D.nx } σ H1 else D.nx σ H1
theorem ps_while {c : Expr} {body : List Stmt} {tc : TT} {tb : TS} (hp : PassesOwn (model X.prog X.w) X.A X.env X.xe) (hc : PT X c tc) (hb : PSs X body tb) : PS X (.While c body [] pos) (tWhile tc tb) := by
  intro pins s σ H D I h
  obtain ⟨W, ⟨m0, w0⟩, turn⟩ := h
  refine wpAny_While (codeAny_whileLoop (fun n s' => ∃ σ' H', Inv X pins σ' H' s' ∧ W n σ' H') ?_ m0 ⟨σ, H, I, w0⟩)
  rintro n s1 ⟨σ1, H1, I1, w1⟩
  refine wpAny_passesOwn hp (thn (hc pins s1 σ1 H1 _ I1 (turn n σ1 H1 w1)) fun b s2 ⟨H2, I2, q2⟩ => ?_)
  cases b with
  | true =>
    obtain ⟨N, hN, q2⟩ := q2
    rw [if_pos rfl]
    refine wpAny_passesOwn hp (thn (hb pins s2 σ1 H2 _ I2 q2) fun f s3 q3 => ?_)
    cases f with
    | next =>
      obtain ⟨σ3, H3, I3, n3⟩ := q3
      obtain ⟨m', hm, w3⟩ := hN σ3 H3 n3
      exact ⟨m', hm, σ3, H3, I3, w3⟩
    | cont =>
      obtain ⟨σ3, H3, I3, n3⟩ := q3
      obtain ⟨m', hm, w3⟩ := hN σ3 H3 n3
      exact ⟨m', hm, σ3, H3, I3, w3⟩
    | brk => exact q3
    | ret v => exact q3
  | false =>
    rw [if_neg Bool.false_ne_true]
    exact wpAny_execs_nil ⟨σ1, H2, I2, q2⟩
end
structure It where
  go : Nat → Hp → Prop
  yld : Nat → Hp → V → Hp → Prop
  stop : Nat → Hp → Prop
def FpOk (X : Cx) (pins : List (Addr × Obj)) (H : Hp) (b : Addr) : Prop :=
  H b = none ∧ b ≠ X.env.locals ∧ b ∉ X.fs ∧ (b ∈ X.ex ∨ X.s_0.heap.objs.size ≤ b) ∧ (∀ x c, X.env.cells.lookup x = some c → c ≠ b) ∧ ∀ p ∈ X.pn ++ pins, p.1 ≠ b
theorem Inv.fpOk {X : Cx} {pins : List (Addr × Obj)} {σ : St} {H H' : Hp} {s : Shared} {b : Addr} (I : Inv X pins σ H s) (hb : s.heap.objs.size ≤ b) (hn : H' b = none) : FpOk X pins H' b := by
  refine ⟨hn, Nat.ne_of_gt (Nat.lt_of_lt_of_le I.lt hb), I.nofs hb, .inr (Nat.le_trans I.sz hb), fun x c e z => ?_, fun p hp z => ?_⟩
  · obtain ⟨v, q⟩ := I.cell x c e
    exact absurd (Nat.lt_of_lt_of_le q.lt (by rw [z]; exact hb)) (Nat.lt_irrefl _)
  · exact absurd (Nat.lt_of_lt_of_le (Heap.lt_size (I.pin p hp).1) (by rw [z]; exact hb)) (Nat.lt_irrefl _)
structure Turn (P : Program) (w : World) (K : PySem.W.Frag) (tg : Expr) (J : It) (fp : List Addr) (it : Addr) (tn : Nat → Heap → Prop) : Prop where
  mem : it ∈ fp
  obj : ∀ i h, tn i h → ∀ b ∈ fp, ∃ o, h.get? b = some o ∧ ∀ v, o.data ≠ .cell v
  keep : ∀ i h h', tn i h → (∀ b ∈ fp, ∀ o, h.get? b = some o → h'.get? b = some o) → tn i h'
  item : ∀ (X : Cx), X.prog = P → X.w = w → X.K = K → X.calm = true → ∀ (i : Nat) (pins : List (Addr × Obj)) (s : Shared) (σ : St) (H : Hp) (E : Value → Shared → Prop), Inv X pins σ H s → (∀ b ∈ fp, FpOk X pins H b) → tn i s.heap → J.go i H →
    wpAny (model P w) X.A (pyNext (.ref it)) (fun r s1 => ∃ u, r = some u ∧
      wpAny (model P w) X.A (letOwnedTupleGo tg (.ref it) u) (fun _ s2 => ∃ x H', Inv X pins σ H' s2 ∧ RelV x u ∧ J.yld i H x H' ∧ tn (i + 1) s2.heap ∧ ∀ b ∈ fp, H' b = none) E s1) E s
  done : ∀ (X : Cx), X.prog = P → X.w = w → X.K = K → X.calm = true → ∀ (i : Nat) (pins : List (Addr × Obj)) (s : Shared) (σ : St) (H : Hp) (E : Value → Shared → Prop), Inv X pins σ H s → (∀ b ∈ fp, FpOk X pins H b) → tn i s.heap → J.stop i H →
    wpAny (model P w) X.A (pyNext (.ref it)) (fun r s1 => r = none ∧ Inv X pins σ H s1) E s
  self : ∀ (A : Around) (i : Nat) (s : Shared) (Q : Value → Shared → Prop) (E : Value → Shared → Prop), tn i s.heap → Q (.ref it) s → wpAny (model P w) A (pyIter (.ref it)) Q E s
abbrev TI := St → Hp → (It → Hp → Prop) → Prop
def PIE (X : Cx) (pins : List (Addr × Obj)) (σ : St) (tg : Expr) (R : It → Hp → Prop) (itv : Value) (s2 : Shared) : Prop :=
  ∃ (it : Addr) (fp : List Addr) (tn : Nat → Heap → Prop) (J : It) (H' : Hp), itv = .ref it ∧ Inv X pins σ H' s2 ∧ Turn X.prog X.w X.K tg J fp it tn ∧ tn 0 s2.heap ∧ (∀ b ∈ fp, FpOk X pins H' b) ∧ R J H'
def PI (X : Cx) (tg iter : Expr) (wi : TI) : Prop :=
  ∀ (pins : List (Addr × Obj)) (s : Shared) (σ : St) (H : Hp) (R : It → Hp → Prop), Inv X pins σ H s → wi σ H R →
    wpAny (model X.prog X.w) X.A (eval iter X.env) (fun v s1 => wpAny (model X.prog X.w) X.A (pyIter v) (PIE X pins σ tg R) X.xe s1) X.xe s
theorem go_of {M : Model} {A : Around} {E : Value → Shared → Prop} {s : Shared} {tg : Expr} {it : Addr} {u : Value} {o : Obj} {n : String} {vs : Array Value} {Q : Unit → Shared → Prop} (ho : s.heap.get? it = some o) (hc : o.cls = .type n) (hd : o.data = .fields vs)
    (hn : ["enumerate", "zip", "dict_itemiterator", "dict_reverseitemiterator", "odict_iterator", "itertools.zip_longest", "itertools.pairwise"].contains n = false) (hQ : Q () s) : wpAny M A (letOwnedTupleGo tg (.ref it) u) Q E s := by
  unfold letOwnedTupleGo
  cases tg <;> first
    | exact wpAny_pure hQ
    | (cases u <;> first
        | exact wpAny_pure hQ
        | (refine wpAny_bind (wpAny_load ho ?_)
           rw [hc, hd]
           show wpAny M A (if (["enumerate", "zip", "dict_itemiterator", "dict_reverseitemiterator", "odict_iterator", "itertools.zip_longest", "itertools.pairwise"].contains n && vs[0]? == some (rawInt _)) = true then _ else _) Q E s
           rw [if_neg (by intro h; rw [hn, Bool.false_and] at h; cases h)]
           exact wpAny_pure hQ))
def Itl (K : PySem.W.Frag) (a : Addr) : It :=
  ⟨fun i H => ∃ xs x, SqL K H a xs ∧ xs[i]? = some x, fun i H x H' => H' = H ∧ ∀ xs, SqL K H a xs → xs[i]? = some x, fun i H => ∃ xs, SqL K H a xs ∧ xs.length ≤ i⟩
def Itt (K : PySem.W.Frag) (a : Addr) : It :=
  ⟨fun i H => ∃ xs x, SqT K H a xs ∧ xs[i]? = some x, fun i H x H' => H' = H ∧ ∀ xs, SqT K H a xs → xs[i]? = some x, fun i H => ∃ xs, SqT K H a xs ∧ xs.length ≤ i⟩
def Itr (lo : Int) (n : Nat) : It := ⟨fun i _ => i < n, fun i H x H' => H' = H ∧ x = .int (lo + i), fun i _ => n ≤ i⟩
theorem turn_list {P : Program} {w : World} {K : PySem.W.Frag} {tg : Expr} (a it : Addr) : Turn P w K tg (Itl K a) [it] it (fun i h => h.IsListIter it a i) where
  mem := by simp
  obj := fun i h st b hb => by
    have e : b = it := by simpa using hb
    subst e
    obtain ⟨o, e, c, d⟩ := st
    exact ⟨o, e, fun v z => by rw [d] at z; cases z⟩
  keep := fun i h h' st k => st.at fun o e => k it (by simp) o e
  item := by
    intro X hP hw hK hc i pins s σ H E I hf st hg
    subst hP hw hK
    obtain ⟨xs, x, hq, hx⟩ := hg
    obtain ⟨its, rv, p, hz⟩ := I.list hq
    obtain ⟨u, hu, ru⟩ := rv.get hx
    obtain ⟨f0, f1, f2, f3, f4, f5⟩ := hf it (by simp)
    refine wpAny_pyNext_list_item st p.isList (x := u) (by simpa using hu) fun h' st' sb => ?_
    have I1 : Inv X pins σ H { s with heap := h' } := I.turned (t' := s.toks) (fun b o hb e => (sb.2 b hb).trans e) f0 f1 f3 f4 f5
    obtain ⟨o, e, c, d⟩ := id st'
    exact ⟨u, rfl, go_of (s := { s with heap := h' }) e c d (by decide) ⟨x, H, I1, ru, ⟨rfl, fun ys hy => by rw [I.list_inj hy hq]; exact hx⟩, st', fun b hb => (hf b hb).1⟩⟩
  done := by
    intro X hP hw hK hc i pins s σ H E I hf st hg
    subst hP hw hK
    obtain ⟨xs, hq, hx⟩ := hg
    obtain ⟨its, rv, p, hz⟩ := I.list hq
    obtain ⟨f0, f1, f2, f3, f4, f5⟩ := hf it (by simp)
    have hl := rv.length
    exact wpAny_pyNext_list_end (I.ok.hd hc) st p.isList (by simp; omega) fun h' eb => ⟨rfl, I.turned (t' := s.toks) (fun b o hb e => eb b o hb e) f0 f1 f3 f4 f5⟩
  self := fun _ _ _ _ _ st h => wpAny_pyIter_listiter st h
theorem turn_tuple {P : Program} {w : World} {K : PySem.W.Frag} {tg : Expr} (a it : Addr) : Turn P w K tg (Itt K a) [it] it (fun i h => h.IsTupleIter it a i) where
  mem := by simp
  obj := fun i h st b hb => by
    have e : b = it := by simpa using hb
    subst e
    obtain ⟨o, e, c, d⟩ := st
    exact ⟨o, e, fun v z => by rw [d] at z; cases z⟩
  keep := fun i h h' st k => st.at fun o e => k it (by simp) o e
  item := by
    intro X hP hw hK hc i pins s σ H E I hf st hg
    subst hP hw hK
    obtain ⟨xs, x, hq, hx⟩ := hg
    obtain ⟨its, rv, p, hz⟩ := I.tuple hq
    obtain ⟨u, hu, ru⟩ := rv.get hx
    obtain ⟨f0, f1, f2, f3, f4, f5⟩ := hf it (by simp)
    refine wpAny_pyNext_tuple_item st (show s.heap.IsTuple a its.toArray from p) (x := u) (by simpa using hu) fun h' st' sb => ?_
    have I1 : Inv X pins σ H { s with heap := h' } := I.turned (t' := s.toks) (fun b o hb e => (sb.2 b hb).trans e) f0 f1 f3 f4 f5
    obtain ⟨o, e, c, d⟩ := id st'
    exact ⟨u, rfl, go_of (s := { s with heap := h' }) e c d (by decide) ⟨x, H, I1, ru, ⟨rfl, fun ys hy => by rw [I.tuple_inj hy hq]; exact hx⟩, st', fun b hb => (hf b hb).1⟩⟩
  done := by
    intro X hP hw hK hc i pins s σ H E I hf st hg
    subst hP hw hK
    obtain ⟨xs, hq, hx⟩ := hg
    obtain ⟨its, rv, p, hz⟩ := I.tuple hq
    obtain ⟨f0, f1, f2, f3, f4, f5⟩ := hf it (by simp)
    have hl := rv.length
    exact wpAny_pyNext_tuple_end (I.ok.hd hc) st (show s.heap.IsTuple a its.toArray from p) (by simp; omega) fun h' eb => ⟨rfl, I.turned (t' := s.toks) (fun b o hb e => eb b o hb e) f0 f1 f3 f4 f5⟩
  self := fun _ _ _ _ _ st h => wpAny_pyIter_tupleiter st h
theorem turn_range {P : Program} {w : World} {K : PySem.W.Frag} {tg : Expr} (it : Addr) (lo : Int) (n : Nat) : Turn P w K tg (Itr lo n) [it] it (fun i h => IsRangeIter h it (lo + (i : Nat) * 1) ((n : Int) - (i : Nat)) 1) where
  mem := by simp
  obj := fun i h st b hb => by
    have e : b = it := by simpa using hb
    subst e
    exact ⟨_, st, fun v z => by
      have z' : Data.fields _ = Data.cell v := z
      cases z'⟩
  keep := fun i h h' st k => k it (by simp) _ st
  item := by
    intro X hP hw hK hc i pins s σ H E I hf st hg
    subst hP hw hK
    obtain ⟨f0, f1, f2, f3, f4, f5⟩ := hf it (by simp)
    have W := Walks.range (prog := X.prog) (w := X.w) (I.ok.hd hc) it lo 1 n
    refine W.item i s _ _ hg st fun v h' tk hv st' kk => ?_
    obtain ⟨t, rfl⟩ := hv
    have I1 : Inv X pins σ H { s with heap := h', toks := tk } := I.turned (fun b o hb e => kk b o (by simpa using hb) e) f0 f1 f3 f4 f5
    refine ⟨_, rfl, go_of (s := { s with heap := h', toks := tk }) (n := "range_iterator") st' rfl rfl (by decide) ⟨.int (lo + i), H, I1, ⟨t, ?_⟩, ⟨rfl, rfl⟩, st', fun b hb => (hf b hb).1⟩⟩
    rw [Int.mul_one]
  done := by
    intro X hP hw hK hc i pins s σ H E I hf st hg
    subst hP hw hK
    obtain ⟨f0, f1, f2, f3, f4, f5⟩ := hf it (by simp)
    exact wpAny_pyNext_range_end (I.ok.hd hc) st (by have : n ≤ i := hg; omega) fun h' eb => ⟨rfl, I.turned (t' := s.toks) (fun b o hb e => eb b o hb e) f0 f1 f3 f4 f5⟩
  self := fun _ _ _ _ _ st h => wpAny_pyIter_rangeiter st h
end L2
namespace L2
open PySem PySem.Spec PyProof.Rows
section
variable {X : Cx} {tg : Expr}
def iTup (K : PySem.W.Frag) (tl : TE) : TI := fun σ H R => tl σ H fun x H1 => ∃ a, x = .ref a ∧ (∃ xs, SqT K H1 a xs) ∧ R (Itt K a) H1
theorem pi_tup {l : Expr} {tl : TE} (hl : PE X l tl) : PI X tg l (iTup X.K tl) := by
  intro pins s σ H R I h
  refine thn (hl pins s σ H _ I h) fun v s1 ⟨x, H1, I1, r1, q1⟩ => ?_
  obtain ⟨a, e, ⟨xs, hq⟩, q⟩ := q1
  subst e
  cases r1
  obtain ⟨its, rv, p, hz⟩ := I1.tuple hq
  refine wpAny_pyIter_tuple (show s1.heap.IsTuple a its.toArray from p) ?_
  refine ⟨s1.heap.objs.size, [s1.heap.objs.size], _, _, H1, rfl, I1.kept (t' := s1.toks) fun b o e => Heap.get?_push_of_some _ e, turn_tuple a _, ⟨_, Heap.get?_push_size _ rfl, rfl, rfl⟩, fun b hb => ?_, q⟩
  have e : b = s1.heap.objs.size := by simpa using hb
  subst e
  exact I1.fpOk (Nat.le_refl _) (I1.hok.fresh (Nat.le_refl _))
theorem range_it {pins : List (Addr × Obj)} {σ : St} {H : Hp} {s : Shared} {R : It → Hp → Prop} {E : Value → Shared → Prop} {lo hi : Int} {t u v : Tok} {tk : Nat} (I : Inv X pins σ H s) (h1 : -(2 ^ 62) ≤ lo) (h2 : lo < 2 ^ 62) (h3 : -(2 ^ 62) ≤ hi) (h4 : hi < 2 ^ 62)
    (q : R (Itr lo (hi - lo).toNat) H) : wpAny (model X.prog X.w) X.A (pyIter (.ref s.heap.objs.size)) (PIE X pins σ tg R) E { s with heap := s.heap.push { cls := .type "range", data := .fields #[.int lo t, .int hi u, .int 1 v] }, toks := tk } := by
  refine wpAny_pyIter_range (IsRange.new ..) (small_one h1 h2 h3 h4) ?_
  have I1 : Inv X pins σ H { s with heap := s.heap.push { cls := .type "range", data := .fields #[.int lo t, .int hi u, .int 1 v] }, toks := tk } := I.kept fun b o e => Heap.get?_push_of_some _ e
  refine ⟨(s.heap.push { cls := .type "range", data := .fields #[.int lo t, .int hi u, .int 1 v] }).objs.size, [(s.heap.push { cls := .type "range", data := .fields #[.int lo t, .int hi u, .int 1 v] }).objs.size], _, _, H, rfl,
    I1.kept (t' := tk) fun b o e => Heap.get?_push_of_some _ e, turn_range _ lo (hi - lo).toNat, ?_, fun b hb => ?_, q⟩
  · have e1 : lo + ((0 : Nat) : Int) * 1 = lo := by simp
    have e2 : (((hi - lo).toNat : Nat) : Int) - ((0 : Nat) : Int) = Builtin.Range.rangeSize lo hi 1 := by rw [rangeSize_one]; split <;> omega
    show IsRangeIter _ _ (lo + ((0 : Nat) : Int) * 1) ((((hi - lo).toNat : Nat) : Int) - ((0 : Nat) : Int)) 1
    rw [e1, e2]
    exact Heap.get?_push_size _ rfl
  · have e : b = (s.heap.push { cls := .type "range", data := .fields #[.int lo t, .int hi u, .int 1 v] }).objs.size := by simpa using hb
    subst e
    exact I1.fpOk (Nat.le_refl _) (I1.hok.fresh (Nat.le_refl _))
def iRng1 (ta : TA) : TI := fun σ H R => ta σ H fun vs H1 => ∃ j : Int, vs = [.int j] ∧ -(2 ^ 62) ≤ j ∧ j < 2 ^ 62 ∧ R (Itr 0 j.toNat) H1
def iRng2 (ta : TA) : TI := fun σ H R => ta σ H fun vs H1 => ∃ i j : Int, vs = [.int i, .int j] ∧ (-(2 ^ 62) ≤ i ∧ i < 2 ^ 62 ∧ -(2 ^ 62) ≤ j ∧ j < 2 ^ 62) ∧ R (Itr i (j - i).toNat) H1
theorem pi_range1 {a : Expr} {ta : TA} {p pos : Pos} (hg : Gl X "range") (hm : X.mg "range" = none) (ha : PA X [a] ta) (hs : starEach [a] X.env = [(false, eval a X.env)] := by rfl) : PI X tg (.Call (.Name "range" p) [a] [] pos) (iRng1 ta) := by
  intro pins s σ H R I h
  refine Call_ (ld_blt I hg hm boot_range (PyProof.Rows.callWith_type1 (thn (ha pos pins s σ H _ I h) fun us s1 ⟨vs, H1, I1, r1, q1⟩ => ?_) hs rfl))
  obtain ⟨j, e, q1, q2, q⟩ := q1
  subst e
  cases r1 with
  | cons r rr =>
    cases rr
    obtain ⟨t, rfl⟩ := r
    exact call_range_1 (range_it I1 (by omega) (by omega) q1 q2 (by simpa using q))
theorem pi_range2 {a b : Expr} {ta : TA} {p pos : Pos} (hg : Gl X "range") (hm : X.mg "range" = none) (ha : PA X [a, b] ta) (hs : starEach [a, b] X.env = [(false, eval a X.env), (false, eval b X.env)] := by rfl) (hs2 : starEach [b] X.env = [(false, eval b X.env)] := by rfl) :
    PI X tg (.Call (.Name "range" p) [a, b] [] pos) (iRng2 ta) := by
  intro pins s σ H R I h
  refine Call_ (ld_blt I hg hm boot_range (PyProof.Rows.callWith_type1 (thn (ha pos pins s σ H _ I h) fun us s1 ⟨vs, H1, I1, r1, q1⟩ => ?_) (by rw [hs, hs2]) (by rw [hs2]; rfl)))
  obtain ⟨i, j, e, ⟨q1, q2, q3, q4⟩, q⟩ := q1
  subst e
  cases r1 with
  | cons r rr =>
    cases rr with
    | cons r' rr =>
      cases rr
      obtain ⟨t, rfl⟩ := r
      obtain ⟨t', rfl⟩ := r'
      exact call_range_2 (range_it I1 q1 q2 q3 q4 q)
def tFor (wi : TI) (g : TG) (tb : TS) : TS := fun D σ H => wi σ H fun J H1 => ∃ W : Nat → Nat → St → Hp → Prop, (∃ m, W 0 m σ H1) ∧ ∀ i m σ H, W i m σ H →
  (J.stop i H ∧ D.nx σ H) ∨ (J.go i H ∧ ∃ N : St → Hp → Prop, (∀ σ' H', N σ' H' → ∃ m', m' < m ∧ W (i + 1) m' σ' H') ∧ ∀ x H', J.yld i H x H' → g x σ H' fun σ2 H2 => tb { D with nx := N, ct := N, bk := D.nx } σ2 H2)
def pinsAt (fp : List Addr) (h : Heap) : List (Addr × Obj) := fp.filterMap fun b => (h.get? b).map fun o => (b, o)
theorem mem_pinsAt {fp : List Addr} {h : Heap} {b : Addr} {o : Obj} (hb : b ∈ fp) (e : h.get? b = some o) : (b, o) ∈ pinsAt fp h := List.mem_filterMap.mpr ⟨b, hb, by rw [e]; rfl⟩
theorem of_pinsAt {fp : List Addr} {h : Heap} {p : Addr × Obj} (hp : p ∈ pinsAt fp h) : p.1 ∈ fp ∧ h.get? p.1 = some p.2 := by
  obtain ⟨b, hb, e⟩ := List.mem_filterMap.mp hp
  cases q : h.get? b with
  | none => rw [q] at e; cases e
  | some o =>
    rw [q] at e
    have e' : (b, o) = p := Option.some.inj e
    subst e'
    exact ⟨hb, q⟩
theorem Inv.pinned {pins : List (Addr × Obj)} {σ : St} {H : Hp} {s : Shared} {fp : List Addr} (I : Inv X pins σ H s) (hf : ∀ b ∈ fp, FpOk X pins H b) (ho : ∀ b ∈ fp, ∃ o, s.heap.get? b = some o ∧ ∀ v, o.data ≠ .cell v) : Inv X (pins ++ pinsAt fp s.heap) σ H s :=
  I.pins_of fun p hp => (List.mem_append.mp hp).elim (fun z => I.pin p (List.mem_append_right _ z)) fun z => by
    obtain ⟨hb, e⟩ := of_pinsAt z
    obtain ⟨f0, f1, f2, _⟩ := hf p.1 hb
    obtain ⟨o, e', d⟩ := ho p.1 hb
    rw [e] at e'; cases e'
    exact ⟨e, f0, f1, f2, d⟩
theorem Inv.unpinned {pins pl : List (Addr × Obj)} {σ : St} {H : Hp} {s : Shared} (I : Inv X (pins ++ pl) σ H s) : Inv X pins σ H s := I.pins_of fun p hp => I.pin p (List.mem_append_right _ (List.mem_append_left _ hp))
theorem ps_for {iter : Expr} {body : List Stmt} {wi : TI} {g : TG} {tb : TS} {pos : Pos} (hp : PassesOwn (model X.prog X.w) X.A X.env X.xe) (hc : X.calm = true) (hi : PI X tg iter wi) (hg : PG X tg g) (hb : PSs X body tb)
    (hs : ∀ x, foldedSetIterable iter X.env x = pure x := by intro _; rfl) : PS X (.For tg iter body [] pos) (tFor wi g tb) := by
  intro pins s σ H D I h
  refine wpAny_For (thn (hi pins s σ H _ I h) fun v s1 h1 => thn h1 fun itv s2 h2 => ?_) hs
  obtain ⟨it, fp, tn, J, H2, e, I2, T, st2, f2, W, ⟨m0, w0⟩, turn⟩ := h2
  subst e
  -- what stays true of the iterator's objects through the loop
  have stat : ∀ {H' : Hp}, (∀ b ∈ fp, H' b = none) → ∀ b ∈ fp, FpOk X pins H' b := fun hn b hb => ⟨hn b hb, (f2 b hb).2⟩
  refine codeAny_forLoop_any (fun n s' => ∃ i σ' H', Inv X pins σ' H' s' ∧ tn i s'.heap ∧ (∀ b ∈ fp, H' b = none) ∧ W i n σ' H') ?_ m0 ⟨0, σ, H2, I2, st2, fun b hb => (f2 b hb).1, w0⟩
  rintro n s3 ⟨i, σ3, H3, I3, st3, fr3, w3⟩
  rcases turn i n σ3 H3 w3 with ⟨stop, qn⟩ | ⟨go, N, hN, step⟩
  · refine wpAny_passesOwn hp (thn (T.done X rfl rfl rfl hc i pins s3 σ3 H3 X.xe I3 (stat fr3) st3 stop) fun r s4 ⟨hr, I4⟩ => ?_)
    subst hr
    exact wpAny_execs_nil ⟨σ3, H3, I4, qn⟩
  · refine wpAny_passesOwn hp (thn (T.item X rfl rfl rfl hc i pins s3 σ3 H3 X.xe I3 (stat fr3) st3 go) fun r s4 ⟨u, hr, h4⟩ => ?_)
    subst hr
    refine wpAny_passesOwn hp (thn h4 fun _ s5 ⟨x, H5, I5, r5, y5, st5, fr5⟩ => ?_)
    have I5' := I5.pinned (stat fr5) (T.obj _ _ st5)
    refine wpAny_passesOwn hp (thn (hg _ s5 σ3 H5 x u _ I5' r5 (step x H5 y5)) fun _ s6 ⟨σ6, H6, I6, q6⟩ => ?_)
    refine wpAny_passesOwn hp (thn (hb _ s6 σ6 H6 _ I6 q6) fun f s7 q7 => ?_)
    have again : ∀ {σ7 : St} {H7 : Hp}, Inv X (pins ++ pinsAt fp s5.heap) σ7 H7 s7 → N σ7 H7 → ∃ m, m < n ∧ ∃ i σ' H', Inv X pins σ' H' s7 ∧ tn i s7.heap ∧ (∀ b ∈ fp, H' b = none) ∧ W i m σ' H' := fun {σ7 H7} I7 n7 => by
      obtain ⟨m', hm, w7⟩ := hN σ7 H7 n7
      refine ⟨m', hm, i + 1, σ7, H7, I7.unpinned, T.keep _ _ _ st5 fun b hb o e => (I7.pin (b, o) (List.mem_append_right _ (List.mem_append_right _ (mem_pinsAt hb e)))).1, fun b hb => ?_, w7⟩
      obtain ⟨o, e, d⟩ := T.obj _ _ st5 b hb
      exact (I7.pin (b, o) (List.mem_append_right _ (List.mem_append_right _ (mem_pinsAt hb e)))).2.1
    cases f with
    | next => obtain ⟨σ7, H7, I7, n7⟩ := q7; exact again I7 n7
    | cont => obtain ⟨σ7, H7, I7, n7⟩ := q7; exact again I7 n7
    | brk => obtain ⟨σ7, H7, I7, q7⟩ := q7; exact ⟨σ7, H7, I7.unpinned, q7⟩
    | ret v => obtain ⟨x7, σ7, H7, I7, r7, q7⟩ := q7; exact ⟨x7, σ7, H7, I7.unpinned, r7, q7⟩
end
theorem for_list {K : PySem.W.Frag} {a : Addr} {xs : List V} {g : TG} {tb : TS} {D : Ends} {σ : St} {H : Hp} (Pv : Nat → St → Hp → Prop) (h0 : Pv 0 σ H) (hl : ∀ i σ H, i ≤ xs.length → Pv i σ H → SqL K H a xs)
    (hs : ∀ i x σ H, xs[i]? = some x → Pv i σ H → g x σ H fun σ2 H2 => tb { D with nx := Pv (i + 1), ct := Pv (i + 1), bk := D.nx } σ2 H2) (hd : ∀ σ H, Pv xs.length σ H → D.nx σ H) :
    ∃ W : Nat → Nat → St → Hp → Prop, (∃ m, W 0 m σ H) ∧ ∀ i m σ H, W i m σ H →
      ((Itl K a).stop i H ∧ D.nx σ H) ∨ ((Itl K a).go i H ∧ ∃ N : St → Hp → Prop, (∀ σ' H', N σ' H' → ∃ m', m' < m ∧ W (i + 1) m' σ' H') ∧ ∀ x H', (Itl K a).yld i H x H' → g x σ H' fun σ2 H2 => tb { D with nx := N, ct := N, bk := D.nx } σ2 H2) := by
  refine ⟨fun i m σ H => m = xs.length - i ∧ i ≤ xs.length ∧ Pv i σ H, ⟨xs.length, by simp, Nat.zero_le _, h0⟩, ?_⟩
  rintro i m σ H ⟨rfl, hi, p⟩
  have q := hl i σ H hi p
  by_cases hlt : i < xs.length
  · refine .inr ⟨⟨xs, xs[i], q, by simp [hlt]⟩, Pv (i + 1), fun σ' H' p' => ⟨xs.length - (i + 1), by omega, rfl, hlt, p'⟩, fun x H' y => ?_⟩
    obtain ⟨e, y⟩ := y
    subst e
    exact hs i x σ _ (y xs q) p
  · have e : i = xs.length := by omega
    subst e
    exact .inl ⟨⟨xs, q, Nat.le_refl _⟩, hd σ H p⟩
theorem for_tup {K : PySem.W.Frag} {a : Addr} {xs : List V} {g : TG} {tb : TS} {D : Ends} {σ : St} {H : Hp} (Pv : Nat → St → Hp → Prop) (h0 : Pv 0 σ H) (hl : ∀ i σ H, i ≤ xs.length → Pv i σ H → SqT K H a xs)
    (hs : ∀ i x σ H, xs[i]? = some x → Pv i σ H → g x σ H fun σ2 H2 => tb { D with nx := Pv (i + 1), ct := Pv (i + 1), bk := D.nx } σ2 H2) (hd : ∀ σ H, Pv xs.length σ H → D.nx σ H) :
    ∃ W : Nat → Nat → St → Hp → Prop, (∃ m, W 0 m σ H) ∧ ∀ i m σ H, W i m σ H →
      ((Itt K a).stop i H ∧ D.nx σ H) ∨ ((Itt K a).go i H ∧ ∃ N : St → Hp → Prop, (∀ σ' H', N σ' H' → ∃ m', m' < m ∧ W (i + 1) m' σ' H') ∧ ∀ x H', (Itt K a).yld i H x H' → g x σ H' fun σ2 H2 => tb { D with nx := N, ct := N, bk := D.nx } σ2 H2) := by
  refine ⟨fun i m σ H => m = xs.length - i ∧ i ≤ xs.length ∧ Pv i σ H, ⟨xs.length, by simp, Nat.zero_le _, h0⟩, ?_⟩
  rintro i m σ H ⟨rfl, hi, p⟩
  have q := hl i σ H hi p
  by_cases hlt : i < xs.length
  · refine .inr ⟨⟨xs, xs[i], q, by simp [hlt]⟩, Pv (i + 1), fun σ' H' p' => ⟨xs.length - (i + 1), by omega, rfl, hlt, p'⟩, fun x H' y => ?_⟩
    obtain ⟨e, y⟩ := y
    subst e
    exact hs i x σ _ (y xs q) p
  · have e : i = xs.length := by omega
    subst e
    exact .inl ⟨⟨xs, q, Nat.le_refl _⟩, hd σ H p⟩
end L2
namespace L2
open PySem PySem.Spec PyProof.Rows
abbrev R2 := V → V → Hp → VK → Prop
def OpR (X : Cx) (f : Value → Value → Sem Value) (r : R2) : Prop :=
  ∀ (pins : List (Addr × Obj)) (s : Shared) (σ : St) (H : Hp) (x y : V) (v u : Value) (Q : VK), Inv X pins σ H s → RelV x v → RelV y u → r x y H Q →
    wpAny (model X.prog X.w) X.A (f v u) (EP X pins σ Q) X.xe s
def UnR (X : Cx) (f : Value → Sem Value) (r : V → Hp → VK → Prop) : Prop :=
  ∀ (pins : List (Addr × Obj)) (s : Shared) (σ : St) (H : Hp) (x : V) (v : Value) (Q : VK), Inv X pins σ H s → RelV x v → r x H Q →
    wpAny (model X.prog X.w) X.A (f v) (EP X pins σ Q) X.xe s
def CallR (X : Cx) (f : Value) (r : List V → Hp → VK → Prop) : Prop :=
  ∀ (pins : List (Addr × Obj)) (s : Shared) (σ : St) (H : Hp) (xs : List V) (us : List Value) (Q : VK), Inv X pins σ H s → Vals xs us → r xs H Q →
    wpAny (model X.prog X.w) X.A (call f us) (EP X pins σ Q) X.xe s
def tOp (r : R2) (ta tb : TE) : TE := fun σ H Q => ta σ H fun x H1 => tb σ H1 fun y H2 => r x y H2 Q
def tUn (r : V → Hp → VK → Prop) (ta : TE) : TE := fun σ H Q => ta σ H fun x H1 => r x H1 Q
def rI (C : Int → Int → Prop) (g : Int → Int → V) : R2 := fun x y H Q => ∃ i j, x = .int i ∧ y = .int j ∧ C i j ∧ Q (g i j) H
def rI0 (g : Int → Int → V) : R2 := fun x y H Q => ∃ i j, x = .int i ∧ y = .int j ∧ Q (g i j) H
def rU (g : Int → V) : V → Hp → VK → Prop := fun x H Q => ∃ i, x = .int i ∧ Q (g i) H
section
variable {X : Cx} {a b c : Expr} {ta tb tc : TE} {pos : Pos}
theorem binT (ha : PE X a ta) (hb : PE X b tb) {pins : List (Addr × Obj)} {s : Shared} {σ : St} {H : Hp} {R : V → V → Hp → Prop} (I : Inv X pins σ H s)
    (h : ta σ H fun x H1 => tb σ H1 fun y H2 => R x y H2) {Q : Value → Shared → Prop} {f : Value → Value → Sem Value}
    (hf : ∀ v u s2 x y H2, Inv X pins σ H2 s2 → RelV x v → RelV y u → R x y H2 → wpAny (model X.prog X.w) X.A (f v u) Q X.xe s2) :
    wpAny (model X.prog X.w) X.A (eval a X.env) (fun v s₁ => wpAny (model X.prog X.w) X.A (eval b X.env) (fun u s₂ => wpAny (model X.prog X.w) X.A (f v u) Q X.xe s₂) X.xe s₁) X.xe s := by
  refine thn (ha pins s σ H _ I h) fun v s1 ⟨x, H1, I1, r1, q1⟩ => ?_
  refine thn (hb pins s1 σ H1 _ I1 q1) fun u s2 ⟨y, H2, I2, r2, q2⟩ => ?_
  exact hf v u s2 x y H2 I2 r1 r2 q2
theorem pe_op {op : Operator} {r : R2} (ho : OpR X (binaryOp op) r) (ha : PE X a ta) (hb : PE X b tb) : PE X (.BinOp a op b pos) (tOp r ta tb) := by
  intro pins s σ H Q I h
  exact wpAny_BinOp (binT ha hb I h fun v u s2 x y H2 I2 rx ry q => ho pins s2 σ H2 x y v u Q I2 rx ry q)
theorem pe_un {op : UnaryOp} {r : V → Hp → VK → Prop} (ho : UnR X (unaryOp op) r) (ha : PE X a ta) : PE X (.UnaryOp op a pos) (tUn r ta) := by
  intro pins s σ H Q I h
  exact UnaryOp_ (thn (ha pins s σ H _ I h) fun v s1 ⟨x, H1, I1, r1, q1⟩ => ho pins s1 σ H1 x v Q I1 r1 q1)
theorem opI {f : Value → Value → Sem Value} {C : Int → Int → Prop} {g : Int → Int → Int}
    (rule : ∀ (i j : Int) (t u : Tok) (s : Shared) (Q : Value → Shared → Prop) (E : Value → Shared → Prop), C i j → Q (.int (g i j) s.toks) { s with toks := s.toks + 1 } → wpAny (model X.prog X.w) X.A (f (.int i t) (.int j u)) Q E s) :
    OpR X f (rI C fun i j => .int (g i j)) := by
  intro pins s σ H x y v u Q I rx ry h
  obtain ⟨i, j, rfl, rfl, hc, q⟩ := h
  obtain ⟨t, rfl⟩ := rx
  obtain ⟨t', rfl⟩ := ry
  exact rule i j t t' s _ _ hc ⟨.int (g i j), H, I.tok _, ⟨_, rfl⟩, q⟩
theorem opI0 {f : Value → Value → Sem Value} {g : Int → Int → Int}
    (rule : ∀ (i j : Int) (t u : Tok) (s : Shared) (Q : Value → Shared → Prop) (E : Value → Shared → Prop), Q (.int (g i j) s.toks) { s with toks := s.toks + 1 } → wpAny (model X.prog X.w) X.A (f (.int i t) (.int j u)) Q E s) :
    OpR X f (rI0 fun i j => .int (g i j)) := by
  intro pins s σ H x y v u Q I rx ry h
  obtain ⟨i, j, rfl, rfl, q⟩ := h
  obtain ⟨t, rfl⟩ := rx
  obtain ⟨t', rfl⟩ := ry
  exact rule i j t t' s _ _ ⟨.int (g i j), H, I.tok _, ⟨_, rfl⟩, q⟩
theorem opB0 {f : Value → Value → Sem Value} {g : Int → Int → Bool}
    (rule : ∀ (i j : Int) (t u : Tok) (s : Shared) (Q : Value → Shared → Prop) (E : Value → Shared → Prop), Q (.bool (g i j)) s → wpAny (model X.prog X.w) X.A (f (.int i t) (.int j u)) Q E s) :
    OpR X f (rI0 fun i j => .bl (g i j)) := by
  intro pins s σ H x y v u Q I rx ry h
  obtain ⟨i, j, rfl, rfl, q⟩ := h
  obtain ⟨t, rfl⟩ := rx
  obtain ⟨t', rfl⟩ := ry
  exact rule i j t t' s _ _ ⟨.bl (g i j), H, I, rfl, q⟩
def CPow (i j : Int) : Prop := 0 ≤ j ∧ j ≤ 1000000 ∧ i.natAbs < 2 ^ 64
def CMul (i j : Int) : Prop := (-(2 ^ 64) < i ∧ i < 2 ^ 64) ∨ (-(2 ^ 64) < j ∧ j < 2 ^ 64)
theorem CMul.ok {i j : Int} (h : CMul i j) : IntMulOk i j := by
  rcases h with ⟨h1, h2⟩ | ⟨h1, h2⟩
  · exact .of_left (intBits_le_64 h1 h2)
  · exact .of_right (intBits_le_64 h1 h2)
theorem op_add : OpR X (binaryOp .Add) (rI0 fun i j => .int (i + j)) := opI0 fun _ _ _ _ _ _ _ q => add_int q
theorem op_sub : OpR X (binaryOp .Sub) (rI0 fun i j => .int (i - j)) := opI0 fun _ _ _ _ _ _ _ q => sub_int q
theorem op_modN : OpR X (binaryOp .Mod) (rI (fun _ j => j ≠ 0) fun i j => .int (i.fmod j)) := opI fun _ _ _ _ _ _ _ hc q => mod_int' hc q
theorem op_pow : OpR X (binaryOp .Pow) (rI CPow fun i j => .int (i ^ j.toNat)) := opI fun _ _ _ _ _ _ _ hc q => pow_int_small hc.1 hc.2.1 hc.2.2 q
theorem unI {f : Value → Sem Value} {g : Int → Int}
    (rule : ∀ (i : Int) (t : Tok) (s : Shared) (Q : Value → Shared → Prop) (E : Value → Shared → Prop), Q (.int (g i) s.toks) { s with toks := s.toks + 1 } → wpAny (model X.prog X.w) X.A (f (.int i t)) Q E s) :
    UnR X f (rU fun i => .int (g i)) := by
  intro pins s σ H x v Q I rx h
  obtain ⟨i, rfl, q⟩ := h
  obtain ⟨t, rfl⟩ := rx
  exact rule i t s _ _ ⟨.int (g i), H, I.tok _, ⟨_, rfl⟩, q⟩
theorem un_neg : UnR X (unaryOp .USub) (rU fun i => .int (-i)) := unI fun _ _ _ _ _ q => neg_int q
end
section
variable {X : Cx} {a b c : Expr} {ta tb tc : TE} {pos : Pos}
theorem fin_bl {pins : List (Addr × Obj)} {σ : St} {H : Hp} {s : Shared} {Q : VK} {k k' : Bool} (I : Inv X pins σ H s) (q : Q (.bl k) H) (e : k = k') : EP X pins σ Q (.bool k') s := by
  subst e
  exact ⟨.bl k, H, I, rfl, q⟩
theorem op_lt : OpR X (compareOp .Lt) (rI0 fun i j => .bl (decide (i < j))) := opB0 fun _ _ _ _ _ _ _ q => lt_int q
theorem op_gt : OpR X (compareOp .Gt) (rI0 fun i j => .bl (decide (j < i))) := opB0 fun _ _ _ _ _ _ _ q => gt_int q
theorem op_ge : OpR X (compareOp .GtE) (rI0 fun i j => .bl (decide (j ≤ i))) := opB0 fun _ _ _ _ _ _ _ q => ge_int q
theorem op_isN : OpR X (compareOp .Is) (fun x y H Q => y = .non ∧ Q (.bl (decide (x = .non))) H) := by
  intro pins s σ H x y v u Q I rx ry h
  obtain ⟨rfl, q⟩ := h
  cases ry
  refine is_none_gen (fin_bl I q ?_)
  cases x <;> first
    | (cases rx; rfl)
    | (obtain ⟨t, rfl⟩ := rx; rfl)
theorem op_notN : OpR X (compareOp .IsNot) (fun x y H Q => y = .non ∧ Q (.bl (!decide (x = .non))) H) := by
  intro pins s σ H x y v u Q I rx ry h
  obtain ⟨rfl, q⟩ := h
  cases ry
  refine isnot_none_gen (fin_bl I q ?_)
  cases x <;> first
    | (cases rx; rfl)
    | (obtain ⟨t, rfl⟩ := rx; rfl)
theorem nomark (b : Expr) {op : CmpOp} (h : op ≠ .In := by decide) (h2 : op ≠ .NotIn := by decide) : behindInMarks op b = false := by
  have e1 : (op == CmpOp.In) = false := by cases op <;> first | rfl | exact absurd rfl h
  have e2 : (op == CmpOp.NotIn) = false := by cases op <;> first | rfl | exact absurd rfl h2
  cases b <;> simp [behindInMarks, e1, e2]
theorem pe_cmpR {op : CmpOp} {r : R2} (ho : OpR X (compareOp op) r) (ha : PE X a ta) (hb : PE X b tb) (hm : behindInMarks op b = false) : PE X (.Compare a [op] [b] pos) (tOp r ta tb) := by
  intro pins s σ H Q I h
  exact wpAny_Compare1 (binT ha hb I h fun v u s2 x y H2 I2 rx ry q => ho pins s2 σ H2 x y v u Q I2 rx ry q) hm
def tTest (t : TE) : TT := fun σ H Q => t σ H fun x H' => ∃ k, x = .bl k ∧ Q k H'
theorem pt_cmpR {op : CmpOp} {r : R2} (ho : OpR X (compareOp op) r) (ha : PE X a ta) (hb : PE X b tb) (hm : behindInMarks op b = false) : PT X (.Compare a [op] [b] pos) (tTest (tOp r ta tb)) := by
  intro pins s σ H Q I h
  refine wpAny_isTrue_Compare1 (thn (ha pins s σ H _ I h) fun v s1 ⟨x, H1, I1, r1, q1⟩ => thn (hb pins s1 σ H1 _ I1 q1) fun u s2 ⟨y, H2, I2, r2, q2⟩ =>
    thn (ho pins s2 σ H2 x y v u _ I2 r1 r2 q2) fun c s3 ⟨z, H3, I3, r3, k, e, q3⟩ => ?_) hm
  subst e
  cases r3
  exact wpAny_truthy_bool ⟨H3, I3, q3⟩
theorem line63 : (sizeLine : Nat) < 2 ^ 63 := by rw [sizeLine_eq]; decide
theorem vals1 {x : V} {us : List Value} (r : Vals [x] us) : ∃ u, us = [u] ∧ RelV x u := by
  cases r with
  | cons r1 r2 => cases r2; exact ⟨_, rfl, r1⟩
theorem vals2 {x y : V} {us : List Value} (r : Vals [x, y] us) : ∃ u w', us = [u, w'] ∧ RelV x u ∧ RelV y w' := by
  cases r with
  | cons r1 r2 =>
    cases r2 with
    | cons r3 r4 => cases r4; exact ⟨_, _, rfl, r1, r3⟩
theorem call_abs : CallR X (.builtin "abs") (fun xs H Q => ∃ i, xs = [.int i] ∧ Q (.int (if i < 0 then -i else i)) H) := by
  intro pins s σ H xs us Q I r h
  obtain ⟨i, rfl, q⟩ := h
  obtain ⟨u, rfl, t, rfl⟩ := vals1 r
  exact call_abs_int fun u tk => ⟨.int (if i < 0 then -i else i), H, I.tok _, ⟨_, rfl⟩, q⟩
theorem call_max2 (hc : X.calm = true) : CallR X (.builtin "max") (fun xs H Q => ∃ i j, xs = [.int i, .int j] ∧ Q (.int (if j > i then j else i)) H) := by
  intro pins s σ H xs us Q I r h
  obtain ⟨i, j, rfl, q⟩ := h
  obtain ⟨u, w', rfl, ⟨t, rfl⟩, ⟨t', rfl⟩⟩ := vals2 r
  refine max_two_ints (I.ok.hd hc) fun h' tk k => ⟨_, H, I.kept k, ?_, q⟩
  by_cases hj : j > i
  · rw [if_pos hj, if_pos hj]; exact ⟨_, rfl⟩
  · rw [if_neg hj, if_neg hj]; exact ⟨_, rfl⟩
def LenV (K : PySem.W.Frag) (x : V) (H : Hp) (n : Nat) : Prop :=
  match x with
  | .str y => y.length ≤ sizeLine ∧ n = y.length
  | .byt y => y.size ≤ sizeLine ∧ n = y.size
  | .ref p => (∃ xs, SqL K H p xs ∧ n = xs.length) ∨ ∃ xs, SqT K H p xs ∧ n = xs.length
  | _ => False
theorem call_len : CallR X (.builtin "len") (fun xs H Q => ∃ x n, xs = [x] ∧ LenV X.K x H n ∧ Q (.int n) H) := by
  intro pins s σ H xs us Q I r h
  obtain ⟨x, n, rfl, e, q⟩ := h
  obtain ⟨u, rfl, rx⟩ := vals1 r
  have hl := line63
  have hs : sizeLine = 16777216 := sizeLine_eq
  cases x with
  | str y =>
    obtain ⟨t, rfl⟩ := rx
    obtain ⟨hy, e'⟩ : y.length ≤ sizeLine ∧ n = y.length := e
    subst e'
    exact len_str (by omega) ⟨.int _, H, I.tok _, ⟨_, rfl⟩, q⟩
  | byt y =>
    obtain ⟨t, rfl⟩ := rx
    obtain ⟨hy, e'⟩ : y.size ≤ sizeLine ∧ n = y.size := e
    subst e'
    exact PySem.W.len_bytes (by omega) ⟨.int _, H, I.tok _, ⟨_, rfl⟩, q⟩
  | ref p =>
    cases rx
    have e' : (∃ xs, SqL X.K H p xs ∧ n = xs.length) ∨ ∃ xs, SqT X.K H p xs ∧ n = xs.length := e
    rcases e' with ⟨xs, hx, e'⟩ | ⟨xs, hx, e'⟩
    · subst e'
      obtain ⟨its, r', pl, hz⟩ := I.list hx
      have hlen := r'.length
      exact Calls.call_len_list pl.isList (by simp only [List.size_toArray]; omega) ⟨.int xs.length, H, I.tok _, ⟨_, by simp only [List.size_toArray]; rw [hlen]⟩, q⟩
    · subst e'
      obtain ⟨its, r', pl, hz⟩ := I.tuple hx
      have hlen := r'.length
      exact len_tuple pl (by simp only [List.size_toArray]; omega) ⟨.int xs.length, H, I.tok _, ⟨_, by simp only [List.size_toArray]; rw [hlen]⟩, q⟩
  | _ => exact (show False from e).elim
end
end L2
namespace L2
open PySem PySem.Spec PyProof.Rows
structure ObjM (h : Heap) (x dx C : Addr) (mA : Str → Option Value) : Prop where
  obj : h.get? x = some (PySem.W.instObj C dx)
  ns : h.Ns1 dx mA
  ne : dx ≠ x
theorem lookIn_ns {h : Heap} {dx : Addr} {mA : Str → Option Value} (n : h.Ns1 dx mA) : ∃ od, h.get? dx = some od ∧ ∀ name, PySem.W.lookIn name od = some (mA name) := by
  obtain ⟨o, es, ep, ho, hd, hk, _, hm⟩ := n
  refine ⟨o, ho, fun name => ?_⟩
  have e := hm name
  unfold nsFind findBy at e
  rw [← Array.find?_toList] at e
  unfold PySem.W.lookIn
  rw [hd]
  dsimp only
  split
  · rename_i y q
    rw [q] at e
    exact congrArg some e
  · rename_i q
    rw [q] at e
    have a : es.toList.any (·.refKey) = false := by
      rw [List.any_eq_false]
      intro y hy
      obtain ⟨z, t, hkey⟩ := hk y (Array.mem_toList_iff.mp hy)
      simp [DictEntry.refKey, hkey]
    have a' : ¬ es.toList.any (·.refKey) = true := by rw [a]; exact Bool.false_ne_true
    rw [if_neg a']
    exact congrArg some e
theorem ObjM.look {h : Heap} {x dx C : Addr} {mA : Str → Option Value} (I : ObjM h x dx C mA) : ∃ od, PySem.W.InstAt h x (PySem.W.instObj C dx) C (some od) ∧ ∀ name, PySem.W.lookIn name od = some (mA name) :=
  let ⟨od, ho, hl⟩ := lookIn_ns I.ns
  ⟨od, ⟨I.obj, rfl, rfl, ho⟩, hl⟩
section
variable {prog : Program} {w : World} {A : Around} {E : Value → Shared → Prop} {s : Shared} {K : PySem.W.Frag} {x dx C f : Addr} {mA : Str → Option Value} {name : Str} {v : Value}
end
section
variable {P : Program} {w : World} {H H' : Hp} {h h' : Heap} {a C dx : Addr} {fs fs' : List (Str × V)}
theorem ins_get (hok : HOk P w H h) (e : H a = some (.ins C dx fs)) : ∃ mA, ObjM h a dx C mA ∧ (∀ f, RelO (fs.lookup f) (mA f)) ∧ PySem.Within mA (fs.map (·.1)) ∧ fs.length ≤ 1000 ∧ H dx = some (.own a) := by
  obtain ⟨d, z, ne, ob, mA, n, r, q⟩ := (show ObjOk P w H h a (.ins C dx fs) from hok a _ e)
  exact ⟨mA, ⟨ob, n, ne⟩, r, q, z, d⟩
end
structure Cls (K : PySem.W.Frag) (C : Addr) : Prop where
  pg : PySem.W.plainGet K C Str.empty = true
  hd : PySem.W.hasDictIn K C = true
  po : PySem.W.plainOver K C = true
  sa : PySem.W.findIn K (.ref C) "__setattr__" = some (some (.builtin "object.__setattr__"))
theorem Cls.get {K : PySem.W.Frag} {C : Addr} (c : Cls K C) (f : Str) : PySem.W.plainGet K C f = true := c.pg
structure Con (K : PySem.W.Frag) (C : Addr) (f : Str) (v : V) (u : Value) : Prop where
  at_ : PySem.W.findIn K (.ref C) f = some (some u)
  rel : RelV v u
  get : PySem.W.specialIn K u "__get__" = some none
  cp : PySem.W.copiedNames.contains f = false
structure Meth (K : PySem.W.Frag) (C : Addr) (m : Str) (f : Addr) : Prop where
  at_ : PySem.W.findIn K (.ref C) m = some (some (.ref f))
  fn : PySem.W.isFn K (.ref f) = true
  kp : PySem.W.keepIn K (.ref f) = true
section
variable {X : Cx} {pins : List (Addr × Obj)} {σ : St} {H : Hp} {s : Shared} {a C dx : Addr} {fs : List (Str × V)} {f : Str} {v : V} {A : Around} {E : Value → Shared → Prop}
end
section
variable {X : Cx} {o e value : Expr} {f : Str} {pos pos' tpos : Pos} {ta tv : TE}
end
section
variable {X : Cx} {pins : List (Addr × Obj)} {σ : St} {H : Hp} {s : Shared} {A : Around} {E : Value → Shared → Prop} {Q : Value → Shared → Prop} {c : Value} {b : Bool}
inductive TyOf (K : PySem.W.Frag) (H : Hp) : V → Value → Prop where
  | non : TyOf K H .non (.type "NoneType")
  | bl (x : Bool) : TyOf K H (.bl x) (.type "bool")
  | int (i : Int) : TyOf K H (.int i) (.type "int")
  | str (x : Str) : TyOf K H (.str x) (.type "str")
  | flt (x : UInt64) : TyOf K H (.flt x) (.type "float")
  | lst {a : Addr} {xs : List V} (e : H a = some (.lst xs)) : TyOf K H (.ref a) (.type "list")
  | frz {a : Addr} {o : Obj} {xs : List V} (e : H a = some (.frz o (.lst xs))) : TyOf K H (.ref a) (.type "list")
  | tup {a : Addr} {xs : List V} (e : H a = some (.tup xs)) : TyOf K H (.ref a) (.type "tuple")
  | dK {a : Addr} {kvs : List (Key × V)} (e : H a = some (.dK kvs)) : TyOf K H (.ref a) (.type "dict")
  | dT {a : Addr} {kvs : List (List Key × V)} (e : H a = some (.dT kvs)) : TyOf K H (.ref a) (.type "dict")
  | ins {a C dx : Addr} {fs : List (Str × V)} (e : H a = some (.ins C dx fs)) (cl : Cls K C) (ha : PySem.W.findIn K (.ref C) "__class__" = some (some (.builtin "object.__class__")))
      (hn : PySem.W.specialIn K (.builtin "object.__class__") "__get__" = some (some (.builtin "getset_descriptor.__get__"))) (htk : PySem.W.takesIn K (.builtin "object.__class__") = some true)
      (hm : PySem.W.mroIn K C (.type "object") = some true) : TyOf K H (.ref a) (.ref C)
theorem isinst_ok {x : V} {u t : Value} (I : Inv X pins σ H s) (rx : RelV x u) (ty : TyOf X.K H x t) (e : PySem.W.kitOne X.K t c = some b) (h : ∀ tk, Q (.bool b) { s with toks := tk }) :
    wpAny (model X.prog X.w) A (call (.builtin "isinstance") [u, c]) Q E s := by
  cases ty with
  | non => cases (show u = Value.none from rx); exact PySem.W.kia_one PySem.W.kitx_none I.kIn True.intro e (fun z => nomatch z) h
  | bl y => cases (show u = Value.bool y from rx); exact PySem.W.kia_one PySem.W.kitx_bool I.kIn True.intro e (fun z => nomatch z) h
  | int i => obtain ⟨t, q⟩ := (show ∃ t, u = Value.int i t from rx); cases q; exact PySem.W.kia_one PySem.W.kitx_int I.kIn True.intro e (fun z => nomatch z) h
  | str y => obtain ⟨t, q⟩ := (show ∃ t, u = Value.str y t from rx); cases q; exact PySem.W.kia_one PySem.W.kitx_str I.kIn True.intro e (fun z => nomatch z) h
  | flt y => obtain ⟨t, q⟩ := (show ∃ t, u = Value.float y t from rx); cases q; exact PySem.W.kia_one PySem.W.kitx_float I.kIn True.intro e (fun z => nomatch z) h
  | @lst a xs ea =>
    cases (show u = Value.ref a from rx)
    obtain ⟨_, _, n, _, h1⟩ := (show ObjOk X.prog X.w H s.heap a (.lst xs) from I.hok a _ ea)
    exact PySem.W.kia_one PySem.W.kitx_list I.kIn ⟨_, h1, rfl⟩ e (fun z => nomatch z) h
  | @frz a ob xs ea =>
    cases (show u = Value.ref a from rx)
    obtain ⟨_, _, _, n, _, h1⟩ := (show ObjOk X.prog X.w H s.heap a (.frz ob (.lst xs)) from I.hok a _ ea)
    exact PySem.W.kia_one PySem.W.kitx_list I.kIn ⟨_, h1, rfl⟩ e (fun z => nomatch z) h
  | @tup a xs ea =>
    cases (show u = Value.ref a from rx)
    obtain ⟨_, _, _, p⟩ := (show ObjOk X.prog X.w H s.heap a (.tup xs) from I.hok a _ ea)
    obtain ⟨o, h1, h2, _⟩ := p
    exact PySem.W.kia_one PySem.W.kitx_tuple I.kIn ⟨o, h1, h2⟩ e (fun z => nomatch z) h
  | @dK a kvs ea =>
    cases (show u = Value.ref a from rx)
    obtain ⟨_, _, vs, _, p⟩ := (show ObjOk X.prog X.w H s.heap a (.dK kvs) from I.hok a _ ea)
    obtain ⟨o, es, ep, h1, h2, _⟩ := p
    exact PySem.W.kia_one PySem.W.kitx_dict I.kIn ⟨o, h1, h2.1⟩ e (fun z => nomatch z) h
  | @dT a kvs ea =>
    cases (show u = Value.ref a from rx)
    obtain ⟨_, _, xs, _, o, es, ep, h1, h2, _⟩ := (show ObjOk X.prog X.w H s.heap a (.dT kvs) from I.hok a _ ea)
    exact PySem.W.kia_one PySem.W.kitx_dict I.kIn ⟨o, h1, h2.1⟩ e (fun z => nomatch z) h
  | @ins a C dx fs ea cl ha hn htk hm =>
    cases (show u = Value.ref a from rx)
    obtain ⟨mA, O, _⟩ := ins_get I.hok ea
    obtain ⟨od, J, _⟩ := O.look
    exact PySem.W.kia_one (PySem.W.kitx_own (cl.get _) cl.hd ha hn htk hm) I.kIn J e (fun z => nomatch z) h
end
end L2
namespace L2
open PySem PySem.Spec PyProof.Rows
structure Room (k : Nat) (A : Around) : Prop where
  hd : A.handled = none
  dp : A.depth + 3 * k + 5 < recursionLimit
  un : A.units + 16 * k + 200 < cLine
theorem Room.mono {j k : Nat} {A : Around} (r : Room k A) (h : j ≤ k) : Room j A := ⟨r.hd, by have := r.dp; omega, by have := r.un; omega⟩
theorem Room.deeper {k : Nat} {A : Around} (r : Room (k + 1) A) (env : Env) : Room k (A.deeper env) :=
  ⟨r.hd, by have := r.dp; show A.depth + 1 + 3 * k + 5 < _; omega, by have := r.un; show A.units + 3 + 16 * k + 200 < _; omega⟩
theorem Room.in1 {k : Nat} {A : Around} (r : Room (k + 1) A) : Room k A.in1 :=
  ⟨r.hd, by have := r.dp; show A.depth + 3 * k + 5 < _; omega, by have := r.un; show A.units + 1 + 16 * k + 200 < _; omega⟩
theorem Room.depth {k : Nat} {A : Around} (r : Room k A) : A.depth < recursionLimit := by have := r.dp; omega
theorem Room.units {k : Nat} {A : Around} (r : Room k A) : A.units + 64 < cLine := by have := r.un; omega
def tNil : TA := fun _ H Q => Q [] H
def tCons (ta : TE) (tr : TA) : TA := fun σ H Q => ta σ H fun x H1 => tr σ H1 fun xs H2 => Q (x :: xs) H2
section
variable {X : Cx} {e : Expr} {es : List Expr} {te : TE} {t : TA} {pos : Pos}
theorem pa_nil : PA X [] tNil := fun _ _ _ _ H Q I h => Calls.spliced_nil ⟨[], H, I, .nil, h⟩
theorem pa_cons (ha : PE X e te) (hr : PA X es t) (hs : starEach (e :: es) X.env = (false, eval e X.env) :: starEach es X.env := by rfl) : PA X (e :: es) (tCons te t) := by
  intro pos pins s σ H Q I h
  rw [hs]
  show wpAny _ _ (spliced ((false, eval e X.env) :: backTo pos (starEach es X.env))) _ _ s
  refine Calls.spliced_cons (thn (ha pins s σ H _ I h) fun u s1 ⟨x, H1, I1, r1, q1⟩ => ?_)
  exact thn (hr pos pins s1 σ H1 _ I1 q1) fun us s2 ⟨xs, H2, I2, r2, q2⟩ => ⟨x :: xs, H2, I2, .cons r1 r2, q2⟩
def tTup (t : TA) : TE := fun σ H Q => t σ H fun xs H1 => xs.length ≤ sizeLine ∧ ∀ p, H1 p = none → Q (.ref p) (upd H1 p (.tup xs))
def tLst (t : TA) : TE := fun σ H Q => t σ H fun xs H1 => xs.length ≤ sizeLine ∧ ∀ p, H1 p = none → Q (.ref p) (upd H1 p (.lst xs))
theorem pe_tup {x1} (h : PA X es t) : PE X (.Tuple es x1 pos) (tTup t) := by
  intro pins s σ H Q I hq
  refine wpAny_Tuple_spliced (thn (h pos pins s σ H _ I hq) fun us s1 ⟨xs, H1, I1, r, z, q⟩ => ⟨by rw [← r.length]; exact z, ?_⟩)
  have hf : H1 s1.heap.objs.size = none := I1.hok.fresh (Nat.le_refl _)
  refine ⟨.ref s1.heap.objs.size, upd H1 s1.heap.objs.size (.tup xs), I1.laid (t' := s1.toks) (fun b u e => Heap.get?_push_of_some _ e) (Nat.le_refl _) ?_, rfl, q _ hf⟩
  exact ⟨z, us, r, ⟨_, Heap.get?_push_size _ rfl, rfl, _, rfl⟩⟩
theorem pe_lst (h : PA X es t) : PE X (.List es pos) (tLst t) := by
  intro pins s σ H Q I hq
  refine wpAny_List_spliced (thn (h pos pins s σ H _ I hq) fun us s1 ⟨xs, H1, I1, r, z, q⟩ => ⟨by rw [← r.length]; exact z, ?_⟩)
  have hf : H1 s1.heap.objs.size = none := I1.hok.fresh (Nat.le_refl _)
  refine ⟨.ref s1.heap.objs.size, upd H1 s1.heap.objs.size (.lst xs), I1.laid (t' := s1.toks) (fun b u e => Heap.get?_push_of_some _ e) (Nat.le_refl _) ?_, rfl, q _ hf⟩
  exact ⟨z, us, 0, r, Heap.get?_push_size _ rfl⟩
end
abbrev Sp := List V → Hp → VK → XK → Prop
abbrev CXT := List Env → Hp → Shared → XK → Value → Shared → Prop
structure Env0 (P : Program) (w : World) (K : PySem.W.Frag) (mg : Str → Option Value) (base : Heap) (A : Around) (outer : List Env) (s : Shared) (H : Hp) : Prop where
  frames : A.frames = some outer
  mod : Mod K mg base
  bs : ∀ b o, base.get? b = some o → s.heap.get? b = some o ∧ H b = none
  bsz : base.objs.size ≤ s.heap.objs.size
  funs : s.heap.FunFrames base outer
  frf : ∀ b ∈ frs outer, H b = none
  hok : HOk P w H s.heap
  bare : AllBare s.gens
def CE (outer : List Env) (P : Program) (w : World) (H : Hp) (s : Shared) (Q : VK) (u : Value) (s' : Shared) : Prop :=
  ∃ v H', s'.os = s.os ∧ AllBare s'.gens ∧ Un (frs outer) [] H H' s.heap s'.heap ∧ HOk P w H' s'.heap ∧ RelV v u ∧ Q v H'
def CR (CX : CXT) (outer : List Env) (P : Program) (w : World) (H : Hp) (s : Shared) (Q : VK) (E : XK) (r : Result) (s' : Shared) : Prop :=
  match r with
  | .ok (.ret u) => CE outer P w H s Q u s'
  | .ok _ => False
  | .error e => CX outer H s E e s'
structure FnOk (P : Program) (w : World) (K : PySem.W.Frag) (mg : Str → Option Value) (base : Heap) (CX : CXT) (k : Nat) (f : Addr) (fd : FuncData) (ps : List Str) (sp : Sp) : Prop where
  len : ∀ vs H Q E, sp vs H Q E → vs.length = ps.length
  run : ∀ (A : Around) (outer : List Env) (s : Shared) (H : Hp) (args : Args) (us : List Value) (vs : List V) (Q : VK) (E : XK), Room k A → Env0 P w K mg base A outer s H → BindsTo s fd args (ps.zip us) → Vals vs us → sp vs H Q E →
    codeAny (model P w) A (.call (.ref f) args) (CR CX outer P w H s Q E) s
theorem FnOk.mono {P : Program} {w : World} {K : PySem.W.Frag} {mg : Str → Option Value} {base : Heap} {CX : CXT} {j k : Nat} {f : Addr} {fd : FuncData} {ps : List Str} {sp : Sp} (F : FnOk P w K mg base CX j f fd ps sp) (h : j ≤ k) :
    FnOk P w K mg base CX k f fd ps sp := ⟨F.len, fun A outer s H args us vs Q E hr => F.run A outer s H args us vs Q E (hr.mono h)⟩
theorem Env0.in1 {P : Program} {w : World} {K : PySem.W.Frag} {mg : Str → Option Value} {base : Heap} {A : Around} {outer : List Env} {s : Shared} {H : Hp} (e : Env0 P w K mg base A outer s H) :
    Env0 P w K mg base A.in1 outer s H := ⟨e.frames, e.mod, e.bs, e.bsz, e.funs, e.frf, e.hok, e.bare⟩
section
variable {X : Cx} {pins : List (Addr × Obj)} {σ : St} {H : Hp} {s s' : Shared}
theorem Inv.env0 (I : Inv X pins σ H s) : Env0 X.prog X.w X.K X.mg X.base X.A X.stack s H :=
  ⟨I.ok.frames, I.ok.mod, I.bs, Nat.le_trans I.ok.bsz I.sz, I.stack, I.stkFree, I.hok, I.bare⟩
theorem Inv.after {Q : VK} {u : Value} (I : Inv X pins σ H s) (h : CE X.stack X.prog X.w H s Q u s') : EP X pins σ Q u s' := by
  obtain ⟨v, H', os, bare, un, hok, r, q⟩ := h
  obtain ⟨hh, g, d, t, os'⟩ := s'
  obtain rfl : os' = s.os := os
  exact ⟨v, H', I.call (h' := hh) (g' := g) (d' := d) (t' := t) (ch := []) un hok bare (fun b z => absurd z (by simp)), r, q⟩
end
def tCall (sp : Sp) (dvs : List V) (E : XK) (t : TA) : TE := fun σ H Q => t σ H fun vs H1 => sp (vs ++ dvs) H1 Q E
def Binds (K : PySem.W.Frag) (fd : FuncData) (ps : List Str) (ds : List Value) : Prop :=
  ∀ (s : Shared) (us : List Value), K.In s.heap → (us ++ ds).length = ps.length → BindsTo s fd ⟨us, []⟩ (ps.zip (us ++ ds))
theorem Binds.all {K : PySem.W.Frag} {fd : FuncData} {ps : List Str} (h : ∀ us : List Value, us.length = ps.length → bindArgs fd ⟨us, []⟩ = pure (ps.zip us)) : Binds K fd ps [] := fun s us _ hl => by
  rw [List.append_nil] at hl ⊢
  exact .of_eq (h us hl)
def Passes (CX : CXT) (X : Cx) (E : XK) : Prop := ∀ (pins : List (Addr × Obj)) (σ : St) (H : Hp) (s : Shared) (e : Value) (s' : Shared), Inv X pins σ H s → CX X.stack H s E e s' → X.xe e s'
section
variable {X : Cx} {CX : CXT} {k : Nat} {f C : Addr} {fd : FuncData} {ps : List Str} {sp : Sp} {dvs : List V} {ds : List Value} {E : XK} {x m : Str} {p pos apos : Pos} {e o : Expr} {es : List Expr} {ta : TE} {t : TA}
theorem run_fn {pins : List (Addr × Obj)} {σ : St} {H : Hp} {s : Shared} {Q : VK} {us : List Value} {vs : List V} (F : FnOk X.prog X.w X.K X.mg X.base CX k f fd ps sp) (hr : Room k X.A) (hb : Binds X.K fd ps ds) (hd : Vals dvs ds) (hx : Passes CX X E)
    (I : Inv X pins σ H s) (r : Vals vs us) (h : sp (vs ++ dvs) H Q E) : wpAny (model X.prog X.w) X.A (call (.ref f) us) (EP X pins σ Q) X.xe s := by
  have r2 : Vals (vs ++ dvs) (us ++ ds) := r.append hd
  have hl : (us ++ ds).length = ps.length := by rw [← r2.length]; exact F.len _ _ _ _ h
  refine wpAny_call (codeAny_mono (F.run X.A X.stack s H ⟨us, []⟩ (us ++ ds) (vs ++ dvs) Q E hr I.env0 (hb s us I.kIn hl) r2 h) fun r s' hq => ?_)
  cases r with
  | error e => exact hx pins σ H s e s' I hq
  | ok fl =>
    cases fl with
    | ret u => exact I.after hq
    | next => exact False.elim hq
    | brk => exact False.elim hq
    | cont => exact False.elim hq
theorem pe_call (F : FnOk X.prog X.w X.K X.mg X.base CX k f fd ps sp) (hr : Room k X.A) (hg : Gl X x) (hm : X.mg x = some (.ref f)) (hk : PySem.W.keepIn X.K (.ref f) = true) (hb : Binds X.K fd ps ds) (hd : Vals dvs ds) (hx : Passes CX X E)
    (ha : PA X (e :: es) t) (hdb : (x == ("__debug__" : Str)) = false := by decide) (he : starEach (e :: es) X.env = (false, eval e X.env) :: starEach es X.env := by rfl) (hpl : (backTo pos (starEach es X.env)).any (·.1) = false := by rfl) :
    PE X (.Call (.Name x p) (e :: es) [] pos) (tCall sp dvs E t) := by
  intro pins s σ H Q I h
  refine wpAny_Call_Name_kw (ld_glob I hg hm ?_ hdb)
  refine PySem.W.callWith_K (h₀ := X.base) I.ok.mod.kin hk (thn (ha pos pins s σ H _ I h) fun us s1 ⟨vs, H1, I1, r, q⟩ => ⟨I1.kIn, ?_⟩) he hpl
  exact run_fn F hr hb hd hx I1 r q
structure Mk (K : PySem.W.Frag) (C f : Addr) : Prop where
  makes : PySem.W.makesIn K C = true
  init : PySem.W.findIn K (.ref C) "__init__" = some (some (.ref f))
  fn : PySem.W.isFn K (.ref f) = true
  kp : PySem.W.keepIn K (.ref C) = true
end
section
variable {X : Cx} {CX : CXT} {k : Nat} {f C : Addr} {fd : FuncData} {ps ks : List Str} {sp : Sp} {E : XK} {x m : Str} {p pos apos kpos : Pos} {e o : Expr} {es : List Expr} {kws : List Keyword} {te ta : TE} {t tk : TA} {nm : Option Str}
structure KBinds (K : PySem.W.Frag) (fd : FuncData) (ps ks : List Str) (g : List Value → List Value → List Value) (gV : List V → List V → List V) : Prop where
  to : ∀ (s : Shared) (us ws : List Value), K.In s.heap → (g us ws).length = ps.length → BindsTo s fd ⟨us, ks.zip ws⟩ (ps.zip (g us ws))
  rel : ∀ {vs : List V} {us : List Value} {zs : List V} {ws : List Value}, Vals vs us → Vals zs ws → Vals (gV vs zs) (g us ws)
variable {g : List Value → List Value → List Value} {gV : List V → List V → List V}
end
structure FnScope (N P : List Str) (sc : Scope) : Prop where
  kind : sc.kind = .function
  co : sc.isCoroutine = false
  gen : sc.isGenerator = false
  nd : N.Nodup
  pre : N.take P.length = P
  par : ∀ x ∈ P, sc.names.lookup x = some .local ∨ sc.names.lookup x = some .cell
  nofree : ∀ y ∈ sc.names, y.2 ≠ .free
theorem bindL_out {kindOf : Str → Option NameKind} {x : Str} : ∀ {binds : List (Str × Value)} {m : Str → Option Value}, (∀ v, (x, v) ∉ binds) → bindL kindOf binds m x = m x
  | [], _, _ => rfl
  | (n, v) :: r, m, h => by
    unfold bindL
    rw [bindL_out fun w hw => h w (List.mem_cons_of_mem _ hw)]
    split
    · have : x ≠ n := by rintro rfl; exact h v List.mem_cons_self
      simp [this]
    · rfl
theorem bindC_out {kindOf : Str → Option NameKind} {x : Str} : ∀ {binds : List (Str × Value)} {m : Str → Option Value}, (∀ v, (x, v) ∉ binds) → bindC kindOf binds m x = m x
  | [], _, _ => rfl
  | (n, v) :: r, m, h => by
    unfold bindC
    rw [bindC_out fun w hw => h w (List.mem_cons_of_mem _ hw)]
    split
    · rfl
    · have : x ≠ n := by rintro rfl; exact h v List.mem_cons_self
      simp [this]
theorem bindL_get {kindOf : Str → Option NameKind} {x : Str} {v : Value} : ∀ {P : List Str} {vs : List Value} {i : Nat} {m : Str → Option Value}, P.Nodup → P[i]? = some x → vs[i]? = some v → kindOf x = some .local →
    bindL kindOf (P.zip vs) m x = some v
  | [], _, _, _, _, h, _, _ => by simp at h
  | _ :: _, [], _, _, _, _, h, _ => by simp at h
  | p :: P, w :: vs, 0, m, nd, h1, h2, hk => by
    simp at h1 h2; subst h1; subst h2
    show bindL kindOf ((p, w) :: P.zip vs) m p = _
    unfold bindL
    rw [bindL_out fun v hv => (List.nodup_cons.mp nd).1 (List.of_mem_zip hv).1, if_pos hk]
    simp
  | p :: P, w :: vs, i + 1, m, nd, h1, h2, hk => by
    show bindL kindOf ((p, w) :: P.zip vs) m x = _
    unfold bindL
    exact bindL_get (i := i) (List.nodup_cons.mp nd).2 (by simpa using h1) (by simpa using h2) hk
theorem bindC_get {kindOf : Str → Option NameKind} {x : Str} {v : Value} : ∀ {P : List Str} {vs : List Value} {i : Nat} {m : Str → Option Value}, P.Nodup → P[i]? = some x → vs[i]? = some v → kindOf x ≠ some .local →
    bindC kindOf (P.zip vs) m x = some v
  | [], _, _, _, _, h, _, _ => by simp at h
  | _ :: _, [], _, _, _, _, h, _ => by simp at h
  | p :: P, w :: vs, 0, m, nd, h1, h2, hk => by
    simp at h1 h2; subst h1; subst h2
    show bindC kindOf ((p, w) :: P.zip vs) m p = _
    unfold bindC
    rw [bindC_out fun v hv => (List.nodup_cons.mp nd).1 (List.of_mem_zip hv).1, if_neg hk]
    simp
  | p :: P, w :: vs, i + 1, m, nd, h1, h2, hk => by
    show bindC kindOf ((p, w) :: P.zip vs) m x = _
    unfold bindC
    exact bindC_get (i := i) (List.nodup_cons.mp nd).2 (by simpa using h1) (by simpa using h2) hk
def start (N : List Str) (vs : List V) : St := vs.map some ++ List.replicate (N.length - vs.length) none
def cxOf (CX : CXT) (P : Program) (w : World) (K : PySem.W.Frag) (mg : Str → Option Value) (base : Heap) (N : List Str) (qual : Str) (scope : Scope) (f : Addr) (cd : Value) (A : Around) (outer : List Env) (s : Shared) (H : Hp) (E : XK) : Cx where
  prog := P
  w := w
  K := K
  mg := mg
  base := base
  A := A.deeper (envOfC qual scope s.heap.objs.size f cd)
  N := N
  s_0 := s
  H_0 := H
  env := envOfC qual scope s.heap.objs.size f cd
  outer := outer
  stack := envOfC qual scope s.heap.objs.size f cd :: outer
  ex := []
  calm := true
  fn := fun _ => true
  pn := []
  xe := fun e s' => wpAny (model P w) (A.deeper (envOfC qual scope s.heap.objs.size f cd)) (leaving (envOfC qual scope s.heap.objs.size f cd) e) (fun _ s'' => CX outer H s E e s'') (fun e' s'' => CX outer H s E e' s'') s'
theorem cell_has {sc : Scope} {n : Nat} {x : Str} (h : sc.names.lookup x = some .cell) : ∃ c, (cellsFrom n sc.names []).lookup x = some c := by
  have q := PySem.W.cellsFrom_some sc.names n [] (.inl h)
  exact Option.isSome_iff_exists.mp q
theorem inv_start {CX : CXT} {P : Program} {w : World} {K : PySem.W.Frag} {mg : Str → Option Value} {base : Heap} {N ps : List Str} {qual : Str} {scope : Scope} {f : Addr} {cd : Value} {A : Around} {outer : List Env} {s s1 : Shared} {H : Hp} {E : XK} {us : List Value} {vs : List V}
    (S : FnScope N ps scope) (hd : A.handled = none) (e0 : Env0 P w K mg base A outer s H) (hl : vs.length = ps.length) (r : Vals vs us)
    (x : InCallC s s.heap.objs.size (bindL (envOfC qual scope s.heap.objs.size f cd).kindOf (ps.zip us) fun _ => none) (cellsFrom (s.heap.objs.size + 1) scope.names []) (bindC (envOfC qual scope s.heap.objs.size f cd).kindOf (ps.zip us) fun _ => none) s1) :
    Inv (cxOf CX P w K mg base N qual scope f cd A outer s H E) [] (start N vs) H s1 := by
  have hpl : ps.length ≤ N.length := by have := congrArg List.length S.pre; rw [List.length_take] at this; omega
  obtain ⟨h1, tk, rfl, hk⟩ := x.done
  have noA : ∀ b : Addr, b ∉ (cxOf CX P w K mg base N qual scope f cd A outer s H E).ex := fun b z => absurd (show b ∈ ([] : List Addr) from z) (by simp)
  refine ⟨⟨e0.mod, S.kind, rfl, rfl, Nat.le_refl _, fun y z c h1 h2 => ?_, fun y hy => ?_, fun y c _ h => ?_, fun _ => hd, Around.frames_deeper e0.frames, .inr ⟨rfl, rfl⟩, fun b z => absurd z (noA b), e0.bs, e0.bsz, fun b _ _ => noA b, fun b z => absurd z (noA b), e0.funs, e0.frf⟩,
    rfl, e0.bare, Un.kept hk, ⟨_, x.toInCall.ns, fun i y v h1 h2 h3 => ?_⟩, fun y c h => ⟨_, x.cell y c h⟩, e0.hok.fresh (Nat.le_refl _), fun y c h => ?_, fun p hp => absurd (show p ∈ ([] : List (Addr × Obj)) from hp) (by simp), e0.hok.kept hk, ?_⟩
  · exact name_of_addr x.apart (PySem.mem_of_lookup h1) (PySem.mem_of_lookup h2)
  · have hy : scope.names.lookup y = some .cell ∨ scope.names.lookup y = some .free := hy
    rcases hy with hy | hy
    · exact cell_has hy
    · exact absurd rfl (S.nofree _ (PySem.mem_of_lookup hy))
  · exact Nat.le_of_lt (x.above y c (PySem.mem_of_lookup h))
  · have hi : i < vs.length := by
      unfold start at h2
      by_cases hi : i < vs.length
      · exact hi
      · rw [List.getElem?_append_right (by simpa using hi)] at h2
        rw [List.getElem?_replicate] at h2
        split at h2 <;> cases h2
    have ha : vs[i]? = some v := by
      unfold start at h2
      rw [List.getElem?_append_left (by simpa using hi), List.getElem?_map] at h2
      cases e : vs[i]? with
      | none => rw [e] at h2; cases h2
      | some a => rw [e] at h2; cases h2; rfl
    obtain ⟨u, hu, rv⟩ := r.get ha
    have hp : ps[i]? = some y := by
      rw [← S.pre, List.getElem?_take_of_lt (by omega)]; exact h1
    have ndP : ps.Nodup := by rw [← S.pre]; exact S.nd.sublist (List.take_sublist _ _)
    refine ⟨u, rv, ?_⟩
    rcases S.par y (List.mem_of_getElem? hp) with k | k
    · exact .inl ⟨k, bindL_get ndP hp hu k⟩
    · obtain ⟨c, e⟩ := cell_has (n := s.heap.objs.size + 1) k
      refine .inr ⟨.inl k, c, e, ?_⟩
      have q := x.cell y c e
      rw [bindC_get ndP hp hu (by show scope.names.lookup y ≠ _; rw [k]; decide)] at q
      exact q
  · exact e0.hok.fresh (Nat.le_of_lt (x.above y c (PySem.mem_of_lookup h)))
  · unfold start
    show _ = N.length
    rw [List.length_append, List.length_map, List.length_replicate]
    omega
theorem fn_of {CX : CXT} {P : Program} {w : World} {K : PySem.W.Frag} {mg : Str → Option Value} {base : Heap} {k : Nat} {f : Addr} {name qual : Str} {params : Arguments} {body : List Stmt} {scope : Scope} {dV kV doc pm cdv ct oc : Value} {an od : Option Addr}
    {osl : Array (Option Value)} {N ps : List Str} {sp : Sp} (lk : K.lookup f = some ⟨oc, od, .func (PySem.W.fnOf name qual params body scope dV kV doc pm an cdv ct), osl⟩) (hcd : PySem.W.codeIn K cdv qual = true) (S : FnScope N ps scope)
    (len : ∀ vs H Q E, sp vs H Q E → vs.length = ps.length)
    (hbody : ∀ (A : Around) (outer : List Env) (s : Shared) (H : Hp) (vs : List V) (Q : VK) (E : XK), Room k (A.deeper (envOfC qual scope s.heap.objs.size f cdv)) → sp vs H Q E →
      ∃ t, PSs (cxOf CX P w K mg base N qual scope f cdv A outer s H E) body t ∧ t { nx := fun _ H' => Q .non H', rt := Q } (start N vs) H) :
    FnOk P w K mg base CX (k + 1) f (PySem.W.fnOf name qual params body scope dV kV doc pm an cdv ct) ps sp := by
  refine ⟨len, fun A outer s H args us vs Q E hr e0 hb r hsp => ?_⟩
  have hl := len _ _ _ _ hsp
  have KX : K.In s.heap := e0.mod.kin.keeps fun b o e => (e0.bs b o e).1
  have lim : s.heap.NoLimit := e0.mod.nolimit.keeps fun b o e => (e0.bs b o e).1
  have hkind : ∀ y ∈ ps.zip us, scope.names.lookup y.1 = some .local ∨ (scope.names.lookup y.1 = some .cell ∧ ((cellsFrom (s.heap.objs.size + 1) scope.names []).lookup y.1).isSome = true) := fun ⟨n, v⟩ hy => by
    rcases S.par n (List.of_mem_zip hy).1 with q | q
    · exact .inl q
    · exact .inr ⟨q, PySem.W.cellsFrom_some _ _ _ (.inl q)⟩
  refine codeAny_call_function hr.depth (KX _ _ lk) rfl S.co S.gen rfl (PySem.W.codeRec_of KX hcd) (hb _ _ _ _ ?_)
  refine wpAny_newFunctionEnv_cells S.kind hkind fun env he s1 x => ?_
  subst he
  refine ⟨lim.keeps x.toInCall.keep, codeAny_func ?_⟩
  obtain ⟨t, ht, hq⟩ := hbody A outer s H vs Q E (hr.deeper _) hsp
  have I : Inv (cxOf CX P w K mg base N qual scope f cdv A outer s H E) [] (start N vs) H s1 := inv_start S hr.hd e0 hl r x
  refine wpAny_mono (ht [] s1 (start N vs) H _ I hq) (fun fl s' hs => ?_) fun e s' hs => hs
  have fin : ∀ {σ' : St} {H' : Hp} {v : V} {u : Value}, Inv (cxOf CX P w K mg base N qual scope f cdv A outer s H E) [] σ' H' s' → RelV v u → Q v H' → CE outer P w H s Q u s' :=
    fun {σ' H' v u} J rv q => ⟨v, H', J.os, J.bare, J.base, J.hok, rv, q⟩
  cases fl with
  | ret u =>
    obtain ⟨v, σ', H', J, rv, q⟩ := hs
    exact fin J rv q
  | next =>
    obtain ⟨σ', H', J, q⟩ := hs
    exact fin (v := V.non) (u := Value.none) J rfl q
  | brk =>
    obtain ⟨_, _, _, q⟩ := hs
    exact False.elim q
  | cont =>
    obtain ⟨_, _, _, q⟩ := hs
    exact False.elim q
end L2
namespace L2
open PySem PySem.Spec PyProof.Rows
section
variable {X : Cx} {x : Str} {p pos : Pos} {e : Expr} {es : List Expr} {t : TA} {id T : String} {r : List V → Hp → VK → Prop}
def tCB (r : List V → Hp → VK → Prop) (t : TA) : TE := fun σ H Q => t σ H fun vs H1 => r vs H1 Q
theorem pe_callB (hc : CallR X (.builtin id) r) (hg : Gl X x) (hm : X.mg x = none) (hv : bootBuiltins x = some (.builtin id)) (ha : PA X (e :: es) t) (hn : x ≠ "__name__" := by decide) (hdb : (x == ("__debug__" : Str)) = false := by decide)
    (he : starEach (e :: es) X.env = (false, eval e X.env) :: starEach es X.env := by rfl) (hpl : (backTo pos (starEach es X.env)).any (·.1) = false := by rfl) : PE X (.Call (.Name x p) (e :: es) [] pos) (tCB r t) := by
  intro pins s σ H Q I h
  refine wpAny_Call_Name_kw (ld_blt I hg hm hv ?_ hn hdb)
  exact PyProof.Rows.callWith_builtin1 (thn (ha pos pins s σ H _ I h) fun us s1 ⟨vs, H1, I1, r1, q1⟩ => hc pins s1 σ H1 vs us Q I1 r1 q1) he hpl
theorem pe_callTy (hc : CallR X (.type T) r) (hg : Gl X x) (hm : X.mg x = none) (hv : bootBuiltins x = some (.type T)) (ha : PA X (e :: es) t) (hn : x ≠ "__name__" := by decide) (hdb : (x == ("__debug__" : Str)) = false := by decide)
    (he : starEach (e :: es) X.env = (false, eval e X.env) :: starEach es X.env := by rfl) (hpl : (backTo pos (starEach es X.env)).any (·.1) = false := by rfl) : PE X (.Call (.Name x p) (e :: es) [] pos) (tCB r t) := by
  intro pins s σ H Q I h
  refine wpAny_Call_Name_kw (ld_blt I hg hm hv ?_ hn hdb)
  exact PyProof.Rows.callWith_type1 (thn (ha pos pins s σ H _ I h) fun us s1 ⟨vs, H1, I1, r1, q1⟩ => hc pins s1 σ H1 vs us Q I1 r1 q1) he hpl
end
end L2
namespace HT
open PySem PyProof.Rows
section
open PySem.SeqAt
open PySem.AutoSeq1 (wpAny_loadPart')
open PySem.MeetsSeq PySem.MeetsSeq2 PySem.MeetsSeq3
end
section
variable {prog : Program} {w : World} {A : Around} {E : Value → Shared → Prop} {s : Shared}
end
end HT
namespace L2
open PySem PySem.Spec PyProof.Rows
abbrev TO := St → Hp → (Option Int → Hp → Prop) → Prop
section
variable {X : Cx} {e : Expr} {te : TE} {lo hi : Option Expr} {tl th : TO} {pos p2 : Pos}
end
end L2
namespace L2
open PySem PySem.Spec PyProof.Rows
def ixN (n : Nat) (i : Int) : Option Nat := if 0 ≤ i then (if i < n then some i.toNat else none) else if -(n : Int) ≤ i then some (i + n).toNat else none
def atI {α : Type} (xs : List α) (i : Int) : Option α := (ixN xs.length i).bind fun j => xs[j]?
theorem ixN_seq {n : Nat} {i : Int} {j : Nat} (h : ixN n i = some j) : seqIndex? i n = some j ∧ j < n ∧ -(n : Int) ≤ i ∧ i < n := by
  unfold ixN at h
  by_cases h0 : 0 ≤ i
  · rw [if_pos h0] at h
    by_cases h1 : i < n
    · rw [if_pos h1] at h
      have e : i.toNat = j := Option.some.inj h
      exact ⟨by rw [seqIndex_of h0 h1, e], by omega, by omega, h1⟩
    · rw [if_neg h1] at h; cases h
  · rw [if_neg h0] at h
    by_cases h1 : -(n : Int) ≤ i
    · rw [if_pos h1] at h
      have e : (i + n).toNat = j := Option.some.inj h
      exact ⟨by rw [seqIndex_neg (by omega) h1, e], by omega, h1, by omega⟩
    · rw [if_neg h1] at h; cases h
theorem atI_get {α : Type} {xs : List α} {i : Int} {v : α} (h : atI xs i = some v) : ∃ j, seqIndex? i xs.length = some j ∧ xs[j]? = some v ∧ j < xs.length ∧ -(xs.length : Int) ≤ i ∧ i < xs.length := by
  unfold atI at h
  cases e : ixN xs.length i with
  | none => rw [e] at h; cases h
  | some j =>
    rw [e] at h
    obtain ⟨h1, h2, h3, h4⟩ := ixN_seq e
    exact ⟨j, h1, h, h2, h3, h4⟩
def PlainIx (b : Expr) : Prop := ∀ o i, subscripted b false o i = operate [o, i] (getItem o i)
def IxR (X : Cx) (r : R2) : Prop :=
  ∀ (value slice : Expr) (pins : List (Addr × Obj)) (s : Shared) (σ : St) (H : Hp) (x y : V) (v u : Value) (Q : VK), Inv X pins σ H s → RelV x v → RelV y u → r x y H Q →
    subscripted slice false v u = operate [v, u] (getItem v u) → wpAny (model X.prog X.w) X.A (subscriptTail value slice v u) (EP X pins σ Q) X.xe s
def MtR (X : Cx) (id : String) (r : V → List V → Hp → VK → Prop) : Prop :=
  ∀ (pins : List (Addr × Obj)) (s : Shared) (σ : St) (H : Hp) (x : V) (xs : List V) (v : Value) (us : List Value) (Q : VK), Inv X pins σ H s → RelV x v → Vals xs us → r x xs H Q →
    wpAny (model X.prog X.w) X.A (call (.builtin id) (v :: us)) (EP X pins σ Q) X.xe s
section
variable {X : Cx} {a b : Expr} {ta tb : TE} {pos : Pos}
theorem pe_ix {r : R2} (hr : IxR X r) (ha : PE X a ta) (hb : PE X b tb) (hs : PlainIx b) : PE X (.Subscript a b pos) (tOp r ta tb) := by
  intro pins s σ H Q I h
  exact Subscript_ (binT ha hb I h fun v u s2 x y H2 I2 rx ry q => hr a b pins s2 σ H2 x y v u Q I2 rx ry q (hs _ _))
def rIxL (K : PySem.W.Frag) : R2 := fun x y H Q => ∃ p xs i v, x = .ref p ∧ y = .int i ∧ SqL K H p xs ∧ atI xs i = some v ∧ Q v H
def rIxT (K : PySem.W.Frag) : R2 := fun x y H Q => ∃ p xs i v, x = .ref p ∧ y = .int i ∧ SqT K H p xs ∧ atI xs i = some v ∧ Q v H
theorem ix_list : IxR X (rIxL X.K) := by
  intro value slice pins s σ H x y v u Q I rx ry h hs
  obtain ⟨p, xs, i, z, rfl, rfl, hq, he, q⟩ := h
  cases rx
  obtain ⟨t, rfl⟩ := ry
  obtain ⟨its, r, pl, hz⟩ := I.list hq
  obtain ⟨j, h1, h2, h3, h4, h5⟩ := atI_get he
  obtain ⟨w, ew, rw'⟩ := r.get h2
  have hl := r.length
  have hn := line63
  have fin : EP X pins σ Q w s := ⟨z, H, I, rw', q⟩
  by_cases h0 : 0 ≤ i
  · have hj : i.toNat = j := by
      rw [seqIndex_of h0 h5] at h1
      exact Option.some.inj h1
    exact item_listR pl.isList h0 (by omega) (by rw [hj]; simpa using ew) fin hs
  · have hj : (i + (its.toArray.size : Int)).toNat = j := by
      rw [seqIndex_neg (by omega) h4] at h1
      rw [List.size_toArray, ← hl]
      exact Option.some.inj h1
    exact subscriptTail_builtinR (x := w) pl.isList.typeIs slot_list_getitem.lookup
      (wpAny_getItem_list_neg (Q := fun r s' => r = w ∧ EP X pins σ Q r s') pl.isList (by omega) (by rw [List.size_toArray] <;> omega) (by omega) (by rw [hj]; simpa using ew) ⟨rfl, fin⟩) hs
theorem ix_tup : IxR X (rIxT X.K) := by
  intro value slice pins s σ H x y v u Q I rx ry h hs
  obtain ⟨p, xs, i, z, rfl, rfl, hq, he, q⟩ := h
  cases rx
  obtain ⟨t, rfl⟩ := ry
  obtain ⟨its, r, pl, hz⟩ := I.tuple hq
  obtain ⟨j, h1, h2, h3, h4, h5⟩ := atI_get he
  obtain ⟨w, ew, rw'⟩ := r.get h2
  have hl := r.length
  have hn := line63
  have fin : EP X pins σ Q w s := ⟨z, H, I, rw', q⟩
  exact subscriptTail_builtinR (x := w) pl.typeIs slot_tuple_getitem.lookup
    (getItem_tuple (j := j) (Q := fun r s' => r = w ∧ EP X pins σ Q r s') pl (by omega) (by omega) (by rw [List.size_toArray, ← hl]; exact h1) (by simpa using ew) ⟨rfl, fin⟩) hs
theorem mapSeq_set (its : List Value) (n j : Nat) (u : Value) : Obj.mapSeq (·.setIfInBounds j u) { cls := .type "list", data := .seq its.toArray n } = { cls := .type "list", data := .seq (its.set j u).toArray n } := by
  simp [Obj.mapSeq]
theorem Inv.lst {pins : List (Addr × Obj)} {σ : St} {H : Hp} {s : Shared} {p : Addr} {xs : List V} (I : Inv X pins σ H s) (h : H p = some (.lst xs)) :
    ∃ (its : List Value) (n : Nat), Vals xs its ∧ s.heap.get? p = some { cls := .type "list", data := .seq its.toArray n } ∧ xs.length ≤ sizeLine := by
  obtain ⟨z, its, n, r, e⟩ := I.hok p _ h
  exact ⟨its, n, r, e, z⟩
theorem Inv.lstUpd {pins : List (Addr × Obj)} {σ : St} {H : Hp} {s : Shared} {p : Addr} {xs ys : List V} {its its' : List Value} {n n' : Nat} {f : Obj → Obj} (I : Inv X pins σ H s) (h : H p = some (.lst xs))
    (ho : s.heap.get? p = some { cls := .type "list", data := .seq its.toArray n }) (hf : f { cls := .type "list", data := .seq its.toArray n } = { cls := .type "list", data := .seq its'.toArray n' }) (r : Vals ys its') (hz : ys.length ≤ sizeLine) (t : Nat) :
    Inv X pins σ (upd H p (.lst ys)) { s with heap := s.heap.update p f, toks := t } := by
  have e : (s.heap.update p f).get? p = some { cls := .type "list", data := .seq its'.toArray n' } := by
    rw [Heap.get?_update_self f ho (by rw [hf] <;> rfl), hf]
  refine I.write (x := p) (e := p) (by rw [h]; trivial) (.inl rfl) (fun b u hb q => (Heap.get?_update_other _ _ (Ne.symm hb)).trans q) ⟨_, e⟩ ?_
  exact ⟨hz, its', n', r, e⟩
def rSetL : V → V → V → Hp → (Hp → Prop) → Prop := fun o i v H Q => ∃ p xs k j, o = .ref p ∧ i = .int k ∧ H p = some (.lst xs) ∧ ixN xs.length k = some j ∧ Q (upd H p (.lst (xs.set j v)))
theorem set_list : PSet X rSetL := by
  intro pins s σ H o i v ov iv u Q I ro ri rv h
  obtain ⟨p, xs, k, j, rfl, rfl, hp, hj, q⟩ := h
  cases ro
  obtain ⟨t, rfl⟩ := ri
  obtain ⟨its, n, r, ho, hz⟩ := I.lst hp
  obtain ⟨h1, h2, h3, h4⟩ := ixN_seq hj
  have hl := r.length
  have hn := line63
  have I' : Inv X pins σ (upd H p (.lst (xs.set j v))) { s with heap := s.heap.update p (Obj.mapSeq (·.setIfInBounds j u)) } :=
    I.lstUpd hp ho (mapSeq_set its n j u) (r.set rv j) (by rw [List.length_set]; exact hz) s.toks
  by_cases h0 : 0 ≤ k
  · have hk : k.toNat = j := by
      rw [seqIndex_of h0 h4] at h1
      exact Option.some.inj h1
    exact PySem.W.ki_setAt ho h0 (by omega) (by rw [List.size_toArray, ← hl]; exact h4) (by rw [hk]; exact ⟨_, I', q⟩)
  · have hk : (k + (its.toArray.size : Int)).toNat = j := by
      rw [seqIndex_neg (by omega) h3] at h1
      rw [List.size_toArray, ← hl]
      exact Option.some.inj h1
    exact PySem.W.ki_setBack ho (by omega) (by rw [List.size_toArray, ← hl]; exact h3) (by omega) (by rw [hk]; exact ⟨_, I', q⟩)
def flatV : V → Bool
  | .non => true
  | .bl _ => true
  | .int _ => true
  | .str _ => true
  | _ => false
def eqV : V → V → Bool
  | .non, .non => true
  | .bl a, .bl b => a == b
  | .bl a, .int b => (if a then 1 else 0) == b
  | .int a, .bl b => a == (if b then 1 else 0)
  | .int a, .int b => a == b
  | .str a, .str b => a == b
  | _, _ => false
theorem eqAt_V {A : Around} {s : Shared} {y x : V} {u v : Value} (ry : RelV y u) (rx : RelV x v) (fy : flatV y = true) (fx : flatV x = true) : SeqAt.EqAt A s u v (eqV y x) := by
  cases y with
  | non =>
    cases ry
    cases x with
    | non => cases rx; exact SeqAt.EqAt.same _
    | bl b => cases rx; exact SeqAt.EqAt.none_bool b
    | int b => obtain ⟨t, rfl⟩ := rx; exact SeqAt.EqAt.none_int b t
    | str b => obtain ⟨t, rfl⟩ := rx; exact SeqAt.EqAt.none_str b t
    | _ => exact absurd (show false = true from fx) Bool.false_ne_true
  | bl a =>
    cases ry
    cases x with
    | non => cases rx; exact SeqAt.EqAt.bool_none a
    | bl b => cases rx; exact SeqAt.EqAt.bool_bool a b
    | int b => obtain ⟨t, rfl⟩ := rx; exact SeqAt.EqAt.bool_int a b t
    | str b => obtain ⟨t, rfl⟩ := rx; exact SeqAt.EqAt.bool_str a b t
    | _ => exact absurd (show false = true from fx) Bool.false_ne_true
  | int a =>
    obtain ⟨t', rfl⟩ := ry
    cases x with
    | non => cases rx; exact SeqAt.EqAt.int_none a t'
    | bl b => cases rx; exact SeqAt.EqAt.int_bool a t' b
    | int b => obtain ⟨t, rfl⟩ := rx; exact SeqAt.EqAt.int_int a t' b t
    | str b => obtain ⟨t, rfl⟩ := rx; exact SeqAt.EqAt.int_str a t' b t
    | _ => exact absurd (show false = true from fx) Bool.false_ne_true
  | str a =>
    obtain ⟨t', rfl⟩ := ry
    cases x with
    | non => cases rx; exact SeqAt.EqAt.str_none a t'
    | bl b => cases rx; exact SeqAt.EqAt.str_bool a t' b
    | int b => obtain ⟨t, rfl⟩ := rx; exact SeqAt.EqAt.str_int a t' b t
    | str b => obtain ⟨t, rfl⟩ := rx; exact SeqAt.EqAt.str_str a t' b t
    | _ => exact absurd (show false = true from fx) Bool.false_ne_true
  | _ => exact absurd (show false = true from fy) Bool.false_ne_true
def eqU (x : V) (u : Value) : Bool := match u with
  | .none => eqV .non x
  | .bool b => eqV (.bl b) x
  | .int i _ => eqV (.int i) x
  | .str z _ => eqV (.str z) x
  | _ => false
theorem eqU_of {x y : V} {u : Value} (r : RelV y u) (f : flatV y = true) : eqU x u = eqV y x := by
  cases y with
  | non => cases r; rfl
  | bl b => cases r; rfl
  | int i => obtain ⟨t, rfl⟩ := r; rfl
  | str z => obtain ⟨t, rfl⟩ := r; rfl
  | _ => exact absurd (show false = true from f) Bool.false_ne_true
theorem any_eqU {x : V} : ∀ {xs : List V} {us : List Value}, Vals xs us → xs.all flatV = true → us.any (eqU x) = xs.any fun y => eqV y x
  | _, _, .nil, _ => rfl
  | y :: xs, u :: us, .cons r t, f => by
    rw [List.all_cons, Bool.and_eq_true] at f
    rw [List.any_cons, List.any_cons, eqU_of r f.1, any_eqU t f.2]
theorem mem_eqAt {A : Around} {s : Shared} {x : V} {v : Value} (rx : RelV x v) (fx : flatV x = true) : ∀ {xs : List V} {us : List Value}, Vals xs us → xs.all flatV = true → ∀ u ∈ us, SeqAt.EqAt A s u v (eqU x u)
  | _, _, .nil, _ => fun u hu => by cases hu
  | y :: xs, u :: us, .cons r t, f => fun u' hu => by
    rw [List.all_cons, Bool.and_eq_true] at f
    rcases List.mem_cons.mp hu with rfl | hu
    · rw [eqU_of r f.1]; exact eqAt_V r rx f.1 fx
    · exact mem_eqAt rx fx t f.2 u' hu
def inV (x : V) (xs : List V) : Bool := xs.any fun y => eqV y x
def rIn (K : PySem.W.Frag) (neg : Bool) : R2 := fun x y H Q => ∃ p xs, y = .ref p ∧ (SqL K H p xs ∨ SqT K H p xs) ∧ flatV x = true ∧ xs.all flatV = true ∧ Q (.bl (if neg then !inV x xs else inV x xs)) H
theorem op_in_seq : OpR X (compareOp .In) (rIn X.K false) := by
  intro pins s σ H x y v u Q I rx ry h
  obtain ⟨p, xs, rfl, hq, fx, fs, q⟩ := h
  cases ry
  rcases hq with hq | hq
  · obtain ⟨its, r, pl, hz⟩ := I.list hq
    refine SeqAt.in_listAt (eqU x) pl.isList (fun w hw => mem_eqAt rx fx r fs w (by simpa using hw)) ⟨.bl _, H, I, rfl, ?_⟩
    rw [show its.toArray.any (eqU x) = its.any (eqU x) by simp, any_eqU r fs]
    exact q
  · obtain ⟨its, r, pl, hz⟩ := I.tuple hq
    refine SeqAt.in_tupleAt (eqU x) pl (fun w hw => mem_eqAt rx fx r fs w (by simpa using hw)) ⟨.bl _, H, I, rfl, ?_⟩
    rw [show its.toArray.any (eqU x) = its.any (eqU x) by simp, any_eqU r fs]
    exact q
theorem call_list_of : CallR X (.type "list") (fun xs H Q => ∃ p ys, xs = [.ref p] ∧ (SqL X.K H p ys ∨ SqT X.K H p ys) ∧ ∀ l, H l = none → Q (.ref l) (upd H l (.lst ys))) := by
  intro pins s σ H xs us Q I r h
  obtain ⟨p, ys, rfl, hq, q⟩ := h
  obtain ⟨u, rfl, rx⟩ := vals1 r
  cases rx
  have fin : ∀ (its : List Value), Vals ys its → ys.length ≤ sizeLine → ∀ (h' : Heap) (c' : Nat), (∀ b o', s.heap.get? b = some o' → h'.get? b = some o') →
      h'.get? s.heap.objs.size = some { cls := .type "list", dict := none, data := .seq its.toArray c', slots := #[] } → EP X pins σ Q (.ref s.heap.objs.size) { s with heap := h' } := fun its r' hz h' c' kp e =>
    ⟨.ref s.heap.objs.size, _, I.laid (t' := s.toks) kp (Nat.le_refl _) (show ObjOk X.prog X.w _ h' _ (.lst ys) from ⟨hz, its, c', r', e⟩), rfl, q _ (I.hok.fresh (Nat.le_refl _))⟩
  rcases hq with hq | hq
  · obtain ⟨its, r', pl, hz⟩ := I.list hq
    have hlen := r'.length
    obtain ⟨o, ho, hc, n, hd⟩ := pl.isList
    exact call_list_seq p (.inl rfl) ho hc hd (fun h' c' kp e => fin its r' hz h' c' kp e) (by simp only [List.size_toArray] <;> omega)
  · obtain ⟨its, r', pl, hz⟩ := I.tuple hq
    have hlen := r'.length
    obtain ⟨o, ho, hc, n, hd⟩ := pl
    exact call_list_seq p (.inr rfl) ho hc hd (fun h' c' kp e => fin its r' hz h' c' kp e) (by simp only [List.size_toArray] <;> omega)
def tyV (K : PySem.W.Frag) (T : String) (x : V) (H : Hp) : Prop := match x with
  | .str _ => T = "str"
  | .int _ => T = "int"
  | .ref p => (T = "list" ∧ ∃ xs, SqL K H p xs) ∨ (T = "tuple" ∧ ∃ o, K.lookup p = some o ∧ o.cls = .type "tuple" ∧ o.dict = none) ∨
      (T = "dict" ∧ ((∃ kvs, H p = some (.dK kvs)) ∨ ∃ kvs, H p = some (.dT kvs))) ∨ (T = "set" ∧ ∃ S n, H p = some (.set S n))
  | _ => False
theorem tyV_is {pins : List (Addr × Obj)} {σ : St} {H : Hp} {s : Shared} {T : String} {x : V} {v : Value} (I : Inv X pins σ H s) (r : RelV x v) (ty : tyV X.K T x H) :
    s.TypeIs v T ∧ ∀ a, v = .ref a → ∃ ob, s.heap.get? a = some ob ∧ ob.dict = none := by
  cases x with
  | str z =>
    obtain ⟨t, rfl⟩ := r
    cases (show T = "str" from ty)
    exact ⟨typeIs_str s z t, fun _ e => nomatch e⟩
  | int i =>
    obtain ⟨t, rfl⟩ := r
    cases (show T = "int" from ty)
    exact ⟨typeIs_int s i t, fun _ e => nomatch e⟩
  | ref p =>
    cases r
    rcases ty with ⟨rfl, xs, hq⟩ | ⟨rfl, o, hk, hc, hd⟩ | ⟨rfl, hk⟩ | ⟨rfl, S, n, hk⟩
    · obtain ⟨its, _, pl, _⟩ := I.list hq
      refine ⟨pl.isList.typeIs, fun a e => ?_⟩
      cases e
      obtain ⟨o, n, e, c, hd, _⟩ := pl
      exact ⟨o, e, hd⟩
    · refine ⟨⟨o, I.kIn p o hk, hc⟩, fun a e => ?_⟩
      cases e
      exact ⟨o, I.kIn _ o hk, hd⟩
    · have z : ∃ o, s.heap.get? p = some o ∧ o.ExactDict := by
        rcases hk with ⟨kvs, hk⟩ | ⟨kvs, hk⟩
        · obtain ⟨_, _, _, _, o, _, _, e, ex, _⟩ := I.hok p _ hk
          exact ⟨o, e, ex⟩
        · obtain ⟨_, _, _, _, o, _, _, e, ex, _⟩ := I.hok p _ hk
          exact ⟨o, e, ex⟩
      obtain ⟨o, e, ex⟩ := z
      refine ⟨⟨o, e, ex.1⟩, fun a e2 => ?_⟩
      cases e2
      exact ⟨o, e, ex.2.1⟩
    · obtain ⟨o, _, _, _, e, ex, _⟩ := I.hok p _ hk
      refine ⟨⟨o, e, ex.1⟩, fun a e2 => ?_⟩
      cases e2
      exact ⟨o, e, ex.2.1⟩
  | _ => exact False.elim ty
def tBM (K : PySem.W.Frag) (T : String) (r : V → List V → Hp → VK → Prop) (to : TE) (t : TA) : TE := fun σ H Q => to σ H fun x H1 => tyV K T x H1 ∧ t σ H1 fun xs H2 => r x xs H2 Q
variable {o e : Expr} {es : List Expr} {to : TE} {t : TA} {name : Str} {apos cpos : Pos} {T id : String} {r : V → List V → Hp → VK → Prop}
theorem pe_bm (pa : PlainAttrs T) (slot : Slot T name id) (hty : typeOf (.builtin id) = pure (.type "method_descriptor")) (hm : MtR X id r) (ho : PE X o to) (ha : PA X (e :: es) t)
    (hbase : attributeBase o name X.env (eval o X.env) = eval o X.env := by rfl)
    (hfew : ((backTo cpos (starEach (e :: es) X.env)).all (fun x => !x.1) && (backToKw cpos (keywordEach [] X.env)).all (fun x => x.1.isSome)
      && decide ((e :: es).length + ([] : List Keyword).length + (if ([] : List Keyword).isEmpty then 0 else 1) < 30)) = true := by rfl)
    (hline : (apos.endLine == cpos.line) = true := by rfl) (hs : starEach (e :: es) X.env = (false, eval e X.env) :: starEach es X.env := by rfl) (hplain : (backTo cpos (starEach es X.env)).any (·.1) = false := by rfl) :
    PE X (.Call (.Attribute o name apos) (e :: es) [] cpos) (tBM X.K T r to t) := by
  intro pins s σ H Q I h
  refine wpAny_Call_method_late hbase hfew hline rfl (thn (ho pins s σ H _ I h) fun v s1 ⟨x, H1, I1, r1, ty, q1⟩ => ?_)
  obtain ⟨h1, h2⟩ := tyV_is I1 r1 ty
  refine ⟨T, id, pa, slot, hty, h1, h2, ?_⟩
  have hA := ha cpos pins s1 σ H1 _ I1 q1
  rw [hs] at hA ⊢
  refine Calls.callWith_builtin (by show (false || (backTo cpos (starEach es X.env)).any (·.1)) = false; rw [hplain] <;> rfl) (Calls.evalArgs_plain ?_)
  exact thn hA fun us s2 ⟨vs, H2, I2, r2, q2⟩ => hm pins s2 σ H2 x vs v us Q I2 r1 r2 q2
/- xs.append(e), list.index on a module's tuple .. are MtR facts of 06m -/
end
end L2
namespace L2
open PySem PySem.Spec PyProof.Rows
theorem Vals.one : ∀ {x : V} {us : List Value}, Vals [x] us → ∃ u, us = [u] ∧ RelV x u
  | _, _, .cons r .nil => ⟨_, rfl, r⟩
theorem Vals.two : ∀ {x y : V} {us : List Value}, Vals [x, y] us → ∃ u v, us = [u, v] ∧ RelV x u ∧ RelV y v
  | _, _, _, .cons r (.cons q .nil) => ⟨_, _, rfl, r, q⟩
theorem Vals.zero : ∀ {us : List Value}, Vals [] us → us = []
  | _, .nil => rfl
theorem Vals.reverse {xs : List V} {us : List Value} (h : Vals xs us) : Vals xs.reverse us.reverse := by
  induction h with
  | nil => exact .nil
  | cons r t ih => rw [List.reverse_cons, List.reverse_cons]; exact Vals.append ih (.cons r .nil)
theorem Vals.rep {xs : List V} {us : List Value} (h : Vals xs us) : ∀ k : Nat, Vals (List.replicate k xs).flatten (List.replicate k us).flatten
  | 0 => .nil
  | k + 1 => by
    rw [List.replicate_succ, List.replicate_succ, List.flatten_cons, List.flatten_cons]
    exact Vals.append h (Vals.rep h k)
theorem foldl_rep (its : List Value) : ∀ (k : Nat) (acc : List Value),
    List.foldl (fun x1 x2 => x1 ++ x2) acc.toArray (List.replicate k its.toArray) = (acc ++ (List.replicate k its).flatten).toArray
  | 0, acc => by simp
  | k + 1, acc => by
    have e : acc.toArray ++ its.toArray = (acc ++ its).toArray := by simp
    have e2 : (acc ++ its) ++ (List.replicate k its).flatten = acc ++ (List.replicate (k + 1) its).flatten := by
      rw [List.replicate_succ, List.flatten_cons, List.append_assoc]
    rw [← e2, ← foldl_rep its k (acc ++ its), ← e, List.replicate_succ, List.foldl_cons]
section
variable {X : Cx} {pins : List (Addr × Obj)} {σ : St} {H : Hp} {s : Shared} {l b : Addr} {xs ys zs : List V}
theorem Inv.lnew {its : List Value} {t' : Nat} (I : Inv X pins σ H s) (hv : Vals ys its) (hz : ys.length ≤ sizeLine) :
    Inv X pins σ (upd H s.heap.objs.size (.lst ys)) { s with heap := s.heap.push { cls := .type "list", data := .seq its.toArray }, toks := t' } :=
  I.laid (fun _ _ q => Heap.get?_push_of_some _ q) (Nat.le_refl _) ⟨hz, its, 0, hv, Heap.get?_push_size _ rfl⟩
theorem Inv.fresh (I : Inv X pins σ H s) : H s.heap.objs.size = none := I.hok.fresh (Nat.le_refl _)
theorem Inv.lstM (I : Inv X pins σ H s) (hH : H l = some (.lst xs)) : xs.length ≤ sizeLine ∧ ∃ (its : List Value) (n : Nat), Vals xs its ∧ xs.length = its.length ∧ s.heap.get? l = some { cls := .type "list", data := .seq its.toArray n } := by
  obtain ⟨z, its, n, r, e⟩ := I.hok l _ hH
  exact ⟨z, its, n, r, r.length, e⟩
theorem notLongL {n : Nat} (h : n ≤ sizeLine) : Builtin.List.listTooLong n = false := by
  unfold Builtin.List.listTooLong
  exact decide_eq_false (by omega)
end
section
variable {X : Cx}
def rRep : R2 := fun x y H Q => ∃ l k xs, x = .ref l ∧ y = .int k ∧ H l = some (.lst xs) ∧ -(2 ^ 63) ≤ k ∧ k < 2 ^ 63 ∧ xs.length * k.toNat ≤ sizeLine ∧
  ∀ p, H p = none → Q (.ref p) (upd H p (.lst (List.replicate k.toNat xs).flatten))
theorem len_rep {α : Type} (xs : List α) (k : Nat) : (List.replicate k xs).flatten.length = k * xs.length := by
  induction k with
  | zero => simp
  | succ k ih => rw [List.replicate_succ, List.flatten_cons, List.length_append, ih, Nat.succ_mul, Nat.add_comm]
theorem op_rep : OpR X (binaryOp .Mult) rRep := by
  intro pins s σ H x y v u Q I rx ry h
  obtain ⟨l, k, xs, rfl, rfl, hH, h1, h2, hz, q⟩ := h
  cases rx
  obtain ⟨t, rfl⟩ := ry
  obtain ⟨z, its, n, r, hl, e⟩ := I.lstM hH
  have hlen : its.toArray.size * k.toNat ≤ sizeLine := by rw [List.size_toArray, ← hl]; exact hz
  have hcap : ¬ its.toArray.size * k.toNat > (2 ^ 63 - 1) / 8 := by
    have : (sizeLine : Nat) ≤ (2 ^ 63 - 1) / 8 := by decide
    omega
  have hfit : ¬ (!Builtin.List.listFitsIndex k) = true := by
    rw [fitsIndex_both h1 h2]
    exact Bool.false_ne_true
  have hlong : ¬ Builtin.List.listTooLong (its.toArray.size * k.toNat) = true := by
    rw [notLongL hlen]
    exact Bool.false_ne_true
  have hnew : List.foldl (fun x1 x2 => x1 ++ x2) #[] (List.replicate (if its.toArray.isEmpty = true then 0 else k.toNat) its.toArray) = (List.replicate k.toNat its).flatten.toArray := by
    have f0 : ∀ m : Nat, List.foldl (fun x1 x2 => x1 ++ x2) #[] (List.replicate m its.toArray) = (List.replicate m its).flatten.toArray := fun m => by
      have := foldl_rep its m []
      rw [List.nil_append] at this
      exact this
    rw [f0]
    cases its with
    | nil => simp
    | cons a r' => rw [if_neg (by simp)]
  refine wpAny_binaryOp_repeat_ref (T := "list") (U := "int") (by decide) ⟨_, e, rfl⟩ (fun s' => typeIs_int s' k t) noFill_list_mul F.fills_int_mul F.slot_int_rmul repeat_list F.slot_int_index.lookup
    (call_meets F.slot_int_rmul (typeIs_int s k t) F.entry_int_rmul (F.args_int_rmul_2 _ _) (int___rmul___int_list k t l its.toArray n)
      ⟨e, rfl, ⟨_, e, rfl⟩, call_meets F.slot_list_mul ⟨_, e, rfl⟩ F.entry_list_mul (F.args_list_mul_2 _ _) (AutoListH.list___mul___list_int_3 l its.toArray n k t hfit hcap hlong) ⟨e, ?_⟩⟩)
  rw [hnew]
  exact ⟨.ref _, _, I.lnew (t' := s.toks) (r.rep k.toNat) (by rw [len_rep, Nat.mul_comm]; exact hz), rfl, q _ I.fresh⟩
end
section
variable {prog : Program} {w : World} {A : Around} {E : Value → Shared → Prop} {s : Shared}
end
section
variable {X : Cx}
end
end L2
namespace L2
open PySem PySem.Spec PyProof.Rows
theorem Vals.ints : ∀ {ns : List Int} {us : List Value}, Vals (ns.map V.int) us → IntsAre us ns
  | [], us, h => by
    rw [List.map_nil] at h
    cases h
    exact IntsAre.nil
  | n :: ns, us, h => by
    rw [List.map_cons] at h
    cases h with
    | cons r t =>
      obtain ⟨k, rfl⟩ := r
      exact IntsAre.cons n k (Vals.ints t)
theorem Vals.strs : ∀ {xs : List Str} {us : List Value}, Vals (xs.map V.str) us → StrsAre us xs
  | [], us, h => by
    rw [List.map_nil] at h
    cases h
    exact StrsAre.nil
  | x :: xs, us, h => by
    rw [List.map_cons] at h
    cases h with
    | cons r t =>
      obtain ⟨k, rfl⟩ := r
      exact StrsAre.cons x k (Vals.strs t)
theorem Vals.bls : ∀ {bs : List Bool} {us : List Value}, Vals (bs.map V.bl) us → us = bs.map Value.bool
  | [], us, h => by
    rw [List.map_nil] at h
    cases h
    rfl
  | b :: bs, us, h => by
    rw [List.map_cons] at h
    cases h with
    | cons r t =>
      cases r
      rw [Vals.bls t, List.map_cons]
theorem Vals.ref1 {a : Addr} {us : List Value} (r : Vals [V.ref a] us) : us = [Value.ref a] := by
  cases r with
  | cons r t =>
    cases t
    cases r
    rfl
section
variable {prog : Program} {w : World} {A : Around} {E : Value → Shared → Prop} {s : Shared} {l : Addr} {its : List Value} {ns : List Int} {Q : Value → Shared → Prop}
end
section
variable {X : Cx}
end
section
variable {X : Cx}
end
section
variable {X : Cx}
end
theorem iter_any {prog : Program} {w : World} {A : Around} {E : Value → Shared → Prop} {s : Shared} {l : Addr} {items : Array Value} {Q : Value → Shared → Prop} (hl : s.heap.IsList l items)
    (h : ∀ s₂ : Shared, s₂ = { s with heap := s.heap.push { cls := .type "list_iterator", data := .fields #[.ref l, .int 0 0] } } →
      (s₂.heap.IsListIter s.heap.objs.size l 0 ∧ s₂.heap.IsList l items) → l ≠ s.heap.objs.size → Q (.ref s.heap.objs.size) s₂) : wpAny (model prog w) A (pyIter (.ref l)) Q E s := by
  have hlt : l < s.heap.objs.size := by obtain ⟨_, e, _⟩ := hl; exact Heap.lt_size e
  exact wpAny_pyIter_list hl (h _ rfl ⟨⟨_, Heap.get?_push_size _ rfl, rfl, rfl⟩, hl.push _⟩ (Nat.ne_of_lt hlt))
theorem truth_bools {prog : Program} {w : World} {A : Around} {bs : List Bool} {its : List Value} (e : its = bs.map Value.bool) :
    TruthOf prog w A (fun i v => its.toArray[i]? = some v) (fun i => bs.getD i false) := fun i v s Q E hv hq => by
  have hv' : its[i]? = some v := by simpa using hv
  rw [e, List.getElem?_map] at hv'
  obtain ⟨b, hb, rfl⟩ := Option.map_eq_some_iff.mp hv'
  have hg : bs.getD i false = b := by rw [List.getD_eq_getElem?_getD, hb] <;> rfl
  have hq' : Q (bs.getD i false) s := hq
  rw [hg] at hq'
  exact wpAny_truthy_bool hq'
theorem all_range : ∀ bs : List Bool, (List.range bs.length).all (fun i => bs.getD i false) = bs.all id
  | [] => rfl
  | b :: bs => by
    rw [List.length_cons, List.range_succ_eq_map, List.all_cons, List.all_map, List.all_cons, ← all_range bs]
    all_goals rfl
section
variable {X : Cx}
def rAll (K : PySem.W.Frag) : List V → Hp → VK → Prop := fun vs H Q => ∃ (a : Addr) (bs : List Bool), vs = [V.ref a] ∧ SqL K H a (bs.map V.bl) ∧ Q (.bl (bs.all id)) H
theorem cr_all (hc : X.calm = true) : CallR X (.builtin "all") (rAll X.K) := by
  intro pins s σ H vs us Q I r h
  obtain ⟨a, bs, rfl, hs, q⟩ := h
  obtain ⟨its, rv, hl, _⟩ := I.list hs
  rw [Vals.ref1 r]
  have hb := rv.bls
  refine call_all_walk (iter_any hl.isList fun s₂ e2 st hne => ?_)
  subst e2
  refine ⟨_, _, _, _, _, _, _, rfl, Walks.list (A := X.A.in1) (I.ok.hd hc) _ a hne its.toArray, st, truth_bools hb, fun h' tk hk => ?_⟩
  refine ⟨.bl _, H, I.kept fun b o eo => hk b o (fun hmem => ?_) (Heap.get?_push_of_some _ eo), ?_, q⟩
  · rcases List.mem_cons.mp hmem with e1 | hmem
    · exact absurd (e1 ▸ Heap.lt_size eo) (Nat.lt_irrefl _)
    · cases hmem
  · show Value.bool _ = Value.bool _
    rw [← all_range, hb, List.size_toArray, List.length_map]
end
mutual
inductive Dp (K : PySem.W.Frag) (H : Hp) : V → PyData → Prop
  | non : Dp K H .non .none
  | bl (b : Bool) : Dp K H (.bl b) (.bool b)
  | int (i : Int) : Dp K H (.int i) (.int i)
  | str (x : Str) : Dp K H (.str x) (.str x)
  | lst {a : Addr} {xs : List V} {ds : List PyData} : SqL K H a xs → DpAll K H xs ds → Dp K H (.ref a) (.list ds)
  | tup {a : Addr} {xs : List V} {ds : List PyData} : SqT K H a xs → DpAll K H xs ds → Dp K H (.ref a) (.tuple ds)
inductive DpAll (K : PySem.W.Frag) (H : Hp) : List V → List PyData → Prop
  | nil : DpAll K H [] []
  | cons {v : V} {vs : List V} {d : PyData} {ds : List PyData} : Dp K H v d → DpAll K H vs ds → DpAll K H (v :: vs) (d :: ds)
end
section
variable {X : Cx} {pins : List (Addr × Obj)} {σ : St} {H : Hp} {s : Shared}
mutual
theorem Dp.reads (I : Inv X pins σ H s) : ∀ (d : PyData) (v : V) (u : Value), Dp X.K H v d → RelV v u → ∃ as, Reads s.heap u d as
  | .none, _, _, h, r => by
    cases h
    cases r
    exact ⟨_, Reads.none⟩
  | .bool b, _, _, h, r => by
    cases h
    cases r
    exact ⟨_, Reads.bool b⟩
  | .int i, _, _, h, r => by
    cases h
    obtain ⟨t, rfl⟩ := r
    exact ⟨_, Reads.int i t⟩
  | .str x, _, _, h, r => by
    cases h
    obtain ⟨t, rfl⟩ := r
    exact ⟨_, Reads.str x t⟩
  | .list ds, _, _, h, r => by
    cases h with
    | lst hs ha =>
      cases r
      obtain ⟨its, rv, ⟨o, n, ho, hc, _, hd⟩, _⟩ := I.list hs
      obtain ⟨as, hr⟩ := Dp.readsAll I ds _ its ha rv
      exact ⟨_, Reads.list ho hc hd hr⟩
  | .tuple ds, _, _, h, r => by
    cases h with
    | tup hs ha =>
      cases r
      obtain ⟨its, rv, ⟨o, ho, hc, n, hd⟩, _⟩ := I.tuple hs
      obtain ⟨as, hr⟩ := Dp.readsAll I ds _ its ha rv
      exact ⟨_, Reads.tuple ho hc hd hr⟩
  | .dict _, _, _, h, _ => by cases h
theorem Dp.readsAll (I : Inv X pins σ H s) : ∀ (ds : List PyData) (vs : List V) (us : List Value), DpAll X.K H vs ds → Vals vs us → ∃ as, ReadsAll s.heap us ds as
  | [], _, _, h, r => by
    cases h
    cases r
    exact ⟨_, ReadsAll.nil⟩
  | d :: ds, _, _, h, r => by
    cases h with
    | cons h1 h2 =>
      cases r with
      | cons r1 r2 =>
        obtain ⟨as, q1⟩ := Dp.reads I d _ _ h1 r1
        obtain ⟨bs, q2⟩ := Dp.readsAll I ds _ _ h2 r2
        exact ⟨_, ReadsAll.cons q1 q2⟩
end
end
section
variable {X : Cx}
def rEqD (K : PySem.W.Frag) : R2 := fun x y H Q => ∃ d e, Dp K H x d ∧ Dp K H y e ∧ SeqAt.shaped d = true ∧ SeqAt.shaped e = true ∧ Q (.bl (PyData.eqv d e)) H
def rNeD (K : PySem.W.Frag) : R2 := fun x y H Q => ∃ d e, Dp K H x d ∧ Dp K H y e ∧ SeqAt.shaped d = true ∧ SeqAt.shaped e = true ∧ Q (.bl (!PyData.eqv d e)) H
theorem op_eqD (hu : X.A.units + 64 < cLine) : OpR X (compareOp .Eq) (rEqD X.K) := by
  intro pins s σ H x y v u Q I rx ry h
  obtain ⟨d, e, hd, he, sd, se, q⟩ := h
  obtain ⟨as, r1⟩ := Dp.reads I d x v hd rx
  obtain ⟨bs, r2⟩ := Dp.reads I e y u he ry
  exact SeqAt.compareEq_shaped r1 r2 sd se hu ⟨.bl _, H, I, rfl, q⟩
theorem op_neD (hu : X.A.units + 64 < cLine) : OpR X (compareOp .NotEq) (rNeD X.K) := by
  intro pins s σ H x y v u Q I rx ry h
  obtain ⟨d, e, hd, he, sd, se, q⟩ := h
  obtain ⟨as, r1⟩ := Dp.reads I d x v hd rx
  obtain ⟨bs, r2⟩ := Dp.reads I e y u he ry
  exact SeqAt.compareNe_shaped r1 r2 sd se hu ⟨.bl _, H, I, rfl, q⟩
end
end L2
namespace L2
open PySem PySem.Spec PyProof.Rows
abbrev CellAt (h : Heap) (c : Addr) (v : Option Value) : Prop := h.IsCell c v
def relS (scope sc : Scope) : Scope :=
  { scope with names := scope.names.map fun (n, k) => if (k == .free && sc.kind == .function && sc.names.lookup n == some .cell) then (n, .cell) else (n, k) }
def cloFrom (cells : List (Str × Addr)) : List (Str × NameKind) → List (Str × Addr) → List (Str × Addr)
  | [], acc => acc
  | (n, k) :: r, acc => if k == .free then cloFrom cells r ((n, (cells.lookup n).getD 0) :: acc) else cloFrom cells r acc
theorem closure_loop (env : Env) (f : Str × NameKind → List (Str × Addr) → Sem (ForInStep (List (Str × Addr))))
    (hf : ∀ n k c, f (n, k) c = if k == .free then (do let a ← cellOf env n; pure (.yield ((n, a) :: c))) else pure (.yield c)) :
    ∀ (names : List (Str × NameKind)) (acc : List (Str × Addr)), (∀ y ∈ names, y.2 = .free → ∃ c, env.cells.lookup y.1 = some c) → forIn names acc f = pure (cloFrom env.cells names acc)
  | [], acc, _ => by rw [List.forIn_nil]; rfl
  | (n, k) :: r, acc, h => by
    rw [List.forIn_cons, hf]
    have ih := fun acc => closure_loop env f hf r acc fun y hy => h y (List.mem_cons_of_mem _ hy)
    unfold cloFrom
    by_cases hk : (k == NameKind.free) = true
    · rw [if_pos hk, if_pos hk]
      obtain ⟨c, hc⟩ := h (n, k) List.mem_cons_self (by simpa using hk)
      have e : cellOf env n = pure c := by unfold cellOf; rw [hc]
      rw [e]
      have e2 : (env.cells.lookup n).getD 0 = c := by rw [hc]; rfl
      rw [e2]
      exact ih _
    · rw [if_neg hk, if_neg hk]
      exact ih _
theorem closure_ok {scope : Scope} {env : Env} (h : ∀ y ∈ scope.names, y.2 = .free → ∃ c, env.cells.lookup y.1 = some c) : closureFor scope env = pure (cloFrom env.cells scope.names []) := by
  simp only [closureFor]
  rw [closure_loop env _ (fun n k c => rfl) scope.names [] h]
  rfl
theorem mem_lookup {α : Type} : ∀ {l : List (Str × α)} {n : Str} {c : α}, (n, c) ∈ l → ∃ c', l.lookup n = some c'
  | (k, v) :: r, n, c, h => by
    rw [List.lookup_cons]
    cases hb : n == k with
    | true => exact ⟨_, rfl⟩
    | false =>
      rcases List.mem_cons.mp h with e | h
      · cases e; simp at hb
      · exact mem_lookup h
theorem cloFrom_mem {cells : List (Str × Addr)} : ∀ {names : List (Str × NameKind)} {acc : List (Str × Addr)} {n : Str} {c : Addr}, (n, c) ∈ cloFrom cells names acc → (n, c) ∈ acc ∨ ((n, .free) ∈ names ∧ c = (cells.lookup n).getD 0)
  | [], _, _, _, h => .inl h
  | (m, k) :: r, acc, n, c, h => by
    unfold cloFrom at h
    split at h
    · rename_i hk
      have hk : k = .free := by simpa using hk
      rcases cloFrom_mem h with h | ⟨h1, h2⟩
      · rcases List.mem_cons.mp h with e | h
        · cases e; exact .inr ⟨hk ▸ List.mem_cons_self, rfl⟩
        · exact .inl h
      · exact .inr ⟨List.mem_cons_of_mem _ h1, h2⟩
    · rcases cloFrom_mem h with h | ⟨h1, h2⟩
      · exact .inl h
      · exact .inr ⟨List.mem_cons_of_mem _ h1, h2⟩
theorem cloFrom_acc {cells : List (Str × Addr)} : ∀ {names : List (Str × NameKind)} {acc : List (Str × Addr)} {p : Str × Addr}, p ∈ acc → p ∈ cloFrom cells names acc
  | [], _, _, h => h
  | (m, k) :: r, acc, p, h => by
    unfold cloFrom
    split
    · exact cloFrom_acc (List.mem_cons_of_mem _ h)
    · exact cloFrom_acc h
theorem cloFrom_has {cells : List (Str × Addr)} : ∀ {names : List (Str × NameKind)} {acc : List (Str × Addr)} {n : Str}, (n, .free) ∈ names → (n, (cells.lookup n).getD 0) ∈ cloFrom cells names acc
  | (m, k) :: r, acc, n, h => by
    unfold cloFrom
    rcases List.mem_cons.mp h with e | h
    · cases e
      exact cloFrom_acc List.mem_cons_self
    · split
      · exact cloFrom_has h
      · exact cloFrom_has h
theorem cells_mem : ∀ {names : List (Str × NameKind)} {h : Heap} {acc : List (Str × Addr)} {x : Str} {c : Addr}, (x, c) ∈ cellsFrom h.objs.size names acc →
    (x, c) ∈ acc ∨ ((x, .cell) ∈ names ∧ h.objs.size ≤ c ∧ CellAt (pushCells h names) c none)
  | [], _, _, _, _, h => .inl h
  | (n, k) :: r, h, acc, x, c, hm => by
    unfold cellsFrom at hm
    unfold pushCells
    split at hm
    · rename_i hk
      rw [if_pos hk]
      have hk : k = .cell := by simpa using hk
      rw [← Heap.size_push h { cls := .type "cell", data := .cell none }] at hm
      rcases cells_mem hm with hm | ⟨h1, h2, h3⟩
      · rcases List.mem_cons.mp hm with e | hm
        · cases e
          exact .inr ⟨hk ▸ List.mem_cons_self, Nat.le_refl _, _, pushCells_keeps r _ _ _ (Heap.get?_push_size _ rfl), rfl⟩
        · exact .inl hm
      · rw [Heap.size_push] at h2
        exact .inr ⟨List.mem_cons_of_mem _ h1, Nat.le_of_succ_le h2, h3⟩
    · rename_i hk
      rw [if_neg hk]
      rcases cells_mem hm with hm | ⟨h1, h2, h3⟩
      · exact .inl hm
      · exact .inr ⟨List.mem_cons_of_mem _ h1, h2, h3⟩
theorem cells_acc : ∀ {names : List (Str × NameKind)} {n : Nat} {acc : List (Str × Addr)} {p : Str × Addr}, p ∈ acc → p ∈ cellsFrom n names acc
  | [], _, _, _, h => h
  | (m, k) :: r, n, acc, p, h => by
    unfold cellsFrom
    split
    · exact cells_acc (List.mem_cons_of_mem _ h)
    · exact cells_acc h
theorem cells_has : ∀ {names : List (Str × NameKind)} {n : Nat} {acc : List (Str × Addr)} {x : Str}, (x, .cell) ∈ names → ∃ c, (x, c) ∈ cellsFrom n names acc
  | (m, k) :: r, n, acc, x, h => by
    unfold cellsFrom
    rcases List.mem_cons.mp h with e | h
    · cases e
      exact ⟨n, cells_acc List.mem_cons_self⟩
    · split
      · exact cells_has h
      · exact cells_has h
theorem cells_inj : ∀ {names : List (Str × NameKind)} {h : Heap} {acc : List (Str × Addr)} {x y : Str} {c : Addr}, (∀ p ∈ acc, p.2 < h.objs.size) → (∀ x y c, (x, c) ∈ acc → (y, c) ∈ acc → x = y) →
    (x, c) ∈ cellsFrom h.objs.size names acc → (y, c) ∈ cellsFrom h.objs.size names acc → x = y
  | [], _, _, _, _, _, _, hi, h1, h2 => hi _ _ _ h1 h2
  | (n, k) :: r, h, acc, x, y, c, hl, hi, h1, h2 => by
    unfold cellsFrom at h1 h2
    split at h1
    · rename_i hk
      rw [if_pos hk] at h2
      rw [← Heap.size_push h { cls := .type "cell", data := .cell none }] at h1 h2
      refine cells_inj (h := h.push _) (fun p hp => ?_) (fun x y c a b => ?_) h1 h2
      · rw [Heap.size_push]
        rcases List.mem_cons.mp hp with rfl | hp
        · exact Nat.lt_succ_self _
        · exact Nat.lt_succ_of_lt (hl p hp)
      · rcases List.mem_cons.mp a with e | a <;> rcases List.mem_cons.mp b with e' | b
        · cases e; cases e'; rfl
        · cases e; exact absurd (hl _ b) (Nat.lt_irrefl _)
        · cases e'; exact absurd (hl _ a) (Nat.lt_irrefl _)
        · exact hi _ _ _ a b
    · rename_i hk
      rw [if_neg hk] at h2
      exact cells_inj hl hi h1 h2
theorem newEnv_comp {M : Model} {A : Around} {E : Value → Shared → Prop} {s : Shared} {scope : Scope} {globals : Addr} {closure : List (Str × Addr)} {qual : Str} {func : Option Addr} {code : Value} {around : Env} {builtins : Addr} {Q : Env → Shared → Prop}
    (h : Q (newEnv scope s.heap.objs.size globals (cellsFrom (s.heap.objs.size + 1) scope.names closure) qual func code (some around) builtins)
      { s with heap := pushCells (s.heap.push { cls := .type "dict", data := .dict #[] }) scope.names }) :
    wpAny M A (newFunctionEnv scope globals closure [] qual func code (some around) builtins) Q E s := by
  simp only [newFunctionEnv, Option.isSome_some, if_true]
  refine wpAny_bind (wpAny_alloc ?_)
  refine wpAny_bind (wpAny_layCells _ (fun n k c => rfl) scope.names closure _ _ ?_)
  rw [show ({ s with heap := s.heap.push { cls := .type "dict", data := .dict #[] } } : Shared).heap.objs.size = s.heap.objs.size + 1 from Heap.size_push ..]
  rw [List.forIn_nil]
  exact wpAny_bind (wpAny_pure (wpAny_pure h))
theorem lookup_relS {sc : Scope} : ∀ {names : List (Str × NameKind)} {x : Str} {k : NameKind},
    (names.map fun (n, k) => if (k == NameKind.free && sc.kind == .function && sc.names.lookup n == some .cell) then (n, NameKind.cell) else (n, k)).lookup x = some k →
    ∃ k', names.lookup x = some k' ∧ (k = k' ∨ (k' = .free ∧ k = .cell))
  | [], _, _, h => by simp at h
  | (n, k₀) :: r, x, k, h => by
    have ih := @lookup_relS sc r x k
    have h' : List.lookup x ((if (k₀ == NameKind.free && sc.kind == .function && sc.names.lookup n == some .cell) = true then (n, NameKind.cell) else (n, k₀)) :: (r.map _)) = some k := h
    cases hx : x == n with
    | true =>
      simp only [List.lookup_cons, hx]
      by_cases hc : (k₀ == NameKind.free && sc.kind == .function && sc.names.lookup n == some .cell) = true
      · rw [if_pos hc] at h'
        simp only [List.lookup_cons, hx] at h'
        cases h'
        simp only [Bool.and_eq_true, beq_iff_eq] at hc
        exact ⟨k₀, rfl, .inr ⟨hc.1.1, rfl⟩⟩
      · rw [if_neg hc] at h'
        simp only [List.lookup_cons, hx] at h'
        cases h'
        exact ⟨_, rfl, .inl rfl⟩
    | false =>
      simp only [List.lookup_cons, hx]
      by_cases hc : (k₀ == NameKind.free && sc.kind == .function && sc.names.lookup n == some .cell) = true
      · rw [if_pos hc] at h'
        simp only [List.lookup_cons, hx] at h'
        exact ih h'
      · rw [if_neg hc] at h'
        simp only [List.lookup_cons, hx] at h'
        exact ih h'
structure BlkOk (N : List Str) (sc scope : Scope) (own : List (Str × Nat)) : Prop where
  kind : scope.kind = .function
  uniq : ∀ y ∈ scope.names, scope.names.lookup y.1 = some y.2
  ix : ∀ p ∈ own, N[p.2]? = some p.1
  free : ∀ y ∈ scope.names, y.2 = .free → sc.names.lookup y.1 = some .cell ∨ sc.names.lookup y.1 = some .free
  own : ∀ y ∈ scope.names, y.2 = .local ∨ y.2 = .cell → y.1 ∈ own.map (·.1) ∨ y.1 ∉ N
def wipe (σ : St) : List Nat → St
  | [] => σ
  | v :: vs => (wipe σ vs).set v none
theorem wipe_length (σ : St) : ∀ vs : List Nat, (wipe σ vs).length = σ.length
  | [] => rfl
  | v :: vs => by unfold wipe; rw [List.length_set, wipe_length σ vs]
theorem wipe_some {σ : St} {i : Nat} {x : V} : ∀ {vs : List Nat}, (wipe σ vs)[i]? = some (some x) → σ[i]? = some (some x) ∧ i ∉ vs
  | [], h => ⟨h, by simp⟩
  | v :: vs, h => by
    unfold wipe at h
    by_cases hi : v = i
    · subst hi
      by_cases hv : v < (wipe σ vs).length
      · rw [List.getElem?_set_self hv] at h; cases h
      · rw [List.getElem?_eq_none (by simpa using hv)] at h; cases h
    · rw [List.getElem?_set_ne hi] at h
      obtain ⟨h1, h2⟩ := wipe_some h
      exact ⟨h1, by simp only [List.mem_cons, not_or]; exact ⟨fun e => hi e.symm, h2⟩⟩
abbrev Cx.blk (X : Cx) (s : Shared) (H : Hp) (scope : Scope) (cenv : Env) (fp : List Addr) : Cx := { X with s_0 := s, H_0 := H, env := cenv, outer := X.stack, ex := fp, fn := fun x => scope.names.lookup x == some .cell, pn := [], xe := fun _ _ => False }
section
variable {X : Cx} {pins : List (Addr × Obj)} {σ : St} {H : Hp} {s : Shared}
theorem block_start {scope : Scope} {own : List (Str × Nat)} {fp : List Addr} (I : Inv X pins σ H s) (ok : BlkOk X.N X.env.scope scope own) (hN : X.N.Nodup) (hfp : ∀ b ∈ fp, FpOk X pins H b ∧ b < s.heap.objs.size) :
    Inv (X.blk s H scope (compEnvC scope (cellsFrom (s.heap.objs.size + 1) scope.names (cloFrom X.env.cells scope.names [])) s.heap.objs.size X.env) fp) [] (wipe σ (own.map (·.2))) H { s with heap := pushCells (s.heap.push { cls := .type "dict", data := .dict #[] }) scope.names } := by
  have hfree : ∀ y ∈ scope.names, y.2 = .free → ∃ c, X.env.cells.lookup y.1 = some c := fun y hy e => by
    rcases ok.free y hy e with k | k
    · exact I.ok.has _ (.inl k)
    · exact I.ok.has _ (.inr k)
  generalize hcenv : compEnvC scope (cellsFrom (s.heap.objs.size + 1) scope.names (cloFrom X.env.cells scope.names [])) s.heap.objs.size X.env = cenv
  have kp : ∀ b o, s.heap.get? b = some o → (pushCells (s.heap.push { cls := .type "dict", data := .dict #[] }) scope.names).get? b = some o := fun b o e => pushCells_keeps _ _ _ _ (Heap.get?_push_of_some _ e)
  have hL : cenv.locals = s.heap.objs.size := by rw [← hcenv]; rfl
  have hcl : cenv.cells = cellsFrom (s.heap.objs.size + 1) scope.names (cloFrom X.env.cells scope.names []) := by rw [← hcenv]; rfl
  have hsc : cenv.scope = relS scope X.env.scope := by rw [← hcenv]; rfl
  rw [← Heap.size_push s.heap { cls := .type "dict", data := .dict #[] }] at hcl
  have cm : ∀ {y c}, (y, c) ∈ cloFrom X.env.cells scope.names [] → X.env.cells.lookup y = some c ∧ c < s.heap.objs.size := fun {y c} hm => by
    rcases cloFrom_mem hm with hm | ⟨h1, rfl⟩
    · cases hm
    · obtain ⟨c, hc⟩ := hfree _ h1 rfl
      rw [hc]
      obtain ⟨w, z⟩ := I.cell _ _ hc
      exact ⟨rfl, z.lt⟩
  have mem : ∀ {y c}, cenv.cells.lookup y = some c → (X.env.cells.lookup y = some c ∧ c < s.heap.objs.size) ∨ (s.heap.objs.size + 1 ≤ c ∧ CellAt (pushCells (s.heap.push { cls := .type "dict", data := .dict #[] }) scope.names) c none) := fun {y c} e => by
    rw [hcl] at e
    rcases cells_mem (PySem.mem_of_lookup e) with hm | ⟨_, h2, h3⟩
    · exact .inl (cm hm)
    · rw [Heap.size_push] at h2; exact .inr ⟨h2, h3⟩
  have look : ∀ {y}, scope.names.lookup y = some .free → ∃ c, cenv.cells.lookup y = some c ∧ X.env.cells.lookup y = some c := fun {y} hl => by
    have hy : (y, NameKind.free) ∈ scope.names := PySem.mem_of_lookup hl
    obtain ⟨c', e'⟩ := mem_lookup (cells_acc (names := scope.names) (n := (s.heap.push { cls := .type "dict", data := .dict #[] }).objs.size) (cloFrom_has (cells := X.env.cells) (acc := []) hy))
    rw [← hcl] at e'
    refine ⟨c', e', ?_⟩
    rw [hcl] at e'
    rcases cells_mem (PySem.mem_of_lookup e') with hm | ⟨h1, _, _⟩
    · exact (cm hm).1
    · have := ok.uniq _ h1
      rw [hl] at this; cases this
  have okB : (X.blk s H scope cenv fp).Ok := by
    refine ⟨I.ok.mod, by show cenv.scope.kind = _; rw [hsc]; exact ok.kind, by show cenv.globals = _; rw [← hcenv]; exact I.ok.glob, by show cenv.builtins = _; rw [← hcenv]; exact I.ok.blt, by show s.heap.objs.size ≤ cenv.locals; rw [hL]; exact Nat.le_refl _,
      fun y z c e1 e2 => ?_, fun y hy => ?_, fun y c z e => ?_, I.ok.hd, I.ok.frames, .inl rfl, fun b hb => ⟨?_, fun y c e z => ?_⟩, I.bs, Nat.le_trans I.ok.bsz I.sz, fun b o e hb => ?_, fun b hb z => ?_, I.stack, I.stkFree⟩
    · have e1 : cenv.cells.lookup y = some c := e1
      have e2 : cenv.cells.lookup z = some c := e2
      rw [hcl] at e1 e2
      refine cells_inj (fun p hp => ?_) (fun y z c a b => I.ok.inj y z c (cm a).1 (cm b).1) (PySem.mem_of_lookup e1) (PySem.mem_of_lookup e2)
      rw [Heap.size_push]
      exact Nat.lt_succ_of_lt (cm (y := p.1) (c := p.2) hp).2
    · show ∃ c, cenv.cells.lookup y = some c
      have key : ∀ k, cenv.kindOf y = some k → (k = .cell ∨ k = .free) → ∃ c, cenv.cells.lookup y = some c := fun k hk hk' => by
        unfold Env.kindOf at hk
        rw [hsc] at hk
        obtain ⟨k', e, r⟩ := lookup_relS hk
        have : k' = .cell ∨ k' = .free := by
          rcases r with rfl | ⟨rfl, _⟩
          · exact hk'
          · exact .inr rfl
        rcases this with rfl | rfl
        · obtain ⟨c, hm⟩ := cells_has (n := (s.heap.push { cls := .type "dict", data := .dict #[] }).objs.size) (acc := cloFrom X.env.cells scope.names []) (PySem.mem_of_lookup e)
          obtain ⟨c', e'⟩ := mem_lookup hm
          exact ⟨c', by rw [hcl]; exact e'⟩
        · obtain ⟨c, h1, _⟩ := look e
          exact ⟨c, h1⟩
      rcases hy with hy | hy
      · exact key _ hy (.inl rfl)
      · exact key _ hy (.inr rfl)
    · have z : (scope.names.lookup y == some NameKind.cell) = true := z
      have z : scope.names.lookup y = some .cell := by simpa using z
      have e : cenv.cells.lookup y = some c := e
      rw [hcl] at e
      rcases cells_mem (PySem.mem_of_lookup e) with hm | ⟨_, h2, _⟩
      · rcases cloFrom_mem hm with hm | ⟨h1, _⟩
        · cases hm
        · have q := ok.uniq _ h1
          rw [z] at q; cases q
      · rw [Heap.size_push] at h2
        exact Nat.le_of_succ_le h2
    · show b ≠ cenv.locals
      rw [hL]; exact Nat.ne_of_lt (hfp b hb).2
    · have e : cenv.cells.lookup y = some c := e
      rcases mem e with ⟨h1, _⟩ | ⟨h1, _⟩
      · exact (hfp b hb).1.2.2.2.2.1 y c h1 z
      · have h2 : s.heap.objs.size + 1 ≤ b := by rw [← z]; exact h1
        exact absurd (Nat.lt_of_lt_of_le (hfp b hb).2 (Nat.le_of_succ_le h2)) (Nat.lt_irrefl _)
    · rcases (hfp b hb).1.2.2.2.1 with z | z
      · exact I.ok.noex b o e z
      · exact absurd (Nat.lt_of_lt_of_le (Heap.lt_size e) (Nat.le_trans I.ok.bsz z)) (Nat.lt_irrefl _)
    · rcases List.mem_cons.mp (I.stkSub b z) with z | z
      · exact (hfp b hb).1.2.1 z
      · exact (hfp b hb).1.2.2.1 z
  refine ⟨okB, rfl, I.bare, Un.kept kp, ⟨fun _ => none, ?_, fun i y av e1 e2 e3 => ?_⟩, fun y c e => ?_, ?_, fun y c e => ?_, fun p hp => ?_, I.hok.kept kp, by rw [wipe_length]; exact I.len⟩
  · show Heap.Ns _ cenv.locals _
    rw [hL]
    exact Heap.Ns.keeps (Heap.Ns.new ..) fun b o e => pushCells_keeps _ _ _ _ e
  · obtain ⟨e2, hne⟩ := wipe_some e2
    have hfr : scope.names.lookup y = some .free ∧ (cenv.kindOf y = some .cell ∨ cenv.kindOf y = some .free) := by
      have key : ∀ k, cenv.scope.names.lookup y = some k → k = .local ∨ k = .cell ∨ k = .free → scope.names.lookup y = some .free ∧ (cenv.kindOf y = some .cell ∨ cenv.kindOf y = some .free) := fun k hk hk' => by
        have hk0 := hk
        rw [hsc] at hk
        obtain ⟨k', e, r⟩ := lookup_relS hk
        have no : ¬ (k' = .local ∨ k' = .cell) := fun hh => by
          rcases ok.own _ (PySem.mem_of_lookup e) hh with e' | e'
          · obtain ⟨p, hp, hpy⟩ := List.mem_map.mp e'
            have e3 := ok.ix p hp
            have : p.1 = y := hpy
            rw [this] at e3
            exact hne (List.mem_map.mpr ⟨p, hp, nodup_ix hN e3 e1⟩)
          · exact e' (List.mem_of_getElem? e1)
        rcases r with rfl | ⟨rfl, rfl⟩
        · rcases hk' with rfl | rfl | rfl
          · exact absurd (.inl rfl) no
          · exact absurd (.inr rfl) no
          · exact ⟨e, .inr hk0⟩
        · exact ⟨e, .inl hk0⟩
      have e3 : Vis cenv.scope y := e3
      rcases e3 with e3 | e3 | e3
      · exact key _ e3 (.inl rfl)
      · exact key _ e3 (.inr (.inl rfl))
      · exact key _ e3 (.inr (.inr rfl))
    obtain ⟨m, hn, hl⟩ := I.loc
    have hvis : Vis X.env.scope y := (ok.free _ (PySem.mem_of_lookup hfr.1) rfl).elim (fun k => .inr (.inl k)) (fun k => .inr (.inr k))
    obtain ⟨w, r, q⟩ := hl i y av e1 e2 hvis
    refine ⟨w, r, .inr ⟨hfr.2, ?_⟩⟩
    obtain ⟨c, h1, h2⟩ := look hfr.1
    rcases q with ⟨k, _⟩ | ⟨_, c', e', z⟩
    · have k : X.env.scope.names.lookup y = some .local := k
      rcases ok.free _ (PySem.mem_of_lookup hfr.1) rfl with k' | k' <;> rw [show X.env.scope.names.lookup y = _ from k'] at k <;> cases k
    · rw [h2] at e'; cases e'
      exact ⟨c, h1, z.keeps kp⟩
  · have e : cenv.cells.lookup y = some c := e
    rcases mem e with ⟨h1, _⟩ | ⟨_, z⟩
    · obtain ⟨w, z⟩ := I.cell y c h1
      exact ⟨w, z.keeps kp⟩
    · exact ⟨_, z⟩
  · show H cenv.locals = none
    rw [hL]; exact I.hok.fresh (Nat.le_refl _)
  · have e : cenv.cells.lookup y = some c := e
    rcases mem e with ⟨h1, _⟩ | ⟨h1, _⟩
    · exact I.freeC y c h1
    · exact I.hok.fresh (Nat.le_of_succ_le h1)
  · exact absurd (show p ∈ ([] : List (Addr × Obj)) ++ [] from hp) (by simp)
theorem app_ok {E : Value → Shared → Prop} {D : Addr} {xs : List V} {y : V} {v : Value} {Q : Value → Shared → Prop} (I : Inv X pins σ H s) (hD : H D = some (.lst xs)) (hz : xs.length < sizeLine) (r : RelV y v)
    (h : ∀ s', Inv X pins σ (upd H D (.lst (xs ++ [y]))) s' → Q .none s') : wpAny (model X.prog X.w) X.A (call (.builtin "list.append") [.ref D, v]) Q E s := by
  obtain ⟨hz', its, n, ri, e⟩ := I.hok D _ hD
  have hl := ri.length
  refine append_at (hsz := by rw [List.size_toArray]; omega) e fun h' sb ho' => ?_
  refine h { s with heap := h' } (I.write (t' := s.toks) (by rw [hD]; trivial) (.inl rfl) (fun b u hb q => (sb.2 b hb).trans q) ⟨_, ho'⟩ ⟨by rw [List.length_append]; exact hz, its ++ [v], n + 1, ri.append (.cons r .nil), ?_⟩)
  rw [ho']
  simp
def PTs (X : Cx) (ifs : List Expr) (t : TT) : Prop :=
  ∀ (pins : List (Addr × Obj)) (s : Shared) (σ : St) (H : Hp) (Q : Bool → Hp → Prop), Inv X pins σ H s → t σ H Q →
    wpAny (model X.prog X.w) X.A (forIn ifs true fun c r => if r = true then do let ok ← isTrue c X.env (eval c X.env); pure (ForInStep.yield ok) else pure (ForInStep.yield r)) (TP X pins σ Q) X.xe s
def tYes : TT := fun _ H Q => Q true H
theorem pts_nil : PTs X [] tYes := fun _ _ _ H _ I h => wpAny_tests_nil ⟨H, I, h⟩
end
theorem thnF {α : Type} {t : Sem α} {Q Q' : α → Shared → Prop} {M : Model} {A : Around} {E : Value → Shared → Prop} {s : Shared} (h : wpAny M A t Q (fun _ _ => False) s) (hQ : ∀ a s, Q a s → Q' a s) : wpAny M A t Q' E s := wpAny_mono h hQ fun _ _ z => False.elim z
theorem compLoop_any {prog : Program} {w : World} {A : Around} {R : Result → Shared → Prop} {s : Shared} {elt target iter : Expr} {ifs : List Expr} {scope : Scope} {pos : Pos} {it acc : Value} {env : Env} (I : Nat → Shared → Prop)
    (turn : ∀ n s, I n s → wpAny (model prog w) A (pyNext it) (fun r s₁ => match r with
      | none => R (.ok .next) s₁
      | some v => wpAny (model prog w) A (letOwnedTupleGo target it v) (fun _ s₁' => wpAny (model prog w) A (assign target env v) (fun _ s₂ =>
          wpAny (model prog w) A (forIn ifs true fun c r => if r = true then do let ok ← isTrue c env (eval c env); pure (ForInStep.yield ok) else pure (ForInStep.yield r)) (fun ok s₃ =>
            if ok = true then wpAny (model prog w) A (eval elt env) (fun x s₄ =>
              wpAny (model prog w) A (call (.builtin "list.append") [acc, x]) (fun _ s₅ => ∃ m, m < n ∧ I m s₅) (notedBy (model prog w) A env fun e s' => R (.error e) s') s₄) (notedBy (model prog w) A env fun e s' => R (.error e) s') s₃
            else ∃ m, m < n ∧ I m s₃) (notedBy (model prog w) A env fun e s' => R (.error e) s') s₂) (notedBy (model prog w) A env fun e s' => R (.error e) s') s₁') (notedBy (model prog w) A env fun e s' => R (.error e) s') s₁) (notedBy (model prog w) A env fun e s' => R (.error e) s') s)
    (n : Nat) (h : I n s) :
    codeAny (model prog w) A (.compLoop (.ListComp elt [⟨target, iter, ifs, 0⟩] scope pos) 0 it acc env) R s := by
  refine codeAny_loop rfl I (fun n s hI => ?_) n h
  show wpAny _ A ((compTurn (.ListComp elt [⟨target, iter, ifs, 0⟩] scope pos) 0 it acc env).onRaise (fun x => do noteFrame x env; theTreesLotGoes x)) _ _ s
  refine wpAny_noted ?_
  rw [compTurn_list]
  refine wpAny_bind (wpAny_standAt (wpAny_bind (wpAny_mono (turn n s hI) (fun r s₁ h₁ => ?_) fun _ _ h' => h')))
  cases r with
  | none => exact wpAny_pure h₁
  | some v =>
    refine wpAny_bind (wpAny_mono h₁ (fun _ s₁' h₁' => ?_) fun _ _ h' => h')
    refine wpAny_bind (wpAny_mono h₁' (fun _ s₂ h₂ => wpAny_bind (wpAny_mono h₂ (fun ok s₃ h₃ => ?_) fun _ _ h' => h')) fun _ _ h' => h')
    cases ok with
    | false => exact wpAny_pure ⟨rfl, h₃⟩
    | true =>
      exact wpAny_bind (wpAny_bind (wpAny_mono h₃ (fun x s₄ h₄ => wpAny_bind (wpAny_mono h₄ (fun _ s₅ h₅ => wpAny_pure (wpAny_pure ⟨rfl, h₅⟩)) fun _ _ h' => h')) fun _ _ h' => h'))
section
variable {X : Cx}
def tLc (wi : TI) (g : TG) (tt : TT) (te : TE) (vs : List Nat) : TE := fun σ H Q => wi σ H fun J H1 => ∀ D, H1 D = none → ∃ W : Nat → Nat → Hp → Prop, (∃ m, W 0 m (upd H1 D (.lst []))) ∧ ∀ i m H, W i m H →
  (J.stop i H ∧ Q (.ref D) H) ∨ (J.go i H ∧ ∃ Nx : Hp → Prop, (∀ H', Nx H' → ∃ m', m' < m ∧ W (i + 1) m' H') ∧ ∀ x H', J.yld i H x H' → g x (wipe σ vs) H' fun σ2 H2 => wipe σ2 vs = wipe σ vs ∧ tt σ2 H2 fun b H3 =>
    if b = true then te σ2 H3 fun y H4 => ∃ acc, H4 D = some (.lst acc) ∧ acc.length < sizeLine ∧ Nx (upd H4 D (.lst (acc ++ [y]))) else Nx H3)
theorem lc_core {pins : List (Addr × Obj)} {s : Shared} {σ : St} {H : Hp} {Q : VK} {elt tg iter : Expr} {ifs : List Expr} {scope : Scope} {own : List (Str × Nat)} {pos pos' : Pos} {wi : TI} {g : TG} {tt : TT} {te : TE} {use : Option (Value → Sem Unit)} {Qf : Value → Shared → Prop}
    (hc : X.calm = true) (hN : X.N.Nodup) (I : Inv X pins σ H s) (hi : PI X tg iter wi) (ok : BlkOk X.N X.env.scope scope own)
    (hg : ∀ (s : Shared) (H : Hp) (C : Addr) (cl : List (Str × Addr)) (fp : List Addr), PG (X.blk s H scope (compEnvC scope cl C X.env) fp) tg g) (ht : ∀ (s : Shared) (H : Hp) (C : Addr) (cl : List (Str × Addr)) (fp : List Addr), PTs (X.blk s H scope (compEnvC scope cl C X.env) fp) ifs tt)
    (he : ∀ (s : Shared) (H : Hp) (C : Addr) (cl : List (Str × Addr)) (fp : List Addr), PE (X.blk s H scope (compEnvC scope cl C X.env) fp) elt te) (hs : ∀ x, foldedSetIterable iter X.env x = pure x)
    (h : tLc wi g tt te (own.map (·.2)) σ H Q)
    (hRR : ∀ D C s' m H', Inv X pins σ H' s' → Q (.ref D) H' → s'.heap.Ns C m → FpOk X pins H' C → compPost (model X.prog X.w) X.A X.xe use Qf (.ref D) C (.ok .next) s') :
    wpAny (model X.prog X.w) X.A (comprehension (.ListComp elt [⟨tg, iter, ifs, 0⟩] scope pos) scope X.env pos' (newList []) false (eval iter X.env) use) Qf X.xe s := by
  have hfree : ∀ y ∈ scope.names, y.2 = .free → ∃ c, X.env.cells.lookup y.1 = some c := fun y hy e => by
    rcases ok.free y hy e with k | k
    · exact I.ok.has _ (.inl k)
    · exact I.ok.has _ (.inr k)
  refine wpAny_comprehension_free (use := use) rfl hs (closure_ok hfree) ok.kind (fun y hy e => by rw [ok.uniq y hy, e])
    (thn (hi pins s σ H _ I h) fun xv s1 hx => thn hx fun itv s2 h2 => ?_)
  obtain ⟨it, fp, tn, J, H2, e, I2, T, st2, f2, q⟩ := h2
  subst e
  refine wpAny_newObj_type (newEnv_comp ?_) (by show 0 ≤ sizeLine; decide)
  generalize hD : s2.heap.objs.size = D
  have hDn : H2 D = none := I2.hok.fresh (Nat.le_of_eq hD)
  obtain ⟨W, ⟨m0, w0⟩, turn⟩ := q D hDn
  -- the new list
  generalize hs3 : ({ s2 with heap := s2.heap.push { cls := .type "list", data := .seq ([] : List Value).toArray } } : Shared) = s3
  have I3 : Inv X pins σ (upd H2 D (.lst [])) s3 := by
    rw [← hs3]
    refine I2.laid (t' := s2.toks) (fun b o e => Heap.get?_push_of_some _ e) (Nat.le_of_eq hD) ⟨Nat.zero_le _, [], 0, .nil, ?_⟩
    rw [← hD]
    exact Heap.get?_push_size _ rfl
  have h3 : s3.heap = s2.heap.push { cls := .type "list", data := .seq ([] : List Value).toArray } := by rw [← hs3]
  have sz : ∀ b ∈ fp, b < s2.heap.objs.size := fun b hb => by
    obtain ⟨o, e, _⟩ := T.obj _ _ st2 b hb
    exact Heap.lt_size e
  have f3 : ∀ b ∈ fp, FpOk X pins (upd H2 D (.lst [])) b ∧ b < s3.heap.objs.size := fun b hb => by
    have hlt := sz b hb
    refine ⟨⟨?_, (f2 b hb).2⟩, by rw [h3, Heap.size_push]; exact Nat.lt_succ_of_lt hlt⟩
    rw [upd_ne (by rw [← hD]; exact Nat.ne_of_lt hlt)]
    exact (f2 b hb).1
  have st3 : tn 0 s3.heap := T.keep _ _ _ st2 fun b _ o e => by rw [h3]; exact Heap.get?_push_of_some _ e
  have I4 := block_start I3 ok hN f3
  have pg := hg s3 (upd H2 D (.lst [])) s3.heap.objs.size (cellsFrom (s3.heap.objs.size + 1) scope.names (cloFrom X.env.cells scope.names [])) fp
  have pt := ht s3 (upd H2 D (.lst [])) s3.heap.objs.size (cellsFrom (s3.heap.objs.size + 1) scope.names (cloFrom X.env.cells scope.names [])) fp
  have pe := he s3 (upd H2 D (.lst [])) s3.heap.objs.size (cellsFrom (s3.heap.objs.size + 1) scope.names (cloFrom X.env.cells scope.names [])) fp
  show codeAny _ _ (.compStart (.ListComp elt [⟨tg, iter, ifs, 0⟩] scope pos) 0 (.ref it) (.ref D) (compEnvC scope (cellsFrom (s3.heap.objs.size + 1) scope.names (cloFrom X.env.cells scope.names [])) s3.heap.objs.size X.env)) (compPost (model X.prog X.w) X.A X.xe use Qf (.ref D) s3.heap.objs.size) { s3 with heap := pushCells (s3.heap.push { cls := .type "dict", data := .dict #[] }) scope.names }
  have nfp : ∀ b ∈ fp, (upd H2 D (.lst [])) b = none := fun b hb => (f3 b hb).1.1
  generalize hce : compEnvC scope (cellsFrom (s3.heap.objs.size + 1) scope.names (cloFrom X.env.cells scope.names [])) s3.heap.objs.size X.env = ce at I4 pg pt pe ⊢
  have cL : ce.locals = s3.heap.objs.size := by subst hce; rfl
  generalize hH3 : upd H2 D (.lst []) = H3 at I3 I4 pg pt pe w0 nfp f3
  generalize hs4 : ({ s3 with heap := pushCells (s3.heap.push { cls := .type "dict", data := .dict #[] }) scope.names } : Shared) = s4 at I4 ⊢
  have st4 : tn 0 s4.heap := T.keep _ _ _ st3 fun b _ o e => by rw [← hs4]; exact pushCells_keeps _ _ _ _ (Heap.get?_push_of_some _ e)
  have stat : ∀ {σ' : St} {H' : Hp} {s' : Shared}, Inv (X.blk s3 H3 scope ce fp) [] σ' H' s' → (∀ b ∈ fp, H' b = none) → ∀ b ∈ fp, FpOk (X.blk s3 H3 scope ce fp) [] H' b := fun {σ' H' s'} I' hn b hb =>
    ⟨hn b hb, (I'.ok.exf b hb).1, I'.ok.exfs b hb, .inl hb, fun x c e => (I'.ok.exf b hb).2 x c e, fun p hp => absurd (show p ∈ ([] : List (Addr × Obj)) ++ [] from hp) (by simp)⟩
  have loop : codeAny (model X.prog X.w) X.A (.compLoop (.ListComp elt [⟨tg, iter, ifs, 0⟩] scope pos) 0 (.ref it) (.ref D) ce) (compPost (model X.prog X.w) X.A X.xe use Qf (.ref D) s3.heap.objs.size) s4 := by
    refine compLoop_any (fun n s' => ∃ i H', Inv (X.blk s3 H3 scope ce fp) [] (wipe σ (own.map (·.2))) H' s' ∧ tn i s'.heap ∧ (∀ b ∈ fp, H' b = none) ∧ W i n H') ?_ m0 ⟨0, H3, I4, st4, nfp, w0⟩
    rintro n s5 ⟨i, H5, I5, st5, n5, w5⟩
    rcases turn i n H5 w5 with ⟨stop, qq⟩ | ⟨go, Nx, hNx, step⟩
    · have td := T.done (X.blk s3 H3 scope ce fp) rfl rfl rfl hc i [] s5 _ H5 (fun _ _ => False) I5 (stat I5 n5) st5 stop
      refine thnF td fun r s6 ⟨hr, I6⟩ => ?_
      subst hr
      -- back in the def's context
      have I7 : Inv X pins σ H5 s6 := I3.call' (ch := fp) I6.os I6.base I6.hok I6.bare fun b hb => ⟨(f3 b hb).1.2.2.2.1, (f3 b hb).1.2.1, (f3 b hb).1.2.2.2.2.1, (f3 b hb).1.2.2.2.2.2⟩
      have nC : H5 s3.heap.objs.size = none := by
        have z : H5 ce.locals = none := I6.free
        rw [cL] at z
        exact z
      obtain ⟨m, hn, _⟩ := I6.loc
      have hn : s6.heap.Ns ce.locals m := hn
      rw [cL] at hn
      exact hRR D s3.heap.objs.size s6 m H5 I7 qq hn (I3.fpOk (Nat.le_refl _) nC)
    · have ti := T.item (X.blk s3 H3 scope ce fp) rfl rfl rfl hc i [] s5 _ H5 (fun _ _ => False) I5 (stat I5 n5) st5 go
      refine thnF ti fun r s6 ⟨u, hr, h6⟩ => ?_
      subst hr
      refine thnF h6 fun _ s7 ⟨x, H7, I7, r7, y7, st7, n7⟩ => ?_
      have I7' := I7.pinned (stat I7 n7) (T.obj _ _ st7)
      refine thnF (pg _ s7 _ H7 x u _ I7' r7 (step x H7 y7)) fun _ s8 ⟨σ8, H8, I8, hw8, q8⟩ => ?_
      refine thnF (pt _ s8 σ8 H8 _ I8 q8) fun b s9 ⟨H9, I9, q9⟩ => ?_
      -- the turn's end
      have fin : ∀ {s' : Shared} {H' : Hp}, Inv (X.blk s3 H3 scope ce fp) ([] ++ pinsAt fp s7.heap) σ8 H' s' → Nx H' → ∃ m, m < n ∧ ∃ i H', Inv (X.blk s3 H3 scope ce fp) [] (wipe σ (own.map (·.2))) H' s' ∧ tn i s'.heap ∧ (∀ b ∈ fp, H' b = none) ∧ W i m H' := fun {s' H'} I' nx => by
        obtain ⟨m', hm, w'⟩ := hNx H' nx
        have pin' : ∀ b ∈ fp, ∀ o, s7.heap.get? b = some o → s'.heap.get? b = some o ∧ H' b = none := fun b hb o e =>
          let z := I'.pin (b, o) (List.mem_append_right _ (List.mem_append_right _ (mem_pinsAt hb e)))
          ⟨z.1, z.2.1⟩
        have hl : (wipe σ (own.map (·.2))).length = σ8.length := by rw [← hw8, wipe_length]
        refine ⟨m', hm, i + 1, H', (I'.unpinned (pins := [])).weak hl (fun j v e => ?_), T.keep _ _ _ st7 fun b hb o e => (pin' b hb o e).1, fun b hb => ?_, w'⟩
        · rw [← hw8] at e
          exact (wipe_some e).1
        · obtain ⟨o, e, _⟩ := T.obj _ _ st7 b hb
          exact (pin' b hb o e).2
      cases b with
      | false =>
        simp only [Bool.false_eq_true, if_false] at q9 ⊢
        exact fin I9 q9
      | true =>
        simp only [if_true] at q9 ⊢
        refine thnF (pe _ s9 σ8 H9 _ I9 q9) fun z s10 ⟨yv, H10, I10, r10, acc, hD10, hz10, nx⟩ => ?_
        exact app_ok (X := X.blk s3 H3 scope ce fp) I10 hD10 hz10 r10 fun s11 I11 => fin I11 nx
  exact codeAny_compStart_list loop (T.self X.A 0 _ _ _ st4 loop)
theorem pe_lc {elt tg iter : Expr} {ifs : List Expr} {scope : Scope} {own : List (Str × Nat)} {pos : Pos} {wi : TI} {g : TG} {tt : TT} {te : TE} (hc : X.calm = true) (hN : X.N.Nodup) (hi : PI X tg iter wi) (ok : BlkOk X.N X.env.scope scope own)
    (hg : ∀ (s : Shared) (H : Hp) (C : Addr) (cl : List (Str × Addr)) (fp : List Addr), PG (X.blk s H scope (compEnvC scope cl C X.env) fp) tg g) (ht : ∀ (s : Shared) (H : Hp) (C : Addr) (cl : List (Str × Addr)) (fp : List Addr), PTs (X.blk s H scope (compEnvC scope cl C X.env) fp) ifs tt)
    (he : ∀ (s : Shared) (H : Hp) (C : Addr) (cl : List (Str × Addr)) (fp : List Addr), PE (X.blk s H scope (compEnvC scope cl C X.env) fp) elt te) (hs : ∀ x, foldedSetIterable iter X.env x = pure x := by intro _; rfl) :
    PE X (.ListComp elt [⟨tg, iter, ifs, 0⟩] scope pos) (tLc wi g tt te (own.map (·.2))) := by
  intro pins s σ H Q I h
  rw [eval_ListComp]
  refine lc_core hc hN I hi ok hg ht he hs h fun D C s' m H' I' q hn f => ⟨m, hn, fun h'' sb => ?_⟩
  obtain ⟨f0, f1, f2, f3, f4, f5⟩ := f
  exact ⟨.ref D, H', I'.turned (t' := s'.toks) (fun b o hb e => (sb.2 b hb).trans e) f0 f1 f3 f4 f5, rfl, q⟩
end
theorem lc_tup {K : PySem.W.Frag} {a : Addr} {xs : List V} {g : TG} {tt : TT} {te : TE} {vs : List Nat} {σ : St} {H1 : Hp} {D : Addr} {Qd : Hp → Prop} (Pv : Nat → Hp → Prop) (h0 : Pv 0 (upd H1 D (.lst []))) (hl : ∀ i H, i ≤ xs.length → Pv i H → SqT K H a xs)
    (hs : ∀ i x H, xs[i]? = some x → Pv i H → g x (wipe σ vs) H fun σ2 H2 => wipe σ2 vs = wipe σ vs ∧ tt σ2 H2 fun b H3 =>
      if b = true then te σ2 H3 fun y H4 => ∃ acc, H4 D = some (.lst acc) ∧ acc.length < sizeLine ∧ Pv (i + 1) (upd H4 D (.lst (acc ++ [y]))) else Pv (i + 1) H3) (hd : ∀ H, Pv xs.length H → Qd H) :
    ∃ W : Nat → Nat → Hp → Prop, (∃ m, W 0 m (upd H1 D (.lst []))) ∧ ∀ i m H, W i m H →
      ((Itt K a).stop i H ∧ Qd H) ∨ ((Itt K a).go i H ∧ ∃ Nx : Hp → Prop, (∀ H', Nx H' → ∃ m', m' < m ∧ W (i + 1) m' H') ∧ ∀ x H', (Itt K a).yld i H x H' → g x (wipe σ vs) H' fun σ2 H2 => wipe σ2 vs = wipe σ vs ∧ tt σ2 H2 fun b H3 =>
        if b = true then te σ2 H3 fun y H4 => ∃ acc, H4 D = some (.lst acc) ∧ acc.length < sizeLine ∧ Nx (upd H4 D (.lst (acc ++ [y]))) else Nx H3) := by
  refine ⟨fun i m H => m = xs.length - i ∧ i ≤ xs.length ∧ Pv i H, ⟨xs.length, by simp, Nat.zero_le _, h0⟩, ?_⟩
  rintro i m H ⟨rfl, hi, p⟩
  have q := hl i H hi p
  by_cases hlt : i < xs.length
  · refine .inr ⟨⟨xs, xs[i], q, by simp [hlt]⟩, Pv (i + 1), fun H' p' => ⟨xs.length - (i + 1), by omega, rfl, hlt, p'⟩, fun x H' y => ?_⟩
    obtain ⟨e, y⟩ := y
    subst e
    exact hs i x _ (y xs q) p
  · have e : i = xs.length := by omega
    subst e
    exact .inl ⟨⟨xs, q, Nat.le_refl _⟩, hd H p⟩
def blkC (N : List Str) (sc scope : Scope) (own : List (Str × Nat)) : Bool :=
  (match scope.kind with | .function => true | _ => false) && (scope.names.all fun y => decide (scope.names.lookup y.1 = some y.2)) && (own.all fun p => decide (N[p.2]? = some p.1)) &&
    (scope.names.all fun y => match y.2 with
      | .free => (match sc.names.lookup y.1 with | some .cell => true | some .free => true | _ => false)
      | .local => decide (y.1 ∈ own.map (·.1)) || decide (y.1 ∉ N)
      | .cell => decide (y.1 ∈ own.map (·.1)) || decide (y.1 ∉ N)
      | _ => true)
theorem blkOk_by {N : List Str} {sc scope : Scope} {own : List (Str × Nat)} (h : blkC N sc scope own = true) : BlkOk N sc scope own := by
  unfold blkC at h
  simp only [Bool.and_eq_true, List.all_eq_true, decide_eq_true_eq] at h
  obtain ⟨⟨⟨h1, h2⟩, h3⟩, h4⟩ := h
  refine ⟨?_, h2, h3, fun y hy e => ?_, fun y hy e => ?_⟩
  · split at h1
    · assumption
    · cases h1
  · have q := h4 y hy
    simp only [e] at q
    split at q <;> first | exact .inl (by assumption) | exact .inr (by assumption) | cases q
  · have q := h4 y hy
    rcases e with e | e <;> (simp only [e, Bool.or_eq_true, decide_eq_true_eq] at q; exact q)
end L2
namespace L2
open PySem PySem.Spec PyProof.Rows
section
variable {prog : Program} {w : World} {A : Around} {R : Result → Shared → Prop} {s : Shared} {elt t0 i0 t1 i1 : Expr} {ifs0 ifs1 : List Expr} {scope : Scope} {pos : Pos} {it acc : Value} {env : Env}
end
section
variable {X : Cx}
end
end L2
namespace L2
open PySem PySem.Spec PyProof.Rows
section
variable {κ : Type} [DecidableEq κ]
def valV (kvs : List (κ × V)) (k : κ) : Option V := (kvs.find? fun kv => decide (kv.1 = k)).map (·.2)
def putK (kvs : List (κ × V)) (k : κ) (v : V) : List (κ × V) :=
  if (kvs.any fun kv => decide (kv.1 = k)) = true then kvs.map (fun kv => if kv.1 = k then (kv.1, v) else kv) else kvs ++ [(k, v)]
def dropK (kvs : List (κ × V)) (k : κ) : List (κ × V) := kvs.filter fun kv => decide (kv.1 ≠ k)
theorem valV_pos {p : κ × V} {r : List (κ × V)} {k : κ} (e : p.1 = k) : valV (p :: r) k = some p.2 := by simp [valV, List.find?_cons, e]
theorem valV_neg {p : κ × V} {r : List (κ × V)} {k : κ} (e : ¬ p.1 = k) : valV (p :: r) k = valV r k := by simp [valV, List.find?_cons, e]
theorem valV_any (k : κ) : ∀ kvs : List (κ × V), (kvs.any fun kv => decide (kv.1 = k)) = (valV kvs k).isSome
  | [] => rfl
  | p :: r => by
    rw [List.any_cons]
    by_cases e : p.1 = k
    · simp only [valV_pos e, decide_eq_true e, Bool.true_or, Option.isSome_some]
    · rw [valV_neg e, decide_eq_false e, Bool.false_or]; exact valV_any k r
theorem RelO.isSome_eq {o : Option V} {u : Option Value} (r : RelO o u) : o.isSome = u.isSome := by
  cases o with
  | none => cases u with
    | none => rfl
    | some _ => exact (show False from r).elim
  | some _ => cases u with
    | none => exact (show False from r).elim
    | some _ => rfl
theorem RelO.getD {o : Option V} {u : Option Value} {d : V} {d' : Value} (r : RelO o u) (rd : RelV d d') : RelV (o.getD d) (u.getD d') := by
  cases o with
  | none => cases u with
    | none => exact rd
    | some _ => exact (show False from r).elim
  | some _ => cases u with
    | none => exact (show False from r).elim
    | some _ => exact r
theorem KV.val {kvs : List (κ × V)} {vs : List (κ × Value)} (r : KV kvs vs) (k : κ) : RelO (valV kvs k) (valueAt vs k) := by
  unfold KV at r
  induction r with
  | nil => exact True.intro
  | @cons p q ps qs h t ih =>
    obtain ⟨h1, h2⟩ := h
    by_cases e : p.1 = k
    · have e' : q.1 = k := h1.symm.trans e
      have b : valueAt (q :: qs) k = some q.2 := by simp [valueAt, List.find?_cons, e']
      rw [valV_pos e, b]; exact h2
    · have e' : ¬ q.1 = k := fun z => e (h1.trans z)
      have b : valueAt (q :: qs) k = valueAt qs k := by simp [valueAt, List.find?_cons, e']
      rw [valV_neg e, b]; exact ih
theorem KV.any {kvs : List (κ × V)} {vs : List (κ × Value)} (r : KV kvs vs) (k : κ) : (kvs.any fun kv => decide (kv.1 = k)) = vs.any fun kv => decide (kv.1 = k) := by
  unfold KV at r
  induction r with
  | nil => rfl
  | cons h t ih => rw [List.any_cons, List.any_cons, ih, h.1]
theorem KV.repl {kvs : List (κ × V)} {vs : List (κ × Value)} (r : KV kvs vs) (k : κ) {y : V} {u : Value} (ry : RelV y u) :
    KV (kvs.map fun kv => if kv.1 = k then (kv.1, y) else kv) (vs.map fun kv => if kv.1 = k then (kv.1, u) else kv) := by
  unfold KV at r ⊢
  induction r with
  | nil => exact .nil
  | @cons p q ps qs h t ih =>
    rw [List.map_cons, List.map_cons]
    refine .cons ?_ ih
    obtain ⟨h1, h2⟩ := h
    by_cases e : p.1 = k
    · rw [if_pos e, if_pos (h1.symm.trans e)]; exact ⟨h1, ry⟩
    · rw [if_neg e, if_neg (fun z => e (h1.trans z))]; exact ⟨h1, h2⟩
theorem KV.put {kvs : List (κ × V)} {vs : List (κ × Value)} (r : KV kvs vs) (k : κ) {y : V} {u : Value} (ry : RelV y u) : KV (putK kvs k y) (stored vs k u) := by
  unfold putK stored
  rw [r.any k]
  by_cases e : (vs.any fun kv => decide (kv.1 = k)) = true
  · rw [if_pos e, if_pos e]; exact r.repl k ry
  · rw [if_neg e, if_neg e]; exact Paired.snoc r ⟨rfl, ry⟩
theorem KV.drop {kvs : List (κ × V)} {vs : List (κ × Value)} (r : KV kvs vs) (k : κ) : KV (dropK kvs k) (without vs k) := by
  unfold KV at r ⊢
  unfold dropK without
  induction r with
  | nil => exact .nil
  | @cons p q ps qs h t ih =>
    obtain ⟨h1, h2⟩ := h
    rw [List.filter_cons, List.filter_cons]
    by_cases e : p.1 = k
    · have a : ¬ decide (p.1 ≠ k) = true := by simp [e]
      have b : ¬ decide (q.1 ≠ k) = true := by simp [h1.symm.trans e]
      rw [if_neg a, if_neg b]; exact ih
    · have e' : ¬ q.1 = k := fun z => e (h1.trans z)
      have a : decide (p.1 ≠ k) = true := by simp [e]
      have b : decide (q.1 ≠ k) = true := by simp [e']
      rw [if_pos a, if_pos b]; exact .cons ⟨h1, h2⟩ ih
theorem KV.length {kvs : List (κ × V)} {vs : List (κ × Value)} (r : KV kvs vs) : kvs.length = vs.length := Paired.length r
end
theorem kV_is {P : Program} {w : World} {k : Key} {u : Value} (r : RelV (kV k) u) : (mixKind P w).is k u = true := by
  cases k with
  | inl i => obtain ⟨t, e⟩ := (show ∃ t, u = Value.int i t from r); subst e; exact mixKind_int P w i t
  | inr x => obtain ⟨t, e⟩ := (show ∃ t, u = Value.str x t from r); subst e; exact mixKind_str P w x t
theorem items_are {P : Program} {w : World} : ∀ {ks : List Key} {us : List Value}, Vals (ks.map kV) us → ItemsAre (mixKind P w) ks us
  | [], _, r => by rw [List.map_nil] at r; cases r; exact .nil
  | k :: ks, _, r => by
    rw [List.map_cons] at r
    cases r with
    | cons h t => exact .cons (kV_is h) (items_are t)
abbrev KT (H : Hp) : List (List Key × V) → List (List Key × Addr × Value) → Prop := Paired fun p q => p.1 = q.1 ∧ H q.2.1 = some (.tup (p.1.map kV)) ∧ RelV p.2 q.2.2
theorem KT.val {H : Hp} {kvs : List (List Key × V)} {xs : List (List Key × Addr × Value)} (r : KT H kvs xs) (k : List Key) : RelO (valV kvs k) ((atKey xs k).map (·.2)) := by
  induction r with
  | nil => exact True.intro
  | @cons p q ps qs h t ih =>
    obtain ⟨h1, _, h2⟩ := h
    by_cases e : p.1 = k
    · have e' : q.1 = k := h1.symm.trans e
      have b : atKey (q :: qs) k = some q.2 := by simp [atKey, List.find?_cons, e']
      rw [valV_pos e, b]; exact h2
    · have e' : ¬ q.1 = k := fun z => e (h1.trans z)
      have b : atKey (q :: qs) k = atKey qs k := by simp [atKey, List.find?_cons, e']
      rw [valV_neg e, b]; exact ih
theorem KT.repl {H : Hp} {kvs : List (List Key × V)} {xs : List (List Key × Addr × Value)} (r : KT H kvs xs) (k : List Key) {y : V} {u : Value} (ry : RelV y u) :
    KT H (kvs.map fun kv => if kv.1 = k then (kv.1, y) else kv) (xs.map (putAt k u)) := by
  induction r with
  | nil => exact .nil
  | @cons p q ps qs h t ih =>
    rw [List.map_cons, List.map_cons]
    refine .cons ?_ ih
    obtain ⟨h1, h2, h3⟩ := h
    unfold putAt
    by_cases e : p.1 = k
    · rw [if_pos e, if_pos (h1.symm.trans e)]; exact ⟨h1, h2, ry⟩
    · rw [if_neg e, if_neg (fun z => e (h1.trans z))]; exact ⟨h1, h2, h3⟩
theorem KT.put {H : Hp} {kvs : List (List Key × V)} {xs : List (List Key × Addr × Value)} (r : KT H kvs xs) (k : List Key) {b : Addr} {y : V} {u : Value} (hb : H b = some (.tup (k.map kV))) (ry : RelV y u) :
    KT H (putK kvs k y) (storedH xs k b u) := by
  have e : (kvs.any fun kv => decide (kv.1 = k)) = (atKey xs k).isSome := by
    rw [valV_any, (r.val k).isSome_eq, Option.isSome_map]
  unfold putK storedH
  rw [e]
  by_cases q : (atKey xs k).isSome = true
  · rw [if_pos q, if_pos q]; exact r.repl k ry
  · rw [if_neg q, if_neg q]; exact Paired.snoc r ⟨rfl, hb, ry⟩
theorem KT.keeps {H H' : Hp} {kvs : List (List Key × V)} {xs : List (List Key × Addr × Value)} (r : KT H kvs xs) (ht : ∀ b ys, H b = some (.tup ys) → H' b = some (.tup ys)) : KT H' kvs xs :=
  Paired.mapP r fun _ _ z => ⟨z.1, ht _ _ z.2.1, z.2.2⟩
section
variable {P : Program} {w : World} {H : Hp} {h : Heap} {a : Addr}
end
def DGet (H : Hp) (a : Addr) (y : V) (r : Option V) : Prop :=
  (∃ kvs k, Rd H a (.dK kvs) ∧ y = kV k ∧ r = valV kvs k) ∨ ∃ kvs k b, Rd H a (.dT kvs) ∧ y = .ref b ∧ H b = some (.tup (k.map kV)) ∧ r = valV kvs k
def DPut (H : Hp) (a : Addr) (y v : V) (H' : Hp) : Prop :=
  (∃ kvs k, H a = some (.dK kvs) ∧ y = kV k ∧ kvs.length < sizeLine ∧ H' = upd H a (.dK (putK kvs k v))) ∨
  ∃ kvs k b, H a = some (.dT kvs) ∧ y = .ref b ∧ H b = some (.tup (k.map kV)) ∧ kvs.length < sizeLine ∧ H' = upd H a (.dT (putK kvs k v))
theorem DGet.k {H : Hp} {a : Addr} {kvs : List (Key × V)} {k : Key} (e : H a = some (.dK kvs)) : DGet H a (kV k) (valV kvs k) := .inl ⟨kvs, k, .inl e, rfl, rfl⟩
theorem DGet.t {H : Hp} {a b : Addr} {kvs : List (List Key × V)} {k : List Key} (e : H a = some (.dT kvs)) (eb : H b = some (.tup (k.map kV))) : DGet H a (.ref b) (valV kvs k) := .inr ⟨kvs, k, b, .inl e, rfl, eb, rfl⟩
theorem DPut.k {H : Hp} {a : Addr} {kvs : List (Key × V)} {k : Key} {v : V} (e : H a = some (.dK kvs)) (hl : kvs.length < sizeLine) : DPut H a (kV k) v (upd H a (.dK (putK kvs k v))) := .inl ⟨kvs, k, e, rfl, hl, rfl⟩
theorem DPut.t {H : Hp} {a b : Addr} {kvs : List (List Key × V)} {k : List Key} {v : V} (e : H a = some (.dT kvs)) (eb : H b = some (.tup (k.map kV))) (hl : kvs.length < sizeLine) :
    DPut H a (.ref b) v (upd H a (.dT (putK kvs k v))) := .inr ⟨kvs, k, b, e, rfl, eb, hl, rfl⟩
section
variable {X : Cx} {pins : List (Addr × Obj)} {σ : St} {H : Hp} {s : Shared} {a : Addr} {y v : V} {u r : Value} {o : Option V} {A : Around} {E : Value → Shared → Prop}
end
section
variable {X : Cx} {pins : List (Addr × Obj)} {σ : St} {H : Hp} {s : Shared} {a : Addr} {kvs : List (Key × V)} {k : Key} {u : Value} {A : Around} {E : Value → Shared → Prop}
end
section
variable {X : Cx} {o i e value : Expr} {pos pos' tpos : Pos} {td ty tv : TE}
end
section
variable {X : Cx} {pos : Pos}
end
structure M1 (X : Cx) (o : Expr) (m : Str) (apos : Pos) (e : Expr) (cpos : Pos) : Prop where
  base : attributeBase o m X.env (eval o X.env) = eval o X.env
  few : ((backTo cpos (starEach [e] X.env)).all (fun x => !x.1) && (backToKw cpos (keywordEach [] X.env)).all (fun x => x.1.isSome)
    && decide (([e] : List Expr).length + ([] : List Keyword).length + (if ([] : List Keyword).isEmpty then 0 else 1) < 30)) = true
  line : (apos.endLine == cpos.line) = true
  trees : backTo cpos (starEach [e] X.env) = [(false, eval e X.env)]
structure M2 (X : Cx) (o : Expr) (m : Str) (apos : Pos) (e f : Expr) (cpos : Pos) : Prop where
  base : attributeBase o m X.env (eval o X.env) = eval o X.env
  few : ((backTo cpos (starEach [e, f] X.env)).all (fun x => !x.1) && (backToKw cpos (keywordEach [] X.env)).all (fun x => x.1.isSome)
    && decide (([e, f] : List Expr).length + ([] : List Keyword).length + (if ([] : List Keyword).isEmpty then 0 else 1) < 30)) = true
  line : (apos.endLine == cpos.line) = true
  trees : backTo cpos (starEach [e, f] X.env) = [(false, eval e X.env), (false, eval f X.env)]
section
variable {X : Cx} {pins : List (Addr × Obj)} {σ : St} {H : Hp} {s : Shared} {a : Addr} {y d : V} {u r : Value} {o : Option V} {A : Around} {E : Value → Shared → Prop}
end
section
variable {X : Cx} {o e f : Expr} {apos cpos : Pos} {td ty tx : TE}
end
section
variable {X : Cx} {pins : List (Addr × Obj)} {σ : St} {H : Hp} {s : Shared} {a : Addr} {kvs : List (Key × V)} {A : Around} {E : Value → Shared → Prop}
end
section
variable {X : Cx} {pins : List (Addr × Obj)} {σ : St} {H : Hp} {s : Shared} {a : Addr} {y : V} {u : Value} {A : Around} {E : Value → Shared → Prop}
end
end L2
namespace L2
open PySem PySem.Spec PyProof.Rows
section
variable {prog : Program} {w : World} {A : Around} {E : Value → Shared → Prop}
end
section
variable {X : Cx}
end
end L2
namespace L2
open PySem PySem.Spec PyProof.Rows
section
variable {X : Cx} {pins : List (Addr × Obj)} {σ : St} {H : Hp} {s : Shared} {h' : Heap}
end
section
variable {X : Cx}
end
def RgC (i j c : Int) (n : Nat) : Prop := c ≠ 0 ∧ c.natAbs < 1073741824 ∧ Builtin.Range.small i j c = true ∧ Builtin.Range.rangeSize i j c = n
theorem RgC.neg {i j : Int} (ha : -(2 ^ 62) ≤ i) (ha' : i < 2 ^ 62) (hb : -(2 ^ 62) ≤ j) (hb' : j < 2 ^ 62) : RgC i j (-1) (i - j).toNat :=
  ⟨by decide, by decide, PySem.W.small_down ha ha' hb hb', PySem.W.rangeSize_downNat i j⟩
section
variable {X : Cx} {tg : Expr}
end
section
variable {X : Cx} {tg : Expr}
end
section
variable {prog : Program} {w : World} {A : Around} {E : Value → Shared → Prop} {s : Shared}
end
section
variable {X : Cx} {pins : List (Addr × Obj)} {σ : St} {H : Hp} {s : Shared} {d : Addr} {o : Obj}
end
section
variable {P : Program} {w : World} {K : PySem.W.Frag} {tg : Expr} {d : Addr} {o : Obj} {es : Array DictEntry} {ep : Nat}
end
section
variable {X : Cx} {tg e : Expr} {td : TE} {apos cpos : Pos}
end
end L2
section 
namespace Bits
open PySem PyProof.Rows
end Bits
end 
section 
namespace TL
open PySem PySem.Builtin PySem.Builtin.Str PySem.StrLaws
abbrev tl (x : Str) : List Nat := x.cps.toList
def pre (S l : List Nat) : Bool := l.take S.length == S
def par (S : List Nat) : List Nat → List Nat → Option (List Nat × List Nat)
  | _, [] => none
  | acc, c :: r => if pre S (c :: r) = true then some (acc, (c :: r).drop S.length) else par S (acc ++ [c]) r
end TL
end 
namespace L2
open PySem PySem.Spec PyProof.Rows
section
variable {X : Cx} {pins : List (Addr × Obj)} {σ : St} {H : Hp} {s : Shared} {Q : VK}
end
section
variable {X : Cx}
end
section
variable {X : Cx} {o e : Expr} {to te : TE}
end
end L2
namespace L2
open PySem PySem.Spec PyProof.Rows
section
variable {X : Cx}
end
end L2
namespace Att
open PySem PySem.W PySem.Calls PyProof.Rows
theorem ints_of_wellAll {P : Params} {h : Heap} : ∀ (ns : List Int) (vs : List Value), WellAll P h vs (ns.map WData.int) → IntsAre vs ns := by
  intro ns
  induction ns with
  | nil =>
    intro vs w
    rw [List.map_nil] at w
    cases w
    exact .nil
  | cons n ns ih =>
    intro vs w
    rw [List.map_cons] at w
    cases w with
    | cons a b =>
      cases a
      exact .cons _ _ (ih _ b)
theorem script_of {l : OpenLaw} {n : Nat} (hn : l.most = some n) {P : Params} {h : Heap} {args : List WData} {vals : List Value}
    (hpre : l.row.toRowW.claim.pre args = true) (hwl : WellAll P h vals args) :
    ∃ a vs ns, vals = [Value.ref a] ∧ args = [WData.list (ns.map WData.int)] ∧ h.get? a = some { cls := .type "list", data := .seq vs.toArray } ∧ IntsAre vs ns ∧ ns.length ≤ n := by
  have hsh : WShape.hasAll [] args [.list .int] = true := (pre_splitW hpre).1
  have hc : l.pre.holds [] { args := args } = true := (pre_splitW hpre).2
  obtain ⟨d, r, rfl, h1, h2⟩ := hasAllW_cons hsh
  obtain rfl := hasAllW_nil h2
  obtain ⟨xs, rfl, h3⟩ := hasW_list h1
  obtain ⟨ns, rfl⟩ := items_int h3
  have hlen : ns.length ≤ n := by
    unfold OpenLaw.pre at hc
    have h4 : (WTm.not (.lt (.lit (.int (n : Int))) (.len (.arg 0)))).holds [] { args := [.list (ns.map .int)] } = true := by
      have h4 := (holds_andW hc).1
      rw [hn] at h4
      exact h4
    have h5 := condW_of h4 (w_not (w_lt w_lit (w_len_list (w_arg rfl))))
    rw [List.length_map] at h5
    refine Nat.le_of_not_lt fun q => ?_
    have q' : (n : Int) < ((ns.length : Nat) : Int) := by omega
    first
      | (rw [decide_eq_true q'] at h5; exact absurd h5 (by decide))
      | (simp at h5; omega)
  cases hwl with
  | cons w1 w2 =>
    cases w2
    cases w1 with
    | list ho hall => exact ⟨_, _, ns, rfl, rfl, ho, ints_of_wellAll ns _ hall, hlen⟩
theorem post_true (l : OpenLaw) (args : List WData) : l.row.toRowW.claim.post args (.bool true) args = true :=
  postW_of (r := l.row.toRowW) (X := (true == true))
    (show WShape.has [] (.bool true) .bool = true by first | rfl | decide | simp [WShape.has, WShape.arms, WShape.armsAll])
    (show (WTm.eq .res (.lit (.bool true))).value [] { args := args, res := some (.bool true), after := args } = some (.bool (true == true)) from w_eq_bool (w_res rfl) w_lit) rfl
theorem attach_call {l : OpenLaw} {n : Nat} {q : Program} {loose : List Str} {XP : (Str → Option Value) → Heap → Prop} {YP : World → Heap → Prop} {d : DefRec}
    (hn : l.most = some n) (hdf : d.params.defaults = [])
    (call : ∀ (w : World) (s₀ s₁ : Shared) (mg mb : Str → Option Value) (fa : Addr) (o : Obj) (pm cd doc : Value) (a : Addr) (vs : List Value) (ns : List Int),
      Ground q loose [] XP w s₀ mg mb s₁.heap → YP w s₁.heap →
      s₁.heap.get? fa = some o → o.data = .func (docDef d.name d.params d.body d.scope pm cd doc) → s₁.heap.CodeRec cd d.name → mg d.name = some (.ref fa) →
      s₁.heap.get? a = some { cls := .type "list", data := .seq vs.toArray } → IntsAre vs ns → ns.length ≤ n → s₁.gens = #[] →
      codeAny (model l.prog w) callerA (.call (.ref fa) ⟨[.ref a], []⟩) (fun r s' => r = .ok (.ret (.bool true)) ∧ OldK s₁.heap s'.heap ∧ s'.os = s₁.os ∧ AllBare s'.gens) s₁) :
    WalkO q loose XP YP l.row.toRowW d [] (fun f vs => PySem.call f vs) := by
  intro w s₀ s₁ mg mb G Y fa o pm cd doc dV kV ho hd hcd hD hmg hg args vals as hpre hlay hrd hwl hlo
  obtain rfl : dV = .none := Dflts.none hD hdf
  obtain rfl : kV = .none := Dflts.noKw hD
  obtain ⟨a, vs, ns, rfl, rfl, hobj, hints, hlen⟩ := script_of hn hpre hwl
  refine enter_call (codeAny_mono (call w s₀ s₁ mg mb fa o pm cd doc a vs ns G Y ho (fd_plain hd) hcd hmg hobj hints hlen hg) fun r s' hq => ?_)
  obtain ⟨rfl, h2, h3, h4⟩ := hq
  exact ⟨.inl ⟨.bool true, .bool true, [], rfl, fun _ => rfl, .bool true, post_true l _, fun _ => ⟨List.Pairwise.nil, fun _ hm => (nomatch hm)⟩⟩, h2, h3, h4⟩
section
variable {prog : Program} {w : World} {A : Around} {E : Value → Shared → Prop} {s : Shared} {K : Frag}
end
end Att
namespace L2
open PySem PySem.Spec PyProof.Rows
theorem vals_ints : ∀ {vs : List Value} {ns : List Int}, IntsAre vs ns → Vals (ns.map V.int) vs
  | _, _, .nil => .nil
  | _, _, .cons n t h => .cons ⟨t, rfl⟩ (vals_ints h)
def Only (H : Hp) : Prop := ∀ b, H b = none ∨ ∃ o xs, H b = some (.frz o (.lst xs))
theorem law_call {P : Program} {w : World} {K : PySem.W.Frag} {mg mb : Str → Option Value} {CX : CXT} {k : Nat} {fa a : Addr} {fd : FuncData} {x : Str} {sp : Sp} {s₁ : Shared} {vs : List Value} {ns : List Int}
    (KX : K.In s₁.heap) (hns : s₁.heap.Ns mainGlobals mg) (hb : s₁.heap.Ns builtinsNs mb) (hbb : ∀ x : Str, x ≠ "__name__" → mb x = bootBuiltins x) (hlim : s₁.heap.NoLimit) (hg : s₁.gens = #[])
    (ha : s₁.heap.get? a = some { cls := .type "list", data := .seq vs.toArray }) (hi : IntsAre vs ns) (hl : ns.length ≤ sizeLine) (hr : Room k callerA)
    (F : ∀ base : Heap, K.In base → base.Ns mainGlobals mg → FnOk P w K mg base CX k fa fd [x] sp) (hbind : ∀ (s : Shared) (u : Value), BindsTo s fd ⟨[u], []⟩ [(x, u)])
    (hsp : ∀ H : Hp, Only H → SqL K H a (ns.map V.int) → sp [.ref a] H (fun v _ => v = .bl true) fun _ _ _ => False)
    (hCX : ∀ H e s', CX [] H s₁ (fun _ _ _ => False) e s' → False) :
    codeAny (model P w) callerA (.call (.ref fa) ⟨[.ref a], []⟩) (fun r s' => r = .ok (.ret (.bool true)) ∧ OldK s₁.heap s'.heap ∧ s'.os = s₁.os ∧ AllBare s'.gens) s₁ := by
  have rv := vals_ints hi
  have lenV := hi.length
  -- from an abstract heap in which nothing but the script may be tracked
  have core : ∀ H : Hp, Only H → SqL K H a (ns.map V.int) → HOk P w H s₁.heap → (∀ b, H b ≠ none → b = a) → (H a ≠ none → K.lookup a = none) →
      codeAny (model P w) callerA (.call (.ref fa) ⟨[.ref a], []⟩) (fun r s' => r = .ok (.ret (.bool true)) ∧ OldK s₁.heap s'.heap ∧ s'.os = s₁.os ∧ AllBare s'.gens) s₁ := by
    intro H hO hS hok hA hK
    have base_of : ∀ {b : Addr} {o : Obj}, s₁.heap.get? b = some o → H b = none → (hidT s₁.heap H).get? b = some o := fun e n => hidT_get e n
    have noA : ∀ {b : Addr} {o : Obj} {es : Array DictEntry} {ep : Nat}, s₁.heap.get? b = some o → o.data = .dict es ep → H b = none := fun {b o es ep} e d => by
      cases q : H b with
      | none => rfl
      | some u =>
        have e' : b = a := hA b (by rw [q]; simp)
        subst e'
        rw [ha] at e; cases e
        have d' : Data.seq vs.toArray _ = Data.dict es ep := d
        cases d'
    have nsK : ∀ {b : Addr} {m : Str → Option Value}, s₁.heap.Ns b m → (hidT s₁.heap H).Ns b m := fun {b m} ⟨o, es, ep, e, d, r⟩ => ⟨o, es, ep, base_of e (noA e d), d, r⟩
    have hKb : K.In (hidT s₁.heap H) := fun b o e => base_of (KX b o e) (by
      cases q : H b with
      | none => rfl
      | some u =>
        have e' : b = a := hA b (by rw [q]; simp)
        subst e'
        rw [hK (by rw [q]; simp)] at e; cases e)
    have hM : Mod K mg (hidT s₁.heap H) := ⟨hKb, nsK hns, ⟨mb, nsK hb, hbb⟩, let ⟨mc, h1, h2⟩ := hlim; ⟨mc, nsK h1, h2⟩⟩
    have e0 : Env0 P w K mg (hidT s₁.heap H) callerA [] s₁ H := ⟨rfl, hM, fun b o e => of_hidT e, Nat.le_of_eq (hidT_size _ _), trivial, fun b hb => absurd (show b ∈ ([] : List Addr) from hb) (by simp), hok, .of_eq hg⟩
    refine codeAny_mono ((F _ hKb (nsK hns)).run callerA [] s₁ H ⟨[.ref a], []⟩ [.ref a] [.ref a] _ _ hr e0 (hbind s₁ (.ref a)) (.cons rfl .nil) (hsp H hO hS)) fun r s' h => ?_
    cases r with
    | error e => exact (hCX H e s' h).elim
    | ok fl =>
      cases fl with
      | next => exact False.elim h
      | brk => exact False.elim h
      | cont => exact False.elim h
      | ret u =>
        obtain ⟨v, H', os, bare, un, hok', r', q⟩ := h
        have q' : v = .bl true := q
        subst q'
        obtain rfl : u = Value.bool true := r'
        refine ⟨rfl, OldK.of_keep fun b o e => ?_, os, bare⟩
        cases q : H b with
        | none => exact un.keep b o e q (by intro z; exact absurd (show b ∈ ([] : List Addr) from z) (by simp)) (by simp)
        | some u =>
          rcases hO b with z | ⟨ob, xs, z⟩
          · rw [q] at z; cases z
          · have z2 := un.frzs b ob _ z
            obtain ⟨e1, _⟩ := hok b _ z
            obtain ⟨e2, _⟩ := hok' b _ z2
            rw [e] at e1; cases e1
            exact e2
  cases hk : K.lookup a with
  | some o =>
    -- the script is one of the module's own objects
    have e := KX a o hk
    rw [ha] at e
    cases e
    refine core (fun _ => none) (fun _ => .inl rfl) (.inr ⟨_, vs.toArray, _, hk, rfl, rfl, rfl, by rw [List.size_toArray, lenV]; exact hl, by simpa using rv⟩) (fun b u z => by have z' : (none : Option HO) = some u := z; cases z') (fun b z => absurd rfl z) fun z => absurd rfl z
  | none =>
    refine core (fun b => if b = a then some (.frz { cls := .type "list", data := .seq vs.toArray } (.lst (ns.map V.int))) else none) (fun b => ?_) (.inl (.inr ⟨{ cls := .type "list", data := .seq vs.toArray }, if_pos rfl⟩)) (fun b u z => ?_) (fun b z => ?_) fun _ => hk
    · by_cases hb : b = a
      · exact .inr ⟨_, _, if_pos hb⟩
      · exact .inl (if_neg hb)
    · by_cases hb : b = a
      · have z' := (if_pos hb).symm.trans z
        cases z'
        subst hb
        exact ⟨ha, by rw [List.length_map]; exact hl, vs, _, rv, ha⟩
      · have z' := (if_neg hb).symm.trans z
        cases z'
    · by_cases hb : b = a
      · exact hb
      · exact absurd (if_neg hb) z
end L2
namespace L2
open PySem PySem.Spec PyProof.Rows
abbrev KOf {K : PySem.W.Frag} {h : Heap} (_ : K.In h) : PySem.W.Frag := K
theorem walk_of {l : PySem.W.OpenLaw} {n k : Nat} {q : Program} {loose : List Str} {XP : (Str → Option Value) → Heap → Prop} {YP : World → Heap → Prop} {d : DefRec} {K : Params → PySem.W.Frag} {CX : World → CXT} {sp : World → Sp} {x : Str}
    (hn : l.most = some n) (hn2 : n ≤ sizeLine) (hdf : d.params.defaults = []) (hr : Room k callerA)
    (hY : ∀ (w : World) (h : Heap), YP w h → (K w.params).In h)
    (F : ∀ (w : World) (mg : Str → Option Value) (fa : Addr) (h : Heap), (K w.params).In h → h.Ns mainGlobals mg → mg d.name = some (.ref fa) →
      ∃ fd : FuncData, (∀ (s : Shared) (u : Value), BindsTo s fd ⟨[u], []⟩ [(x, u)]) ∧
        ∀ base : Heap, (K w.params).In base → base.Ns mainGlobals mg → FnOk l.prog w (K w.params) mg base (CX w) k fa fd [x] (sp w))
    (hsp : ∀ (w : World) (H : Hp) (a : Addr) (ns : List Int), ns.length ≤ n → Only H → SqL (K w.params) H a (ns.map V.int) → sp w [.ref a] H (fun v _ => v = .bl true) fun _ _ _ => False)
    (hCX : ∀ (w : World) (H : Hp) (s : Shared) (e : Value) (s' : Shared), CX w [] H s (fun _ _ _ => False) e s' → False) :
    PySem.W.WalkO q loose XP YP l.row.toRowW d [] (fun f vs => PySem.call f vs) := by
  refine Att.attach_call hn hdf fun w s₀ s₁ mg mb fa o pm cd doc a vs ns G Y ho hd hcd hmg hobj hints hlen hg => ?_
  have KX := hY w _ Y
  obtain ⟨fd, hb, hF⟩ := F w mg fa _ KX G.T.g hmg
  exact law_call KX G.T.g G.T.b G.T.builtins G.T.nolimit hg hobj hints (Nat.le_trans hlen hn2) hr hF hb (fun H hO hS => hsp w H a ns hlen hO hS) fun H e s' => hCX w H s₁ e s'
end L2
/- THE LAST THEOREM (shape; LID, My.* are yours):
   My.Adr: a structure of the addresses that your layer names (classes, functions); My.Txt K t: a structure (Prop) of the equations over K;
   My.txt_mk : {K} {implicit addresses ..} (e1 : nsIn K mainGlobals "law" = some (some (.ref f))) (e2 : K.lookup f = some ⟨oc, od, .func (fnOf "law" "law" params body scope dV kV doc pm an cdv ct), sl⟩) (e3 : codeIn K cdv "law" = true) .. : ∃ t, My.Txt K t
set_option maxRecDepth 100000 in
set_option maxHeartbeats 0 in
theorem PySem.Challenge.cw_LID_holds : PySem.Challenge.rw_LID.Holds := by
  w_on; o_law; k_head; (case hw => w_witness2)
  k_fill
  refine L2.walk_of (l := PySem.Challenge.rw_LID) (n := 63) (k := 40) (x := "script") (CX := fun w => ..) (sp := fun _ => My.sp_law) rfl (by decide) rfl ⟨rfl, by decide, by decide⟩ (fun w h Y => PySem.W.kIn_of Y) ?F ?S ?C
  case F =>
    intro w mg fa h KX G hmg
    have T : ∃ t, My.Txt (L2.KOf KX) t := by
      dsimp only [L2.KOf]                          -- K must stand as «<heap const> w.params» for k_is
      refine' My.txt_mk ?e1 ?e2 ?e3 ..
      (case e1 => PySem.W.k_is)                    -- in the order: a name -> its address -> its object -> its parts
      (case e2 => PySem.W.k_is)
      ..
    obtain ⟨t, T⟩ := T
    have e0 := hmg.symm.trans (PySem.W.mg_of KX G T.law)
    cases e0                                       -- fa is the law's own address
    exact ⟨_, fun s u => .of_eq rfl, fun base kb nb => My.law_fn T kb nb⟩     -- if «.of_eq rfl» comes too early: refine' ⟨_, ?b, fun base kb nb => My.law_fn T kb nb⟩; exact fun s u => .of_eq rfl
  case S => exact fun w H a ns hl hO hS => ..
  case C => exact ..
(the tactic k_is has no namespace: write k_is) -/
namespace L2
open PySem PySem.Spec PyProof.Rows
def defArgs (s : Stmt) : Arguments := match s with
  | .FunctionDef _ a _ _ _ _ _ _ _ _ => a
  | _ => { posonlyargs := [], args := [], vararg := none, kwonlyargs := [], kw_defaults := [], kwarg := none, defaults := [] }
def defBody (s : Stmt) : List Stmt := match s with
  | .FunctionDef _ _ b _ _ _ _ _ _ _ => b
  | _ => []
def defScope (s : Stmt) : Scope := match s with
  | .FunctionDef _ _ _ _ _ _ sc _ _ _ => sc
  | _ => { kind := .function, names := [], isGenerator := false, isCoroutine := false }
abbrev CX0 : CXT := fun _ _ _ _ _ _ => False
abbrev E0 : XK := fun _ _ _ => False
theorem pass0 {X : Cx} : Passes CX0 X E0 := fun _ _ _ _ _ _ _ h => h.elim
structure Fun (K : PySem.W.Frag) (x qual : Str) (st : Stmt) (f : Addr) (fd : FuncData) : Prop where
  ex : ∃ (oc : Value) (od : Option Addr) (kV doc pm : Value) (an : Option Addr) (cdv ct : Value) (osl : Array (Option Value)),
    fd = PySem.W.fnOf x qual (defArgs st) (defBody st) (defScope st) .none kV doc pm an cdv ct ∧ K.lookup f = some ⟨oc, od, .func fd, osl⟩ ∧ PySem.W.codeIn K cdv qual = true
  kp : PySem.W.keepIn K (.ref f) = true
section
variable {P : Program} {w : World} {K : PySem.W.Frag} {mg : Str → Option Value} {base : Heap}
theorem Fun.ok {x qual : Str} {st : Stmt} {f : Addr} {fd : FuncData} {N ps : List Str} {k : Nat} {sp : Sp} (F : Fun K x qual st f fd) (S : FnScope N ps (defScope st)) (len : ∀ vs H Q E, sp vs H Q E → vs.length = ps.length)
    (hbody : ∀ (cdv : Value) (A : Around) (outer : List Env) (s : Shared) (H : Hp) (vs : List V) (Q : VK) (E : XK), Room k (A.deeper (envOfC qual (defScope st) s.heap.objs.size f cdv)) → sp vs H Q E →
      ∃ t, PSs (cxOf CX0 P w K mg base N qual (defScope st) f cdv A outer s H E).nox (defBody st) t ∧ t { nx := fun _ H' => Q .non H', rt := Q } (start N vs) H) : FnOk P w K mg base CX0 (k + 1) f fd ps sp := by
  obtain ⟨oc, od, kV, doc, pm, an, cdv, ct, osl, rfl, lk, hcd⟩ := F.ex
  refine fn_of lk hcd S len fun A outer s H vs Q E hr hsp => ?_
  obtain ⟨t, h, q⟩ := hbody cdv A outer s H vs Q E hr hsp
  exact ⟨t, h.nox, q⟩
theorem Fun.binds {x qual : Str} {st : Stmt} {f : Addr} {fd : FuncData} {ps : List Str} (F : Fun K x qual st f fd)
    (h : ∀ (kV doc pm : Value) (an : Option Addr) (cdv ct : Value) (us : List Value), us.length = ps.length → bindArgs (PySem.W.fnOf x qual (defArgs st) (defBody st) (defScope st) .none kV doc pm an cdv ct) ⟨us, []⟩ = pure (ps.zip us)) : Binds K fd ps [] := by
  obtain ⟨oc, od, kV, doc, pm, an, cdv, ct, osl, rfl, lk, hcd⟩ := F.ex
  exact .all (h kV doc pm an cdv ct)
end
theorem small1000 {n : Nat} (h : n ≤ 1000) : n < sizeLine := Nat.lt_of_le_of_lt h (by decide)
section
variable {X : Cx}
theorem pv (i : Nat) {x : Str} {pos : Pos} (hN : X.N[i]? = some x := by rfl) (hv : Vis X.env.scope x := by first | exact Or.inl rfl | exact Or.inr (Or.inl rfl) | exact Or.inr (Or.inr rfl)) (hd : (x == ("__debug__" : Str)) = false := by decide)
    (hcd : (x == ("__classdict__" : Str)) = false := by decide) : PE X (.Name x pos) (tVar i) := pe_var hN hv hd hcd
end
theorem iteF {A B : Prop} (h : B) : if false = true then A else B := by
  rw [if_neg Bool.false_ne_true]
  exact h
theorem iteT {A B : Prop} (h : A) : if true = true then A else B := by
  rw [if_pos rfl]
  exact h
def Same (H H' : Hp) : Prop := ∀ b o, H b = some o → H' b = some o
theorem Same.refl (H : Hp) : Same H H := fun _ _ h => h
theorem Same.trans {H H1 H2 : Hp} (a : Same H H1) (b : Same H1 H2) : Same H H2 := fun c o h => b c o (a c o h)
theorem Same.free {H H' : Hp} (e : Same H H') {l : Addr} (h : H' l = Option.none) : H l = Option.none := by
  cases q : H l with
  | none => rfl
  | some o =>
    rw [e l o q] at h
    cases h
theorem Same.seq {K : PySem.W.Frag} {H H' : Hp} {a : Addr} {xs : List V} (e : Same H H') (h : SqL K H a xs) : SqL K H' a xs := by
  rcases h with (h | ⟨o, h⟩) | h
  · exact .inl (.inl (e _ _ h))
  · exact .inl (.inr ⟨o, e _ _ h⟩)
  · exact .inr h
section
variable {κ : Type} [DecidableEq κ]
end
end L2
end
section
set_option Elab.async false
set_option linter.all false
set_option maxRecDepth 100000
set_option maxHeartbeats 4000000
namespace L3
open PySem PySem.Spec L2
open PyProof.Rows hiding St
inductive Ow where
  | lst (ds : List PyData)
  | dic (kvs : List (PyData × PyData))
  | tab
instance : Coe (List PyData) Ow := ⟨Ow.lst⟩
structure Ms where
  own : Addr → Option Ow
  anc : Option ((Addr → Option Ow) × Hp)
instance : CoeFun Ms (fun _ => Addr → Option Ow) := ⟨Ms.own⟩
def m0 : Ms := ⟨fun _ => none, none⟩
abbrev rf (a : Addr) : PyData := .dict [(.int (a : Int), .none)]
abbrev exD (a C : Addr) : PyData := .dict [(.int (a : Int), .int (C : Int))]
abbrev dicD (kvs : List (PyData × PyData)) : PyData := .dict ((.none, .none) :: kvs)
def ExcO (a C : Addr) (h : Heap) : Prop := ∃ o vs, h.get? a = some o ∧ o.cls = .ref C ∧ o.dict = none ∧ o.data = .fields vs
def RawD (a : Addr) (o : Obj) (h : Heap) : Prop := h.get? a = some o
def DicO (a : Addr) (o : Obj) (es : List DictEntry) : Prop := (a == sysModules) = false ∧ es.length ≤ sizeLine ∧ o.ExactDict ∧ ∃ ep, o.data = .dict es.toArray ep
def CodeO (a : Addr) (q : Str) (h : Heap) : Prop := ∃ o vs t, h.get? a = some o ∧ o.data = .fields vs ∧ vs[1]? = some (.str q t)
mutual
def keyD : PyData → Bool
  | .int _ => true
  | .tuple ds => keyDs ds
  | _ => false
def keyDs : List PyData → Bool
  | [] => true
  | d :: ds => keyD d && keyDs ds
end
mutual
def hshD : PyData → Int
  | .int i => hashInt i
  | .tuple ds => reduceHash (Builtin.Tuple.tupleHashOf (hshDs ds))
  | _ => 0
def hshDs : List PyData → List Int
  | [] => []
  | d :: ds => hshD d :: hshDs ds
end
mutual
inductive Dx (K : PySem.W.Frag) (τ : Ms) (H : Hp) : V → PyData → Prop
  | non : Dx K τ H .non .none
  | bl (b : Bool) : Dx K τ H (.bl b) (.bool b)
  | int (i : Int) : Dx K τ H (.int i) (.int i)
  | str (x : Str) : Dx K τ H (.str x) (.str x)
  | lst {a : Addr} {xs : List V} {ds : List PyData} : τ a = none → Rd H a (.lst xs) → DxAll K τ H xs ds → Dx K τ H (.ref a) (.list ds)
  | tup {a : Addr} {xs : List V} {ds : List PyData} : τ a = none → Rd H a (.tup xs) → DxAll K τ H xs ds → Dx K τ H (.ref a) (.tuple ds)
  | tupK {a : Addr} {xs : List V} {ds : List PyData} {o : Obj} {its : Array Value} {n : Nat} : K.lookup a = some o → o.cls = .type "tuple" → o.data = .seq its n → its.size ≤ sizeLine → Vals xs its.toList → DxAll K τ H xs ds → Dx K τ H (.ref a) (.tuple ds)
  | lstK {a : Addr} {xs : List V} {ds : List PyData} {o : Obj} {its : Array Value} {n : Nat} : K.lookup a = some o → o.cls = .type "list" → o.dict = none → o.data = .seq its n → its.size ≤ sizeLine → Vals xs its.toList → DxAll K τ H xs ds → Dx K τ H (.ref a) (.list ds)
  | own {a : Addr} : Dx K τ H (.ref a) (rf a)
  | exc {a C : Addr} : τ a = none → H a = some (.ext (ExcO a C)) → Dx K τ H (.ref a) (exD a C)
  | dic {a : Addr} {o : Obj} {es : List DictEntry} {kvs : List (PyData × PyData)} : τ a = none → H a = some (.ext (RawD a o)) → DicO a o es → DxEn K τ H kvs es → (kvs.map (·.1)).Nodup → Dx K τ H (.ref a) (dicD kvs)
inductive DxAll (K : PySem.W.Frag) (τ : Ms) (H : Hp) : List V → List PyData → Prop
  | nil : DxAll K τ H [] []
  | cons {v : V} {vs : List V} {d : PyData} {ds : List PyData} : Dx K τ H v d → DxAll K τ H vs ds → DxAll K τ H (v :: vs) (d :: ds)
inductive DxEn (K : PySem.W.Frag) (τ : Ms) (H : Hp) : List (PyData × PyData) → List DictEntry → Prop
  | nil : DxEn K τ H [] []
  | cons {b : Addr} {c d : PyData} {v : V} {u : Value} {kvs : List (PyData × PyData)} {es : List DictEntry} : keyD c = true → Dx K τ H (.ref b) c → RelV v u → Dx K τ H v d → DxEn K τ H kvs es → DxEn K τ H ((c, d) :: kvs) (⟨hshD c, .ref b, u⟩ :: es)
end
def Stp (τ : Ms) (H : Hp) (τ' : Ms) (H' : Hp) : Prop := ∀ b o, τ b = none → H b = some o → τ' b = none ∧ H' b = some o
theorem Stp.refl {τ : Ms} {H : Hp} : Stp τ H τ H := fun _ _ a b => ⟨a, b⟩
theorem Stp.trans {τ τ1 τ2 : Ms} {H H1 H2 : Hp} (a : Stp τ H τ1 H1) (b : Stp τ1 H1 τ2 H2) : Stp τ H τ2 H2 := fun c o h1 h2 => let ⟨p, q⟩ := a c o h1 h2; b c o p q
theorem Stp.rd {τ τ' : Ms} {H H' : Hp} (S : Stp τ H τ' H') {a : Addr} {u : HO} (n : τ a = none) (h : Rd H a u) : τ' a = none ∧ Rd H' a u := by
  rcases h with h | ⟨o, h⟩
  · exact ⟨(S _ _ n h).1, .inl (S _ _ n h).2⟩
  · exact ⟨(S _ _ n h).1, .inr ⟨o, (S _ _ n h).2⟩⟩
section
variable {K : PySem.W.Frag} {τ τ' : Ms} {H H' : Hp}
mutual
theorem Dx.stp (S : Stp τ H τ' H') : ∀ (d : PyData) (v : V), Dx K τ H v d → Dx K τ' H' v d
  | _, _, .non => .non
  | _, _, .bl b => .bl b
  | _, _, .int i => .int i
  | _, _, .str x => .str x
  | _, _, .lst n r a => .lst (S.rd n r).1 (S.rd n r).2 (DxAll.stp S _ _ a)
  | _, _, .lstK k c d e z r a => .lstK k c d e z r (DxAll.stp S _ _ a)
  | _, _, .tup n r a => .tup (S.rd n r).1 (S.rd n r).2 (DxAll.stp S _ _ a)
  | _, _, .tupK k c d z r a => .tupK k c d z r (DxAll.stp S _ _ a)
  | _, _, .own => .own
  | _, _, .exc n e => .exc (S _ _ n e).1 (S _ _ n e).2
  | _, _, .dic n e i a z => .dic (S _ _ n e).1 (S _ _ n e).2 i (DxEn.stp S _ _ a) z
theorem DxAll.stp (S : Stp τ H τ' H') : ∀ (ds : List PyData) (vs : List V), DxAll K τ H vs ds → DxAll K τ' H' vs ds
  | _, _, .nil => .nil
  | _, _, .cons a b => .cons (Dx.stp S _ _ a) (DxAll.stp S _ _ b)
theorem DxEn.stp (S : Stp τ H τ' H') : ∀ (kvs : List (PyData × PyData)) (es : List DictEntry), DxEn K τ H kvs es → DxEn K τ' H' kvs es
  | _, _, .nil => .nil
  | _, _, .cons k a r b c => .cons k (Dx.stp S _ _ a) r (Dx.stp S _ _ b) (DxEn.stp S _ _ c)
end
theorem Dx.less (S : ∀ b, τ b = none → τ' b = none) {d : PyData} {v : V} (h : Dx K τ H v d) : Dx K τ' H v d := Dx.stp (fun b _ a c => ⟨S b a, c⟩) d v h
mutual
theorem Dx.dp : ∀ (d : PyData) (v : V), d.canLay0 = true → Dx K τ H v d → Dp K H v d
  | .none, _, _, h => by cases h; exact .non
  | .bool b, _, _, h => by cases h; exact .bl b
  | .int i, _, _, h => by cases h; exact .int i
  | .str x, _, _, h => by cases h; exact .str x
  | .list ds, _, c, h => by
    cases h with
    | lst n r a => exact .lst (.inl r) (DxAll.dp ds _ (by simpa [PyData.canLay0] using c) a)
    | lstK k c' d e z r a => exact .lst (.inr ⟨_, _, _, k, c', d, e, z, r⟩) (DxAll.dp ds _ (by simpa [PyData.canLay0] using c) a)
  | .tuple ds, _, c, h => by
    have c' : PyData.canLayAll0 ds = true := by simpa [PyData.canLay0] using c
    cases h with
    | tup n r a => exact .tup (.inl r) (DxAll.dp ds _ c' a)
    | tupK k c d z r a => exact .tup (.inr ⟨_, _, _, k, c, d, z, r⟩) (DxAll.dp ds _ c' a)
  | .dict _, _, c, h => by simp [PyData.canLay0] at c
theorem DxAll.dp : ∀ (ds : List PyData) (vs : List V), PyData.canLayAll0 ds = true → DxAll K τ H vs ds → DpAll K H vs ds
  | [], _, _, h => by cases h; exact .nil
  | d :: ds, _, c, h => by
    have c' : d.canLay0 = true ∧ PyData.canLayAll0 ds = true := by simpa [PyData.canLayAll0] using c
    cases h with
    | cons a b => exact .cons (Dx.dp d _ c'.1 a) (DxAll.dp ds _ c'.2 b)
end
theorem DxAll.length : ∀ {ds : List PyData} {vs : List V}, DxAll K τ H vs ds → vs.length = ds.length
  | [], _, h => by cases h; rfl
  | d :: ds, _, h => by
    cases h with
    | cons a b => simp [DxAll.length b]
theorem DxAll.get : ∀ {ds : List PyData} {vs : List V} {i : Nat} {d : PyData}, DxAll K τ H vs ds → ds[i]? = some d → ∃ v, vs[i]? = some v ∧ Dx K τ H v d
  | [], _, _, _, h, e => by simp at e
  | d :: ds, _, 0, _, h, e => by
    cases h with
    | cons a b => simp at e; subst e; exact ⟨_, rfl, a⟩
  | d :: ds, _, i + 1, _, h, e => by
    cases h with
    | cons a b =>
      obtain ⟨v, h1, h2⟩ := DxAll.get (i := i) b (by simpa using e)
      exact ⟨v, by simpa using h1, h2⟩
theorem DxAll.got : ∀ {ds : List PyData} {vs : List V} {i : Nat} {v : V}, DxAll K τ H vs ds → vs[i]? = some v → ∃ d, ds[i]? = some d ∧ Dx K τ H v d
  | [], _, _, _, h, e => by cases h; simp at e
  | d :: ds, _, 0, _, h, e => by
    cases h with
    | cons a b => simp at e; subst e; exact ⟨_, rfl, a⟩
  | d :: ds, _, i + 1, _, h, e => by
    cases h with
    | cons a b =>
      obtain ⟨v, h1, h2⟩ := DxAll.got (i := i) b (by simpa using e)
      exact ⟨v, by simpa using h1, h2⟩
theorem DxAll.snoc : ∀ {ds : List PyData} {vs : List V} {v : V} {d : PyData}, DxAll K τ H vs ds → Dx K τ H v d → DxAll K τ H (vs ++ [v]) (ds ++ [d])
  | [], _, _, _, h, x => by cases h; exact .cons x .nil
  | d :: ds, _, _, _, h, x => by
    cases h with
    | cons a b => exact .cons a (DxAll.snoc b x)
theorem DxAll.set : ∀ {ds : List PyData} {vs : List V} {v : V} {d : PyData} (i : Nat), DxAll K τ H vs ds → Dx K τ H v d → DxAll K τ H (vs.set i v) (ds.set i d)
  | [], _, _, _, _, h, x => by cases h; exact .nil
  | d :: ds, _, _, _, 0, h, x => by
    cases h with
    | cons a b => exact .cons x b
  | d :: ds, _, _, _, i + 1, h, x => by
    cases h with
    | cons a b => exact .cons a (DxAll.set i b x)
theorem DxAll.ints {ns : List Int} : DxAll K τ H (ns.map V.int) (ns.map PyData.int) := by
  induction ns with
  | nil => exact .nil
  | cons n ns ih => exact .cons (.int n) ih
theorem Dx.tupInv {v : V} {ds : List PyData} (h : Dx K τ H v (.tuple ds)) : ∃ a xs, v = .ref a ∧ SqT K H a xs ∧ DxAll K τ H xs ds := by
  cases h with
  | tup n r a => exact ⟨_, _, rfl, .inl r, a⟩
  | tupK k c d z r a => exact ⟨_, _, rfl, .inr ⟨_, _, _, k, c, d, z, r⟩, a⟩
theorem Dx.lstInv {v : V} {ds : List PyData} (h : Dx K τ H v (.list ds)) : ∃ a xs, v = .ref a ∧ SqL K H a xs ∧ DxAll K τ H xs ds := by
  cases h with
  | lst n r a => exact ⟨_, _, rfl, .inl r, a⟩
  | lstK k c d e z r a => exact ⟨_, _, rfl, .inr ⟨_, _, _, k, c, d, e, z, r⟩, a⟩
theorem Dx.exInv {v : V} {a C : Addr} (h : Dx K τ H v (exD a C)) : v = .ref a ∧ H a = some (.ext (ExcO a C)) := by
  generalize e : exD a C = d at h
  cases h <;> simp at e
  obtain ⟨e1, e2⟩ := e
  have e1 := Int.ofNat.inj e1
  have e2 := Int.ofNat.inj e2
  subst e1 e2
  exact ⟨rfl, by assumption⟩
theorem Dx.rfInv {v : V} {a : Addr} (h : Dx K τ H v (rf a)) : v = .ref a := by
  generalize e : rf a = d at h
  cases h <;> simp at e
  rw [Int.ofNat.inj e]
end
def nests : List (String × String) := [("in_order", "<lambda>"), ("rising", "<lambda>"), ("rows_in_order", "<lambda>"), ("is_led_into", "<genexpr>"), ("cheapest_order", "<lambda>")]
def nestN (q : Str) : Option Str := (nests.find? fun x => q == Str.ofString x.1).map fun x => Str.ofString x.1 ++ ".<locals>." ++ Str.ofString x.2
def tabE (P : Addr) (o : Obj) : Option Str := match o.data with
  | .fields vs => (match (vs[1]? : Option Value), (vs[11]? : Option Value) with | some (.str n _), some (.ref P') => if P' == P then nestN n else none | _, _ => none)
  | _ => none
def tabQ (K : PySem.W.Frag) (P : Addr) : Option Str := K.findSome? fun x => tabE P x.2
def TabIn (K : PySem.W.Frag) (P : Addr) (q : Str) : Prop := tabQ K P = some q
structure TW (K : PySem.W.Frag) (τ : Ms) (H : Hp) : Prop where
  lst : ∀ (a : Addr) (ds : List PyData), τ a = some (Ow.lst ds) → ∃ xs, H a = some (.lst xs) ∧ DxAll K τ H xs ds
  anc : ∀ p, τ.anc = some p → ∀ b o, p.1 b = none → p.2 b = some o → τ b = none ∧ H b = some o
  dic : ∀ (a : Addr) (kvs : List (PyData × PyData)), τ a = some (Ow.dic kvs) → (kvs.map (·.1)).Nodup ∧ ∃ o es, H a = some (.ext (RawD a o)) ∧ DicO a o es ∧ DxEn K τ H kvs es
  tab : ∀ P q, TabIn K P q → τ P = some Ow.tab ∧ ∃ ps, H P = some (.tbl ps) ∧ TriplesOk ps.toList ∧ ∀ pos cv, codeAmong pos ps.toList = some cv → ∃ c, cv = .ref c ∧ τ c = none ∧ H c = some (.ext (CodeO c q))
  tabs : ∀ P, τ P = some Ow.tab → ∃ q, TabIn K P q
theorem TW.free {K : PySem.W.Frag} {τ : Ms} {H : Hp} (w : TW K τ H) {p : Addr} (h : H p = none) : τ p = none := by
  cases e : τ p with
  | none => rfl
  | some o =>
    cases o with
    | lst ds => obtain ⟨xs, q, _⟩ := w.lst p ds e; rw [h] at q; cases q
    | dic kvs => obtain ⟨_, ob, xs, q, _⟩ := w.dic p kvs e; rw [h] at q; cases q
    | tab => obtain ⟨q, t⟩ := w.tabs p e; obtain ⟨_, ps, z, _⟩ := w.tab p q t; rw [h] at z; cases z
theorem Stp.new {τ : Ms} {H : Hp} {p : Addr} {o : HO} (h : H p = none) : Stp τ H τ (upd H p o) := fun b u n e => ⟨n, by rw [upd_ne (ne_of_none e h)]; exact e⟩
theorem anc_stp {K : PySem.W.Frag} {τ τ' : Ms} {H H' : Hp} (w : TW K τ H) (S : Stp τ H τ' H') (e : τ'.anc = τ.anc) : ∀ p, τ'.anc = some p → ∀ b o, p.1 b = none → p.2 b = some o → τ' b = none ∧ H' b = some o := fun p hp b o h1 h2 => by
  obtain ⟨a, c⟩ := w.anc p (by rw [← e]; exact hp) b o h1 h2
  exact S b o a c
theorem TW.keep {K : PySem.W.Frag} {τ τ' : Ms} {H H' : Hp} (w : TW K τ H) (S : Stp τ H τ' H') (e : τ'.anc = τ.anc) (p : Addr) (hp : τ p ≠ some Ow.tab) (ho : ∀ b o, b ≠ p → τ b = some o → τ' b = some o ∧ H' b = H b) (hb : ∀ b o, b ≠ p → τ' b = some o → τ b = some o)
    (pl : ∀ ds : List PyData, τ' p = some (Ow.lst ds) → ∃ xs, H' p = some (.lst xs) ∧ DxAll K τ' H' xs ds) (pd : ∀ kvs, τ' p = some (Ow.dic kvs) → (kvs.map (·.1)).Nodup ∧ ∃ o es, H' p = some (.ext (RawD p o)) ∧ DicO p o es ∧ DxEn K τ' H' kvs es) (pt : τ' p ≠ some Ow.tab) : TW K τ' H' where
  lst := fun a ds q => by
    by_cases z : a = p
    · subst z; exact pl ds q
    · obtain ⟨xs, y1, y2⟩ := w.lst a ds (hb a _ z q)
      exact ⟨xs, by rw [(ho a _ z (hb a _ z q)).2]; exact y1, DxAll.stp S _ _ y2⟩
  anc := anc_stp w S e
  dic := fun a kvs q => by
    by_cases z : a = p
    · subst z; exact pd kvs q
    · obtain ⟨nd, ob, xs, y1, y0, y2⟩ := w.dic a kvs (hb a _ z q)
      exact ⟨nd, ob, xs, by rw [(ho a _ z (hb a _ z q)).2]; exact y1, y0, DxEn.stp S _ _ y2⟩
  tab := fun P q t => by
    obtain ⟨y1, ps, y2, y3, y4⟩ := w.tab P q t
    have z : P ≠ p := fun z => by subst z; exact hp y1
    refine ⟨(ho P _ z y1).1, ps, by rw [(ho P _ z y1).2]; exact y2, y3, fun pos cv e1 => ?_⟩
    obtain ⟨c, c1, c2, c3⟩ := y4 pos cv e1
    exact ⟨c, c1, (S c _ c2 c3).1, (S c _ c2 c3).2⟩
  tabs := fun P q => by
    by_cases z : P = p
    · subst z; exact absurd q pt
    · exact w.tabs P (hb P _ z q)
theorem TW.new {K : PySem.W.Frag} {τ : Ms} {H : Hp} (w : TW K τ H) {p : Addr} {o : HO} (h : H p = none) : TW K τ (upd H p o) := by
  have f := w.free h
  refine w.keep (.new h) rfl p (by rw [f]; simp) (fun b o z e => ⟨e, by rw [upd_ne z]⟩) (fun b o z e => e) (fun ds e => ?_) (fun ds e => ?_) (by rw [f]; simp) <;> (rw [f] at e; cases e)
def mseO (τ : Ms) (a : Addr) (ds : Ow) : Ms := ⟨fun b => if b = a then some ds else τ b, τ.anc⟩
def mdel (τ : Ms) (a : Addr) : Ms := ⟨fun b => if b = a then none else τ b, τ.anc⟩
theorem mseO_same {τ : Ms} {a : Addr} {ds : Ow} : mseO τ a ds a = some ds := by simp [mseO]
theorem mseO_ne {τ : Ms} {a b : Addr} {ds : Ow} (h : b ≠ a) : mseO τ a ds b = τ b := by simp [mseO, h]
theorem mdel_same {τ : Ms} {a : Addr} : mdel τ a a = none := by simp [mdel]
theorem mdel_ne {τ : Ms} {a b : Addr} (h : b ≠ a) : mdel τ a b = τ b := by simp [mdel, h]
theorem Ms.eq {τ τ' : Ms} (h : ∀ b, τ b = τ' b) (e : τ.anc = τ'.anc) : τ = τ' := by
  cases τ; cases τ'
  simp only [Ms.mk.injEq]
  exact ⟨funext h, e⟩
theorem mdel_mseO {τ : Ms} {a : Addr} {ds : Ow} (h : τ a = none) : mdel (mseO τ a ds) a = τ := Ms.eq (fun b => by
  by_cases e : b = a
  · rw [e, mdel_same]; exact h.symm
  · rw [mdel_ne e, mseO_ne e]) rfl
theorem mseO_mseO {τ : Ms} {a : Addr} {ds es : Ow} : mseO (mseO τ a ds) a es = mseO τ a es := Ms.eq (fun b => by
  by_cases e : b = a
  · rw [e, mseO_same, mseO_same]
  · rw [mseO_ne e, mseO_ne e, mseO_ne e]) rfl
abbrev mset (τ : Ms) (a : Addr) (ds : List PyData) : Ms := mseO τ a (.lst ds)
theorem mset_same {τ : Ms} {a : Addr} {ds : List PyData} : mset τ a ds a = some (Ow.lst ds) := mseO_same
theorem mset_ne {τ : Ms} {a b : Addr} {ds : List PyData} (h : b ≠ a) : mset τ a ds b = τ b := mseO_ne h
theorem mdel_mset {τ : Ms} {a : Addr} {ds : List PyData} (h : τ a = none) : mdel (mset τ a ds) a = τ := mdel_mseO h
theorem mset_mset {τ : Ms} {a : Addr} {ds es : List PyData} : mset (mset τ a ds) a es = mset τ a es := mseO_mseO
theorem Stp.own {τ : Ms} {H : Hp} {p : Addr} {o : HO} {ds : Ow} (h : H p = none) : Stp τ H (mseO τ p ds) (upd H p o) := fun b u n e => by
  have q := ne_of_none e h
  exact ⟨by rw [mseO_ne q]; exact n, by rw [upd_ne q]; exact e⟩
theorem Stp.put {τ : Ms} {H : Hp} {p : Addr} {o : HO} {ds es : Ow} (h : τ p = some ds) : Stp τ H (mseO τ p es) (upd H p o) := fun b u n e => by
  have q : b ≠ p := by intro z; subst z; rw [h] at n; cases n
  exact ⟨by rw [mseO_ne q]; exact n, by rw [upd_ne q]; exact e⟩
theorem TW.setL {K : PySem.W.Frag} {τ : Ms} {H : Hp} (w : TW K τ H) {p : Addr} {xs : List V} {ds : List PyData} (S : Stp τ H (mset τ p ds) (upd H p (.lst xs))) (hp : τ p ≠ some Ow.tab) (x : DxAll K τ H xs ds) : TW K (mset τ p ds) (upd H p (.lst xs)) := by
  refine w.keep S rfl p hp (fun b o z e => ⟨by rw [mseO_ne z]; exact e, by rw [upd_ne z]⟩) (fun b o z e => by rw [mseO_ne z] at e; exact e) (fun es e => ?_) (fun es e => ?_) (by rw [mseO_same]; simp)
  · rw [mseO_same] at e; cases e
    exact ⟨xs, upd_same, DxAll.stp S _ _ x⟩
  · rw [mseO_same] at e; cases e
theorem TW.own {K : PySem.W.Frag} {τ : Ms} {H : Hp} (w : TW K τ H) {p : Addr} {xs : List V} {ds : List PyData} (h : H p = none) (x : DxAll K τ H xs ds) : TW K (mset τ p ds) (upd H p (.lst xs)) := w.setL (.own h) (by rw [w.free h]; simp) x
theorem TW.put {K : PySem.W.Frag} {τ : Ms} {H : Hp} (w : TW K τ H) {p : Addr} {xs : List V} {ds es : List PyData} (h : τ p = some (Ow.lst ds)) (x : DxAll K τ H xs es) : TW K (mset τ p es) (upd H p (.lst xs)) := w.setL (.put h) (by rw [h]; simp) x
theorem Stp.give {τ : Ms} {H : Hp} {p : Addr} : Stp τ H (mdel τ p) H := fun b u n e => by
  by_cases q : b = p
  · subst q; exact ⟨mdel_same, e⟩
  · exact ⟨by rw [mdel_ne q]; exact n, e⟩
theorem TW.give {K : PySem.W.Frag} {τ : Ms} {H : Hp} (w : TW K τ H) {p : Addr} (hp : τ p ≠ some Ow.tab) : TW K (mdel τ p) H := by
  refine w.keep .give rfl p hp (fun b o z e => ⟨by rw [mdel_ne z]; exact e, rfl⟩) (fun b o z e => by rw [mdel_ne z] at e; exact e) (fun es e => ?_) (fun es e => ?_) (by rw [mdel_same]; simp) <;> (rw [mdel_same] at e; cases e)
theorem noTab {τ : Ms} {p : Addr} {ds : List PyData} (h : τ p = some (Ow.lst ds)) : τ p ≠ some Ow.tab := by rw [h]; simp
theorem noTabD {τ : Ms} {p : Addr} {ds : List (PyData × PyData)} (h : τ p = some (Ow.dic ds)) : τ p ≠ some Ow.tab := by rw [h]; simp
abbrev Dl := List (Option PyData)
def SR (K : PySem.W.Frag) (τ : Ms) (H : Hp) (σ : St) (δ : Dl) : Prop := ∀ (i : Nat) (d : PyData), δ[i]? = some (some d) → ∃ v, σ[i]? = some (some v) ∧ Dx K τ H v d
theorem SR.stp {K : PySem.W.Frag} {τ τ' : Ms} {H H' : Hp} {σ : St} {δ : Dl} (h : SR K τ H σ δ) (S : Stp τ H τ' H') : SR K τ' H' σ δ := fun i d e =>
  let ⟨v, a, b⟩ := h i d e
  ⟨v, a, Dx.stp S _ _ b⟩
theorem SR.set {K : PySem.W.Frag} {τ : Ms} {H : Hp} {σ : St} {δ : Dl} (h : SR K τ H σ δ) (i : Nat) {v : V} {d : PyData} (x : Dx K τ H v d) (hl : i < σ.length) : SR K τ H (σ.set i (some v)) (δ.set i (some d)) := fun j e q => by
  by_cases z : j = i
  · subst z
    have q' : (δ.set j (some d))[j]? = some (some e) := q
    rw [List.getElem?_set] at q'
    simp at q'
    obtain ⟨_, rfl⟩ := q'
    exact ⟨v, by rw [List.getElem?_set]; simp [hl], x⟩
  · rw [List.getElem?_set_ne (Ne.symm z)] at q
    obtain ⟨u, a, b⟩ := h j e q
    exact ⟨u, by rw [List.getElem?_set_ne (Ne.symm z)]; exact a, b⟩
abbrev DK := PyData → Ms → Prop
abbrev DE := Dl → Ms → DK → Prop
abbrev DT := Dl → Ms → (Bool → Ms → Prop) → Prop
abbrev DA := Dl → Ms → (List PyData → Ms → Prop) → Prop
structure DEnds where
  nx : Dl → Ms → Prop
  rt : DK
  bk : Dl → Ms → Prop
  ct : Dl → Ms → Prop
abbrev DS := DEnds → Dl → Ms → Prop
def kE (K : PySem.W.Frag) (τ : Ms) (H : Hp) (R : DK) (Q : VK) : Prop := ∀ v d τ' H', Stp τ H τ' H' → TW K τ' H' → Dx K τ' H' v d → R d τ' → Q v H'
def kT (K : PySem.W.Frag) (τ : Ms) (H : Hp) (R : Bool → Ms → Prop) (Q : Bool → Hp → Prop) : Prop := ∀ b τ' H', Stp τ H τ' H' → TW K τ' H' → R b τ' → Q b H'
def kA (K : PySem.W.Frag) (τ : Ms) (H : Hp) (R : List PyData → Ms → Prop) (Q : List V → Hp → Prop) : Prop := ∀ vs ds τ' H', Stp τ H τ' H' → TW K τ' H' → DxAll K τ' H' vs ds → R ds τ' → Q vs H'
def kN (K : PySem.W.Frag) (n : Nat) (τ : Ms) (H : Hp) (R : Dl → Ms → Prop) (Q : St → Hp → Prop) : Prop := ∀ σ δ τ' H', σ.length = n → Stp τ H τ' H' → TW K τ' H' → SR K τ' H' σ δ → R δ τ' → Q σ H'
theorem kE.stp {K : PySem.W.Frag} {τ τ' : Ms} {H H' : Hp} {R : DK} {Q : VK} (k : kE K τ H R Q) (S : Stp τ H τ' H') : kE K τ' H' R Q := fun v d τ2 H2 s w x r => k v d τ2 H2 (S.trans s) w x r
theorem kT.stp {K : PySem.W.Frag} {τ τ' : Ms} {H H' : Hp} {R} {Q} (k : kT K τ H R Q) (S : Stp τ H τ' H') : kT K τ' H' R Q := fun v τ2 H2 s w r => k v τ2 H2 (S.trans s) w r
theorem kA.stp {K : PySem.W.Frag} {τ τ' : Ms} {H H' : Hp} {R} {Q} (k : kA K τ H R Q) (S : Stp τ H τ' H') : kA K τ' H' R Q := fun v d τ2 H2 s w x r => k v d τ2 H2 (S.trans s) w x r
theorem kN.stp {K : PySem.W.Frag} {n : Nat} {τ τ' : Ms} {H H' : Hp} {R} {Q} (k : kN K n τ H R Q) (S : Stp τ H τ' H') : kN K n τ' H' R Q := fun v d τ2 H2 l s w x r => k v d τ2 H2 l (S.trans s) w x r
def lE (K : PySem.W.Frag) (t : DE) : TE := fun σ H Q => ∃ δ τ R, SR K τ H σ δ ∧ TW K τ H ∧ t δ τ R ∧ kE K τ H R Q
def lT (K : PySem.W.Frag) (t : DT) : TT := fun σ H Q => ∃ δ τ R, SR K τ H σ δ ∧ TW K τ H ∧ t δ τ R ∧ kT K τ H R Q
def lA (K : PySem.W.Frag) (t : DA) : TA := fun σ H Q => ∃ δ τ R, SR K τ H σ δ ∧ TW K τ H ∧ t δ τ R ∧ kA K τ H R Q
def kS (K : PySem.W.Frag) (n : Nat) (τ : Ms) (H : Hp) (E : DEnds) (D : Ends) : Prop := kN K n τ H E.nx D.nx ∧ kE K τ H E.rt D.rt ∧ kN K n τ H E.bk D.bk ∧ kN K n τ H E.ct D.ct
theorem kS.stp {K : PySem.W.Frag} {n : Nat} {τ τ' : Ms} {H H' : Hp} {E : DEnds} {D : Ends} (k : kS K n τ H E D) (S : Stp τ H τ' H') : kS K n τ' H' E D := ⟨k.1.stp S, k.2.1.stp S, k.2.2.1.stp S, k.2.2.2.stp S⟩
def lS (K : PySem.W.Frag) (n : Nat) (t : DS) : TS := fun D σ H => ∃ δ τ E, σ.length = n ∧ SR K τ H σ δ ∧ TW K τ H ∧ t E δ τ ∧ kS K n τ H E D
structure QE (X : Cx) (e : Expr) (t : DE) : Prop where
  pe : PE X e (lE X.K t)
structure QT (X : Cx) (e : Expr) (t : DT) : Prop where
  pt : PT X e (lT X.K t)
structure QW (X : Cx) (e : Expr) (t : DT) : Prop where
  pw : PW X e (lT X.K t)
structure QA (X : Cx) (es : List Expr) (t : DA) : Prop where
  pa : PA X es (lA X.K t)
structure QS (X : Cx) (st : Stmt) (t : DS) : Prop where
  ps : PS X st (lS X.K X.N.length t)
structure QSs (X : Cx) (sts : List Stmt) (t : DS) : Prop where
  ps : PSs X sts (lS X.K X.N.length t)
structure Bx (X : Cx) (N : List Str) (sc : Scope) (k : Nat) : Prop where
  n : X.N = N
  scp : X.env.scope = sc
  nd : N.Nodup
  calm : X.calm = true
  room : Room k X.A
  po : PassesOwn (model X.prog X.w) X.A X.env X.xe
structure Bs (X : Cx) (N : List Str) (sc : Scope) (k : Nat) : Prop extends Bx X N sc k where
  fn : ∀ x, sc.names.lookup x = some .cell → X.fn x = true
theorem Bx.gl {X : Cx} {N : List Str} {sc : Scope} {k : Nat} (B : Bx X N sc k) {x : Str} (h : sc.names.lookup x = some .globalImplicit) : Gl X x := by
  show X.env.scope.names.lookup x = _
  rw [B.scp]; exact h
section
variable {X : Cx} {N : List Str} {sc : Scope} {k : Nat} {e a b c : Expr} {es : List Expr} {ta tb : DE} {tc : DT} {pos : Pos}
theorem QE.of {t : DE} {t' : TE} (h : PE X e t') (i : ∀ σ H Q, lE X.K t σ H Q → t' σ H Q) : QE X e t := ⟨fun pins s σ H Q I q => h pins s σ H Q I (i σ H Q q)⟩
theorem QT.of {t : DT} {t' : TT} (h : PT X e t') (i : ∀ σ H Q, lT X.K t σ H Q → t' σ H Q) : QT X e t := ⟨fun pins s σ H Q I q => h pins s σ H Q I (i σ H Q q)⟩
theorem QW.of {t : DT} {t' : TT} (h : PW X e t') (i : ∀ σ H Q, lT X.K t σ H Q → t' σ H Q) : QW X e t := ⟨fun wh pins s σ H Q I q => h wh pins s σ H Q I (i σ H Q q)⟩
theorem QA.of {t : DA} {t' : TA} (h : PA X es t') (i : ∀ σ H Q, lA X.K t σ H Q → t' σ H Q) : QA X es t := ⟨fun pos pins s σ H Q I q => h pos pins s σ H Q I (i σ H Q q)⟩
theorem QS.of {st : Stmt} {t : DS} {t' : TS} (h : PS X st t') (i : ∀ D σ H, lS X.K X.N.length t D σ H → t' D σ H) : QS X st t := ⟨fun pins s σ H D I q => h pins s σ H D I (i D σ H q)⟩
theorem QSs.of {st : List Stmt} {t : DS} {t' : TS} (h : PSs X st t') (i : ∀ D σ H, lS X.K X.N.length t D σ H → t' D σ H) : QSs X st t := ⟨fun pins s σ H D I q => h pins s σ H D I (i D σ H q)⟩
def dVar (i : Nat) : DE := fun δ τ R => match δ[i]? with | some (some d) => R d τ | _ => False
def dC (d : PyData) : DE := fun _ τ R => R d τ
theorem qe_var (B : Bx X N sc k) (i : Nat) {x : Str} (h1 : N[i]? = some x := by rfl) (h2 : Vis sc x := by first | exact Or.inl rfl | exact Or.inr (Or.inl rfl) | exact Or.inr (Or.inr rfl)) (hd : (x == ("__debug__" : Str)) = false := by decide) (hcd : (x == ("__classdict__" : Str)) = false := by decide) :
    QE X (.Name x pos) (dVar i) := by
  refine .of (pe_var (i := i) (by rw [B.n]; exact h1) (by rw [B.scp]; exact h2) hd hcd) ?_
  rintro σ H Q ⟨δ, τ, R, sr, tw, h, kk⟩
  unfold dVar at h
  split at h
  · rename_i d e
    obtain ⟨v, e1, e2⟩ := sr i d e
    exact ⟨v, e1, kk v d τ H .refl tw e2 h⟩
  · exact h.elim
theorem qe_c {v : V} {d : PyData} (h : PE X e (tC v)) (x : ∀ τ H, Dx X.K τ H v d) : QE X e (dC d) := by
  refine .of h ?_
  rintro σ H Q ⟨δ, τ, R, sr, tw, h, kk⟩
  exact kk v d τ H .refl tw (x τ H) h
theorem qe_int {i : Int} {j} : QE X (.Constant (.int i) j pos) (dC (.int i)) := qe_c pe_int fun _ _ => .int i
theorem qe_bl {i : Bool} {j} : QE X (.Constant (.bool i) j pos) (dC (.bool i)) := qe_c pe_bl fun _ _ => .bl i
theorem qe_non {j} : QE X (.Constant .none j pos) (dC .none) := qe_c pe_non fun _ _ => .non
theorem qe_str {i : Str} {j} : QE X (.Constant (.str i) j pos) (dC (.str i)) := qe_c pe_str fun _ _ => .str i
abbrev D2 := PyData → PyData → Ms → DK → Prop
def Li2 (K : PySem.W.Frag) (r : R2) (dr : D2) : Prop := ∀ τ H x y d e R Q, TW K τ H → Dx K τ H x d → Dx K τ H y e → dr d e τ R → kE K τ H R Q → r x y H Q
def dOp (dr : D2) (ta tb : DE) : DE := fun δ τ R => ta δ τ fun d τ1 => tb δ τ1 fun e τ2 => dr d e τ2 R
theorem op_lift {r : R2} {dr : D2} (l : Li2 X.K r dr) {σ : St} {H : Hp} {Q : VK} (h : lE X.K (dOp dr ta tb) σ H Q) : tOp r (lE X.K ta) (lE X.K tb) σ H Q := by
  obtain ⟨δ, τ, R, sr, tw, h, kk⟩ := h
  refine ⟨δ, τ, _, sr, tw, h, fun v d τ1 H1 s1 w1 x1 q1 => ⟨δ, τ1, _, sr.stp s1, w1, q1, fun u e τ2 H2 s2 w2 x2 q2 => ?_⟩⟩
  exact l τ2 H2 v u d e R Q w2 (Dx.stp s2 _ _ x1) x2 q2 (kk.stp (s1.trans s2))
theorem qe_op {op : Operator} {r : R2} {dr : D2} (ho : OpR X (binaryOp op) r) (l : Li2 X.K r dr) (ha : QE X a ta) (hb : QE X b tb) : QE X (.BinOp a op b pos) (dOp dr ta tb) :=
  .of (pe_op ho ha.pe hb.pe) fun _ _ _ h => op_lift l h
def dI (C : Int → Int → Prop) (g : Int → Int → PyData) : D2 := fun d e τ R => match d, e with
  | .int i, .int j => C i j ∧ R (g i j) τ
  | _, _ => False
def dI0 (g : Int → Int → PyData) : D2 := fun d e τ R => match d, e with
  | .int i, .int j => R (g i j) τ
  | _, _ => False
theorem dI_inv {C : Int → Int → Prop} {g : Int → Int → PyData} {d e : PyData} {τ : Ms} {R : DK} (h : dI C g d e τ R) : ∃ i j, d = .int i ∧ e = .int j ∧ C i j ∧ R (g i j) τ := by
  unfold dI at h
  split at h
  · exact ⟨_, _, rfl, rfl, h⟩
  · exact h.elim
theorem dI0_inv {g : Int → Int → PyData} {d e : PyData} {τ : Ms} {R : DK} (h : dI0 g d e τ R) : ∃ i j, d = .int i ∧ e = .int j ∧ R (g i j) τ := by
  unfold dI0 at h
  split at h
  · exact ⟨_, _, rfl, rfl, h⟩
  · exact h.elim
theorem Dx.intInv {K : PySem.W.Frag} {τ : Ms} {H : Hp} {v : V} {i : Int} (h : Dx K τ H v (.int i)) : v = .int i := by cases h; rfl
theorem Dx.blInv {K : PySem.W.Frag} {τ : Ms} {H : Hp} {v : V} {i : Bool} (h : Dx K τ H v (.bool i)) : v = .bl i := by cases h; rfl
theorem li_I {K : PySem.W.Frag} {C : Int → Int → Prop} {g : Int → Int → Int} : Li2 K (rI C fun i j => .int (g i j)) (dI C fun i j => .int (g i j)) := by
  intro τ H x y d e R Q tw x1 x2 h kk
  obtain ⟨i, j, rfl, rfl, c, h⟩ := dI_inv h
  cases x1.intInv; cases x2.intInv
  exact ⟨i, j, rfl, rfl, c, kk _ _ τ H .refl tw (.int _) h⟩
theorem li_I0 {K : PySem.W.Frag} {g : Int → Int → Int} : Li2 K (rI0 fun i j => .int (g i j)) (dI0 fun i j => .int (g i j)) := by
  intro τ H x y d e R Q tw x1 x2 h kk
  obtain ⟨i, j, rfl, rfl, h⟩ := dI0_inv h
  cases x1.intInv; cases x2.intInv
  exact ⟨i, j, rfl, rfl, kk _ _ τ H .refl tw (.int _) h⟩
theorem li_B0 {K : PySem.W.Frag} {g : Int → Int → Bool} : Li2 K (rI0 fun i j => .bl (g i j)) (dI0 fun i j => .bool (g i j)) := by
  intro τ H x y d e R Q tw x1 x2 h kk
  obtain ⟨i, j, rfl, rfl, h⟩ := dI0_inv h
  cases x1.intInv; cases x2.intInv
  exact ⟨i, j, rfl, rfl, kk _ _ τ H .refl tw (.bl _) h⟩
def CM (i j : Int) : Prop := (-18446744073709551616 < i ∧ i < 18446744073709551616) ∨ (i.natAbs < 115792089237316195423570985008687907853269984665640564039457584007913129639936 ∧ j.natAbs < 115792089237316195423570985008687907853269984665640564039457584007913129639936) ∨ (-18446744073709551616 < j ∧ j < 18446744073709551616)
theorem bits_of {i : Int} (h : i.natAbs < 115792089237316195423570985008687907853269984665640564039457584007913129639936) : Builtin.Int.intBits i ≤ 2 ^ 20 := Nat.le_trans ((PySem.intBits_le_iff (m := 256)).mpr (Nat.lt_of_lt_of_eq h (by decide))) (by decide)
theorem op_mulL : OpR X (binaryOp .Mult) (rI CM fun i j => .int (i * j)) := opI fun _ _ _ _ _ _ _ hc q => mul_int q (by
  rcases hc with hc | hc | hc
  · exact CMul.ok (.inl ⟨by have := hc.1; omega, by have := hc.2; omega⟩)
  · exact IntMulOk.of_bits (bits_of hc.1) (bits_of hc.2)
  · exact CMul.ok (.inr ⟨by have := hc.1; omega, by have := hc.2; omega⟩))
def CD (i j : Int) : Prop := j ≠ 0 ∧ -115792089237316195423570985008687907853269984665640564039457584007913129639936 < j ∧ j < 115792089237316195423570985008687907853269984665640564039457584007913129639936
theorem noPy {a b : Int} (h : b.natAbs < 115792089237316195423570985008687907853269984665640564039457584007913129639936) : Builtin.divisionGoesByPylong a b = false := by
  apply PyProof.noPylong_of_log2
  by_cases e : b.natAbs = 0
  · simp [e]
  · have : b.natAbs.log2 < 256 := (Nat.log2_lt e).mpr (Nat.lt_of_lt_of_eq h (by decide))
    omega
theorem op_fdivL : OpR X (binaryOp .FloorDiv) (rI CD fun i j => .int (i.fdiv j)) := opI fun i j _ _ _ _ _ hc q => floordiv_int hc.1 q (.inl (noPy (by have := hc.2; omega)))
abbrev dAdd := dOp (dI0 fun i j => .int (i + j))
abbrev dSub := dOp (dI0 fun i j => .int (i - j))
abbrev dMul := dOp (dI CM fun i j => .int (i * j))
abbrev dFdv := dOp (dI CD fun i j => .int (i.fdiv j))
abbrev dMod := dOp (dI (fun _ j => j ≠ 0) fun i j => .int (i.fmod j))
abbrev dPow := dOp (dI CPow fun i j => .int (i ^ j.toNat))
theorem qe_add (ha : QE X a ta) (hb : QE X b tb) : QE X (.BinOp a .Add b pos) (dAdd ta tb) := qe_op op_add li_I0 ha hb
theorem qe_sub (ha : QE X a ta) (hb : QE X b tb) : QE X (.BinOp a .Sub b pos) (dSub ta tb) := qe_op op_sub li_I0 ha hb
theorem qe_mul (ha : QE X a ta) (hb : QE X b tb) : QE X (.BinOp a .Mult b pos) (dMul ta tb) := qe_op op_mulL li_I ha hb
theorem qe_fdv (ha : QE X a ta) (hb : QE X b tb) : QE X (.BinOp a .FloorDiv b pos) (dFdv ta tb) := qe_op op_fdivL li_I ha hb
theorem qe_mod (ha : QE X a ta) (hb : QE X b tb) : QE X (.BinOp a .Mod b pos) (dMod ta tb) := qe_op op_modN li_I ha hb
theorem qe_pow (ha : QE X a ta) (hb : QE X b tb) : QE X (.BinOp a .Pow b pos) (dPow ta tb) := qe_op op_pow li_I ha hb
def dNeg (ta : DE) : DE := fun δ τ R => ta δ τ fun d τ1 => match d with | .int i => R (.int (-i)) τ1 | _ => False
theorem qe_neg (ha : QE X a ta) : QE X (.UnaryOp .USub a pos) (dNeg ta) := by
  refine .of (pe_un un_neg ha.pe) ?_
  rintro σ H Q ⟨δ, τ, R, sr, tw, h, kk⟩
  refine ⟨δ, τ, _, sr, tw, h, fun v d τ1 H1 s1 w1 x1 q1 => ?_⟩
  split at q1
  · cases x1.intInv
    exact ⟨_, rfl, kk _ _ τ1 H1 s1 w1 (.int _) q1⟩
  · exact q1.elim
theorem qe_cmp {op : CmpOp} {r : R2} {dr : D2} (ho : OpR X (compareOp op) r) (l : Li2 X.K r dr) (ha : QE X a ta) (hb : QE X b tb) (hm : behindInMarks op b = false) : QE X (.Compare a [op] [b] pos) (dOp dr ta tb) :=
  .of (pe_cmpR ho ha.pe hb.pe hm) fun _ _ _ h => op_lift l h
abbrev dLt := dOp (dI0 fun i j => .bool (decide (i < j)))
abbrev dGt := dOp (dI0 fun i j => .bool (decide (j < i)))
abbrev dGe := dOp (dI0 fun i j => .bool (decide (j ≤ i)))
theorem qe_lt (ha : QE X a ta) (hb : QE X b tb) : QE X (.Compare a [.Lt] [b] pos) (dLt ta tb) := qe_cmp op_lt li_B0 ha hb (nomark _)
theorem qe_gt (ha : QE X a ta) (hb : QE X b tb) : QE X (.Compare a [.Gt] [b] pos) (dGt ta tb) := qe_cmp op_gt li_B0 ha hb (nomark _)
def dEqR : D2 := fun d e τ R => SeqAt.shaped d = true ∧ SeqAt.shaped e = true ∧ R (.bool (PyData.eqv d e)) τ
def dNeR : D2 := fun d e τ R => SeqAt.shaped d = true ∧ SeqAt.shaped e = true ∧ R (.bool (!PyData.eqv d e)) τ
theorem li_eq {K : PySem.W.Frag} : Li2 K (rEqD K) dEqR := by
  intro τ H x y d e R Q tw x1 x2 h kk
  obtain ⟨sd, se, h⟩ := h
  exact ⟨d, e, Dx.dp _ _ (SeqAt.canLay_of_shaped sd) x1, Dx.dp _ _ (SeqAt.canLay_of_shaped se) x2, sd, se, kk _ _ τ H .refl tw (.bl _) h⟩
theorem li_ne {K : PySem.W.Frag} : Li2 K (rNeD K) dNeR := by
  intro τ H x y d e R Q tw x1 x2 h kk
  obtain ⟨sd, se, h⟩ := h
  exact ⟨d, e, Dx.dp _ _ (SeqAt.canLay_of_shaped sd) x1, Dx.dp _ _ (SeqAt.canLay_of_shaped se) x2, sd, se, kk _ _ τ H .refl tw (.bl _) h⟩
theorem qe_eq (B : Bx X N sc k) (ha : QE X a ta) (hb : QE X b tb) : QE X (.Compare a [.Eq] [b] pos) (dOp dEqR ta tb) := qe_cmp (op_eqD B.room.units) li_eq ha hb (nomark _)
def dTst (t : DE) : DT := fun δ τ R => t δ τ fun d τ1 => match d with | .bool b => R b τ1 | _ => False
theorem qt_val (h : QE X e ta) (he : ∀ whole, isTrue e X.env whole = (do let v ← whole; standAt e.pos; holding [v] (truthy v)) := by intro _; rfl) : QT X e (dTst ta) := by
  refine .of (pt_val h.pe he) ?_
  rintro σ H Q ⟨δ, τ, R, sr, tw, h, kk⟩
  refine ⟨δ, τ, _, sr, tw, h, fun v d τ1 H1 s1 w1 x1 q1 => ?_⟩
  split at q1
  · cases x1.blInv
    exact ⟨_, rfl, kk _ τ1 H1 s1 w1 q1⟩
  · exact q1.elim
theorem qt_cmp {op : CmpOp} {r : R2} {dr : D2} (ho : OpR X (compareOp op) r) (l : Li2 X.K r dr) (ha : QE X a ta) (hb : QE X b tb) (hm : behindInMarks op b = false) : QT X (.Compare a [op] [b] pos) (dTst (dOp dr ta tb)) := by
  refine .of (pt_cmpR ho ha.pe hb.pe hm) ?_
  rintro σ H Q ⟨δ, τ, R, sr, tw, h, kk⟩
  refine op_lift l (Q := fun x H' => ∃ k, x = .bl k ∧ Q k H') ⟨δ, τ, _, sr, tw, h, fun v d τ1 H1 s1 w1 x1 q1 => ?_⟩
  split at q1
  · cases x1.blInv
    exact ⟨_, rfl, kk _ τ1 H1 s1 w1 q1⟩
  · exact q1.elim
theorem qt_lt (ha : QE X a ta) (hb : QE X b tb) : QT X (.Compare a [.Lt] [b] pos) (dTst (dLt ta tb)) := qt_cmp op_lt li_B0 ha hb (nomark _)
theorem qt_gt (ha : QE X a ta) (hb : QE X b tb) : QT X (.Compare a [.Gt] [b] pos) (dTst (dGt ta tb)) := qt_cmp op_gt li_B0 ha hb (nomark _)
theorem qt_ge (ha : QE X a ta) (hb : QE X b tb) : QT X (.Compare a [.GtE] [b] pos) (dTst (dGe ta tb)) := qt_cmp op_ge li_B0 ha hb (nomark _)
theorem qt_eq (B : Bx X N sc k) (ha : QE X a ta) (hb : QE X b tb) : QT X (.Compare a [.Eq] [b] pos) (dTst (dOp dEqR ta tb)) := qt_cmp (op_eqD B.room.units) li_eq ha hb (nomark _)
theorem qt_ne (B : Bx X N sc k) (ha : QE X a ta) (hb : QE X b tb) : QT X (.Compare a [.NotEq] [b] pos) (dTst (dOp dNeR ta tb)) := qt_cmp (op_neD B.room.units) li_ne ha hb (nomark _)
def dOr (t u : DT) : DT := fun δ τ R => t δ τ fun c τ1 => if c = true then R true τ1 else u δ τ1 R
def dNot (t : DT) : DT := fun δ τ R => t δ τ fun c τ1 => R (!c) τ1
variable {tA tB' : DT} {rest : List Expr}
theorem qw_or1 (ha : QT X a tA) : QW X (.BoolOp .Or [a] pos) tA := .of (pw_or1 ha.pt) fun _ _ _ h => h
theorem qw_or (ha : QT X a tA) (hb : QW X (.BoolOp .Or (b :: rest) pos) tB') : QW X (.BoolOp .Or (a :: b :: rest) pos) (dOr tA tB') := by
  refine .of (pw_or ha.pt hb.pw) ?_
  rintro σ H Q ⟨δ, τ, R, sr, tw, h, kk⟩
  refine ⟨δ, τ, _, sr, tw, h, fun c τ1 H1 s1 w1 q1 => ?_⟩
  cases c with
  | false => exact iteF ⟨δ, τ1, R, sr.stp s1, w1, by simpa using q1, kk.stp s1⟩
  | true => exact iteT (kk _ τ1 H1 s1 w1 (by simpa using q1))
theorem qt_w {t : DT} (h : QW X e t) : QT X e t := ⟨h.pw.pt⟩
theorem qt_not (ha : QT X a tA) : QT X (.UnaryOp .Not a pos) (dNot tA) := by
  refine .of (pt_not ha.pt) ?_
  rintro σ H Q ⟨δ, τ, R, sr, tw, h, kk⟩
  exact ⟨δ, τ, _, sr, tw, h, fun c τ1 H1 s1 w1 q1 => kk _ τ1 H1 s1 w1 q1⟩
def dAndV (t u : DE) : DE := fun δ τ R => t δ τ fun d τ1 => match d with | .bool c => (if c = true then u δ τ1 R else R (.bool false) τ1) | _ => False
def dOrV (t u : DE) : DE := fun δ τ R => t δ τ fun d τ1 => match d with | .bool c => (if c = true then R (.bool true) τ1 else u δ τ1 R) | _ => False
def dNotV (t : DE) : DE := fun δ τ R => t δ τ fun d τ1 => match d with | .bool b => R (.bool (!b)) τ1 | _ => False
theorem qe_one {op} (ha : QE X a ta) : QE X (.BoolOp op [a] pos) ta := .of (pe_one ha.pe) fun _ _ _ h => h
theorem qe_and (ha : QE X a ta) (hb : QE X (.BoolOp .And (b :: rest) pos) tb) : QE X (.BoolOp .And (a :: b :: rest) pos) (dAndV ta tb) := by
  refine .of (pe_and ha.pe hb.pe) ?_
  rintro σ H Q ⟨δ, τ, R, sr, tw, h, kk⟩
  refine ⟨δ, τ, _, sr, tw, h, fun v d τ1 H1 s1 w1 x1 q1 => ?_⟩
  split at q1
  · rename_i c
    cases x1.blInv
    cases c with
    | true => exact ⟨_, rfl, iteT ⟨δ, τ1, R, sr.stp s1, w1, by simpa using q1, kk.stp s1⟩⟩
    | false => exact ⟨_, rfl, iteF (kk _ _ τ1 H1 s1 w1 (.bl _) (by simpa using q1))⟩
  · exact q1.elim
theorem qe_or (ha : QE X a ta) (hb : QE X (.BoolOp .Or (b :: rest) pos) tb) : QE X (.BoolOp .Or (a :: b :: rest) pos) (dOrV ta tb) := by
  refine .of (pe_or ha.pe hb.pe) ?_
  rintro σ H Q ⟨δ, τ, R, sr, tw, h, kk⟩
  refine ⟨δ, τ, _, sr, tw, h, fun v d τ1 H1 s1 w1 x1 q1 => ?_⟩
  split at q1
  · rename_i c
    cases x1.blInv
    cases c with
    | true => exact ⟨_, rfl, iteT (kk _ _ τ1 H1 s1 w1 (.bl _) (by simpa using q1))⟩
    | false => exact ⟨_, rfl, iteF ⟨δ, τ1, R, sr.stp s1, w1, by simpa using q1, kk.stp s1⟩⟩
  · exact q1.elim
theorem qe_not (ha : QE X a ta) : QE X (.UnaryOp .Not a pos) (dNotV ta) := by
  refine .of (pe_not ha.pe) ?_
  rintro σ H Q ⟨δ, τ, R, sr, tw, h, kk⟩
  refine ⟨δ, τ, _, sr, tw, h, fun v d τ1 H1 s1 w1 x1 q1 => ?_⟩
  split at q1
  · cases x1.blInv
    exact ⟨_, rfl, kk _ _ τ1 H1 s1 w1 (.bl _) q1⟩
  · exact q1.elim
def dIf (t : DT) (u v : DE) : DE := fun δ τ R => t δ τ fun c τ1 => if c = true then u δ τ1 R else v δ τ1 R
theorem qe_if (hc : QT X c tc) (ha : QE X a ta) (hb : QE X b tb) : QE X (.IfExp c a b pos) (dIf tc ta tb) := by
  refine .of (pe_ifExp hc.pt ha.pe hb.pe) ?_
  rintro σ H Q ⟨δ, τ, R, sr, tw, h, kk⟩
  refine ⟨δ, τ, _, sr, tw, h, fun c τ1 H1 s1 w1 q1 => ?_⟩
  cases c with
  | true => exact iteT ⟨δ, τ1, R, sr.stp s1, w1, by simpa using q1, kk.stp s1⟩
  | false => exact iteF ⟨δ, τ1, R, sr.stp s1, w1, by simpa using q1, kk.stp s1⟩
def dNil : DA := fun _ τ R => R [] τ
def dCons (ta : DE) (tr : DA) : DA := fun δ τ R => ta δ τ fun d τ1 => tr δ τ1 fun ds τ2 => R (d :: ds) τ2
variable {tr : DA}
theorem qa_nil : QA X [] dNil := .of pa_nil fun σ H Q ⟨δ, τ, R, sr, tw, h, kk⟩ => kk _ _ τ H .refl tw .nil h
theorem qa_cons (ha : QE X e ta) (hr : QA X es tr) (hs : starEach (e :: es) X.env = (false, eval e X.env) :: starEach es X.env := by rfl) : QA X (e :: es) (dCons ta tr) := by
  refine .of (pa_cons ha.pe hr.pa hs) ?_
  rintro σ H Q ⟨δ, τ, R, sr, tw, h, kk⟩
  refine ⟨δ, τ, _, sr, tw, h, fun v d τ1 H1 s1 w1 x1 q1 => ⟨δ, τ1, _, sr.stp s1, w1, q1, fun vs ds τ2 H2 s2 w2 x2 q2 => ?_⟩⟩
  exact kk _ _ τ2 H2 (s1.trans s2) w2 (.cons (Dx.stp s2 _ _ x1) x2) q2
def dTup (t : DA) : DE := fun δ τ R => t δ τ fun ds τ1 => ds.length ≤ 1000 ∧ R (.tuple ds) τ1
def dLst (t : DA) : DE := fun δ τ R => t δ τ fun ds τ1 => ds.length ≤ 1000 ∧ R (.list ds) τ1
def dOwn (t : DA) : DE := fun δ τ R => t δ τ fun ds τ1 => ds.length ≤ 1000 ∧ ∀ p, τ1 p = none → R (rf p) (mset τ1 p ds)
theorem qe_tup {x1} (h : QA X es tr) : QE X (.Tuple es x1 pos) (dTup tr) := by
  refine .of (pe_tup h.pa) ?_
  rintro σ H Q ⟨δ, τ, R, sr, tw, h, kk⟩
  refine ⟨δ, τ, _, sr, tw, h, fun vs ds τ1 H1 s1 w1 x1 q1 => ⟨?_, fun p hp => ?_⟩⟩
  · rw [x1.length]; exact Nat.le_of_lt (small1000 q1.1)
  · exact kk _ _ τ1 _ (s1.trans (.new hp)) (w1.new hp) (.tup (w1.free hp) (.inl upd_same) (DxAll.stp (.new hp) _ _ x1)) q1.2
theorem qe_lst (h : QA X es tr) : QE X (.List es pos) (dLst tr) := by
  refine .of (pe_lst h.pa) ?_
  rintro σ H Q ⟨δ, τ, R, sr, tw, h, kk⟩
  refine ⟨δ, τ, _, sr, tw, h, fun vs ds τ1 H1 s1 w1 x1 q1 => ⟨?_, fun p hp => ?_⟩⟩
  · rw [x1.length]; exact Nat.le_of_lt (small1000 q1.1)
  · exact kk _ _ τ1 _ (s1.trans (.new hp)) (w1.new hp) (.lst (w1.free hp) (.inl upd_same) (DxAll.stp (.new hp) _ _ x1)) q1.2
theorem qe_own (h : QA X es tr) : QE X (.List es pos) (dOwn tr) := by
  refine .of (pe_lst h.pa) ?_
  rintro σ H Q ⟨δ, τ, R, sr, tw, h, kk⟩
  refine ⟨δ, τ, _, sr, tw, h, fun vs ds τ1 H1 s1 w1 x1 q1 => ⟨?_, fun p hp => ?_⟩⟩
  · rw [x1.length]; exact Nat.le_of_lt (small1000 q1.1)
  · exact kk _ _ _ _ (s1.trans (.own hp)) (w1.own hp x1) .own (q1.2 p (w1.free hp))
theorem atI_dx {K : PySem.W.Frag} {τ : Ms} {H : Hp} {xs : List V} {ds : List PyData} {i : Int} {d : PyData} (h : DxAll K τ H xs ds) (e : atI ds i = some d) : ∃ v, atI xs i = some v ∧ Dx K τ H v d := by
  unfold atI at e ⊢
  rw [h.length]
  cases q : ixN ds.length i with
  | none => rw [q] at e; cases e
  | some j =>
    rw [q] at e
    obtain ⟨v, h1, h2⟩ := h.get (show ds[j]? = some d from e)
    exact ⟨v, h1, h2⟩
def dIxT : D2 := fun d e τ R => match d, e with
  | .tuple ds, .int i => (match atI ds i with | some d => R d τ | none => False)
  | _, _ => False
def dIxL : D2 := fun d e τ R => match d, e with
  | .list ds, .int i => (match atI ds i with | some d => R d τ | none => False)
  | _, _ => False
def dIxO : D2 := fun d e τ R => ∃ (a : Addr) (i : Int) (ds : List PyData) (z : PyData), d = rf a ∧ e = .int i ∧ τ a = some ds ∧ atI ds i = some z ∧ R z τ
theorem li_ixT {K : PySem.W.Frag} : Li2 K (rIxT K) dIxT := by
  intro τ H x y d e R Q tw x1 x2 h kk
  unfold dIxT at h
  split at h
  · split at h
    · rename_i ds i z ez
      obtain ⟨a, xs, rfl, sq, al⟩ := x1.tupInv
      cases x2.intInv
      obtain ⟨v, e1, e2⟩ := atI_dx al ez
      exact ⟨a, xs, _, v, rfl, rfl, sq, e1, kk _ _ τ H .refl tw e2 h⟩
    · exact h.elim
  · exact h.elim
theorem li_ixL {K : PySem.W.Frag} : Li2 K (rIxL K) dIxL := by
  intro τ H x y d e R Q tw x1 x2 h kk
  unfold dIxL at h
  split at h
  · split at h
    · rename_i ds i z ez
      obtain ⟨a, xs, rfl, sq, al⟩ := x1.lstInv
      cases x2.intInv
      obtain ⟨v, e1, e2⟩ := atI_dx al ez
      exact ⟨a, xs, _, v, rfl, rfl, sq, e1, kk _ _ τ H .refl tw e2 h⟩
    · exact h.elim
  · exact h.elim
theorem li_ixO {K : PySem.W.Frag} : Li2 K (rIxL K) dIxO := by
  intro τ H x y d e R Q tw x1 x2 h kk
  obtain ⟨a, i, ds, z, rfl, rfl, ta, ez, h⟩ := h
  cases x1.rfInv
  cases x2.intInv
  obtain ⟨xs, hx, al⟩ := tw.1 a ds ta
  obtain ⟨v, e1, e2⟩ := atI_dx al ez
  exact ⟨a, xs, i, v, rfl, rfl, SqL.of hx, e1, kk _ _ τ H .refl tw e2 h⟩
theorem qe_ix {r : R2} {dr : D2} (hr : IxR X r) (l : Li2 X.K r dr) (ha : QE X a ta) (hb : QE X b tb) (hs : PlainIx b) : QE X (.Subscript a b pos) (dOp dr ta tb) :=
  .of (pe_ix hr ha.pe hb.pe hs) fun _ _ _ h => op_lift l h
theorem qe_ixT (ha : QE X a ta) (hb : QE X b tb) (hs : PlainIx b := by exact fun _ _ => rfl) : QE X (.Subscript a b pos) (dOp dIxT ta tb) := qe_ix ix_tup li_ixT ha hb hs
theorem qe_ixL (ha : QE X a ta) (hb : QE X b tb) (hs : PlainIx b := by exact fun _ _ => rfl) : QE X (.Subscript a b pos) (dOp dIxL ta tb) := qe_ix ix_list li_ixL ha hb hs
theorem qe_ixO (ha : QE X a ta) (hb : QE X b tb) (hs : PlainIx b := by exact fun _ _ => rfl) : QE X (.Subscript a b pos) (dOp dIxO ta tb) := qe_ix ix_list li_ixO ha hb hs
abbrev DSp := List PyData → Ms → DK → Prop
def lSp (K : PySem.W.Frag) (n : Nat) (dsp : DSp) : Sp := fun vs H Q _ => ∃ ds τ R, ds.length = n ∧ DxAll K τ H vs ds ∧ TW K τ H ∧ dsp ds τ R ∧ kE K τ H R Q
def dCall (n : Nat) (dsp : DSp) (t : DA) : DE := fun δ τ R => t δ τ fun ds τ1 => ds.length = n ∧ dsp ds τ1 R
structure FnD (P : Program) (w : World) (K : PySem.W.Frag) (mg : Str → Option Value) (base : Heap) (x : Str) (k n : Nat) (dsp : DSp) : Prop where
  ex : ∃ f fd ps, FnOk P w K mg base CX0 k f fd ps (lSp K n dsp) ∧ mg x = some (.ref f) ∧ PySem.W.keepIn K (.ref f) = true ∧ Binds K fd ps []
theorem FnD.mono {P : Program} {w : World} {K : PySem.W.Frag} {mg : Str → Option Value} {base : Heap} {x : Str} {j k n : Nat} {dsp : DSp} (F : FnD P w K mg base x j n dsp) (h : j ≤ k) : FnD P w K mg base x k n dsp :=
  let ⟨f, fd, ps, a, b, c, d⟩ := F.ex
  ⟨f, fd, ps, a.mono h, b, c, d⟩
theorem qe_call {x : Str} {p : Pos} {n j : Nat} {dsp : DSp} (B : Bx X N sc k) (F : FnD X.prog X.w X.K X.mg X.base x j n dsp) (ha : QA X (e :: es) tr) (hk : j ≤ k := by decide) (hg : sc.names.lookup x = some .globalImplicit := by rfl)
    (hdb : (x == ("__debug__" : Str)) = false := by decide) (he : starEach (e :: es) X.env = (false, eval e X.env) :: starEach es X.env := by rfl) (hpl : (backTo pos (starEach es X.env)).any (·.1) = false := by rfl) :
    QE X (.Call (.Name x p) (e :: es) [] pos) (dCall n dsp tr) := by
  obtain ⟨f, fd, ps, F, hm, kp, hb⟩ := (F.mono hk).ex
  refine .of (pe_call F B.room (B.gl hg) hm kp hb .nil pass0 ha.pa hdb he hpl) ?_
  rintro σ H Q ⟨δ, τ, R, sr, tw, h, kk⟩
  refine ⟨δ, τ, _, sr, tw, h, fun vs ds τ1 H1 s1 w1 x1 q1 => ?_⟩
  exact ⟨ds, τ1, R, q1.1, by rw [List.append_nil]; exact x1, w1, q1.2, kk.stp s1⟩
def Li1 (K : PySem.W.Frag) (r : List V → Hp → VK → Prop) (dr : DSp) : Prop := ∀ τ H xs ds R Q, TW K τ H → DxAll K τ H xs ds → dr ds τ R → kE K τ H R Q → r xs H Q
def dCB (dr : DSp) (t : DA) : DE := fun δ τ R => t δ τ fun ds τ1 => dr ds τ1 R
theorem qe_callB {x : Str} {p : Pos} {id : String} {r : List V → Hp → VK → Prop} {dr : DSp} (B : Bx X N sc k) (hc : CallR X (.builtin id) r) (l : Li1 X.K r dr) (hm : X.mg x = none) (ha : QA X (e :: es) tr) (hv : bootBuiltins x = some (.builtin id) := by decide +kernel) (hg : sc.names.lookup x = some .globalImplicit := by rfl)
    (hn : x ≠ "__name__" := by decide) (hdb : (x == ("__debug__" : Str)) = false := by decide) (he : starEach (e :: es) X.env = (false, eval e X.env) :: starEach es X.env := by rfl) (hpl : (backTo pos (starEach es X.env)).any (·.1) = false := by rfl) :
    QE X (.Call (.Name x p) (e :: es) [] pos) (dCB dr tr) := by
  refine .of (pe_callB hc (B.gl hg) hm hv ha.pa hn hdb he hpl) ?_
  rintro σ H Q ⟨δ, τ, R, sr, tw, h, kk⟩
  refine ⟨δ, τ, _, sr, tw, h, fun vs ds τ1 H1 s1 w1 x1 q1 => ?_⟩
  exact l τ1 H1 vs ds R Q w1 x1 q1 (kk.stp s1)
theorem qe_callTy {x : Str} {p : Pos} {id : String} {r : List V → Hp → VK → Prop} {dr : DSp} (B : Bx X N sc k) (hc : CallR X (.type id) r) (l : Li1 X.K r dr) (hm : X.mg x = none) (ha : QA X (e :: es) tr) (hv : bootBuiltins x = some (.type id) := by decide +kernel) (hg : sc.names.lookup x = some .globalImplicit := by rfl)
    (hn : x ≠ "__name__" := by decide) (hdb : (x == ("__debug__" : Str)) = false := by decide) (he : starEach (e :: es) X.env = (false, eval e X.env) :: starEach es X.env := by rfl) (hpl : (backTo pos (starEach es X.env)).any (·.1) = false := by rfl) :
    QE X (.Call (.Name x p) (e :: es) [] pos) (dCB dr tr) := by
  refine .of (pe_callTy hc (B.gl hg) hm hv ha.pa hn hdb he hpl) ?_
  rintro σ H Q ⟨δ, τ, R, sr, tw, h, kk⟩
  refine ⟨δ, τ, _, sr, tw, h, fun vs ds τ1 H1 s1 w1 x1 q1 => ?_⟩
  exact l τ1 H1 vs ds R Q w1 x1 q1 (kk.stp s1)
def bAbs : DSp := fun ds τ R => match ds with | [.int i] => R (.int (if i < 0 then -i else i)) τ | _ => False
theorem li_abs {K : PySem.W.Frag} : Li1 K (fun xs H Q => ∃ i, xs = [.int i] ∧ Q (.int (if i < 0 then -i else i)) H) bAbs := by
  intro τ H xs ds R Q tw x h kk
  unfold bAbs at h
  split at h
  · cases x with | cons a b => cases b; cases a; exact ⟨_, rfl, kk _ _ τ H .refl tw (.int _) h⟩
  · exact h.elim
def bMax2 : DSp := fun ds τ R => match ds with | [.int i, .int j] => R (.int (if j > i then j else i)) τ | _ => False
theorem li_max2 {K : PySem.W.Frag} : Li1 K (fun xs H Q => ∃ i j, xs = [.int i, .int j] ∧ Q (.int (if j > i then j else i)) H) bMax2 := by
  intro τ H xs ds R Q tw x h kk
  unfold bMax2 at h
  split at h
  · cases x with | cons a b => cases b with | cons b c => cases c; cases a; cases b; exact ⟨_, _, rfl, kk _ _ τ H .refl tw (.int _) h⟩
  · exact h.elim
def bLen : DSp := fun ds τ R => match ds with | [.tuple es] => R (.int es.length) τ | [.list es] => R (.int es.length) τ | _ => False
theorem li_len {K : PySem.W.Frag} : Li1 K (fun xs H Q => ∃ x n, xs = [x] ∧ LenV K x H n ∧ Q (.int n) H) bLen := by
  intro τ H xs ds R Q tw x h kk
  unfold bLen at h
  split at h
  · cases x with | cons a b => cases b; obtain ⟨p, ys, rfl, sq, al⟩ := a.tupInv; exact ⟨_, _, rfl, .inr ⟨ys, sq, rfl⟩, by rw [al.length]; exact kk _ _ τ H .refl tw (.int _) h⟩
  · cases x with | cons a b => cases b; obtain ⟨p, ys, rfl, sq, al⟩ := a.lstInv; exact ⟨_, _, rfl, .inl ⟨ys, sq, rfl⟩, by rw [al.length]; exact kk _ _ τ H .refl tw (.int _) h⟩
  · exact h.elim
def bLenO : DSp := fun ds τ R => ∃ (a : Addr) (es : List PyData), ds = [rf a] ∧ τ a = some es ∧ R (.int es.length) τ
theorem li_lenO {K : PySem.W.Frag} : Li1 K (fun xs H Q => ∃ x n, xs = [x] ∧ LenV K x H n ∧ Q (.int n) H) bLenO := by
  intro τ H xs ds R Q tw x h kk
  obtain ⟨a, es, rfl, ta, h⟩ := h
  obtain ⟨ys, hy, al⟩ := tw.1 a es ta
  cases x with | cons x b => cases b; cases x.rfInv; exact ⟨_, _, rfl, .inl ⟨ys, SqL.of hy, rfl⟩, by rw [al.length]; exact kk _ _ τ H .refl tw (.int _) h⟩
def blsOf : List PyData → Option (List Bool)
  | [] => some []
  | .bool b :: r => (blsOf r).map (b :: ·)
  | _ => none
theorem blsOf_dx {K : PySem.W.Frag} {τ : Ms} {H : Hp} : ∀ {ds : List PyData} {xs : List V} {bs : List Bool}, DxAll K τ H xs ds → blsOf ds = some bs → xs = bs.map V.bl
  | [], _, _, h, e => by cases h; simp [blsOf] at e; subst e; rfl
  | .bool b :: r, _, _, h, e => by
    cases h with | cons a c =>
    simp only [blsOf, Option.map_eq_some_iff] at e
    obtain ⟨bs, e1, rfl⟩ := e
    cases a.blInv
    rw [blsOf_dx c e1]; rfl
  | .none :: _, _, _, _, e => by simp [blsOf] at e
  | .int _ :: _, _, _, _, e => by simp [blsOf] at e
  | .str _ :: _, _, _, _, e => by simp [blsOf] at e
  | .list _ :: _, _, _, _, e => by simp [blsOf] at e
  | .tuple _ :: _, _, _, _, e => by simp [blsOf] at e
  | .dict _ :: _, _, _, _, e => by simp [blsOf] at e
def bAll : DSp := fun ds τ R => match ds with | [.list es] => (match blsOf es with | some bs => R (.bool (bs.all id)) τ | none => False) | _ => False
theorem li_all {K : PySem.W.Frag} : Li1 K (rAll K) bAll := by
  intro τ H xs ds R Q tw x h kk
  unfold bAll at h
  split at h
  · split at h
    · rename_i e
      cases x with | cons a b => cases b; obtain ⟨p, ys, rfl, sq, al⟩ := a.lstInv; exact ⟨p, _, rfl, by rw [← blsOf_dx al e]; exact sq, kk _ _ τ H .refl tw (.bl _) h⟩
    · exact h.elim
  · exact h.elim
def bListO : DSp := fun ds τ R => match ds with
  | [.list es] => ∀ p, τ p = none → R (rf p) (mset τ p es)
  | [.tuple es] => ∀ p, τ p = none → R (rf p) (mset τ p es)
  | _ => False
theorem li_listO {K : PySem.W.Frag} : Li1 K (fun xs H Q => ∃ p ys, xs = [.ref p] ∧ (SqL K H p ys ∨ SqT K H p ys) ∧ ∀ l, H l = none → Q (.ref l) (upd H l (.lst ys))) bListO := by
  intro τ H xs ds R Q tw x h kk
  unfold bListO at h
  split at h
  · cases x with | cons a b => cases b; obtain ⟨p, ys, rfl, sq, al⟩ := a.lstInv; exact ⟨p, ys, rfl, .inl sq, fun l hl => kk _ _ _ _ (.own hl) (tw.own hl al) .own (h l (tw.free hl))⟩
  · cases x with | cons a b => cases b; obtain ⟨p, ys, rfl, sq, al⟩ := a.tupInv; exact ⟨p, ys, rfl, .inr sq, fun l hl => kk _ _ _ _ (.own hl) (tw.own hl al) .own (h l (tw.free hl))⟩
  · exact h.elim
inductive Ty where | tint | tbool | ttuple | tlist | tstr
def Ty.nm : Ty → String
  | .tint => "int" | .tbool => "bool" | .ttuple => "tuple" | .tlist => "list" | .tstr => "str"
def tyOf : PyData → Option String
  | .none => some "NoneType"
  | .bool _ => some "bool"
  | .int _ => some "int"
  | .str _ => some "str"
  | .list _ => some "list"
  | .tuple _ => some "tuple"
  | .dict _ => none
theorem isinst_dx {pins : List (Addr × Obj)} {σ : St} {H : Hp} {s : Shared} {A : Around} {E : Value → Shared → Prop} {Q : Value → Shared → Prop} {τ : Ms} {v : V} {d : PyData} {u c : Value} {t : String} {bb : Bool} (I : Inv X pins σ H s) (rx : RelV v u) (x : Dx X.K τ H v d) (ht : tyOf d = some t)
    (e : PySem.W.kitOne X.K (.type t) c = some bb) (h : ∀ tk, Q (.bool bb) { s with toks := tk }) : wpAny (model X.prog X.w) A (call (.builtin "isinstance") [u, c]) Q E s := by
  cases x with
  | non => cases ht; exact isinst_ok I rx .non e h
  | bl b => cases ht; exact isinst_ok I rx (.bl b) e h
  | int i => cases ht; exact isinst_ok I rx (.int i) e h
  | str i => cases ht; exact isinst_ok I rx (.str i) e h
  | lst n r al =>
    cases ht
    rcases r with r | ⟨o, r⟩
    · exact isinst_ok I rx (.lst r) e h
    · exact isinst_ok I rx (.frz r) e h
  | @tup a xs ds n r al =>
    cases ht
    cases (show u = Value.ref a from rx)
    obtain ⟨its, rv, ⟨o, h1, h2, _⟩, _⟩ := I.tuple (.inl r)
    exact PySem.W.kia_one PySem.W.kitx_tuple I.kIn ⟨o, h1, h2⟩ e (fun z => nomatch z) h
  | @tupK a xs ds o its n hk hc hs hz r al =>
    cases ht
    cases (show u = Value.ref a from rx)
    exact PySem.W.kia_one PySem.W.kitx_tuple I.kIn ⟨o, I.kIn a o hk, hc⟩ e (fun z => nomatch z) h
  | dic => cases ht
  | @lstK a xs ds o its n hk hc hd hs hz r al =>
    cases ht
    cases (show u = Value.ref a from rx)
    exact PySem.W.kia_one PySem.W.kitx_list I.kIn ⟨o, I.kIn a o hk, hc⟩ e (fun z => nomatch z) h
  | own => cases ht
  | exc _ _ => cases ht
end
end L3
end
section
set_option Elab.async false
set_option linter.all false
set_option maxRecDepth 100000
set_option maxHeartbeats 4000000
namespace L3
open PySem PySem.Spec L2
open PyProof.Rows hiding St
section
variable {X : Cx} {N : List Str} {sc : Scope} {k : Nat} {e a b c : Expr} {es : List Expr} {ta tb te : DE} {tc : DT} {tr : DA} {pos : Pos} {st : Stmt} {sts sts' : List Stmt} {t u : DS}
def isiB (t T : String) : Bool := t == T || (t == "bool" && T == "int")
def rIsi (X : Cx) : List V → Hp → VK → Prop := fun xs H Q => ∃ (τ : Ms) (x : V) (d : PyData) (t T : String) (bb : Bool), xs = [x, .ty T] ∧ Dx X.K τ H x d ∧ tyOf d = some t ∧ PySem.W.kitOne X.K (.type t) (.type T) = some bb ∧ Q (.bl bb) H
theorem cr_isi : CallR X (.builtin "isinstance") (rIsi X) := by
  intro pins s σ H xs us Q I r h
  obtain ⟨τ, x, d, t, T, bb, rfl, dx, ht, hk, q⟩ := h
  obtain ⟨u, w', rfl, r1, r2⟩ := vals2 r
  cases r2
  exact isinst_dx I r1 dx ht hk fun tk => ⟨.bl bb, H, I.tok _, rfl, q⟩
inductive TyN : String → Prop
  | int : TyN "int" | bool : TyN "bool" | tuple : TyN "tuple" | list : TyN "list" | str : TyN "str"
theorem kit_isi {K : PySem.W.Frag} {d : PyData} {t T : String} (h : tyOf d = some t) (n : TyN T) : PySem.W.kitOne K (.type t) (.type T) = some (isiB t T) := by
  cases d <;> cases h <;> cases n <;> rfl
def dIs (T : String) (ta : DE) : DE := fun δ τ R => ta δ τ fun d τ1 => match tyOf d with | some t => R (.bool (isiB t T)) τ1 | none => False
theorem qe_isi {x : Str} {T : String} {p p' : Pos} (B : Bx X N sc k) (n : TyN T) (hm : X.mg "isinstance" = none) (hm2 : X.mg x = none) (ha : QE X e te) (hv : bootBuiltins x = some (.type T) := by decide +kernel) (hg : sc.names.lookup ("isinstance" : Str) = some .globalImplicit := by rfl) (hg2 : sc.names.lookup x = some .globalImplicit := by rfl)
    (hn : x ≠ "__name__" := by decide) (hdb : (x == ("__debug__" : Str)) = false := by decide) (he : starEach [e, .Name x p'] X.env = (false, eval e X.env) :: starEach [.Name x p'] X.env := by rfl) :
    QE X (.Call (.Name "isinstance" p) [e, .Name x p'] [] pos) (dIs T te) := by
  refine .of (pe_callB (id := "isinstance") cr_isi (B.gl hg) hm (by decide +kernel) (pa_cons ha.pe (pa_cons (pe_bltn (v := .ty T) (B.gl hg2) hm2 hv rfl hn hdb) pa_nil) he) (he := he)) ?_
  rintro σ H Q ⟨δ, τ, R, sr, tw, h, kk⟩
  refine ⟨δ, τ, _, sr, tw, h, fun v d τ1 H1 s1 w1 x1 q1 => ?_⟩
  split at q1
  · rename_i t ht
    exact ⟨τ1, v, d, t, T, _, rfl, x1, ht, kit_isi ht n, kk _ _ τ1 H1 s1 w1 (.bl _) q1⟩
  · exact q1.elim
def dNext : DS := fun E δ τ => E.nx δ τ
def dSeq (t u : DS) : DS := fun E δ τ => t { E with nx := u E } δ τ
theorem qss_nil : QSs X [] dNext := .of pss_nil fun D σ H ⟨δ, τ, E, hl, sr, tw, h, kk⟩ => kk.1 σ δ τ H hl .refl tw sr h
theorem qss_cons (h1 : QS X st t) (h2 : QSs X sts u) : QSs X (st :: sts) (dSeq t u) := by
  refine .of (pss_cons h1.ps h2.ps) ?_
  rintro D σ H ⟨δ, τ, E, hl, sr, tw, h, kk⟩
  exact ⟨δ, τ, { E with nx := u E }, hl, sr, tw, h, ⟨fun σ' δ' τ' H' l' s' w' r' q' => ⟨δ', τ', E, l', r', w', q', kk.stp s'⟩, kk.2.1, kk.2.2.1, kk.2.2.2⟩⟩
theorem qss_one (h1 : QS X st t) : QSs X [st] t := .of (pss_one h1.ps) fun _ _ _ h => h
def dNever : DS := fun _ _ _ => False
def dRet (te : DE) : DS := fun E δ τ => te δ τ E.rt
theorem qs_ret (he : QE X e te) : QS X (.Return (some e) pos) (dRet te) := .of (ps_ret he.pe) fun D σ H ⟨δ, τ, E, hl, sr, tw, h, kk⟩ => ⟨δ, τ, E.rt, sr, tw, h, kk.2.1⟩
def dDrop (te : DE) : DS := fun E δ τ => te δ τ fun _ τ1 => E.nx δ τ1
theorem qs_expr (he : QE X e te) (hs : swapsWith e none pos.line X.env = pure false := by rfl) : QS X (.Expr e pos) (dDrop te) := by
  refine .of (ps_expr he.pe hs) ?_
  rintro D σ H ⟨δ, τ, E, hl, sr, tw, h, kk⟩
  exact ⟨δ, τ, _, sr, tw, h, fun v d τ1 H1 s1 w1 x1 q1 => kk.1 σ δ τ1 H1 hl s1 w1 (sr.stp s1) q1⟩
def dIfS (c : DT) (t u : DS) : DS := fun E δ τ => c δ τ fun b τ1 => if b = true then t E δ τ1 else u E δ τ1
theorem qs_if (hc : QT X c tc) (ha : QSs X sts t) (hb : QSs X sts' u) : QS X (.If c sts sts' pos) (dIfS tc t u) := by
  refine .of (ps_if hc.pt ha.ps hb.ps) ?_
  rintro D σ H ⟨δ, τ, E, hl, sr, tw, h, kk⟩
  refine ⟨δ, τ, _, sr, tw, h, fun c τ1 H1 s1 w1 q1 => ?_⟩
  cases c with
  | true => exact iteT ⟨δ, τ1, E, hl, sr.stp s1, w1, by simpa using q1, kk.stp s1⟩
  | false => exact iteF ⟨δ, τ1, E, hl, sr.stp s1, w1, by simpa using q1, kk.stp s1⟩
def dSet (i : Nat) (te : DE) : DS := fun E δ τ => te δ τ fun d τ1 => E.nx (δ.set i (some d)) τ1
theorem SR.put {K : PySem.W.Frag} {τ : Ms} {H : Hp} {σ : St} {δ : Dl} (h : SR K τ H σ δ) (i : Nat) {v : V} {d : PyData} (x : Dx K τ H v d) {n : Nat} (hl : σ.length = n) (hi : i < n) : SR K τ H (σ.set i (some v)) (δ.set i (some d)) := h.set i x (by omega)
theorem qs_set (B : Bs X N sc k) (i : Nat) {x : Str} {pos' : Pos} (he : QE X e te) (h1 : N[i]? = some x := by rfl) (hx : sc.names.lookup x = some .local ∨ sc.names.lookup x = some .cell := by first | exact Or.inl rfl | exact Or.inr rfl) (hs : swapsWith e (some (.Name x pos')) pos.line X.env = pure false := by rfl) :
    QS X (.Assign [.Name x pos'] e pos) (dSet i te) := by
  have hi : i < X.N.length := by rw [B.n]; exact (List.getElem?_eq_some_iff.mp h1).1
  refine .of (ps_set (i := i) (by rw [B.n]; exact B.nd) (by rw [B.n]; exact h1) (by unfold L2.Loc; rw [B.scp]; exact hx) he.pe hs (by rcases hx with q | q; exact .inr (by rw [B.scp]; exact q); exact .inl (B.fn x q))) ?_
  rintro D σ H ⟨δ, τ, E, hl, sr, tw, h, kk⟩
  refine ⟨δ, τ, _, sr, tw, h, fun v d τ1 H1 s1 w1 x1 q1 => ?_⟩
  exact kk.1 _ _ τ1 H1 (by rw [List.length_set]; exact hl) s1 w1 ((sr.stp s1).put i x1 hl hi) q1
def gL : List Nat → TGs
  | [] => gNil
  | i :: is => gCons (gName i) (gL is)
structure QGs (X : Cx) (ts : List Expr) (is : List Nat) : Prop where
  pg : PGs X ts (gL is)
  ub : ∀ i ∈ is, i < X.N.length
theorem qg_nil : QGs X [] [] := ⟨pgs_nil, fun _ h => absurd h (by simp)⟩
theorem qg_cons (B : Bs X N sc k) (i : Nat) {is : List Nat} {x : Str} {pos' : Pos} (h2 : QGs X es is) (h1 : N[i]? = some x := by rfl) (hx : sc.names.lookup x = some .local ∨ sc.names.lookup x = some .cell := by first | exact Or.inl rfl | exact Or.inr rfl)
    (hs : (assignEach (.Name x pos' :: es) X.env).map (·.2) = assign (.Name x pos') X.env :: (assignEach es X.env).map (·.2) := by rfl) : QGs X (.Name x pos' :: es) (i :: is) := by
  refine ⟨pgs_cons (pg_name (i := i) (by rw [B.n]; exact B.nd) (by rw [B.n]; exact h1) (by unfold L2.Loc; rw [B.scp]; exact hx) (by rcases hx with q | q; exact .inr (by rw [B.scp]; exact q); exact .inl (B.fn x q))) h2.pg hs, fun j hj => ?_⟩
  rcases List.mem_cons.mp hj with rfl | hj
  · rw [B.n]; exact (List.getElem?_eq_some_iff.mp h1).1
  · exact h2.ub j hj
def dSetL (δ : Dl) : List Nat → List PyData → Dl
  | i :: is, d :: ds => dSetL (δ.set i (some d)) is ds
  | _, _ => δ
theorem gL_ok {K : PySem.W.Frag} {τ : Ms} {H : Hp} {Q : St → Hp → Prop} {n : Nat} : ∀ {is : List Nat} {ds : List PyData} {vs : List V} {σ : St} {δ : Dl}, DxAll K τ H vs ds → ds.length = is.length → (∀ i ∈ is, i < n) → σ.length = n → SR K τ H σ δ →
    (∀ σ' δ', σ'.length = n → SR K τ H σ' δ' → δ' = dSetL δ is ds → Q σ' H) → gL is vs σ H Q
  | [], [], _, σ, δ, h, _, _, hl, sr, q => by cases h; exact ⟨rfl, q σ δ hl sr rfl⟩
  | [], _ :: _, _, _, _, _, e, _, _, _, _ => by simp at e
  | _ :: _, [], _, _, _, _, e, _, _, _, _ => by simp at e
  | i :: is, d :: ds, _, σ, δ, h, e, hb, hl, sr, q => by
    cases h with | cons x y =>
    refine ⟨_, _, rfl, ?_⟩
    exact gL_ok y (by simpa using e) (fun j hj => hb j (List.mem_cons_of_mem _ hj)) (by rw [List.length_set]; exact hl) (sr.put i x hl (hb i List.mem_cons_self)) q
def dUnp (is : List Nat) (te : DE) : DS := fun E δ τ => te δ τ fun d τ1 => match d with | .tuple ds => ds.length = is.length ∧ E.nx (dSetL δ is ds) τ1 | _ => False
theorem qs_unp (B : Bx X N sc k) {is : List Nat} {kt : Nat} {pt : Pos} (he : QE X e te) (hg : QGs X es is) (hn : (assignEach es X.env).length = is.length := by rfl) (hst : (assignEach es X.env).findIdx? (·.1) = none := by rfl)
    (hs : swapsWithSole [.Tuple es kt pt] e pos.line X.env = pure false := by rfl) (hw : swappedStores [.Tuple es kt pt] e X.env = pure none := by rfl) (h1 : (assignEach [.Tuple es kt pt] X.env).map (·.2) = [assign (.Tuple es kt pt) X.env] := by rfl) :
    QS X (.Assign [.Tuple es kt pt] e pos) (dUnp is te) := by
  refine .of (ps_asg he.pe (pg_tup (n := is.length) B.calm hg.pg hn hst) hs hw h1) ?_
  rintro D σ H ⟨δ, τ, E, hl, sr, tw, h, kk⟩
  refine ⟨δ, τ, _, sr, tw, h, fun v d τ1 H1 s1 w1 x1 q1 => ?_⟩
  split at q1
  · obtain ⟨p, xs, rfl, sq, al⟩ := x1.tupInv
    refine ⟨p, xs, rfl, sq, by rw [al.length]; exact q1.1, gL_ok al q1.1 hg.ub hl (sr.stp s1) fun σ' δ' l' r' e' => ?_⟩
    subst e'
    exact kk.1 _ _ τ1 H1 l' s1 w1 r' q1.2
  · exact q1.elim
def envS (sc : Scope) : Env := { scope := sc, locals := 0, globals := 0, cells := [], qual := "", func := none, code := .none, frame := none, builtins := 0 }
theorem swp_of {env : Env} {sc : Scope} (h : env.scope = sc) (ts : List Expr) (v : Expr) : swappedStores ts v env = swappedStores ts v (envS sc) := by
  have h1 : env.kindOf = (envS sc).kindOf := by funext x; show env.scope.names.lookup x = sc.names.lookup x; rw [h]
  have h2 : env.blockKind = (envS sc).blockKind := by unfold Env.blockKind; rw [h]; rfl
  unfold swappedStores
  rw [h1, h2]
def dPar (i j : Nat) (ta : DA) : DS := fun E δ τ => ta δ τ fun ds τ1 => match ds with | [d, e] => E.nx ((δ.set i (some d)).set j (some e)) τ1 | _ => False
theorem qs_par (B : Bx X N sc k) (i j : Nat) {x y : Str} {px py pt pt2 : Pos} {kt k2} (ha : QA X [a, b] tr) (hi : N[i]? = some x := by rfl) (hj : N[j]? = some y := by rfl) (hij : i ≠ j := by decide) (hx : sc.names.lookup x = some .local := by rfl) (hy : sc.names.lookup y = some .local := by rfl)
    (hw : swappedStores [.Tuple [.Name x px, .Name y py] kt pt] (.Tuple [a, b] k2 pt2) (envS sc) = pure (some [x, y]) := by rfl) (hs : swapsWithSole [.Tuple [.Name x px, .Name y py] kt pt] (.Tuple [a, b] k2 pt2) pos.line X.env = pure false := by rfl) :
    QS X (.Assign [.Tuple [.Name x px, .Name y py] kt pt] (.Tuple [a, b] k2 pt2) pos) (dPar i j tr) := by
  have hi' : i < X.N.length := by rw [B.n]; exact (List.getElem?_eq_some_iff.mp hi).1
  have hj' : j < X.N.length := by rw [B.n]; exact (List.getElem?_eq_some_iff.mp hj).1
  refine .of (ps_par (i := i) (j := j) B.calm (by rw [B.n]; exact B.nd) (by rw [B.n]; exact hi) (by rw [B.n]; exact hj) hij (by rw [B.scp]; exact hx) (by rw [B.scp]; exact hy) ha.pa ((swp_of B.scp _ _).trans hw) hs) ?_
  rintro D σ H ⟨δ, τ, E, hl, sr, tw, h, kk⟩
  refine ⟨δ, τ, _, sr, tw, h, fun vs ds τ1 H1 s1 w1 x1 q1 => ?_⟩
  split at q1
  · cases x1 with | cons x1 x2 => cases x2 with | cons x2 x3 =>
    cases x3
    exact ⟨_, _, rfl, kk.1 _ _ τ1 H1 (by simp [hl]) s1 w1 (((sr.stp s1).put i x1 hl hi').put j x2 (by rw [List.length_set]; exact hl) hj') q1⟩
  · exact q1.elim
def dPut (to ti te : DE) : DS := fun E δ τ => te δ τ fun d τ1 => to δ τ1 fun o τ2 => ti δ τ2 fun i τ3 => ∃ (p : Addr) (z : Int) (ds : List PyData) (j : Nat), o = rf p ∧ i = .int z ∧ τ3 p = some ds ∧ ixN ds.length z = some j ∧ E.nx δ (mset τ3 p (ds.set j d))
theorem qs_put {o i : Expr} {to ti : DE} {ps : Pos} (ho : QE X o to) (hi : QE X i ti) (he : QE X e te)
    (ha : ∀ v, assign (.Subscript o i ps) X.env v = (do
      let ov ← holding [v] (eval o X.env)
      let iv ← holding [v, ov] (eval i X.env)
      standAt ps
      holding [v, ov, iv] (setItem ov iv v)
      release [v, ov, iv] []) := by intro _; rfl)
    (hs : swapsWithSole [.Subscript o i ps] e pos.line X.env = pure false := by rfl) (hw : swappedStores [.Subscript o i ps] e X.env = pure none := by rfl) (h1 : (assignEach [.Subscript o i ps] X.env).map (·.2) = [assign (.Subscript o i ps) X.env] := by rfl) :
    QS X (.Assign [.Subscript o i ps] e pos) (dPut to ti te) := by
  refine .of (ps_asg he.pe (pg_sub ho.pe hi.pe set_list ha) hs hw h1) ?_
  rintro D σ H ⟨δ, τ, E, hl, sr, tw, h, kk⟩
  refine ⟨δ, τ, _, sr, tw, h, fun v d τ1 H1 s1 w1 x1 q1 => ⟨δ, τ1, _, sr.stp s1, w1, q1, fun v2 d2 τ2 H2 s2 w2 x2 q2 => ⟨δ, τ2, _, sr.stp (s1.trans s2), w2, q2, fun v3 d3 τ3 H3 s3 w3 x3 q3 => ?_⟩⟩⟩
  obtain ⟨p, z, ds, j, rfl, rfl, tp, ej, q⟩ := q3
  obtain ⟨xs, hx, al⟩ := w3.1 p ds tp
  cases (Dx.stp s3 _ _ x2).rfInv
  cases x3.intInv
  have x1' := Dx.stp (s2.trans s3) _ _ x1
  refine ⟨p, xs, z, j, rfl, rfl, hx, by rw [al.length]; exact ej, ?_⟩
  exact kk.1 σ δ _ _ hl (((s1.trans s2).trans s3).trans (.put tp)) (w3.put tp (al.set j x1')) ((sr.stp ((s1.trans s2).trans s3)).stp (.put tp)) q
def dWhile (c : DT) (tb : DS) : DS := fun E δ τ => ∃ W : Nat → Dl → Ms → Prop, (∃ m, W m δ τ) ∧ ∀ m δ τ, W m δ τ → c δ τ fun b τ1 => if b = true then tb { E with nx := fun δ' τ' => ∃ m', m' < m ∧ W m' δ' τ', ct := fun δ' τ' => ∃ m', m' < m ∧ W m' δ' τ', bk := E.nx } δ τ1 else E.nx δ τ1
theorem qs_while (B : Bx X N sc k) (hc : QT X c tc) (hb : QSs X sts t) : QS X (.While c sts [] pos) (dWhile tc t) := by
  refine .of (ps_while B.po hc.pt hb.ps) ?_
  rintro D σ H ⟨δ, τ, E, hl, sr, tw, ⟨W, ⟨m0, w0⟩, step⟩, kk⟩
  refine ⟨fun m σ' H' => ∃ δ' τ', σ'.length = X.N.length ∧ Stp τ H τ' H' ∧ TW X.K τ' H' ∧ SR X.K τ' H' σ' δ' ∧ W m δ' τ', ⟨m0, δ, τ, hl, .refl, tw, sr, w0⟩, ?_⟩
  rintro m σ1 H1 ⟨δ1, τ1, l1, s1, w1, r1, q1⟩
  refine ⟨δ1, τ1, _, r1, w1, step m δ1 τ1 q1, fun b τ2 H2 s2 w2 q2 => ?_⟩
  cases b with
  | false => exact iteF (kk.1 σ1 δ1 τ2 H2 l1 (s1.trans s2) w2 (r1.stp s2) (by simpa using q2))
  | true =>
    refine iteT ⟨fun σ' H' => ∃ m', m' < m ∧ ∃ δ' τ', σ'.length = X.N.length ∧ Stp τ H τ' H' ∧ TW X.K τ' H' ∧ SR X.K τ' H' σ' δ' ∧ W m' δ' τ', fun σ' H' z => z, ?_⟩
    have q2' := (if_pos rfl).mp q2
    refine ⟨δ1, τ2, _, l1, r1.stp s2, w2, q2', ⟨?_, (kk.stp (s1.trans s2)).2.1, (kk.stp (s1.trans s2)).1, ?_⟩⟩
    all_goals
      rintro σ3 δ3 τ3 H3 l3 s3 w3 r3 ⟨m', hm, q3⟩
      exact ⟨m', hm, δ3, τ3, l3, (s1.trans s2).trans s3, w3, r3, q3⟩
def dForL (i : Nat) (tb : DS) : List PyData → DS
  | [], E, δ, τ => E.nx δ τ
  | d :: ds, E, δ, τ => tb { E with nx := fun δ' τ' => dForL i tb ds E δ' τ', ct := fun δ' τ' => dForL i tb ds E δ' τ', bk := E.nx } (δ.set i (some d)) τ
theorem forL_step {K : PySem.W.Frag} {n i : Nat} {tb : DS} {E : DEnds} {D : Ends} {τ0 : Ms} {H0 : Hp} (hi : i < n) (kk : kS K n τ0 H0 E D) {ds : List PyData} {j : Nat} {d : PyData} (ej : ds[j]? = some d) {σ : St} {δ : Dl} {τ : Ms} {H : Hp} {x : V}
    (hl : σ.length = n) (s : Stp τ0 H0 τ H) (tw : TW K τ H) (sr : SR K τ H σ δ) (dx : Dx K τ H x d) (q : dForL i tb (ds.drop j) E δ τ) :
    lS K n tb { D with nx := fun σ' H' => ∃ δ' τ', σ'.length = n ∧ Stp τ0 H0 τ' H' ∧ TW K τ' H' ∧ SR K τ' H' σ' δ' ∧ dForL i tb (ds.drop (j + 1)) E δ' τ', ct := fun σ' H' => ∃ δ' τ', σ'.length = n ∧ Stp τ0 H0 τ' H' ∧ TW K τ' H' ∧ SR K τ' H' σ' δ' ∧ dForL i tb (ds.drop (j + 1)) E δ' τ', bk := D.nx } (σ.set i (some x)) H := by
  obtain ⟨hj, ed⟩ := List.getElem?_eq_some_iff.mp ej
  rw [List.drop_eq_getElem_cons hj, ed] at q
  refine ⟨δ.set i (some d), τ, _, by rw [List.length_set]; exact hl, sr.put i dx hl hi, tw, q, ⟨?_, (kk.stp s).2.1, (kk.stp s).1, ?_⟩⟩
  all_goals
    rintro σ3 δ3 τ3 H3 l3 s3 w3 r3 q3
    exact ⟨δ3, τ3, l3, s.trans s3, w3, r3, q3⟩
theorem for_dx {K : PySem.W.Frag} {n i : Nat} {tb : DS} {E : DEnds} {D : Ends} {τ : Ms} {H : Hp} {σ : St} {δ : Dl} (hi : i < n) (kk : kS K n τ H E D) (hl : σ.length = n) (tw : TW K τ H) (sr : SR K τ H σ δ) {ds : List PyData} {xs : List V} {a : Addr}
    (al : DxAll K τ H xs ds) (q : dForL i tb ds E δ τ) (wi : It) (go : (∀ τ' H', Stp τ H τ' H' → wi = Itt K a ∧ SqT K H' a xs) ∨ (∀ τ' H', Stp τ H τ' H' → wi = Itl K a ∧ SqL K H' a xs)) :
    ∃ W : Nat → Nat → St → Hp → Prop, (∃ m, W 0 m σ H) ∧ ∀ i' m σ H, W i' m σ H →
      (wi.stop i' H ∧ D.nx σ H) ∨ (wi.go i' H ∧ ∃ Nn : St → Hp → Prop, (∀ σ' H', Nn σ' H' → ∃ m', m' < m ∧ W (i' + 1) m' σ' H') ∧ ∀ x H', wi.yld i' H x H' → gName i x σ H' fun σ2 H2 => lS K n tb { D with nx := Nn, ct := Nn, bk := D.nx } σ2 H2) := by
  have fin : ∀ σ1 H1, (∃ δ' τ', σ1.length = n ∧ Stp τ H τ' H1 ∧ TW K τ' H1 ∧ SR K τ' H1 σ1 δ' ∧ dForL i tb (ds.drop xs.length) E δ' τ') → D.nx σ1 H1 := by
    rintro σ1 H1 ⟨δ1, τ1, l1, s1, w1, r1, q1⟩
    rw [al.length, List.drop_length] at q1
    exact kk.1 σ1 δ1 τ1 H1 l1 s1 w1 r1 q1
  have st0 : ∃ δ' τ', σ.length = n ∧ Stp τ H τ' H ∧ TW K τ' H ∧ SR K τ' H σ δ' ∧ dForL i tb (ds.drop 0) E δ' τ' := ⟨δ, τ, hl, .refl, tw, sr, q⟩
  have turn : ∀ j x σ1 H1, xs[j]? = some x → (∃ δ' τ', σ1.length = n ∧ Stp τ H τ' H1 ∧ TW K τ' H1 ∧ SR K τ' H1 σ1 δ' ∧ dForL i tb (ds.drop j) E δ' τ') → gName i x σ1 H1 fun σ2 H2 => lS K n tb { D with nx := fun σ' H' => ∃ δ' τ', σ'.length = n ∧ Stp τ H τ' H' ∧ TW K τ' H' ∧ SR K τ' H' σ' δ' ∧ dForL i tb (ds.drop (j + 1)) E δ' τ', ct := fun σ' H' => ∃ δ' τ', σ'.length = n ∧ Stp τ H τ' H' ∧ TW K τ' H' ∧ SR K τ' H' σ' δ' ∧ dForL i tb (ds.drop (j + 1)) E δ' τ', bk := D.nx } σ2 H2 := by
    rintro j x σ1 H1 ex ⟨δ1, τ1, l1, s1, w1, r1, q1⟩
    obtain ⟨d, ed, dx⟩ := al.got ex
    exact forL_step hi kk ed l1 s1 w1 r1 (Dx.stp s1 _ _ dx) q1
  rcases go with go | go
  · obtain ⟨rfl, _⟩ := go τ H .refl
    exact for_tup (K := K) (a := a) (xs := xs) (g := gName i) (fun j σ1 H1 => ∃ δ' τ', σ1.length = n ∧ Stp τ H τ' H1 ∧ TW K τ' H1 ∧ SR K τ' H1 σ1 δ' ∧ dForL i tb (ds.drop j) E δ' τ') st0 (fun j σ1 H1 _ ⟨_, τ1, _, s1, _⟩ => (go τ1 H1 s1).2) turn fin
  · obtain ⟨rfl, _⟩ := go τ H .refl
    exact for_list (K := K) (a := a) (xs := xs) (g := gName i) (fun j σ1 H1 => ∃ δ' τ', σ1.length = n ∧ Stp τ H τ' H1 ∧ TW K τ' H1 ∧ SR K τ' H1 σ1 δ' ∧ dForL i tb (ds.drop j) E δ' τ') st0 (fun j σ1 H1 _ ⟨_, τ1, _, s1, _⟩ => (go τ1 H1 s1).2) turn fin
theorem Dx.tupStp {K : PySem.W.Frag} {τ : Ms} {H : Hp} {v : V} {ds : List PyData} (h : Dx K τ H v (.tuple ds)) : ∃ a xs, v = .ref a ∧ (∀ τ' H', Stp τ H τ' H' → SqT K H' a xs) ∧ DxAll K τ H xs ds := by
  cases h with
  | tup n r a => exact ⟨_, _, rfl, fun τ' H' S => .inl (S.rd n r).2, a⟩
  | tupK k c d z r a => exact ⟨_, _, rfl, fun _ _ _ => .inr ⟨_, _, _, k, c, d, z, r⟩, a⟩
def dForT (i : Nat) (te : DE) (tb : DS) : DS := fun E δ τ => te δ τ fun d τ1 => match d with | .tuple ds => dForL i tb ds E δ τ1 | _ => False
theorem qs_forT (B : Bs X N sc k) (i : Nat) {x : Str} {pos' : Pos} (he : QE X e te) (hb : QSs X sts t) (h1 : N[i]? = some x := by rfl) (hx : sc.names.lookup x = some .local ∨ sc.names.lookup x = some .cell := by first | exact Or.inl rfl | exact Or.inr rfl) (hs : ∀ x, foldedSetIterable e X.env x = pure x := by intro _; rfl) :
    QS X (.For (.Name x pos') e sts [] pos) (dForT i te t) := by
  have hi : i < X.N.length := by rw [B.n]; exact (List.getElem?_eq_some_iff.mp h1).1
  refine .of (ps_for B.po B.calm (pi_tup he.pe) (pg_name (i := i) (by rw [B.n]; exact B.nd) (by rw [B.n]; exact h1) (by unfold L2.Loc; rw [B.scp]; exact hx) (by rcases hx with q | q; exact .inr (by rw [B.scp]; exact q); exact .inl (B.fn x q))) hb.ps hs) ?_
  rintro D σ H ⟨δ, τ, E, hl, sr, tw, h, kk⟩
  refine ⟨δ, τ, _, sr, tw, h, fun v d τ1 H1 s1 w1 x1 q1 => ?_⟩
  split at q1
  · obtain ⟨a, xs, rfl, sq, al⟩ := x1.tupStp
    exact ⟨a, rfl, ⟨xs, sq τ1 H1 .refl⟩, for_dx hi (kk.stp s1) hl w1 (sr.stp s1) al q1 _ (.inl fun τ' H' S => ⟨rfl, sq τ' H' S⟩)⟩
  · exact q1.elim
end
end L3
end
section
set_option Elab.async false
set_option linter.all false
set_option maxRecDepth 100000
set_option maxHeartbeats 4000000
namespace L3
open PySem PySem.Spec L2
open PyProof.Rows hiding St
section
variable {X : Cx} {N : List Str} {sc : Scope} {k : Nat} {e a b c : Expr} {es : List Expr} {ta tb te : DE} {tc : DT} {tr : DA} {pos : Pos} {st : Stmt} {sts sts' : List Stmt} {t u : DS}
theorem Bx.blk (B : Bx X N sc k) (s : Shared) (H : Hp) (scope : Scope) (cl : List (Str × Addr)) (C : Addr) (fp : List Addr) : Bx (X.blk s H scope (compEnvC scope cl C X.env) fp) N (relS scope sc) k :=
  ⟨B.n, by rw [← B.scp]; rfl, B.nd, B.calm, B.room, PassesOwn.never⟩
def dLcL (i : Nat) (te : DE) (δ : Dl) (D : Addr) : List PyData → Ms → DK → Prop
  | [], τ, R => ∃ out : List PyData, τ D = some (Ow.lst out) ∧ R (.list out) (mdel τ D)
  | d :: ds, τ, R => te (δ.set i (some d)) τ fun e τ' => ∃ out : List PyData, τ' D = some (Ow.lst out) ∧ out.length < 1000 ∧ dLcL i te δ D ds (mset τ' D (out ++ [e])) R
def dLcT (i : Nat) (ti te : DE) : DE := fun δ τ R => ti δ τ fun d τ1 => match d with | .tuple ds => ∀ D, τ1 D = none → dLcL i te δ D ds (mset τ1 D []) R | _ => False
theorem lc_turn {K : PySem.W.Frag} {i : Nat} {te : DE} {δ : Dl} {D : Addr} {ds : List PyData} {τ1 : Ms} {H1 : Hp} {R : DK} {σ : St} (hi : i < σ.length) (sr : SR K τ1 H1 σ δ) {j : Nat} {d : PyData} (ej : ds[j]? = some d) {x : V} {H2 : Hp}
    (h : ∃ τ2, Stp τ1 H1 τ2 H2 ∧ TW K τ2 H2 ∧ dLcL i te δ D (ds.drop j) τ2 R) (dx : ∀ τ2, Stp τ1 H1 τ2 H2 → Dx K τ2 H2 x d) :
    gName i x (wipe σ [i]) H2 fun σ2 H2 => wipe σ2 [i] = wipe σ [i] ∧ tYes σ2 H2 fun b H3 =>
      if b = true then lE K te σ2 H3 fun y H4 => ∃ acc, H4 D = some (.lst acc) ∧ acc.length < sizeLine ∧ (∃ τ2, Stp τ1 H1 τ2 (upd H4 D (.lst (acc ++ [y]))) ∧ TW K τ2 (upd H4 D (.lst (acc ++ [y]))) ∧ dLcL i te δ D (ds.drop (j + 1)) τ2 R)
      else (∃ τ2, Stp τ1 H1 τ2 H3 ∧ TW K τ2 H3 ∧ dLcL i te δ D (ds.drop (j + 1)) τ2 R) := by
  obtain ⟨τ2, s2, w2, q2⟩ := h
  obtain ⟨hj, ed⟩ := List.getElem?_eq_some_iff.mp ej
  rw [List.drop_eq_getElem_cons hj, ed] at q2
  refine ⟨by simp [wipe, List.set_set], ?_⟩
  unfold tYes
  show if true = true then _ else _
  rw [if_pos rfl]
  have e1 : (wipe σ [i]).set i (some x) = σ.set i (some x) := by simp [wipe, List.set_set]
  rw [e1]
  refine ⟨δ.set i (some d), τ2, _, (sr.stp s2).set i (dx τ2 s2) hi, w2, q2, fun y e τ3 H3 s3 w3 x3 q3 => ?_⟩
  obtain ⟨out, eo, ho, q⟩ := q3
  obtain ⟨acc, ha, al⟩ := w3.1 D out eo
  refine ⟨acc, ha, by rw [al.length]; exact Nat.lt_trans ho (by decide), mset τ3 D (out ++ [e]), (s2.trans s3).trans (.put eo), w3.put eo (al.snoc x3), q⟩
theorem lc_fin {K : PySem.W.Frag} {i : Nat} {te : DE} {δ : Dl} {D : Addr} {τ : Ms} {τ1 : Ms} {H H1 : Hp} {R : DK} {Q : VK} (s1 : Stp τ H τ1 H1) (kk : kE K τ H R Q) {H2 : Hp} (h : ∃ τ2, Stp τ1 H1 τ2 H2 ∧ TW K τ2 H2 ∧ dLcL i te δ D [] τ2 R) : Q (.ref D) H2 := by
  obtain ⟨τ2, s2, w2, out, eo, q⟩ := h
  obtain ⟨acc, ha, al⟩ := w2.1 D out eo
  exact kk _ _ _ _ ((s1.trans s2).trans .give) (w2.give (noTab eo)) (.lst mdel_same (.inl ha) (DxAll.stp .give _ _ al)) q
theorem qe_lcT (B : Bx X N sc k) (i : Nat) {x : Str} {iter elt : Expr} {scope : Scope} {p : Pos} {ti : DE} (hi : QE X iter ti) (he : ∀ (s : Shared) (H : Hp) (C : Addr) (cl : List (Str × Addr)) (fp : List Addr), QE (X.blk s H scope (compEnvC scope cl C X.env) fp) elt te)
    (ok : blkC N sc scope [(x, i)] = true := by decide +kernel) (h1 : N[i]? = some x := by rfl) (hx : (relS scope sc).names.lookup x = some .local := by rfl) (hs : ∀ x, foldedSetIterable iter X.env x = pure x := by intro _; rfl) :
    QE X (.ListComp elt [⟨.Name x p, iter, [], 0⟩] scope pos) (dLcT i ti te) := by
  have hl : i < X.N.length := by rw [B.n]; exact (List.getElem?_eq_some_iff.mp h1).1
  refine ⟨fun pins s σ H Q I q => pe_lc (own := [(x, i)]) (g := gName i) (te := lE X.K te) B.calm (by rw [B.n]; exact B.nd) (pi_tup hi.pe) (blkOk_by (by rw [B.n, B.scp]; exact ok)) (fun s H C cl fp => pg_name (i := i) (by show X.N.Nodup; rw [B.n]; exact B.nd) (by show X.N[i]? = _; rw [B.n]; exact h1) (.inl (by have := (B.blk s H scope cl C fp).scp; rw [this]; exact hx)) (.inr (by have := (B.blk s H scope cl C fp).scp; rw [this]; exact hx))) (fun _ _ _ _ _ => pts_nil) (fun s H C cl fp => (he s H C cl fp).pe) hs pins s σ H Q I ?_⟩
  have hi' : i < σ.length := by rw [I.len]; exact hl
  obtain ⟨δ, τ, R, sr, tw, h, kk⟩ := q
  refine ⟨δ, τ, _, sr, tw, h, fun v d τ1 H1 s1 w1 x1 q1 => ?_⟩
  split at q1
  · rename_i ds
    obtain ⟨a, xs, rfl, sq, al⟩ := x1.tupStp
    refine ⟨a, rfl, ⟨xs, sq τ1 H1 .refl⟩, fun D hD => ?_⟩
    refine lc_tup (K := X.K) (a := a) (xs := xs) (fun j H2 => ∃ τ2, Stp τ1 H1 τ2 H2 ∧ TW X.K τ2 H2 ∧ dLcL i te δ D (ds.drop j) τ2 R) ⟨_, .own hD, w1.own hD .nil, q1 D (w1.free hD)⟩ (fun j H2 _ ⟨τ2, s2, _⟩ => sq τ2 H2 s2) (fun j x H2 ex h => ?_) (fun H2 h => ?_)
    · obtain ⟨d, ed, dx⟩ := al.got ex
      exact lc_turn hi' (sr.stp s1) ed h fun τ2 s2 => Dx.stp s2 _ _ dx
    · rw [al.length, List.drop_length] at h
      exact lc_fin s1 kk h
  · exact q1.elim
theorem dLcL_pure {i : Nat} {te : DE} {δ : Dl} {D : Addr} (f : PyData → PyData) : ∀ {ds out : List PyData} {τ : Ms} {R : DK}, (∀ d ∈ ds, ∀ τ' (R' : DK), R' (f d) τ' → te (δ.set i (some d)) τ' R') → τ D = none → out.length + ds.length ≤ 1000 → R (.list (out ++ ds.map f)) τ → dLcL i te δ D ds (mset τ D out) R
  | [], out, τ, R, _, hD, _, q => ⟨out, mset_same, by rw [mdel_mset hD]; simpa using q⟩
  | d :: ds, out, τ, R, h, hD, hl, q => by
    refine h d List.mem_cons_self _ _ ⟨out, mset_same, by simp at hl; omega, ?_⟩
    rw [mset_mset]
    exact dLcL_pure f (fun d' hd' => h d' (List.mem_cons_of_mem _ hd')) hD (by simp at hl ⊢; omega) (by simpa using q)
def flatD : PyData → Bool
  | .none => true
  | .bool _ => true
  | .int _ => true
  | .str _ => true
  | _ => false
theorem flat_dx {K : PySem.W.Frag} {τ : Ms} {H : Hp} {v : V} {d : PyData} (h : Dx K τ H v d) (f : flatD d = true) : flatV v = true := by cases h <;> first | rfl | cases f
theorem eqV_dx {K : PySem.W.Frag} {τ : Ms} {H : Hp} {v w : V} {d e : PyData} (h : Dx K τ H v d) (h' : Dx K τ H w e) (f : flatD d = true) (g : flatD e = true) : eqV v w = PyData.eqv d e := by
  cases h <;> first | (cases h' <;> first | (simp [eqV, PyData.eqv]; done) | cases g) | cases f
theorem flats_dx {K : PySem.W.Frag} {τ : Ms} {H : Hp} : ∀ {xs : List V} {ds : List PyData}, DxAll K τ H xs ds → ds.all flatD = true → xs.all flatV = true
  | _, [], h, _ => by cases h; rfl
  | _, d :: ds, h, f => by
    cases h with | cons a b =>
    rw [List.all_cons, Bool.and_eq_true] at f ⊢
    exact ⟨flat_dx a f.1, flats_dx b f.2⟩
theorem inV_dx {K : PySem.W.Frag} {τ : Ms} {H : Hp} {x : V} {d : PyData} (h : Dx K τ H x d) (f : flatD d = true) : ∀ {xs : List V} {ds : List PyData}, DxAll K τ H xs ds → ds.all flatD = true → inV x xs = ds.any fun y => PyData.eqv y d
  | _, [], h, _ => by cases h; rfl
  | _, e :: ds, hh, g => by
    cases hh with | cons a b =>
    rw [List.all_cons, Bool.and_eq_true] at g
    have ih := inV_dx h f b g.2
    unfold inV at ih ⊢
    rw [List.any_cons, List.any_cons, ih, eqV_dx a h g.1 f]
def dInR : D2 := fun d e τ R => match e with
  | .tuple ds => flatD d = true ∧ ds.all flatD = true ∧ R (.bool (ds.any fun y => PyData.eqv y d)) τ
  | .list ds => flatD d = true ∧ ds.all flatD = true ∧ R (.bool (ds.any fun y => PyData.eqv y d)) τ
  | _ => False
theorem li_in {K : PySem.W.Frag} : Li2 K (rIn K false) dInR := by
  intro τ H x y d e R Q tw x1 x2 h kk
  unfold dInR at h
  split at h
  · obtain ⟨f, g, h⟩ := h
    obtain ⟨a, xs, rfl, sq, al⟩ := x2.tupInv
    exact ⟨a, xs, rfl, .inr sq, flat_dx x1 f, flats_dx al g, by simp only [if_neg Bool.false_ne_true]; rw [inV_dx x1 f al g]; exact kk _ _ τ H .refl tw (.bl _) h⟩
  · obtain ⟨f, g, h⟩ := h
    obtain ⟨a, xs, rfl, sq, al⟩ := x2.lstInv
    exact ⟨a, xs, rfl, .inl sq, flat_dx x1 f, flats_dx al g, by simp only [if_neg Bool.false_ne_true]; rw [inV_dx x1 f al g]; exact kk _ _ τ H .refl tw (.bl _) h⟩
  · exact h.elim
theorem qe_in (ha : QE X a ta) (hb : QE X b tb) (hm : behindInMarks .In b = false := by rfl) : QE X (.Compare a [.In] [b] pos) (dOp dInR ta tb) := qe_cmp op_in_seq li_in ha hb hm
def isD : PyData → PyData → Option Bool
  | .bool a, .bool b => some (a == b)
  | .none, .none => some true
  | .bool _, .none => some false
  | .int _, .none => some false
  | .str _, .none => some false
  | .list _, .none => some false
  | .tuple _, .none => some false
  | .dict _, .none => some false
  | _, _ => none
def isV (x y : V) : Option Bool := match x, y with
  | .bl a, .bl b => some (a == b)
  | x, .non => some (decide (x = .non))
  | _, _ => none
theorem isV_dx {K : PySem.W.Frag} {τ : Ms} {H : Hp} {v w : V} {d e : PyData} {r : Bool} (h : Dx K τ H v d) (h' : Dx K τ H w e) (q : isD d e = some r) : isV v w = some r := by
  cases h <;> cases h' <;> simp [isD] at q <;> subst q <;> simp [isV]
theorem op_isV : OpR X (compareOp .Is) (fun x y H Q => ∃ r, isV x y = some r ∧ Q (.bl r) H) := by
  intro pins s σ H x y v u Q I rx ry h
  obtain ⟨r, e, q⟩ := h
  unfold isV at e
  split at e
  · cases e; cases rx; cases ry
    exact is_bool ⟨.bl _, H, I, rfl, q⟩
  · cases e
    exact op_isN pins s σ H _ .non v u Q I rx ry ⟨rfl, q⟩
  · cases e
theorem op_isNotV : OpR X (compareOp .IsNot) (fun x y H Q => ∃ r, isV x y = some r ∧ Q (.bl (!r)) H) := by
  intro pins s σ H x y v u Q I rx ry h
  obtain ⟨r, e, q⟩ := h
  unfold isV at e
  split at e
  · cases e; cases rx; cases ry
    exact isnot_bool ⟨.bl _, H, I, rfl, q⟩
  · cases e
    exact op_notN pins s σ H _ .non v u Q I rx ry ⟨rfl, q⟩
  · cases e
def dIsR : D2 := fun d e τ R => match isD d e with | some r => R (.bool r) τ | none => False
def dIsNR : D2 := fun d e τ R => match isD d e with | some r => R (.bool (!r)) τ | none => False
theorem li_is {K : PySem.W.Frag} : Li2 K (fun x y H Q => ∃ r, isV x y = some r ∧ Q (.bl r) H) dIsR := by
  intro τ H x y d e R Q tw x1 x2 h kk
  unfold dIsR at h
  split at h
  · rename_i r er
    exact ⟨r, isV_dx x1 x2 er, kk _ _ τ H .refl tw (.bl _) h⟩
  · exact h.elim
theorem li_isN {K : PySem.W.Frag} : Li2 K (fun x y H Q => ∃ r, isV x y = some r ∧ Q (.bl (!r)) H) dIsNR := by
  intro τ H x y d e R Q tw x1 x2 h kk
  unfold dIsNR at h
  split at h
  · rename_i r er
    exact ⟨r, isV_dx x1 x2 er, kk _ _ τ H .refl tw (.bl _) h⟩
  · exact h.elim
theorem qt_is (ha : QE X a ta) (hb : QE X b tb) : QT X (.Compare a [.Is] [b] pos) (dTst (dOp dIsR ta tb)) := qt_cmp op_isV li_is ha hb (nomark _)
theorem qt_isN (ha : QE X a ta) (hb : QE X b tb) : QT X (.Compare a [.IsNot] [b] pos) (dTst (dOp dIsNR ta tb)) := qt_cmp op_isNotV li_isN ha hb (nomark _)
theorem DxAll.append {K : PySem.W.Frag} {τ : Ms} {H : Hp} : ∀ {xs ys : List V} {ds es : List PyData}, DxAll K τ H xs ds → DxAll K τ H ys es → DxAll K τ H (xs ++ ys) (ds ++ es)
  | _, _, [], _, h, q => by cases h; exact q
  | _, _, d :: ds, _, h, q => by cases h with | cons a b => exact .cons a (DxAll.append b q)
theorem DxAll.rep {K : PySem.W.Frag} {τ : Ms} {H : Hp} {xs : List V} {ds : List PyData} (h : DxAll K τ H xs ds) (n : Nat) : DxAll K τ H (List.replicate n xs).flatten (List.replicate n ds).flatten := by
  induction n with
  | zero => exact .nil
  | succ n ih => rw [List.replicate_succ, List.replicate_succ, List.flatten_cons, List.flatten_cons]; exact h.append ih
def dRep (tr : DA) (tb : DE) : DE := fun δ τ R => tr δ τ fun ds τ1 => ds.length ≤ 1000 ∧ tb δ τ1 fun e τ2 => match e with | .int n => 0 ≤ n ∧ n ≤ 1000 ∧ R (.list (List.replicate n.toNat ds).flatten) τ2 | _ => False
theorem qe_rep {p : Pos} (h : QA X es tr) (hb : QE X b tb) : QE X (.BinOp (.List es p) .Mult b pos) (dRep tr tb) := by
  refine .of (pe_op op_rep (pe_lst h.pa) hb.pe) ?_
  rintro σ H Q ⟨δ, τ, R, sr, tw, h, kk⟩
  refine ⟨δ, τ, _, sr, tw, h, fun vs ds τ1 H1 s1 w1 x1 q1 => ⟨?_, fun p hp => ?_⟩⟩
  · rw [x1.length]; exact Nat.le_of_lt (small1000 q1.1)
  · refine ⟨δ, τ1, _, sr.stp (s1.trans (.new hp)), w1.new hp, q1.2, fun v e τ2 H2 s2 w2 x2 q2 => ?_⟩
    split at q2
    · rename_i n
      obtain ⟨n0, n1, q2⟩ := q2
      cases x2.intInv
      have hP : H2 p = some (.lst vs) := (s2 p _ (w1.free hp) upd_same).2
      have al := DxAll.stp s2 _ _ (DxAll.stp (Stp.new hp (o := .lst vs)) _ _ x1)
      refine ⟨p, n, vs, rfl, rfl, hP, by omega, by omega, ?_, fun r hr => ?_⟩
      · rw [x1.length]
        have hz : sizeLine = 16777216 := sizeLine_eq
        rw [hz]
        exact Nat.le_trans (Nat.mul_le_mul q1.1 (show n.toNat ≤ 1000 by omega)) (by decide)
      · exact kk _ _ τ2 _ (((s1.trans (.new hp)).trans s2).trans (.new hr)) (w2.new hr) (.lst (w2.free hr) (.inl upd_same) (DxAll.stp (.new hr) _ _ (al.rep _))) q2
    · exact q2.elim
end
end L3
end
section
set_option Elab.async false
set_option linter.all false
set_option maxRecDepth 100000
set_option maxHeartbeats 4000000
namespace L3
open PySem PySem.Spec L2
open PyProof.Rows hiding St
structure Fu (K : PySem.W.Frag) (x : Str) (st : Stmt) (f : Addr) (fd : FuncData) (dV : Value) : Prop where
  ex : ∃ (oc : Value) (od : Option Addr) (kV doc pm : Value) (an : Option Addr) (cdv ct : Value) (osl : Array (Option Value)),
    fd = PySem.W.fnOf x x (defArgs st) (defBody st) (defScope st) dV kV doc pm an cdv ct ∧ K.lookup f = some ⟨oc, od, .func fd, osl⟩ ∧ PySem.W.codeIn K cdv x = true
  kp : PySem.W.keepIn K (.ref f) = true
def startD (N : List Str) (ds : List PyData) : Dl := ds.map some ++ List.replicate (N.length - ds.length) none
theorem sr_start {K : PySem.W.Frag} {τ : Ms} {H : Hp} {N : List Str} {vs : List V} {ds : List PyData} (h : DxAll K τ H vs ds) : SR K τ H (start N vs) (startD N ds) := fun i d e => by
  unfold startD at e
  by_cases hi : i < ds.length
  · rw [List.getElem?_append_left (by simpa using hi), List.getElem?_map] at e
    cases q : ds[i]? with
    | none => rw [q] at e; cases e
    | some d' =>
      rw [q] at e; cases e
      obtain ⟨v, h1, h2⟩ := h.get q
      refine ⟨v, ?_, h2⟩
      unfold L2.start
      rw [List.getElem?_append_left (by rw [List.length_map, h.length]; exact hi), List.getElem?_map, h1]
      rfl
  · rw [List.getElem?_append_right (by simpa using hi), List.getElem?_replicate] at e
    split at e <;> cases e
abbrev Gm := Program → World → PySem.W.Frag → (Str → Option Value) → Heap → Prop
def dEnd (R : DK) : DEnds := ⟨fun _ τ' => R .none τ', R, fun _ _ => False, fun _ _ => False⟩
section
variable {P : Program} {w : World} {K : PySem.W.Frag} {mg : Str → Option Value} {base : Heap} {x : Str} {st : Stmt} {f : Addr} {fd : FuncData} {dV : Value} {N ps : List Str} {k n : Nat} {dsp : DSp}
theorem bs_of {X : Cx} (hN : X.N = N) (hs : X.env.scope = defScope st) (nd : N.Nodup) (hc : X.calm = true) (hr : Room k X.A) (hx : X.xe = fun _ _ => False) (hf : X.fn = fun _ => true) : Bs X N (defScope st) k :=
  { n := hN, scp := hs, nd := nd, calm := hc, room := hr, po := by rw [hx]; exact PassesOwn.never, fn := fun _ _ => by rw [hf] }
theorem fn_K (Γ : Gm) (hΓ : Γ P w K mg base) (F : Fu K x st f fd dV) (S : FnScope N ps (defScope st)) (hps : ps.length = n)
    (body : ∀ X : Cx, Bs X N (defScope st) k → Γ X.prog X.w X.K X.mg X.base → ∃ t, QSs X (defBody st) t ∧ ∀ ds τ R, ds.length = n → dsp ds τ R → t (dEnd R) (startD N ds) τ) : FnOk P w K mg base CX0 (k + 1) f fd ps (lSp K n dsp) := by
  obtain ⟨oc, od, kV, doc, pm, an, cdv, ct, osl, rfl, lk, hcd⟩ := F.ex
  refine fn_of lk hcd S (fun vs H Q E h => ?_) fun A outer s H vs Q E hr hsp => ?_
  · obtain ⟨ds, τ, R, hl, al, _⟩ := h
    rw [al.length, hl, hps]
  · obtain ⟨ds, τ, R, hl, al, tw, h, kk⟩ := hsp
    obtain ⟨t, ht, hq⟩ := body (cxOf CX0 P w K mg base N x (defScope st) f cdv A outer s H E).nox (bs_of rfl rfl S.nd rfl hr rfl rfl) hΓ
    refine ⟨_, ht.ps.nox, startD N ds, τ, dEnd R, ?_, sr_start al, tw, hq ds τ R hl h, ⟨fun σ δ τ' H' _ s1 w1 _ q1 => kk _ _ τ' H' s1 w1 .non q1, kk, fun _ _ _ _ _ _ _ _ q => q.elim, fun _ _ _ _ _ _ _ _ q => q.elim⟩⟩
    have hpl : ps.length ≤ N.length := by have := congrArg List.length S.pre; rw [List.length_take] at this; omega
    have hv : vs.length = ps.length := by rw [al.length, hl, hps]
    show (start N vs).length = N.length
    unfold L2.start
    rw [List.length_append, List.length_map, List.length_replicate]
    omega
theorem fn_D (Γ : Gm) (hΓ : Γ P w K mg base) (F : Fu K x st f fd dV) (S : FnScope N ps (defScope st)) (hps : ps.length = n) (hm : mg x = some (.ref f)) (hb : Binds K fd ps [])
    (body : ∀ X : Cx, Bs X N (defScope st) k → Γ X.prog X.w X.K X.mg X.base → ∃ t, QSs X (defBody st) t ∧ ∀ ds τ R, ds.length = n → dsp ds τ R → t (dEnd R) (startD N ds) τ) : FnD P w K mg base x (k + 1) n dsp :=
  ⟨f, fd, ps, fn_K Γ hΓ F S hps body, hm, F.kp, hb⟩
structure FnS (P : Program) (w : World) (K : PySem.W.Frag) (mg : Str → Option Value) (base : Heap) (x : Str) (k : Nat) (dsp : DSp) : Prop where
  ex : ∃ f, (∀ (A : Around) (outer : List Env) (s : Shared) (H : Hp) (us : List Value) (vs : List V) (Q : VK), Room k A → Env0 P w K mg base A outer s H → Vals vs us → (∃ ds τ R, ds.length ≤ 1000 ∧ DxAll K τ H vs ds ∧ TW K τ H ∧ dsp [.tuple ds] τ R ∧ kE K τ H R Q) →
    codeAny (model P w) A (.call (.ref f) ⟨us, []⟩) (CR CX0 outer P w H s Q E0) s) ∧ mg x = some (.ref f) ∧ PySem.W.keepIn K (.ref f) = true
theorem FnS.mono {j : Nat} (F : FnS P w K mg base x j dsp) (h : j ≤ k) : FnS P w K mg base x k dsp :=
  let ⟨f, a, b, c⟩ := F.ex
  ⟨f, fun A outer s H us vs Q hr => a A outer s H us vs Q (hr.mono h), b, c⟩
theorem Env0.laid {A : Around} {outer : List Env} {s : Shared} {H : Hp} (e : Env0 P w K mg base A outer s H) {o : HO} {ob : Obj} (new : ObjOk P w (upd H s.heap.objs.size o) (s.heap.push ob) s.heap.objs.size o) (hd : ∀ v, ob.data ≠ .cell v) :
    Env0 P w K mg base A outer { s with heap := s.heap.push ob } (upd H s.heap.objs.size o) := by
  have kp : ∀ b u, s.heap.get? b = some u → (s.heap.push ob).get? b = some u := fun b u q => Heap.get?_push_of_some _ q
  have ne : ∀ {b : Addr} {u : Obj}, s.heap.get? b = some u → b ≠ s.heap.objs.size := fun q => Nat.ne_of_lt (Heap.lt_size q)
  refine ⟨e.frames, e.mod, fun b u q => ⟨kp b u (e.bs b u q).1, by rw [upd_ne (ne (e.bs b u q).1)]; exact (e.bs b u q).2⟩, ?_, ?_, fun b hb => ?_, e.hok.laid kp (Nat.le_refl _) new, e.bare⟩
  · show base.objs.size ≤ (s.heap.push ob).objs.size
    have e1 : (s.heap.push ob).objs.size = s.heap.objs.size + 1 := by simp [Heap.push]
    rw [e1]
    exact Nat.le_succ_of_le e.bsz
  · exact e.funs.of_keeps fun b u q _ => ⟨u, kp b u q, rfl⟩
  · rw [upd_ne ?_]
    · exact e.frf b hb
    · obtain ⟨_, u, q, _⟩ := e.funs.mem hb
      exact ne q
end
def mT (ts : List Addr) : Ms := ⟨fun b => if b ∈ ts then some .tab else none, none⟩
def OnlyT (ts : List Addr) (a : Addr) (H : Hp) : Prop := (∀ b, H b = none ∨ (∃ o xs, H b = some (.frz o (.lst xs))) ∨ (b ∈ ts ∧ H b = some (.tbl #[]))) ∧ (∀ b ∈ ts, H b = some (.tbl #[])) ∧ a ∉ ts
def tabTest (ts : List Addr) (K : PySem.W.Frag) : Bool := K.all fun x => match x.2.data with
  | .fields vs => (match (vs[1]? : Option Value), (vs[11]? : Option Value) with
    | some (.str n _), some (.ref P) => (match nestN n with | some _ => ts.contains P | none => true)
    | _, _ => true)
  | _ => true
def tabHas (ts : List Addr) (K : PySem.W.Frag) : Bool := ts.all fun P => (K.lookup P).isNone && (tabQ K P).isSome && K.any fun x => (match K.lookup x.1 with
  | some o => (match o.cls with | .type t => t == "code" | _ => false) && (match o.data with
    | .fields vs => (match (vs[11]? : Option Value) with
      | some (.ref P') => P' == P
      | _ => false)
    | _ => false)
  | none => false)
theorem tab_of {ts : List Addr} {K : PySem.W.Frag} (h : tabTest ts K = true) {P : Addr} {q : Str} (t : TabIn K P q) : P ∈ ts := by
  obtain ⟨x, hx, e⟩ := List.exists_of_findSome?_eq_some t
  have h1 := List.all_eq_true.mp h _ hx
  unfold tabE at e
  split at e
  · rename_i vs hv
    rw [hv] at h1
    split at e
    · rename_i n tk P' e1 e2
      split at e
      · rename_i z
        have z := eq_of_beq z
        subst z
        simp only [e1, e2, e] at h1
        simpa using h1
      · cases e
    · cases e
  · cases e
theorem tabs_of {ts : List Addr} {K : PySem.W.Frag} (h : tabHas ts K = true) {P : Addr} (hP : P ∈ ts) : K.lookup P = none ∧ (∃ q, TabIn K P q) ∧ ∃ c o vs, K.lookup c = some o ∧ o.cls = .type "code" ∧ o.data = .fields vs ∧ vs[11]? = some (.ref P) := by
  have h1 := List.all_eq_true.mp h P hP
  simp only [Bool.and_eq_true] at h1
  obtain ⟨⟨h1, h0⟩, h2⟩ := h1
  obtain ⟨x, hx, h3⟩ := List.any_eq_true.mp h2
  refine ⟨by simpa using h1, Option.isSome_iff_exists.mp h0, ?_⟩
  split at h3
  · rename_i o ho
    simp only [Bool.and_eq_true] at h3
    obtain ⟨hc, h3⟩ := h3
    split at hc
    · rename_i tt hcl
      have hc := eq_of_beq hc
      subst hc
      split at h3
      · rename_i vs hv
        split at h3
        · rename_i P' e2
          have e3 := eq_of_beq h3
          subst e3
          exact ⟨x.1, o, vs, ho, hcl, hv, e2⟩
        · cases h3
      · cases h3
    · cases hc
  · cases h3
theorem vals_intsD {vs : List Value} {ns : List Int} (h : IntsAre vs ns) : Vals (ns.map V.int) vs := vals_ints h
structure BMd (base : Heap) (mg : Str → Option Value) : Prop where
  ex : ∃ bm o, mg "__builtins__" = some (.ref bm) ∧ bm ≠ builtinsNs ∧ bm ≠ mainGlobals ∧ base.get? bm = some o ∧ o.cls = .type "module" ∧ o.dict = some builtinsNs ∧ o.data = .plain
theorem law_callT {P : Program} {w : World} {K : PySem.W.Frag} {mg mb : Str → Option Value} {k : Nat} {fa a : Addr} {fd : FuncData} {x : Str} {sp : Sp} {s₁ : Shared} {vs : List Value} {ns : List Int} {ts : List Addr}
    (KX : K.In s₁.heap) (hT : tabTest ts K = true) (hT2 : tabHas ts K = true) (hTs : ∀ P ∈ ts, s₁.heap.get? P = some (PySem.W.tabObj #[])) (hns : s₁.heap.Ns mainGlobals mg) (hb : s₁.heap.Ns builtinsNs mb) (hbb : ∀ x : Str, x ≠ "__name__" → mb x = bootBuiltins x) (hlim : s₁.heap.NoLimit) (hg : s₁.gens = #[])
    (ha : s₁.heap.get? a = some { cls := .type "list", data := .seq vs.toArray }) (hi : IntsAre vs ns) (hl : ns.length ≤ sizeLine) (hr : Room k callerA)
    (hbm : BMd s₁.heap mg) (F : ∀ base : Heap, K.In base → base.Ns mainGlobals mg → BMd base mg → FnOk P w K mg base CX0 k fa fd [x] sp) (hbind : ∀ (s : Shared) (u : Value), BindsTo s fd ⟨[u], []⟩ [(x, u)])
    (hsp : ∀ H : Hp, OnlyT ts a H → SqL K H a (ns.map V.int) → sp [.ref a] H (fun v _ => v = .bl true) fun _ _ _ => False) :
    codeAny (model P w) callerA (.call (.ref fa) ⟨[.ref a], []⟩) (fun r s' => r = .ok (.ret (.bool true)) ∧ OldK s₁.heap s'.heap ∧ s'.os = s₁.os ∧ AllBare s'.gens) s₁ := by
  have rv := vals_intsD hi
  have lenV := hi.length
  have haT : a ∉ ts := fun z => by have := hTs a z; rw [ha] at this; cases this
  have core : ∀ H : Hp, OnlyT ts a H → SqL K H a (ns.map V.int) → HOk P w H s₁.heap → (∀ b, H b ≠ none → b = a ∨ b ∈ ts) → (H a ≠ none → K.lookup a = none) →
      codeAny (model P w) callerA (.call (.ref fa) ⟨[.ref a], []⟩) (fun r s' => r = .ok (.ret (.bool true)) ∧ OldK s₁.heap s'.heap ∧ s'.os = s₁.os ∧ AllBare s'.gens) s₁ := by
    intro H hO hS hok hA hK
    have base_of : ∀ {b : Addr} {o : Obj}, s₁.heap.get? b = some o → H b = none → (hidT s₁.heap H).get? b = some o := fun e n => hidT_get e n
    have noA : ∀ {b : Addr} {o : Obj} {es : Array DictEntry} {ep : Nat}, s₁.heap.get? b = some o → o.data = .dict es ep → H b = none := fun {b o es ep} e d => by
      cases q : H b with
      | none => rfl
      | some u =>
        rcases hA b (by rw [q]; simp) with e' | e'
        · subst e'
          rw [ha] at e; cases e
          have d' : Data.seq vs.toArray _ = Data.dict es ep := d
          cases d'
        · rw [hTs b e'] at e; cases e; cases d
    have nsK : ∀ {b : Addr} {m : Str → Option Value}, s₁.heap.Ns b m → (hidT s₁.heap H).Ns b m := fun {b m} ⟨o, es, ep, e, d, r⟩ => ⟨o, es, ep, base_of e (noA e d), d, r⟩
    have hKb : K.In (hidT s₁.heap H) := fun b o e => base_of (KX b o e) (by
      cases q : H b with
      | none => rfl
      | some u =>
        rcases hA b (by rw [q]; simp) with e' | e'
        · subst e'
          rw [hK (by rw [q]; simp)] at e; cases e
        · rw [(tabs_of hT2 e').1] at e; cases e)
    have hBm : BMd (hidT s₁.heap H) mg := by
      obtain ⟨bm, o, m1, m2, m3, m4, m5, m6, m7⟩ := hbm.ex
      refine ⟨bm, o, m1, m2, m3, base_of m4 ?_, m5, m6, m7⟩
      cases q : H bm with
      | none => rfl
      | some u =>
        rcases hA bm (by rw [q]; simp) with e' | e'
        · subst e'
          rw [ha] at m4; cases m4; cases m7
        · rw [hTs bm e'] at m4; cases m4; cases m7
    have hM : Mod K mg (hidT s₁.heap H) := ⟨hKb, nsK hns, ⟨mb, nsK hb, hbb⟩, let ⟨mc, h1, h2⟩ := hlim; ⟨mc, nsK h1, h2⟩⟩
    have e0 : Env0 P w K mg (hidT s₁.heap H) callerA [] s₁ H := ⟨rfl, hM, fun b o e => of_hidT e, Nat.le_of_eq (hidT_size _ _), trivial, fun b hb => absurd (show b ∈ ([] : List Addr) from hb) (by simp), hok, .of_eq hg⟩
    refine codeAny_mono ((F _ hKb (nsK hns) hBm).run callerA [] s₁ H ⟨[.ref a], []⟩ [.ref a] [.ref a] _ _ hr e0 (hbind s₁ (.ref a)) (.cons rfl .nil) (hsp H hO hS)) fun r s' h => ?_
    cases r with
    | error e => exact False.elim h
    | ok fl =>
      cases fl with
      | next => exact False.elim h
      | brk => exact False.elim h
      | cont => exact False.elim h
      | ret u =>
        obtain ⟨v, H', os, bare, un, hok', r', q⟩ := h
        have q' : v = .bl true := q
        subst q'
        obtain rfl : u = Value.bool true := r'
        have kept : ∀ b o, s₁.heap.get? b = some o → b ∉ ts → s'.heap.get? b = some o := fun b o e nb => by
          cases q : H b with
          | none => exact un.keep b o e q (by intro z; exact absurd (show b ∈ ([] : List Addr) from z) (by simp)) (by simp)
          | some u =>
            rcases hO.1 b with z | ⟨ob, xs, z⟩ | ⟨z, _⟩
            · rw [q] at z; cases z
            · have z2 := un.frzs b ob _ z
              obtain ⟨e1, _⟩ := hok b _ z
              obtain ⟨e2, _⟩ := hok' b _ z2
              rw [e] at e1; cases e1
              exact e2
            · exact absurd z nb
        have grown : ∀ b ∈ ts, ∃ more, s'.heap.get? b = some (PySem.W.tabObj (#[] ++ more)) := fun b hb => by
          obtain ⟨more, z⟩ := un.tbls b _ (hO.2.1 b hb)
          exact ⟨more, hok' b _ z⟩
        refine ⟨rfl, ⟨fun b o e => ?_, fun b o e => ?_⟩, os, bare⟩
        · by_cases hb : b ∈ ts
          · obtain ⟨more, z⟩ := grown b hb
            rw [hTs b hb] at e
            cases e
            obtain ⟨_, _, c, oc, vc, h1, h2, h3, h4⟩ := tabs_of hT2 hb
            exact .inr (.inl ⟨⟨c, oc, vc, KX c oc h1, h2, h3, h4⟩, rfl, #[], more, rfl, z⟩)
          · exact .inl (kept b o e hb)
        · by_cases hb : b ∈ ts
          · obtain ⟨more, z⟩ := grown b hb
            exact ⟨_, z⟩
          · exact ⟨o, kept b o e hb⟩
  have tabOk : ∀ b ∈ ts, ∀ u, (if b ∈ ts then some (HO.tbl #[]) else none) = some u → ObjOk P w (fun _ => none) s₁.heap b u := fun b hb u z => by
    rw [if_pos hb] at z; cases z
    exact hTs b hb
  cases hk : K.lookup a with
  | some o =>
    have e := KX a o hk
    rw [ha] at e
    cases e
    refine core (fun b => if b ∈ ts then some (.tbl #[]) else none) ⟨fun b => ?_, fun b hb => if_pos hb, haT⟩ (.inr ⟨_, vs.toArray, _, hk, rfl, rfl, rfl, by rw [List.size_toArray, lenV]; exact hl, by simpa using rv⟩) (fun b u z => ?_) (fun b z => ?_) fun z => absurd (if_neg haT) z
    · by_cases hb : b ∈ ts
      · exact .inr (.inr ⟨hb, if_pos hb⟩)
      · exact .inl (if_neg hb)
    · by_cases hb : b ∈ ts
      · have z' := (if_pos hb).symm.trans z
        cases z'
        exact hTs b hb
      · have z' := (if_neg hb).symm.trans z
        cases z'
    · by_cases hb : b ∈ ts
      · exact .inr hb
      · exact absurd (if_neg hb) z
  | none =>
    refine core (fun b => if b = a then some (.frz { cls := .type "list", data := .seq vs.toArray } (.lst (ns.map V.int))) else if b ∈ ts then some (.tbl #[]) else none) ⟨fun b => ?_, fun b hb => ?_, haT⟩ (.inl (.inr ⟨{ cls := .type "list", data := .seq vs.toArray }, if_pos rfl⟩)) (fun b u z => ?_) (fun b z => ?_) fun _ => hk
    · by_cases hb : b = a
      · exact .inr (.inl ⟨_, _, if_pos hb⟩)
      · by_cases hc : b ∈ ts
        · exact .inr (.inr ⟨hc, (if_neg hb).trans (if_pos hc)⟩)
        · exact .inl ((if_neg hb).trans (if_neg hc))
    · have : b ≠ a := fun z => haT (z ▸ hb)
      exact (if_neg this).trans (if_pos hb)
    · by_cases hb : b = a
      · have z' := (if_pos hb).symm.trans z
        cases z'
        subst hb
        exact ⟨ha, by rw [List.length_map]; exact hl, vs, _, rv, ha⟩
      · have z' := (if_neg hb).symm.trans z
        by_cases hc : b ∈ ts
        · have z' := (if_pos hc).symm.trans z'
          cases z'
          exact hTs b hc
        · have z' := (if_neg hc).symm.trans z'
          cases z'
    · by_cases hb : b = a
      · exact .inl hb
      · by_cases hc : b ∈ ts
        · exact .inr hc
        · exact absurd ((if_neg hb).trans (if_neg hc)) z
theorem sq_dx {K : PySem.W.Frag} {H : Hp} {a : Addr} {ns : List Int} {ts : List Addr} (n : a ∉ ts) (h : SqL K H a (ns.map V.int)) : Dx K (mT ts) H (.ref a) (.list (ns.map .int)) := by
  rcases h with h | ⟨o, its, n, hk, hc, hd, hs, hz, r⟩
  · exact .lst (show (if a ∈ ts then _ else _) = _ from if_neg n) h .ints
  · exact .lstK hk hc hd hs hz r .ints
theorem mT_tab {ts : List Addr} {b : Addr} {o : Ow} (h : mT ts b = some o) : b ∈ ts ∧ o = .tab := by
  have h' : (if b ∈ ts then some Ow.tab else none) = some o := h
  by_cases z : b ∈ ts
  · rw [if_pos z] at h'; cases h'; exact ⟨z, rfl⟩
  · rw [if_neg z] at h'; cases h'
theorem walkD {l : PySem.W.OpenLaw} {q : Program} {loose : List Str} {XP : (Str → Option Value) → Heap → Prop} {YP : World → Heap → Prop} {d : DefRec} {K : Params → PySem.W.Frag} {x : Str} {k : Nat} {dsp : DSp} {ts : List Addr} (hn : l.most = some 63) (hdf : d.params.defaults = []) (hr : Room k callerA)
    (hY : ∀ (w : World) (h : Heap), YP w h → (K w.params).In h ∧ ∀ P ∈ ts, h.get? P = some (PySem.W.tabObj #[]))
    (hT : ∀ p, tabTest ts (K p) = true) (hT2 : ∀ p, tabHas ts (K p) = true)
    (hd : ∀ ns : List Int, ns.length ≤ 63 → dsp [.list (ns.map .int)] (mT ts) fun v _ => v = .bool true)
    (F : ∀ (w : World) (mg : Str → Option Value) (fa : Addr) (h : Heap), (K w.params).In h → h.Ns mainGlobals mg → mg d.name = some (.ref fa) →
      ∃ fd : FuncData, (∀ (s : Shared) (u : Value), BindsTo s fd ⟨[u], []⟩ [(x, u)]) ∧ ∀ base : Heap, (K w.params).In base → base.Ns mainGlobals mg → BMd base mg → FnOk l.prog w (K w.params) mg base CX0 k fa fd [x] (lSp (K w.params) 1 dsp)) :
    PySem.W.WalkO q loose XP YP l.row.toRowW d [] (fun f vs => PySem.call f vs) := by
  refine Att.attach_call hn hdf fun w s₀ s₁ mg mb fa o pm cd doc a vs ns G Y ho hd' hcd hmg hobj hints hlen hg => ?_
  obtain ⟨KX, TX⟩ := hY w _ Y
  obtain ⟨fd, hb, hF⟩ := F w mg fa _ KX G.T.g hmg
  have hBm : BMd s₁.heap mg := by
    obtain ⟨bm, ob, n1, n2, n3, n4, n5, n6, n7⟩ := PySem.W.bmod_of_top G.T
    refine ⟨bm, ob, n2, n3, fun z => ?_, n4, n5, n6, n7⟩
    obtain ⟨o, es, ep, e, d, _⟩ := n1
    rw [← z, n4] at e; cases e; rw [n7] at d; cases d
  refine law_callT KX (hT _) (hT2 _) TX G.T.g G.T.b G.T.builtins G.T.nolimit hg hobj hints (Nat.le_trans hlen (by decide)) hr hBm hF hb fun H hO hS => ?_
  refine ⟨[.list (ns.map .int)], mT ts, fun v _ => v = .bool true, rfl, .cons (sq_dx hO.2.2 hS) .nil, ?_, hd ns hlen, fun v d τ' H' _ _ x q => by subst q; exact x.blInv⟩
  refine TW.mk (fun a ds e => ?_) (fun p (e : none = some p) => (nomatch e)) (fun a kvs e => ?_) (fun P q t => ?_) (fun P e => ?_)
  · cases (mT_tab e).2
  · cases (mT_tab e).2
  · have hP := tab_of (hT _) t
    refine ⟨show (if P ∈ ts then _ else _) = _ from if_pos hP, #[], hO.2.1 P hP, trivial, fun pos cv z => ?_⟩
    cases z
  · exact (tabs_of (hT2 _) (mT_tab e).1).2.1
end L3
end
section
set_option linter.all false
set_option maxHeartbeats 2000000
namespace M
abbrev P3 := Int × Int × Int
def g3 (x y w : Int) : Int := (Int.gcd (Int.gcd w x : Int) y : Int)
def low (x y w : Int) : P3 :=
  let d := if w < 0 then -(g3 x y w) else g3 x y w
  (x.fdiv d, y.fdiv d, w.fdiv d)
def isP (p : P3) : Prop := 0 < p.2.2 ∧ g3 p.1 p.2.1 p.2.2 = 1
theorem g3_nn (x y w : Int) : 0 ≤ g3 x y w := Int.natCast_nonneg _
theorem g3_x (x y w : Int) : g3 x y w ∣ x := Int.dvd_trans (Int.gcd_dvd_left ..) (Int.gcd_dvd_right ..)
theorem g3_w (x y w : Int) : g3 x y w ∣ w := Int.dvd_trans (Int.gcd_dvd_left ..) (Int.gcd_dvd_left ..)
theorem g3_y (x y w : Int) : g3 x y w ∣ y := Int.gcd_dvd_right ..
theorem dvd_g3 {d x y w : Int} (hx : d ∣ x) (hy : d ∣ y) (hw : d ∣ w) : d ∣ g3 x y w := Int.dvd_coe_gcd (Int.dvd_coe_gcd hw hx) hy
theorem g3_ne {x y w : Int} (h : w ≠ 0) : g3 x y w ≠ 0 := fun e => by
  have := g3_w x y w
  rw [e] at this
  exact h (Int.zero_dvd.mp this)
theorem g3_mul (k x y w : Int) : g3 (k * x) (k * y) (k * w) = (k.natAbs : Int) * g3 x y w := by
  unfold g3
  rw [Int.gcd_mul_left]
  have h2 : Int.gcd ((k.natAbs * Int.gcd w x : Nat) : Int) (k * y) = k.natAbs * Int.gcd (Int.gcd w x : Int) y := by
    rw [Int.gcd_eq_natAbs_gcd_natAbs, Int.natAbs_natCast, Int.natAbs_mul, Nat.gcd_mul_left, Int.gcd_eq_natAbs_gcd_natAbs (Int.gcd w x : Int) y, Int.natAbs_natCast]
  rw [h2]
  simp
def dv (x y w : Int) : Int := if w < 0 then -(g3 x y w) else g3 x y w
theorem dv_ne {x y w : Int} (h : w ≠ 0) : dv x y w ≠ 0 := by
  have := g3_ne (x := x) (y := y) h
  unfold dv; split <;> omega
theorem dv_abs (x y w : Int) : ((dv x y w).natAbs : Int) = g3 x y w := by
  have := g3_nn x y w
  unfold dv; split <;> omega
theorem dv_dvd {x y w n : Int} (h : g3 x y w ∣ n) : dv x y w ∣ n := by
  unfold dv; split
  · exact Int.neg_dvd.mpr h
  · exact h
theorem low_eqs (x y w : Int) (h : w ≠ 0) : x = dv x y w * (low x y w).1 ∧ y = dv x y w * (low x y w).2.1 ∧ w = dv x y w * (low x y w).2.2 := by
  have hd := dv_ne (x := x) (y := y) h
  have key : ∀ n, dv x y w ∣ n → n = dv x y w * n.fdiv (dv x y w) := fun n ⟨c, e⟩ => by
    subst e; rw [Int.mul_fdiv_cancel_left _ hd]
  exact ⟨key x (dv_dvd (g3_x ..)), key y (dv_dvd (g3_y ..)), key w (dv_dvd (g3_w ..))⟩
theorem low_isP {x y w : Int} (h : w ≠ 0) : isP (low x y w) := by
  obtain ⟨e1, e2, e3⟩ := low_eqs x y w h
  have hd := dv_ne (x := x) (y := y) h
  have hg := g3_ne (x := x) (y := y) h
  have hn := g3_nn x y w
  generalize hp : low x y w = p at e1 e2 e3
  constructor
  · have ha := dv_abs x y w
    have s : (w < 0 → dv x y w < 0) ∧ (0 < w → 0 < dv x y w) := by unfold dv; constructor <;> intro q <;> simp [q, Int.not_lt.mpr (Int.le_of_lt q)] <;> omega
    generalize dv x y w = d at *
    rcases Int.lt_trichotomy w 0 with q | q | q
    · have := s.1 q
      rcases Int.lt_trichotomy p.2.2 0 with z | z | z
      · have := Int.mul_pos_of_neg_of_neg this z; omega
      · rw [z] at e3; simp at e3; omega
      · exact z
    · exact absurd q h
    · have := s.2 q
      rcases Int.lt_trichotomy p.2.2 0 with z | z | z
      · have := Int.mul_neg_of_pos_of_neg this z; omega
      · rw [z] at e3; simp at e3; omega
      · exact z
  · have q := g3_mul (dv x y w) p.1 p.2.1 p.2.2
    rw [← e1, ← e2, ← e3, dv_abs] at q
    have : g3 x y w * 1 = g3 x y w * g3 p.1 p.2.1 p.2.2 := by rw [Int.mul_one]; exact q
    exact (Int.eq_of_mul_eq_mul_left hg this).symm
theorem isP_uniq {p q : P3} (hp : isP p) (hq : isP q) (h1 : p.1 * q.2.2 = q.1 * p.2.2) (h2 : p.2.1 * q.2.2 = q.2.1 * p.2.2) : p = q := by
  obtain ⟨a, b, c⟩ := p
  obtain ⟨a', b', c'⟩ := q
  obtain ⟨c0, g⟩ := hp
  obtain ⟨c0', g'⟩ := hq
  simp only at *
  have d1 : c ∣ c' := by
    have : c ∣ g3 (c' * a) (c' * b) (c' * c) := dvd_g3 ⟨a', by rw [Int.mul_comm c' a, h1, Int.mul_comm]⟩ ⟨b', by rw [Int.mul_comm c' b, h2, Int.mul_comm]⟩ (Int.dvd_mul_left ..)
    rw [g3_mul, g, Int.mul_one] at this
    exact Int.dvd_natAbs.mp this
  have d2 : c' ∣ c := by
    have : c' ∣ g3 (c * a') (c * b') (c * c') := dvd_g3 ⟨a, by rw [Int.mul_comm c a', ← h1, Int.mul_comm]⟩ ⟨b, by rw [Int.mul_comm c b', ← h2, Int.mul_comm]⟩ (Int.dvd_mul_left ..)
    rw [g3_mul, g', Int.mul_one] at this
    exact Int.dvd_natAbs.mp this
  have e : c = c' := Int.dvd_antisymm (Int.le_of_lt c0) (Int.le_of_lt c0') d1 d2
  subst e
  have n : c ≠ 0 := by omega
  rw [Int.eq_of_mul_eq_mul_right n h1, Int.eq_of_mul_eq_mul_right n h2]
def bd (n : Nat) (p : P3) : Prop := p.1.natAbs ≤ n ∧ p.2.1.natAbs ≤ n ∧ p.2.2.natAbs ≤ n
theorem natAbs_le_of_mul {k a n : Int} {m : Nat} (hk : k ≠ 0) (e : n = k * a) (h : n.natAbs ≤ m) : a.natAbs ≤ m := by
  rw [e, Int.natAbs_mul] at h
  have : 1 ≤ k.natAbs := by omega
  exact Nat.le_trans (by have := Nat.mul_le_mul_right a.natAbs this; omega) h
theorem low_bd {x y w : Int} {n : Nat} (h : w ≠ 0) (b : bd n (x, y, w)) : bd n (low x y w) := by
  obtain ⟨e1, e2, e3⟩ := low_eqs x y w h
  have d := dv_ne (x := x) (y := y) h
  exact ⟨natAbs_le_of_mul d e1 b.1, natAbs_le_of_mul d e2 b.2.1, natAbs_le_of_mul d e3 b.2.2⟩
theorem bd.mono {n m : Nat} {p : P3} (h : bd n p) (l : n ≤ m) : bd m p := ⟨Nat.le_trans h.1 l, Nat.le_trans h.2.1 l, Nat.le_trans h.2.2 l⟩
theorem mulb {a b : Int} {n m : Nat} (ha : a.natAbs ≤ n) (hb : b.natAbs ≤ m) : (a * b).natAbs ≤ n * m := by rw [Int.natAbs_mul]; exact Nat.mul_le_mul ha hb
theorem addb {a b : Int} {n m : Nat} (ha : a.natAbs ≤ n) (hb : b.natAbs ≤ m) : (a + b).natAbs ≤ n + m := by omega
theorem subb {a b : Int} {n m : Nat} (ha : a.natAbs ≤ n) (hb : b.natAbs ≤ m) : (a - b).natAbs ≤ n + m := by omega
def tot (p q : P3) : P3 := low (p.1 * q.2.2 + q.1 * p.2.2) (p.2.1 * q.2.2 + q.2.1 * p.2.2) (p.2.2 * q.2.2)
def dif (p q : P3) : P3 := low (p.1 * q.2.2 - q.1 * p.2.2) (p.2.1 * q.2.2 - q.2.1 * p.2.2) (p.2.2 * q.2.2)
def prd (p q : P3) : P3 := low (p.1 * q.1 - p.2.1 * q.2.1) (p.1 * q.2.1 + p.2.1 * q.1) (p.2.2 * q.2.2)
def flp (p : P3) : P3 := (p.1, -p.2.1, p.2.2)
def fcd (p : P3) (f : Int) : P3 := if f = 1 then flp p else p
abbrev Mo := P3 × P3 × Int
def led (m : Mo) (p : P3) : P3 := tot (prd m.1 (fcd p m.2.2)) m.2.1
def xr (a b : Int) : Int := if a = b then 0 else 1
def thn (a b : Mo) : Mo := (prd b.1 (fcd a.1 b.2.2), led b a.2.1, xr a.2.2 b.2.2)
def one : P3 := (1, 0, 1)
def brg (t : P3) (f : Int) (p q : P3) : Mo := (t, dif q (prd t (fcd p f)), f)
def at1 (p : P3) : Prop := p.1 * p.1 + p.2.1 * p.2.1 = p.2.2 * p.2.2
def isM (m : Mo) : Prop := isP m.1 ∧ isP m.2.1 ∧ (m.2.2 = 0 ∨ m.2.2 = 1) ∧ at1 m.1
theorem ww {p : P3} (h : isP p) : p.2.2 ≠ 0 := by have := h.1; omega
theorem fcd_w (p : P3) (f : Int) : (fcd p f).2.2 = p.2.2 := by unfold fcd; split <;> rfl
theorem dif_isP {p q : P3} (h : p.2.2 ≠ 0) (h' : q.2.2 ≠ 0) : isP (dif p q) := low_isP (Int.mul_ne_zero h h')
theorem prd_isP {p q : P3} (h : p.2.2 ≠ 0) (h' : q.2.2 ≠ 0) : isP (prd p q) := low_isP (Int.mul_ne_zero h h')
theorem flp_bd {n : Nat} {p : P3} (h : bd n p) : bd n (flp p) := ⟨h.1, by show (-p.2.1).natAbs ≤ n; rw [Int.natAbs_neg]; exact h.2.1, h.2.2⟩
theorem fcd_bd {n : Nat} {p : P3} (h : bd n p) (f : Int) : bd n (fcd p f) := by unfold fcd; split; exact flp_bd h; exact h
def sim (p q : P3) : Prop := p.1 * q.2.2 = q.1 * p.2.2 ∧ p.2.1 * q.2.2 = q.2.1 * p.2.2
theorem low_sim {x y w : Int} (h : w ≠ 0) : sim (low x y w) (x, y, w) := by
  obtain ⟨e1, e2, e3⟩ := low_eqs x y w h
  generalize low x y w = p at *
  generalize dv x y w = k at *
  subst e1 e2 e3
  exact ⟨by simp only; grind, by simp only; grind⟩
def lw (p : P3) : P3 := low p.1 p.2.1 p.2.2
def difR (p q : P3) : P3 := (p.1 * q.2.2 - q.1 * p.2.2, p.2.1 * q.2.2 - q.2.1 * p.2.2, p.2.2 * q.2.2)
theorem lw_ne {p : P3} (h : p.2.2 ≠ 0) : (lw p).2.2 ≠ 0 := ww (low_isP h)
theorem lw_sim {p : P3} (h : p.2.2 ≠ 0) : sim (lw p) p := low_sim h
theorem difR_n {p q : P3} (h : p.2.2 ≠ 0) (h' : q.2.2 ≠ 0) : (difR p q).2.2 ≠ 0 := Int.mul_ne_zero h h'
theorem fcd_n {p : P3} (h : p.2.2 ≠ 0) (f : Int) : (fcd p f).2.2 ≠ 0 := by rw [fcd_w]; exact h
theorem isM.t {m : Mo} (h : isM m) : m.1.2.2 ≠ 0 := ww h.1
theorem isM.s {m : Mo} (h : isM m) : m.2.1.2.2 ≠ 0 := ww h.2.1
end M
end
section
set_option linter.all false
set_option maxHeartbeats 4000000
namespace M
theorem fcd0 (p : P3) : fcd p 0 = p := by simp [fcd]
theorem sq_pos {a : Int} (h : a ≠ 0) : 0 < a * a := by
  rcases Int.lt_trichotomy a 0 with q | q | q
  · exact Int.mul_pos_of_neg_of_neg q q
  · exact absurd q h
  · exact Int.mul_pos q q
end M
end
section
set_option Elab.async false
set_option linter.all false
set_option maxRecDepth 100000
set_option maxHeartbeats 4000000
namespace Pr
open PySem L3 M
abbrev ptD (p : P3) : PyData := .tuple [.int p.1, .int p.2.1, .int p.2.2]
abbrev moD (m : Mo) : PyData := .tuple [ptD m.1, ptD m.2.1, .int m.2.2]
abbrev Mb : Nat := 2147483648
abbrev B64 : Int := 115792089237316195423570985008687907853269984665640564039457584007913129639936
def isWh : PyData → Bool
  | .int _ => true
  | _ => false
def okI (d : PyData) : Prop := tyOf d ≠ none ∧ ∀ es, d = .tuple es → ∀ e ∈ es, tyOf e ≠ none
def isPB : PyData → Bool
  | .tuple [.int x, .int y, .int w] => decide (0 < w) && decide (g3 x y w = 1)
  | _ => false
def isFB : PyData → Bool
  | .int f => f == 0 || f == 1
  | _ => false
def sp_is_whole : DSp := fun ds τ R => ∃ d, ds = [d] ∧ tyOf d ≠ none ∧ R (.bool (isWh d)) τ
def sp_common_divisor : DSp := fun ds τ R => ∃ a b, ds = [.int a, .int b] ∧ R (.int (Int.gcd a b)) τ
def sp_lowest : DSp := fun ds τ R => ∃ x y w, ds = [.int x, .int y, .int w] ∧ w ≠ 0 ∧ -B64 < w ∧ w < B64 ∧ R (ptD (low x y w)) τ
def sp_is_point : DSp := fun ds τ R => ∃ d, ds = [d] ∧ okI d ∧ R (.bool (isPB d)) τ
def sp_point_divisor : DSp := fun ds τ R => ∃ x y w, ds = [.int x, .int y, .int w] ∧ R (.int (g3 x y w)) τ
def two (f : P3 → P3 → P3) : DSp := fun ds τ R => ∃ p q, ds = [ptD p, ptD q] ∧ p.2.2 ≠ 0 ∧ q.2.2 ≠ 0 ∧ bd Mb p ∧ bd Mb q ∧ R (ptD (f p q)) τ
def sp_difference : DSp := two dif
def sp_product : DSp := two prd
def sp_flipped : DSp := fun ds τ R => ∃ p, ds = [ptD p] ∧ R (ptD (flp p)) τ
def sp_is_flip : DSp := fun ds τ R => ∃ d, ds = [d] ∧ tyOf d ≠ none ∧ R (.bool (isFB d)) τ
def sp_is_at_one : DSp := fun ds τ R => ∃ p, ds = [ptD p] ∧ bd Mb p ∧ R (.bool (p.1 * p.1 + p.2.1 * p.2.1 == p.2.2 * p.2.2)) τ
def sp_faced : DSp := fun ds τ R => ∃ p f, ds = [ptD p, .int f] ∧ R (ptD (fcd p f)) τ
def sp_bringing : DSp := fun ds τ R => ∃ t f p q, ds = [ptD t, .int f, ptD p, ptD q] ∧ t.2.2 ≠ 0 ∧ p.2.2 ≠ 0 ∧ q.2.2 ≠ 0 ∧ bd Mb t ∧ bd Mb p ∧ bd Mb q ∧ bd Mb (prd t (fcd p f)) ∧ R (moD (brg t f p q)) τ
structure Town (t r : Addr) (τ : Ms) : Prop where
  ne : t ≠ r
  ex : ∃ (cells : List Int) (n : Int), cells ≠ [] ∧ cells.length ≤ 63 ∧ τ r = some (Ow.lst (cells.map .int)) ∧ τ t = some (Ow.lst [rf r, .int n])
def Kp (t r : Addr) (τ τ' : Ms) : Prop := (∀ b, b ≠ t → b ≠ r → τ' b = τ b) ∧ τ'.anc = τ.anc
theorem Kp.refl {t r : Addr} {τ : Ms} : Kp t r τ τ := ⟨fun _ _ _ => rfl, rfl⟩
theorem Kp.trans {t r : Addr} {τ τ1 τ2 : Ms} (a : Kp t r τ τ1) (b : Kp t r τ1 τ2) : Kp t r τ τ2 := ⟨fun c h1 h2 => (b.1 c h1 h2).trans (a.1 c h1 h2), b.2.trans a.2⟩
def sp__law_town : DSp := fun ds τ R => ∃ ns : List Int, ds = [.list (ns.map .int)] ∧ ns.length ≤ 63 ∧ ∀ t r τ', Town t r τ' → Kp t r τ τ' → R (rf t) τ'
def sp__law_draw : DSp := fun ds τ R => ∃ t r c, ds = [rf t, .int c] ∧ Town t r τ ∧ 1 ≤ c ∧ c ≤ 1000 ∧ ∀ v τ', 0 ≤ v → v < c → Town t r τ' → Kp t r τ τ' → R (.int v) τ'
def sp__law_pick : DSp := fun ds τ R => ∃ t r es, ds = [rf t, .list es] ∧ Town t r τ ∧ 1 ≤ es.length ∧ es.length ≤ 1000 ∧ ∀ e ∈ es, ∀ τ', Town t r τ' → Kp t r τ τ' → R e τ'
def sp__law_gcd : DSp := sp_common_divisor
def sp__law_low : DSp := sp_lowest
def sp__law_turn : DSp := fun ds τ R => ∃ t r, ds = [rf t] ∧ Town t r τ ∧ ∀ p τ', isP p → at1 p → bd 13 p → Town t r τ' → Kp t r τ τ' → R (ptD p) τ'
def sp_law : DSp := fun ds τ R => ∃ ns : List Int, ds = [.list (ns.map .int)] ∧ ns.length ≤ 63 ∧ (∃ ts, τ = mT ts) ∧ ∀ τ', R (.bool true) τ'
end Pr
namespace Pr
open PySem L3 M
theorem iteB {p : Prop} [Decidable p] {A B : Prop} (h1 : p → A) (h2 : ¬ p → B) : if decide p = true then A else B := by
  by_cases h : p
  · rw [if_pos (by simpa using h)]; exact h1 h
  · rw [if_neg (by simpa using h)]; exact h2 h
theorem iteC {c : Bool} {A B : Prop} (h1 : c = true → A) (h2 : c = false → B) : if c = true then A else B := by
  cases c
  · rw [if_neg Bool.false_ne_true]; exact h2 rfl
  · rw [if_pos rfl]; exact h1 rfl
theorem fmod_gcd (a b : Int) : Int.gcd b (a.fmod b) = Int.gcd a b := by
  rw [Int.fmod_def, Int.gcd_sub_mul_left_right, Int.gcd_comm]
theorem fmod_lt {a b : Int} (h : b ≠ 0) : (a.fmod b).natAbs < b.natAbs := by
  rcases Int.lt_trichotomy b 0 with q | q | q
  · have h1 := Int.fmod_nonneg_of_pos (-a) (b := -b) (by omega)
    have h2 := Int.fmod_lt_of_pos (-a) (b := -b) (by omega)
    rw [Int.neg_fmod_neg] at h1 h2
    omega
  · exact absurd q h
  · have h1 := Int.fmod_nonneg_of_pos a q
    have h2 := Int.fmod_lt_of_pos a q
    omega
theorem gcd_abs (a : Int) : (if a < 0 then -a else a) = (Int.gcd a 0 : Int) := by
  rw [Int.gcd_zero]; split <;> omega
theorem g3_le {x y w : Int} (h : w ≠ 0) : (g3 x y w).natAbs ≤ w.natAbs := Nat.le_of_dvd (by omega) (Int.natAbs_dvd_natAbs.mpr (g3_w x y w))
theorem cd_of {i j w : Int} (hj : j ≠ 0) (hw : j.natAbs ≤ w.natAbs) (h1 : -B64 < w) (h2 : w < B64) : CD i j := ⟨hj, by unfold B64 at *; omega, by unfold B64 at *; omega⟩
end Pr
namespace Pr
open PySem L3 M
theorem cm_of {a : Int} {n : Nat} (h : a.natAbs ≤ n) (hn : n ≤ 9223372036854775808) (j : Int) : CM a j := .inl (by constructor <;> omega)
theorem bd.x {n : Nat} {p : P3} (h : bd n p) : p.1.natAbs ≤ n := h.1
theorem wb {p q : P3} (hp : bd Mb p) (hq : bd Mb q) : -B64 < p.2.2 * q.2.2 ∧ p.2.2 * q.2.2 < B64 := by
  have := mulb hp.2.2 hq.2.2
  have e : Mb * Mb = 4611686018427387904 := by decide
  rw [e] at this
  unfold B64
  constructor <;> omega
theorem isPB_pt {p : P3} (h : isP p) : isPB (ptD p) = true := by
  show (decide (0 < p.2.2) && decide (g3 p.1 p.2.1 p.2.2 = 1)) = true
  simp [h.1, h.2]
theorem okI_pt (p : P3) : okI (ptD p) := ⟨by simp [tyOf], fun es e => by
  cases e
  intro d hd
  simp only [List.mem_cons, List.not_mem_nil, or_false] at hd
  rcases hd with rfl | rfl | rfl <;> simp [tyOf]⟩
theorem eqv_int (i j : Int) : PyData.eqv (.int i) (.int j) = (i == j) := by simp [PyData.eqv]
end Pr
namespace Pr
open PySem L3 M
theorem isWh_int {d : PyData} (h : isWh d = true) : ∃ x, d = .int x := by
  cases d with
  | int x => exact ⟨x, rfl⟩
  | _ => exact absurd (show false = true from h) Bool.false_ne_true
end Pr
namespace Pr
open PySem L3 M
theorem canLay_ints : ∀ ns : List Int, PyData.canLayAll0 (ns.map .int) = true
  | [] => by simp [PyData.canLayAll0]
  | n :: ns => by simp [PyData.canLayAll0, PyData.canLay0]; exact canLay_ints ns
theorem depth_ints : ∀ ns : List Int, PyData.depthAll (ns.map .int) = 0
  | [] => by simp [PyData.depthAll]
  | n :: ns => by simp [PyData.depthAll, PyData.depth]; exact depth_ints ns
theorem shaped_ints (ns : List Int) : SeqAt.shaped (.list (ns.map .int)) = true := by
  unfold SeqAt.shaped
  simp [PyData.canLay0, PyData.depth, canLay_ints, depth_ints]
theorem ixN_pos {n : Nat} {i : Int} (h0 : 0 ≤ i) (h1 : i < n) : L2.ixN n i = some i.toNat := by unfold L2.ixN; rw [if_pos h0, if_pos h1]
end Pr
namespace Pr
open PySem L3 M
end Pr
namespace Pr
open PySem L3 M
mutual
theorem eqv_self : ∀ d : PyData, d.canLay0 = true → PyData.eqv d d = true
  | .none, _ => by simp [PyData.eqv]
  | .bool b, _ => by simp [PyData.eqv]
  | .int i, _ => by simp [PyData.eqv]
  | .str x, _ => by simp [PyData.eqv]
  | .list ds, h => by simp only [PyData.eqv]; exact eqvAll_self ds (by simpa [PyData.canLay0] using h)
  | .tuple ds, h => by simp only [PyData.eqv]; exact eqvAll_self ds (by simpa [PyData.canLay0] using h)
  | .dict _, h => by simp [PyData.canLay0] at h
theorem eqvAll_self : ∀ ds : List PyData, PyData.canLayAll0 ds = true → PyData.eqvAll ds ds = true
  | [], _ => by simp [PyData.eqvAll]
  | d :: ds, h => by
    have h' : d.canLay0 = true ∧ PyData.canLayAll0 ds = true := by simpa [PyData.canLayAll0] using h
    simp only [PyData.eqvAll, Bool.and_eq_true]
    exact ⟨eqv_self d h'.1, eqvAll_self ds h'.2⟩
end
end Pr
namespace Pr
open PySem L3 M
end Pr
end
section
set_option Elab.async false
set_option linter.all false
set_option maxRecDepth 100000
set_option maxHeartbeats 4000000
namespace L3
open PySem PySem.Spec L2
open PyProof.Rows hiding St
section
variable {X : Cx} {pins : List (Addr × Obj)} {σ : St} {H : Hp} {s : Shared} {h' : Heap}
theorem hok_there {P : Program} {w : World} {H : Hp} {h : Heap} (x : HOk P w H h) {a : Addr} {u : HO} (e : H a = some u) : ∃ o, h.get? a = some o := by
  have q := x a u e
  cases u with
  | lst xs => obtain ⟨_, _, _, _, e⟩ := q; exact ⟨_, e⟩
  | tup xs => obtain ⟨_, _, _, o, e, _⟩ := q; exact ⟨_, e⟩
  | dK kvs => obtain ⟨_, _, _, _, o, _, _, e, _⟩ := q; exact ⟨_, e⟩
  | dT kvs => obtain ⟨_, _, _, _, o, _, _, e, _⟩ := q; exact ⟨_, e⟩
  | set S n => obtain ⟨o, _, _, _, e, _⟩ := q; exact ⟨_, e⟩
  | ins C dx fs => obtain ⟨_, _, _, e, _⟩ := q; exact ⟨_, e⟩
  | own y => obtain ⟨_, e⟩ := q; exact ⟨_, e⟩
  | xd fs => obtain ⟨_, ⟨_, _, _, e, _⟩, _⟩ := q; exact ⟨_, e⟩
  | met f y => exact ⟨_, q⟩
  | rng lo hi => obtain ⟨_, _, _, e⟩ := q; exact ⟨_, e⟩
  | frz o v => exact ⟨_, q.1⟩
  | tbl ps => exact ⟨_, q⟩
  | ext φ => exact q.2.1
theorem stepE {ch : List Addr} (I : Inv X pins σ H s) (hch : ∀ b ∈ ch, X.s_0.heap.get? b = none ∧ b ≠ X.env.locals ∧ (∀ x c, X.env.cells.lookup x = some c → c ≠ b) ∧ (∀ p ∈ X.pn ++ pins, p.1 ≠ b) ∧ H b = none)
    (keep : ∀ b o, b ∉ frs X.stack → b ∉ ch → s.heap.get? b = some o → h'.get? b = some o) (slot : ∀ b o, b ∈ frs X.stack → s.heap.get? b = some o → ∃ sl, h'.get? b = some { o with slots := sl }) : Inv X pins σ H { s with heap := h' } := by
  have neC : ∀ b o, X.s_0.heap.get? b = some o → b ∉ ch := fun b o e hb => by
    have := (hch b hb).1
    rw [e] at this; cases this
  have any : ∀ b o, b ∉ ch → s.heap.get? b = some o → ∃ sl, h'.get? b = some { o with slots := sl } := fun b o hc e => by
    by_cases z : b ∈ frs X.stack
    · exact slot b o z e
    · exact ⟨o.slots, keep b o z hc e⟩
  have ns : ∀ (b : Addr) (m : Str → Option Value), b ∉ ch → s.heap.Ns b m → h'.Ns b m := fun b m hc ⟨o, es, ep, ho, hd, r⟩ => by
    obtain ⟨sl, q⟩ := any b o hc ho
    exact ⟨_, es, ep, q, hd, r⟩
  have cellK : ∀ x c, X.env.cells.lookup x = some c → ∀ v, s.heap.IsCell c v → h'.IsCell c v := fun x c e v ⟨o, ho, hd⟩ => by
    obtain ⟨sl, q⟩ := any c o (fun z => (hch c z).2.2.1 x c e rfl) ho
    exact ⟨_, q, hd⟩
  have nfr : ∀ b, b ∉ X.fs → b ≠ X.env.locals → b ∉ frs X.stack := fun b h1 h2 z => (List.mem_cons.mp (I.stkSub b z)).elim h2 h1
  have neL : ∀ b o, X.s_0.heap.get? b = some o → b ≠ X.env.locals := fun b o e => Nat.ne_of_lt (Nat.lt_of_lt_of_le (Heap.lt_size e) I.ok.above)
  refine ⟨I.ok, I.os, I.bare, ⟨fun b o e n hb hx => ?_, fun b o e n hb hx => ?_, I.base.free, fun b o e hx => ?_, I.base.tups, I.base.frzs, I.base.tbls⟩, ?_, fun x c e => ?_, I.free, I.freeC, fun p hp => ?_, fun b u e => ?_, I.len⟩
  · exact keep b o (nfr b hb (neL b o e)) (neC b o e) (I.base.keep b o e n hb hx)
  · obtain ⟨sl, e1⟩ := I.base.slot b o e n hb hx
    obtain ⟨sl', e2⟩ := any b _ (neC b o e) e1
    exact ⟨sl', e2⟩
  · obtain ⟨o', e1⟩ := I.base.there b o e hx
    obtain ⟨sl, e2⟩ := any b o' (neC b o e) e1
    exact ⟨_, e2⟩
  · obtain ⟨m, hn, hl⟩ := I.loc
    refine ⟨m, ns _ m (fun z => (hch _ z).2.1 rfl) hn, fun i x v e1 e2 e3 => ?_⟩
    obtain ⟨u, r, l⟩ := hl i x v e1 e2 e3
    refine ⟨u, r, ?_⟩
    rcases l with l | ⟨k, c, e, z⟩
    · exact .inl l
    · exact .inr ⟨k, c, e, cellK x c e _ z⟩
  · obtain ⟨v, z⟩ := I.cell x c e
    exact ⟨v, cellK x c e v z⟩
  · obtain ⟨e, n, ne, nf, d⟩ := I.pin p hp
    exact ⟨keep p.1 p.2 (nfr _ nf ne) (fun z => (hch p.1 z).2.2.2.1 p hp rfl) e, n, ne, nf, d⟩
  · refine (I.hok b u e).stay (fun c v hc q => ?_) (fun _ q => q) fun _ _ q => q
    have hcH : ∃ w, H c = some w := hc.elim (fun z => ⟨u, by rw [z]; exact e⟩) fun z => ⟨_, z⟩
    obtain ⟨w, hw⟩ := hcH
    refine keep c v (fun z => ?_) (fun z => ?_) q
    · rw [I.stkFree c z] at hw; cases hw
    · rw [(hch c z).2.2.2.2] at hw; cases hw
def Nw (h : Heap) (e : Addr) (C : Value) : Prop := ∃ t, h.get? e = some { cls := C, data := .fields #[.ref t, .none, .none, .none, .bool false, .none] }
def Tr (h : Heap) (e T : Addr) (C fl : Value) : Prop := ∃ oe vs oT ts, h.get? e = some oe ∧ oe.cls = C ∧ oe.dict = none ∧ oe.data = .fields vs ∧ vs[1]? = some (.ref T) ∧ T ≠ e ∧ h.get? T = some oT ∧ oT.data = .fields ts ∧ ts[3]? = some fl
structure Xf (X : Cx) : Prop where
  stk : X.stack = X.env :: X.outer
  fr : X.env.frame = some X.env.locals
  pn : X.pn = []
  ex : X.ex = []
structure Fx (X : Cx) (σ : St) (H : Hp) (e : Addr) (C : Value) (s : Shared) : Prop where
  inv : Inv X [] σ H s
  e0 : X.s_0.heap.get? e = none
  eH : H e = none
  st : Nw s.heap e C ∨ ∃ T fl, Tr s.heap e T C fl ∧ X.s_0.heap.get? T = none ∧ H T = none ∧ (fl = .none ∨ fl = rawInt X.env.locals)
theorem rec_ok (F : Xf X) (I : Inv X [] σ H s) {b : Addr} {o : Obj} {vs : Array Value} (hb : s.heap.get? b = some o) (hd : o.data = .fields vs) (h0 : X.s_0.heap.get? b = none) (hH : H b = none) :
    X.s_0.heap.get? b = none ∧ b ≠ X.env.locals ∧ (∀ x c, X.env.cells.lookup x = some c → c ≠ b) ∧ (∀ p ∈ X.pn ++ [], p.1 ≠ b) ∧ H b = none := by
  refine ⟨h0, fun z => ?_, fun x c e z => ?_, fun p hp => ?_, hH⟩
  · obtain ⟨m, ⟨o', es, ep, ho', hd', _⟩, _⟩ := I.loc
    rw [← z, hb] at ho'; cases ho'; rw [hd] at hd'; cases hd'
  · obtain ⟨v, o', ho', hd'⟩ := I.cell x c e
    rw [z, hb] at ho'; cases ho'; rw [hd] at hd'; cases hd'
  · rw [F.pn] at hp; simp at hp
theorem frame_nf (I : Inv X pins σ H s) {b : Addr} {o : Obj} (hb : b ∈ frs X.stack) (e : s.heap.get? b = some o) : ∀ vs, o.data ≠ .fields vs := by
  obtain ⟨_, o', ho', hn⟩ := I.stack.mem hb
  rw [e] at ho'; cases ho'; exact hn
theorem not_frame (I : Inv X pins σ H s) {b : Addr} {o : Obj} {vs : Array Value} (e : s.heap.get? b = some o) (hd : o.data = .fields vs) : b ∉ frs X.stack := fun z => frame_nf I z e vs hd
theorem was_not (F : Xf X) (I : Inv X pins σ H s) {b : Addr} (e : s.heap.get? b = none) : X.s_0.heap.get? b = none ∧ H b = none := by
  constructor
  · cases q : X.s_0.heap.get? b with
    | none => rfl
    | some o => obtain ⟨o', z⟩ := I.base.there b o q (by rw [F.ex]; simp); rw [e] at z; cases z
  · cases q : H b with
    | none => rfl
    | some u => obtain ⟨o, z⟩ := hok_there I.hok q; rw [e] at z; cases z
theorem dict_map {f : Array Value → Array Value} {o : Obj} : (Obj.mapFields f o).dict = o.dict := by
  unfold Obj.mapFields; split <;> rfl
theorem note_entry {M : Model} {A : Around} {E : Value → Shared → Prop} {base : Heap} {env : Env} {outer : List Env} {L e : Addr} {oe : Obj} {vs : Array Value} {head : Value} {b0 : Bool} {Q : Unit → Shared → Prop} (hA : A.frames = some (env :: outer)) (hl : s.heap.FunFrames base (env :: outer)) (hf : env.frame = some L)
    (he : s.heap.get? e = some oe) (hd : oe.data = .fields vs) (hz : 1 < vs.size)
    (h : ∀ h' T, (∀ b o, b ≠ e → b ∉ frs (env :: outer) → s.heap.get? b = some o → h'.get? b = some o) → (∀ b o, b ∈ frs (env :: outer) → s.heap.get? b = some o → ∃ sl, h'.get? b = some { o with slots := sl }) →
      h'.get? e = some (oe.mapFields (·.setIfInBounds 1 (.ref T))) → T ≠ e → s.heap.get? T = none → (∃ oT ts, h'.get? T = some oT ∧ oT.data = .fields ts ∧ ts[3]? = some (rawInt L)) → Q () { s with heap := h' }) :
    wpAny M A (do let x ← frameOf env; let pl ← entryPlaceOf L b0; let b ← EntryCells.newEntry head x .none (rawInt L) .none pl; setField (.ref e) 1 b) Q E s := by
  have nfe : e ∉ frs (env :: outer) := fun z => let ⟨_, o, ho, nf⟩ := hl.mem z; by rw [he] at ho; cases ho; exact nf vs hd
  refine wpAny_bind (wpAny_frameOf_fun hA hl hf fun g1 k1 => wpAny_bind (wpAny_entryPlaceOf fun pl hp => ?_))
  unfold EntryCells.newEntry; unfold newFields
  refine wpAny_bind (wpAny_newObj_type ?_ (hp.sizeOk5 _ _ _ _ _))
  have e1 : g1.get? e = some oe := (k1.2.1 e nfe).trans he
  generalize hto : ({ cls := .type "traceback", dict := none, data := .fields ([head, .ref L, .none, rawInt L, .none] ++ (if pl.isEmpty then List.replicate 6 Value.none else pl)).toArray } : Obj) = ob
  have e2 := Heap.get?_push_of_some (h := g1) ob e1
  refine wpAny_setField e2 hd hz ?_
  have nTe : g1.objs.size ≠ e := Nat.ne_of_gt (Heap.lt_size e1)
  have d3 := Obj.data_mapFields hd (·.setIfInBounds 1 (Value.ref g1.objs.size))
  have oth : ∀ b, b ≠ e → ((g1.push ob).update e (Obj.mapFields (·.setIfInBounds 1 (Value.ref g1.objs.size)))).get? b = (g1.push ob).get? b := fun b hb => Heap.get?_update_other _ _ (Ne.symm hb)
  refine h _ g1.objs.size (fun b o h1 h2 q => ?_) (fun b o h1 q => ?_) (Heap.get?_update_self _ e2 (Obj.isFreed_of_fields d3)) nTe ?_ ⟨ob, _, (oth _ nTe).trans (Heap.get?_push_size g1 (by rw [← hto]; rfl)), by rw [← hto], ?_⟩
  · rw [oth b h1]; exact Heap.get?_push_of_some _ ((k1.2.1 b h2).trans q)
  · obtain ⟨sl, q'⟩ := k1.2.2 b o q
    exact ⟨sl, by rw [oth b (fun z => nfe (z ▸ h1))]; exact Heap.get?_push_of_some _ q'⟩
  · cases q : s.heap.get? g1.objs.size with
    | none => rfl
    | some o => obtain ⟨sl, q'⟩ := k1.2.2 _ o q; exact absurd (Heap.lt_size q') (Nat.lt_irrefl _)
  · first | (simp; done) | (rcases hp with rfl | ⟨_, _, _, _, _, _, _, rfl⟩ <;> simp)
theorem fx_entry {M : Model} {E : Value → Shared → Prop} {e : Addr} {C : Value} {oe : Obj} {vs : Array Value} {head : Value} {b0 : Bool} {Q : Unit → Shared → Prop} (F : Xf X) (I : Inv X [] σ H s) (h0 : X.s_0.heap.get? e = none) (hH : H e = none)
    (he : s.heap.get? e = some oe) (hc : oe.cls = C) (hdt : oe.dict = none) (hd : oe.data = .fields vs) (hz : 1 < vs.size)
    (h : ∀ s' T, Fx X σ H e C s' → Tr s'.heap e T C (rawInt X.env.locals) → X.s_0.heap.get? T = none ∧ H T = none → Q () s') :
    wpAny M X.A (do let x ← frameOf X.env; let pl ← entryPlaceOf X.env.locals b0; let b ← EntryCells.newEntry head x .none (rawInt X.env.locals) .none pl; setField (.ref e) 1 b) Q E s := by
  have hA : X.A.frames = some (X.env :: X.outer) := by rw [← F.stk]; exact I.ok.frames
  have hl : s.heap.FunFrames X.base (X.env :: X.outer) := by have := I.stack; rw [F.stk] at this; exact this
  refine note_entry hA hl F.fr he hd hz fun h' T k1 k2 k3 k4 k5 ⟨oT, ts, k6, k7, k8⟩ => ?_
  rw [← F.stk] at k1 k2
  have I' : Inv X [] σ H { s with heap := h' } := stepE (ch := [e]) I (fun b hb => by cases List.mem_singleton.mp hb; exact rec_ok F I he hd h0 hH) (fun b o n1 n2 q => k1 b o (fun z => n2 (by simp [z])) n1 q) k2
  have hT := was_not F I k5
  have tr : Tr h' e T C (rawInt X.env.locals) := ⟨_, _, oT, ts, k3, (Obj.cls_mapFields _ _).trans hc, dict_map.trans hdt, Obj.data_mapFields hd _, by simp [hz], k4, k6, k7, k8⟩
  exact h _ T ⟨I', h0, hH, .inr ⟨T, _, tr, hT.1, hT.2, .inr rfl⟩⟩ tr hT
theorem fx_note {M : Model} {E : Value → Shared → Prop} {e : Addr} {C : Value} {Q : Unit → Shared → Prop} (F : Xf X) (x : Fx X σ H e C s)
    (h : ∀ s' T, Fx X σ H e C s' → Tr s'.heap e T C (rawInt X.env.locals) → X.s_0.heap.get? T = none ∧ H T = none → Q () s') : wpAny M X.A (noteFrame (.ref e) X.env) Q E s := by
  have I := x.inv
  rcases x.st with ⟨t, he⟩ | ⟨T, fl, tr, hT0, hTH, hfl⟩
  · unfold noteFrame
    simp only [F.fr]
    refine wpAny_bind (wpAny_field (x := .none) he rfl rfl ?_)
    rw [if_neg (by decide)]
    exact fx_entry F I x.e0 x.eH he rfl rfl rfl (show 1 < 6 by decide) h
  · rcases hfl with rfl | rfl
    · obtain ⟨oe, vs, oT, ts, a1, a2, a3, a4, a5, a7, a8, a9, a10⟩ := tr
      have hsz3 : 3 < ts.size := (Array.getElem?_eq_some_iff.mp a10).1
      unfold noteFrame
      simp only [F.fr]
      refine wpAny_bind (wpAny_field a1 a4 a5 ?_)
      rw [if_pos (show (Value.ref T != Value.none) = true by simp)]
      refine wpAny_bind (wpAny_field a8 a9 a10 ?_)
      rw [if_neg (show ¬ ((Value.none == rawInt X.env.locals) = true) by simp [rawInt])]
      refine wpAny_bind (wpAny_setField a8 a9 hsz3 ?_)
      have oth : ∀ b, b ≠ T → (s.heap.update T (Obj.mapFields (·.setIfInBounds 3 Value.none))).get? b = s.heap.get? b := fun b hb => Heap.get?_update_other _ _ (Ne.symm hb)
      have nT := not_frame I a8 a9
      have I' : Inv X [] σ H { s with heap := s.heap.update T (Obj.mapFields (·.setIfInBounds 3 Value.none)) } := by
        refine stepE (ch := [T]) I (fun b hb => ?_) (fun b o h1 h2 q => ?_) fun b o h1 q => ⟨o.slots, ?_⟩
        · cases List.mem_singleton.mp hb; exact rec_ok F I a8 a9 hT0 hTH
        · rw [oth b (fun z => h2 (by simp [z]))]; exact q
        · rw [oth b (fun z => nT (by rw [← z]; exact h1))]; exact q
      exact fx_entry F I' x.e0 x.eH ((oth e (Ne.symm a7)).trans a1) a2 a3 a4 (Array.getElem?_eq_some_iff.mp a5).1 h
    · obtain ⟨oe, vs, oT, ts, a1, a2, a3, a4, a5, a7, a8, a9, a10⟩ := id tr
      exact wpAny_noteFrame_inFlight F.fr a1 a4 a5 a8 a9 a10 (h s T x tr ⟨hT0, hTH⟩)
theorem fx_flight {M : Model} {A : Around} {E : Value → Shared → Prop} {e T : Addr} {C fl : Value} {Q : Unit → Shared → Prop} {fr : Option Addr} (F : Xf X) (x : Fx X σ H e C s) (tr : Tr s.heap e T C fl) (hT : X.s_0.heap.get? T = none ∧ H T = none) (hfr : fr = none ∨ fr = some X.env.locals)
    (h : ∀ s', Fx X σ H e C s' → Tr s'.heap e T C (fr.elim .none fun f => rawInt f) → Q () s') : wpAny M A (setFlight (.ref e) fr) Q E s := by
  obtain ⟨oe, vs, oT, ts, a1, a2, a3, a4, a5, a7, a8, a9, a10⟩ := tr
  have hsz3 : 3 < ts.size := (Array.getElem?_eq_some_iff.mp a10).1
  unfold setFlight
  refine wpAny_bind (wpAny_field a1 a4 a5 ?_)
  rw [if_pos (show (Value.ref T != Value.none) = true by simp)]
  refine wpAny_setField a8 a9 hsz3 ?_
  have other : ∀ b, b ≠ T → (s.heap.update T (Obj.mapFields (·.setIfInBounds 3 (fr.elim Value.none fun f => rawInt f)))).get? b = s.heap.get? b := fun b hb => Heap.get?_update_other _ _ (Ne.symm hb)
  have tr' : Tr (s.heap.update T (Obj.mapFields (·.setIfInBounds 3 (fr.elim Value.none fun f => rawInt f)))) e T C (fr.elim .none fun f => rawInt f) :=
    ⟨oe, vs, _, _, (other e (Ne.symm a7)).trans a1, a2, a3, a4, a5, a7, Heap.get?_update_self _ a8 (Obj.isFreed_of_fields (Obj.data_mapFields a9 _)), Obj.data_mapFields a9 _, by simp [hsz3]⟩
  have nT := not_frame x.inv a8 a9
  have I' : Inv X [] σ H { s with heap := s.heap.update T (Obj.mapFields (·.setIfInBounds 3 (fr.elim Value.none fun f => rawInt f))) } := by
    refine stepE (ch := [T]) x.inv (fun b hb => ?_) (fun b o h1 h2 q => ?_) fun b o h1 q => ⟨o.slots, ?_⟩
    · cases List.mem_singleton.mp hb; exact rec_ok F x.inv a8 a9 hT.1 hT.2
    · rw [other b (fun z => h2 (by simp [z]))]; exact q
    · rw [other b (fun z => nT (by rw [← z]; exact h1))]; exact q
  exact h _ ⟨I', x.e0, x.eH, .inr ⟨T, _, tr', hT.1, hT.2, by rcases hfr with rfl | rfl; exact .inl rfl; exact .inr rfl⟩⟩ tr'
end
end L3
end
section
set_option Elab.async false
set_option linter.all false
set_option maxRecDepth 100000
set_option maxHeartbeats 4000000
namespace L3
open PySem PySem.Spec L2
open PyProof.Rows hiding St
section
variable {X : Cx} {pins : List (Addr × Obj)} {σ : St} {H : Hp} {s : Shared} {h' : Heap}
def XT (X : Cx) (ET : Value → St → Hp → Prop) : Value → Shared → Prop := fun ev s' => ∃ e C σ1 H1, ev = .ref e ∧ Fx X σ1 H1 e C s' ∧ ET C σ1 H1
theorem Fx.frames (F : Xf X) {e : Addr} {C : Value} (x : Fx X σ H e C s) : X.A.frames = some (X.env :: X.outer) := by
  rw [← F.stk]; exact x.inv.ok.frames
theorem xt_po {ET : Value → St → Hp → Prop} (F : Xf X) : PassesOwn (model X.prog X.w) X.A X.env (XT X ET) := by
  rintro ev s' ⟨e, C, σ1, H1, rfl, x, q⟩
  refine fx_note F x fun s2 T x2 tr ht => ?_
  obtain ⟨oe, vs, oT, ts, a1, a2, a3, a4, a5, a7, a8, a9, a10⟩ := id tr
  refine wpAny_bind (wpAny_field a1 a4 a5 ?_)
  rw [if_neg (show ¬ ((Value.ref T == Value.none) = true) by simp)]
  rw [F.fr]
  exact fx_flight F x2 tr ht (.inr rfl) fun s3 x3 _ => ⟨e, C, σ1, H1, rfl, x3, q⟩
def CXe (P : Program) (w : World) : CXT := fun outer H s E ev s' => ∃ e T C H', ev = .ref e ∧ s'.os = s.os ∧ AllBare s'.gens ∧ Un (frs outer) [] H H' s.heap s'.heap ∧ HOk P w H' s'.heap ∧
  s.heap.get? e = none ∧ s.heap.get? T = none ∧ H' e = none ∧ H' T = none ∧ Tr s'.heap e T C .none ∧ E C none H'
theorem xt_leave {ET : Value → St → Hp → Prop} {E : XK} {ev : Value} (F : Xf X) (hE : ∀ C σ1 H1, ET C σ1 H1 → E C none H1) (h : XT X ET ev s) :
    wpAny (model X.prog X.w) X.A (leaving X.env ev) (fun _ s'' => CXe X.prog X.w X.outer X.H_0 X.s_0 E ev s'') (fun e' s'' => CXe X.prog X.w X.outer X.H_0 X.s_0 E e' s'') s := by
  obtain ⟨e, C, σ1, H1, rfl, x, q⟩ := h
  unfold leaving
  refine wpAny_bind (fx_note F x fun s2 T x2 tr ht => ?_)
  refine fx_flight F x2 tr ht (.inl rfl) fun s3 x3 tr3 => ?_
  have I := x3.inv
  have b := I.base
  rw [F.ex] at b
  exact ⟨e, T, C, H1, rfl, I.os, I.bare, b, I.hok, x3.e0, ht.1, x3.eH, ht.2, tr3, hE C σ1 H1 q⟩
theorem inv_nil (I : Inv X pins σ H s) : Inv X [] σ H s := I.pins_of fun p hp => absurd hp (by simp)
theorem pass_e {E : XK} {ev : Value} {s' : Shared} (F : Xf X) (I : Inv X pins σ H s) (h : CXe X.prog X.w X.stack H s E ev s') : ∃ e C H', ev = .ref e ∧ Fx X σ H' e C s' ∧ E C none H' := by
  obtain ⟨e, T, C, H', rfl, os, bare, un, hok, he, hT, heH, hTH, tr, q⟩ := h
  have I' : Inv X pins σ H' s' := I.call' os un hok bare (ch := []) fun b z => absurd z (by simp)
  exact ⟨e, C, H', rfl, ⟨inv_nil I', (was_not F I he).1, heH, .inr ⟨T, .none, tr, (was_not F I hT).1, hTH, .inl rfl⟩⟩, q⟩
theorem raise_e {e : Addr} {C : Value} {vs : List Value} (F : Xf X) (I : Inv X pins σ H s) (m : Heap.MadeExcOf s.heap h' e C vs) : Fx X σ H e C { s with heap := h' } := by
  have I' := I.kept (h' := h') (t' := s.toks) m.keeps
  obtain ⟨t, q, _⟩ := m.there
  exact ⟨inv_nil I', (was_not F I m.new).1, (was_not F I m.new).2, .inl ⟨t, q⟩⟩
theorem own_of {K : PySem.W.Frag} {h₀ : Heap} {mg : Str → Option Value} {x : Str} {C : Addr} {bmB : List Value} {newId : String} (X : K.In h₀) (hm : mg x = some (.ref C)) (q : PySem.W.excIn K C bmB newId = true) : OwnCls x C bmB newId mg h₀ := by
  refine ⟨hm, ?_⟩
  unfold PySem.W.excIn at q
  split at q
  · rename_i dd cd sl ho
    split at q
    · rename_i D0 tl0 z0 z1 z2 z3 nw z5 em es
      simp only [Bool.not_eq_true', Bool.and_eq_true, beq_iff_eq] at q
      have q1 := q.1.1.1.1.1
      have q2 := q.1.1.1.1.2
      have q3 := q.1.1.1.2
      have q4 := q.1.1.2
      have q5 := q.1.2
      have q6 := q.2
      clear q
      subst q1 q2
      cases cd with | mk y0 y1 y2 y3 y4 y5 y6 y7 y8 y9 y10 =>
      dsimp only at em q3 q5 q6
      subst em q3
      have ez : sl = #[z0, z1, z2, z3, some (.builtin nw), z5] := by cases sl; simp only at es; rw [es]
      subst ez
      exact ⟨tl0, y3, y0, y4, y1, y5, y6, y7, y8, y9, dd, z0, z1, z2, z3, z5, _, X _ _ ho, .of_isNs (PySem.W.isNs_of_in X q5), PySem.W.nsMap_none_of_in X q5 q6, PySem.W.tail_of_in X q4⟩
    · cases q
  · cases q
abbrev bmV : List Value := [.type "ValueError", .type "Exception", .type "BaseException", .type "object"]
def RaiseOk (X : Cx) (C : Value) (σ : St) (H : Hp) : Prop := ∀ (pins : List (Addr × Obj)) (s : Shared) (e : Addr) (h' : Heap) (vs : List Value), Inv X pins σ H s → Heap.MadeExcOf s.heap h' e C vs → X.xe (.ref e) { s with heap := h' }
theorem ps_raise {x : Str} {C : Addr} {np cpos pos : Pos} {e₀ : Expr} {rest : List Expr} {t : TA} (hc : X.calm = true) (hg : Gl X x) (hm : X.mg x = some (.ref C)) (hq : PySem.W.excIn X.K C bmV "ValueError.__new__" = true) (ha : PA X (e₀ :: rest) t)
    (he : starEach (e₀ :: rest) X.env = (false, eval e₀ X.env) :: starEach rest X.env := by rfl) (hplain : (backTo cpos (starEach rest X.env)).any (·.1) = false := by rfl) (hd : (x == ("__debug__" : Str)) = false := by decide) :
    PS X (.Raise (some (.Call (.Name x np) (e₀ :: rest) [] cpos)) none pos) (fun _ σ H => t σ H fun vs H1 => vs.length ≤ sizeLine ∧ RaiseOk X (.ref C) σ H1) := by
  intro pins s σ H D I h
  have O : OwnCls x C bmV "ValueError.__new__" X.mg X.base := own_of I.ok.mod.kin hm hq
  obtain ⟨tl, N, n1, n2, bs, hz, sn, sb, ab, co, dd, z0, z1, z2, z3, z5, mN, hC, hN, hni, T⟩ := O.obj
  refine wpAny_Raise_call_subT (N := N) (C := C) (nm := n1) (q := n2) (bm := tl) (bs := bs) (hdct := hz) (sn := sn) (sub := sb) (ab := ab) (col := co) (dd := dd) (k0 := z0) (k1 := z1) (k2 := z2) (k3 := z3) (k5 := z5)
    PySem.F.excBase_ValueError (mN := mN) (T.hasType PySem.F.excBase_ValueError.hasBase) (I.ok.hd hc) (by rw [he]; show (false || (backTo cpos (starEach rest X.env)).any (·.1)) = false; rw [hplain]; rfl) hni (ld_glob I hg hm ⟨rfl, ?_⟩ hd)
  have h2 := ha cpos pins s σ H _ I h
  rw [he] at h2 ⊢
  refine Calls.evalArgs_plain (wpAny_mono h2 (fun us s2 ⟨vs, H1, I1, r, hz, ok⟩ => ⟨rfl, by rw [← r.length]; exact hz, I1.bk _ _ hC, hN.keeps I1.bk, T.keeps I1.bk, fun h' e mk => ok pins s2 e h' _ I1 mk⟩) fun _ _ y => y)
end
end L3
end
section
set_option Elab.async false
set_option linter.all false
set_option maxRecDepth 100000
set_option maxHeartbeats 4000000
namespace L3
open PySem PySem.Spec L2
open PyProof.Rows hiding St
abbrev An := (Addr → Option Ow) × Hp
abbrev XR := Addr → Dl → Ms → Prop
def rea (τ : Ms) (a : Option An) : Ms := ⟨τ.own, a⟩
section
variable {K : PySem.W.Frag} {τ τ' : Ms} {H H' : Hp} {a b : Option An}
theorem Stp.rea (S : Stp τ H τ' H') : Stp (rea τ a) H (rea τ' b) H' := S
theorem Dx.rea {v : V} {d : PyData} (h : Dx K τ H v d) : Dx K (L3.rea τ a) H v d := Dx.less (τ := τ) (τ' := L3.rea τ a) (fun _ z => z) h
theorem DxAll.rea {vs : List V} {ds : List PyData} (h : DxAll K τ H vs ds) : DxAll K (L3.rea τ a) H vs ds := DxAll.stp (show Stp τ H (L3.rea τ a) H from fun _ _ z e => ⟨z, e⟩) _ _ h
theorem SR.rea {σ : St} {δ : Dl} (h : SR K τ H σ δ) : SR K (L3.rea τ a) H σ δ := h.stp fun _ _ z e => ⟨z, e⟩
theorem TW.anchor (w : TW K τ H) : TW K (L3.rea τ (some (τ.own, H))) H := ⟨fun c ds e => let ⟨xs, h1, h2⟩ := w.1 c ds e; ⟨xs, h1, h2.rea⟩, fun p hp c o h1 h2 => by cases hp; exact ⟨h1, h2⟩, fun c kvs e => let ⟨nd, o, es, h1, h0, h2⟩ := w.dic c kvs e; ⟨nd, o, es, h1, h0, DxEn.stp (show Stp τ H (L3.rea τ (some (τ.own, H))) H from fun _ _ z e => ⟨z, e⟩) _ _ h2⟩, w.tab, w.tabs⟩
theorem TW.back (w0 : TW K τ H) (w : TW K τ' H') (S : Stp τ H τ' H') : TW K (L3.rea τ' τ.anc) H' := ⟨fun c ds e => let ⟨xs, h1, h2⟩ := w.1 c ds e; ⟨xs, h1, h2.rea⟩, fun p hp c o h1 h2 => by
  obtain ⟨z1, z2⟩ := w0.2 p hp c o h1 h2
  exact S c o z1 z2, fun c kvs e => let ⟨nd, o, es, h1, h0, h2⟩ := w.dic c kvs e; ⟨nd, o, es, h1, h0, DxEn.stp (show Stp τ' H' (L3.rea τ' τ.anc) H' from fun _ _ z e => ⟨z, e⟩) _ _ h2⟩, w.tab, w.tabs⟩
theorem anc_of {an : An} (w : TW K τ' H') (e : τ'.anc = some an) (h : an = (τ.own, H)) : Stp τ H τ' H' := fun c o h1 h2 => w.2 an e c o (by rw [h]; exact h1) (by rw [h]; exact h2)
end
def ETof (K : PySem.W.Frag) (RE : XR) (an : An) : Value → St → Hp → Prop := fun C σ1 H1 => ∃ c δ1 τ1, C = .ref c ∧ SR K τ1 H1 σ1 δ1 ∧ TW K τ1 H1 ∧ τ1.anc = some an ∧ RE c δ1 τ1
structure Bz (X : Cx) (N : List Str) (sc : Scope) (k : Nat) (RE : XR) (an : An) : Prop extends Bs X N sc k where
  raise : ∀ (c : Addr) (σ : St) (H : Hp) (δ : Dl) (τ : Ms), SR X.K τ H σ δ → TW X.K τ H → τ.anc = some an → RE c δ τ → RaiseOk X (.ref c) σ H
  pass : ∀ (pins : List (Addr × Obj)) (σ : St) (H : Hp) (s : Shared) (E : XK) (ev : Value) (s' : Shared), Inv X pins σ H s → CXe X.prog X.w X.stack H s E ev s' → (∀ C H', E C none H' → ETof X.K RE an C σ H') → X.xe ev s'
section
variable {X : Cx} {N : List Str} {sc : Scope} {k : Nat} {RE : XR} {an : An} {e a b c : Expr} {es : List Expr} {ta tb te : DE} {tc : DT} {tr : DA} {pos : Pos} {st : Stmt} {sts sts' : List Stmt} {t u : DS}
theorem bz_of (B : Bs X N sc k) (F : Xf X) : Bz (X.wish (XT X (ETof X.K RE an))) N sc k RE an where
  toBs := { n := B.n, scp := B.scp, nd := B.nd, calm := B.calm, room := B.room, po := xt_po F, fn := B.fn }
  raise := fun c σ H δ τ sr tw ha q pins s e h' vs I m => ⟨e, .ref c, σ, H, rfl, raise_e F I.unwish m, c, δ, τ, rfl, sr, tw, ha, q⟩
  pass := fun pins σ H s E ev s' I h hE => by
    obtain ⟨e, C, H', rfl, fx, q⟩ := pass_e F I.unwish h
    exact ⟨e, C, σ, H', rfl, fx, hE C H' q⟩
def dRaise (C : Addr) (RE : XR) (an : An) (tr : DA) : DS := fun _ δ τ => tr δ τ fun ds τ1 => ds.length ≤ 1000 ∧ τ1.anc = some an ∧ RE C δ τ1
theorem qs_raise (B : Bz X N sc k RE an) {x : Str} {C : Addr} {np cpos : Pos} (hm : X.mg x = some (.ref C)) (hq : PySem.W.excIn X.K C bmV "ValueError.__new__" = true) (ha : QA X (e :: es) tr) (hg : sc.names.lookup x = some .globalImplicit := by rfl)
    (he : starEach (e :: es) X.env = (false, eval e X.env) :: starEach es X.env := by rfl) (hplain : (backTo cpos (starEach es X.env)).any (·.1) = false := by rfl) (hd : (x == ("__debug__" : Str)) = false := by decide) :
    QS X (.Raise (some (.Call (.Name x np) (e :: es) [] cpos)) none pos) (dRaise C RE an tr) := by
  refine .of (ps_raise B.calm (B.toBx.gl hg) hm hq ha.pa he hplain hd) ?_
  rintro D σ H ⟨δ, τ, E, hl, sr, tw, h, kk⟩
  refine ⟨δ, τ, _, sr, tw, h, fun vs ds τ1 H1 s1 w1 x1 q1 => ⟨?_, B.raise C σ H1 δ τ1 (sr.stp s1) w1 q1.2.1 q1.2.2⟩⟩
  rw [x1.length]; exact Nat.le_of_lt (small1000 q1.1)
abbrev DSx := List PyData → Ms → DK → (Addr → Ms → Prop) → Prop
def lSx (K : PySem.W.Frag) (n : Nat) (dsp : DSx) : Sp := fun vs H Q E => ∃ ds τ R RE, ds.length = n ∧ DxAll K τ H vs ds ∧ TW K τ H ∧ dsp ds τ R RE ∧ kE K τ H R Q ∧ ∀ c τ' H', Stp τ H τ' H' → TW K τ' H' → RE c τ' → E (.ref c) none H'
structure FnX (P : Program) (w : World) (K : PySem.W.Frag) (mg : Str → Option Value) (base : Heap) (x : Str) (k n : Nat) (dsp : DSx) : Prop where
  ex : ∃ f fd ps, FnOk P w K mg base (CXe P w) k f fd ps (lSx K n dsp) ∧ mg x = some (.ref f) ∧ PySem.W.keepIn K (.ref f) = true ∧ Binds K fd ps []
theorem FnX.mono {P : Program} {w : World} {K : PySem.W.Frag} {mg : Str → Option Value} {base : Heap} {x : Str} {j k n : Nat} {dsp : DSx} (F : FnX P w K mg base x j n dsp) (h : j ≤ k) : FnX P w K mg base x k n dsp :=
  let ⟨f, fd, ps, a, b, c, d⟩ := F.ex
  ⟨f, fd, ps, a.mono h, b, c, d⟩
def dCallX (n : Nat) (dsp : DSx) (RE : XR) (an : An) (t : DA) : DE := fun δ τ R => t δ τ fun ds τ1 => ds.length = n ∧ dsp ds τ1 R fun c τ2 => τ2.anc = some an ∧ RE c δ τ2
theorem qe_callX {x : Str} {p : Pos} {n j : Nat} {dsp : DSx} (B : Bz X N sc k RE an) (F : FnX X.prog X.w X.K X.mg X.base x j n dsp) (ha : QA X (e :: es) tr) (hk : j ≤ k := by decide) (hg : sc.names.lookup x = some .globalImplicit := by rfl)
    (hdb : (x == ("__debug__" : Str)) = false := by decide) (he : starEach (e :: es) X.env = (false, eval e X.env) :: starEach es X.env := by rfl) (hpl : (backTo pos (starEach es X.env)).any (·.1) = false := by rfl) :
    QE X (.Call (.Name x p) (e :: es) [] pos) (dCallX n dsp RE an tr) := by
  obtain ⟨f, fd, ps, F, hm, kp, hb⟩ := (F.mono hk).ex
  refine ⟨fun pins s σ H Q I h => ?_⟩
  obtain ⟨δ, τ, R, sr, tw, h, kk⟩ := h
  refine wpAny_Call_Name_kw (ld_glob I (B.toBx.gl hg) hm ?_ hdb)
  refine PySem.W.callWith_K (h₀ := X.base) I.ok.mod.kin kp (thn (ha.pa pos pins s σ H (fun vs H1 => lSx X.K n dsp vs H1 Q fun C _ H' => ETof X.K RE an C σ H') I ⟨δ, τ, _, sr, tw, h, fun vs ds τ1 H1 s1 w1 x1 q1 => ⟨ds, τ1, R, _, q1.1, x1, w1, q1.2, kk.stp s1, fun c τ' H' s' w' q' => ⟨c, δ, τ', rfl, sr.stp (s1.trans s'), w', q'.1, q'.2⟩⟩⟩) fun us s1 ⟨vs, H1, I1, r, q⟩ => ⟨I1.kIn, ?_⟩) he hpl
  have hl : (us ++ []).length = ps.length := by rw [List.append_nil, ← r.length]; exact F.len _ _ _ _ q
  have hb' := hb s1 us I1.kIn hl
  rw [List.append_nil] at hb'
  refine wpAny_call (codeAny_mono (F.run X.A X.stack s1 H1 ⟨us, []⟩ us vs Q _ B.room I1.env0 hb' r q) fun r s' hq => ?_)
  cases r with
  | error ev => exact B.pass pins σ H1 s1 (fun C _ H' => ETof X.K RE an C σ H') ev s' I1 hq fun C H' z => z
  | ok fl =>
    cases fl with
    | ret u => exact I1.after hq
    | next => exact False.elim hq
    | brk => exact False.elim hq
    | cont => exact False.elim hq
end
section
variable {P : Program} {w : World} {K : PySem.W.Frag} {mg : Str → Option Value} {base : Heap} {x : Str} {st : Stmt} {f : Addr} {fd : FuncData} {dV : Value} {N ps : List Str} {k n : Nat} {dsp : DSx}
def dEndA (R : DK) (a : Option An) : DEnds := ⟨fun _ τ' => R .none (rea τ' a), fun d τ' => R d (rea τ' a), fun _ _ => False, fun _ _ => False⟩
theorem fn_X (Γ : Gm) (hΓ : Γ P w K mg base) (F : Fu K x st f fd dV) (S : FnScope N ps (defScope st)) (hps : ps.length = n) (hm : mg x = some (.ref f)) (hb : Binds K fd ps [])
    (body : ∀ (X : Cx) (RE : XR) (an : An), Bz X N (defScope st) k RE an → Γ X.prog X.w X.K X.mg X.base → ∃ t, QSs X (defBody st) t ∧ ∀ ds τ R RE', ds.length = n → dsp ds τ R RE' → (∀ c δ τ', RE' c (rea τ' τ.anc) → RE c δ τ') → t (dEndA R τ.anc) (startD N ds) (rea τ (some an))) :
    FnX P w K mg base x (k + 1) n dsp := by
  obtain ⟨oc, od, kV, doc, pm, an', cdv, ct, osl, rfl, lk, hcd⟩ := F.ex
  refine ⟨f, _, ps, ?_, hm, F.kp, hb⟩
  refine fn_of lk hcd S (fun vs H Q E h => ?_) fun A outer s H vs Q E hr hsp => ?_
  · obtain ⟨ds, τ, R, RE, hl, al, _⟩ := h
    rw [al.length, hl, hps]
  · obtain ⟨ds, τ, R, RE', hl, al, tw, h, kk, hE⟩ := hsp
    let X0 := cxOf (CXe P w) P w K mg base N x (defScope st) f cdv A outer s H E
    have xf : Xf X0 := ⟨rfl, rfl, rfl, rfl⟩
    have B0 : Bs X0.nox N (defScope st) k := bs_of rfl rfl S.nd rfl hr rfl rfl
    have B : Bz (X0.wish (XT X0 (ETof X0.K (fun c _ τ' => RE' c (rea τ' τ.anc)) (τ.own, H)))) N (defScope st) k (fun c _ τ' => RE' c (rea τ' τ.anc)) (τ.own, H) := {
      toBs := { n := rfl, scp := rfl, nd := S.nd, calm := rfl, room := hr, po := xt_po xf, fn := fun _ _ => rfl }
      raise := fun c σ H δ τ sr tw ha q pins s e h' vs I m => ⟨e, .ref c, σ, H, rfl, raise_e xf I.unwish m, c, δ, τ, rfl, sr, tw, ha, q⟩
      pass := fun pins σ H s E ev s' I h hE => by
        obtain ⟨e, C, H', rfl, fx, q⟩ := pass_e xf I.unwish h
        exact ⟨e, C, σ, H', rfl, fx, hE C H' q⟩ }
    obtain ⟨t, ht, hq⟩ := body _ _ _ B hΓ
    refine ⟨lS K N.length t, fun pins s1 σ1 H1 D I1 q1 => wpAny_mono (ht.ps pins s1 σ1 H1 D (I1.wish _) q1) (fun fl s2 z => z.unwish) (fun ev s2 z => ?_), startD N ds, rea τ (some (τ.own, H)), dEndA R τ.anc, ?_, (sr_start al).rea, tw.anchor, hq ds τ R RE' hl h (fun _ _ _ z => z), ⟨fun σ δ τ' H' _ s1 w1 _ q1 => kk _ _ _ H' (Stp.rea (a := τ.anc) (b := τ.anc) s1) (tw.back w1 s1) .non q1, fun v d τ' H' s1 w1 x1 q1 => kk _ _ _ H' (Stp.rea (a := τ.anc) (b := τ.anc) s1) (tw.back w1 s1) x1.rea q1, fun _ _ _ _ _ _ _ _ q => q.elim, fun _ _ _ _ _ _ _ _ q => q.elim⟩⟩
    · exact xt_leave xf (fun C σ1 H1 ⟨c, δ1, τ1, hC, sr1, tw1, ha, q⟩ => by
        subst hC
        have S1 : Stp τ H τ1 H1 := anc_of tw1 ha rfl
        exact hE c (rea τ1 τ.anc) H1 S1 (tw.back tw1 S1) q) z
    · have hpl : ps.length ≤ N.length := by have := congrArg List.length S.pre; rw [List.length_take] at this; omega
      have hv : vs.length = ps.length := by rw [al.length, hl, hps]
      show (L2.start N vs).length = N.length
      unfold L2.start
      rw [List.length_append, List.length_map, List.length_replicate]
      omega
end
end L3
end
section
set_option Elab.async false
set_option linter.all false
set_option maxRecDepth 100000
set_option maxHeartbeats 4000000
namespace L3
open PySem PySem.Spec L2
open PyProof.Rows hiding St
section
variable {P : Program} {w : World} {K : PySem.W.Frag} {mg : Str → Option Value} {base : Heap} {x : Str} {st : Stmt} {f : Addr} {fd : FuncData} {dV : Value} {N ps : List Str} {k n : Nat} {dsp : DSx}
structure FnSX (P : Program) (w : World) (K : PySem.W.Frag) (mg : Str → Option Value) (base : Heap) (x : Str) (k : Nat) (dsp : DSx) : Prop where
  ex : ∃ f, (∀ (A : Around) (outer : List Env) (s : Shared) (H : Hp) (us : List Value) (vs : List V) (Q : VK) (E : XK), Room k A → Env0 P w K mg base A outer s H → Vals vs us →
      (∃ ds τ R RE, ds.length ≤ 1000 ∧ DxAll K τ H vs ds ∧ TW K τ H ∧ dsp [.tuple ds] τ R RE ∧ kE K τ H R Q ∧ ∀ c τ' H', Stp τ H τ' H' → TW K τ' H' → RE c τ' → E (.ref c) none H') →
    codeAny (model P w) A (.call (.ref f) ⟨us, []⟩) (CR (CXe P w) outer P w H s Q E) s) ∧ mg x = some (.ref f) ∧ PySem.W.keepIn K (.ref f) = true
theorem FnSX.mono {j : Nat} (F : FnSX P w K mg base x j dsp) (h : j ≤ k) : FnSX P w K mg base x k dsp :=
  let ⟨f, a, b, c⟩ := F.ex
  ⟨f, fun A outer s H us vs Q E hr => a A outer s H us vs Q E (hr.mono h), b, c⟩
theorem fn_SX (Γ : Gm) (hΓ : Γ P w K mg base) {p : Str} (F : Fu K x st f fd dV) (S : FnScope N [p] (defScope st)) (hm : mg x = some (.ref f)) (hb : ∀ us : List Value, bindArgs fd ⟨us, []⟩ = (do let v ← newTuple us; pure [(p, v)]))
    (body : ∀ (X : Cx) (RE : XR) (an : An), Bz X N (defScope st) k RE an → Γ X.prog X.w X.K X.mg X.base → ∃ t, QSs X (defBody st) t ∧ ∀ ds τ R RE', ds.length = 1 → dsp ds τ R RE' → (∀ c δ τ', RE' c (rea τ' τ.anc) → RE c δ τ') → t (dEndA R τ.anc) (startD N ds) (rea τ (some an))) :
    FnSX P w K mg base x (k + 1) dsp := by
  obtain ⟨oc, od, kV, doc, pm, an', cdv, ct, osl, rfl, lk, hcd⟩ := F.ex
  refine ⟨f, fun A outer s H us vs Q E hr e0 r hsp => ?_, hm, F.kp⟩
  obtain ⟨ds, τ, R, RE', hl, al, tw, h, kk, hE⟩ := hsp
  have KX : K.In s.heap := e0.mod.kin.keeps fun b o e => (e0.bs b o e).1
  have lim : s.heap.NoLimit := e0.mod.nolimit.keeps fun b o e => (e0.bs b o e).1
  have hz : vs.length ≤ sizeLine := by rw [al.length]; exact Nat.le_of_lt (small1000 hl)
  have hfree : H s.heap.objs.size = none := e0.hok.fresh (Nat.le_refl _)
  have e1 : Env0 P w K mg base A outer { s with heap := s.heap.push { cls := .type "tuple", data := .seq us.toArray } } (upd H s.heap.objs.size (.tup vs)) :=
    Env0.laid e0 (o := .tup vs) ⟨hz, us, r, ⟨_, Heap.get?_push_size _ rfl, rfl, _, rfl⟩⟩ (fun v q => by cases q)
  refine codeAny_call_function hr.depth (KX _ _ lk) rfl S.co S.gen rfl (PySem.W.codeRec_of KX hcd) ?_
  rw [hb]
  refine wpAny_bind (wpAny_newTuple ?_ (by rw [← r.length]; exact hz))
  refine wpAny_pure ?_
  have hkind : ∀ y ∈ [(p, Value.ref s.heap.objs.size)], (defScope st).names.lookup y.1 = some .local ∨ ((defScope st).names.lookup y.1 = some .cell ∧ ((cellsFrom ((s.heap.push { cls := .type "tuple", data := .seq us.toArray }).objs.size + 1) (defScope st).names []).lookup y.1).isSome = true) := fun y hy => by
    have : y = (p, Value.ref s.heap.objs.size) := List.mem_singleton.mp hy
    subst this
    rcases S.par p (List.mem_singleton.mpr rfl) with q | q
    · exact .inl q
    · exact .inr ⟨q, PySem.W.cellsFrom_some _ _ _ (.inl q)⟩
  refine wpAny_newFunctionEnv_cells S.kind hkind fun env he s1 x1 => ?_
  subst he
  refine ⟨(e1.mod.nolimit.keeps fun b o e => (e1.bs b o e).1).keeps x1.toInCall.keep, codeAny_func ?_⟩
  let s0 : Shared := { s with heap := s.heap.push { cls := .type "tuple", data := .seq us.toArray } }
  let H1 : Hp := upd H s.heap.objs.size (.tup vs)
  let X0 := cxOf (CXe P w) P w K mg base N x (defScope st) f cdv A outer s0 H1 E
  have xf : Xf X0 := ⟨rfl, rfl, rfl, rfl⟩
  have tw1 : TW K τ H1 := tw.new hfree
  have s01 : Stp τ H τ H1 := .new hfree
  have B : Bz (X0.wish (XT X0 (ETof X0.K (fun c _ τ' => RE' c (rea τ' τ.anc)) (τ.own, H1)))) N (defScope st) k (fun c _ τ' => RE' c (rea τ' τ.anc)) (τ.own, H1) := {
    toBs := { n := rfl, scp := rfl, nd := S.nd, calm := rfl, room := hr.deeper _, po := xt_po xf, fn := fun _ _ => rfl }
    raise := fun c σ H δ τ sr tw ha q pins s e h' vs I m => ⟨e, .ref c, σ, H, rfl, raise_e xf I.unwish m, c, δ, τ, rfl, sr, tw, ha, q⟩
    pass := fun pins σ H s E ev s' I h hE => by
      obtain ⟨e, C, H', rfl, fx, q⟩ := pass_e xf I.unwish h
      exact ⟨e, C, σ, H', rfl, fx, hE C H' q⟩ }
  obtain ⟨t, ht, hq⟩ := body _ _ _ B hΓ
  have I : Inv X0 [] (start N [.ref s.heap.objs.size]) H1 s1 := inv_start (us := [.ref s.heap.objs.size]) S hr.hd e1 rfl (.cons rfl .nil) x1
  have al1 : DxAll K τ H1 [.ref s.heap.objs.size] [.tuple ds] := .cons (.tup (tw.free hfree) (.inl upd_same) (DxAll.stp s01 _ _ al)) .nil
  have hpl : 1 ≤ N.length := by have := congrArg List.length S.pre; rw [List.length_take] at this; simp at this; omega
  have unl : Un (frs outer) [] H H1 s.heap s0.heap := Un.laid (fun b u q => Heap.get?_push_of_some _ q) (Nat.le_refl _) hfree
  refine wpAny_mono (ht.ps [] s1 (start N [.ref s.heap.objs.size]) H1 { nx := fun _ H' => Q .non H', rt := Q } (I.wish _) ⟨startD N [.tuple ds], rea τ (some (τ.own, H1)), dEndA R τ.anc, ?_, (sr_start al1).rea, tw1.anchor, hq _ τ R RE' rfl h (fun _ _ _ z => z),
    ⟨fun σ δ τ' H' _ s1 w1 _ q1 => kk _ _ _ H' (Stp.trans s01 (Stp.rea (a := τ.anc) (b := τ.anc) s1)) (tw1.back w1 s1) .non q1, fun v d τ' H' s1 w1 x1 q1 => kk _ _ _ H' (Stp.trans s01 (Stp.rea (a := τ.anc) (b := τ.anc) s1)) (tw1.back w1 s1) x1.rea q1, fun _ _ _ _ _ _ _ _ q => q.elim, fun _ _ _ _ _ _ _ _ q => q.elim⟩⟩) (fun fl s' hs => ?_) fun ev s' hs => ?_
  · show (L2.start N [V.ref s.heap.objs.size]).length = N.length
    unfold L2.start
    rw [List.length_append, List.length_map, List.length_replicate]
    simp; omega
  · have hs := hs.unwish
    have fin : ∀ {σ' : St} {H' : Hp} {v : V} {u : Value}, Inv X0 [] σ' H' s' → RelV v u → Q v H' → CE outer P w H s Q u s' :=
      fun {σ' H' v u} J rv q => ⟨v, H', J.os, J.bare, Un.trans unl J.base, J.hok, rv, q⟩
    cases fl with
    | ret u =>
      obtain ⟨v, σ', H', J, rv, q⟩ := hs
      exact fin J rv q
    | next =>
      obtain ⟨σ', H', J, q⟩ := hs
      exact fin (v := V.non) (u := Value.none) J rfl q
    | brk =>
      obtain ⟨_, _, _, q⟩ := hs
      exact False.elim q
    | cont =>
      obtain ⟨_, _, _, q⟩ := hs
      exact False.elim q
  · have conv : ∀ ev' s'', CXe P w outer H1 s0 E ev' s'' → CXe P w outer H s E ev' s'' := by
      rintro ev' s'' ⟨e, T, C, H', rfl, os, bare, un, hok, he, hT, r⟩
      have nn : ∀ b, s0.heap.get? b = none → s.heap.get? b = none := fun b z => by
        cases q : s.heap.get? b with
        | none => rfl
        | some o => have := Heap.get?_push_of_some (h := s.heap) { cls := .type "tuple", data := .seq us.toArray } q; rw [show (s.heap.push { cls := .type "tuple", data := .seq us.toArray }).get? b = none from z] at this; cases this
      exact ⟨e, T, C, H', rfl, os, bare, Un.trans unl un, hok, nn e he, nn T hT, r⟩
    have q := xt_leave (E := E) xf (fun C σ1 H2 ⟨c, δ1, τ1, hC, sr1, tw2, ha, q⟩ => by
      subst hC
      have S1 : Stp τ H1 τ1 H2 := anc_of tw2 ha rfl
      exact hE c (rea τ1 τ.anc) H2 (Stp.trans s01 S1) (tw1.back tw2 S1) q) hs
    exact wpAny_mono q (fun _ s'' z => conv _ s'' z) fun ev' s'' z => conv ev' s'' z
end
def dCallSX (dsp : DSx) (RE : XR) (an : An) (t : DA) : DE := fun δ τ R => t δ τ fun ds τ1 => ds.length ≤ 1000 ∧ dsp [.tuple ds] τ1 R fun c τ2 => τ2.anc = some an ∧ RE c δ τ2
theorem qe_callSX {X : Cx} {N : List Str} {sc : Scope} {k : Nat} {RE : XR} {an : An} {e : Expr} {es : List Expr} {tr : DA} {pos : Pos} {x : Str} {p : Pos} {j : Nat} {dsp : DSx} (B : Bz X N sc k RE an) (F : FnSX X.prog X.w X.K X.mg X.base x j dsp) (ha : QA X (e :: es) tr) (hk : j ≤ k := by decide) (hg : sc.names.lookup x = some .globalImplicit := by rfl)
    (hdb : (x == ("__debug__" : Str)) = false := by decide) (he : starEach (e :: es) X.env = (false, eval e X.env) :: starEach es X.env := by rfl) (hpl : (backTo pos (starEach es X.env)).any (·.1) = false := by rfl) :
    QE X (.Call (.Name x p) (e :: es) [] pos) (dCallSX dsp RE an tr) := by
  obtain ⟨f, F, hm, kp⟩ := (F.mono hk).ex
  refine ⟨fun pins s σ H Q I h => ?_⟩
  obtain ⟨δ, τ, R, sr, tw, h, kk⟩ := h
  refine wpAny_Call_Name_kw (ld_glob I (B.toBx.gl hg) hm ?_ hdb)
  refine PySem.W.callWith_K (h₀ := X.base) I.ok.mod.kin kp (thn (ha.pa pos pins s σ H (fun vs H1 => ∃ ds τ R RE', ds.length ≤ 1000 ∧ DxAll X.K τ H1 vs ds ∧ TW X.K τ H1 ∧ dsp [.tuple ds] τ R RE' ∧ kE X.K τ H1 R Q ∧ ∀ c τ' H', Stp τ H1 τ' H' → TW X.K τ' H' → RE' c τ' → (fun C (_ : Option Addr) H' => ETof X.K RE an C σ H') (.ref c) none H') I
    ⟨δ, τ, _, sr, tw, h, fun vs ds τ1 H1 s1 w1 x1 q1 => ⟨ds, τ1, R, _, q1.1, x1, w1, q1.2, kk.stp s1, fun c τ' H' s' w' q' => ⟨c, δ, τ', rfl, sr.stp (s1.trans s'), w', q'.1, q'.2⟩⟩⟩) fun us s1 ⟨vs, H1, I1, r, q⟩ => ⟨I1.kIn, ?_⟩) he hpl
  refine wpAny_call (codeAny_mono (F X.A X.stack s1 H1 us vs Q (fun C _ H' => ETof X.K RE an C σ H') B.room I1.env0 r q) fun r s' hq => ?_)
  cases r with
  | error ev => exact B.pass pins σ H1 s1 (fun C _ H' => ETof X.K RE an C σ H') ev s' I1 hq fun C H' z => z
  | ok fl =>
    cases fl with
    | ret u => exact I1.after hq
    | next => exact False.elim hq
    | brk => exact False.elim hq
    | cont => exact False.elim hq
end L3
end
section
set_option Elab.async false
set_option linter.all false
set_option maxRecDepth 100000
set_option maxHeartbeats 4000000
namespace L3
open PySem PySem.Spec L2
open PyProof.Rows hiding St
section
variable {X : Cx} {pins : List (Addr × Obj)} {σ : St} {H : Hp} {s : Shared} {h' : Heap}
theorem gone_ok {M : Model} {A : Around} {E : Value → Shared → Prop} {j : Nat} {n : Str} {pos : Pos} {Q : Unit → Shared → Prop} (I : Inv X pins σ H s) (hN : X.N.Nodup) (hj : X.N[j]? = some n) (hk : X.env.scope.names.lookup n = some .local)
    (h : ∀ s', Inv X pins (σ.set j none) H s' → Q () s') : wpAny M A (do bindName X.env n .none; unbindBehindTheSuite X.env n pos) Q E s := by
  obtain ⟨m, hn, hl⟩ := id I.loc
  have hcls : (X.env.scope.kind == .class || (X.env.scope.kind == .module && X.env.locals != X.env.globals)) = false := by rw [I.ok.kind]; rfl
  have cne := I.cne
  have hjσ : j < σ.length := by rw [I.len]; exact (List.getElem?_eq_some_iff.mp hj).1
  refine wpAny_nameGoes_keeps hk hn hcls fun h' v hn' hs => ?_
  obtain ⟨oL, _, _, hoL, _⟩ := id hn
  have neL : ∀ b o, X.s_0.heap.get? b = some o → b ≠ X.env.locals := fun b o e => Nat.ne_of_lt (Nat.lt_of_lt_of_le (Heap.lt_size e) I.ok.above)
  refine h _ ⟨I.ok, I.os, I.bare, ⟨fun b o e n hb hx => ?_, fun b o e n hb hx => ?_, I.base.free, fun b o e hx => ?_, I.base.tups, I.base.frzs, I.base.tbls⟩, ⟨_, hn', fun i y v' e1 e2 e3 => ?_⟩, fun y c e => ?_, I.free, I.freeC, fun p hp => ?_, fun b u e => ?_, by rw [List.length_set]; exact I.len⟩
  · exact (hs.2 b (neL b o e)).trans (I.base.keep b o e n hb hx)
  · obtain ⟨sl, e1⟩ := I.base.slot b o e n hb hx
    exact ⟨sl, (hs.2 b (neL b o e)).trans e1⟩
  · obtain ⟨o', e1⟩ := I.base.there b o e hx
    exact ⟨o', (hs.2 b (neL b o e)).trans e1⟩
  · have hij : i ≠ j := by
      intro z; subst z
      rw [List.getElem?_set_self hjσ] at e2; cases e2
    rw [List.getElem?_set_ne (Ne.symm hij)] at e2
    obtain ⟨u', r', q⟩ := hl i y v' e1 e2 e3
    refine ⟨u', r', ?_⟩
    rcases q with ⟨k, e⟩ | ⟨k, c, e, z⟩
    · refine .inl ⟨k, ?_⟩
      have : y ≠ n := fun e => hij (nodup_ix hN e1 (e ▸ hj))
      simp [this, e]
    · exact .inr ⟨k, c, e, z.sameBut hs (cne y c e)⟩
  · obtain ⟨w', z⟩ := I.cell y c e
    exact ⟨w', z.sameBut hs (cne y c e)⟩
  · obtain ⟨e, n, ne, nf, d⟩ := I.pin p hp
    exact ⟨(hs.2 p.1 ne).trans e, n, ne, nf, d⟩
  · refine (I.hok b u e).stay (fun c v hc q => (hs.2 c ?_).trans q) (fun _ q => q) fun _ _ q => q
    intro z
    rcases hc with y | y
    · rw [y] at z; rw [z, I.free] at e; cases e
    · rw [z, I.free] at y; cases y
theorem track (F : Xf X) (I : Inv X [] σ H s) {e c : Addr} (h0 : X.s_0.heap.get? e = none) (hH : H e = none) {o : Obj} {vs : Array Value} (he : s.heap.get? e = some o) (hc : o.cls = .ref c) (hd : o.dict = none) (hdt : o.data = .fields vs) :
    Inv X [] σ (upd H e (.ext (ExcO e c))) s := by
  have r := rec_ok F I he hdt h0 hH
  have ne0 : ∀ b u, X.H_0 b = some u → H b ≠ none → b ≠ e := fun b u _ z y => z (by rw [y]; exact hH)
  refine ⟨I.ok, I.os, I.bare, ⟨I.base.keep, I.base.slot, fun b o q n hx => ?_, I.base.there, fun b xs q => ?_, fun b o u q => ?_, fun b ps q => ?_⟩, I.loc, I.cell, ?_, fun y c q => ?_, fun p hp => ?_, fun b u q => ?_, I.len⟩
  · rw [upd_ne (fun z => by rw [z, h0] at q; cases q)]; exact I.base.free b o q n hx
  · have := I.base.tups b xs q
    rw [upd_ne (ne_of_none this hH)]; exact this
  · have := I.base.frzs b o u q
    rw [upd_ne (ne_of_none this hH)]; exact this
  · obtain ⟨m, this⟩ := I.base.tbls b ps q
    exact ⟨m, by rw [upd_ne (ne_of_none this hH)]; exact this⟩
  · rw [upd_ne (Ne.symm r.2.1)]; exact I.free
  · rw [upd_ne (r.2.2.1 y c q)]; exact I.freeC y c q
  · rw [F.pn] at hp; simp at hp
  · by_cases z : b = e
    · subst z
      rw [upd_same] at q; cases q
      exact ⟨⟨o, vs, he, hc, hd, hdt⟩, ⟨o, he⟩, fun h1 h2 ⟨o, vs, a1, a2, a3, a4⟩ k => ⟨o, vs, k o a1, a2, a3, a4⟩⟩
    · rw [upd_ne z] at q
      refine (I.hok b u q).stay (fun _ _ _ y => y) (fun b' y => ?_) fun b' xs y => ?_
      · rw [upd_ne (ne_of_none y hH)]; exact y
      · rw [upd_ne (ne_of_none y hH)]; exact y
end
end L3
end
section
set_option Elab.async false
set_option linter.all false
set_option maxRecDepth 100000
set_option maxHeartbeats 4000000
namespace L3
open PySem PySem.Spec L2
open PyProof.Rows hiding St
def PS0 (X : Cx) (st : Stmt) (t : TS) : Prop := ∀ (s : Shared) (σ : St) (H : Hp) (D : Ends), Inv X [] σ H s → t D σ H → wpAny (model X.prog X.w) X.A (exec st X.env) (SP X [] D) X.xe s
def PSs0 (X : Cx) (st : List Stmt) (t : TS) : Prop := ∀ (s : Shared) (σ : St) (H : Hp) (D : Ends), Inv X [] σ H s → t D σ H → wpAny (model X.prog X.w) X.A (execs st X.env) (SP X [] D) X.xe s
structure QS0 (X : Cx) (st : Stmt) (t : DS) : Prop where
  ps : PS0 X st (lS X.K X.N.length t)
structure QSs0 (X : Cx) (st : List Stmt) (t : DS) : Prop where
  ps : PSs0 X st (lS X.K X.N.length t)
section
variable {X : Cx} {N : List Str} {sc : Scope} {k : Nat} {st : Stmt} {sts body : List Stmt} {t u : DS} {pos : Pos}
theorem qs0 (h : QS X st t) : QS0 X st t := ⟨fun s σ H D I q => h.ps [] s σ H D I q⟩
theorem qss0 (h : QSs X sts t) : QSs0 X sts t := ⟨fun s σ H D I q => h.ps [] s σ H D I q⟩
theorem qss0_cons (h1 : QS0 X st t) (h2 : QSs0 X sts u) : QSs0 X (st :: sts) (dSeq t u) := by
  refine ⟨fun s σ H D I q => ?_⟩
  obtain ⟨δ, τ, E, hl, sr, tw, h, kk⟩ := q
  refine wpAny_execs_cons (wpAny_mono (h1.ps s σ H { D with nx := lS X.K X.N.length u D } I ⟨δ, τ, { E with nx := u E }, hl, sr, tw, h, ⟨fun σ' δ' τ' H' l' s' w' r' q' => ⟨δ', τ', E, l', r', w', q', kk.stp s'⟩, kk.2.1, kk.2.2.1, kk.2.2.2⟩⟩) (fun f s1 q => ?_) fun _ _ z => z)
  cases f with
  | next => obtain ⟨σ', H', I', q⟩ := q; exact h2.ps s1 σ' H' D I' q
  | brk => exact q
  | cont => exact q
  | ret v => exact q
def landR (K : PySem.W.Frag) (d : Addr) (i j : Nat) (E : DEnds) (a : Option An) : XR := fun c δ1 τ1 => PySem.W.exmOne K (.ref c) (.ref d) = some true ∧ ∀ e, τ1 e = none → E.nx (((δ1.set j (some (exD e c))).set i (some (exD e c))).set j none) (rea τ1 a)
def dTry (K : PySem.W.Frag) (d : Addr) (i j : Nat) (tb : XR → An → DS) : DS := fun E δ τ => ∀ an, tb (landR K d i j E τ.anc) an ⟨fun δ' τ' => E.nx δ' (rea τ' τ.anc), fun r τ' => E.rt r (rea τ' τ.anc), fun δ' τ' => E.bk δ' (rea τ' τ.anc), fun δ' τ' => E.ct δ' (rea τ' τ.anc)⟩ δ (rea τ (some an))
theorem SR.out {K : PySem.W.Frag} {τ : Ms} {H : Hp} {σ : St} {δ : Dl} (h : SR K τ H σ δ) (j : Nat) (hj : j < σ.length) : SR K τ H (σ.set j none) (δ.set j none) := fun i d e => by
  by_cases z : i = j
  · subst z
    by_cases y : i < δ.length
    · rw [List.getElem?_set_self y] at e; cases e
    · rw [List.getElem?_eq_none (by simpa using y)] at e; cases e
  · rw [List.getElem?_set_ne (Ne.symm z)] at e
    obtain ⟨v, a, b⟩ := h i d e
    exact ⟨v, by rw [List.getElem?_set_ne (Ne.symm z)]; exact a, b⟩
theorem qs_try {tb : XR → An → DS} (B : Bs X N sc k) (F : Xf X) (i j : Nat) {v n D : Str} {d : Addr} {np pv pn ps hpos : Pos} (hm : X.mg D = some (.ref d)) (hb : ∀ RE an, QSs (X.wish (XT X (ETof X.K RE an))) body (tb RE an))
    (hi : N[i]? = some v := by rfl) (hj : N[j]? = some n := by rfl) (hv : sc.names.lookup v = some .local := by rfl) (hn : sc.names.lookup n = some .local := by rfl) (hg : sc.names.lookup D = some .globalImplicit := by rfl) (hdb : (D == ("__debug__" : Str)) = false := by decide)
    (hd1 : (n == ("__debug__" : Str)) = false := by decide) (hd2 : (n == ("__classdict__" : Str)) = false := by decide) (hs : ∀ env, swapsWith (.Name n pn) (some (.Name v pv)) ps.line env = pure false := by intro _; rfl) :
    QS0 X (.Try body [.ExceptHandler (some (.Name D np)) (some n) [.Assign [.Name v pv] (.Name n pn) ps] hpos] [] [] pos) (dTry X.K d i j tb) := by
  have hi' : i < X.N.length := by rw [B.n]; exact (List.getElem?_eq_some_iff.mp hi).1
  have hj' : j < X.N.length := by rw [B.n]; exact (List.getElem?_eq_some_iff.mp hj).1
  have nd : X.N.Nodup := by rw [B.n]; exact B.nd
  have hiX : X.N[i]? = some v := by rw [B.n]; exact hi
  have hjX : X.N[j]? = some n := by rw [B.n]; exact hj
  have hvX : X.env.scope.names.lookup v = some .local := by rw [B.scp]; exact hv
  have hnX : X.env.scope.names.lookup n = some .local := by rw [B.scp]; exact hn
  refine ⟨fun s σ H D0 I q => ?_⟩
  obtain ⟨δ, τ, E, hl, sr, tw, h, kk⟩ := q
  have bodyW := (hb (landR X.K d i j E τ.anc) (τ.own, H)).ps [] s σ H D0 (I.wish _) ⟨δ, rea τ (some (τ.own, H)), _, hl, sr.rea, tw.anchor, h (τ.own, H),
    ⟨fun σ' δ' τ' H' l' s' w' r' q' => kk.1 σ' δ' _ H' l' (Stp.rea (a := τ.anc) (b := τ.anc) s') (tw.back w' s') r'.rea q', fun r d' τ' H' s' w' x' q' => kk.2.1 r d' _ H' (Stp.rea (a := τ.anc) (b := τ.anc) s') (tw.back w' s') x'.rea q',
     fun σ' δ' τ' H' l' s' w' r' q' => kk.2.2.1 σ' δ' _ H' l' (Stp.rea (a := τ.anc) (b := τ.anc) s') (tw.back w' s') r'.rea q', fun σ' δ' τ' H' l' s' w' r' q' => kk.2.2.2 σ' δ' _ H' l' (Stp.rea (a := τ.anc) (b := τ.anc) s') (tw.back w' s') r'.rea q'⟩⟩
  refine wpAny_Try_except (wpAny_mono bodyW (fun f s1 hs1 => ?_) fun ev s1 hx => ?_)
  · have hs2 := hs1.unwish
    cases f with
    | next => obtain ⟨σ', H', I', q⟩ := hs2; exact wpAny_execs_nil ⟨σ', H', I', q⟩
    | brk => exact hs2
    | cont => exact hs2
    | ret v => exact hs2
  · obtain ⟨e, C, σ1, H1, rfl, x, c, δ1, τ1, rfl, sr1, tw1, ha, hex, re⟩ := hx
    have S1 : Stp τ H τ1 H1 := anc_of tw1 ha rfl
    refine fx_note F x fun s2 T x2 tr2 ht2 => ?_
    refine fx_flight F x2 tr2 ht2 (.inl rfl) fun s3 x3 tr3 => ?_
    let X2 : Cx := { X with A := X.A.mark (some (.ref e)), calm := false, xe := fun _ _ => False }
    have up : ∀ {σ : St} {H : Hp} {s : Shared}, Inv X [] σ H s → Inv X2 [] σ H s := fun {σ H s} I => ⟨⟨I.ok.mod, I.ok.kind, I.ok.glob, I.ok.blt, I.ok.above, I.ok.inj, I.ok.has, I.ok.cab, (fun z => by cases z), I.ok.frames, I.ok.stk, I.ok.exf, I.ok.bs, I.ok.bsz, I.ok.noex, I.ok.exfs, I.ok.funs, I.ok.frf⟩, I.os, I.bare, I.base, I.loc, I.cell, I.free, I.freeC, I.pin, I.hok, I.len⟩
    have dn : ∀ {σ : St} {H : Hp} {s : Shared}, Inv X2 [] σ H s → Inv X [] σ H s := fun {σ H s} I2 => ⟨I.ok, I2.os, I2.bare, I2.base, I2.loc, I2.cell, I2.free, I2.freeC, I2.pin, I2.hok, I2.len⟩
    obtain ⟨oe, vs, oT, ts, a1, a2, a3, a4, a5, a7, a8, a9, a10⟩ := id tr3
    have LT : PySem.W.Looks (model X.prog X.w) s3.heap (typeOf (.ref e)) (.ref c) := a2 ▸ (PySem.W.Looks.ld a1).andThen .now
    refine wpAny_handleBy_cons (codeAny_handlers_test ?_) (by intro q; cases q)
    refine ld_glob (X := X2) (up x3.inv) (show X.env.scope.names.lookup D = _ by rw [B.scp]; exact hg) hm ?_ hdb
    refine PySem.W.exm_one x3.inv.kIn LT hex _ _ _ _ (fun _ _ z => z) ?_
    refine codeAny_handlers_suite_as (fx_flight F x3 tr3 ht2 (.inl rfl) fun s4 x4 tr4 => ?_)
    obtain ⟨oe4, vs4, _, _, b1, b2, b3, b4, _⟩ := id tr4
    have I4 : Inv X [] σ1 (upd H1 e (.ext (ExcO e c))) s4 := track F x4.inv x4.e0 x4.eH b1 b2 b3 b4
    have S4 : Stp τ1 H1 τ1 (upd H1 e (.ext (ExcO e c))) := .new x4.eH
    have tw4 : TW X.K τ1 (upd H1 e (.ext (ExcO e c))) := tw1.new x4.eH
    have dx : Dx X.K τ1 (upd H1 e (.ext (ExcO e c))) (.ref e) (exD e c) := .exc (tw1.free x4.eH) upd_same
    have l1 : σ1.length = X.N.length := I4.len
    refine store_ok I4 nd hjX (.inl hnX) (v := .ref e) (u := .ref e) rfl (fun s5 I5 => ?_) (.inr hnX)
    have sr5 : SR X.K τ1 (upd H1 e (.ext (ExcO e c))) (σ1.set j (some (.ref e))) (δ1.set j (some (exD e c))) := (sr1.stp S4).put j dx l1 hj'
    have suite := pss_one (ps_set (X := X2) (i := i) (pos := ps) (pos' := pv) nd hiX (.inl hvX) (pe_var (X := X2) (i := j) (pos := pn) hjX (.inl hnX) hd1 hd2) (hs _) (.inr hvX)) [] s5 (σ1.set j (some (.ref e))) (upd H1 e (.ext (ExcO e c)))
      { nx := fun σ' H' => σ' = (σ1.set j (some (.ref e))).set i (some (.ref e)) ∧ H' = upd H1 e (.ext (ExcO e c)), rt := fun _ _ => False } (up I5) ⟨.ref e, by rw [List.getElem?_set_self (by rw [l1]; exact hj')], rfl, rfl⟩
    refine wpAny_mono (wpAny_mono suite (fun f s6 q6 => q6) fun _ _ z => z) (fun f s6 q6 => ?_) fun ev' s6 z => ?_
    · cases f with
      | brk => obtain ⟨_, _, _, q⟩ := q6; exact False.elim q
      | cont => obtain ⟨_, _, _, q⟩ := q6; exact False.elim q
      | ret v => obtain ⟨_, _, _, _, _, q⟩ := q6; exact False.elim q
      | next =>
        obtain ⟨σ6, H6, I6, e1, e2⟩ := q6
        subst e1 e2
        refine gone_ok (dn I6) nd hjX hnX fun s7 I7 => ?_
        have sr6 := (sr5.put i dx (by rw [List.length_set]; exact l1) hi').out j (by rw [List.length_set, List.length_set, l1]; exact hj')
        refine ⟨_, _, I7, kk.1 _ _ (rea τ1 τ.anc) _ (by rw [List.length_set, List.length_set, List.length_set]; exact l1) (Stp.rea (a := τ.anc) (b := τ.anc) (S1.trans S4)) (tw.back tw4 (S1.trans S4)) sr6.rea (re e (tw1.free x4.eH))⟩
    · exact False.elim z
end
section
variable {P : Program} {w : World} {K : PySem.W.Frag} {mg : Str → Option Value} {base : Heap} {x : Str} {st : Stmt} {f : Addr} {fd : FuncData} {dV : Value} {N ps : List Str} {k n : Nat} {dsp : DSp}
theorem fn_T (Γ : Gm) (hΓ : Γ P w K mg base) (F : Fu K x st f fd dV) (S : FnScope N ps (defScope st)) (hps : ps.length = n) (hm : mg x = some (.ref f)) (hb : Binds K fd ps [])
    (body : ∀ X : Cx, Bs X N (defScope st) k → Xf X → Γ X.prog X.w X.K X.mg X.base → ∃ t, QSs0 X (defBody st) t ∧ ∀ ds τ R, ds.length = n → dsp ds τ R → t (dEnd R) (startD N ds) τ) : FnD P w K mg base x (k + 1) n dsp := by
  obtain ⟨oc, od, kV, doc, pm, an, cdv, ct, osl, rfl, lk, hcd⟩ := F.ex
  refine ⟨f, _, ps, ?_, hm, F.kp, hb⟩
  have len : ∀ vs H Q E, lSp K n dsp vs H Q E → vs.length = ps.length := fun vs H Q E h => by
    obtain ⟨ds, τ, R, hl, al, _⟩ := h
    rw [al.length, hl, hps]
  refine ⟨len, fun A outer s H args us vs Q E hr e0 hbd r hsp => ?_⟩
  have hl := len _ _ _ _ hsp
  have KX : K.In s.heap := e0.mod.kin.keeps fun b o e => (e0.bs b o e).1
  have lim : s.heap.NoLimit := e0.mod.nolimit.keeps fun b o e => (e0.bs b o e).1
  have hkind : ∀ y ∈ ps.zip us, (defScope st).names.lookup y.1 = some .local ∨ ((defScope st).names.lookup y.1 = some .cell ∧ ((cellsFrom (s.heap.objs.size + 1) (defScope st).names []).lookup y.1).isSome = true) := fun ⟨n, v⟩ hy => by
    rcases S.par n (List.of_mem_zip hy).1 with q | q
    · exact .inl q
    · exact .inr ⟨q, PySem.W.cellsFrom_some _ _ _ (.inl q)⟩
  refine codeAny_call_function hr.depth (KX _ _ lk) rfl S.co S.gen rfl (PySem.W.codeRec_of KX hcd) (hbd _ _ _ _ ?_)
  refine wpAny_newFunctionEnv_cells S.kind hkind fun env he s1 x1 => ?_
  subst he
  refine ⟨lim.keeps x1.toInCall.keep, codeAny_func ?_⟩
  let X0 := (cxOf CX0 P w K mg base N x (defScope st) f cdv A outer s H E).nox
  obtain ⟨ds, τ, R, hld, al, tw, h, kk⟩ := hsp
  obtain ⟨t, ht, hq⟩ := body X0 (bs_of rfl rfl S.nd rfl (hr.deeper _) rfl rfl) ⟨rfl, rfl, rfl, rfl⟩ hΓ
  have I : Inv (cxOf CX0 P w K mg base N x (defScope st) f cdv A outer s H E) [] (start N vs) H s1 := inv_start S hr.hd e0 hl r x1
  have hpl : ps.length ≤ N.length := by have := congrArg List.length S.pre; rw [List.length_take] at this; omega
  refine wpAny_mono (ht.ps s1 (start N vs) H { nx := fun _ H' => Q .non H', rt := Q } (I.wish _) ⟨startD N ds, τ, dEnd R, ?_, sr_start al, tw, hq ds τ R hld h, ⟨fun σ δ τ' H' _ s1 w1 _ q1 => kk _ _ τ' H' s1 w1 .non q1, kk, fun _ _ _ _ _ _ _ _ q => q.elim, fun _ _ _ _ _ _ _ _ q => q.elim⟩⟩) (fun fl s' hs => ?_) fun e s' hs => False.elim hs
  · show (L2.start N vs).length = N.length
    unfold L2.start
    rw [List.length_append, List.length_map, List.length_replicate]
    omega
  · have hs := hs.unwish
    have fin : ∀ {σ' : St} {H' : Hp} {v : V} {u : Value}, Inv (cxOf CX0 P w K mg base N x (defScope st) f cdv A outer s H E) [] σ' H' s' → RelV v u → Q v H' → CE outer P w H s Q u s' :=
      fun {σ' H' v u} J rv q => ⟨v, H', J.os, J.bare, J.base, J.hok, rv, q⟩
    cases fl with
    | ret u =>
      obtain ⟨v, σ', H', J, rv, q⟩ := hs
      exact fin J rv q
    | next =>
      obtain ⟨σ', H', J, q⟩ := hs
      exact fin (v := V.non) (u := Value.none) J rfl q
    | brk =>
      obtain ⟨_, _, _, q⟩ := hs
      exact False.elim q
    | cont =>
      obtain ⟨_, _, _, q⟩ := hs
      exact False.elim q
end
end L3
end
section
set_option Elab.async false
set_option linter.all false
set_option maxRecDepth 100000
set_option maxHeartbeats 4000000
namespace L3
open PySem PySem.Spec L2
open PyProof.Rows hiding St
structure Xcl (K : PySem.W.Frag) (c : Addr) : Prop where
  ga : PySem.W.findIn K (.ref c) "__getattribute__" = some (some (.builtin "BaseException.__getattribute__"))
  gt : PySem.W.findIn K (.ref c) "__getattr__" = some none
  kl : PySem.W.findIn K (.ref c) "__class__" = some (some (.builtin "object.__class__"))
  be : PySem.W.mroIn K c (.type "BaseException") = some true
  ob : PySem.W.mroIn K c (.type "object") = some true
  is : ∃ cd, PySem.W.clsIn K c = some cd
  gs : PySem.W.specialIn K (.builtin "object.__class__") "__get__" = some (some (.builtin "getset_descriptor.__get__"))
  tk : PySem.W.takesIn K (.builtin "object.__class__") = some true
section
variable {prog : Program} {w : World} {A : Around} {E : Value → Shared → Prop} {s : Shared} {K : PySem.W.Frag} {x c : Addr} {ox : Obj}
theorem xc_found (Z : Xcl K c) : PySem.W.findObj K c none "__class__" = some (.bind (.builtin "getset_descriptor.__get__") (.builtin "object.__class__")) := by
  obtain ⟨cd, hc⟩ := Z.is
  unfold PySem.W.findObj
  rw [hc, Z.kl]
  simp only [Option.bind_some, Z.gs, Z.tk]
theorem xc_check {nm : Value} {Q : Unit → Shared → Prop} (Z : Xcl K c) (X : K.In s.heap) (I : PySem.W.InstAt s.heap x ox c none) (h : Q () s) : wpAny (model prog w) A (checkBuiltinCall "BaseException.__getattribute__" ⟨[.ref x, nm], []⟩) Q E s := by
  have h1 : builtinKind "BaseException.__getattribute__" = some .slot := by decide +kernel
  have h2 : splitId "BaseException.__getattribute__" = some ("BaseException", "__getattribute__") := by decide +kernel
  have ha := PySem.F.args_bexc_ga (.ref x) nm
  have LT := I.type (M := model prog w)
  have LS := PySem.W.looks_mroIn (M := model prog w) X Z.be
  simp only [checkBuiltinCall, h1, h2]
  refine wpAny_bind ?_
  unfold isInstance
  refine wpAny_bind (LT.at (LS.at ?_))
  repeat (any_goals (first | assumption | wp_step))
theorem xc_entry {tk : Tok} {Q : Fin → Shared → Prop} (Z : Xcl K c) (X : K.In s.heap) (I : PySem.W.InstAt s.heap x ox c none) (h : Q (.done (.ret (.ref c))) s) :
    wpAny (model prog w) A (Builtin.«object.__getattribute__» ⟨[.ref x, .str "__class__" tk], []⟩) Q E s := by
  obtain ⟨hh, g, d, t, os⟩ := s
  have LT := I.type (M := model prog w)
  have L1 := PySem.W.looks_find (M := model prog w) X I (xc_found Z)
  delta Builtin.«object.__getattribute__»
  refine wpAny_bind (wpAny_pure (wpAny_bind (wpAny_pure (wpAny_bind (LT.at (wpAny_bind (L1.at ?_)))))))
  show wpAny _ _ (call (.builtin "getset_descriptor.__get__") [.builtin "object.__class__", .ref x, .ref c] >>= ret) _ _ _
  exact wpAny_bind (wpAny_call (PySem.W.class_get X I Z.ob (wpAny_pure h)))
theorem xc_call {tk : Tok} {R : Result → Shared → Prop} (Z : Xcl K c) (X : K.In s.heap) (I : PySem.W.InstAt s.heap x ox c none) (h : R (.ok (.ret (.ref c))) s) :
    codeAny (model prog w) A (.call (.builtin "BaseException.__getattribute__") ⟨[.ref x, .str "__class__" tk], []⟩) R s :=
  codeAny_call_builtin PySem.F.attr_ValueError.ga.plain PySem.F.entry_bexc_ga (xc_check Z X I (xc_entry Z X I h))
theorem xc_class {Q : Option Value → Shared → Prop} (Z : Xcl K c) (X : K.In s.heap) (I : PySem.W.InstAt s.heap x ox c none) (h : Q (some (.ref c)) { s with toks := s.toks + 1 }) : wpAny (model prog w) A (getAttr? (.ref x) "__class__") Q E s := by
  obtain ⟨hh, g, d, t, os⟩ := s
  have LT := I.type (M := model prog w)
  have L1 := PySem.W.looks_findIn (M := model prog w) X Z.ga
  have L2 := PySem.W.looks_findIn (M := model prog w) X Z.gt
  have nx : (onTheHeap (Value.ref c) && Value.builtin "BaseException.__getattribute__" == Value.builtin "object.__getattribute__") = false := by
    have : (Value.builtin "BaseException.__getattribute__" == Value.builtin "object.__getattribute__") = false := by decide +kernel
    rw [this]; rfl
  unfold getAttr? getAttrBy? getAttrBy
  refine wpAny_bind (wpAny_mkText (wpAny_bind (wpAny_attempt (wpAny_holding (wpAny_bind (LT.at (wpAny_bind (L1.at ?_))))))))
  show wpAny _ _ (if (onTheHeap (Value.ref c) && Value.builtin "BaseException.__getattribute__" == Value.builtin "object.__getattribute__") = true then _ else _) _ _ _
  rw [if_neg (by rw [nx]; exact Bool.false_ne_true)]
  unfold getAttrByItsOwn; unfold hookBefore; unfold callGetattribute; unfold boundAndCalled
  refine wpAny_bind ?_
  show wpAny _ _ (typeLookup (.ref c) "__getattr__") _ _ _
  refine L2.at ?_
  refine wpAny_bind ?_
  refine wpAny_attempt (wpAny_holding ?_)
  show wpAny _ _ (bindSpecial (.builtin "BaseException.__getattribute__") (.ref x) >>= _) _ _ _
  refine wpAny_bind (wpAny_of_eq (PySem.F.attr_ValueError.ga.bind _) ?_)
  refine wpAny_mono (Q := fun v s' => v = Value.ref c ∧ s' = (⟨hh, g, d, t + 1, os⟩ : Shared)) (E := fun _ _ => False) ?_ (fun v s' hv => ?_) fun _ _ z => z.elim
  · exact wpAny_call (xc_call (s := ⟨hh, g, d, t + 1, os⟩) Z X I ⟨rfl, rfl⟩)
  · obtain ⟨rfl, rfl⟩ := hv
    exact PySem.W.handed_on rfl (wpAny_pure h)
theorem xc_kit (Z : Xcl K c) : PySem.W.KitX K (.ref x) (.ref c) (fun h => PySem.W.InstAt h x ox c none) where
  ty := fun _ _ _ I => I.type
  it := fun M h X _ => by
    obtain ⟨cd, hc⟩ := Z.is
    have : PySem.W.Looks M h (isType (.ref c)) true := by
      unfold PySem.W.clsIn at hc
      split at hc
      · rename_i ho
        intro A1 Q1 E1 s1 k1 q1
        unfold isType loadHead
        exact wpAny_bind (wpAny_loadPart (k1 _ _ (X _ _ ho)) (wpAny_pure q1))
      · cases hc
    exact this
  ne := fun h tp dd its n sl X ht => by
    obtain ⟨cd, hc⟩ := Z.is
    refine Bool.eq_false_iff.mpr fun (q : _ = true) => ?_
    cases (Value.ref.inj (beq_iff_eq.mp q) : c = tp)
    unfold PySem.W.clsIn at hc
    split at hc
    · rename_i ho
      cases (X _ _ ho).symm.trans ht
    · cases hc
  ca := fun X I k => xc_class Z X I k
end
section
variable {X : Cx} {N : List Str} {sc : Scope} {k : Nat} {e a b c : Expr} {es : List Expr} {ta tb te : DE} {tr : DA} {pos : Pos}
def rIsx (X : Cx) (D : Value) : List V → Hp → VK → Prop := fun xs H Q => ∃ (a c : Addr) (bb : Bool) (y : V), xs = [.ref a, y] ∧ RelV y D ∧ H a = some (.ext (ExcO a c)) ∧ Xcl X.K c ∧ PySem.W.kitOne X.K (.ref c) D = some bb ∧ Q (.bl bb) H
theorem cr_isx {D : Value} (hD : ∀ y u, RelV y D → RelV y u → u = D) : CallR X (.builtin "isinstance") (rIsx X D) := by
  intro pins s σ H xs us Q I r h
  obtain ⟨a, c, bb, y, rfl, ry, ha, Z, hk, q⟩ := h
  obtain ⟨u, w', rfl, r1, r2⟩ := vals2 r
  cases (show u = Value.ref a from r1)
  cases hD y w' ry r2
  obtain ⟨⟨o, vs, h1, h2, h3, h4⟩, _⟩ := I.hok a _ ha
  have J : PySem.W.InstAt s.heap a o c none := ⟨h1, h2, by unfold PySem.W.notCls; rw [h4], by rw [h3]; trivial⟩
  exact PySem.W.kia_one (xc_kit Z) I.kIn J hk (fun z => nomatch z) fun tk => ⟨.bl bb, H, I.tok _, rfl, q⟩
def dIsx (K : PySem.W.Frag) (D : Value) (ta : DE) : DE := fun δ τ R => ta δ τ fun d τ1 => ∃ (a c : Addr) (b : Bool), d = exD a c ∧ Xcl K c ∧ PySem.W.kitOne K (.ref c) D = some b ∧ R (.bool b) τ1
theorem isx_lift {D : Value} {y : V} (hy : RelV y D) {σ : St} {H : Hp} {Q : VK} (h : lE X.K (dIsx X.K D te) σ H Q) : lE X.K te σ H fun v H1 => rIsx X D [v, y] H1 Q := by
  obtain ⟨δ, τ, R, sr, tw, h, kk⟩ := h
  refine ⟨δ, τ, _, sr, tw, h, fun v d τ1 H1 s1 w1 x1 q1 => ?_⟩
  obtain ⟨a, c, bb, rfl, Z, hk, q1⟩ := q1
  obtain ⟨rfl, ha⟩ := x1.exInv
  exact ⟨a, c, bb, y, rfl, hy, ha, Z, hk, kk _ _ τ1 H1 s1 w1 (.bl _) q1⟩
theorem qe_isx {x : Str} {D : Addr} {p p' : Pos} (B : Bx X N sc k) (hm : X.mg "isinstance" = none) (hm2 : X.mg x = some (.ref D)) (ha : QE X e te) (hg : sc.names.lookup ("isinstance" : Str) = some .globalImplicit := by rfl) (hg2 : sc.names.lookup x = some .globalImplicit := by rfl)
    (hdb : (x == ("__debug__" : Str)) = false := by decide) (he : starEach [e, .Name x p'] X.env = (false, eval e X.env) :: starEach [.Name x p'] X.env := by rfl) :
    QE X (.Call (.Name "isinstance" p) [e, .Name x p'] [] pos) (dIsx X.K (.ref D) te) := by
  refine .of (pe_callB (id := "isinstance") (cr_isx (D := .ref D) fun y u h1 h2 => ?_) (B.gl hg) hm (by decide +kernel) (pa_cons ha.pe (pa_cons (pe_glob (v := .ref D) (B.gl hg2) hm2 rfl hdb) pa_nil) he) (he := he)) ?_
  · cases y with
    | ref a => cases (show Value.ref D = Value.ref a from h1); exact h2
    | int i => obtain ⟨t, q⟩ := (show ∃ t, Value.ref D = Value.int i t from h1); cases q
    | str i => obtain ⟨t, q⟩ := (show ∃ t, Value.ref D = Value.str i t from h1); cases q
    | byt i => obtain ⟨t, q⟩ := (show ∃ t, Value.ref D = Value.bytes i t from h1); cases q
    | flt i => obtain ⟨t, q⟩ := (show ∃ t, Value.ref D = Value.float i t from h1); cases q
    | non => cases (show Value.ref D = Value.none from h1)
    | bl b => cases (show Value.ref D = Value.bool b from h1)
    | ty n => cases (show Value.ref D = Value.type n from h1)
  · intro σ H Q h
    exact isx_lift (y := .ref D) rfl h
theorem qe_isxT {x : Str} {T : String} {p p' : Pos} (B : Bx X N sc k) (hm : X.mg "isinstance" = none) (hm2 : X.mg x = none) (ha : QE X e te) (hv : bootBuiltins x = some (.type T) := by decide +kernel) (hg : sc.names.lookup ("isinstance" : Str) = some .globalImplicit := by rfl) (hg2 : sc.names.lookup x = some .globalImplicit := by rfl)
    (hn : x ≠ "__name__" := by decide) (hdb : (x == ("__debug__" : Str)) = false := by decide) (he : starEach [e, .Name x p'] X.env = (false, eval e X.env) :: starEach [.Name x p'] X.env := by rfl) :
    QE X (.Call (.Name "isinstance" p) [e, .Name x p'] [] pos) (dIsx X.K (.type T) te) := by
  refine .of (pe_callB (id := "isinstance") (cr_isx (D := .type T) fun y u h1 h2 => ?_) (B.gl hg) hm (by decide +kernel) (pa_cons ha.pe (pa_cons (pe_bltn (v := .ty T) (B.gl hg2) hm2 hv rfl hn hdb) pa_nil) he) (he := he)) ?_
  · cases y with
    | ty n => cases (show Value.type T = Value.type n from h1); exact h2
    | int i => obtain ⟨t, q⟩ := (show ∃ t, Value.type T = Value.int i t from h1); cases q
    | str i => obtain ⟨t, q⟩ := (show ∃ t, Value.type T = Value.str i t from h1); cases q
    | byt i => obtain ⟨t, q⟩ := (show ∃ t, Value.type T = Value.bytes i t from h1); cases q
    | flt i => obtain ⟨t, q⟩ := (show ∃ t, Value.type T = Value.float i t from h1); cases q
    | non => cases (show Value.type T = Value.none from h1)
    | bl b => cases (show Value.type T = Value.bool b from h1)
    | ref n => cases (show Value.type T = Value.ref n from h1)
  · intro σ H Q h
    exact isx_lift (y := .ty T) rfl h
end
end L3
end
section
set_option Elab.async false
set_option linter.all false
set_option maxRecDepth 100000
set_option maxHeartbeats 4000000
namespace L3
open PySem PySem.Spec L2
open PyProof.Rows hiding St
section
variable {X : Cx} {N : List Str} {sc : Scope} {k : Nat} {e a b c : Expr} {es : List Expr} {ta tb te : DE} {tc : DT} {tr : DA} {pos : Pos}
theorem in_room {u : Nat} {d : PyData} {ds : List PyData} (hs : PyData.depthAll ds + 1 ≤ 64) (hu : u + 64 < cLine) : u + 1 + min (PyData.depthAll ds) d.depth < cLine := by
  have : min (PyData.depthAll ds) d.depth ≤ PyData.depthAll ds := Nat.min_le_left _ _
  omega
theorem all_of_shaped {e : PyData} {ds : List PyData} (h : e = .list ds ∨ e = .tuple ds) (s : SeqAt.shaped e = true) : PyData.canLayAll0 ds = true ∧ PyData.depthAll ds + 1 ≤ 64 := by
  have h1 := SeqAt.canLay_of_shaped s
  have h2 := SeqAt.depth_of_shaped s
  rcases h with rfl | rfl
  · exact ⟨h1, h2⟩
  · exact ⟨h1, h2⟩
def rCatL (K : PySem.W.Frag) : R2 := fun x y H Q => ∃ l b xs ys, x = .ref l ∧ y = .ref b ∧ SqL K H l xs ∧ SqL K H b ys ∧ xs.length + ys.length ≤ sizeLine ∧ ∀ p, H p = none → Q (.ref p) (upd H p (.lst (xs ++ ys)))
theorem op_catL : OpR X (binaryOp .Add) (rCatL X.K) := by
  intro pins s σ H x y v u Q I rx ry h
  obtain ⟨l, b, xs, ys, rfl, rfl, h1, h2, hz, q⟩ := h
  cases rx
  cases ry
  obtain ⟨us, r1, ⟨⟨c1, d1, t1, sl1⟩, n1, g1, e1, _, f1⟩, _⟩ := I.list h1
  obtain ⟨ws, r2, ⟨⟨c2, d2, t2, sl2⟩, n2, g2, e2, _, f2⟩, _⟩ := I.list h2
  simp only at e1 f1 e2 f2
  subst e1 f1 e2 f2
  have l1 := r1.length
  have l2 := r2.length
  refine concat_meets ⟨_, g1, rfl⟩ ⟨_, g2, rfl⟩ noFill_list_add seq_list_add PySem.F.slot_list_add PySem.F.entry_list_add (PySem.F.args_list_add_2 _ _) (list_addW l b us.toArray ws.toArray n1 n2 d1 d2 sl1 sl2 (by rw [List.size_toArray, List.size_toArray]; omega)) ⟨g1, g2, ?_⟩
  rw [show us.toArray ++ ws.toArray = (us ++ ws).toArray by simp]
  exact ⟨.ref _, _, I.lnew (t' := s.toks) (r1.append r2) (by rw [List.length_append]; omega), rfl, q _ I.fresh⟩
def dCatL : D2 := fun d e τ R => match d, e with
  | .list ds, .list es => ds.length + es.length ≤ 1000 ∧ R (.list (ds ++ es)) τ
  | _, _ => False
theorem li_catL {K : PySem.W.Frag} : Li2 K (rCatL K) dCatL := by
  intro τ H x y d e R Q tw x1 x2 h kk
  unfold dCatL at h
  split at h
  · obtain ⟨p, xs, rfl, s1, a1⟩ := x1.lstInv
    obtain ⟨q, ys, rfl, s2, a2⟩ := x2.lstInv
    refine ⟨p, q, xs, ys, rfl, rfl, s1, s2, ?_, fun r hr => kk _ _ τ _ (.new hr) (tw.new hr) (.lst (tw.free hr) (.inl upd_same) (DxAll.stp (.new hr) _ _ (a1.append a2))) h.2⟩
    rw [a1.length, a2.length]
    exact Nat.le_of_lt (small1000 h.1)
  · exact h.elim
theorem qe_cat (ha : QE X a ta) (hb : QE X b tb) : QE X (.BinOp a .Add b pos) (dOp dCatL ta tb) := qe_op op_catL li_catL ha hb
def rIdxD (K : PySem.W.Frag) : V → List V → Hp → VK → Prop := fun x xs H Q => ∃ (y : V) (ds : List PyData) (d : PyData) (j : Nat), xs = [y] ∧ Dp K H x (.list ds) ∧ Dp K H y d ∧ SeqAt.shaped d = true ∧ SeqAt.shaped (.list ds) = true ∧ ds.findIdx? (fun z => PyData.eqv z d) = some j ∧ Q (.int (j : Nat)) H
theorem idx_at {α β : Type} {f : α → β} {p : β → Bool} : ∀ {us : List α} {ds : List β} {j : Nat}, us.map f = ds → ds.findIdx? p = some j → ∃ h : j < us.length, p (f us[j]) = true ∧ ∀ m (hm : m < us.length), m < j → p (f us[m]) = false := by
  intro us ds j e h
  subst e
  obtain ⟨h1, h2, h3⟩ := List.findIdx?_eq_some_iff_getElem.mp h
  refine ⟨by simpa using h1, by simpa using h2, fun m hm hj => ?_⟩
  have := h3 m hj
  simpa using this
theorem mt_idxD (hu : X.A.units + 64 < cLine) : MtR X "list.index" (rIdxD X.K) := by
  intro pins s σ H x xs v us Q I rx rxs h
  obtain ⟨y, ds, d, j, rfl, hx, hy, sd, se, hj, q⟩ := h
  cases rxs with
  | cons ry rt =>
    rename_i uy ut
    cases rt
    obtain ⟨as, r1⟩ := Dp.reads I _ x v hx rx
    obtain ⟨bs, r2⟩ := Dp.reads I d y uy hy ry
    obtain ⟨c1, c2⟩ := all_of_shaped (.inl rfl) se
    cases hx with
    | @lst a zs _ hs ha =>
      cases rx
      obtain ⟨its, rv, ⟨⟨cls, dd, data, sl⟩, n, ho, hc, hdn, hd⟩, hlen⟩ := I.list hs
      simp only at hc hd
      subst hc hd
      cases r1 with
      | list g1 g2 g3 g4 =>
        have := g1.symm.trans ho
        cases this
        cases g3
        have hmap := SeqAt.readsAll_map ds _ _ c1 g4
        obtain ⟨hjl, w1, w2⟩ := idx_at hmap hj
        have hvl := rv.length
        have hsl := sizeLine_eq
        have hjl' : j < its.length := by simpa using hjl
        refine call_meets PySem.F.slot_list_index ⟨_, ho, rfl⟩ PySem.F.entry_list_index (PySem.F.args_list_index_2 _ _)
          (SeqAt.list_indexAt a its.toArray n dd sl uy (fun z => PyData.eqv (SeqAt.readOf s.heap z) d) j (by simpa using hjl') (by omega) (by simpa using w1) (fun m hm hmj => by simpa using w2 m (by simpa using hm) hmj)) ⟨ho, SeqAt.items_eqAt g4 r2 c1 (SeqAt.canLay_of_shaped sd) (in_room c2 hu), ?_⟩
        exact ⟨.int (j : Nat), H, I.tok _, ⟨_, rfl⟩, q⟩
def rCntD (K : PySem.W.Frag) : V → List V → Hp → VK → Prop := fun x xs H Q => ∃ (y : V) (ds : List PyData) (d : PyData), xs = [y] ∧ Dp K H x (.list ds) ∧ Dp K H y d ∧ SeqAt.shaped d = true ∧ SeqAt.shaped (.list ds) = true ∧ Q (.int (ds.countP (fun z => PyData.eqv z d) : Nat)) H
theorem mt_cntD (hu : X.A.units + 64 < cLine) : MtR X "list.count" (rCntD X.K) := by
  intro pins s σ H x xs v us Q I rx rxs h
  obtain ⟨y, ds, d, rfl, hx, hy, sd, se, q⟩ := h
  cases rxs with
  | cons ry rt =>
    rename_i uy ut
    cases rt
    obtain ⟨as, r1⟩ := Dp.reads I _ x v hx rx
    obtain ⟨bs, r2⟩ := Dp.reads I d y uy hy ry
    obtain ⟨c1, c2⟩ := all_of_shaped (.inl rfl) se
    cases hx with
    | @lst a zs _ hs ha =>
      cases rx
      obtain ⟨its, rv, ⟨⟨cls, dd, data, sl⟩, n, ho, hc, hdn, hd⟩, hlen⟩ := I.list hs
      simp only at hc hd
      subst hc hd
      cases r1 with
      | list g1 g2 g3 g4 =>
        have := g1.symm.trans ho
        cases this
        cases g3
        have hmap := SeqAt.readsAll_map ds _ _ c1 g4
        refine call_meets PySem.F.slot_list_count ⟨_, ho, rfl⟩ PySem.F.entry_list_count (PySem.F.args_list_count_2 _ _)
          (SeqAt.list_countAt a its.toArray n dd sl uy (fun z => PyData.eqv (SeqAt.readOf s.heap z) d)) ⟨ho, SeqAt.items_eqAt g4 r2 c1 (SeqAt.canLay_of_shaped sd) (in_room c2 hu), ?_⟩
        refine ⟨.int _, H, I.tok _, ⟨_, rfl⟩, ?_⟩
        rw [← hmap, List.countP_map] at q
        exact q
def dMt (f : List PyData → PyData → Ms → DK → Prop) (to te : DE) : DE := fun δ τ R => to δ τ fun x τ1 => match x with | .list ds => te δ τ1 fun d τ2 => SeqAt.shaped d = true ∧ SeqAt.shaped (.list ds) = true ∧ f ds d τ2 R | _ => False
theorem mt_lift {r : V → List V → Hp → VK → Prop} {f : List PyData → PyData → Ms → DK → Prop} {to te : DE} {σ : St} {H : Hp} {Q : VK} {ta' : TA} (hta : ∀ σ H Q', (lE X.K te σ H fun y H2 => Q' [y] H2) → ta' σ H Q')
    (hr : ∀ τ H v y ds d R Q, TW X.K τ H → Dp X.K H v (.list ds) → Dp X.K H y d → SeqAt.shaped d = true → SeqAt.shaped (.list ds) = true → f ds d τ R → kE X.K τ H R Q → r v [y] H Q)
    (h : lE X.K (dMt f to te) σ H Q) : tBM X.K "list" r (lE X.K to) ta' σ H Q := by
  obtain ⟨δ, τ, R, sr, tw, h, kk⟩ := h
  refine ⟨δ, τ, _, sr, tw, h, fun v x τ1 H1 s1 w1 x1 q1 => ?_⟩
  split at q1
  · rename_i ds
    obtain ⟨a, xs, rfl, sq, al⟩ := id x1.lstInv
    refine ⟨.inl ⟨rfl, xs, sq⟩, hta _ _ _ ⟨δ, τ1, _, sr.stp s1, w1, q1, fun y d τ2 H2 s2 w2 x2 q2 => ?_⟩⟩
    exact hr τ2 H2 _ _ ds d R Q w2 (Dx.dp _ _ (SeqAt.canLay_of_shaped q2.2.1) (Dx.stp s2 _ _ x1)) (Dx.dp _ _ (SeqAt.canLay_of_shaped q2.1) x2) q2.1 q2.2.1 q2.2.2 (kk.stp (s1.trans s2))
  · exact q1.elim
abbrev dIdxM := dMt fun ds d τ R => match ds.findIdx? (fun z => PyData.eqv z d) with | some j => R (.int (j : Nat)) τ | none => False
abbrev dCntM := dMt fun ds d τ R => R (.int (ds.countP (fun z => PyData.eqv z d) : Nat)) τ
theorem qe_index {o : Expr} {to : DE} {ap : Pos} (B : Bx X N sc k) (ho : QE X o to) (he : QE X e te) (hbase : attributeBase o "index" X.env (eval o X.env) = eval o X.env := by rfl)
    (hfew : ((backTo pos (starEach [e] X.env)).all (fun x => !x.1) && (backToKw pos (keywordEach [] X.env)).all (fun x => x.1.isSome)
      && decide ([e].length + ([] : List Keyword).length + (if ([] : List Keyword).isEmpty then 0 else 1) < 30)) = true := by rfl)
    (hline : (ap.endLine == pos.line) = true := by rfl) (hs : starEach [e] X.env = (false, eval e X.env) :: starEach [] X.env := by rfl) (hpl : (backTo pos (starEach [] X.env)).any (·.1) = false := by rfl) :
    QE X (.Call (.Attribute o "index" ap) [e] [] pos) (dIdxM to te) := by
  refine .of (pe_bm (T := "list") (id := "list.index") PySem.F.plainAttrs_list PySem.F.slot_list_index PySem.F.type_list_index (mt_idxD B.room.units) ho.pe (pa_cons he.pe pa_nil hs) hbase hfew hline hs hpl) fun σ H Q h => mt_lift (fun σ H Q' q => q) (fun τ H v y ds d R Q w x1 x2 s1 s2 q kk => ?_) h
  split at q
  · rename_i j hj
    exact ⟨y, ds, d, j, rfl, x1, x2, s1, s2, hj, kk _ _ τ H .refl w (.int _) q⟩
  · exact q.elim
theorem qe_count {o : Expr} {to : DE} {ap : Pos} (B : Bx X N sc k) (ho : QE X o to) (he : QE X e te) (hbase : attributeBase o "count" X.env (eval o X.env) = eval o X.env := by rfl)
    (hfew : ((backTo pos (starEach [e] X.env)).all (fun x => !x.1) && (backToKw pos (keywordEach [] X.env)).all (fun x => x.1.isSome)
      && decide ([e].length + ([] : List Keyword).length + (if ([] : List Keyword).isEmpty then 0 else 1) < 30)) = true := by rfl)
    (hline : (ap.endLine == pos.line) = true := by rfl) (hs : starEach [e] X.env = (false, eval e X.env) :: starEach [] X.env := by rfl) (hpl : (backTo pos (starEach [] X.env)).any (·.1) = false := by rfl) :
    QE X (.Call (.Attribute o "count" ap) [e] [] pos) (dCntM to te) := by
  refine .of (pe_bm (T := "list") (id := "list.count") PySem.F.plainAttrs_list PySem.F.slot_list_count PySem.F.type_list_count (mt_cntD B.room.units) ho.pe (pa_cons he.pe pa_nil hs) hbase hfew hline hs hpl) fun σ H Q h => mt_lift (fun σ H Q' q => q) (fun τ H v y ds d R Q w x1 x2 s1 s2 q kk => ?_) h
  exact ⟨y, ds, d, rfl, x1, x2, s1, s2, kk _ _ τ H .refl w (.int _) q⟩
end
end L3
end
section
set_option Elab.async false
set_option linter.all false
set_option maxRecDepth 100000
set_option maxHeartbeats 4000000
namespace L3
open PySem PySem.Spec L2
open PyProof.Rows hiding St
section
variable {X : Cx} {N : List Str} {sc : Scope} {k : Nat} {e a b c : Expr} {es : List Expr} {ta tb te : DE} {tr : DA} {pos : Pos}
end
section
variable {X : Cx} {N : List Str} {sc : Scope} {k : Nat} {e : Expr} {es : List Expr} {te : DE} {pos : Pos}
theorem qs_unp2 (B : Bx X N sc k) {is : List Nat} {kt : Nat} {pt : Pos} (he : QE X e te) (hg : QGs X es is) (hw : swappedStores [.Tuple es kt pt] e (envS sc) = pure none := by rfl) (hn : (assignEach es X.env).length = is.length := by rfl) (hst : (assignEach es X.env).findIdx? (·.1) = none := by rfl)
    (hs : swapsWithSole [.Tuple es kt pt] e pos.line X.env = pure false := by rfl) (h1 : (assignEach [.Tuple es kt pt] X.env).map (·.2) = [assign (.Tuple es kt pt) X.env] := by rfl) :
    QS X (.Assign [.Tuple es kt pt] e pos) (dUnp is te) := qs_unp B he hg hn hst hs ((swp_of B.scp _ _).trans hw) h1
end
structure Cs where
  over : Addr
  num : Addr
  pnt : Addr
  mot : Addr
  hep : Addr
  prs : Addr
  nam : Addr
  txt : Addr
  non : Addr
def kitRow (K : PySem.W.Frag) (c : Addr) : List Value → List Bool → Prop
  | d :: ds, b :: bs => PySem.W.kitOne K (.ref c) d = some b ∧ kitRow K c ds bs
  | _, _ => True
def KitR (K : PySem.W.Frag) (cs : Cs) (c : Addr) (bs : List Bool) : Prop := Xcl K c ∧ PySem.W.exmOne K (.ref c) (.ref cs.over) = some true ∧ kitRow K c [.ref cs.over, .type "ValueError", .ref cs.num, .ref cs.pnt, .ref cs.mot, .ref cs.hep, .ref cs.prs, .ref cs.nam, .ref cs.txt, .ref cs.non] (true :: true :: bs)
end L3
end
section
set_option Elab.async false
set_option linter.all false
set_option maxRecDepth 100000
set_option maxHeartbeats 4000000
namespace L3
open PySem PySem.Spec L2
open PyProof.Rows hiding St
abbrev ksOf (ks : List Int) : List Key := ks.map Sum.inl
def KeyAt (K : PySem.W.Frag) (kv : List Int × Int) (x : List Key × Addr × Value) : Prop :=
  x.1 = ksOf kv.1 ∧ (∃ t, x.2.2 = .int kv.2 t) ∧ ∃ ok its n, K.lookup x.2.1 = some ok ∧ ok.cls = .type "tuple" ∧ ok.data = .seq its n ∧ Vals (kv.1.map V.int) its.toList
structure TDt (K : PySem.W.Frag) (mg : Str → Option Value) (x : Str) (kvs : List (List Int × Int)) : Prop where
  ex : ∃ a o es ep, mg x = some (.ref a) ∧ (a == sysModules) = false ∧ K.lookup a = some o ∧ o.ExactDict ∧ o.data = .dict es ep ∧
    ∀ P w, ∃ xs : List (List Key × Addr × Value), es.toList = xs.map (entryOfKey (tupleKind (mixKind P w))) ∧ Paired (KeyAt K) kvs xs ∧ (xs.map (·.1)).Nodup
theorem vals_keys {us : List Value} : ∀ {ks : List Int}, Vals (ks.map V.int) us → Vals ((ksOf ks).map kV) us := fun {ks} h => by
  have e : (ksOf ks).map kV = ks.map V.int := by induction ks with | nil => rfl | cons k ks ih => simp [ksOf, kV]
  rw [e]; exact h
def got (kvs : List (List Int × Int)) (ks : List Int) : PyData := match kvs.find? fun x => decide (x.1 = ks) with | some x => .int x.2 | none => .none
theorem ksOf_inj {a b : List Int} : ksOf a = ksOf b ↔ a = b := ⟨fun h => by
  induction a generalizing b with
  | nil => cases b with | nil => rfl | cons _ _ => simp at h
  | cons x a ih => cases b with | nil => simp at h | cons y b => simp at h; rw [h.1, ih (by simpa using h.2)], fun h => by rw [h]⟩
section
variable {X : Cx} {N : List Str} {sc : Scope} {k : Nat} {e : Expr} {te : DE} {pos : Pos}
end
end L3
end
section
set_option Elab.async false
set_option linter.all false
namespace L3
open PySem PySem.W PyProof.Rows
section
variable {α β : Type} {n : Nat} {lt : Nat → Nat → Bool}
def kp (n : Nat) (lt : Nat → Nat → Bool) : KasT α → (α → Prop) → Prop
  | .ret a, Q => Q a
  | .ask i j k, Q => i < n ∧ j < n ∧ kp n lt (k (lt i j)) Q
end
structure WOrd (lt : Nat → Nat → Bool) : Prop where
  irr : ∀ a, lt a a = false
  neg : ∀ a b c, lt a b = false → lt b c = false → lt a c = false
  asy : ∀ a b, lt a b = true → lt b a = false
section
variable {lt : Nat → Nat → Bool} {n : Nat} {p : Array Nat}
def Rng (n : Nat) (p : Array Nat) : Prop := p.Perm (List.toArray (List.range n))
theorem Rng.size (h : Rng n p) : p.size = n := by have := h.size_eq; simpa using this
end
end L3
end
section
set_option Elab.async false
set_option linter.all false
set_option maxRecDepth 100000
set_option maxHeartbeats 4000000
namespace L3
open PySem PySem.Spec L2
open PyProof.Rows hiding St
structure LamS (scope : Scope) (p b : Str) : Prop where
  kind : scope.kind = .function
  co : scope.isCoroutine = false
  gen : scope.isGenerator = false
  par : scope.names.lookup p = some .local
  cap : scope.names.lookup b = some .free
  cell : ∀ x ∈ scope.names, x.2 ≠ .cell
  free : ∀ x ∈ scope.names, x.2 = .free → x.1 = b
  ne : p ≠ b
section
variable {X : Cx} {pins : List (Addr × Obj)} {σ : St} {H : Hp} {s : Shared} {A : Around} {scope : Scope} {p b : Str} {f c : Addr} {cd : Value} {q : Str}
end
section
variable {X : Cx} {pins : List (Addr × Obj)} {σ : St} {H : Hp} {s : Shared} {h' : Heap}
end
end L3
end
section
set_option Elab.async false
set_option linter.all false
set_option maxRecDepth 100000
set_option maxHeartbeats 4000000
namespace L3
open PySem PySem.Spec L2 PySem.W
open PyProof.Rows hiding St
section
variable {prog : Program} {w : World} {A : Around} {E : Value → Shared → Prop} {s : Shared} {D kS : Addr} {f : Value} {vs : List Value} {P : PySem.Fin → Shared → Prop} {J : List Value → Shared → Prop}
abbrev pushed (kS : Addr) (k : Value) (s : Shared) : Shared := { s with heap := s.heap.update kS (Obj.mapSeq (·.push k)) }
def Turn (prog : Program) (w : World) (A : Around) (kS : Addr) (f : Value) (vs : List Value) (J : List Value → Shared → Prop) : Prop := ∀ ks x s, vs[ks.length]? = some x → J ks s →
  wpAny (model prog w) A (call f [x]) (fun k s' => (∃ e, s'.heap.get? kS = some (seqObj "list" ks.toArray e)) ∧ J (ks ++ [k]) (pushed kS k s')) (fun _ _ => False) s
end
end L3
end
section
set_option Elab.async false
set_option linter.all false
set_option maxRecDepth 100000
set_option maxHeartbeats 4000000
namespace L3
open PySem PySem.Spec L2 PySem.W
open PyProof.Rows hiding St
section
variable {prog : Program} {w : World} {A : Around} {E : Value → Shared → Prop} {s : Shared}
end
end L3
end
section
set_option Elab.async false
set_option linter.all false
set_option maxRecDepth 100000
set_option maxHeartbeats 4000000
namespace L3
open PySem PySem.Spec L2 PySem.W
open PyProof.Rows hiding St
section
variable {X : Cx} {pins : List (Addr × Obj)} {σ : St} {H : Hp} {s : Shared}
theorem fp_now {pins' : List (Addr × Obj)} {H' : Hp} {b : Addr} (F : FpOk X pins H b) (h : H' b = none) (hp : ∀ p ∈ pins', p ∈ pins ∨ p.1 ≠ b) : FpOk X pins' H' b := by
  obtain ⟨_, f2, f3, f4, f5, f6⟩ := F
  refine ⟨h, f2, f3, f4, f5, fun p z => ?_⟩
  rcases List.mem_append.mp z with z | z
  · exact f6 p (List.mem_append_left _ z)
  · rcases hp p z with y | y
    · exact f6 p (List.mem_append_right _ y)
    · exact y
structure KeyC where
  κ : Type
  enc : κ → PyData
  lt : κ → κ → Bool
  ord : ∀ k : Nat → κ, WOrd fun i j => lt (k i) (k j)
  ok : κ → Prop
  cmp : ∀ {X : Cx} {pins : List (Addr × Obj)} {σ : St} {H : Hp} {s : Shared} {A : Around} {τ : Ms} {ks : List Value} {kvs : List V} {kd : List κ} (dflt : κ), Inv X pins σ H s → Vals kvs ks → DxAll X.K τ H kvs (kd.map enc) → (∀ k ∈ kd, ok k) → 2 ≤ kd.length →
    ∃ κ', (∀ Q : SortKind → Shared → Prop, Q κ' s → wpAny (model X.prog X.w) A (keyKind' ks.toArray) Q (fun _ _ => False) s) ∧ ∀ i j C, i < kd.length → j < kd.length → C (lt (kd.getD i dflt) (kd.getD j dflt)) s → kas_ask X.prog X.w A κ' ks i j C s
end
end L3
end
section
set_option Elab.async false
set_option linter.all false
set_option maxRecDepth 100000
set_option maxHeartbeats 4000000
namespace L3
open PySem PySem.Spec L2 PySem.W
open PyProof.Rows hiding St
section
variable {X : Cx} {pins : List (Addr × Obj)} {σ : St} {H : Hp} {s : Shared}
end
end L3
end
section
set_option Elab.async false
set_option linter.all false
set_option maxRecDepth 100000
set_option maxHeartbeats 4000000
namespace L3
open PySem PySem.Spec L2
open PyProof.Rows hiding St
structure LamX (X : Cx) (q : Str) : Prop where
  ex : ∃ c0 P, X.env.code = .ref c0 ∧ PySem.W.codeHdIn X.K c0 P = true ∧ TabIn X.K P q
  ql : X.env.qual ++ "<lambda>" = q
  bm : BMd X.base X.mg
section
variable {X : Cx} {N : List Str} {sc : Scope} {k : Nat} {e : Expr} {te tb : DE} {pos : Pos}
end
section
variable {P : Program} {w : World} {K : PySem.W.Frag} {mg : Str → Option Value} {base : Heap} {x : Str} {st : Stmt} {f : Addr} {fd : FuncData} {dV : Value} {N ps : List Str} {k n : Nat} {dsp : DSp}
structure Fl (K : PySem.W.Frag) (mg : Str → Option Value) (x : Str) (st : Stmt) (f : Addr) (fd : FuncData) (dV : Value) (q : Str) : Prop where
  ex : ∃ (oc : Value) (od : Option Addr) (kV doc pm : Value) (an : Option Addr) (c0 : Addr) (ct : Value) (osl : Array (Option Value)) (P : Addr),
    fd = PySem.W.fnOf x x (defArgs st) (defBody st) (defScope st) dV kV doc pm an (.ref c0) ct ∧ K.lookup f = some ⟨oc, od, .func fd, osl⟩ ∧ PySem.W.codeIn K (.ref c0) x = true ∧ PySem.W.codeHdIn K c0 P = true ∧ tabQ K P = some q
  kp : PySem.W.keepIn K (.ref f) = true
  ql : (x ++ ".<locals>.") ++ "<lambda>" = q
end
end L3
end
section
set_option Elab.async false
set_option linter.all false
set_option maxRecDepth 100000
set_option maxHeartbeats 4000000
namespace L3
open PySem PySem.Spec L2
open PyProof.Rows hiding St
abbrev tI (ks : List Int) : PyData := .tuple (ks.map .int)
def flt (kvs : List (List Int × PyData)) : List (PyData × PyData) := kvs.map fun x => (tI x.1, x.2)
section
variable {X : Cx} {pins : List (Addr × Obj)} {σ : St} {H : Hp} {s : Shared} {τ : Ms}
end
section
variable {X : Cx} {N : List Str} {sc : Scope} {k : Nat} {e f o i value : Expr} {td tk tx tv : DE} {pos : Pos}
end
end L3
end
section
set_option Elab.async false
set_option linter.all false
set_option maxRecDepth 100000
set_option maxHeartbeats 4000000
namespace L3
open PySem PySem.Spec L2
open PyProof.Rows hiding St
section
variable {prog : Program} {w : World} {K : Type} [DecidableEq K] {knd : HeapKind prog w K} {A : Around} {E : Value → Shared → Prop} {s : Shared} {d a : Addr} {k : K} {xs : List (K × Addr × Value)}
end
section
variable {X : Cx} {N : List Str} {sc : Scope} {k : Nat} {e f o i value : Expr} {td tk tx tv : DE} {pos : Pos}
end
end L3
end
section
set_option Elab.async false
set_option linter.all false
set_option maxRecDepth 100000
set_option maxHeartbeats 4000000
namespace L3
open PySem PySem.Spec L2
open PyProof.Rows hiding St
abbrev DI := Dl → Ms → (List PyData → Ms → Prop) → Prop
structure Walk (K : PySem.W.Frag) (J : It) (τ1 : Ms) (H1 : Hp) (ds : List PyData) : Prop where
  go : ∀ i τ2 H2, Stp τ1 H1 τ2 H2 → i < ds.length → J.go i H2
  yld : ∀ i τ2 H2 x H', Stp τ1 H1 τ2 H2 → TW K τ2 H2 → J.yld i H2 x H' → i < ds.length → Stp τ2 H2 τ2 H' ∧ TW K τ2 H' ∧ ∃ d, ds[i]? = some d ∧ Dx K τ2 H' x d
  stop : ∀ τ2 H2, Stp τ1 H1 τ2 H2 → J.stop ds.length H2
def lI (K : PySem.W.Frag) (ti : DI) : TI := fun σ H Rr => ∃ δ τ R', SR K τ H σ δ ∧ TW K τ H ∧ ti δ τ R' ∧ ∀ J ds τ1 H1, Stp τ H τ1 H1 → TW K τ1 H1 → R' ds τ1 → Walk K J τ1 H1 ds → Rr J H1
structure QI (X : Cx) (tg iter : Expr) (ti : DI) : Prop where
  pi : PI X tg iter (lI X.K ti)
section
variable {X : Cx} {N : List Str} {sc : Scope} {k : Nat} {e tg : Expr} {te : DE} {pos : Pos}
def dISeq (te : DE) : DI := fun δ τ R => te δ τ fun d τ1 => match d with | .list ds => R ds τ1 | .tuple ds => R ds τ1 | _ => False
theorem walk_list {K : PySem.W.Frag} {τ : Ms} {H : Hp} {a : Addr} {ds : List PyData} (x : Dx K τ H (.ref a) (.list ds)) : Walk K (Itl K a) τ H ds where
  go := fun i τ2 H2 st hi => by
    obtain ⟨a', xs, e, sq, al⟩ := (Dx.stp st _ _ x).lstInv
    cases e
    have hl := al.length
    exact ⟨xs, xs[i]'(by omega), sq, List.getElem?_eq_getElem _⟩
  yld := fun i τ2 H2 y H' st w h hi => by
    obtain ⟨rfl, h⟩ := h
    obtain ⟨a', xs, e, sq, al⟩ := (Dx.stp st _ _ x).lstInv
    cases e
    obtain ⟨d, ed, dx⟩ := al.got (h xs sq)
    exact ⟨.refl, w, d, ed, dx⟩
  stop := fun τ2 H2 st => by
    obtain ⟨a', xs, e, sq, al⟩ := (Dx.stp st _ _ x).lstInv
    cases e
    exact ⟨xs, sq, Nat.le_of_eq al.length⟩
theorem walk_tup {K : PySem.W.Frag} {τ : Ms} {H : Hp} {a : Addr} {ds : List PyData} (x : Dx K τ H (.ref a) (.tuple ds)) : Walk K (Itt K a) τ H ds where
  go := fun i τ2 H2 st hi => by
    obtain ⟨a', xs, e, sq, al⟩ := (Dx.stp st _ _ x).tupInv
    cases e
    have hl := al.length
    exact ⟨xs, xs[i]'(by omega), sq, List.getElem?_eq_getElem _⟩
  yld := fun i τ2 H2 y H' st w h hi => by
    obtain ⟨rfl, h⟩ := h
    obtain ⟨a', xs, e, sq, al⟩ := (Dx.stp st _ _ x).tupInv
    cases e
    obtain ⟨d, ed, dx⟩ := al.got (h xs sq)
    exact ⟨.refl, w, d, ed, dx⟩
  stop := fun τ2 H2 st => by
    obtain ⟨a', xs, e, sq, al⟩ := (Dx.stp st _ _ x).tupInv
    cases e
    exact ⟨xs, sq, Nat.le_of_eq al.length⟩
theorem pi_mono {iter : Expr} {w1 w2 : TI} (h : PI X tg iter w1) (m : ∀ σ H R, w2 σ H R → w1 σ H R) : PI X tg iter w2 := fun pins s σ H R I q => h pins s σ H R I (m σ H R q)
theorem qi_seq (h : QE X e te) : QI X tg e (dISeq te) := by
  refine ⟨fun pins s σ H R I q => ?_⟩
  obtain ⟨δ, τ, R', sr, tw, h', kk⟩ := q
  refine thn (h.pe pins s σ H (fun v H1 => ∃ d τ1, Stp τ H τ1 H1 ∧ TW X.K τ1 H1 ∧ Dx X.K τ1 H1 v d ∧ match d with | .list ds => R' ds τ1 | .tuple ds => R' ds τ1 | _ => False) I ⟨δ, τ, _, sr, tw, h', fun v d τ1 H1 s1 w1 x1 q1 => ⟨d, τ1, s1, w1, x1, q1⟩⟩) fun v s1 ⟨x, H1, I1, r1, d, τ1, s1', w1, x1, q1⟩ => ?_
  split at q1
  · obtain ⟨a, xs, rfl, sq, al⟩ := id x1.lstInv
    cases r1
    obtain ⟨its, rv, p, hz⟩ := I1.list sq
    refine wpAny_pyIter_list p.isList ⟨s1.heap.objs.size, [s1.heap.objs.size], _, _, H1, rfl, I1.kept (t' := s1.toks) fun b o e => Heap.get?_push_of_some _ e, turn_list a _, ⟨_, Heap.get?_push_size _ rfl, rfl, rfl⟩, fun b hb => ?_, kk _ _ τ1 H1 s1' w1 q1 (walk_list x1)⟩
    rw [show b = s1.heap.objs.size by simpa using hb]
    exact I1.fpOk (Nat.le_refl _) (I1.hok.fresh (Nat.le_refl _))
  · obtain ⟨a, xs, rfl, sq, al⟩ := id x1.tupInv
    cases r1
    obtain ⟨its, rv, p, hz⟩ := I1.tuple sq
    refine wpAny_pyIter_tuple (show s1.heap.IsTuple a its.toArray from p) ⟨s1.heap.objs.size, [s1.heap.objs.size], _, _, H1, rfl, I1.kept (t' := s1.toks) fun b o e => Heap.get?_push_of_some _ e, turn_tuple a _, ⟨_, Heap.get?_push_size _ rfl, rfl, rfl⟩, fun b hb => ?_, kk _ _ τ1 H1 s1' w1 q1 (walk_tup x1)⟩
    rw [show b = s1.heap.objs.size by simpa using hb]
    exact I1.fpOk (Nat.le_refl _) (I1.hok.fresh (Nat.le_refl _))
  · exact q1.elim
def rngD (n : Nat) : List PyData := (List.range n).map fun (j : Nat) => PyData.int (j : Int)
def dIRng (te : DE) : DI := fun δ τ R => te δ τ fun d τ1 => match d with | .int z => z ≤ 100000 ∧ -100000 ≤ z ∧ R (rngD z.toNat) τ1 | _ => False
theorem qi_rng {p : Pos} (B : Bx X N sc k) (hm : X.mg "range" = none) (h : QE X e te) (hg : sc.names.lookup ("range" : Str) = some .globalImplicit := by rfl) (hst : starEach [e] X.env = [(false, eval e X.env)] := by rfl) : QI X tg (.Call (.Name "range" p) [e] [] pos) (dIRng te) := by
  refine ⟨pi_mono (pi_range1 (B.gl hg) hm (qa_cons h qa_nil hst).pa hst) fun σ H R q => ?_⟩
  obtain ⟨δ, τ, R', sr, tw, h', kk⟩ := q
  refine ⟨δ, τ, fun ds τ1 => match ds with | [d] => (match d with | .int z => z ≤ 100000 ∧ -100000 ≤ z ∧ R' (rngD z.toNat) τ1 | _ => False) | _ => False, sr, tw, h', fun vs ds τ1 H1 s1 w1 x1 q1 => ?_⟩
  dsimp only at q1
  split at q1
  · split at q1
    · rename_i z
      cases x1 with | cons x1 x2 =>
      cases x2
      cases x1.intInv
      refine ⟨z, rfl, by omega, by omega, kk _ _ τ1 H1 s1 w1 q1.2.2 ⟨fun i τ2 H2 _ hi => by show i < z.toNat; simp [rngD] at hi; omega, fun i τ2 H2 x H' _ w y hi => ?_, fun τ2 H2 _ => by show z.toNat ≤ _; simp [rngD]⟩⟩
      obtain ⟨rfl, rfl⟩ := y
      have hi' : i < z.toNat := by simp [rngD] at hi; omega
      refine ⟨.refl, w, .int i, by simp [rngD, hi'], ?_⟩
      rw [show (0 : Int) + (i : Int) = (i : Int) by omega]
      exact .int _
    · exact q1.elim
  · exact q1.elim
end
end L3
end
section
set_option Elab.async false
set_option linter.all false
set_option maxRecDepth 100000
set_option maxHeartbeats 4000000
namespace L3
open PySem PySem.Spec L2
open PyProof.Rows hiding St
def dLf (i : Nat) (tt : DT) (te : DE) (δ : Dl) (D : Addr) : List PyData → Ms → DK → Prop
  | [], τ, R => ∃ out : List PyData, τ D = some (Ow.lst out) ∧ R (.list out) (mdel τ D)
  | d :: ds, τ, R => tt (δ.set i (some d)) τ fun b τ' => if b = true then te (δ.set i (some d)) τ' fun e τ2 => ∃ out : List PyData, τ2 D = some (Ow.lst out) ∧ out.length < 2000 ∧ dLf i tt te δ D ds (mset τ2 D (out ++ [e])) R else dLf i tt te δ D ds τ' R
def dLcI (i : Nat) (ti : DI) (tt : DT) (te : DE) : DE := fun δ τ R => ti δ τ fun ds τ1 => ∀ D, τ1 D = none → dLf i tt te δ D ds (mset τ1 D []) R
def dYes : DT := fun _ τ R => R true τ
structure QTs (X : Cx) (ifs : List Expr) (t : DT) : Prop where
  pt : PTs X ifs (lT X.K t)
section
variable {X : Cx} {N : List Str} {sc : Scope} {k : Nat} {e tg : Expr} {te : DE} {tt : DT} {pos : Pos}
theorem qts_nil : QTs X [] dYes := ⟨fun pins s σ H Q I h => by
  obtain ⟨δ, τ, R, sr, tw, h, kk⟩ := h
  exact pts_nil pins s σ H Q I (kk true τ H .refl tw h)⟩
theorem lf_turn {K : PySem.W.Frag} {i : Nat} {δ : Dl} {D : Addr} {ds : List PyData} {τ1 : Ms} {H1 : Hp} {R : DK} {σ : St} (hi : i < σ.length) (sr : SR K τ1 H1 σ δ) {j : Nat} {d : PyData} (ej : ds[j]? = some d) {x : V} {τ2 : Ms} {H2 : Hp} (s2 : Stp τ1 H1 τ2 H2) (w2 : TW K τ2 H2) (dx : Dx K τ2 H2 x d) (q2 : dLf i tt te δ D (ds.drop j) τ2 R) :
    gName i x (wipe σ [i]) H2 fun σ2 H2 => wipe σ2 [i] = wipe σ [i] ∧ lT K tt σ2 H2 fun b H3 =>
      if b = true then lE K te σ2 H3 fun y H4 => ∃ acc, H4 D = some (.lst acc) ∧ acc.length < sizeLine ∧ (∃ τ2, Stp τ1 H1 τ2 (upd H4 D (.lst (acc ++ [y]))) ∧ TW K τ2 (upd H4 D (.lst (acc ++ [y]))) ∧ dLf i tt te δ D (ds.drop (j + 1)) τ2 R)
      else (∃ τ2, Stp τ1 H1 τ2 H3 ∧ TW K τ2 H3 ∧ dLf i tt te δ D (ds.drop (j + 1)) τ2 R) := by
  obtain ⟨hj, ed⟩ := List.getElem?_eq_some_iff.mp ej
  rw [List.drop_eq_getElem_cons hj, ed] at q2
  refine ⟨by simp [wipe, List.set_set], ?_⟩
  have e1 : (wipe σ [i]).set i (some x) = σ.set i (some x) := by simp [wipe, List.set_set]
  rw [e1]
  have sr2 := (sr.stp s2).set i dx hi
  refine ⟨δ.set i (some d), τ2, _, sr2, w2, q2, fun b τ3 H3 s3 w3 q3 => ?_⟩
  cases b with
  | false =>
    simp only [Bool.false_eq_true, if_false] at q3 ⊢
    exact ⟨τ3, s2.trans s3, w3, q3⟩
  | true =>
    simp only [if_true] at q3 ⊢
    refine ⟨δ.set i (some d), τ3, _, sr2.stp s3, w3, q3, fun y e τ4 H4 s4 w4 x4 q4 => ?_⟩
    obtain ⟨out, eo, ho, q⟩ := q4
    obtain ⟨acc, ha, al⟩ := w4.1 D out eo
    exact ⟨acc, ha, by rw [al.length]; exact Nat.lt_trans ho (by decide), mset τ4 D (out ++ [e]), ((s2.trans s3).trans s4).trans (.put eo), w4.put eo (al.snoc x4), q⟩
theorem qe_lcI (B : Bx X N sc k) (i : Nat) {x : Str} {iter elt : Expr} {ifs : List Expr} {scope : Scope} {p : Pos} {ti : DI} (hi : QI X (.Name x p) iter ti) (ht : ∀ (s : Shared) (H : Hp) (C : Addr) (cl : List (Str × Addr)) (fp : List Addr), QTs (X.blk s H scope (compEnvC scope cl C X.env) fp) ifs tt)
    (he : ∀ (s : Shared) (H : Hp) (C : Addr) (cl : List (Str × Addr)) (fp : List Addr), QE (X.blk s H scope (compEnvC scope cl C X.env) fp) elt te)
    (ok : blkC N sc scope [(x, i)] = true := by decide +kernel) (h1 : N[i]? = some x := by rfl) (hx : (relS scope sc).names.lookup x = some .local := by rfl) (hs : ∀ x, foldedSetIterable iter X.env x = pure x := by intro _; rfl) :
    QE X (.ListComp elt [⟨.Name x p, iter, ifs, 0⟩] scope pos) (dLcI i ti tt te) := by
  have hl : i < X.N.length := by rw [B.n]; exact (List.getElem?_eq_some_iff.mp h1).1
  refine ⟨fun pins s σ H Q I q => pe_lc (own := [(x, i)]) (g := gName i) (tt := lT X.K tt) (te := lE X.K te) B.calm (by rw [B.n]; exact B.nd) hi.pi (blkOk_by (by rw [B.n, B.scp]; exact ok)) (fun s H C cl fp => pg_name (i := i) (by show X.N.Nodup; rw [B.n]; exact B.nd) (by show X.N[i]? = _; rw [B.n]; exact h1) (.inl (by have := (B.blk s H scope cl C fp).scp; rw [this]; exact hx)) (.inr (by have := (B.blk s H scope cl C fp).scp; rw [this]; exact hx))) (fun s H C cl fp => (ht s H C cl fp).pt) (fun s H C cl fp => (he s H C cl fp).pe) hs pins s σ H Q I ?_⟩
  have hi' : i < σ.length := by rw [I.len]; exact hl
  obtain ⟨δ, τ, R, sr, tw, h, kk⟩ := q
  refine ⟨δ, τ, _, sr, tw, h, fun J ds τ1 H1 s1 w1 q1 wk => fun D hD => ?_⟩
  refine ⟨fun j m H2 => m = ds.length - j ∧ j ≤ ds.length ∧ ∃ τ2, Stp τ1 H1 τ2 H2 ∧ TW X.K τ2 H2 ∧ dLf i tt te δ D (ds.drop j) τ2 R, ⟨ds.length, by simp, Nat.zero_le _, _, .own hD, w1.own hD .nil, q1 D (w1.free hD)⟩, ?_⟩
  rintro j m H2 ⟨rfl, hj, τ2, s2, w2, q2⟩
  by_cases hlt : j < ds.length
  · refine .inr ⟨wk.go j τ2 H2 s2 hlt, fun H' => ∃ τ3, Stp τ1 H1 τ3 H' ∧ TW X.K τ3 H' ∧ dLf i tt te δ D (ds.drop (j + 1)) τ3 R, fun H' z => ⟨ds.length - (j + 1), by omega, rfl, hlt, z⟩, fun x' H' y => ?_⟩
    obtain ⟨s3, w3, d, ed, dx⟩ := wk.yld j τ2 H2 x' H' s2 w2 y hlt
    exact lf_turn hi' (sr.stp s1) ed (s2.trans s3) w3 dx q2
  · have ej : j = ds.length := by omega
    subst ej
    rw [List.drop_length] at q2
    refine .inl ⟨wk.stop τ2 H2 s2, ?_⟩
    obtain ⟨out, eo, q⟩ := q2
    obtain ⟨acc, ha, al⟩ := w2.1 D out eo
    exact kk _ _ _ _ ((s1.trans s2).trans .give) (w2.give (noTab eo)) (.lst mdel_same (.inl ha) (DxAll.stp .give _ _ al)) q
theorem dLf_pure {i : Nat} {δ : Dl} {D : Addr} (p : PyData → Bool) (f : PyData → PyData) : ∀ {ds out : List PyData} {τ : Ms} {R : DK}, (∀ d ∈ ds, ∀ τ' (R' : Bool → Ms → Prop), R' (p d) τ' → tt (δ.set i (some d)) τ' R') → (∀ d ∈ ds, p d = true → ∀ τ' (R' : DK), R' (f d) τ' → te (δ.set i (some d)) τ' R') →
    τ D = none → out.length + ds.length ≤ 2000 → R (.list (out ++ (ds.filter p).map f)) τ → dLf i tt te δ D ds (mset τ D out) R
  | [], out, τ, R, _, _, hD, _, q => ⟨out, mset_same, by rw [mdel_mset hD]; simpa using q⟩
  | d :: ds, out, τ, R, ht, he, hD, hl, q => by
    refine ht d List.mem_cons_self _ _ ?_
    cases e : p d with
    | false =>
      rw [if_neg (by simp)]
      exact dLf_pure p f (fun d' hd' => ht d' (List.mem_cons_of_mem _ hd')) (fun d' hd' => he d' (List.mem_cons_of_mem _ hd')) hD (by simp at hl ⊢; omega) (by rw [List.filter_cons_of_neg (by simp [e])] at q; exact q)
    | true =>
      rw [if_pos rfl]
      refine he d List.mem_cons_self e _ _ ⟨out, mset_same, by simp at hl; omega, ?_⟩
      rw [mset_mset]
      exact dLf_pure p f (fun d' hd' => ht d' (List.mem_cons_of_mem _ hd')) (fun d' hd' => he d' (List.mem_cons_of_mem _ hd')) hD (by simp at hl ⊢; omega) (by rw [List.filter_cons_of_pos e] at q; simpa using q)
def dFi (is : List Nat) (un : Bool) (tb : DS) : List PyData → DS
  | [], E, δ, τ => E.nx δ τ
  | d :: ds, E, δ, τ => (if un = true then (match d with | .tuple us => us.length = is.length ∧ tb { E with nx := fun δ' τ' => dFi is un tb ds E δ' τ', ct := fun δ' τ' => dFi is un tb ds E δ' τ', bk := E.nx } (dSetL δ is us) τ | _ => False)
      else tb { E with nx := fun δ' τ' => dFi is un tb ds E δ' τ', ct := fun δ' τ' => dFi is un tb ds E δ' τ', bk := E.nx } (dSetL δ is [d]) τ)
def dForI (is : List Nat) (un : Bool) (ti : DI) (tb : DS) : DS := fun E δ τ => ti δ τ fun ds τ1 => dFi is un tb ds E δ τ1
theorem for_run {K : PySem.W.Frag} {n : Nat} {is : List Nat} {un : Bool} {ti : DI} {tb : DS} {g : TG} (hb : ∀ i ∈ is, i < n) (hg : ∀ {d : PyData} {x : V} {τ : Ms} {H : Hp} {σ : St} {δ : Dl} {Q : St → Hp → Prop}, Dx K τ H x d → σ.length = n → SR K τ H σ δ →
      (∀ us, (if un = true then d = .tuple us ∧ us.length = is.length else us = [d]) → ∀ σ', σ'.length = n → SR K τ H σ' (dSetL δ is us) → Q σ' H) → (un = true → ∃ us, d = .tuple us ∧ us.length = is.length) → g x σ H Q) :
    ∀ {D : Ends} {σ : St} {H : Hp}, lS K n (dForI is un ti tb) D σ H → tFor (lI K ti) g (lS K n tb) D σ H := by
  rintro D σ H ⟨δ, τ, E, hl, sr, tw, h, kk⟩
  refine ⟨δ, τ, _, sr, tw, h, fun J ds τ1 H1 s1 w1 q1 wk => ?_⟩
  refine ⟨fun j m σ2 H2 => m = ds.length - j ∧ j ≤ ds.length ∧ ∃ δ2 τ2, σ2.length = n ∧ Stp τ1 H1 τ2 H2 ∧ TW K τ2 H2 ∧ SR K τ2 H2 σ2 δ2 ∧ dFi is un tb (ds.drop j) E δ2 τ2, ⟨ds.length, by simp, Nat.zero_le _, δ, τ1, hl, .refl, w1, sr.stp s1, q1⟩, ?_⟩
  rintro j m σ2 H2 ⟨rfl, hj, δ2, τ2, l2, s2, w2, r2, q2⟩
  by_cases hlt : j < ds.length
  · refine .inr ⟨wk.go j τ2 H2 s2 hlt, fun σ' H' => ∃ δ3 τ3, σ'.length = n ∧ Stp τ1 H1 τ3 H' ∧ TW K τ3 H' ∧ SR K τ3 H' σ' δ3 ∧ dFi is un tb (ds.drop (j + 1)) E δ3 τ3, fun σ' H' z => ⟨ds.length - (j + 1), by omega, rfl, hlt, z⟩, fun x' H' y => ?_⟩
    obtain ⟨s3, w3, d, ed, dx⟩ := wk.yld j τ2 H2 x' H' s2 w2 y hlt
    obtain ⟨hj', ed'⟩ := List.getElem?_eq_some_iff.mp ed
    rw [List.drop_eq_getElem_cons hj', ed'] at q2
    have fin : ∀ us, tb { E with nx := fun δ' τ' => dFi is un tb (ds.drop (j + 1)) E δ' τ', ct := fun δ' τ' => dFi is un tb (ds.drop (j + 1)) E δ' τ', bk := E.nx } (dSetL δ2 is us) τ2 → ∀ σ', σ'.length = n → SR K τ2 H' σ' (dSetL δ2 is us) →
        lS K n tb { D with nx := fun σ' H' => ∃ δ3 τ3, σ'.length = n ∧ Stp τ1 H1 τ3 H' ∧ TW K τ3 H' ∧ SR K τ3 H' σ' δ3 ∧ dFi is un tb (ds.drop (j + 1)) E δ3 τ3, ct := fun σ' H' => ∃ δ3 τ3, σ'.length = n ∧ Stp τ1 H1 τ3 H' ∧ TW K τ3 H' ∧ SR K τ3 H' σ' δ3 ∧ dFi is un tb (ds.drop (j + 1)) E δ3 τ3, bk := D.nx } σ' H' := fun us q σ' l' r' => by
      have k2 := kk.stp ((s1.trans s2).trans s3)
      refine ⟨_, τ2, _, l', r', w3, q, ⟨fun σ4 δ4 τ4 H4 l4 s4 w4 r4 q4 => ⟨δ4, τ4, l4, (s2.trans s3).trans s4, w4, r4, q4⟩, k2.2.1, k2.1, fun σ4 δ4 τ4 H4 l4 s4 w4 r4 q4 => ⟨δ4, τ4, l4, (s2.trans s3).trans s4, w4, r4, q4⟩⟩⟩
    cases un with
    | false =>
      refine hg dx l2 (r2.stp s3) (fun us hu σ' l' r' => ?_) fun z => nomatch z
      simp only [Bool.false_eq_true, if_false] at hu
      subst hu
      have q2' : tb { E with nx := fun δ' τ' => dFi is false tb (ds.drop (j + 1)) E δ' τ', ct := fun δ' τ' => dFi is false tb (ds.drop (j + 1)) E δ' τ', bk := E.nx } (dSetL δ2 is [d]) τ2 := q2
      exact fin _ q2' σ' l' r'
    | true =>
      obtain ⟨us, e, hu, q2'⟩ : ∃ us, d = .tuple us ∧ us.length = is.length ∧ tb { E with nx := fun δ' τ' => dFi is true tb (ds.drop (j + 1)) E δ' τ', ct := fun δ' τ' => dFi is true tb (ds.drop (j + 1)) E δ' τ', bk := E.nx } (dSetL δ2 is us) τ2 := by
        clear ed dx ed'
        cases d with
        | tuple us => exact ⟨us, rfl, q2⟩
        | _ => exact False.elim q2
      subst e
      refine hg dx l2 (r2.stp s3) (fun us' hu' σ' l' r' => ?_) fun _ => ⟨us, rfl, hu⟩
      simp only [if_true] at hu'
      obtain ⟨e, _⟩ := hu'
      cases e
      exact fin _ q2' σ' l' r'
  · have ej : j = ds.length := by omega
    subst ej
    rw [List.drop_length] at q2
    exact .inl ⟨wk.stop τ2 H2 s2, kk.1 σ2 δ2 τ2 H2 l2 (s1.trans s2) w2 r2 q2⟩
theorem qs_forI (B : Bs X N sc k) (i : Nat) {x : Str} {p : Pos} {iter : Expr} {sts : List Stmt} {ti : DI} {tb : DS} (hi : QI X (.Name x p) iter ti) (hb : QSs X sts tb) (h1 : N[i]? = some x := by rfl) (hx : sc.names.lookup x = some .local ∨ sc.names.lookup x = some .cell := by first | exact Or.inl rfl | exact Or.inr rfl)
    (hs : ∀ x, foldedSetIterable iter X.env x = pure x := by intro _; rfl) : QS X (.For (.Name x p) iter sts [] pos) (dForI [i] false ti tb) := by
  have hl : i < X.N.length := by rw [B.n]; exact (List.getElem?_eq_some_iff.mp h1).1
  have hb' : ∀ j ∈ [i], j < X.N.length := fun j hj => by rw [List.mem_singleton.mp hj]; exact hl
  refine .of (ps_for B.po B.calm hi.pi (pg_name (i := i) (by rw [B.n]; exact B.nd) (by rw [B.n]; exact h1) (by unfold L2.Loc; rw [B.scp]; exact hx) (by rcases hx with q | q; exact .inr (by rw [B.scp]; exact q); exact .inl (B.fn x q))) hb.ps hs) fun D σ H q => for_run hb' (fun {d x τ H σ δ Q} dx l r fin _ => ?_) q
  exact fin [d] (by simp) _ (by rw [List.length_set]; exact l) (r.put i dx l hl)
end
end L3
end
section
set_option Elab.async false
set_option linter.all false
set_option maxRecDepth 100000
set_option maxHeartbeats 4000000
namespace L3
open PySem PySem.Spec L2
open PyProof.Rows hiding St
section
variable {X : Cx}
end
end L3
end
section
set_option Elab.async false
set_option linter.all false
set_option maxRecDepth 100000
set_option maxHeartbeats 4000000
namespace L3
open PySem PySem.Spec L2
open PyProof.Rows hiding St
section
variable {X : Cx} {N : List Str} {sc : Scope} {k : Nat} {e tg : Expr} {te tk tv : DE} {tt : DT} {pos : Pos}
end
end L3
end
section
set_option Elab.async false
set_option linter.all false
set_option maxRecDepth 100000
set_option maxHeartbeats 4000000
namespace L3
open PySem PySem.Spec L2
open PyProof.Rows hiding St
section
variable {prog : Program} {w : World} {K : Type} [DecidableEq K] {knd : HeapKind prog w K} {A : Around} {E : Value → Shared → Prop} {s : Shared} {a b : Addr} {xa xb : List (K × Addr × Value)}
end
section
variable {X : Cx} {N : List Str} {sc : Scope} {k : Nat} {a b : Expr} {ta tb : DE} {pos : Pos}
end
end L3
end
section
set_option Elab.async false
set_option linter.all false
set_option maxRecDepth 100000
set_option maxHeartbeats 4000000
namespace L3
open PySem PySem.Spec L2
open PyProof.Rows hiding St
def Thaw (τ : Ms) (d : PyData) (τ' : Ms) (d' : PyData) : Prop := ∀ (K : PySem.W.Frag) (H : Hp) (v : V), TW K τ H → Dx K τ H v d → Stp τ H τ' H ∧ TW K τ' H ∧ Dx K τ' H v d'
theorem Thaw.refl {τ : Ms} {d : PyData} : Thaw τ d τ d := fun _ _ _ w x => ⟨.refl, w, x⟩
theorem Thaw.trans {τ τ1 τ2 : Ms} {d d1 d2 : PyData} (a : Thaw τ d τ1 d1) (b : Thaw τ1 d1 τ2 d2) : Thaw τ d τ2 d2 := fun K H v w x =>
  let ⟨s1, w1, x1⟩ := a K H v w x
  let ⟨s2, w2, x2⟩ := b K H v w1 x1
  ⟨s1.trans s2, w2, x2⟩
theorem Thaw.drop {τ : Ms} {d : PyData} {p : Addr} (h : τ p ≠ some .tab) : Thaw τ d (mdel τ p) d := fun _ _ _ w x => ⟨.give, w.give h, Dx.stp .give _ _ x⟩
theorem Thaw.list {τ : Ms} {p : Addr} {ds : List PyData} (h : τ p = some (.lst ds)) : Thaw τ (rf p) (mdel τ p) (.list ds) := fun K H v w x => by
  cases x.rfInv
  obtain ⟨xs, hx, al⟩ := w.lst p ds h
  exact ⟨.give, w.give (noTab h), .lst mdel_same (.inl hx) (DxAll.stp .give _ _ al)⟩
theorem Thaw.dict {τ : Ms} {p : Addr} {kvs : List (PyData × PyData)} (h : τ p = some (.dic kvs)) : Thaw τ (rf p) (mdel τ p) (dicD kvs) := fun K H v w x => by
  cases x.rfInv
  obtain ⟨nd, o, es, hx, hO, en⟩ := w.dic p kvs h
  exact ⟨.give, w.give (noTabD h), .dic mdel_same hx hO (DxEn.stp .give _ _ en) nd⟩
section
variable {X : Cx} {N : List Str} {sc : Scope} {k : Nat} {e a : Expr} {te tl th : DE} {pos : Pos} {st : Stmt} {sts : List Stmt} {t : DS}
theorem SR.over {K : PySem.W.Frag} {τ : Ms} {H : Hp} {σ : St} {δ : Dl} (h : SR K τ H σ δ) {i : Nat} {v : V} {d : PyData} (e : σ[i]? = some (some v)) (x : Dx K τ H v d) : SR K τ H σ (δ.set i (some d)) := fun j d' q => by
  by_cases z : j = i
  · subst z
    rw [List.getElem?_set] at q
    simp at q
    obtain ⟨_, rfl⟩ := q
    exact ⟨v, e, x⟩
  · rw [List.getElem?_set_ne (Ne.symm z)] at q
    exact h j d' q
theorem DxAll.drop {K : PySem.W.Frag} {τ : Ms} {H : Hp} : ∀ {xs : List V} {ds : List PyData} (n : Nat), DxAll K τ H xs ds → DxAll K τ H (xs.drop n) (ds.drop n)
  | _, _, 0, h => h
  | _, _, n + 1, .nil => .nil
  | _, _, n + 1, .cons a b => DxAll.drop n b
theorem DxAll.take {K : PySem.W.Frag} {τ : Ms} {H : Hp} : ∀ {xs : List V} {ds : List PyData} (n : Nat), DxAll K τ H xs ds → DxAll K τ H (xs.take n) (ds.take n)
  | _, _, 0, h => by simpa using DxAll.nil
  | _, _, n + 1, .nil => .nil
  | _, _, n + 1, .cons a b => .cons a (DxAll.take n b)
end
end L3
end
section
set_option Elab.async false
set_option linter.all false
set_option maxRecDepth 100000
set_option maxHeartbeats 4000000
namespace L3
open PySem PySem.Spec L2
open PyProof.Rows hiding St
section
variable {X : Cx} {N : List Str} {sc : Scope} {k : Nat} {e a : Expr} {te tl th : DE} {pos : Pos}
end
end L3
end
section
set_option Elab.async false
set_option linter.all false
set_option maxRecDepth 100000
set_option maxHeartbeats 4000000
namespace L3
open PySem PySem.Spec L2
open PyProof.Rows hiding St
open AutoSeq1 (wpAny_loadPart')
section
variable {prog : Program} {w : World} {A : Around} {E : Value → Shared → Prop} {s : Shared}
end
section
variable {X : Cx} {N : List Str} {sc : Scope} {k : Nat} {e tg : Expr} {te : DE} {pos : Pos}
end
end L3
end
section
set_option Elab.async false
set_option linter.all false
set_option maxRecDepth 100000
namespace L3
open PySem
structure Tbl (t : SetTable) (n : Nat) : Prop where
  mask : t.mask = 7 ∨ t.mask = 31
  dum : t.dummies = #[]
  size : t.place.size = n
  room : n ≤ t.mask
section
variable {t : SetTable} {n : Nat}
open SetTable
def f5 (m : Nat) (i : Nat) : Nat := (i * 5 + 1) % (m + 1)
end
end L3
namespace L3
open PySem
open SetTable
end L3
end
section
set_option Elab.async false
set_option linter.all false
set_option maxRecDepth 100000
set_option maxHeartbeats 4000000
namespace L3
open PySem PySem.Spec L2
open PyProof.Rows hiding St
def TupK (h : Heap) (a : Addr) (ks : List Int) : Prop := ∃ o items n, h.get? a = some o ∧ o.cls = .type "tuple" ∧ o.data = .seq items n ∧ IntsAre items.toList ks
section
variable {prog : Program} {w : World} {A : Around} {E : Value → Shared → Prop} {s : Shared} {S a : Addr}
theorem TupK.is {h : Heap} {a : Addr} {ks : List Int} (t : TupK h a ks) : (tupleKind (mixKind prog w)).is h (ksOf ks) a := by
  obtain ⟨o, items, n, h1, h2, h3, h4⟩ := t
  refine ⟨o, items, n, h1, h2, h3, ?_⟩
  have : ∀ {vs : List Value} {ns : List Int}, IntsAre vs ns → Vals (ns.map V.int) vs := fun h => vals_intsD h
  simpa using items_are (vals_keys (this h4))
structure SetT (h : Heap) (S : Addr) (o : Obj) (es : Array (Int × Value)) (ep : Nat) (t : SetTable) (k : Nat) : Prop where
  ho : h.get? S = some o
  hd : o.data = .set es ep t
  sz : es.size = k
  tb : Tbl t k
  el : ∀ e ∈ es.toList, ∃ b ks, e.2 = .ref b ∧ TupK h b ks ∧ b ≠ S
theorem tupK_keep {h h' : Heap} {b : Addr} {ks : List Int} (sb : Heap.SameBut S h h') (n : b ≠ S) (t : TupK h b ks) : TupK h' b ks := by
  obtain ⟨o, items, m, h1, r⟩ := t
  exact ⟨o, items, m, (sb.2 b n).trans h1, r⟩
theorem stored {o : Obj} {es es' : Array (Int × Value)} {ep : Nat} {t t' : SetTable} {k k' : Nat} (T : SetT s.heap S o es ep t k) (hz : es'.size = k') (T' : Tbl t' k') (hk : k' ≤ 31) (el : ∀ e ∈ es'.toList, ∃ b ks, e.2 = .ref b ∧ TupK s.heap b ks ∧ b ≠ S) {Q : Unit → Shared → Prop}
    (hQ : ∀ h' o', SetT h' S o' es' (ep + 1) t' k' → Heap.SameBut S s.heap h' → (o.ExactSet → o'.ExactSet) → Q () { s with heap := h' }) : wpAny (model prog w) A (storeSet S es' t') Q E s := by
  refine wpAny_storeSet_of T.ho T.hd ?_ (by rw [hz, sizeLine_eq]; omega)
  have sb := Heap.SameBut.update s.heap S (Obj.putSet es' t')
  obtain ⟨⟨c, dd, dt, sl⟩, hc⟩ : ∃ o0, o0 = o := ⟨o, rfl⟩
  subst hc
  have hd : dt = .set es ep t := T.hd
  subst hd
  refine hQ _ ⟨c, dd, .set es' (ep + 1) t', sl⟩ ⟨?_, rfl, hz, T', fun e he => ?_⟩ sb (fun z => z)
  · exact Heap.get?_update_self _ T.ho rfl
  · obtain ⟨b, ks, h1, h2, h3⟩ := el e he
    exact ⟨b, ks, h1, tupK_keep sb h3 h2, h3⟩
end
end L3
end
section
set_option Elab.async false
set_option linter.all false
set_option maxRecDepth 100000
set_option maxHeartbeats 4000000
namespace L3
open PySem PySem.Spec L2
open PyProof.Rows hiding St
theorem ints_fun : ∀ {vs : List Value} {a b : List Int}, IntsAre vs a → IntsAre vs b → a = b
  | _, _, _, .nil, .nil => rfl
  | _, _, _, .cons n t h, .cons _ _ h' => by rw [ints_fun h h']
theorem TupK.fn {h : Heap} {a : Addr} {x y : List Int} (p : TupK h a x) (q : TupK h a y) : x = y := by
  obtain ⟨o, it, n, h1, h2, h3, h4⟩ := p
  obtain ⟨o', it', n', g1, g2, g3, g4⟩ := q
  rw [h1] at g1; cases g1
  rw [h3] at g3; cases g3
  exact ints_fun h4 g4
theorem TupK.kept {h h' : Heap} {a : Addr} {x : List Int} (p : TupK h a x) (k : ∀ o, h.get? a = some o → h'.get? a = some o) : TupK h' a x := by
  obtain ⟨o, it, n, h1, r⟩ := p
  exact ⟨o, it, n, k o h1, r⟩
def Far (ad : Nat → Addr) (S : Addr) (i : Nat) (h : Heap) : Prop :=
  ∃ o es ep t, SetT h S o es ep t i ∧ (t.mask = 7 → i ≤ 4) ∧ (∀ e ∈ es.toList, ∃ j, j < i ∧ e.2 = .ref (ad j)) ∧ o.ExactSet
section
variable {prog : Program} {w : World} {A : Around} {R : Result → Shared → Prop} {I S : Addr} {fp wr : List Addr} {G : Array GenState → Array GenState → Prop} {n : Nat} {P : Nat → Value → Prop} {St : Nat → Shared → Prop} {ad : Nat → Addr} {ks : Nat → List Int}
theorem Far.kept {i : Nat} {h h' : Heap} (f : Far ad S i h) (kS : ∀ o, h.get? S = some o → h'.get? S = some o) (ka : ∀ j, j < i → ∀ o, h.get? (ad j) = some o → h'.get? (ad j) = some o) : Far ad S i h' := by
  obtain ⟨o, es, ep, t, T, m7, el, ex⟩ := f
  refine ⟨o, es, ep, t, ⟨kS _ T.ho, T.hd, T.sz, T.tb, fun e he => ?_⟩, m7, el, ex⟩
  obtain ⟨b, k, e1, e2, e3⟩ := T.el e he
  obtain ⟨j, hj, e4⟩ := el e he
  rw [e1] at e4; cases e4
  exact ⟨_, k, e1, e2.kept (ka j hj), e3⟩
end
end L3
end
section
set_option Elab.async false
set_option linter.all false
set_option maxRecDepth 100000
set_option maxHeartbeats 4000000
namespace L3
open PySem PySem.Spec L2
open PyProof.Rows hiding St
section
variable {prog : Program} {w : World} {A : Around} {E : Value → Shared → Prop} {s : Shared}
end
end L3
end
section
set_option Elab.async false
set_option linter.all false
set_option maxRecDepth 100000
set_option maxHeartbeats 4000000
namespace L3
open PySem PySem.Spec L2
open PyProof.Rows hiding St
theorem vals_ints : ∀ {ks : List Int} {us : List Value}, Vals (ks.map V.int) us → IntsAre us ks
  | [], _, h => by cases h; exact .nil
  | k :: ks, _, h => by
    cases h with
    | cons a t =>
      obtain ⟨tk, rfl⟩ := a
      exact .cons k tk (vals_ints t)
section
variable {X : Cx} {N : List Str} {sc : Scope} {k : Nat} {e : Expr} {te : DE} {pos : Pos} {pins : List (Addr × Obj)} {σ : St} {H : Hp} {s : Shared} {τ : Ms}
end
end L3
end
section
set_option Elab.async false
set_option linter.all false
set_option maxRecDepth 100000
set_option maxHeartbeats 4000000
namespace L3
open PySem PySem.Spec L2
open PyProof.Rows hiding St
section
variable {X : Cx} {N : List Str} {sc : Scope} {k : Nat} {i o : Expr} {tk td : DE} {pos : Pos}
end
end L3
end
section
set_option Elab.async false
set_option linter.all false
set_option maxRecDepth 100000
set_option maxHeartbeats 4000000
namespace L3
open PySem PySem.Spec L2
open PyProof.Rows hiding St
section
variable {X : Cx} {N : List Str} {sc : Scope} {k : Nat} {e : Expr} {te : DE} {tt : DT} {pos : Pos}
end
end L3
end
section
set_option Elab.async false
set_option linter.all false
set_option maxRecDepth 100000
set_option maxHeartbeats 4000000
namespace Pr
open PySem L3 M
def bef (p q : P3) : Prop := p.1 * q.2.2 < q.1 * p.2.2 ∨ (p.1 * q.2.2 = q.1 * p.2.2 ∧ p.2.1 * q.2.2 < q.2.1 * p.2.2)
end Pr
namespace Pr
open PySem L3 M
end Pr
namespace Pr
open PySem L3 M
structure isHp (ps : List P3) : Prop where
  two : 2 ≤ ps.length
  most : ps.length ≤ 14
  nd : ps.Nodup
  pt : ∀ p ∈ ps, isP p
end Pr
namespace Pr
open PySem L3 M
instance (p q : P3) : Decidable (bef p q) := by unfold bef; infer_instance
def sp__law_is : DSp := fun ds τ R => ∃ a b : Bool, ds = [.bool a, .bool b] ∧ R (.bool (a == b)) τ
end Pr
end
section
set_option linter.all false
set_option maxHeartbeats 4000000
namespace M
def quoR (p q : P3) : P3 := ((p.1 * q.1 + p.2.1 * q.2.1) * q.2.2, (p.2.1 * q.1 - p.1 * q.2.1) * q.2.2, p.2.2 * (q.1 * q.1 + q.2.1 * q.2.1))
def quo (p q : P3) : P3 := lw (quoR p q)
def nz (q : P3) : Prop := q.1 ≠ 0 ∨ q.2.1 ≠ 0
theorem sq_nn (a : Int) : 0 ≤ a * a := by
  by_cases h : a = 0
  · subst h; simp
  · exact Int.le_of_lt (sq_pos h)
theorem nz_pos {q : P3} (h : nz q) : 0 < q.1 * q.1 + q.2.1 * q.2.1 := by
  have a := sq_nn q.1
  have b := sq_nn q.2.1
  rcases h with h | h
  · have := sq_pos h; omega
  · have := sq_pos h; omega
theorem quoR_n {p q : P3} (h : p.2.2 ≠ 0) (hq : nz q) : (quoR p q).2.2 ≠ 0 := Int.mul_ne_zero h (by have := nz_pos hq; omega)
theorem quo_isP {p q : P3} (h : p.2.2 ≠ 0) (hq : nz q) : isP (quo p q) := low_isP (quoR_n h hq)
theorem flp_nz {q : P3} (h : nz q) : nz (flp q) := by
  rcases h with h | h
  · exact .inl h
  · exact .inr (by show -q.2.1 ≠ 0; omega)
theorem fcd_nz {q : P3} (h : nz q) (f : Int) : nz (fcd q f) := by unfold fcd; split; exact flp_nz h; exact h
theorem lw_nz {q : P3} (w : q.2.2 ≠ 0) (h : nz q) : nz (lw q) := by
  obtain ⟨s1, s2⟩ := lw_sim w
  have n := lw_ne w
  rcases h with h | h
  · left; intro e; rw [e, Int.zero_mul] at s1; exact Int.mul_ne_zero h n s1.symm
  · right; intro e; rw [e, Int.zero_mul] at s2; exact Int.mul_ne_zero h n s2.symm
theorem difR_nz {a b : P3} (ha : isP a) (hb : isP b) (h : a ≠ b) : nz (difR b a) := by
  by_cases h1 : (difR b a).1 = 0
  · by_cases h2 : (difR b a).2.1 = 0
    · refine absurd (isP_uniq ha hb ?_ ?_) h
      · simp only [difR] at h1; omega
      · simp only [difR] at h2; omega
    · exact .inr h2
  · exact .inl h1
theorem dif_nz {a b : P3} (ha : isP a) (hb : isP b) (h : a ≠ b) : nz (dif b a) := lw_nz (difR_n (ww hb) (ww ha)) (difR_nz ha hb h)
def ldg (a b c d : P3) (f : Int) : Mo := brg (quo (dif d c) (fcd (dif b a) f)) f a c
def bw (n k : Nat) (p : P3) : Prop := p.1.natAbs ≤ n ∧ p.2.1.natAbs ≤ n ∧ p.2.2.natAbs ≤ k
theorem bw.mono {n k m l : Nat} {p : P3} (h : bw n k p) (h1 : n ≤ m) (h2 : k ≤ l) : bw m l p := ⟨Nat.le_trans h.1 h1, Nat.le_trans h.2.1 h1, Nat.le_trans h.2.2 h2⟩
theorem bw.bd {n k m : Nat} {p : P3} (h : bw n k p) (h1 : n ≤ m) (h2 : k ≤ m) : M.bd m p := h.mono h1 h2
theorem bw.of {n : Nat} {p : P3} (h : M.bd n p) : bw n n p := h
theorem low_bw {x y w : Int} {n k : Nat} (h : w ≠ 0) (b : bw n k (x, y, w)) : bw n k (low x y w) := by
  obtain ⟨e1, e2, e3⟩ := low_eqs x y w h
  exact ⟨natAbs_le_of_mul (dv_ne h) e1 b.1, natAbs_le_of_mul (dv_ne h) e2 b.2.1, natAbs_le_of_mul (dv_ne h) e3 b.2.2⟩
theorem flp_bw {n k : Nat} {p : P3} (h : bw n k p) : bw n k (flp p) := ⟨h.1, by show (-p.2.1).natAbs ≤ n; rw [Int.natAbs_neg]; exact h.2.1, h.2.2⟩
theorem fcd_bw {n k : Nat} {p : P3} (h : bw n k p) (f : Int) : bw n k (fcd p f) := by unfold fcd; split; exact flp_bw h; exact h
theorem dif_bw {n k m l : Nat} {p q : P3} (h : bw n k p) (h' : bw m l q) (w : p.2.2 ≠ 0) (w' : q.2.2 ≠ 0) : bw (n * l + m * k) (k * l) (dif p q) :=
  low_bw (Int.mul_ne_zero w w') ⟨subb (mulb h.1 h'.2.2) (mulb h'.1 h.2.2), subb (mulb h.2.1 h'.2.2) (mulb h'.2.1 h.2.2), mulb h.2.2 h'.2.2⟩
theorem prd_bw {n k m l : Nat} {p q : P3} (h : bw n k p) (h' : bw m l q) (w : p.2.2 ≠ 0) (w' : q.2.2 ≠ 0) : bw (n * m + n * m) (k * l) (prd p q) :=
  low_bw (Int.mul_ne_zero w w') ⟨subb (mulb h.1 h'.1) (mulb h.2.1 h'.2.1), addb (mulb h.1 h'.2.1) (mulb h.2.1 h'.1), mulb h.2.2 h'.2.2⟩
theorem quo_bw {n k m l : Nat} {p q : P3} (h : bw n k p) (h' : bw m l q) (w : p.2.2 ≠ 0) (z : nz q) : bw ((n * m + n * m) * l) (k * (m * m + m * m)) (quo p q) :=
  low_bw (quoR_n w z) ⟨mulb (addb (mulb h.1 h'.1) (mulb h.2.1 h'.2.1)) h'.2.2, mulb (subb (mulb h.2.1 h'.1) (mulb h.1 h'.2.1)) h'.2.2, mulb h.2.2 (addb (mulb h'.1 h'.1) (mulb h'.2.1 h'.2.1))⟩
end M
end
section
set_option Elab.async false
set_option linter.all false
set_option maxRecDepth 100000
set_option maxHeartbeats 4000000
namespace Pr
open PySem L3 M
def spx_need_points (cs : Cs) : DSx := fun ds τ R RE => ∃ es, ds = [.tuple es] ∧ (∀ d ∈ es, okI d) ∧ ((∀ d ∈ es, isPB d = true) → R .none τ) ∧ ((∃ d ∈ es, isPB d = false) → RE cs.pnt τ)
def pts4 (a b c d : P3) : Prop := isP a ∧ isP b ∧ isP c ∧ isP d ∧ bw 4 3 a ∧ bw 4 3 b ∧ bw 468 117 c ∧ bw 468 117 d
def spw__law_point : DSp := fun ds τ R => ∃ t r b, ds = [rf t, .int b] ∧ Town t r τ ∧ 1 ≤ b ∧ b ≤ 100 ∧ ∀ p τ', isP p → bw b.toNat 3 p → Town t r τ' → Kp t r τ τ' → R (ptD p) τ'
def spw__law_motion : DSp := fun ds τ R => ∃ t r, ds = [rf t] ∧ Town t r τ ∧ ∀ m τ', isM m → bw 13 13 m.1 → bw 4 3 m.2.1 → Town t r τ' → Kp t r τ τ' → R (moD m) τ'
section
variable {a b c d : P3}
theorem pts4.dd (h : pts4 a b c d) : bw 109512 13689 (dif d c) := dif_bw h.2.2.2.2.2.2.2 h.2.2.2.2.2.2.1 (ww h.2.2.2.1) (ww h.2.2.1)
theorem pts4.db (h : pts4 a b c d) : bw 24 9 (dif b a) := dif_bw h.2.2.2.2.2.1 h.2.2.2.2.1 (ww h.2.1) (ww h.1)
theorem pts4.q (h : pts4 a b c d) (ne : a ≠ b) (f : Int) : bw 47309184 15769728 (quo (dif d c) (fcd (dif b a) f)) := quo_bw h.dd (fcd_bw h.db f) (ww (dif_isP (ww h.2.2.2.1) (ww h.2.2.1))) (fcd_nz (dif_nz h.1 h.2.1 ne) f)
theorem pts4.pr (h : pts4 a b c d) (ne : a ≠ b) (f : Int) : bw 378473472 47309184 (prd (quo (dif d c) (fcd (dif b a) f)) (fcd a f)) := prd_bw (h.q ne f) (fcd_bw h.2.2.2.2.1 f) (ww (quo_isP (ww (dif_isP (ww h.2.2.2.1) (ww h.2.2.1))) (fcd_nz (dif_nz h.1 h.2.1 ne) f))) (fcd_n (ww h.1) f)
theorem pts4.sh (h : pts4 a b c d) (ne : a ≠ b) (f : Int) : bw 66422094336 5535174528 (ldg a b c d f).2.1 := (dif_bw h.2.2.2.2.2.2.1 (h.pr ne f) (ww h.2.2.1) (ww (prd_isP (ww (quo_isP (ww (dif_isP (ww h.2.2.2.1) (ww h.2.2.1))) (fcd_nz (dif_nz h.1 h.2.1 ne) f))) (fcd_n (ww h.1) f)))).mono (by decide) (by decide)
theorem pts4.w (h : pts4 a b c d) (ne : a ≠ b) (f : Int) {p : P3} (hp : bw 4 3 p) : ((ldg a b c d f).1.2.2 * p.2.2 * (ldg a b c d f).2.1.2.2).natAbs < 18446744073709551616 :=
  Nat.lt_of_le_of_lt (mulb (mulb (h.q ne f).2.2 hp.2.2) (h.sh ne f).2.2) (by decide)
end
end Pr
namespace Pr
open PySem L3 M
end Pr
end
section
set_option Elab.async false
set_option linter.all false
set_option maxRecDepth 100000
set_option maxHeartbeats 2000000
namespace L3
open PySem PySem.Spec PyProof.Rows L2
section
variable {prog : Program} {w : World} {A : Around} {E : Value → Shared → Prop} {s : Shared}
end
section
variable {X : Cx} {N : List Str} {sc : Scope} {k : Nat} {e : Expr} {es : List Expr} {te : DE} {pos : Pos}
def gN (K : PySem.W.Frag) : List (List Nat) → TGs
  | [] => gNil
  | is :: iss => gCons (gTup K is.length (gL is)) (gN K iss)
structure QGn (X : Cx) (ts : List Expr) (iss : List (List Nat)) : Prop where
  pg : PGs X ts (gN X.K iss)
  ub : ∀ is ∈ iss, ∀ i ∈ is, i < X.N.length
end
end L3
end
section
set_option Elab.async false
set_option linter.all false
set_option maxRecDepth 100000
set_option maxHeartbeats 4000000
namespace L3
open PySem PySem.Spec L2
open PyProof.Rows hiding St
section
variable {X : Cx} {N : List Str} {sc : Scope} {k : Nat} {e e2 tg : Expr} {te : DE} {tt : DT} {tr : DA} {pos : Pos}
end
end L3
end
section
set_option Elab.async false
set_option linter.all false
set_option maxRecDepth 100000
set_option maxHeartbeats 4000000
namespace L3
open PySem PySem.Spec L2
open PyProof.Rows hiding St
open PySem.SeqAt
open AutoSeq1 (wpAny_loadPart')
mutual
def flatN : PyData → List Int
  | .int i => [i]
  | .tuple ds => flatNs ds
  | _ => []
def flatNs : List PyData → List Int
  | [] => []
  | d :: ds => flatN d ++ flatNs ds
end
mutual
def sameN : PyData → PyData → Bool
  | .int _, .int _ => true
  | .tuple xs, .tuple ys => sameNs xs ys
  | _, _ => false
def sameNs : List PyData → List PyData → Bool
  | [], [] => true
  | x :: xs, y :: ys => sameN x y && sameNs xs ys
  | _, _ => false
end
mutual
theorem same_len : ∀ x y : PyData, sameN x y = true → (flatN x).length = (flatN y).length
  | .int _, .int _, _ => rfl
  | .tuple xs, .tuple ys, h => by unfold flatN; exact same_lens xs ys (by simpa [sameN] using h)
  | .int _, .tuple _, h => by simp [sameN] at h
  | .int _, .none, h => by simp [sameN] at h
  | .int _, .bool _, h => by simp [sameN] at h
  | .int _, .str _, h => by simp [sameN] at h
  | .int _, .list _, h => by simp [sameN] at h
  | .int _, .dict _, h => by simp [sameN] at h
  | .tuple _, .int _, h => by simp [sameN] at h
  | .tuple _, .none, h => by simp [sameN] at h
  | .tuple _, .bool _, h => by simp [sameN] at h
  | .tuple _, .str _, h => by simp [sameN] at h
  | .tuple _, .list _, h => by simp [sameN] at h
  | .tuple _, .dict _, h => by simp [sameN] at h
  | .none, _, h => by simp [sameN] at h
  | .bool _, _, h => by simp [sameN] at h
  | .str _, _, h => by simp [sameN] at h
  | .list _, _, h => by simp [sameN] at h
  | .dict _, _, h => by simp [sameN] at h
theorem same_lens : ∀ xs ys : List PyData, sameNs xs ys = true → (flatNs xs).length = (flatNs ys).length
  | [], [], _ => rfl
  | x :: xs, y :: ys, h => by
    simp only [sameNs, Bool.and_eq_true] at h
    unfold flatNs
    rw [List.length_append, List.length_append, same_len x y h.1, same_lens xs ys h.2]
  | [], _ :: _, h => by simp [sameNs] at h
  | _ :: _, [], h => by simp [sameNs] at h
end
theorem app_inj {a b c d : List Int} (h : a.length = b.length) : a ++ c = b ++ d ↔ a = b ∧ c = d := by
  constructor
  · exact fun e => List.append_inj e h
  · rintro ⟨rfl, rfl⟩; rfl
mutual
theorem same_eqv : ∀ x y : PyData, sameN x y = true → PyData.eqv x y = decide (flatN x = flatN y)
  | .int a, .int b, _ => by simp [PyData.eqv, flatN]; exact Bool.eq_iff_iff.mpr (by simp)
  | .tuple xs, .tuple ys, h => by
    have := same_eqvs xs ys (by simpa [sameN] using h)
    simp only [PyData.eqv, flatN]
    rw [this]
    exact Bool.eq_iff_iff.mpr ⟨fun h => decide_eq_true (of_decide_eq_true h), fun h => decide_eq_true (of_decide_eq_true h)⟩
  | .int _, .tuple _, h => by simp [sameN] at h
  | .int _, .none, h => by simp [sameN] at h
  | .int _, .bool _, h => by simp [sameN] at h
  | .int _, .str _, h => by simp [sameN] at h
  | .int _, .list _, h => by simp [sameN] at h
  | .int _, .dict _, h => by simp [sameN] at h
  | .tuple _, .int _, h => by simp [sameN] at h
  | .tuple _, .none, h => by simp [sameN] at h
  | .tuple _, .bool _, h => by simp [sameN] at h
  | .tuple _, .str _, h => by simp [sameN] at h
  | .tuple _, .list _, h => by simp [sameN] at h
  | .tuple _, .dict _, h => by simp [sameN] at h
  | .none, _, h => by simp [sameN] at h
  | .bool _, _, h => by simp [sameN] at h
  | .str _, _, h => by simp [sameN] at h
  | .list _, _, h => by simp [sameN] at h
  | .dict _, _, h => by simp [sameN] at h
theorem same_eqvs : ∀ xs ys : List PyData, sameNs xs ys = true → PyData.eqvAll xs ys = decide (flatNs xs = flatNs ys)
  | [], [], _ => by simp [PyData.eqvAll, flatNs]
  | x :: xs, y :: ys, h => by
    simp only [sameNs, Bool.and_eq_true] at h
    simp only [PyData.eqvAll, flatNs]
    rw [same_eqv x y h.1, same_eqvs xs ys h.2]
    have := app_inj (c := flatNs xs) (d := flatNs ys) (same_len x y h.1)
    rw [Bool.eq_iff_iff]
    simp [this]
  | [], _ :: _, h => by simp [sameNs] at h
  | _ :: _, [], h => by simp [sameNs] at h
end
end L3
end
section
set_option Elab.async false
set_option linter.all false
set_option maxRecDepth 100000
set_option maxHeartbeats 4000000
namespace L3
open PySem PySem.Spec PySem.W L2
open PyProof.Rows hiding St
open PySem.SeqAt
mutual
theorem same_lay : ∀ x y : PyData, sameN x y = true → x.canLay0 = true ∧ y.canLay0 = true
  | .int _, .int _, _ => by simp [PyData.canLay0]
  | .tuple xs, .tuple ys, h => by simpa [PyData.canLay0] using same_lays xs ys (by simpa [sameN] using h)
  | .int _, .tuple _, h => by simp [sameN] at h
  | .int _, .none, h => by simp [sameN] at h
  | .int _, .bool _, h => by simp [sameN] at h
  | .int _, .str _, h => by simp [sameN] at h
  | .int _, .list _, h => by simp [sameN] at h
  | .int _, .dict _, h => by simp [sameN] at h
  | .tuple _, .int _, h => by simp [sameN] at h
  | .tuple _, .none, h => by simp [sameN] at h
  | .tuple _, .bool _, h => by simp [sameN] at h
  | .tuple _, .str _, h => by simp [sameN] at h
  | .tuple _, .list _, h => by simp [sameN] at h
  | .tuple _, .dict _, h => by simp [sameN] at h
  | .none, _, h => by simp [sameN] at h
  | .bool _, _, h => by simp [sameN] at h
  | .str _, _, h => by simp [sameN] at h
  | .list _, _, h => by simp [sameN] at h
  | .dict _, _, h => by simp [sameN] at h
theorem same_lays : ∀ xs ys : List PyData, sameNs xs ys = true → PyData.canLayAll0 xs = true ∧ PyData.canLayAll0 ys = true
  | [], [], _ => by simp [PyData.canLayAll0]
  | x :: xs, y :: ys, h => by
    simp only [sameNs, Bool.and_eq_true] at h
    obtain ⟨a, b⟩ := same_lay x y h.1
    obtain ⟨c, d⟩ := same_lays xs ys h.2
    simp [PyData.canLayAll0, a, b, c, d]
  | [], _ :: _, h => by simp [sameNs] at h
  | _ :: _, [], h => by simp [sameNs] at h
end
mutual
theorem same_two : ∀ sh x y : PyData, sameN sh x = true → sameN sh y = true → sameN x y = true
  | .int _, .int _, .int _, _, _ => rfl
  | .tuple ss, .tuple xs, .tuple ys, h1, h2 => by
    simp only [sameN] at h1 h2 ⊢
    exact sames_two ss xs ys h1 h2
  | .int _, .tuple _, _, h, _ => by simp [sameN] at h
  | .int _, .none, _, h, _ => by simp [sameN] at h
  | .int _, .bool _, _, h, _ => by simp [sameN] at h
  | .int _, .str _, _, h, _ => by simp [sameN] at h
  | .int _, .list _, _, h, _ => by simp [sameN] at h
  | .int _, .dict _, _, h, _ => by simp [sameN] at h
  | .int _, .int _, .tuple _, _, h => by simp [sameN] at h
  | .int _, .int _, .none, _, h => by simp [sameN] at h
  | .int _, .int _, .bool _, _, h => by simp [sameN] at h
  | .int _, .int _, .str _, _, h => by simp [sameN] at h
  | .int _, .int _, .list _, _, h => by simp [sameN] at h
  | .int _, .int _, .dict _, _, h => by simp [sameN] at h
  | .tuple _, .int _, _, h, _ => by simp [sameN] at h
  | .tuple _, .none, _, h, _ => by simp [sameN] at h
  | .tuple _, .bool _, _, h, _ => by simp [sameN] at h
  | .tuple _, .str _, _, h, _ => by simp [sameN] at h
  | .tuple _, .list _, _, h, _ => by simp [sameN] at h
  | .tuple _, .dict _, _, h, _ => by simp [sameN] at h
  | .tuple _, .tuple _, .int _, _, h => by simp [sameN] at h
  | .tuple _, .tuple _, .none, _, h => by simp [sameN] at h
  | .tuple _, .tuple _, .bool _, _, h => by simp [sameN] at h
  | .tuple _, .tuple _, .str _, _, h => by simp [sameN] at h
  | .tuple _, .tuple _, .list _, _, h => by simp [sameN] at h
  | .tuple _, .tuple _, .dict _, _, h => by simp [sameN] at h
  | .none, _, _, h, _ => by simp [sameN] at h
  | .bool _, _, _, h, _ => by simp [sameN] at h
  | .str _, _, _, h, _ => by simp [sameN] at h
  | .list _, _, _, h, _ => by simp [sameN] at h
  | .dict _, _, _, h, _ => by simp [sameN] at h
theorem sames_two : ∀ ss xs ys : List PyData, sameNs ss xs = true → sameNs ss ys = true → sameNs xs ys = true
  | [], [], [], _, _ => rfl
  | s :: ss, x :: xs, y :: ys, h1, h2 => by
    simp only [sameNs, Bool.and_eq_true] at h1 h2 ⊢
    exact ⟨same_two s x y h1.1 h2.1, sames_two ss xs ys h1.2 h2.2⟩
  | [], _ :: _, _, h, _ => by simp [sameNs] at h
  | [], [], _ :: _, _, h => by simp [sameNs] at h
  | _ :: _, [], _, h, _ => by simp [sameNs] at h
  | _ :: _, _ :: _, [], _, h => by simp [sameNs] at h
end
section
variable {prog : Program} {w : World} {A : Around} {s : Shared}
end
end L3
end
section
set_option Elab.async false
set_option linter.all false
set_option maxRecDepth 100000
set_option maxHeartbeats 4000000
namespace L3
open PySem PySem.Spec PySem.Calls PySem.W L2
open PyProof.Rows hiding St
open PySem.SeqAt
section
variable {prog : Program} {w : World} {A : Around} {E : Value → Shared → Prop} {s : Shared}
end
end L3
end
section
set_option Elab.async false
set_option linter.all false
set_option maxRecDepth 100000
set_option maxHeartbeats 4000000
namespace L3
open PySem PySem.Spec PySem.Calls PySem.W L2
open PyProof.Rows hiding St
open PySem.SeqAt
section
variable {X : Cx} {N : List Str} {sc : Scope} {k : Nat} {e : Expr} {te : DE} {pos : Pos}
variable {tt : DT}
end
end L3
end
section
set_option Elab.async false
set_option linter.all false
set_option maxRecDepth 100000
set_option maxHeartbeats 4000000
namespace L3
open PySem PySem.Spec PySem.Calls PySem.W L2
open PyProof.Rows hiding St
open PySem.SeqAt
section
variable {X : Cx} {N : List Str} {sc : Scope} {k : Nat} {e o a b : Expr} {es : List Expr} {te to ta tb : DE} {tr : DA} {pos ap : Pos}
def gK {α : Type} (us ws : List α) : List α := match ws with | [w] => us ++ [w] | _ => []
structure FnKw (P : Program) (w : World) (K : PySem.W.Frag) (mg : Str → Option Value) (base : Heap) (x kw : Str) (i0 : Int) (k n : Nat) (dsp : DSp) : Prop where
  ex : ∃ f fd ps tk, FnOk P w K mg base CX0 k f fd ps (lSp K n dsp) ∧ mg x = some (.ref f) ∧ PySem.W.keepIn K (.ref f) = true ∧ KBinds K fd ps [kw] gK gK ∧ Binds K fd ps [.int i0 tk]
theorem FnKw.mono {P : Program} {w : World} {K : PySem.W.Frag} {mg : Str → Option Value} {base : Heap} {x kw : Str} {i0 : Int} {j k n : Nat} {dsp : DSp} (F : FnKw P w K mg base x kw i0 j n dsp) (h : j ≤ k) : FnKw P w K mg base x kw i0 k n dsp :=
  let ⟨f, fd, ps, tk, a, b, c, d, e⟩ := F.ex
  ⟨f, fd, ps, tk, a.mono h, b, c, d, e⟩
end
section
variable {P : Program} {w : World} {K : PySem.W.Frag} {mg : Str → Option Value} {base : Heap} {x kw : Str} {i0 : Int} {tk : Tok} {st : Stmt} {f : Addr} {fd : FuncData} {dV : Value} {N ps : List Str} {k n : Nat} {dsp : DSp}
end
end L3
end
section
set_option Elab.async false
set_option linter.all false
set_option maxRecDepth 100000
set_option maxHeartbeats 4000000
namespace L3
open PySem PySem.Spec PySem.Calls PySem.W L2
open PyProof.Rows hiding St
open PySem.SeqAt
section
variable {X : Cx} {N : List Str} {sc : Scope} {k : Nat} {e o : Expr} {te to : DE} {pos ap : Pos}
end
section
variable {X : Cx} {a b : Expr} {ta tb : DE} {pos : Pos}
end
end L3
namespace L3
open PySem PySem.Spec PySem.Calls PySem.W L2
open PyProof.Rows hiding St
section
variable {X : Cx} {e : Expr} {es : List Expr} {te : DE} {tr : DA} {pos p : Pos}
end
end L3
end
section
set_option Elab.async false
set_option linter.all false
set_option maxRecDepth 100000
set_option maxHeartbeats 4000000
namespace L3
open PySem PySem.Spec L2
open PyProof.Rows hiding St
section
variable {X : Cx} {N : List Str} {sc : Scope} {k : Nat} {te : DE} {tt tt1 : DT} {pos : Pos}
end
end L3
end
section
set_option Elab.async false
set_option linter.all false
set_option maxRecDepth 100000
set_option maxHeartbeats 4000000
namespace L3
open PySem PySem.Spec L2 PySem.W
open PyProof.Rows hiding St
section
variable {X : Cx} {pins : List (Addr × Obj)} {σ : St} {H : Hp} {s : Shared} {A : Around} {scope : Scope} {p b : Str} {more : List Str} {f c : Addr} {cd : Value} {q : Str}
end
section
variable {X : Cx} {pins : List (Addr × Obj)} {σ : St} {H : Hp} {s : Shared} {A : Around}
end
section
variable {X : Cx} {N : List Str} {sc : Scope} {k : Nat} {e : Expr} {te tb : DE} {pos : Pos}
end
end L3
end
section
set_option Elab.async false
set_option linter.all false
set_option maxRecDepth 100000
set_option maxHeartbeats 4000000
namespace L3
open PySem PySem.Spec L2 PySem.W
open PyProof.Rows hiding St
def cxG (X : Cx) (A : Around) (scope : Scope) (x b1 b2 : Str) (C c1 c2 I0 : Addr) (cd : Value) (cl : List (Str × Addr)) (s : Shared) (H : Hp) : Cx where
  prog := X.prog
  w := X.w
  K := X.K
  mg := X.mg
  base := X.base
  A := A
  N := [x, b1, b2]
  s_0 := s
  H_0 := H
  env := genEnv scope cl C cd builtinsNs X.env
  outer := X.stack
  stack := genEnv scope cl C cd builtinsNs X.env :: X.stack
  ex := [I0]
  calm := true
  fn := fun _ => false
  pn := []
  xe := fun _ _ => False
structure GenSc (scope : Scope) (x b1 b2 : Str) : Prop where
  kind : scope.kind = .function
  co : scope.isCoroutine = false
  par : scope.names.lookup x = some .local
  nul : scope.names.lookup (".0" : Str) = some .local
  cap1 : scope.names.lookup b1 = some .free
  cap2 : scope.names.lookup b2 = some .free
  cell : ∀ y ∈ scope.names, y.2 ≠ .cell
  free : ∀ y ∈ scope.names, y.2 = .free → y.1 = b1 ∨ y.1 = b2
  nd : [x, b1, b2].Nodup
structure Two (cl : List (Str × Addr)) (b1 b2 : Str) (c1 c2 : Addr) : Prop where
  l1 : cl.lookup b1 = some c1
  l2 : cl.lookup b2 = some c2
  only : ∀ y c, cl.lookup y = some c → (y = b1 ∧ c = c1) ∨ (y = b2 ∧ c = c2)
section
variable {X : Cx} {pins : List (Addr × Obj)} {σ : St} {H : Hp} {s : Shared} {A : Around} {scope : Scope} {x b1 b2 : Str} {C c1 c2 I0 : Addr} {cd : Value} {cl : List (Str × Addr)}
end
end L3
end
section
set_option Elab.async false
set_option linter.all false
set_option maxRecDepth 100000
set_option maxHeartbeats 4000000
namespace L3
open PySem PySem.Spec L2 PySem.W
open PyProof.Rows hiding St
structure GW where
  Z : Cx
  I0 : Addr
  a : Addr
  l : Addr
  ao : Obj
  τ : Ms
  H1 : Hp
  σt : St
  ds : List PyData
  q : PyData → Bool
namespace GW
variable (G : GW)
def GI (j : Nat) (s : Shared) : Prop := ∃ H' o oI, Inv G.Z ((G.I0, oI) :: (G.a, G.ao) :: []) (o :: G.σt) H' s ∧ Stp G.τ G.H1 G.τ H' ∧ TW G.Z.K G.τ H' ∧ s.heap.IsListIter G.I0 G.l j
def GE (s : Shared) : Prop := ∃ H' o, Inv G.Z ((G.a, G.ao) :: []) (o :: G.σt) H' s ∧ Stp G.τ G.H1 G.τ H' ∧ TW G.Z.K G.τ H'
def R : GenEnd := fun n s0 r s1 => r = .ok .next ∧ (n = 0 ∧ G.GE s1 ∧ s0.gens.size ≤ s1.gens.size)
def Y : Protocol := fun m s0 v s kap => ∃ i, i < G.ds.length ∧ m = G.ds.length - (i + 1) ∧ v = .bool (G.q (G.ds.getD i .none)) ∧ G.GI (i + 1) s ∧ s0.gens.size ≤ s.gens.size ∧ ∀ s'' : Shared, s''.heap = s.heap → s''.os = s.os → AllBare s''.gens → kap (.send .none) s''
end GW
section
variable {G : GW} {A : Around} {elt iter : Expr} {x : Str} {px gpos : Pos} {scope : Scope} {te : DE} {caps : Dl}
abbrev gexp (elt iter : Expr) (x : Str) (px gpos : Pos) (scope : Scope) : Expr := .GeneratorExp elt [⟨.Name x px, iter, [], 0⟩] scope gpos
structure GOk (G : GW) (A : Around) (elt iter : Expr) (x : Str) (px gpos : Pos) (scope : Scope) (te : DE) (caps : Dl) : Prop where
  zA : G.Z.A = A.over (.compLoop (gexp elt iter x px gpos scope) 0 (.ref G.I0) .none G.Z.env) []
  hh : A.handled = none
  xe : G.Z.xe = fun _ _ => False
  co : G.Z.env.scope.isCoroutine = false
  pg : PG G.Z (.Name x px) (gName 0)
  el : QE G.Z elt te
  hl : Dx G.Z.K G.τ G.H1 (.ref G.l) (.list G.ds)
  fI : FpOk G.Z [] G.H1 G.I0
  nI : G.a ≠ G.I0
  nl : G.l ≠ G.I0
  teo : ∀ d ∈ G.ds, ∀ τ' (R' : DK), R' (.bool (G.q d)) τ' → te (some d :: caps) τ' R'
  sr : ∀ (i : Nat) (d : PyData), caps[i]? = some (some d) → ∃ v, G.σt[i]? = some (some v) ∧ Dx G.Z.K G.τ G.H1 v d
theorem GOk.fp (K : GOk G A elt iter x px gpos scope te caps) {H' : Hp} (h : H' G.I0 = none) : FpOk G.Z ((G.a, G.ao) :: []) H' G.I0 := fp_now K.fI h fun p hp => by
  rw [List.mem_singleton.mp hp]; exact .inr K.nI
end
end L3
end
section
set_option Elab.async false
set_option linter.all false
set_option maxRecDepth 100000
set_option maxHeartbeats 4000000
namespace L3
open PySem PySem.Spec L2 PySem.W
open PyProof.Rows hiding St
structure GenX (X : Cx) (q : Str) : Prop where
  ex : ∃ c0 P, X.env.code = .ref c0 ∧ PySem.W.codeHdIn X.K c0 P = true ∧ TabIn X.K P q
  ql : X.env.qual ++ "<genexpr>" = q
  bm : BMd X.base X.mg
section
variable {X : Cx} {N : List Str} {sc : Scope} {k : Nat} {te ti : DE} {pos : Pos}
theorem Bx.gen {A : Around} {scope : Scope} {x b1 b2 : Str} {C c1 c2 I0 : Addr} {cd : Value} {cl : List (Str × Addr)} {s : Shared} {H : Hp} (hr : Room k A) (nd : [x, b1, b2].Nodup) : Bx (cxG X A scope x b1 b2 C c1 c2 I0 cd cl s H) [x, b1, b2] scope k :=
  ⟨rfl, rfl, nd, rfl, hr, PassesOwn.never⟩
end
section
variable {P : Program} {w : World} {K : PySem.W.Frag} {mg : Str → Option Value} {base : Heap} {x : Str} {st : Stmt} {f : Addr} {fd : FuncData} {dV : Value} {N ps : List Str} {k n : Nat} {dsp : DSp}
structure Fg (K : PySem.W.Frag) (mg : Str → Option Value) (x : Str) (st : Stmt) (f : Addr) (fd : FuncData) (dV : Value) (q : Str) : Prop where
  ex : ∃ (oc : Value) (od : Option Addr) (kV doc pm : Value) (an : Option Addr) (c0 : Addr) (ct : Value) (osl : Array (Option Value)) (P : Addr),
    fd = PySem.W.fnOf x x (defArgs st) (defBody st) (defScope st) dV kV doc pm an (.ref c0) ct ∧ K.lookup f = some ⟨oc, od, .func fd, osl⟩ ∧ PySem.W.codeIn K (.ref c0) x = true ∧ PySem.W.codeHdIn K c0 P = true ∧ tabQ K P = some q
  kp : PySem.W.keepIn K (.ref f) = true
  ql : (x ++ ".<locals>.") ++ "<genexpr>" = q
end
end L3
end
section
set_option Elab.async false
set_option linter.all false
set_option maxRecDepth 100000
set_option maxHeartbeats 4000000
namespace L3
open PySem PySem.Spec L2
open PyProof.Rows hiding St
abbrev K3 := Int × Int × Int
abbrev MoK := K3 × K3 × Int
abbrev ptE (p : K3) : PyData := .tuple [.int p.1, .int p.2.1, .int p.2.2]
abbrev moE (m : MoK) : PyData := .tuple [ptE m.1, ptE m.2.1, .int m.2.2]
abbrev k3 (p : K3) : List Key := ksOf [p.1, p.2.1, p.2.2]
theorem k3_inj {p q : K3} (h : k3 p = k3 q) : p = q := by
  have := ksOf_inj.mp h
  simp at this
  obtain ⟨a, b, c⟩ := p
  obtain ⟨d, e, f⟩ := q
  simp at this
  rw [this.1, this.2.1, this.2.2]
section
variable {prog : Program} {w : World} {A : Around} {E : Value → Shared → Prop} {s : Shared}
def IsMo (prog : Program) (w : World) (h : Heap) (m : MoK) (a : Addr) : Prop := ∃ o n b1 b2 t, h.get? a = some o ∧ o.cls = .type "tuple" ∧ o.data = .seq #[.ref b1, .ref b2, .int m.2.2 t] n ∧ IsTupleKey (mixKind prog w) h (k3 m.1) b1 ∧ IsTupleKey (mixKind prog w) h (k3 m.2.1) b2
theorem IsMo.typeIs {m : MoK} {a : Addr} (x : IsMo prog w s.heap m a) : s.TypeIs (.ref a) "tuple" := let ⟨o, _, _, _, _, h1, h2, _⟩ := x; ⟨o, h1, h2⟩
theorem IsMo.inj {h : Heap} {x y : MoK} {a : Addr} (hx : IsMo prog w h x a) (hy : IsMo prog w h y a) : x = y := by
  obtain ⟨oa, na, a1, a2, ta, hoa, _, hda, xa1, xa2⟩ := hx
  obtain ⟨ob, nb, c1, c2, tb, hob, _, hdb, xb1, xb2⟩ := hy
  rw [hoa] at hob; cases hob
  rw [hda] at hdb
  simp at hdb
  obtain ⟨⟨rfl, rfl, e, _⟩, _⟩ := hdb
  obtain ⟨p, q, f⟩ := x
  obtain ⟨p', q', f'⟩ := y
  have z1 := k3_inj (xa1.inj xb1)
  have z2 := k3_inj (xa2.inj xb2)
  simp only at z1 z2 e
  rw [z1, z2, e]
end
end L3
end
section
set_option Elab.async false
set_option linter.all false
set_option maxRecDepth 100000
set_option maxHeartbeats 4000000
namespace L3
open PySem PySem.Spec L2
open PyProof.Rows hiding St
namespace MD
def flt (kvs : List (MoK × PyData)) : List (PyData × PyData) := kvs.map fun x => (moE x.1, x.2)
section
variable {X : Cx} {pins : List (Addr × Obj)} {σ : St} {H : Hp} {s : Shared} {τ : Ms}
end
section
variable {X : Cx} {N : List Str} {sc : Scope} {k : Nat} {e f o i value : Expr} {td tk tx tv : DE} {pos : Pos}
end
section
variable {X : Cx} {N : List Str} {sc : Scope} {k : Nat} {e f o i value : Expr} {td tk tx tv : DE} {pos : Pos}
end
section
variable {X : Cx} {N : List Str} {sc : Scope} {k : Nat} {o i : Expr} {td tk : DE} {pos : Pos}
end
end MD
end L3
end
section
set_option Elab.async false
set_option linter.all false
set_option maxRecDepth 100000
set_option maxHeartbeats 4000000
namespace L3
open PySem PySem.Spec L2
open PyProof.Rows hiding St
section
variable {X : Cx} {N : List Str} {sc : Scope} {k : Nat} {a b c : Expr} {ta tb tc : DE} {pos : Pos}
end
end L3
end
section
set_option Elab.async false
set_option linter.all false
set_option maxRecDepth 100000
set_option maxHeartbeats 4000000
namespace L3
open PySem PySem.Spec L2
open PyProof.Rows hiding St
section
variable {X : Cx} {N : List Str} {sc : Scope} {k : Nat} {e tg : Expr} {t0 te : DE} {tt : DT} {pos : Pos}
end
end L3
end
section
set_option Elab.async false
set_option linter.all false
set_option maxRecDepth 100000
set_option maxHeartbeats 4000000
namespace L3
open PySem PySem.Spec L2
open PyProof.Rows hiding St
end L3
end
section
set_option Elab.async false
set_option linter.all false
set_option maxRecDepth 100000
set_option maxHeartbeats 4000000
namespace L3
open PySem PySem.Spec L2
open PyProof.Rows hiding St
section
variable {prog : Program} {w : World} {A : Around} {E : Value → Shared → Prop} {s : Shared}
end
section
variable {X : Cx} {N : List Str} {sc : Scope} {k : Nat} {e : Expr} {te : DE} {pos apos cpos p0 : Pos} {td : TE}
end
end L3
end
section
set_option Elab.async false
set_option linter.all false
set_option maxRecDepth 100000
set_option maxHeartbeats 4000000
namespace L3
open PySem PySem.Spec L2 PySem.W
open PyProof.Rows hiding St
section
variable {X : Cx} {pins : List (Addr × Obj)} {σ : St} {H : Hp} {s : Shared} {A : Around}
end
end L3
end
section
set_option Elab.async false
set_option linter.all false
set_option maxRecDepth 100000
set_option maxHeartbeats 4000000
namespace L3
open PySem PySem.Spec PySem.Calls PySem.W L2
open PyProof.Rows hiding St
section
variable {X : Cx} {N : List Str} {sc : Scope} {k : Nat} {e a : Expr} {es : List Expr} {te ta : DE} {tr : DA} {pos : Pos}
structure FnKb (P : Program) (w : World) (K : PySem.W.Frag) (mg : Str → Option Value) (base : Heap) (x kw : Str) (b0 : Bool) (k n : Nat) (dsp : DSp) : Prop where
  ex : ∃ f fd ps, FnOk P w K mg base CX0 k f fd ps (lSp K n dsp) ∧ mg x = some (.ref f) ∧ PySem.W.keepIn K (.ref f) = true ∧ KBinds K fd ps [kw] gK gK ∧ Binds K fd ps [.bool b0]
theorem FnKb.mono {P : Program} {w : World} {K : PySem.W.Frag} {mg : Str → Option Value} {base : Heap} {x kw : Str} {b0 : Bool} {j k n : Nat} {dsp : DSp} (F : FnKb P w K mg base x kw b0 j n dsp) (h : j ≤ k) : FnKb P w K mg base x kw b0 k n dsp :=
  let ⟨f, fd, ps, a, b, c, d, e⟩ := F.ex
  ⟨f, fd, ps, a.mono h, b, c, d, e⟩
end
section
variable {P : Program} {w : World} {K : PySem.W.Frag} {mg : Str → Option Value} {base : Heap} {x kw : Str} {b0 : Bool} {st : Stmt} {f : Addr} {fd : FuncData} {dV : Value} {N ps : List Str} {k n : Nat} {dsp : DSp}
end
end L3
end
section
set_option Elab.async false
set_option linter.all false
set_option maxRecDepth 100000
set_option maxHeartbeats 4000000
namespace L3
open PySem PySem.Spec L2
open PyProof.Rows hiding St
section
variable {X : Cx} {N : List Str} {sc : Scope} {k : Nat} {e a b tg : Expr} {es : List Expr} {ta tb te : DE} {tr : DA} {pos : Pos} {sts : List Stmt}
theorem qss_never : QSs X sts dNever := ⟨fun pins s σ H D I h => by obtain ⟨δ, τ, E, hl, sr, tw, h, kk⟩ := h; exact h.elim⟩
def dCallXD (n : Nat) (dsp : DSx) (t : DA) : DE := fun δ τ R => t δ τ fun ds τ1 => ds.length = n ∧ dsp ds τ1 R fun _ _ => False
theorem qe_callXD {x : Str} {p : Pos} {n j : Nat} {dsp : DSx} (B : Bx X N sc k) (F : FnX X.prog X.w X.K X.mg X.base x j n dsp) (ha : QA X (e :: es) tr) (hk : j ≤ k := by decide) (hg : sc.names.lookup x = some .globalImplicit := by rfl)
    (hdb : (x == ("__debug__" : Str)) = false := by decide) (he : starEach (e :: es) X.env = (false, eval e X.env) :: starEach es X.env := by rfl) (hpl : (backTo pos (starEach es X.env)).any (·.1) = false := by rfl) :
    QE X (.Call (.Name x p) (e :: es) [] pos) (dCallXD n dsp tr) := by
  obtain ⟨f, fd, ps, F, hm, kp, hb⟩ := (F.mono hk).ex
  refine ⟨fun pins s σ H Q I h => ?_⟩
  obtain ⟨δ, τ, R, sr, tw, h, kk⟩ := h
  refine wpAny_Call_Name_kw (ld_glob I (B.gl hg) hm ?_ hdb)
  refine PySem.W.callWith_K (h₀ := X.base) I.ok.mod.kin kp (thn (ha.pa pos pins s σ H (fun vs H1 => lSx X.K n dsp vs H1 Q fun _ _ _ => False) I ⟨δ, τ, _, sr, tw, h, fun vs ds τ1 H1 s1 w1 x1 q1 => ⟨ds, τ1, R, _, q1.1, x1, w1, q1.2, kk.stp s1, fun c τ' H' s' w' q' => q'⟩⟩) fun us s1 ⟨vs, H1, I1, r, q⟩ => ⟨I1.kIn, ?_⟩) he hpl
  have hl : (us ++ []).length = ps.length := by rw [List.append_nil, ← r.length]; exact F.len _ _ _ _ q
  have hb' := hb s1 us I1.kIn hl
  rw [List.append_nil] at hb'
  refine wpAny_call (codeAny_mono (F.run X.A X.stack s1 H1 ⟨us, []⟩ us vs Q _ B.room I1.env0 hb' r q) fun r s' hq => ?_)
  cases r with
  | error ev =>
    obtain ⟨_, _, _, _, _, _, _, _, _, _, _, _, _, _, z⟩ := hq
    exact z.elim
  | ok fl =>
    cases fl with
    | ret u => exact I1.after hq
    | next => exact False.elim hq
    | brk => exact False.elim hq
    | cont => exact False.elim hq
def rngE (i : Int) (n : Nat) : List PyData := (List.range n).map fun (j : Nat) => PyData.int (i + j)
def dIRng2 (ta tb : DE) : DI := fun δ τ R => ta δ τ fun c τ1 => tb δ τ1 fun d τ2 => ∃ i j : Int, c = .int i ∧ d = .int j ∧ -100000 ≤ i ∧ i ≤ 100000 ∧ -100000 ≤ j ∧ j ≤ 100000 ∧ R (rngE i (j - i).toNat) τ2
theorem qi_rng2 {p : Pos} (B : Bx X N sc k) (hm : X.mg "range" = none) (h : QE X a ta) (h' : QE X b tb) (hg : sc.names.lookup ("range" : Str) = some .globalImplicit := by rfl) (hst : starEach [a, b] X.env = [(false, eval a X.env), (false, eval b X.env)] := by rfl) (hst2 : starEach [b] X.env = [(false, eval b X.env)] := by rfl) : QI X tg (.Call (.Name "range" p) [a, b] [] pos) (dIRng2 ta tb) := by
  refine ⟨pi_mono (pi_range2 (B.gl hg) hm (qa_cons h (qa_cons h' qa_nil hst2) (by rw [hst, hst2])).pa hst hst2) fun σ H R q => ?_⟩
  obtain ⟨δ, τ, R', sr, tw, h', kk⟩ := q
  refine ⟨δ, τ, fun ds τ1 => match ds with | [c, d] => (∃ i j : Int, c = .int i ∧ d = .int j ∧ -100000 ≤ i ∧ i ≤ 100000 ∧ -100000 ≤ j ∧ j ≤ 100000 ∧ R' (rngE i (j - i).toNat) τ1) | _ => False, sr, tw, h', fun vs ds τ1 H1 s1 w1 x1 q1 => ?_⟩
  dsimp only at q1
  split at q1
  · obtain ⟨i, j, rfl, rfl, a1, a2, a3, a4, q1⟩ := q1
    cases x1 with | cons x1 x2 =>
    cases x2 with | cons x2 x3 =>
    cases x3
    cases x1.intInv
    cases x2.intInv
    refine ⟨i, j, rfl, ⟨by omega, by omega, by omega, by omega⟩, kk _ _ τ1 H1 s1 w1 q1 ⟨fun l τ2 H2 _ hi => by show l < (j - i).toNat; simp [rngE] at hi; omega, fun l τ2 H2 x H' _ w y hi => ?_, fun τ2 H2 _ => by show (j - i).toNat ≤ _; simp [rngE]⟩⟩
    obtain ⟨rfl, rfl⟩ := y
    have hi' : l < (j - i).toNat := by simp [rngE] at hi; omega
    exact ⟨.refl, w, .int (i + l), by simp [rngE, hi'], .int _⟩
  · exact q1.elim
end
end L3
end
section
set_option Elab.async false
set_option linter.all false
set_option maxRecDepth 100000
set_option maxHeartbeats 4000000
namespace Pr
open PySem L2 L3 M
theorem okI_n {d : PyData} (h1 : tyOf d ≠ none) (h2 : ∀ es, d ≠ .tuple es) : okI d := ⟨h1, fun es e => absurd e (h2 es)⟩
theorem okI_t {es : List PyData} (h : ∀ e ∈ es, tyOf e ≠ none) : okI (.tuple es) := ⟨by simp [tyOf], fun es' e => by cases e; exact h⟩
structure okJ (d : PyData) : Prop where
  i : okI d
  e : ∀ es, d = .tuple es → ∀ e ∈ es, okI e
  b : ∀ t rest, d = .tuple (ptD t :: rest) → bd Mb t
theorem okJ_n {d : PyData} (h1 : tyOf d ≠ none) (h2 : ∀ es, d ≠ .tuple es) : okJ d := ⟨okI_n h1 h2, fun es e => absurd e (h2 es), fun t r e => absurd e (h2 _)⟩
theorem okJ_t {es : List PyData} (h : ∀ e ∈ es, okI e) (hb : ∀ t rest, es = ptD t :: rest → bd Mb t) : okJ (.tuple es) := ⟨okI_t fun e he => (h e he).1, fun es' e => by cases e; exact h, fun t r e => by cases e; exact hb t r rfl⟩
def isMB : PyData → Bool
  | .tuple [.tuple [.int x, .int y, .int w], b, c] => isPB (.tuple [.int x, .int y, .int w]) && isPB b && isFB c && (x * x + y * y == w * w)
  | _ => false
theorem isPB_inv {d : PyData} (h : isPB d = true) : ∃ p : P3, d = ptD p ∧ isP p := by
  unfold isPB at h
  split at h
  · rename_i x y w
    rw [Bool.and_eq_true] at h
    exact ⟨(x, y, w), rfl, of_decide_eq_true h.1, of_decide_eq_true h.2⟩
  · cases h
theorem isMB_mo {m : Mo} (h : isM m) : isMB (moD m) = true := by
  show (isPB (ptD m.1) && isPB (ptD m.2.1) && isFB (.int m.2.2) && (m.1.1 * m.1.1 + m.1.2.1 * m.1.2.1 == m.1.2.2 * m.1.2.2)) = true
  rw [isPB_pt h.1, isPB_pt h.2.1]
  have e : isFB (.int m.2.2) = true := by
    show (m.2.2 == 0 || m.2.2 == 1) = true
    rcases h.2.2.1 with q | q <;> simp [q]
  have e2 : (m.1.1 * m.1.1 + m.1.2.1 * m.1.2.1 == m.1.2.2 * m.1.2.2) = true := by have := h.2.2.2; unfold at1 at this; simp [this]
  rw [e, e2]; rfl
theorem okJ_mo {m : Mo} (b : bd Mb m.1) : okJ (moD m) := okJ_t (fun e he => by
  simp only [List.mem_cons, List.not_mem_nil, or_false] at he
  rcases he with rfl | rfl | rfl
  · exact okI_pt _
  · exact okI_pt _
  · exact okI_n (by simp [tyOf]) (fun es e => by cases e)) fun t rest e => by
    injection e with e1 e2
    have : m.1 = t := by
      obtain ⟨⟨a, b', c⟩, _⟩ := m
      obtain ⟨x, y, z⟩ := t
      injection e1 with e3
      injection e3 with f1 f2
      injection f2 with f2 f3
      injection f3 with f3 f4
      injection f1 with f1
      injection f2 with f2
      injection f3 with f3
      rw [show a = x from f1, show b' = y from f2, show c = z from f3]
    rw [← this]; exact b
def spj_is_motion : DSp := fun ds τ R => ∃ d, ds = [d] ∧ okJ d ∧ R (.bool (isMB d)) τ
def spx_need_motions (cs : Cs) : DSx := fun ds τ R RE => ∃ es, ds = [.tuple es] ∧ (∀ d ∈ es, okJ d) ∧ ((∀ d ∈ es, isMB d = true) → R .none τ) ∧ ((∃ d ∈ es, isMB d = false) → RE cs.mot τ)
def badM (cs : Cs) : DSx := fun ds τ R RE => ∃ d, ds = [d] ∧ okJ d ∧ isMB d = false ∧ RE cs.mot τ
def spx_back := badM
def spx_kind_of := badM
def spx_order_of := badM
def spx_center := badM
def spx_axis := badM
def spx_motion_text := badM
def spx_then (cs : Cs) : DSx := fun ds τ R RE => ∃ a b, ds = [a, b] ∧ okJ a ∧ okJ b ∧ (isMB a && isMB b) = false ∧ RE cs.mot τ
def spx_led (cs : Cs) : DSx := fun ds τ R RE => ∃ a b, ds = [a, b] ∧ okJ a ∧ ((isMB a = false ∧ RE cs.mot τ) ∨ (isMB a = true ∧ okI b ∧ isPB b = false ∧ RE cs.pnt τ))
def badP (cs : Cs) : DSx := fun ds τ R RE => ∃ a b, ds = [a, b] ∧ okI a ∧ okI b ∧ (isPB a && isPB b) = false ∧ RE cs.pnt τ
def spx_square_gap := badP
def spx_shifting := badP
def spx_is_ahead (cs : Cs) : DSx := fun ds τ R RE => badP cs ds τ R RE ∨ ∃ p q, ds = [ptD p, ptD q] ∧ isP p ∧ isP q ∧ bd Mb p ∧ bd Mb q ∧ R (.bool (decide (p.1 * q.2.2 < q.1 * p.2.2) || (p.1 * q.2.2 == q.1 * p.2.2 && decide (p.2.1 * q.2.2 < q.2.1 * p.2.2)))) τ
def spx_turning (cs : Cs) : DSx := fun ds τ R RE => badP cs ds τ R RE ∨ ∃ c t, ds = [ptD c, ptD t] ∧ isP c ∧ isP t ∧ bd Mb t ∧ ((¬ at1 t ∧ RE cs.mot τ) ∨ (at1 t ∧ bd Mb c ∧ bd Mb (prd t c) ∧ R (moD (brg t 0 c c)) τ))
def spx_point (cs : Cs) : DSx := fun ds τ R RE => ∃ x y w, ds = [x, y, w] ∧ tyOf x ≠ none ∧ tyOf y ≠ none ∧ tyOf w ≠ none ∧ ((isWh x && isWh y && isWh w) = false ∨ w = .int 0) ∧ RE cs.pnt τ
def spx__law_does (cs : Cs) : DSx := fun ds τ R RE => ∃ (k : Int) (a b : PyData), ds = [.int k, a, b] ∧ okJ a ∧ ((0 ≤ k ∧ k ≤ 7 ∧ isMB a = false ∧ b = .none ∧ RE cs.mot τ) ∨ (k = 1 ∧ okJ b ∧ isMB b = false ∧ RE cs.mot τ) ∨ (k = 0 ∧ isMB a = true ∧ okI b ∧ isPB b = false ∧ RE cs.pnt τ))
def spx__law_points (cs : Cs) : DSx := fun ds τ R RE => ∃ (k : Int) (a b : PyData), ds = [.int k, a, b] ∧ ((0 ≤ k ∧ k ≤ 3 ∧ okI a ∧ okI b ∧ (isPB a && isPB b) = false ∧ RE cs.pnt τ) ∨ (k = 3 ∧ ∃ c t, a = ptD c ∧ b = ptD t ∧ isP c ∧ isP t ∧ bd Mb t ∧ ((¬ at1 t ∧ RE cs.mot τ) ∨ (at1 t ∧ bd Mb c ∧ bd Mb (prd t c) ∧ R (moD (brg t 0 c c)) τ))))
def sp__law_asked (cs : Cs) : DSp := fun ds τ R => ∃ (k : Int) (a b : PyData) (nm : Str), ds = [.int k, a, b] ∧ R (.str nm) τ ∧
  ((okJ a ∧ 0 ≤ k ∧ k ≤ 7 ∧ isMB a = false ∧ b = .none ∧ nm = "motion") ∨ (okJ a ∧ k = 1 ∧ okJ b ∧ isMB b = false ∧ nm = "motion") ∨ (okJ a ∧ k = 0 ∧ isMB a = true ∧ okI b ∧ isPB b = false ∧ nm = "point") ∨
   (8 ≤ k ∧ k ≤ 11 ∧ okI a ∧ okI b ∧ (isPB a && isPB b) = false ∧ nm = "point") ∨ (k = 11 ∧ ∃ c t, a = ptD c ∧ b = ptD t ∧ isP c ∧ isP t ∧ bd Mb t ∧ ((¬ at1 t ∧ nm = "motion") ∨ (at1 t ∧ bd Mb c ∧ bd Mb (prd t c) ∧ nm = "told"))))
def sp__law_made (cs : Cs) : DSp := fun ds τ R => ∃ x y w, ds = [x, y, w] ∧ tyOf x ≠ none ∧ tyOf y ≠ none ∧ tyOf w ≠ none ∧ ((isWh x && isWh y && isWh w) = false ∨ w = .int 0) ∧ R (.str "point") τ
def spr_refusal (cs : Cs) : DSp := fun ds τ R => ∃ e c nm, ds = [exD e c] ∧ ((c = cs.pnt ∧ nm = "point") ∨ (c = cs.mot ∧ nm = "motion")) ∧ R (.str nm) τ
theorem fi_each {k : Nat} {tb : DS} {E : DEnds} (P : PyData → Prop) (I : Dl → Ms → Prop) (step : ∀ d, P d → ∀ δ τ N, I δ τ → (∀ δ τ, I δ τ → N δ τ) → tb { E with nx := N, ct := N, bk := E.nx } (δ.set k (some d)) τ) (done : ∀ δ τ, I δ τ → E.nx δ τ) :
    ∀ ds : List PyData, (∀ d ∈ ds, P d) → ∀ δ τ, I δ τ → dFi [k] false tb ds E δ τ
  | [], _, δ, τ, h => done δ τ h
  | d :: ds, hp, δ, τ, h => step d (hp d List.mem_cons_self) δ τ _ h fun δ' τ' h' => fi_each P I step done ds (fun e he => hp e (List.mem_cons_of_mem _ he)) δ' τ' h'
theorem ptD_inj {p q : P3} (h : ptD p = ptD q) : p = q := by
  obtain ⟨a, b, c⟩ := p
  obtain ⟨x, y, z⟩ := q
  injection h with h
  injection h with f1 f2
  injection f2 with f2 f3
  injection f3 with f3 f4
  injection f1 with f1
  injection f2 with f2
  injection f3 with f3
  rw [show a = x from f1, show b = y from f2, show c = z from f3]
theorem okJ_p {p : P3} {rest : List PyData} (h : ∀ e ∈ rest, okI e) (b : bd Mb p) : okJ (.tuple (ptD p :: rest)) := okJ_t (fun e he => by
  rcases List.mem_cons.mp he with rfl | he
  · exact okI_pt _
  · exact h e he) fun t r e => by
    injection e with e1 _
    rw [← ptD_inj e1]; exact b
theorem okI_int (i : Int) : okI (.int i) := okI_n (by simp [tyOf]) fun es e => by cases e
theorem okI_bool (b : Bool) : okI (.bool b) := okI_n (by simp [tyOf]) fun es e => by cases e
theorem okI_none : okI .none := okI_n (by simp [tyOf]) fun es e => by cases e
theorem isMB_p (p : P3) (b c : PyData) : isMB (.tuple [ptD p, b, c]) = (isPB (ptD p) && isPB b && isFB c && (p.1 * p.1 + p.2.1 * p.2.1 == p.2.2 * p.2.2)) := rfl
theorem odd_mo {m : Mo} (hm : isM m) (b : bd Mb m.1) : ∀ d ∈ [PyData.none, .int 5, .tuple [ptD m.1, ptD m.2.1], .tuple [ptD m.1, ptD m.2.1, .int 2], .tuple [ptD m.1, ptD m.2.1, .bool true], .tuple [ptD (2, 0, 1), ptD m.2.1, .int 0], .tuple [ptD (1, 1, 1), ptD m.2.1, .int 0], .list [ptD m.1, ptD m.2.1, .int 0]] ++
    [.tuple [ptD (0, 0, 1), ptD m.2.1, .int 1], .tuple [ptD m.1, ptD (2, 2, 2), .int 0], .tuple [ptD m.1, .none, .int 0], .tuple [ptD (2, 0, 2), ptD m.2.1, .int 0], .str "motion"], okJ d ∧ isMB d = false := by
  have pI : ∀ (p : P3) (c : PyData), okI c → ∀ e ∈ [ptD p, c], okI e := fun p c hc e he => by
    simp only [List.mem_cons, List.not_mem_nil, or_false] at he
    rcases he with rfl | rfl
    · exact okI_pt _
    · exact hc
  have sm : ∀ p : P3, bd 5 p → bd Mb p := fun p h => h.mono (by decide)
  intro d hd
  simp only [List.cons_append, List.nil_append, List.mem_cons, List.not_mem_nil, or_false] at hd
  rcases hd with rfl | rfl | rfl | rfl | rfl | rfl | rfl | rfl | rfl | rfl | rfl | rfl | rfl
  · exact ⟨okJ_n (by simp [tyOf]) (fun es e => by cases e), rfl⟩
  · exact ⟨okJ_n (by simp [tyOf]) (fun es e => by cases e), rfl⟩
  · exact ⟨okJ_p (fun e he => by rw [List.mem_singleton.mp he]; exact okI_pt _) b, rfl⟩
  · exact ⟨okJ_p (pI _ _ (okI_int _)) b, by rw [isMB_p]; simp [isFB]⟩
  · exact ⟨okJ_p (pI _ _ (okI_bool _)) b, by rw [isMB_p]; simp [isFB]⟩
  · exact ⟨okJ_p (pI _ _ (okI_int _)) (sm _ ⟨by decide, by decide, by decide⟩), by rw [isMB_p]; simp⟩
  · exact ⟨okJ_p (pI _ _ (okI_int _)) (sm _ ⟨by decide, by decide, by decide⟩), by rw [isMB_p]; simp⟩
  · exact ⟨okJ_n (by simp [tyOf]) (fun es e => by cases e), rfl⟩
  · exact ⟨okJ_p (pI _ _ (okI_int _)) (sm _ ⟨by decide, by decide, by decide⟩), by rw [isMB_p]; simp⟩
  · exact ⟨okJ_p (pI _ _ (okI_int _)) b, by rw [isMB_p, show isPB (ptD (2, 2, 2)) = false by decide]; simp⟩
  · refine ⟨okJ_p (fun e he => ?_) b, by rw [isMB_p]; simp [isPB]⟩
    simp only [List.mem_cons, List.not_mem_nil, or_false] at he
    rcases he with rfl | rfl
    · exact okI_none
    · exact okI_int _
  · exact ⟨okJ_p (pI _ _ (okI_int _)) (sm _ ⟨by decide, by decide, by decide⟩), by rw [isMB_p, show isPB (ptD (2, 0, 2)) = false by decide]; simp⟩
  · exact ⟨okJ_n (by simp [tyOf]) (fun es e => by cases e), rfl⟩
theorem odd_pt : ∀ d ∈ [PyData.none, .int 5, .tuple [.int 1, .int 2], .tuple [.int 2, .int 4, .int 2], .tuple [.int 1, .int 2, .int 0], .tuple [.int 1, .int 2, .int (0 - 1)], .tuple [.bool true, .int 1, .int 1], .list [.int 1, .int 2, .int 1]], okI d ∧ isPB d = false := by
  have nt : ∀ d, tyOf d ≠ none → (∀ es, d ≠ .tuple es) → okI d := fun d h1 h2 => okI_n h1 h2
  intro d hd
  simp only [List.mem_cons, List.not_mem_nil, or_false] at hd
  rcases hd with rfl | rfl | rfl | rfl | rfl | rfl | rfl | rfl
  · exact ⟨okI_none, rfl⟩
  · exact ⟨okI_int _, rfl⟩
  · exact ⟨okI_t (fun e he => by simp at he; rcases he with rfl | rfl <;> simp [tyOf]), rfl⟩
  · exact ⟨okI_pt (2, 4, 2), by decide⟩
  · exact ⟨okI_pt (1, 2, 0), by decide⟩
  · exact ⟨okI_pt (1, 2, 0 - 1), by decide⟩
  · exact ⟨okI_t (fun e he => by simp at he; rcases he with rfl | rfl <;> simp [tyOf]), rfl⟩
  · exact ⟨nt _ (by simp [tyOf]) (fun es e => by cases e), rfl⟩
theorem odd_tn : ∀ d ∈ [ptD (1, 1, 1), ptD (0, 0, 1), ptD (2, 0, 1), ptD (3, 4, 6)], ∃ t : P3, d = ptD t ∧ isP t ∧ bd Mb t ∧ ¬ at1 t := by
  intro d hd
  simp only [List.mem_cons, List.not_mem_nil, or_false] at hd
  rcases hd with rfl | rfl | rfl | rfl
  · exact ⟨_, rfl, ⟨by decide, by decide⟩, ⟨by decide, by decide, by decide⟩, by unfold at1; decide⟩
  · exact ⟨_, rfl, ⟨by decide, by decide⟩, ⟨by decide, by decide, by decide⟩, by unfold at1; decide⟩
  · exact ⟨_, rfl, ⟨by decide, by decide⟩, ⟨by decide, by decide, by decide⟩, by unfold at1; decide⟩
  · exact ⟨_, rfl, ⟨by decide, by decide⟩, ⟨by decide, by decide, by decide⟩, by unfold at1; decide⟩
theorem strs_eq (s : Str) (n : Nat) : PyData.eqv (.list (List.replicate n (.str s))) (.list (List.replicate n [PyData.str s]).flatten) = true := by
  have key : ∀ n : Nat, PyData.eqvAll (List.replicate n (.str s)) (List.replicate n [PyData.str s]).flatten = true := fun n => by
    induction n with
    | zero => simp [PyData.eqvAll]
    | succ n ih =>
      rw [List.replicate_succ, List.replicate_succ, List.flatten_cons]
      show (PyData.eqv (.str s) (.str s) && PyData.eqvAll (List.replicate n (.str s)) (List.replicate n [PyData.str s]).flatten) = true
      rw [ih]; simp [PyData.eqv]
  exact key n
theorem strs_shp (s : Str) (hs : PyData.strOk s = true) : ∀ n : Nat, SeqAt.shaped (.list (List.replicate n (PyData.str s))) = true := fun n => by
  have a : ∀ n : Nat, PyData.canLayAll0 (List.replicate n (PyData.str s)) = true := fun n => by
    induction n with
    | zero => simp [PyData.canLayAll0]
    | succ n ih => rw [List.replicate_succ]; simp [PyData.canLayAll0, PyData.canLay0, ih, hs]
  have b : ∀ n : Nat, PyData.depthAll (List.replicate n (PyData.str s)) = 0 := fun n => by
    induction n with
    | zero => simp [PyData.depthAll]
    | succ n ih => rw [List.replicate_succ]; simp [PyData.depthAll, PyData.depth, ih]
  unfold SeqAt.shaped
  simp [PyData.canLay0, PyData.depth, a, b]
theorem flat_rep (s : Str) (n : Nat) : (List.replicate n [PyData.str s]).flatten = List.replicate n (.str s) := by
  induction n with
  | zero => rfl
  | succ n ih => rw [List.replicate_succ, List.replicate_succ, List.flatten_cons, ih]; rfl
theorem odd_nm : ∀ d ∈ [PyData.none, .bool true, .str "1", .tuple [.int 1]], tyOf d ≠ none ∧ isWh d = false := by
  intro d hd
  simp only [List.mem_cons, List.not_mem_nil, or_false] at hd
  rcases hd with rfl | rfl | rfl | rfl <;> exact ⟨by simp [tyOf], rfl⟩
end Pr
end
section
set_option Elab.async false
set_option linter.all false
set_option maxRecDepth 100000
set_option maxHeartbeats 4000000
namespace Pr
open PySem L2 L3 M
def top (i : Nat) : Stmt := PySem.Challenge.pw_laidover_k04_motions_refused.main.body.getD i (.Pass ⟨0, 0, 0, 0⟩)
abbrev s_is_whole : Stmt := top 11
theorem sc_is_whole : FnScope ["thing"] ["thing"] (defScope s_is_whole) := ⟨rfl, rfl, rfl, by decide +kernel, rfl, by decide +kernel, by decide +kernel⟩
def G_is_whole (cs : Cs) : Gm := fun P w K mg base => mg "isinstance" = none ∧ mg "int" = none ∧ mg "bool" = none
theorem ok_is_whole {cs : Cs} {P : Program} {w : World} {K : PySem.W.Frag} {mg : Str → Option Value} {base : Heap} {f : Addr} {fd : FuncData} {dV : Value} (hΓ : G_is_whole cs P w K mg base) (F : Fu K "is_whole" s_is_whole f fd dV) (hm : mg "is_whole" = some (.ref f)) (hb : Binds K fd ["thing"] []) : FnD P w K mg base "is_whole" 1 1 sp_is_whole := by
  refine fn_D (G_is_whole cs) hΓ F sc_is_whole rfl hm hb fun X B h => ?_
  have b := B.toBx
  unfold G_is_whole at h
  refine ⟨_, (qss_one (qs_ret (qe_and (qe_isi b .int h.1 h.2.1 (qe_var b 0)) (qe_one (qe_not (qe_isi b .bool h.1 h.2.2 (qe_var b 0))))))), ?_⟩
  rintro ds τ R - ⟨d, rfl, hd, q⟩
  cases d with
  | dict _ => exact absurd rfl hd
  | _ => exact q
abbrev s_common_divisor : Stmt := top 12
theorem sc_common_divisor : FnScope ["one", "other"] ["one", "other"] (defScope s_common_divisor) := ⟨rfl, rfl, rfl, by decide +kernel, rfl, by decide +kernel, by decide +kernel⟩
def G_common_divisor (cs : Cs) : Gm := fun P w K mg base => mg "abs" = none
theorem ok_common_divisor {cs : Cs} {P : Program} {w : World} {K : PySem.W.Frag} {mg : Str → Option Value} {base : Heap} {f : Addr} {fd : FuncData} {dV : Value} (hΓ : G_common_divisor cs P w K mg base) (F : Fu K "common_divisor" s_common_divisor f fd dV) (hm : mg "common_divisor" = some (.ref f)) (hb : Binds K fd ["one", "other"] []) : FnD P w K mg base "common_divisor" 1 2 sp_common_divisor := by
  refine fn_D (G_common_divisor cs) hΓ F sc_common_divisor rfl hm hb fun X B h => ?_
  have b := B.toBx
  unfold G_common_divisor at h
  refine ⟨_, (qss_cons (qs_while b (qt_ne b (qe_var b 1) qe_int) (qss_one (qs_par b 0 1 (qa_cons (qe_var b 1) (qa_cons (qe_mod (qe_var b 0) (qe_var b 1)) qa_nil)))))
      (qss_one (qs_ret (qe_callB b call_abs li_abs h (qa_cons (qe_var b 0) qa_nil))))), ?_⟩
  rintro ds τ R - ⟨a0, b0, rfl, q⟩
  refine ⟨fun m δ τ' => ∃ a b : Int, δ = [some (.int a), some (.int b)] ∧ τ' = τ ∧ Int.gcd a b = Int.gcd a0 b0 ∧ m = b.natAbs, ⟨_, a0, b0, rfl, rfl, rfl, rfl⟩, ?_⟩
  rintro m δ τ' ⟨a, b, rfl, rfl, hg, rfl⟩
  refine ⟨rfl, rfl, ?_⟩
  refine iteC (fun hc => ?_) (fun hc => ?_)
  · have hb : b ≠ 0 := by simpa [PyData.eqv] using hc
    exact ⟨hb, _, fmod_lt hb, b, a.fmod b, rfl, rfl, by rw [fmod_gcd, hg], rfl⟩
  · have hb : b = 0 := by simpa [PyData.eqv] using hc
    subst hb
    show R (.int (if a < 0 then -a else a)) _
    rw [gcd_abs, hg]
    exact q
abbrev s_flipped : Stmt := top 27
theorem sc_flipped : FnScope ["p"] ["p"] (defScope s_flipped) := ⟨rfl, rfl, rfl, by decide +kernel, rfl, by decide +kernel, by decide +kernel⟩
def G_flipped (cs : Cs) : Gm := fun P w K mg base => True
theorem ok_flipped {cs : Cs} {P : Program} {w : World} {K : PySem.W.Frag} {mg : Str → Option Value} {base : Heap} {f : Addr} {fd : FuncData} {dV : Value} (hΓ : G_flipped cs P w K mg base) (F : Fu K "flipped" s_flipped f fd dV) (hm : mg "flipped" = some (.ref f)) (hb : Binds K fd ["p"] []) : FnD P w K mg base "flipped" 1 1 sp_flipped := by
  refine fn_D (G_flipped cs) hΓ F sc_flipped rfl hm hb fun X B h => ?_
  have b := B.toBx
  unfold G_flipped at h
  refine ⟨_, (qss_one (qs_ret (qe_tup (qa_cons (qe_ixT (qe_var b 0) qe_int) (qa_cons (qe_neg (qe_ixT (qe_var b 0) qe_int)) (qa_cons (qe_ixT (qe_var b 0) qe_int) qa_nil)))))), ?_⟩
  rintro ds τ R - ⟨p, rfl, k⟩
  exact ⟨by simp, k⟩
abbrev s_is_at_one : Stmt := top 45
theorem sc_is_at_one : FnScope ["p"] ["p"] (defScope s_is_at_one) := ⟨rfl, rfl, rfl, by decide +kernel, rfl, by decide +kernel, by decide +kernel⟩
def G_is_at_one (cs : Cs) : Gm := fun P w K mg base => True
theorem ok_is_at_one {cs : Cs} {P : Program} {w : World} {K : PySem.W.Frag} {mg : Str → Option Value} {base : Heap} {f : Addr} {fd : FuncData} {dV : Value} (hΓ : G_is_at_one cs P w K mg base) (F : Fu K "is_at_one" s_is_at_one f fd dV) (hm : mg "is_at_one" = some (.ref f)) (hb : Binds K fd ["p"] []) : FnD P w K mg base "is_at_one" 1 1 sp_is_at_one := by
  refine fn_D (G_is_at_one cs) hΓ F sc_is_at_one rfl hm hb fun X B h => ?_
  have b := B.toBx
  unfold G_is_at_one at h
  refine ⟨_, (qss_one (qs_ret (qe_eq b (qe_add (qe_mul (qe_ixT (qe_var b 0) qe_int) (qe_ixT (qe_var b 0) qe_int)) (qe_mul (qe_ixT (qe_var b 0) qe_int) (qe_ixT (qe_var b 0) qe_int))) (qe_mul (qe_ixT (qe_var b 0) qe_int) (qe_ixT (qe_var b 0) qe_int))))), ?_⟩
  rintro ds τ R - ⟨p, rfl, bp, k⟩
  refine ⟨cm_of bp.1 (by decide) _, cm_of bp.2.1 (by decide) _, cm_of bp.2.2 (by decide) _, rfl, rfl, ?_⟩
  show R (.bool (PyData.eqv (.int _) (.int _))) τ
  rw [eqv_int]; exact k
abbrev s__law_town : Stmt := top 61
theorem sc__law_town : FnScope ["_law_script"] ["_law_script"] (defScope s__law_town) := ⟨rfl, rfl, rfl, by decide +kernel, rfl, by decide +kernel, by decide +kernel⟩
def G__law_town (cs : Cs) : Gm := fun P w K mg base => mg "list" = none
theorem ok__law_town {cs : Cs} {P : Program} {w : World} {K : PySem.W.Frag} {mg : Str → Option Value} {base : Heap} {f : Addr} {fd : FuncData} {dV : Value} (hΓ : G__law_town cs P w K mg base) (F : Fu K "_law_town" s__law_town f fd dV) (hm : mg "_law_town" = some (.ref f)) (hb : Binds K fd ["_law_script"] []) : FnD P w K mg base "_law_town" 1 1 sp__law_town := by
  refine fn_D (G__law_town cs) hΓ F sc__law_town rfl hm hb fun X B h => ?_
  have b := B.toBx
  unfold G__law_town at h
  refine ⟨_, (qss_one (qs_ret (qe_own (qa_cons (qe_if (qt_ne b (qe_var b 0) (qe_lst qa_nil)) (qe_callTy b call_list_of li_listO h (qa_cons (qe_var b 0) qa_nil)) (qe_own (qa_cons qe_int qa_nil))) (qa_cons qe_int qa_nil))))), ?_⟩
  rintro ds τ R - ⟨ns, rfl, hl', k⟩
  have fin : ∀ (p q : Addr) (cells : List Int), τ p = none → (mset τ p (cells.map .int)) q = none → cells ≠ [] → cells.length ≤ 63 → R (rf q) (mset (mset τ p (cells.map .int)) q [rf p, .int 0]) := by
    intro p q cells hp hq hc hn
    have ne : q ≠ p := by intro e; subst e; rw [mset_same] at hq; cases hq
    exact k q p _ ⟨ne, cells, 0, hc, hn, by rw [mset_ne (Ne.symm ne), mset_same], mset_same⟩ ⟨fun b h1 h2 => by rw [mset_ne h1, mset_ne h2], rfl⟩
  refine ⟨by simp, shaped_ints ns, rfl, ?_⟩
  refine iteC (fun hc => ?_) (fun hc => ?_)
  · have hn : ns ≠ [] := by intro e; subst e; simp [PyData.eqv, PyData.eqvAll] at hc
    exact fun p hp => ⟨by simp, fun q hq => fin p q ns hp hq hn hl'⟩
  · exact ⟨by simp, fun p hp => ⟨by simp, fun q hq => fin p q [0] hp hq (by simp) (by simp)⟩⟩
abbrev s__law_draw : Stmt := top 62
theorem sc__law_draw : FnScope ["_law_town_here", "_law_count", "_law_row", "_law_at", "_law_cell", "_law_mixed"] ["_law_town_here", "_law_count"] (defScope s__law_draw) := ⟨rfl, rfl, rfl, by decide +kernel, rfl, by decide +kernel, by decide +kernel⟩
def G__law_draw (cs : Cs) : Gm := fun P w K mg base => mg "len" = none
theorem ok__law_draw {cs : Cs} {P : Program} {w : World} {K : PySem.W.Frag} {mg : Str → Option Value} {base : Heap} {f : Addr} {fd : FuncData} {dV : Value} (hΓ : G__law_draw cs P w K mg base) (F : Fu K "_law_draw" s__law_draw f fd dV) (hm : mg "_law_draw" = some (.ref f)) (hb : Binds K fd ["_law_town_here", "_law_count"] []) : FnD P w K mg base "_law_draw" 1 2 sp__law_draw := by
  refine fn_D (G__law_draw cs) hΓ F sc__law_draw rfl hm hb fun X B h => ?_
  have b := B.toBx
  unfold G__law_draw at h
  refine ⟨_, (qss_cons (qs_set B 2 (qe_ixO (qe_var b 0) qe_int))
      (qss_cons (qs_put (qe_var b 0) qe_int (qe_add (qe_ixO (qe_var b 0) qe_int) qe_int))
      (qss_cons (qs_set B 3 (qe_mod (qe_ixO (qe_var b 0) qe_int) (qe_callB b call_len li_lenO h (qa_cons (qe_var b 2) qa_nil))))
      (qss_cons (qs_set B 4 (qe_ixO (qe_var b 2) (qe_var b 3)))
      (qss_cons (qs_if (qt_ge (qe_var b 4) qe_int) (qss_cons (qs_put (qe_var b 2) (qe_var b 3) (qe_fdv (qe_var b 4) (qe_var b 1)))
      (qss_one (qs_ret (qe_mod (qe_var b 4) (qe_var b 1))))) qss_nil)
      (qss_cons (qs_set B 5 (qe_mod (qe_add (qe_var b 4) (qe_mul qe_int (qe_ixO (qe_var b 0) qe_int))) qe_int))
      (qss_cons (qs_set B 5 (qe_mod (qe_pow (qe_var b 5) qe_int) qe_int))
      (qss_one (qs_ret (qe_mod (qe_fdv (qe_mod (qe_add (qe_mul (qe_fdv (qe_var b 5) qe_int) qe_int) (qe_var b 5)) qe_int) qe_int) (qe_var b 1))))))))))), ?_⟩
  rintro ds τ R - ⟨t, r, cnt, rfl, ⟨hne, cells, n, hc0, hc1, hr, ht⟩, h1, h2, k⟩
  refine ⟨t, 0, _, rf r, rfl, rfl, ht, rfl, ?_⟩
  refine ⟨t, 1, _, .int n, rfl, rfl, ht, rfl, ?_⟩
  refine ⟨t, 1, _, 1, rfl, rfl, ht, rfl, ?_⟩
  have hr1 : mset τ t [rf r, .int (n + 1)] r = some (Ow.lst (cells.map .int)) := by rw [mset_ne (Ne.symm hne)]; exact hr
  have ht1 : mset τ t [rf r, .int (n + 1)] t = some (Ow.lst [rf r, .int (n + 1)]) := mset_same
  have hk1 : Kp t r τ (mset τ t [rf r, .int (n + 1)]) := ⟨fun b q1 q2 => mset_ne q1, rfl⟩
  have hlen : (cells.map PyData.int).length = cells.length := List.length_map ..
  have hpos : 0 < cells.length := List.length_pos_iff.mpr hc0
  refine ⟨t, 1, _, .int (n + 1), rfl, rfl, ht1, rfl, ?_⟩
  refine ⟨r, _, rfl, hr1, ?_⟩
  refine ⟨by rw [hlen]; omega, ?_⟩
  rw [hlen]
  have a0 := Int.fmod_nonneg_of_pos (n + 1) (b := (cells.length : Int)) (by omega)
  have a1 := Int.fmod_lt_of_pos (n + 1) (b := (cells.length : Int)) (by omega)
  obtain ⟨cell, hcell⟩ : ∃ c : Int, cells[((n + 1).fmod (cells.length : Int)).toNat]? = some c := ⟨_, List.getElem?_eq_getElem (by omega)⟩
  have hix : L2.ixN (cells.map PyData.int).length ((n + 1).fmod (cells.length : Int)) = some ((n + 1).fmod (cells.length : Int)).toNat := by rw [hlen]; exact ixN_pos a0 a1
  refine ⟨r, ((n + 1).fmod (cells.length : Int)), _, .int cell, rfl, rfl, hr1, by unfold L2.atI; rw [hix]; show (cells.map PyData.int)[((n + 1).fmod (cells.length : Int)).toNat]? = _; rw [List.getElem?_map, hcell]; rfl, ?_⟩
  refine iteB (fun hbig => ?_) (fun hsm => ?_)
  · refine ⟨⟨by omega, by omega, by omega⟩, r, ((n + 1).fmod (cells.length : Int)), _, ((n + 1).fmod (cells.length : Int)).toNat, rfl, rfl, hr1, hix, ?_⟩
    refine ⟨by omega, ?_⟩
    refine k _ _ (Int.fmod_nonneg_of_pos _ (by omega)) (Int.fmod_lt_of_pos _ (by omega)) ⟨hne, cells.set ((n + 1).fmod (cells.length : Int)).toNat (cell.fdiv cnt), n + 1, by simp [hc0], by simp; exact hc1, ?_, ?_⟩ (hk1.trans ⟨fun b q1 q2 => mset_ne q2, rfl⟩)
    · rw [mset_same, List.map_set]
    · rw [mset_ne hne]; exact ht1
  · have b0 : 0 ≤ (cell + 104729 * (n + 1)).fmod 4294967291 := Int.fmod_nonneg_of_pos _ (by decide)
    have b1 : (cell + 104729 * (n + 1)).fmod 4294967291 < 4294967291 := Int.fmod_lt_of_pos _ (by decide)
    have d0 : 0 ≤ ((cell + 104729 * (n + 1)).fmod 4294967291 ^ (5 : Int).toNat).fmod 4294967279 := Int.fmod_nonneg_of_pos _ (by decide)
    have d1 : ((cell + 104729 * (n + 1)).fmod 4294967291 ^ (5 : Int).toNat).fmod 4294967279 < 4294967279 := Int.fmod_lt_of_pos _ (by decide)
    have nz : ∀ z : Int, 0 < z → z ≠ 0 := fun z h => by omega
    refine ⟨t, 1, _, .int (n + 1), rfl, rfl, ht1, rfl, .inl ⟨by decide, by decide⟩, nz _ (by decide), ?_⟩
    refine ⟨⟨by decide, by decide, by omega⟩, nz _ (by decide), ?_⟩
    have e0 : (((cell + 104729 * (n + 1)).fmod 4294967291 ^ (5 : Int).toNat).fmod 4294967279).fdiv 64 = (((cell + 104729 * (n + 1)).fmod 4294967291 ^ (5 : Int).toNat).fmod 4294967279) / 64 := Int.fdiv_eq_ediv_of_nonneg _ (by decide)
    refine ⟨⟨by decide, by decide, by decide⟩, .inl ⟨by rw [e0]; omega, by rw [e0]; omega⟩, nz _ (by decide), ⟨by decide, by decide, by decide⟩, nz _ (by omega), ?_⟩
    exact k _ _ (Int.fmod_nonneg_of_pos _ (by omega)) (Int.fmod_lt_of_pos _ (by omega)) ⟨hne, cells, n + 1, hc0, hc1, hr1, ht1⟩ hk1
abbrev s__law_is : Stmt := top 64
theorem sc__law_is : FnScope ["_law_told", "_law_due"] ["_law_told", "_law_due"] (defScope s__law_is) := ⟨rfl, rfl, rfl, by decide +kernel, rfl, by decide +kernel, by decide +kernel⟩
def G__law_is (cs : Cs) : Gm := fun P w K mg base => mg "isinstance" = none ∧ mg "bool" = none
theorem ok__law_is {cs : Cs} {P : Program} {w : World} {K : PySem.W.Frag} {mg : Str → Option Value} {base : Heap} {f : Addr} {fd : FuncData} {dV : Value} (hΓ : G__law_is cs P w K mg base) (F : Fu K "_law_is" s__law_is f fd dV) (hm : mg "_law_is" = some (.ref f)) (hb : Binds K fd ["_law_told", "_law_due"] []) : FnD P w K mg base "_law_is" 1 2 sp__law_is := by
  refine fn_D (G__law_is cs) hΓ F sc__law_is rfl hm hb fun X B h => ?_
  have b := B.toBx
  unfold G__law_is at h
  refine ⟨_, (qss_one (qs_ret (qe_and (qe_isi b .bool h.1 h.2 (qe_var b 0)) (qe_one (qe_eq b (qe_var b 0) (qe_var b 1)))))), ?_⟩
  rintro ds τ R - ⟨a, b, rfl, k⟩
  refine ⟨rfl, rfl, ?_⟩
  have e : PyData.eqv (.bool a) (.bool b) = (a == b) := by cases a <;> cases b <;> rfl
  rw [e]
  exact k
abbrev s__law_refusal : Stmt := top 65
theorem sc__law_refusal : FnScope ["_law_caught", "_law_sorts"] ["_law_caught"] (defScope s__law_refusal) := ⟨rfl, rfl, rfl, by decide +kernel, rfl, by decide +kernel, by decide +kernel⟩
def G__law_refusal (cs : Cs) : Gm := fun P w K mg base => mg "isinstance" = none ∧ mg "ValueError" = none ∧ mg "BadNumber" = some (.ref cs.num) ∧ mg "BadPoint" = some (.ref cs.pnt) ∧ mg "BadMotion" = some (.ref cs.mot) ∧ mg "BadHeap" = some (.ref cs.hep) ∧ mg "BadPairs" = some (.ref cs.prs) ∧ mg "BadName" = some (.ref cs.nam) ∧ mg "BadText" = some (.ref cs.txt) ∧ mg "NoThing" = some (.ref cs.non) ∧ mg "OverError" = some (.ref cs.over) ∧ KitR K cs cs.pnt [false, true, false, false, false, false, false, false] ∧ KitR K cs cs.mot [false, false, true, false, false, false, false, false]
theorem ok__law_refusal {cs : Cs} {P : Program} {w : World} {K : PySem.W.Frag} {mg : Str → Option Value} {base : Heap} {f : Addr} {fd : FuncData} {dV : Value} (hΓ : G__law_refusal cs P w K mg base) (F : Fu K "_law_refusal" s__law_refusal f fd dV) (hm : mg "_law_refusal" = some (.ref f)) (hb : Binds K fd ["_law_caught"] []) : FnD P w K mg base "_law_refusal" 1 1 (spr_refusal cs) := by
  refine fn_D (G__law_refusal cs) hΓ F sc__law_refusal rfl hm hb fun X B h => ?_
  have b := B.toBx
  unfold G__law_refusal at h
  refine ⟨_, (qss_cons (qs_set B 1 (qe_lst (qa_cons (qe_isx b h.1 h.2.2.1 (qe_var b 0)) (qa_cons (qe_isx b h.1 h.2.2.2.1 (qe_var b 0)) (qa_cons (qe_isx b h.1 h.2.2.2.2.1 (qe_var b 0)) qa_nil)))))
      (qss_cons (qs_set B 1 (qe_cat (qe_var b 1) (qe_lst (qa_cons (qe_isx b h.1 h.2.2.2.2.2.1 (qe_var b 0)) (qa_cons (qe_isx b h.1 h.2.2.2.2.2.2.1 (qe_var b 0)) (qa_cons (qe_isx b h.1 h.2.2.2.2.2.2.2.1 (qe_var b 0)) qa_nil))))))
      (qss_cons (qs_set B 1 (qe_cat (qe_var b 1) (qe_lst (qa_cons (qe_isx b h.1 h.2.2.2.2.2.2.2.2.1 (qe_var b 0)) (qa_cons (qe_isx b h.1 h.2.2.2.2.2.2.2.2.2.1 (qe_var b 0)) qa_nil)))))
      (qss_cons (qs_if (qt_w (qw_or (qt_ne b (qe_count b (qe_var b 1) qe_bl) qe_int) (qw_or (qt_not (qt_val (qe_isx b h.1 h.2.2.2.2.2.2.2.2.2.2.1 (qe_var b 0)))) (qw_or1 (qt_not (qt_val (qe_isxT (T := "ValueError") b h.1 h.2.1 (qe_var b 0)))))))) (qss_one (qs_ret qe_str)) qss_nil)
      (qss_one (qs_ret (qe_ixL (qe_lst (qa_cons qe_str (qa_cons qe_str (qa_cons qe_str (qa_cons qe_str (qa_cons qe_str (qa_cons qe_str (qa_cons qe_str (qa_cons qe_str qa_nil))))))))) (qe_index b (qe_var b 1) qe_bl)))))))), ?_⟩
  rintro ds τ R - ⟨e, c, nm, rfl, hc, q⟩
  rcases hc with ⟨rfl, rfl⟩ | ⟨rfl, rfl⟩
  · obtain ⟨Z, -, o, v, k1, k2, k3, k4, k5, k6, k7, k8, -⟩ := h.2.2.2.2.2.2.2.2.2.2.2.1
    refine ⟨e, _, _, rfl, Z, k1, e, _, _, rfl, Z, k2, e, _, _, rfl, Z, k3, by simp, ?_⟩
    refine ⟨e, _, _, rfl, Z, k4, e, _, _, rfl, Z, k5, e, _, _, rfl, Z, k6, by simp, by simp, ?_⟩
    refine ⟨e, _, _, rfl, Z, k7, e, _, _, rfl, Z, k8, by simp, by simp, ?_⟩
    refine ⟨rfl, rfl, rfl, rfl, ?_⟩
    refine ⟨e, _, _, rfl, Z, o, ?_⟩
    refine ⟨e, _, _, rfl, Z, v, ?_⟩
    refine ⟨by simp, rfl, rfl, ?_⟩
    exact q
  · obtain ⟨Z, -, o, v, k1, k2, k3, k4, k5, k6, k7, k8, -⟩ := h.2.2.2.2.2.2.2.2.2.2.2.2
    refine ⟨e, _, _, rfl, Z, k1, e, _, _, rfl, Z, k2, e, _, _, rfl, Z, k3, by simp, ?_⟩
    refine ⟨e, _, _, rfl, Z, k4, e, _, _, rfl, Z, k5, e, _, _, rfl, Z, k6, by simp, by simp, ?_⟩
    refine ⟨e, _, _, rfl, Z, k7, e, _, _, rfl, Z, k8, by simp, by simp, ?_⟩
    refine ⟨rfl, rfl, rfl, rfl, ?_⟩
    refine ⟨e, _, _, rfl, Z, o, ?_⟩
    refine ⟨e, _, _, rfl, Z, v, ?_⟩
    refine ⟨by simp, rfl, rfl, ?_⟩
    exact q
abbrev s__law_gcd : Stmt := top 66
theorem sc__law_gcd : FnScope ["_law_one", "_law_two"] ["_law_one", "_law_two"] (defScope s__law_gcd) := ⟨rfl, rfl, rfl, by decide +kernel, rfl, by decide +kernel, by decide +kernel⟩
def G__law_gcd (cs : Cs) : Gm := fun P w K mg base => mg "max" = none
theorem ok__law_gcd {cs : Cs} {P : Program} {w : World} {K : PySem.W.Frag} {mg : Str → Option Value} {base : Heap} {f : Addr} {fd : FuncData} {dV : Value} (hΓ : G__law_gcd cs P w K mg base) (F : Fu K "_law_gcd" s__law_gcd f fd dV) (hm : mg "_law_gcd" = some (.ref f)) (hb : Binds K fd ["_law_one", "_law_two"] []) : FnD P w K mg base "_law_gcd" 1 2 sp__law_gcd := by
  refine fn_D (G__law_gcd cs) hΓ F sc__law_gcd rfl hm hb fun X B h => ?_
  have b := B.toBx
  unfold G__law_gcd at h
  refine ⟨_, (qss_cons (qs_par b 0 1 (qa_cons (qe_callB b (call_max2 b.calm) li_max2 h (qa_cons (qe_var b 0) (qa_cons (qe_sub qe_int (qe_var b 0)) qa_nil))) (qa_cons (qe_callB b (call_max2 b.calm) li_max2 h (qa_cons (qe_var b 1) (qa_cons (qe_sub qe_int (qe_var b 1)) qa_nil))) qa_nil)))
      (qss_cons (qs_while b (qt_ne b (qe_var b 1) qe_int) (qss_one (qs_par b 0 1 (qa_cons (qe_var b 1) (qa_cons (qe_mod (qe_var b 0) (qe_var b 1)) qa_nil)))))
      (qss_one (qs_ret (qe_var b 0))))), ?_⟩
  rintro ds τ R - ⟨a0, b0, rfl, q⟩
  have ab : ∀ a : Int, (if 0 - a > a then 0 - a else a) = (a.natAbs : Int) := fun a => by split <;> omega
  show (dSeq (dWhile _ _) _) _ [some (.int (if 0 - a0 > a0 then 0 - a0 else a0)), some (.int (if 0 - b0 > b0 then 0 - b0 else b0))] τ
  rw [ab, ab]
  refine ⟨fun m δ τ' => ∃ a b : Int, δ = [some (.int a), some (.int b)] ∧ τ' = τ ∧ Int.gcd a b = Int.gcd a0 b0 ∧ m = b.natAbs ∧ 0 ≤ a ∧ 0 ≤ b, ⟨_, _, _, rfl, rfl, by rw [Int.gcd_eq_natAbs_gcd_natAbs, Int.natAbs_natCast, Int.natAbs_natCast, ← Int.gcd_eq_natAbs_gcd_natAbs], rfl, by omega, by omega⟩, ?_⟩
  rintro m δ τ' ⟨a, b, rfl, rfl, hg, rfl, ha, hb0⟩
  refine ⟨rfl, rfl, ?_⟩
  refine iteC (fun hc => ?_) (fun hc => ?_)
  · have hb : b ≠ 0 := by simpa [PyData.eqv] using hc
    exact ⟨hb, _, fmod_lt hb, b, a.fmod b, rfl, rfl, by rw [fmod_gcd, hg], rfl, hb0, Int.fmod_nonneg_of_pos a (by omega)⟩
  · have hb : b = 0 := by simpa [PyData.eqv] using hc
    subst hb
    show R (.int a) _
    have e : a = (Int.gcd a 0 : Int) := by rw [Int.gcd_zero]; omega
    rw [e, hg]
    exact q
abbrev s_point : Stmt := top 15
theorem sc_point : FnScope ["x", "y", "w", "number"] ["x", "y", "w"] (defScope s_point) := ⟨rfl, rfl, rfl, by decide +kernel, rfl, by decide +kernel, by decide +kernel⟩
def G_point (cs : Cs) : Gm := fun P w K mg base => FnD P w K mg base "is_whole" 1 1 sp_is_whole ∧ mg "BadPoint" = some (.ref cs.pnt) ∧ PySem.W.excIn K cs.pnt bmV "ValueError.__new__" = true
theorem ok_point {cs : Cs} {P : Program} {w : World} {K : PySem.W.Frag} {mg : Str → Option Value} {base : Heap} {f : Addr} {fd : FuncData} {dV : Value} (hΓ : G_point cs P w K mg base) (F : Fu K "point" s_point f fd dV) (hm : mg "point" = some (.ref f)) (hb : Binds K fd ["x", "y", "w"] []) : FnX P w K mg base "point" 2 3 (spx_point cs) := by
  refine fn_X (G_point cs) hΓ F sc_point rfl hm hb fun X RE an Z h => ?_
  have B := Z.toBs
  have b := B.toBx
  unfold G_point at h
  refine ⟨_, (qss_cons (qs_forT B 3 (qe_tup (qa_cons (qe_var b 0) (qa_cons (qe_var b 1) (qa_cons (qe_var b 2) qa_nil)))) (qss_one (qs_if (qt_not (qt_val (qe_call b h.1 (qa_cons (qe_var b 3) qa_nil)))) (qss_one (qs_raise Z h.2.1 h.2.2 (qa_cons qe_str qa_nil))) qss_nil)))
      (qss_cons (qs_if (qt_eq b (qe_var b 2) qe_int) (qss_one (qs_raise Z h.2.1 h.2.2 (qa_cons qe_str qa_nil))) qss_nil)
      qss_never)), ?_⟩
  rintro ds τ R RE' - ⟨x, y, w', rfl, tx, ty, tw, hs, k⟩ hRE
  refine ⟨by simp, ?_⟩
  refine ⟨rfl, x, rfl, tx, ?_⟩
  cases wx : isWh x with
  | false => exact ⟨by simp, rfl, hRE _ _ _ k⟩
  | true =>
    refine ⟨rfl, y, rfl, ty, ?_⟩
    cases wy : isWh y with
    | false => exact ⟨by simp, rfl, hRE _ _ _ k⟩
    | true =>
      refine ⟨rfl, w', rfl, tw, ?_⟩
      cases ww' : isWh w' with
      | false => exact ⟨by simp, rfl, hRE _ _ _ k⟩
      | true =>
        rcases hs with hs | hs
        · rw [wx, wy, ww'] at hs; cases hs
        · subst hs
          exact ⟨rfl, rfl, by simp, rfl, hRE _ _ _ k⟩
abbrev s_point_divisor : Stmt := top 20
theorem sc_point_divisor : FnScope ["x", "y", "w"] ["x", "y", "w"] (defScope s_point_divisor) := ⟨rfl, rfl, rfl, by decide +kernel, rfl, by decide +kernel, by decide +kernel⟩
def G_point_divisor (cs : Cs) : Gm := fun P w K mg base => FnD P w K mg base "common_divisor" 1 2 sp_common_divisor
theorem ok_point_divisor {cs : Cs} {P : Program} {w : World} {K : PySem.W.Frag} {mg : Str → Option Value} {base : Heap} {f : Addr} {fd : FuncData} {dV : Value} (hΓ : G_point_divisor cs P w K mg base) (F : Fu K "point_divisor" s_point_divisor f fd dV) (hm : mg "point_divisor" = some (.ref f)) (hb : Binds K fd ["x", "y", "w"] []) : FnD P w K mg base "point_divisor" 2 3 sp_point_divisor := by
  refine fn_D (G_point_divisor cs) hΓ F sc_point_divisor rfl hm hb fun X B h => ?_
  have b := B.toBx
  unfold G_point_divisor at h
  refine ⟨_, (qss_one (qs_ret (qe_call b h (qa_cons (qe_call b h (qa_cons (qe_var b 2) (qa_cons (qe_var b 0) qa_nil))) (qa_cons (qe_var b 1) qa_nil))))), ?_⟩
  rintro ds τ R - ⟨x, y, w, rfl, q⟩
  exact ⟨rfl, w, x, rfl, rfl, _, y, rfl, q⟩
abbrev s_is_flip : Stmt := top 44
theorem sc_is_flip : FnScope ["thing"] ["thing"] (defScope s_is_flip) := ⟨rfl, rfl, rfl, by decide +kernel, rfl, by decide +kernel, by decide +kernel⟩
def G_is_flip (cs : Cs) : Gm := fun P w K mg base => FnD P w K mg base "is_whole" 1 1 sp_is_whole
theorem ok_is_flip {cs : Cs} {P : Program} {w : World} {K : PySem.W.Frag} {mg : Str → Option Value} {base : Heap} {f : Addr} {fd : FuncData} {dV : Value} (hΓ : G_is_flip cs P w K mg base) (F : Fu K "is_flip" s_is_flip f fd dV) (hm : mg "is_flip" = some (.ref f)) (hb : Binds K fd ["thing"] []) : FnD P w K mg base "is_flip" 2 1 sp_is_flip := by
  refine fn_D (G_is_flip cs) hΓ F sc_is_flip rfl hm hb fun X B h => ?_
  have b := B.toBx
  unfold G_is_flip at h
  refine ⟨_, (qss_one (qs_ret (qe_and (qe_call b h (qa_cons (qe_var b 0) qa_nil)) (qe_one (qe_in (qe_var b 0) (qe_tup (qa_cons qe_int (qa_cons qe_int qa_nil)))))))), ?_⟩
  rintro ds τ R - ⟨d, rfl, hd, k⟩
  cases d with
  | dict _ => exact absurd rfl hd
  | int f =>
    refine ⟨rfl, _, rfl, hd, by simp, ?_⟩
    refine ⟨rfl, rfl, ?_⟩
    have e : ([PyData.int 0, PyData.int 1].any fun y => PyData.eqv y (.int f)) = (f == 0 || f == 1) := by
      simp only [List.any_cons, List.any_nil, eqv_int, Bool.or_false]
      congr 1 <;> exact Bool.eq_iff_iff.mpr (by simp; exact eq_comm)
    show R (.bool ([PyData.int 0, PyData.int 1].any fun y => PyData.eqv y (.int f))) τ
    rw [e]; exact k
  | _ => exact ⟨rfl, _, rfl, hd, k⟩
abbrev s_faced : Stmt := top 46
theorem sc_faced : FnScope ["p", "flip"] ["p", "flip"] (defScope s_faced) := ⟨rfl, rfl, rfl, by decide +kernel, rfl, by decide +kernel, by decide +kernel⟩
def G_faced (cs : Cs) : Gm := fun P w K mg base => FnD P w K mg base "flipped" 1 1 sp_flipped
theorem ok_faced {cs : Cs} {P : Program} {w : World} {K : PySem.W.Frag} {mg : Str → Option Value} {base : Heap} {f : Addr} {fd : FuncData} {dV : Value} (hΓ : G_faced cs P w K mg base) (F : Fu K "faced" s_faced f fd dV) (hm : mg "faced" = some (.ref f)) (hb : Binds K fd ["p", "flip"] []) : FnD P w K mg base "faced" 2 2 sp_faced := by
  refine fn_D (G_faced cs) hΓ F sc_faced rfl hm hb fun X B h => ?_
  have b := B.toBx
  unfold G_faced at h
  refine ⟨_, (qss_one (qs_ret (qe_if (qt_eq b (qe_var b 1) qe_int) (qe_call b h (qa_cons (qe_var b 0) qa_nil)) (qe_var b 0)))), ?_⟩
  rintro ds τ R - ⟨p, f, rfl, k⟩
  refine ⟨rfl, rfl, ?_⟩
  refine iteC (fun hc => ?_) (fun hc => ?_)
  · have hf : f = 1 := by simpa [PyData.eqv] using hc
    refine ⟨rfl, p, rfl, ?_⟩
    subst hf
    exact k
  · have hf : ¬ f = 1 := by simpa [PyData.eqv] using hc
    have e : fcd p f = p := by simp [fcd, hf]
    rw [e] at k
    exact k
abbrev s__law_pick : Stmt := top 63
theorem sc__law_pick : FnScope ["_law_town_here", "_law_some"] ["_law_town_here", "_law_some"] (defScope s__law_pick) := ⟨rfl, rfl, rfl, by decide +kernel, rfl, by decide +kernel, by decide +kernel⟩
def G__law_pick (cs : Cs) : Gm := fun P w K mg base => FnD P w K mg base "_law_draw" 1 2 sp__law_draw ∧ mg "len" = none
theorem ok__law_pick {cs : Cs} {P : Program} {w : World} {K : PySem.W.Frag} {mg : Str → Option Value} {base : Heap} {f : Addr} {fd : FuncData} {dV : Value} (hΓ : G__law_pick cs P w K mg base) (F : Fu K "_law_pick" s__law_pick f fd dV) (hm : mg "_law_pick" = some (.ref f)) (hb : Binds K fd ["_law_town_here", "_law_some"] []) : FnD P w K mg base "_law_pick" 2 2 sp__law_pick := by
  refine fn_D (G__law_pick cs) hΓ F sc__law_pick rfl hm hb fun X B h => ?_
  have b := B.toBx
  unfold G__law_pick at h
  refine ⟨_, (qss_one (qs_ret (qe_ixL (qe_var b 1) (qe_call b h.1 (qa_cons (qe_var b 0) (qa_cons (qe_callB b call_len li_len h.2 (qa_cons (qe_var b 1) qa_nil)) qa_nil)))))), ?_⟩
  rintro ds τ R - ⟨t, r, es, rfl, hT, h1, h2, k⟩
  refine ⟨rfl, t, r, es.length, rfl, hT, by omega, by omega, fun v τ' h0 hv hT' hK => ?_⟩
  have hl' : v.toNat < es.length := by omega
  have e : L2.atI es v = some (es[v.toNat]) := by
    unfold L2.atI
    rw [ixN_pos h0 hv]
    exact List.getElem?_eq_getElem hl'
  show dIxL (.list es) (.int v) τ' R
  unfold dIxL
  simp only [e]
  exact k _ (List.getElem_mem hl') τ' hT' hK
abbrev s__law_low : Stmt := top 67
theorem sc__law_low : FnScope ["_law_px", "_law_py", "_law_pw", "_law_div"] ["_law_px", "_law_py", "_law_pw"] (defScope s__law_low) := ⟨rfl, rfl, rfl, by decide +kernel, rfl, by decide +kernel, by decide +kernel⟩
def G__law_low (cs : Cs) : Gm := fun P w K mg base => FnD P w K mg base "_law_gcd" 1 2 sp__law_gcd
theorem ok__law_low {cs : Cs} {P : Program} {w : World} {K : PySem.W.Frag} {mg : Str → Option Value} {base : Heap} {f : Addr} {fd : FuncData} {dV : Value} (hΓ : G__law_low cs P w K mg base) (F : Fu K "_law_low" s__law_low f fd dV) (hm : mg "_law_low" = some (.ref f)) (hb : Binds K fd ["_law_px", "_law_py", "_law_pw"] []) : FnD P w K mg base "_law_low" 2 3 sp__law_low := by
  refine fn_D (G__law_low cs) hΓ F sc__law_low rfl hm hb fun X B h => ?_
  have b := B.toBx
  unfold G__law_low at h
  refine ⟨_, (qss_cons (qs_set B 3 (qe_call b h (qa_cons (qe_call b h (qa_cons (qe_var b 0) (qa_cons (qe_var b 1) qa_nil))) (qa_cons (qe_var b 2) qa_nil))))
      (qss_cons (qs_set B 3 (qe_if (qt_gt (qe_var b 2) qe_int) (qe_var b 3) (qe_sub qe_int (qe_var b 3))))
      (qss_one (qs_ret (qe_tup (qa_cons (qe_fdv (qe_var b 0) (qe_var b 3)) (qa_cons (qe_fdv (qe_var b 1) (qe_var b 3)) (qa_cons (qe_fdv (qe_var b 2) (qe_var b 3)) qa_nil)))))))), ?_⟩
  rintro ds τ R - ⟨x, y, w, rfl, hw, h1, h2, q⟩
  refine ⟨rfl, x, y, rfl, rfl, _, w, rfl, ?_⟩
  have e0 : (Int.gcd (Int.gcd x y : Int) w : Int) = g3 x y w := by
    unfold g3
    rw [Int.gcd_comm _ w, Int.gcd_eq_natAbs_gcd_natAbs, Int.natAbs_natCast, Int.gcd_eq_natAbs_gcd_natAbs x y, Int.gcd_eq_natAbs_gcd_natAbs, Int.natAbs_natCast, Int.gcd_eq_natAbs_gcd_natAbs w x, Nat.gcd_assoc]
  rw [e0]
  have hg := g3_ne (x := x) (y := y) hw
  have hl := g3_le (x := x) (y := y) hw
  refine iteB (fun hc => ?_) (fun hc => ?_)
  · have c : ∀ i, CD i (g3 x y w) := fun i => cd_of hg hl h1 h2
    refine ⟨c _, c _, c _, by simp, ?_⟩
    have e : low x y w = (x.fdiv (g3 x y w), y.fdiv (g3 x y w), w.fdiv (g3 x y w)) := by
      have : ¬ w < 0 := by omega
      simp [low, this]
    rw [e] at q
    exact q
  · have c : ∀ i, CD i (0 - g3 x y w) := fun i => cd_of (by omega) (by omega) h1 h2
    refine ⟨c _, c _, c _, by simp, ?_⟩
    have e : low x y w = (x.fdiv (0 - g3 x y w), y.fdiv (0 - g3 x y w), w.fdiv (0 - g3 x y w)) := by
      have : w < 0 := by omega
      simp [low, this]
    rw [e] at q
    exact q
abbrev s_is_point : Stmt := top 16
theorem sc_is_point : FnScope ["thing", "x", "y", "w", "number"] ["thing"] (defScope s_is_point) := ⟨rfl, rfl, rfl, by decide +kernel, rfl, by decide +kernel, by decide +kernel⟩
def G_is_point (cs : Cs) : Gm := fun P w K mg base => FnD P w K mg base "point_divisor" 2 3 sp_point_divisor ∧ FnD P w K mg base "is_whole" 1 1 sp_is_whole ∧ mg "all" = none ∧ mg "isinstance" = none ∧ mg "tuple" = none ∧ mg "len" = none
theorem ok_is_point {cs : Cs} {P : Program} {w : World} {K : PySem.W.Frag} {mg : Str → Option Value} {base : Heap} {f : Addr} {fd : FuncData} {dV : Value} (hΓ : G_is_point cs P w K mg base) (F : Fu K "is_point" s_is_point f fd dV) (hm : mg "is_point" = some (.ref f)) (hb : Binds K fd ["thing"] []) : FnD P w K mg base "is_point" 3 1 sp_is_point := by
  refine fn_D (G_is_point cs) hΓ F sc_is_point rfl hm hb fun X B h => ?_
  have b := B.toBx
  unfold G_is_point at h
  refine ⟨_, (qss_cons (qs_if (qt_w (qw_or (qt_not (qt_val (qe_isi b .tuple h.2.2.2.1 h.2.2.2.2.1 (qe_var b 0)))) (qw_or1 (qt_ne b (qe_callB b call_len li_len h.2.2.2.2.2 (qa_cons (qe_var b 0) qa_nil)) qe_int)))) (qss_one (qs_ret qe_bl)) qss_nil)
      (qss_cons (qs_if (qt_not (qt_val (qe_callB b (cr_all b.calm) li_all h.2.2.1 (qa_cons (qe_lcT b 4 (qe_var b 0) (fun s1 H1 C1 cl1 fp1 => (qe_call (b.blk s1 H1 _ cl1 C1 fp1) h.2.1 (qa_cons (qe_var (b.blk s1 H1 _ cl1 C1 fp1) 4) qa_nil)))) qa_nil)))) (qss_one (qs_ret qe_bl)) qss_nil)
      (qss_cons (qs_unp b (qe_var b 0) (qg_cons B 1 (qg_cons B 2 (qg_cons B 3 qg_nil))))
      (qss_one (qs_ret (qe_and (qe_gt (qe_var b 3) qe_int) (qe_one (qe_eq b (qe_call b h.1 (qa_cons (qe_var b 1) (qa_cons (qe_var b 2) (qa_cons (qe_var b 3) qa_nil)))) qe_int)))))))), ?_⟩
  rintro ds τ R - ⟨d, rfl, ⟨hd, he⟩, k⟩
  cases d with
  | dict _ => exact absurd rfl hd
  | tuple es =>
    refine ⟨rfl, rfl, ?_⟩
    refine iteC (fun hc => ?_) (fun hc => ?_)
    · have hl : es.length ≠ 3 := by
        rw [eqv_int] at hc
        intro e; rw [e] at hc; exact absurd hc (by decide)
      have e : isPB (.tuple es) = false := by
        unfold isPB; split
        · rename_i q; cases q; exact absurd rfl hl
        · rfl
      rw [e] at k; exact k
    · have hl : es.length = 3 := by
        rw [eqv_int] at hc
        have : ((es.length : Int) == 3) = true := by simpa using hc
        have := eq_of_beq this
        omega
      match es, hl, he, k with
      | [a, b, c], _, he, k =>
        have ta : tyOf a ≠ none := he _ rfl a (by simp)
        have tb : tyOf b ≠ none := he _ rfl b (by simp)
        have tc : tyOf c ≠ none := he _ rfl c (by simp)
        intro D hD
        refine dLcL_pure (fun d => .bool (isWh d)) (fun d hd' τ' R' q => ?_) hD (by simp) ?_
        · exact ⟨rfl, d, rfl, he _ rfl d hd', q⟩
        show if (!(List.all [isWh a, isWh b, isWh c] id)) = true then _ else _
        refine iteC (fun hc => ?_) (fun hc => ?_)
        · have e : isPB (.tuple [a, b, c]) = false := by
            unfold isPB; split
            · rename_i q; cases q; simp [isWh] at hc
            · rfl
          rw [e] at k; exact k
        · have hall : isWh a = true ∧ isWh b = true ∧ isWh c = true := by simpa using hc
          obtain ⟨h1, h2, h3⟩ := hall
          obtain ⟨x, rfl⟩ := isWh_int h1
          obtain ⟨y, rfl⟩ := isWh_int h2
          obtain ⟨w, rfl⟩ := isWh_int h3
          refine ⟨rfl, ?_⟩
          refine iteB (fun h0 => ?_) (fun h0 => ?_)
          · refine ⟨rfl, x, y, w, rfl, rfl, rfl, ?_⟩
            show R (.bool (PyData.eqv (.int _) (.int _))) τ
            rw [eqv_int]
            have e : isPB (.tuple [.int x, .int y, .int w]) = (g3 x y w == 1) := by
              show (decide (0 < w) && decide (g3 x y w = 1)) = _
              simp [h0]; rfl
            rw [e] at k; exact k
          · have e : isPB (.tuple [.int x, .int y, .int w]) = false := by
              show (decide (0 < w) && decide (g3 x y w = 1)) = _
              simp [h0]
            rw [e] at k; exact k
  | _ => exact k
abbrev s_lowest : Stmt := top 21
theorem sc_lowest : FnScope ["x", "y", "w", "divisor"] ["x", "y", "w"] (defScope s_lowest) := ⟨rfl, rfl, rfl, by decide +kernel, rfl, by decide +kernel, by decide +kernel⟩
def G_lowest (cs : Cs) : Gm := fun P w K mg base => FnD P w K mg base "point_divisor" 2 3 sp_point_divisor
theorem ok_lowest {cs : Cs} {P : Program} {w : World} {K : PySem.W.Frag} {mg : Str → Option Value} {base : Heap} {f : Addr} {fd : FuncData} {dV : Value} (hΓ : G_lowest cs P w K mg base) (F : Fu K "lowest" s_lowest f fd dV) (hm : mg "lowest" = some (.ref f)) (hb : Binds K fd ["x", "y", "w"] []) : FnD P w K mg base "lowest" 3 3 sp_lowest := by
  refine fn_D (G_lowest cs) hΓ F sc_lowest rfl hm hb fun X B h => ?_
  have b := B.toBx
  unfold G_lowest at h
  refine ⟨_, (qss_cons (qs_set B 3 (qe_call b h (qa_cons (qe_var b 0) (qa_cons (qe_var b 1) (qa_cons (qe_var b 2) qa_nil)))))
      (qss_cons (qs_if (qt_lt (qe_var b 2) qe_int) (qss_one (qs_set B 3 (qe_neg (qe_var b 3)))) qss_nil)
      (qss_one (qs_ret (qe_tup (qa_cons (qe_fdv (qe_var b 0) (qe_var b 3)) (qa_cons (qe_fdv (qe_var b 1) (qe_var b 3)) (qa_cons (qe_fdv (qe_var b 2) (qe_var b 3)) qa_nil)))))))), ?_⟩
  rintro ds τ R - ⟨x, y, w, rfl, hw, h1, h2, q⟩
  refine ⟨rfl, x, y, w, rfl, ?_⟩
  have hg := g3_ne (x := x) (y := y) hw
  have hl := g3_le (x := x) (y := y) hw
  refine iteB (fun hc => ?_) (fun hc => ?_)
  · have c : ∀ i, CD i (-(g3 x y w)) := fun i => cd_of (by omega) (by rw [Int.natAbs_neg]; exact hl) h1 h2
    refine ⟨c _, c _, c _, by simp, ?_⟩
    have e : low x y w = (x.fdiv (-(g3 x y w)), y.fdiv (-(g3 x y w)), w.fdiv (-(g3 x y w))) := by simp [low, hc]
    rw [e] at q
    exact q
  · have c : ∀ i, CD i (g3 x y w) := fun i => cd_of hg hl h1 h2
    refine ⟨c _, c _, c _, by simp, ?_⟩
    have e : low x y w = (x.fdiv (g3 x y w), y.fdiv (g3 x y w), w.fdiv (g3 x y w)) := by simp [low, hc]
    rw [e] at q
    exact q
abbrev s__law_point : Stmt := top 68
theorem sc__law_point : FnScope ["_law_town_here", "_law_broad", "_law_px", "_law_py"] ["_law_town_here", "_law_broad"] (defScope s__law_point) := ⟨rfl, rfl, rfl, by decide +kernel, rfl, by decide +kernel, by decide +kernel⟩
def G__law_point (cs : Cs) : Gm := fun P w K mg base => FnD P w K mg base "_law_low" 2 3 sp__law_low ∧ FnD P w K mg base "_law_draw" 1 2 sp__law_draw ∧ FnD P w K mg base "_law_pick" 2 2 sp__law_pick
theorem ok__law_point {cs : Cs} {P : Program} {w : World} {K : PySem.W.Frag} {mg : Str → Option Value} {base : Heap} {f : Addr} {fd : FuncData} {dV : Value} (hΓ : G__law_point cs P w K mg base) (F : Fu K "_law_point" s__law_point f fd dV) (hm : mg "_law_point" = some (.ref f)) (hb : Binds K fd ["_law_town_here", "_law_broad"] []) : FnD P w K mg base "_law_point" 3 2 spw__law_point := by
  refine fn_D (G__law_point cs) hΓ F sc__law_point rfl hm hb fun X B h => ?_
  have b := B.toBx
  unfold G__law_point at h
  refine ⟨_, (qss_cons (qs_set B 2 (qe_sub (qe_call b h.2.1 (qa_cons (qe_var b 0) (qa_cons (qe_add (qe_mul qe_int (qe_var b 1)) qe_int) qa_nil))) (qe_var b 1)))
      (qss_cons (qs_set B 3 (qe_sub (qe_call b h.2.1 (qa_cons (qe_var b 0) (qa_cons (qe_add (qe_mul qe_int (qe_var b 1)) qe_int) qa_nil))) (qe_var b 1)))
      (qss_one (qs_ret (qe_call b h.1 (qa_cons (qe_var b 2) (qa_cons (qe_var b 3) (qa_cons (qe_call b h.2.2 (qa_cons (qe_var b 0) (qa_cons (qe_lst (qa_cons qe_int (qa_cons qe_int (qa_cons qe_int (qa_cons qe_int (qa_cons qe_int qa_nil)))))) qa_nil))) qa_nil)))))))), ?_⟩
  rintro ds τ R - ⟨t, r, b', rfl, hT, h1, h2, k⟩
  refine ⟨.inl ⟨by decide, by decide⟩, rfl, t, r, 2 * b' + 1, rfl, hT, by omega, by omega, fun vx τ1 x0 x1 hT1 hK1 => ?_⟩
  refine ⟨.inl ⟨by decide, by decide⟩, rfl, t, r, 2 * b' + 1, rfl, hT1, by omega, by omega, fun vy τ2 y0 y1 hT2 hK2 => ?_⟩
  refine ⟨by simp, rfl, t, r, _, rfl, hT2, by simp, by simp, fun e he τ3 hT3 hK3 => ?_⟩
  obtain ⟨w, rfl, hw1, hw2⟩ : ∃ w : Int, e = .int w ∧ 1 ≤ w ∧ w ≤ 3 := by
    simp only [List.mem_cons, List.not_mem_nil, or_false] at he
    rcases he with rfl | rfl | rfl | rfl | rfl
    · exact ⟨1, rfl, by decide, by decide⟩
    · exact ⟨1, rfl, by decide, by decide⟩
    · exact ⟨1, rfl, by decide, by decide⟩
    · exact ⟨2, rfl, by decide, by decide⟩
    · exact ⟨3, rfl, by decide, by decide⟩
  have hw : w ≠ 0 := by omega
  refine ⟨rfl, vx - b', vy - b', w, rfl, hw, by unfold B64; omega, by unfold B64; omega, ?_⟩
  exact k _ τ3 (low_isP hw) (low_bw hw ⟨by simp only; omega, by simp only; omega, by simp only; omega⟩) hT3 (hK1.trans (hK2.trans hK3))
abbrev s__law_turn : Stmt := top 69
theorem sc__law_turn : FnScope ["_law_town_here", "_law_a", "_law_b", "_law_w"] ["_law_town_here"] (defScope s__law_turn) := ⟨rfl, rfl, rfl, by decide +kernel, rfl, by decide +kernel, by decide +kernel⟩
def G__law_turn (cs : Cs) : Gm := fun P w K mg base => FnD P w K mg base "_law_pick" 2 2 sp__law_pick ∧ FnD P w K mg base "_law_low" 2 3 sp__law_low
theorem ok__law_turn {cs : Cs} {P : Program} {w : World} {K : PySem.W.Frag} {mg : Str → Option Value} {base : Heap} {f : Addr} {fd : FuncData} {dV : Value} (hΓ : G__law_turn cs P w K mg base) (F : Fu K "_law_turn" s__law_turn f fd dV) (hm : mg "_law_turn" = some (.ref f)) (hb : Binds K fd ["_law_town_here"] []) : FnD P w K mg base "_law_turn" 3 1 sp__law_turn := by
  refine fn_D (G__law_turn cs) hΓ F sc__law_turn rfl hm hb fun X B h => ?_
  have b := B.toBx
  unfold G__law_turn at h
  refine ⟨_, (qss_cons (qs_unp b (qe_call b h.1 (qa_cons (qe_var b 0) (qa_cons (qe_lst (qa_cons (qe_tup (qa_cons qe_int (qa_cons qe_int (qa_cons qe_int qa_nil)))) (qa_cons (qe_tup (qa_cons qe_int (qa_cons qe_int (qa_cons qe_int qa_nil)))) (qa_cons (qe_tup (qa_cons qe_int (qa_cons qe_int (qa_cons qe_int qa_nil)))) (qa_cons (qe_tup (qa_cons qe_int (qa_cons qe_int (qa_cons qe_int qa_nil)))) (qa_cons (qe_tup (qa_cons qe_int (qa_cons qe_int (qa_cons qe_int qa_nil)))) qa_nil)))))) qa_nil))) (qg_cons B 1 (qg_cons B 2 (qg_cons B 3 qg_nil))))
      (qss_one (qs_ret (qe_call b h.2 (qa_cons (qe_mul (qe_var b 1) (qe_call b h.1 (qa_cons (qe_var b 0) (qa_cons (qe_lst (qa_cons qe_int (qa_cons (qe_sub qe_int qe_int) qa_nil))) qa_nil)))) (qa_cons (qe_mul (qe_var b 2) (qe_call b h.1 (qa_cons (qe_var b 0) (qa_cons (qe_lst (qa_cons qe_int (qa_cons (qe_sub qe_int qe_int) qa_nil))) qa_nil)))) (qa_cons (qe_var b 3) qa_nil))))))), ?_⟩
  rintro ds τ R - ⟨t, r, rfl, hT, k⟩
  refine ⟨by simp, by simp, by simp, by simp, by simp, by simp, rfl, t, r, _, rfl, hT, by simp, by simp, fun e he τ1 hT1 hK1 => ?_⟩
  obtain ⟨a, b', c, rfl, hc1, hc2, ha, hb1, hb2, hab⟩ : ∃ a b' c : Int, e = .tuple [.int a, .int b', .int c] ∧ 1 ≤ c ∧ c ≤ 13 ∧ a.natAbs ≤ 13 ∧ b'.natAbs ≤ 13 ∧ True ∧ a * a + b' * b' = c * c := by
    simp only [List.mem_cons, List.not_mem_nil, or_false] at he
    rcases he with rfl | rfl | rfl | rfl | rfl
    · exact ⟨1, 0, 1, rfl, by decide, by decide, by decide, by decide, trivial, by decide⟩
    · exact ⟨0, 1, 1, rfl, by decide, by decide, by decide, by decide, trivial, by decide⟩
    · exact ⟨3, 4, 5, rfl, by decide, by decide, by decide, by decide, trivial, by decide⟩
    · exact ⟨4, 3, 5, rfl, by decide, by decide, by decide, by decide, trivial, by decide⟩
    · exact ⟨5, 12, 13, rfl, by decide, by decide, by decide, by decide, trivial, by decide⟩
  refine ⟨rfl, ?_⟩
  have sg : ∀ e, e ∈ [PyData.int 1, PyData.int (0 - 1)] → ∃ s : Int, e = .int s ∧ (s = 1 ∨ s = -1) := by
    intro e he
    simp only [List.mem_cons, List.not_mem_nil, or_false] at he
    rcases he with rfl | rfl
    · exact ⟨1, rfl, .inl rfl⟩
    · exact ⟨-1, rfl, .inr rfl⟩
  refine ⟨by simp, rfl, t, r, _, rfl, hT1, by simp, by simp, fun e1 he1 τ2 hT2 hK2 => ?_⟩
  obtain ⟨s1, rfl, hs1⟩ := sg e1 he1
  refine ⟨.inl ⟨by omega, by omega⟩, ?_⟩
  refine ⟨by simp, rfl, t, r, _, rfl, hT2, by simp, by simp, fun e2 he2 τ3 hT3 hK3 => ?_⟩
  obtain ⟨s2, rfl, hs2⟩ := sg e2 he2
  have hw : c ≠ 0 := by omega
  refine ⟨.inl ⟨by omega, by omega⟩, rfl, a * s1, b' * s2, c, rfl, hw, by unfold B64; omega, by unfold B64; omega, ?_⟩
  have hraw : bd 13 (a * s1, b' * s2, c) := ⟨by rcases hs1 with rfl | rfl <;> simp only <;> omega, by rcases hs2 with rfl | rfl <;> simp only <;> omega, by simp only; omega⟩
  refine k _ τ3 (low_isP hw) ?_ (low_bd hw hraw) hT3 (hK1.trans (hK2.trans hK3))
  have s := low_sim (x := a * s1) (y := b' * s2) hw
  have hat : (a * s1) * (a * s1) + (b' * s2) * (b' * s2) = c * c := by rcases hs1 with rfl | rfl <;> rcases hs2 with rfl | rfl <;> grind
  have n2 := Int.mul_ne_zero hw hw
  generalize low (a * s1) (b' * s2) c = p at *
  obtain ⟨q1, q2⟩ := s
  simp only at q1 q2
  unfold at1
  apply Int.eq_of_mul_eq_mul_left n2
  grind
abbrev s__law_made : Stmt := top 74
theorem sc__law_made : FnScope ["_law_px", "_law_py", "_law_pw", "_law_caught", "e"] ["_law_px", "_law_py", "_law_pw"] (defScope s__law_made) := ⟨rfl, rfl, rfl, by decide +kernel, rfl, by decide +kernel, by decide +kernel⟩
def G__law_made (cs : Cs) : Gm := fun P w K mg base => FnX P w K mg base "point" 2 3 (spx_point cs) ∧ FnD P w K mg base "_law_refusal" 1 1 (spr_refusal cs) ∧ mg "OverError" = some (.ref cs.over) ∧ KitR K cs cs.pnt [false, true, false, false, false, false, false, false] ∧ KitR K cs cs.mot [false, false, true, false, false, false, false, false]
theorem ok__law_made {cs : Cs} {P : Program} {w : World} {K : PySem.W.Frag} {mg : Str → Option Value} {base : Heap} {f : Addr} {fd : FuncData} {dV : Value} (hΓ : G__law_made cs P w K mg base) (F : Fu K "_law_made" s__law_made f fd dV) (hm : mg "_law_made" = some (.ref f)) (hb : Binds K fd ["_law_px", "_law_py", "_law_pw"] []) : FnD P w K mg base "_law_made" 3 3 (sp__law_made cs) := by
  refine fn_T (G__law_made cs) hΓ F sc__law_made rfl hm hb fun X B xf h => ?_
  have b := B.toBx
  unfold G__law_made at h
  refine ⟨_, (qss0_cons (qs0 (qs_set B 3 qe_non))
      (qss0_cons (qs_try B xf 3 4 h.2.2.1 fun RE an => (qss_one (qs_expr (qe_callX (bz_of (RE := RE) (an := an) B xf) h.1 (qa_cons (qe_var (bz_of (RE := RE) (an := an) B xf).toBs.toBx 0) (qa_cons (qe_var (bz_of (RE := RE) (an := an) B xf).toBs.toBx 1) (qa_cons (qe_var (bz_of (RE := RE) (an := an) B xf).toBs.toBx 2) qa_nil)))))))
      (qss0 (qss_one (qs_ret (qe_if (qt_is (qe_var b 3) qe_non) qe_str (qe_call b h.2.1 (qa_cons (qe_var b 3) qa_nil)))))))), ?_⟩
  rintro ds τ R - ⟨x, y, w', rfl, tx, ty, tw, hs, q⟩
  have xp := h.2.2.2.1.2.1
  intro an
  refine ⟨rfl, x, y, w', rfl, tx, ty, tw, hs, rfl, xp, fun e _ => ?_⟩
  exact ⟨rfl, e, _, _, rfl, .inl ⟨rfl, rfl⟩, q⟩
abbrev s_need_points : Stmt := top 19
theorem sc_need_points : FnScope ["things", "thing"] ["things"] (defScope s_need_points) := ⟨rfl, rfl, rfl, by decide +kernel, rfl, by decide +kernel, by decide +kernel⟩
def G_need_points (cs : Cs) : Gm := fun P w K mg base => FnD P w K mg base "is_point" 3 1 sp_is_point ∧ mg "BadPoint" = some (.ref cs.pnt) ∧ PySem.W.excIn K cs.pnt bmV "ValueError.__new__" = true
theorem ok_need_points {cs : Cs} {P : Program} {w : World} {K : PySem.W.Frag} {mg : Str → Option Value} {base : Heap} {f : Addr} {fd : FuncData} {dV : Value} (hΓ : G_need_points cs P w K mg base) (F : Fu K "need_points" s_need_points f fd dV) (hm : mg "need_points" = some (.ref f)) (hb : ∀ us : List Value, bindArgs fd ⟨us, []⟩ = (do let v ← newTuple us; pure [("things", v)])) : FnSX P w K mg base "need_points" 4 (spx_need_points cs) := by
  refine fn_SX (G_need_points cs) hΓ F sc_need_points hm hb fun X RE an Z h => ?_
  have B := Z.toBs
  have b := B.toBx
  unfold G_need_points at h
  refine ⟨_, (qss_one (qs_forT B 1 (qe_var b 0) (qss_one (qs_if (qt_not (qt_val (qe_call b h.1 (qa_cons (qe_var b 1) qa_nil)))) (qss_one (qs_raise Z h.2.1 h.2.2 (qa_cons qe_str qa_nil))) qss_nil)))), ?_⟩
  rintro ds τ R RE' - ⟨es, rfl, he, k1, k2⟩ hRE
  have key : ∀ (l : List PyData), (∀ d ∈ l, okI d) → ∀ x : Option PyData, ((∀ d ∈ l, isPB d = true) → R .none τ) → ((∃ d ∈ l, isPB d = false) → RE' cs.pnt τ) → dForL 1 (dIfS (dNot (dTst (dCall 1 sp_is_point (dCons (dVar 1) dNil)))) (dRaise cs.pnt RE an (dCons (dC (.str "this is no point")) dNil)) dNext) l (dEndA R τ.anc) [some (.tuple es), x] (rea τ (some an)) := by
    intro l
    induction l with
    | nil => intro _ x k1 _; exact k1 (fun d hd => by cases hd)
    | cons d l ih =>
      intro hl x k1 k2
      refine ⟨rfl, d, rfl, hl d List.mem_cons_self, ?_⟩
      cases hp : isPB d with
      | true => exact ih (fun d' hd' => hl d' (List.mem_cons_of_mem _ hd')) _ (fun z => k1 fun d' hd' => by rcases List.mem_cons.mp hd' with rfl | q; exact hp; exact z d' q) (fun ⟨d', hd', z⟩ => k2 ⟨d', List.mem_cons_of_mem _ hd', z⟩)
      | false => exact ⟨by simp, rfl, hRE _ _ _ (k2 ⟨d, List.mem_cons_self, hp⟩)⟩
  exact key es he none k1 k2
abbrev s_difference : Stmt := top 24
theorem sc_difference : FnScope ["p", "q"] ["p", "q"] (defScope s_difference) := ⟨rfl, rfl, rfl, by decide +kernel, rfl, by decide +kernel, by decide +kernel⟩
def G_difference (cs : Cs) : Gm := fun P w K mg base => FnD P w K mg base "lowest" 3 3 sp_lowest
theorem ok_difference {cs : Cs} {P : Program} {w : World} {K : PySem.W.Frag} {mg : Str → Option Value} {base : Heap} {f : Addr} {fd : FuncData} {dV : Value} (hΓ : G_difference cs P w K mg base) (F : Fu K "difference" s_difference f fd dV) (hm : mg "difference" = some (.ref f)) (hb : Binds K fd ["p", "q"] []) : FnD P w K mg base "difference" 4 2 sp_difference := by
  refine fn_D (G_difference cs) hΓ F sc_difference rfl hm hb fun X B h => ?_
  have b := B.toBx
  unfold G_difference at h
  refine ⟨_, (qss_one (qs_ret (qe_call b h (qa_cons (qe_sub (qe_mul (qe_ixT (qe_var b 0) qe_int) (qe_ixT (qe_var b 1) qe_int)) (qe_mul (qe_ixT (qe_var b 1) qe_int) (qe_ixT (qe_var b 0) qe_int))) (qa_cons (qe_sub (qe_mul (qe_ixT (qe_var b 0) qe_int) (qe_ixT (qe_var b 1) qe_int)) (qe_mul (qe_ixT (qe_var b 1) qe_int) (qe_ixT (qe_var b 0) qe_int))) (qa_cons (qe_mul (qe_ixT (qe_var b 0) qe_int) (qe_ixT (qe_var b 1) qe_int)) qa_nil)))))), ?_⟩
  rintro ds τ R - ⟨p, q, rfl, hp, hq, bp, bq, k⟩
  have c1 : ∀ j, CM p.1 j := cm_of bp.1 (by decide)
  have c2 : ∀ j, CM p.2.1 j := cm_of bp.2.1 (by decide)
  have c3 : ∀ j, CM p.2.2 j := cm_of bp.2.2 (by decide)
  have c4 : ∀ j, CM q.1 j := cm_of bq.1 (by decide)
  have c5 : ∀ j, CM q.2.1 j := cm_of bq.2.1 (by decide)
  exact ⟨c1 _, c4 _, c2 _, c5 _, c3 _, rfl, _, _, _, rfl, Int.mul_ne_zero hp hq, (wb bp bq).1, (wb bp bq).2, k⟩
abbrev s_product : Stmt := top 25
theorem sc_product : FnScope ["p", "q"] ["p", "q"] (defScope s_product) := ⟨rfl, rfl, rfl, by decide +kernel, rfl, by decide +kernel, by decide +kernel⟩
def G_product (cs : Cs) : Gm := fun P w K mg base => FnD P w K mg base "lowest" 3 3 sp_lowest
theorem ok_product {cs : Cs} {P : Program} {w : World} {K : PySem.W.Frag} {mg : Str → Option Value} {base : Heap} {f : Addr} {fd : FuncData} {dV : Value} (hΓ : G_product cs P w K mg base) (F : Fu K "product" s_product f fd dV) (hm : mg "product" = some (.ref f)) (hb : Binds K fd ["p", "q"] []) : FnD P w K mg base "product" 4 2 sp_product := by
  refine fn_D (G_product cs) hΓ F sc_product rfl hm hb fun X B h => ?_
  have b := B.toBx
  unfold G_product at h
  refine ⟨_, (qss_one (qs_ret (qe_call b h (qa_cons (qe_sub (qe_mul (qe_ixT (qe_var b 0) qe_int) (qe_ixT (qe_var b 1) qe_int)) (qe_mul (qe_ixT (qe_var b 0) qe_int) (qe_ixT (qe_var b 1) qe_int))) (qa_cons (qe_add (qe_mul (qe_ixT (qe_var b 0) qe_int) (qe_ixT (qe_var b 1) qe_int)) (qe_mul (qe_ixT (qe_var b 0) qe_int) (qe_ixT (qe_var b 1) qe_int))) (qa_cons (qe_mul (qe_ixT (qe_var b 0) qe_int) (qe_ixT (qe_var b 1) qe_int)) qa_nil)))))), ?_⟩
  rintro ds τ R - ⟨p, q, rfl, hp, hq, bp, bq, k⟩
  have c1 : ∀ j, CM p.1 j := cm_of bp.1 (by decide)
  have c2 : ∀ j, CM p.2.1 j := cm_of bp.2.1 (by decide)
  have c3 : ∀ j, CM p.2.2 j := cm_of bp.2.2 (by decide)
  have c4 : ∀ j, CM q.1 j := cm_of bq.1 (by decide)
  have c5 : ∀ j, CM q.2.1 j := cm_of bq.2.1 (by decide)
  exact ⟨c1 _, c2 _, c1 _, c2 _, c3 _, rfl, _, _, _, rfl, Int.mul_ne_zero hp hq, (wb bp bq).1, (wb bp bq).2, k⟩
abbrev s_is_motion : Stmt := top 33
theorem sc_is_motion : FnScope ["thing", "turn", "shift", "flip"] ["thing"] (defScope s_is_motion) := ⟨rfl, rfl, rfl, by decide +kernel, rfl, by decide +kernel, by decide +kernel⟩
def G_is_motion (cs : Cs) : Gm := fun P w K mg base => FnD P w K mg base "is_at_one" 1 1 sp_is_at_one ∧ FnD P w K mg base "is_point" 3 1 sp_is_point ∧ FnD P w K mg base "is_flip" 2 1 sp_is_flip ∧ mg "isinstance" = none ∧ mg "tuple" = none ∧ mg "len" = none
theorem ok_is_motion {cs : Cs} {P : Program} {w : World} {K : PySem.W.Frag} {mg : Str → Option Value} {base : Heap} {f : Addr} {fd : FuncData} {dV : Value} (hΓ : G_is_motion cs P w K mg base) (F : Fu K "is_motion" s_is_motion f fd dV) (hm : mg "is_motion" = some (.ref f)) (hb : Binds K fd ["thing"] []) : FnD P w K mg base "is_motion" 4 1 spj_is_motion := by
  refine fn_D (G_is_motion cs) hΓ F sc_is_motion rfl hm hb fun X B h => ?_
  have b := B.toBx
  unfold G_is_motion at h
  refine ⟨_, (qss_cons (qs_if (qt_w (qw_or (qt_not (qt_val (qe_isi b .tuple h.2.2.2.1 h.2.2.2.2.1 (qe_var b 0)))) (qw_or1 (qt_ne b (qe_callB b call_len li_len h.2.2.2.2.2 (qa_cons (qe_var b 0) qa_nil)) qe_int)))) (qss_one (qs_ret qe_bl)) qss_nil)
      (qss_cons (qs_unp b (qe_var b 0) (qg_cons B 1 (qg_cons B 2 (qg_cons B 3 qg_nil))))
      (qss_cons (qs_if (qt_w (qw_or (qt_not (qt_val (qe_call b h.2.1 (qa_cons (qe_var b 1) qa_nil)))) (qw_or (qt_not (qt_val (qe_call b h.2.1 (qa_cons (qe_var b 2) qa_nil)))) (qw_or1 (qt_not (qt_val (qe_call b h.2.2.1 (qa_cons (qe_var b 3) qa_nil)))))))) (qss_one (qs_ret qe_bl)) qss_nil)
      (qss_one (qs_ret (qe_call b h.1 (qa_cons (qe_var b 1) qa_nil))))))), ?_⟩
  rintro ds τ R - ⟨d, rfl, hj, k⟩
  have hd := hj.i.1
  cases d with
  | dict _ => exact absurd rfl hd
  | tuple es =>
    refine ⟨rfl, rfl, ?_⟩
    refine iteC (fun hc => ?_) (fun hc => ?_)
    · have hl : es.length ≠ 3 := by
        rw [eqv_int] at hc
        intro e; rw [e] at hc; exact absurd hc (by decide)
      have e : isMB (.tuple es) = false := by
        unfold isMB; split
        · rename_i q; cases q; exact absurd rfl hl
        · rfl
      rw [e] at k; exact k
    · have hl : es.length = 3 := by
        rw [eqv_int] at hc
        have : ((es.length : Int) == 3) = true := by simpa using hc
        have := eq_of_beq this
        omega
      match es, hl, hj, k with
      | [a, b, c], _, hj, k =>
        have oa : okI a := hj.e _ rfl a (by simp)
        have ob : okI b := hj.e _ rfl b (by simp)
        have oc : okI c := hj.e _ rfl c (by simp)
        refine ⟨rfl, ?_⟩
        refine ⟨rfl, a, rfl, oa, ?_⟩
        cases pa : isPB a with
        | false =>
          have e : isMB (.tuple [a, b, c]) = false := by
            unfold isMB; split
            · rename_i q; cases q; rw [pa]; rfl
            · rfl
          rw [e] at k; exact k
        | true =>
          obtain ⟨p, rfl, ip⟩ := isPB_inv pa
          have em : isMB (.tuple [ptD p, b, c]) = (isPB (ptD p) && isPB b && isFB c && (p.1 * p.1 + p.2.1 * p.2.1 == p.2.2 * p.2.2)) := rfl
          rw [em, pa, Bool.true_and] at k
          refine ⟨rfl, b, rfl, ob, ?_⟩
          cases pb : isPB b with
          | false => rw [pb] at k; exact k
          | true =>
            rw [pb, Bool.true_and] at k
            refine ⟨rfl, c, rfl, oc.1, ?_⟩
            cases pc : isFB c with
            | false => rw [pc] at k; exact k
            | true =>
              rw [pc, Bool.true_and] at k
              exact ⟨rfl, p, rfl, hj.b p _ rfl, k⟩
  | _ => exact k
abbrev s__law_motion : Stmt := top 70
theorem sc__law_motion : FnScope ["_law_town_here"] ["_law_town_here"] (defScope s__law_motion) := ⟨rfl, rfl, rfl, by decide +kernel, rfl, by decide +kernel, by decide +kernel⟩
def G__law_motion (cs : Cs) : Gm := fun P w K mg base => FnD P w K mg base "_law_turn" 3 1 sp__law_turn ∧ FnD P w K mg base "_law_point" 3 2 spw__law_point ∧ FnD P w K mg base "_law_draw" 1 2 sp__law_draw
theorem ok__law_motion {cs : Cs} {P : Program} {w : World} {K : PySem.W.Frag} {mg : Str → Option Value} {base : Heap} {f : Addr} {fd : FuncData} {dV : Value} (hΓ : G__law_motion cs P w K mg base) (F : Fu K "_law_motion" s__law_motion f fd dV) (hm : mg "_law_motion" = some (.ref f)) (hb : Binds K fd ["_law_town_here"] []) : FnD P w K mg base "_law_motion" 4 1 spw__law_motion := by
  refine fn_D (G__law_motion cs) hΓ F sc__law_motion rfl hm hb fun X B h => ?_
  have b := B.toBx
  unfold G__law_motion at h
  refine ⟨_, (qss_one (qs_ret (qe_tup (qa_cons (qe_call b h.1 (qa_cons (qe_var b 0) qa_nil)) (qa_cons (qe_call b h.2.1 (qa_cons (qe_var b 0) (qa_cons qe_int qa_nil))) (qa_cons (qe_call b h.2.2 (qa_cons (qe_var b 0) (qa_cons qe_int qa_nil))) qa_nil)))))), ?_⟩
  rintro ds τ R - ⟨t, r, rfl, hT, k⟩
  refine ⟨rfl, t, r, rfl, hT, fun p τ1 hp ha hb1 hT1 hK1 => ?_⟩
  refine ⟨rfl, t, r, 4, rfl, hT1, by decide, by decide, fun q τ2 hq hb2 hT2 hK2 => ?_⟩
  refine ⟨rfl, t, r, 2, rfl, hT2, by decide, by decide, fun f τ3 f0 f1 hT3 hK3 => ?_⟩
  exact ⟨by simp, k (p, q, f) τ3 ⟨hp, hq, by show f = 0 ∨ f = 1; omega, ha⟩ hb1 hb2 hT3 (hK1.trans (hK2.trans hK3))⟩
abbrev s_is_ahead : Stmt := top 17
theorem sc_is_ahead : FnScope ["p", "q"] ["p", "q"] (defScope s_is_ahead) := ⟨rfl, rfl, rfl, by decide +kernel, rfl, by decide +kernel, by decide +kernel⟩
def G_is_ahead (cs : Cs) : Gm := fun P w K mg base => FnSX P w K mg base "need_points" 4 (spx_need_points cs)
theorem ok_is_ahead {cs : Cs} {P : Program} {w : World} {K : PySem.W.Frag} {mg : Str → Option Value} {base : Heap} {f : Addr} {fd : FuncData} {dV : Value} (hΓ : G_is_ahead cs P w K mg base) (F : Fu K "is_ahead" s_is_ahead f fd dV) (hm : mg "is_ahead" = some (.ref f)) (hb : Binds K fd ["p", "q"] []) : FnX P w K mg base "is_ahead" 5 2 (spx_is_ahead cs) := by
  refine fn_X (G_is_ahead cs) hΓ F sc_is_ahead rfl hm hb fun X RE an Z h => ?_
  have B := Z.toBs
  have b := B.toBx
  unfold G_is_ahead at h
  refine ⟨_, (qss_cons (qs_expr (qe_callSX Z h (qa_cons (qe_var b 0) (qa_cons (qe_var b 1) qa_nil))))
      (qss_cons (qs_if (qt_ne b (qe_mul (qe_ixT (qe_var b 0) qe_int) (qe_ixT (qe_var b 1) qe_int)) (qe_mul (qe_ixT (qe_var b 1) qe_int) (qe_ixT (qe_var b 0) qe_int))) (qss_one (qs_ret (qe_lt (qe_mul (qe_ixT (qe_var b 0) qe_int) (qe_ixT (qe_var b 1) qe_int)) (qe_mul (qe_ixT (qe_var b 1) qe_int) (qe_ixT (qe_var b 0) qe_int))))) qss_nil)
      (qss_one (qs_ret (qe_lt (qe_mul (qe_ixT (qe_var b 0) qe_int) (qe_ixT (qe_var b 1) qe_int)) (qe_mul (qe_ixT (qe_var b 1) qe_int) (qe_ixT (qe_var b 0) qe_int))))))), ?_⟩
  rintro ds τ R RE' - hs hRE
  rcases hs with ⟨a, b', rfl, oa, ob, hb', k⟩ | ⟨p, q, rfl, hp, hq, bp, bq, k⟩
  · refine ⟨by simp, _, rfl, fun x hx => ?_, fun z => ?_, fun _ => ⟨rfl, hRE _ _ _ k⟩⟩
    · simp only [List.mem_cons, List.not_mem_nil, or_false] at hx
      rcases hx with rfl | rfl <;> assumption
    · rw [z a (by simp), z b' (by simp)] at hb'
      cases hb'
  refine ⟨by simp, _, rfl, fun x hx => ?_, fun _ => ?_, fun ⟨x, hx, z⟩ => ?_⟩
  · simp only [List.mem_cons, List.not_mem_nil, or_false] at hx
    rcases hx with rfl | rfl <;> exact okI_pt _
  rotate_left
  · exfalso
    simp only [List.mem_cons, List.not_mem_nil, or_false] at hx
    rcases hx with rfl | rfl
    · rw [isPB_pt hp] at z; cases z
    · rw [isPB_pt hq] at z; cases z
  refine ⟨cm_of bp.1 (by decide) _, cm_of bq.1 (by decide) _, rfl, rfl, ?_⟩
  rw [eqv_int]
  refine iteC (fun hc => ?_) (fun hc => ?_)
  · refine ⟨cm_of bp.1 (by decide) _, cm_of bq.1 (by decide) _, ?_⟩
    have hc : (p.1 * q.2.2 == q.1 * p.2.2) = false := by simpa using hc
    rw [hc, Bool.false_and, Bool.or_false] at k
    exact k
  · refine ⟨cm_of bp.2.1 (by decide) _, cm_of bq.2.1 (by decide) _, ?_⟩
    have hc : (p.1 * q.2.2 == q.1 * p.2.2) = true := by simpa using hc
    have h0 : decide (p.1 * q.2.2 < q.1 * p.2.2) = false := by
      have := eq_of_beq hc
      rw [this]; simp
    rw [hc, Bool.true_and, h0, Bool.false_or] at k
    exact k
abbrev s_square_gap : Stmt := top 18
theorem sc_square_gap : FnScope ["p", "q"] ["p", "q"] (defScope s_square_gap) := ⟨rfl, rfl, rfl, by decide +kernel, rfl, by decide +kernel, by decide +kernel⟩
def G_square_gap (cs : Cs) : Gm := fun P w K mg base => FnSX P w K mg base "need_points" 4 (spx_need_points cs)
theorem ok_square_gap {cs : Cs} {P : Program} {w : World} {K : PySem.W.Frag} {mg : Str → Option Value} {base : Heap} {f : Addr} {fd : FuncData} {dV : Value} (hΓ : G_square_gap cs P w K mg base) (F : Fu K "square_gap" s_square_gap f fd dV) (hm : mg "square_gap" = some (.ref f)) (hb : Binds K fd ["p", "q"] []) : FnX P w K mg base "square_gap" 5 2 (spx_square_gap cs) := by
  refine fn_X (G_square_gap cs) hΓ F sc_square_gap rfl hm hb fun X RE an Z h => ?_
  have B := Z.toBs
  have b := B.toBx
  unfold G_square_gap at h
  refine ⟨_, (qss_cons (qs_expr (qe_callSX Z h (qa_cons (qe_var b 0) (qa_cons (qe_var b 1) qa_nil))))
      qss_never), ?_⟩
  rintro ds τ R RE' - ⟨a, b', rfl, oa, ob, hb', k⟩ hRE
  refine ⟨by simp, _, rfl, fun x hx => ?_, fun z => ?_, fun _ => ⟨rfl, hRE _ _ _ k⟩⟩
  · simp only [List.mem_cons, List.not_mem_nil, or_false] at hx
    rcases hx with rfl | rfl <;> assumption
  · rw [z a (by simp), z b' (by simp)] at hb'
    cases hb'
abbrev s_shifting : Stmt := top 41
theorem sc_shifting : FnScope ["p", "q"] ["p", "q"] (defScope s_shifting) := ⟨rfl, rfl, rfl, by decide +kernel, rfl, by decide +kernel, by decide +kernel⟩
def G_shifting (cs : Cs) : Gm := fun P w K mg base => FnSX P w K mg base "need_points" 4 (spx_need_points cs)
theorem ok_shifting {cs : Cs} {P : Program} {w : World} {K : PySem.W.Frag} {mg : Str → Option Value} {base : Heap} {f : Addr} {fd : FuncData} {dV : Value} (hΓ : G_shifting cs P w K mg base) (F : Fu K "shifting" s_shifting f fd dV) (hm : mg "shifting" = some (.ref f)) (hb : Binds K fd ["p", "q"] []) : FnX P w K mg base "shifting" 5 2 (spx_shifting cs) := by
  refine fn_X (G_shifting cs) hΓ F sc_shifting rfl hm hb fun X RE an Z h => ?_
  have B := Z.toBs
  have b := B.toBx
  unfold G_shifting at h
  refine ⟨_, (qss_cons (qs_expr (qe_callSX Z h (qa_cons (qe_var b 0) (qa_cons (qe_var b 1) qa_nil))))
      qss_never), ?_⟩
  rintro ds τ R RE' - ⟨a, b', rfl, oa, ob, hb', k⟩ hRE
  refine ⟨by simp, _, rfl, fun x hx => ?_, fun z => ?_, fun _ => ⟨rfl, hRE _ _ _ k⟩⟩
  · simp only [List.mem_cons, List.not_mem_nil, or_false] at hx
    rcases hx with rfl | rfl <;> assumption
  · rw [z a (by simp), z b' (by simp)] at hb'
    cases hb'
abbrev s_need_motions : Stmt := top 43
theorem sc_need_motions : FnScope ["things", "thing"] ["things"] (defScope s_need_motions) := ⟨rfl, rfl, rfl, by decide +kernel, rfl, by decide +kernel, by decide +kernel⟩
def G_need_motions (cs : Cs) : Gm := fun P w K mg base => FnD P w K mg base "is_motion" 4 1 spj_is_motion ∧ mg "BadMotion" = some (.ref cs.mot) ∧ PySem.W.excIn K cs.mot bmV "ValueError.__new__" = true
theorem ok_need_motions {cs : Cs} {P : Program} {w : World} {K : PySem.W.Frag} {mg : Str → Option Value} {base : Heap} {f : Addr} {fd : FuncData} {dV : Value} (hΓ : G_need_motions cs P w K mg base) (F : Fu K "need_motions" s_need_motions f fd dV) (hm : mg "need_motions" = some (.ref f)) (hb : ∀ us : List Value, bindArgs fd ⟨us, []⟩ = (do let v ← newTuple us; pure [("things", v)])) : FnSX P w K mg base "need_motions" 5 (spx_need_motions cs) := by
  refine fn_SX (G_need_motions cs) hΓ F sc_need_motions hm hb fun X RE an Z h => ?_
  have B := Z.toBs
  have b := B.toBx
  unfold G_need_motions at h
  refine ⟨_, (qss_one (qs_forT B 1 (qe_var b 0) (qss_one (qs_if (qt_not (qt_val (qe_call b h.1 (qa_cons (qe_var b 1) qa_nil)))) (qss_one (qs_raise Z h.2.1 h.2.2 (qa_cons qe_str qa_nil))) qss_nil)))), ?_⟩
  rintro ds τ R RE' - ⟨es, rfl, he, k1, k2⟩ hRE
  have key : ∀ (l : List PyData), (∀ d ∈ l, okJ d) → ∀ x : Option PyData, ((∀ d ∈ l, isMB d = true) → R .none τ) → ((∃ d ∈ l, isMB d = false) → RE' cs.mot τ) → dForL 1 (dIfS (dNot (dTst (dCall 1 spj_is_motion (dCons (dVar 1) dNil)))) (dRaise cs.mot RE an (dCons (dC (.str "this is no motion")) dNil)) dNext) l (dEndA R τ.anc) [some (.tuple es), x] (rea τ (some an)) := by
    intro l
    induction l with
    | nil => intro _ x k1 _; exact k1 (fun d hd => by cases hd)
    | cons d l ih =>
      intro hl x k1 k2
      refine ⟨rfl, d, rfl, hl d List.mem_cons_self, ?_⟩
      cases hp : isMB d with
      | true => exact ih (fun d' hd' => hl d' (List.mem_cons_of_mem _ hd')) _ (fun z => k1 fun d' hd' => by rcases List.mem_cons.mp hd' with rfl | q; exact hp; exact z d' q) (fun ⟨d', hd', z⟩ => k2 ⟨d', List.mem_cons_of_mem _ hd', z⟩)
      | false => exact ⟨by simp, rfl, hRE _ _ _ (k2 ⟨d, List.mem_cons_self, hp⟩)⟩
  exact key es he none k1 k2
abbrev s_bringing : Stmt := top 49
theorem sc_bringing : FnScope ["turn", "flip", "p", "q"] ["turn", "flip", "p", "q"] (defScope s_bringing) := ⟨rfl, rfl, rfl, by decide +kernel, rfl, by decide +kernel, by decide +kernel⟩
def G_bringing (cs : Cs) : Gm := fun P w K mg base => FnD P w K mg base "difference" 4 2 sp_difference ∧ FnD P w K mg base "product" 4 2 sp_product ∧ FnD P w K mg base "faced" 2 2 sp_faced
theorem ok_bringing {cs : Cs} {P : Program} {w : World} {K : PySem.W.Frag} {mg : Str → Option Value} {base : Heap} {f : Addr} {fd : FuncData} {dV : Value} (hΓ : G_bringing cs P w K mg base) (F : Fu K "bringing" s_bringing f fd dV) (hm : mg "bringing" = some (.ref f)) (hb : Binds K fd ["turn", "flip", "p", "q"] []) : FnD P w K mg base "bringing" 5 4 sp_bringing := by
  refine fn_D (G_bringing cs) hΓ F sc_bringing rfl hm hb fun X B h => ?_
  have b := B.toBx
  unfold G_bringing at h
  refine ⟨_, (qss_one (qs_ret (qe_tup (qa_cons (qe_var b 0) (qa_cons (qe_call b h.1 (qa_cons (qe_var b 3) (qa_cons (qe_call b h.2.1 (qa_cons (qe_var b 0) (qa_cons (qe_call b h.2.2 (qa_cons (qe_var b 2) (qa_cons (qe_var b 1) qa_nil))) qa_nil))) qa_nil))) (qa_cons (qe_var b 1) qa_nil)))))), ?_⟩
  rintro ds τ R - ⟨t, f, p, q, rfl, ht, hp, hq, bt, bp, bq, bb, k⟩
  exact ⟨rfl, p, f, rfl, rfl, t, fcd p f, rfl, ht, fcd_n hp _, bt, fcd_bd bp _, rfl, q, prd t (fcd p f), rfl, hq, ww (prd_isP ht (fcd_n hp _)), bq, bb, by simp, k⟩
abbrev s_led : Stmt := top 34
theorem sc_led : FnScope ["motion", "p"] ["motion", "p"] (defScope s_led) := ⟨rfl, rfl, rfl, by decide +kernel, rfl, by decide +kernel, by decide +kernel⟩
def G_led (cs : Cs) : Gm := fun P w K mg base => FnSX P w K mg base "need_motions" 5 (spx_need_motions cs) ∧ FnSX P w K mg base "need_points" 4 (spx_need_points cs)
theorem ok_led {cs : Cs} {P : Program} {w : World} {K : PySem.W.Frag} {mg : Str → Option Value} {base : Heap} {f : Addr} {fd : FuncData} {dV : Value} (hΓ : G_led cs P w K mg base) (F : Fu K "led" s_led f fd dV) (hm : mg "led" = some (.ref f)) (hb : Binds K fd ["motion", "p"] []) : FnX P w K mg base "led" 6 2 (spx_led cs) := by
  refine fn_X (G_led cs) hΓ F sc_led rfl hm hb fun X RE an Z h => ?_
  have B := Z.toBs
  have b := B.toBx
  unfold G_led at h
  refine ⟨_, (qss_cons (qs_expr (qe_callSX Z h.1 (qa_cons (qe_var b 0) qa_nil)))
      (qss_cons (qs_expr (qe_callSX Z h.2 (qa_cons (qe_var b 1) qa_nil)))
      qss_never)), ?_⟩
  rintro ds τ R RE' - ⟨a, b', rfl, ja, hs⟩ hRE
  rcases hs with ⟨hb', k⟩ | ⟨ha, ob, hb', k⟩
  · refine ⟨by simp, _, rfl, fun x hx => ?_, fun z => ?_, fun _ => ⟨rfl, hRE _ _ _ k⟩⟩
    · rw [List.mem_singleton.mp hx]; exact ja
    · have := z a (by simp)
      rw [hb'] at this; cases this
  · refine ⟨by simp, _, rfl, fun x hx => ?_, fun z => ?_, fun ⟨x, hx, z⟩ => ?_⟩
    · rw [List.mem_singleton.mp hx]; exact ja
    · refine ⟨by simp, _, rfl, fun x hx => ?_, fun z => ?_, fun _ => ⟨rfl, hRE _ _ _ k⟩⟩
      · rw [List.mem_singleton.mp hx]; exact ob
      · have := z b' (by simp)
        rw [hb'] at this; cases this
    · rw [List.mem_singleton.mp hx, ha] at z; cases z
abbrev s_then : Stmt := top 35
theorem sc_then : FnScope ["one", "other"] ["one", "other"] (defScope s_then) := ⟨rfl, rfl, rfl, by decide +kernel, rfl, by decide +kernel, by decide +kernel⟩
def G_then (cs : Cs) : Gm := fun P w K mg base => FnSX P w K mg base "need_motions" 5 (spx_need_motions cs)
theorem ok_then {cs : Cs} {P : Program} {w : World} {K : PySem.W.Frag} {mg : Str → Option Value} {base : Heap} {f : Addr} {fd : FuncData} {dV : Value} (hΓ : G_then cs P w K mg base) (F : Fu K "then" s_then f fd dV) (hm : mg "then" = some (.ref f)) (hb : Binds K fd ["one", "other"] []) : FnX P w K mg base "then" 6 2 (spx_then cs) := by
  refine fn_X (G_then cs) hΓ F sc_then rfl hm hb fun X RE an Z h => ?_
  have B := Z.toBs
  have b := B.toBx
  unfold G_then at h
  refine ⟨_, (qss_cons (qs_expr (qe_callSX Z h (qa_cons (qe_var b 0) (qa_cons (qe_var b 1) qa_nil))))
      qss_never), ?_⟩
  rintro ds τ R RE' - ⟨a, b', rfl, ja, jb, hb', k⟩ hRE
  refine ⟨by simp, _, rfl, fun x hx => ?_, fun z => ?_, fun _ => ⟨rfl, hRE _ _ _ k⟩⟩
  · simp only [List.mem_cons, List.not_mem_nil, or_false] at hx
    rcases hx with rfl | rfl <;> assumption
  · rw [z a (by simp), z b' (by simp)] at hb'
    cases hb'
abbrev s_back : Stmt := top 36
theorem sc_back : FnScope ["motion", "back_turn", "away", "turn", "shift", "flip"] ["motion"] (defScope s_back) := ⟨rfl, rfl, rfl, by decide +kernel, rfl, by decide +kernel, by decide +kernel⟩
def G_back (cs : Cs) : Gm := fun P w K mg base => FnSX P w K mg base "need_motions" 5 (spx_need_motions cs)
theorem ok_back {cs : Cs} {P : Program} {w : World} {K : PySem.W.Frag} {mg : Str → Option Value} {base : Heap} {f : Addr} {fd : FuncData} {dV : Value} (hΓ : G_back cs P w K mg base) (F : Fu K "back" s_back f fd dV) (hm : mg "back" = some (.ref f)) (hb : Binds K fd ["motion"] []) : FnX P w K mg base "back" 6 1 (spx_back cs) := by
  refine fn_X (G_back cs) hΓ F sc_back rfl hm hb fun X RE an Z h => ?_
  have B := Z.toBs
  have b := B.toBx
  unfold G_back at h
  refine ⟨_, (qss_cons (qs_expr (qe_callSX Z h (qa_cons (qe_var b 0) qa_nil)))
      qss_never), ?_⟩
  rintro ds τ R RE' - ⟨d, rfl, hj, hb', k⟩ hRE
  refine ⟨by simp, _, rfl, fun x hx => ?_, fun z => ?_, fun _ => ⟨rfl, hRE _ _ _ k⟩⟩
  · rw [List.mem_singleton.mp hx]; exact hj
  · have := z d (by simp)
    rw [hb'] at this; cases this
abbrev s_kind_of : Stmt := top 37
theorem sc_kind_of : FnScope ["motion", "turn", "shift", "flip"] ["motion"] (defScope s_kind_of) := ⟨rfl, rfl, rfl, by decide +kernel, rfl, by decide +kernel, by decide +kernel⟩
def G_kind_of (cs : Cs) : Gm := fun P w K mg base => FnSX P w K mg base "need_motions" 5 (spx_need_motions cs)
theorem ok_kind_of {cs : Cs} {P : Program} {w : World} {K : PySem.W.Frag} {mg : Str → Option Value} {base : Heap} {f : Addr} {fd : FuncData} {dV : Value} (hΓ : G_kind_of cs P w K mg base) (F : Fu K "kind_of" s_kind_of f fd dV) (hm : mg "kind_of" = some (.ref f)) (hb : Binds K fd ["motion"] []) : FnX P w K mg base "kind_of" 6 1 (spx_kind_of cs) := by
  refine fn_X (G_kind_of cs) hΓ F sc_kind_of rfl hm hb fun X RE an Z h => ?_
  have B := Z.toBs
  have b := B.toBx
  unfold G_kind_of at h
  refine ⟨_, (qss_cons (qs_expr (qe_callSX Z h (qa_cons (qe_var b 0) qa_nil)))
      qss_never), ?_⟩
  rintro ds τ R RE' - ⟨d, rfl, hj, hb', k⟩ hRE
  refine ⟨by simp, _, rfl, fun x hx => ?_, fun z => ?_, fun _ => ⟨rfl, hRE _ _ _ k⟩⟩
  · rw [List.mem_singleton.mp hx]; exact hj
  · have := z d (by simp)
    rw [hb'] at this; cases this
abbrev s_axis : Stmt := top 40
theorem sc_axis : FnScope ["motion", "turn", "shift", "flip", "along", "up", "a", "b"] ["motion"] (defScope s_axis) := ⟨rfl, rfl, rfl, by decide +kernel, rfl, by decide +kernel, by decide +kernel⟩
def G_axis (cs : Cs) : Gm := fun P w K mg base => FnSX P w K mg base "need_motions" 5 (spx_need_motions cs)
theorem ok_axis {cs : Cs} {P : Program} {w : World} {K : PySem.W.Frag} {mg : Str → Option Value} {base : Heap} {f : Addr} {fd : FuncData} {dV : Value} (hΓ : G_axis cs P w K mg base) (F : Fu K "axis" s_axis f fd dV) (hm : mg "axis" = some (.ref f)) (hb : Binds K fd ["motion"] []) : FnX P w K mg base "axis" 6 1 (spx_axis cs) := by
  refine fn_X (G_axis cs) hΓ F sc_axis rfl hm hb fun X RE an Z h => ?_
  have B := Z.toBs
  have b := B.toBx
  unfold G_axis at h
  refine ⟨_, (qss_cons (qs_expr (qe_callSX Z h (qa_cons (qe_var b 0) qa_nil)))
      qss_never), ?_⟩
  rintro ds τ R RE' - ⟨d, rfl, hj, hb', k⟩ hRE
  refine ⟨by simp, _, rfl, fun x hx => ?_, fun z => ?_, fun _ => ⟨rfl, hRE _ _ _ k⟩⟩
  · rw [List.mem_singleton.mp hx]; exact hj
  · have := z d (by simp)
    rw [hb'] at this; cases this
abbrev s_turning : Stmt := top 42
theorem sc_turning : FnScope ["center_point", "turn"] ["center_point", "turn"] (defScope s_turning) := ⟨rfl, rfl, rfl, by decide +kernel, rfl, by decide +kernel, by decide +kernel⟩
def G_turning (cs : Cs) : Gm := fun P w K mg base => FnSX P w K mg base "need_points" 4 (spx_need_points cs) ∧ FnD P w K mg base "bringing" 5 4 sp_bringing ∧ FnD P w K mg base "is_at_one" 1 1 sp_is_at_one ∧ mg "BadMotion" = some (.ref cs.mot) ∧ PySem.W.excIn K cs.mot bmV "ValueError.__new__" = true
theorem ok_turning {cs : Cs} {P : Program} {w : World} {K : PySem.W.Frag} {mg : Str → Option Value} {base : Heap} {f : Addr} {fd : FuncData} {dV : Value} (hΓ : G_turning cs P w K mg base) (F : Fu K "turning" s_turning f fd dV) (hm : mg "turning" = some (.ref f)) (hb : Binds K fd ["center_point", "turn"] []) : FnX P w K mg base "turning" 6 2 (spx_turning cs) := by
  refine fn_X (G_turning cs) hΓ F sc_turning rfl hm hb fun X RE an Z h => ?_
  have B := Z.toBs
  have b := B.toBx
  unfold G_turning at h
  refine ⟨_, (qss_cons (qs_expr (qe_callSX Z h.1 (qa_cons (qe_var b 0) (qa_cons (qe_var b 1) qa_nil))))
      (qss_cons (qs_if (qt_not (qt_val (qe_call b h.2.2.1 (qa_cons (qe_var b 1) qa_nil)))) (qss_one (qs_raise Z h.2.2.2.1 h.2.2.2.2 (qa_cons qe_str qa_nil))) qss_nil)
      (qss_one (qs_ret (qe_call b h.2.1 (qa_cons (qe_var b 1) (qa_cons qe_int (qa_cons (qe_var b 0) (qa_cons (qe_var b 0) qa_nil))))))))), ?_⟩
  rintro ds τ R RE' - hs hRE
  rcases hs with ⟨a, b', rfl, oa, ob, hb', k⟩ | ⟨c, t, rfl, hc, ht, bt, hs⟩
  · refine ⟨by simp, _, rfl, fun x hx => ?_, fun z => ?_, fun _ => ⟨rfl, hRE _ _ _ k⟩⟩
    · simp only [List.mem_cons, List.not_mem_nil, or_false] at hx
      rcases hx with rfl | rfl <;> assumption
    · rw [z a (by simp), z b' (by simp)] at hb'
      cases hb'
  refine ⟨by simp, _, rfl, fun x hx => ?_, fun _ => ?_, fun ⟨x, hx, z⟩ => ?_⟩
  · simp only [List.mem_cons, List.not_mem_nil, or_false] at hx
    rcases hx with rfl | rfl <;> exact okI_pt _
  rotate_left
  · exfalso
    simp only [List.mem_cons, List.not_mem_nil, or_false] at hx
    rcases hx with rfl | rfl
    · rw [isPB_pt hc] at z; cases z
    · rw [isPB_pt ht] at z; cases z
  refine ⟨rfl, t, rfl, bt, ?_⟩
  rcases hs with ⟨na, k⟩ | ⟨at', bc, bb, k⟩
  · have e : (t.1 * t.1 + t.2.1 * t.2.1 == t.2.2 * t.2.2) = false := by
      cases z : (t.1 * t.1 + t.2.1 * t.2.1 == t.2.2 * t.2.2) with
      | false => rfl
      | true => exact absurd (eq_of_beq z) na
    rw [e]
    exact ⟨by simp, rfl, hRE _ _ _ k⟩
  · have e : (t.1 * t.1 + t.2.1 * t.2.1 == t.2.2 * t.2.2) = true := by unfold at1 at at'; simp [at']
    rw [e]
    exact ⟨rfl, t, 0, c, c, rfl, ww ht, ww hc, ww hc, bt, bc, bc, by rw [fcd0]; exact bb, k⟩
abbrev s_motion_text : Stmt := top 55
theorem sc_motion_text : FnScope ["motion"] ["motion"] (defScope s_motion_text) := ⟨rfl, rfl, rfl, by decide +kernel, rfl, by decide +kernel, by decide +kernel⟩
def G_motion_text (cs : Cs) : Gm := fun P w K mg base => FnSX P w K mg base "need_motions" 5 (spx_need_motions cs)
theorem ok_motion_text {cs : Cs} {P : Program} {w : World} {K : PySem.W.Frag} {mg : Str → Option Value} {base : Heap} {f : Addr} {fd : FuncData} {dV : Value} (hΓ : G_motion_text cs P w K mg base) (F : Fu K "motion_text" s_motion_text f fd dV) (hm : mg "motion_text" = some (.ref f)) (hb : Binds K fd ["motion"] []) : FnX P w K mg base "motion_text" 6 1 (spx_motion_text cs) := by
  refine fn_X (G_motion_text cs) hΓ F sc_motion_text rfl hm hb fun X RE an Z h => ?_
  have B := Z.toBs
  have b := B.toBx
  unfold G_motion_text at h
  refine ⟨_, (qss_cons (qs_expr (qe_callSX Z h (qa_cons (qe_var b 0) qa_nil)))
      qss_never), ?_⟩
  rintro ds τ R RE' - ⟨d, rfl, hj, hb', k⟩ hRE
  refine ⟨by simp, _, rfl, fun x hx => ?_, fun z => ?_, fun _ => ⟨rfl, hRE _ _ _ k⟩⟩
  · rw [List.mem_singleton.mp hx]; exact hj
  · have := z d (by simp)
    rw [hb'] at this; cases this
abbrev s_order_of : Stmt := top 38
theorem sc_order_of : FnScope ["motion", "kind"] ["motion"] (defScope s_order_of) := ⟨rfl, rfl, rfl, by decide +kernel, rfl, by decide +kernel, by decide +kernel⟩
def G_order_of (cs : Cs) : Gm := fun P w K mg base => FnX P w K mg base "kind_of" 6 1 (spx_kind_of cs)
theorem ok_order_of {cs : Cs} {P : Program} {w : World} {K : PySem.W.Frag} {mg : Str → Option Value} {base : Heap} {f : Addr} {fd : FuncData} {dV : Value} (hΓ : G_order_of cs P w K mg base) (F : Fu K "order_of" s_order_of f fd dV) (hm : mg "order_of" = some (.ref f)) (hb : Binds K fd ["motion"] []) : FnX P w K mg base "order_of" 7 1 (spx_order_of cs) := by
  refine fn_X (G_order_of cs) hΓ F sc_order_of rfl hm hb fun X RE an Z h => ?_
  have B := Z.toBs
  have b := B.toBx
  unfold G_order_of at h
  refine ⟨_, (qss_cons (qs_set B 1 (qe_callX Z h (qa_cons (qe_var b 0) qa_nil)))
      qss_never), ?_⟩
  rintro ds τ R RE' - ⟨d, rfl, hj, hb', k⟩ hRE
  exact ⟨rfl, d, rfl, hj, hb', rfl, hRE _ _ _ k⟩
abbrev s_center : Stmt := top 39
theorem sc_center : FnScope ["motion", "turn", "shift"] ["motion"] (defScope s_center) := ⟨rfl, rfl, rfl, by decide +kernel, rfl, by decide +kernel, by decide +kernel⟩
def G_center (cs : Cs) : Gm := fun P w K mg base => FnX P w K mg base "kind_of" 6 1 (spx_kind_of cs)
theorem ok_center {cs : Cs} {P : Program} {w : World} {K : PySem.W.Frag} {mg : Str → Option Value} {base : Heap} {f : Addr} {fd : FuncData} {dV : Value} (hΓ : G_center cs P w K mg base) (F : Fu K "center" s_center f fd dV) (hm : mg "center" = some (.ref f)) (hb : Binds K fd ["motion"] []) : FnX P w K mg base "center" 7 1 (spx_center cs) := by
  refine fn_X (G_center cs) hΓ F sc_center rfl hm hb fun X RE an Z h => ?_
  have B := Z.toBs
  have b := B.toBx
  unfold G_center at h
  refine ⟨_, (qss_cons (qs_if (qt_ne b (qe_callX Z h (qa_cons (qe_var b 0) qa_nil)) qe_str) qss_never qss_nil)
      qss_never), ?_⟩
  rintro ds τ R RE' - ⟨d, rfl, hj, hb', k⟩ hRE
  exact ⟨rfl, d, rfl, hj, hb', rfl, hRE _ _ _ k⟩
abbrev s__law_points : Stmt := top 72
theorem sc__law_points : FnScope ["_law_sort_of", "_law_one", "_law_two"] ["_law_sort_of", "_law_one", "_law_two"] (defScope s__law_points) := ⟨rfl, rfl, rfl, by decide +kernel, rfl, by decide +kernel, by decide +kernel⟩
def G__law_points (cs : Cs) : Gm := fun P w K mg base => FnX P w K mg base "is_ahead" 5 2 (spx_is_ahead cs) ∧ FnX P w K mg base "square_gap" 5 2 (spx_square_gap cs) ∧ FnX P w K mg base "shifting" 5 2 (spx_shifting cs) ∧ FnX P w K mg base "turning" 6 2 (spx_turning cs)
theorem ok__law_points {cs : Cs} {P : Program} {w : World} {K : PySem.W.Frag} {mg : Str → Option Value} {base : Heap} {f : Addr} {fd : FuncData} {dV : Value} (hΓ : G__law_points cs P w K mg base) (F : Fu K "_law_points" s__law_points f fd dV) (hm : mg "_law_points" = some (.ref f)) (hb : Binds K fd ["_law_sort_of", "_law_one", "_law_two"] []) : FnX P w K mg base "_law_points" 7 3 (spx__law_points cs) := by
  refine fn_X (G__law_points cs) hΓ F sc__law_points rfl hm hb fun X RE an Z h => ?_
  have B := Z.toBs
  have b := B.toBx
  unfold G__law_points at h
  refine ⟨_, (qss_cons (qs_if (qt_eq b (qe_var b 0) qe_int) (qss_one (qs_ret (qe_callX Z h.1 (qa_cons (qe_var b 1) (qa_cons (qe_var b 2) qa_nil))))) qss_nil)
      (qss_cons (qs_if (qt_eq b (qe_var b 0) qe_int) (qss_one (qs_ret (qe_callX Z h.2.1 (qa_cons (qe_var b 1) (qa_cons (qe_var b 2) qa_nil))))) qss_nil)
      (qss_one (qs_ret (qe_if (qt_eq b (qe_var b 0) qe_int) (qe_callX Z h.2.2.1 (qa_cons (qe_var b 1) (qa_cons (qe_var b 2) qa_nil))) (qe_callX Z h.2.2.2 (qa_cons (qe_var b 1) (qa_cons (qe_var b 2) qa_nil)))))))), ?_⟩
  rintro ds τ R RE' - ⟨k', a, b', rfl, hs⟩ hRE
  rcases hs with ⟨k0, k3, oa, ob, hb', k⟩ | ⟨rfl, c, t, rfl, rfl, hc, ht, bt, hs⟩
  · have : k' = 0 ∨ k' = 1 ∨ k' = 2 ∨ k' = 3 := by omega
    rcases this with rfl | rfl | rfl | rfl
    · exact ⟨rfl, rfl, rfl, .inl ⟨a, b', rfl, oa, ob, hb', rfl, hRE _ _ _ k⟩⟩
    · exact ⟨rfl, rfl, rfl, rfl, rfl, a, b', rfl, oa, ob, hb', rfl, hRE _ _ _ k⟩
    · exact ⟨rfl, rfl, rfl, rfl, rfl, rfl, rfl, a, b', rfl, oa, ob, hb', rfl, hRE _ _ _ k⟩
    · exact ⟨rfl, rfl, rfl, rfl, rfl, rfl, rfl, .inl ⟨a, b', rfl, oa, ob, hb', rfl, hRE _ _ _ k⟩⟩
  · refine ⟨rfl, rfl, rfl, rfl, rfl, rfl, rfl, .inr ⟨c, t, rfl, hc, ht, bt, ?_⟩⟩
    rcases hs with ⟨na, k⟩ | ⟨at', bc, bb, k⟩
    · exact .inl ⟨na, rfl, hRE _ _ _ k⟩
    · exact .inr ⟨at', bc, bb, k⟩
abbrev s__law_does : Stmt := top 71
theorem sc__law_does : FnScope ["_law_sort_of", "_law_one", "_law_two"] ["_law_sort_of", "_law_one", "_law_two"] (defScope s__law_does) := ⟨rfl, rfl, rfl, by decide +kernel, rfl, by decide +kernel, by decide +kernel⟩
def G__law_does (cs : Cs) : Gm := fun P w K mg base => FnX P w K mg base "led" 6 2 (spx_led cs) ∧ FnX P w K mg base "then" 6 2 (spx_then cs) ∧ FnX P w K mg base "back" 6 1 (spx_back cs) ∧ FnX P w K mg base "kind_of" 6 1 (spx_kind_of cs) ∧ FnX P w K mg base "order_of" 7 1 (spx_order_of cs) ∧ FnX P w K mg base "center" 7 1 (spx_center cs) ∧ FnX P w K mg base "axis" 6 1 (spx_axis cs) ∧ FnX P w K mg base "motion_text" 6 1 (spx_motion_text cs)
theorem ok__law_does {cs : Cs} {P : Program} {w : World} {K : PySem.W.Frag} {mg : Str → Option Value} {base : Heap} {f : Addr} {fd : FuncData} {dV : Value} (hΓ : G__law_does cs P w K mg base) (F : Fu K "_law_does" s__law_does f fd dV) (hm : mg "_law_does" = some (.ref f)) (hb : Binds K fd ["_law_sort_of", "_law_one", "_law_two"] []) : FnX P w K mg base "_law_does" 8 3 (spx__law_does cs) := by
  refine fn_X (G__law_does cs) hΓ F sc__law_does rfl hm hb fun X RE an Z h => ?_
  have B := Z.toBs
  have b := B.toBx
  unfold G__law_does at h
  refine ⟨_, (qss_cons (qs_if (qt_eq b (qe_var b 0) qe_int) (qss_one (qs_ret (qe_callX Z h.1 (qa_cons (qe_var b 1) (qa_cons (qe_var b 2) qa_nil))))) qss_nil)
      (qss_cons (qs_if (qt_eq b (qe_var b 0) qe_int) (qss_one (qs_ret (qe_callX Z h.2.1 (qa_cons (qe_var b 1) (qa_cons (qe_var b 2) qa_nil))))) qss_nil)
      (qss_cons (qs_if (qt_eq b (qe_var b 0) qe_int) (qss_one (qs_ret (qe_callX Z h.2.2.1 (qa_cons (qe_var b 1) qa_nil)))) qss_nil)
      (qss_cons (qs_if (qt_eq b (qe_var b 0) qe_int) (qss_one (qs_ret (qe_callX Z h.2.2.2.1 (qa_cons (qe_var b 1) qa_nil)))) qss_nil)
      (qss_cons (qs_if (qt_eq b (qe_var b 0) qe_int) (qss_one (qs_ret (qe_callX Z h.2.2.2.2.1 (qa_cons (qe_var b 1) qa_nil)))) qss_nil)
      (qss_one (qs_ret (qe_if (qt_eq b (qe_var b 0) qe_int) (qe_callX Z h.2.2.2.2.2.1 (qa_cons (qe_var b 1) qa_nil)) (qe_if (qt_eq b (qe_var b 0) qe_int) (qe_callX Z h.2.2.2.2.2.2.1 (qa_cons (qe_var b 1) qa_nil)) (qe_callX Z h.2.2.2.2.2.2.2 (qa_cons (qe_var b 1) qa_nil))))))))))), ?_⟩
  rintro ds τ R RE' - ⟨k', a, b', rfl, ja, hs⟩ hRE
  rcases hs with ⟨k0, k7, ha, rfl, k⟩ | ⟨rfl, jb, hb', k⟩ | ⟨rfl, ha, ob, hb', k⟩
  · have : k' = 0 ∨ k' = 1 ∨ k' = 2 ∨ k' = 3 ∨ k' = 4 ∨ k' = 5 ∨ k' = 6 ∨ k' = 7 := by omega
    rcases this with rfl | rfl | rfl | rfl | rfl | rfl | rfl | rfl
    · exact ⟨rfl, rfl, rfl, a, _, rfl, ja, .inl ⟨ha, rfl, hRE _ _ _ k⟩⟩
    · exact ⟨rfl, rfl, rfl, rfl, rfl, a, _, rfl, ja, okJ_n (by simp [tyOf]) (fun es e => by cases e), by rw [ha]; rfl, rfl, hRE _ _ _ k⟩
    · exact ⟨rfl, rfl, rfl, rfl, rfl, rfl, rfl, a, rfl, ja, ha, rfl, hRE _ _ _ k⟩
    · exact ⟨rfl, rfl, rfl, rfl, rfl, rfl, rfl, rfl, rfl, a, rfl, ja, ha, rfl, hRE _ _ _ k⟩
    · exact ⟨rfl, rfl, rfl, rfl, rfl, rfl, rfl, rfl, rfl, rfl, rfl, a, rfl, ja, ha, rfl, hRE _ _ _ k⟩
    · exact ⟨rfl, rfl, rfl, rfl, rfl, rfl, rfl, rfl, rfl, rfl, rfl, rfl, rfl, a, rfl, ja, ha, rfl, hRE _ _ _ k⟩
    · exact ⟨rfl, rfl, rfl, rfl, rfl, rfl, rfl, rfl, rfl, rfl, rfl, rfl, rfl, rfl, rfl, a, rfl, ja, ha, rfl, hRE _ _ _ k⟩
    · exact ⟨rfl, rfl, rfl, rfl, rfl, rfl, rfl, rfl, rfl, rfl, rfl, rfl, rfl, rfl, rfl, a, rfl, ja, ha, rfl, hRE _ _ _ k⟩
  · exact ⟨rfl, rfl, rfl, rfl, rfl, a, b', rfl, ja, jb, by rw [hb', Bool.and_false], rfl, hRE _ _ _ k⟩
  · exact ⟨rfl, rfl, rfl, a, b', rfl, ja, .inr ⟨ha, ob, hb', rfl, hRE _ _ _ k⟩⟩
abbrev s__law_asked : Stmt := top 73
theorem sc__law_asked : FnScope ["_law_sort_of", "_law_one", "_law_two", "_law_caught", "e"] ["_law_sort_of", "_law_one", "_law_two"] (defScope s__law_asked) := ⟨rfl, rfl, rfl, by decide +kernel, rfl, by decide +kernel, by decide +kernel⟩
def G__law_asked (cs : Cs) : Gm := fun P w K mg base => FnD P w K mg base "_law_refusal" 1 1 (spr_refusal cs) ∧ FnX P w K mg base "_law_does" 8 3 (spx__law_does cs) ∧ FnX P w K mg base "_law_points" 7 3 (spx__law_points cs) ∧ mg "OverError" = some (.ref cs.over) ∧ KitR K cs cs.pnt [false, true, false, false, false, false, false, false] ∧ KitR K cs cs.mot [false, false, true, false, false, false, false, false]
theorem ok__law_asked {cs : Cs} {P : Program} {w : World} {K : PySem.W.Frag} {mg : Str → Option Value} {base : Heap} {f : Addr} {fd : FuncData} {dV : Value} (hΓ : G__law_asked cs P w K mg base) (F : Fu K "_law_asked" s__law_asked f fd dV) (hm : mg "_law_asked" = some (.ref f)) (hb : Binds K fd ["_law_sort_of", "_law_one", "_law_two"] []) : FnD P w K mg base "_law_asked" 9 3 (sp__law_asked cs) := by
  refine fn_T (G__law_asked cs) hΓ F sc__law_asked rfl hm hb fun X B xf h => ?_
  have b := B.toBx
  unfold G__law_asked at h
  refine ⟨_, (qss0_cons (qs0 (qs_set B 3 qe_non))
      (qss0_cons (qs_try B xf 3 4 h.2.2.2.1 fun RE an => (qss_one (qs_if (qt_lt (qe_var (bz_of (RE := RE) (an := an) B xf).toBs.toBx 0) qe_int) (qss_one (qs_expr (qe_callX (bz_of (RE := RE) (an := an) B xf) h.2.1 (qa_cons (qe_var (bz_of (RE := RE) (an := an) B xf).toBs.toBx 0) (qa_cons (qe_var (bz_of (RE := RE) (an := an) B xf).toBs.toBx 1) (qa_cons (qe_var (bz_of (RE := RE) (an := an) B xf).toBs.toBx 2) qa_nil)))))) (qss_one (qs_expr (qe_callX (bz_of (RE := RE) (an := an) B xf) h.2.2.1 (qa_cons (qe_sub (qe_var (bz_of (RE := RE) (an := an) B xf).toBs.toBx 0) qe_int) (qa_cons (qe_var (bz_of (RE := RE) (an := an) B xf).toBs.toBx 1) (qa_cons (qe_var (bz_of (RE := RE) (an := an) B xf).toBs.toBx 2) qa_nil)))))))))
      (qss0 (qss_one (qs_ret (qe_if (qt_is (qe_var b 3) qe_non) qe_str (qe_call b h.1 (qa_cons (qe_var b 3) qa_nil)))))))), ?_⟩
  rintro ds τ R - ⟨k', a, b', nm, rfl, q, hs⟩
  have xp := h.2.2.2.2.1.2.1
  have xm := h.2.2.2.2.2.2.1
  rcases hs with ⟨ja, k0, k7, ha, rfl, rfl⟩ | ⟨ja, rfl, jb, hb', rfl⟩ | ⟨ja, rfl, ha, ob, hb', rfl⟩ | ⟨k8, k11, oa, ob, hb', rfl⟩ | ⟨rfl, c, t, rfl, rfl, hc, ht, bt, hs⟩
  · intro an
    refine iteB (fun _ => ?_) (fun z => absurd (show k' < 8 by omega) z)
    refine ⟨rfl, k', a, _, rfl, ja, .inl ⟨k0, k7, ha, rfl, rfl, xm, fun e _ => ?_⟩⟩
    exact ⟨rfl, e, _, _, rfl, .inr ⟨rfl, rfl⟩, q⟩
  · intro an
    refine ⟨rfl, 1, a, _, rfl, ja, .inr (.inl ⟨rfl, jb, hb', rfl, xm, fun e _ => ?_⟩)⟩
    exact ⟨rfl, e, _, _, rfl, .inr ⟨rfl, rfl⟩, q⟩
  · intro an
    refine ⟨rfl, 0, a, _, rfl, ja, .inr (.inr ⟨rfl, ha, ob, hb', rfl, xp, fun e _ => ?_⟩)⟩
    exact ⟨rfl, e, _, _, rfl, .inl ⟨rfl, rfl⟩, q⟩
  · intro an
    refine iteB (fun z => absurd z (show ¬ k' < 8 by omega)) (fun _ => ?_)
    refine ⟨rfl, k' - 8, a, _, rfl, .inl ⟨by omega, by omega, oa, ob, hb', rfl, xp, fun e _ => ?_⟩⟩
    exact ⟨rfl, e, _, _, rfl, .inl ⟨rfl, rfl⟩, q⟩
  · intro an
    refine ⟨rfl, 3, _, _, rfl, .inr ⟨rfl, c, t, rfl, rfl, hc, ht, bt, ?_⟩⟩
    rcases hs with ⟨na, rfl⟩ | ⟨at', bc, bb, rfl⟩
    · refine .inl ⟨na, rfl, xm, fun e _ => ?_⟩
      exact ⟨rfl, e, _, _, rfl, .inr ⟨rfl, rfl⟩, q⟩
    · exact .inr ⟨at', bc, bb, q⟩
abbrev s_law : Stmt := top 75
theorem sc_law : FnScope ["_law_script", "_law_town_here", "_law_odd", "_law_bad", "_law_q", "_law_due", "_law_motion_here", "_law_p", "_law_turn_here", "_law_move", "_law_over_it", "_law_k"] ["_law_script"] (defScope s_law) := ⟨rfl, rfl, rfl, by decide +kernel, rfl, by decide +kernel, by decide +kernel⟩
def G_law (cs : Cs) : Gm := fun P w K mg base => FnD P w K mg base "_law_town" 1 1 sp__law_town ∧ FnD P w K mg base "_law_point" 3 2 spw__law_point ∧ FnD P w K mg base "_law_motion" 4 1 spw__law_motion ∧ FnD P w K mg base "_law_is" 1 2 sp__law_is ∧ FnD P w K mg base "_law_asked" 9 3 (sp__law_asked cs) ∧ FnD P w K mg base "_law_made" 3 3 (sp__law_made cs) ∧ FnX P w K mg base "is_ahead" 5 2 (spx_is_ahead cs) ∧ FnD P w K mg base "is_motion" 4 1 spj_is_motion ∧ FnD P w K mg base "is_point" 3 1 sp_is_point ∧ mg "range" = none
theorem ok_law {cs : Cs} {P : Program} {w : World} {K : PySem.W.Frag} {mg : Str → Option Value} {base : Heap} {f : Addr} {fd : FuncData} {dV : Value} (hΓ : G_law cs P w K mg base) (F : Fu K "law" s_law f fd dV) : FnOk P w K mg base CX0 10 f fd ["_law_script"] (lSp K 1 sp_law) := by
  refine fn_K (G_law cs) hΓ F sc_law rfl fun X B h => ?_
  have b := B.toBx
  unfold G_law at h
  refine ⟨_, (qss_cons (qs_set B 1 (qe_call b h.1 (qa_cons (qe_var b 0) qa_nil)))
      (qss_cons (qs_unp2 b (qe_tup (qa_cons (qe_call b h.2.2.1 (qa_cons (qe_var b 1) qa_nil)) (qa_cons (qe_call b h.2.1 (qa_cons (qe_var b 1) (qa_cons qe_int qa_nil))) qa_nil))) (qg_cons B 6 (qg_cons B 7 qg_nil)))
      (qss_cons (qs_unp b (qe_var b 6) (qg_cons B 8 (qg_cons B 9 (qg_cons B 10 qg_nil))))
      (qss_cons (qs_set B 2 (qe_lst (qa_cons qe_non (qa_cons qe_int (qa_cons (qe_tup (qa_cons (qe_var b 8) (qa_cons (qe_var b 9) qa_nil))) (qa_cons (qe_tup (qa_cons (qe_var b 8) (qa_cons (qe_var b 9) (qa_cons qe_int qa_nil)))) (qa_cons (qe_tup (qa_cons (qe_var b 8) (qa_cons (qe_var b 9) (qa_cons qe_bl qa_nil)))) (qa_cons (qe_tup (qa_cons (qe_tup (qa_cons qe_int (qa_cons qe_int (qa_cons qe_int qa_nil)))) (qa_cons (qe_var b 9) (qa_cons qe_int qa_nil)))) (qa_cons (qe_tup (qa_cons (qe_tup (qa_cons qe_int (qa_cons qe_int (qa_cons qe_int qa_nil)))) (qa_cons (qe_var b 9) (qa_cons qe_int qa_nil)))) (qa_cons (qe_lst (qa_cons (qe_var b 8) (qa_cons (qe_var b 9) (qa_cons qe_int qa_nil)))) qa_nil))))))))))
      (qss_cons (qs_set B 2 (qe_cat (qe_var b 2) (qe_lst (qa_cons (qe_tup (qa_cons (qe_tup (qa_cons qe_int (qa_cons qe_int (qa_cons qe_int qa_nil)))) (qa_cons (qe_var b 9) (qa_cons qe_int qa_nil)))) (qa_cons (qe_tup (qa_cons (qe_var b 8) (qa_cons (qe_tup (qa_cons qe_int (qa_cons qe_int (qa_cons qe_int qa_nil)))) (qa_cons qe_int qa_nil)))) (qa_cons (qe_tup (qa_cons (qe_var b 8) (qa_cons qe_non (qa_cons qe_int qa_nil)))) (qa_cons (qe_tup (qa_cons (qe_tup (qa_cons qe_int (qa_cons qe_int (qa_cons qe_int qa_nil)))) (qa_cons (qe_var b 9) (qa_cons qe_int qa_nil)))) (qa_cons qe_str qa_nil))))))))
      (qss_cons (qs_forI B 3 (qi_seq (qe_var b 2)) (qss_cons (qs_if (qt_w (qw_or (qt_ne b (qe_lcI b 11 (qi_rng b h.2.2.2.2.2.2.2.2.2 qe_int) (fun s3 H3 C3 cl3 fp3 => qts_nil) (fun s3 H3 C3 cl3 fp3 => (qe_call (b.blk s3 H3 _ cl3 C3 fp3) h.2.2.2.2.1 (qa_cons (qe_var (b.blk s3 H3 _ cl3 C3 fp3) 11) (qa_cons (qe_var (b.blk s3 H3 _ cl3 C3 fp3) 3) (qa_cons qe_non qa_nil)))))) (qe_rep (qa_cons qe_str qa_nil) qe_int)) (qw_or1 (qt_isN (qe_call b h.2.2.2.2.2.2.2.1 (qa_cons (qe_var b 3) qa_nil)) qe_bl)))) (qss_one (qs_ret qe_bl)) qss_nil)
      (qss_one (qs_if (qt_ne b (qe_call b h.2.2.2.2.1 (qa_cons qe_int (qa_cons (qe_var b 6) (qa_cons (qe_var b 3) qa_nil)))) qe_str) (qss_one (qs_ret qe_bl)) qss_nil))))
      (qss_cons (qs_forI B 3 (qi_seq (qe_lst (qa_cons qe_non (qa_cons qe_int (qa_cons (qe_tup (qa_cons qe_int (qa_cons qe_int qa_nil))) (qa_cons (qe_tup (qa_cons qe_int (qa_cons qe_int (qa_cons qe_int qa_nil)))) (qa_cons (qe_tup (qa_cons qe_int (qa_cons qe_int (qa_cons qe_int qa_nil)))) (qa_cons (qe_tup (qa_cons qe_int (qa_cons qe_int (qa_cons (qe_sub qe_int qe_int) qa_nil)))) (qa_cons (qe_tup (qa_cons qe_bl (qa_cons qe_int (qa_cons qe_int qa_nil)))) (qa_cons (qe_lst (qa_cons qe_int (qa_cons qe_int (qa_cons qe_int qa_nil)))) qa_nil)))))))))) (qss_cons (qs_if (qt_w (qw_or (qt_ne b (qe_call b h.2.2.2.2.1 (qa_cons qe_int (qa_cons (qe_var b 6) (qa_cons (qe_var b 3) qa_nil)))) qe_str) (qw_or1 (qt_isN (qe_call b h.2.2.2.2.2.2.2.2.1 (qa_cons (qe_var b 3) qa_nil)) qe_bl)))) (qss_one (qs_ret qe_bl)) qss_nil)
      (qss_cons (qs_if (qt_ne b (qe_cat (qe_lcI b 11 (qi_rng2 b h.2.2.2.2.2.2.2.2.2 qe_int qe_int) (fun s1 H1 C1 cl1 fp1 => qts_nil) (fun s1 H1 C1 cl1 fp1 => (qe_call (b.blk s1 H1 _ cl1 C1 fp1) h.2.2.2.2.1 (qa_cons (qe_var (b.blk s1 H1 _ cl1 C1 fp1) 11) (qa_cons (qe_var (b.blk s1 H1 _ cl1 C1 fp1) 3) (qa_cons (qe_var (b.blk s1 H1 _ cl1 C1 fp1) 7) qa_nil)))))) (qe_lcI b 11 (qi_rng2 b h.2.2.2.2.2.2.2.2.2 qe_int qe_int) (fun s2 H2 C2 cl2 fp2 => qts_nil) (fun s2 H2 C2 cl2 fp2 => (qe_call (b.blk s2 H2 _ cl2 C2 fp2) h.2.2.2.2.1 (qa_cons (qe_var (b.blk s2 H2 _ cl2 C2 fp2) 11) (qa_cons (qe_var (b.blk s2 H2 _ cl2 C2 fp2) 7) (qa_cons (qe_var (b.blk s2 H2 _ cl2 C2 fp2) 3) qa_nil))))))) (qe_rep (qa_cons qe_str qa_nil) qe_int)) (qss_one (qs_ret qe_bl)) qss_nil)
      (qss_one (qs_if (qt_ne b (qe_call b h.2.2.2.2.1 (qa_cons qe_int (qa_cons (qe_var b 3) (qa_cons (qe_var b 8) qa_nil)))) qe_str) (qss_one (qs_ret qe_bl)) qss_nil)))))
      (qss_cons (qs_forI B 3 (qi_seq (qe_lst (qa_cons (qe_tup (qa_cons qe_int (qa_cons qe_int (qa_cons qe_int qa_nil)))) (qa_cons (qe_tup (qa_cons qe_int (qa_cons qe_int (qa_cons qe_int qa_nil)))) (qa_cons (qe_tup (qa_cons qe_int (qa_cons qe_int (qa_cons qe_int qa_nil)))) (qa_cons (qe_tup (qa_cons qe_int (qa_cons qe_int (qa_cons qe_int qa_nil)))) qa_nil)))))) (qss_one (qs_if (qt_ne b (qe_call b h.2.2.2.2.1 (qa_cons qe_int (qa_cons (qe_var b 7) (qa_cons (qe_var b 3) qa_nil)))) qe_str) (qss_one (qs_ret qe_bl)) qss_nil)))
      (qss_cons (qs_forI B 3 (qi_seq (qe_lst (qa_cons qe_non (qa_cons qe_bl (qa_cons qe_str (qa_cons (qe_tup (qa_cons qe_int qa_nil)) qa_nil)))))) (qss_one (qs_if (qt_ne b (qe_lst (qa_cons (qe_call b h.2.2.2.2.2.1 (qa_cons (qe_var b 3) (qa_cons qe_int (qa_cons qe_int qa_nil)))) (qa_cons (qe_call b h.2.2.2.2.2.1 (qa_cons qe_int (qa_cons (qe_var b 3) (qa_cons qe_int qa_nil)))) (qa_cons (qe_call b h.2.2.2.2.2.1 (qa_cons qe_int (qa_cons qe_int (qa_cons (qe_var b 3) qa_nil)))) qa_nil)))) (qe_rep (qa_cons qe_str qa_nil) qe_int)) (qss_one (qs_ret qe_bl)) qss_nil)))
      (qss_cons (qs_set B 4 (qe_call b h.2.1 (qa_cons (qe_var b 1) (qa_cons qe_int qa_nil))))
      (qss_cons (qs_set B 5 (qe_or (qe_lt (qe_mul (qe_ixT (qe_var b 7) qe_int) (qe_ixT (qe_var b 4) qe_int)) (qe_mul (qe_ixT (qe_var b 4) qe_int) (qe_ixT (qe_var b 7) qe_int))) (qe_one (qe_and (qe_eq b (qe_mul (qe_ixT (qe_var b 7) qe_int) (qe_ixT (qe_var b 4) qe_int)) (qe_mul (qe_ixT (qe_var b 4) qe_int) (qe_ixT (qe_var b 7) qe_int))) (qe_one (qe_lt (qe_mul (qe_ixT (qe_var b 7) qe_int) (qe_ixT (qe_var b 4) qe_int)) (qe_mul (qe_ixT (qe_var b 4) qe_int) (qe_ixT (qe_var b 7) qe_int))))))))
      (qss_one (qs_ret (qe_and (qe_eq b (qe_call b h.2.2.2.2.2.1 (qa_cons qe_int (qa_cons qe_int (qa_cons qe_int qa_nil)))) qe_str) (qe_and (qe_eq b (qe_call b h.2.2.2.2.1 (qa_cons qe_int (qa_cons (qe_var b 7) (qa_cons (qe_tup (qa_cons qe_int (qa_cons (qe_sub qe_int qe_int) (qa_cons qe_int qa_nil)))) qa_nil)))) qe_str) (qe_one (qe_call b h.2.2.2.1 (qa_cons (qe_callXD b h.2.2.2.2.2.2.1 (qa_cons (qe_var b 7) (qa_cons (qe_var b 4) qa_nil))) (qa_cons (qe_var b 5) qa_nil))))))))))))))))))), ?_⟩
  rintro ds τ R - ⟨ns, rfl, hl, ⟨ts0, rfl⟩, k⟩
  refine ⟨rfl, ns, rfl, hl, fun t r τ1 T1 K1 => ?_⟩
  refine ⟨rfl, t, r, rfl, T1, fun m τ2 hm b1 b2 T2 K2 => ?_⟩
  refine ⟨rfl, t, r, 4, rfl, T2, by decide, by decide, fun p τ3 hp bp T3 K3 => ?_⟩
  refine ⟨by simp, rfl, ?_⟩
  (try dsimp only [startD, dSetL, List.map_cons, List.map_nil, List.length_cons, List.length_nil, Nat.reduceAdd, Nat.reduceSub, List.replicate_succ, List.replicate_zero, List.cons_append, List.nil_append, List.set_cons_zero, List.set_cons_succ])
  refine ⟨rfl, ?_⟩
  (try dsimp only [startD, dSetL, List.map_cons, List.map_nil, List.length_cons, List.length_nil, Nat.reduceAdd, Nat.reduceSub, List.replicate_succ, List.replicate_zero, List.cons_append, List.nil_append, List.set_cons_zero, List.set_cons_succ])
  refine ⟨by simp, by simp, by simp, by simp, by simp, by simp, by simp, by simp, by simp, ?_⟩
  (try dsimp only [startD, dSetL, List.map_cons, List.map_nil, List.length_cons, List.length_nil, Nat.reduceAdd, Nat.reduceSub, List.replicate_succ, List.replicate_zero, List.cons_append, List.nil_append, List.set_cons_zero, List.set_cons_succ])
  refine ⟨by simp, by simp, by simp, by simp, by simp, by simp, by simp, by simp, by simp, ?_⟩
  (try dsimp only [startD, dSetL, List.map_cons, List.map_nil, List.length_cons, List.length_nil, Nat.reduceAdd, Nat.reduceSub, List.replicate_succ, List.replicate_zero, List.cons_append, List.nil_append, List.set_cons_zero, List.set_cons_succ])
  have mb : bd Mb m.1 := b1.bd (by decide) (by decide)
  have pb : bd Mb p := bp.bd (by decide) (by decide)
  have jm := okJ_mo mb
  have gm := isMB_mo hm
  have sM : SeqAt.shaped (.str "motion") = true := by decide +kernel
  have sP : SeqAt.shaped (.str "point") = true := by decide +kernel
  have sT : SeqAt.shaped (.str "told") = true := by decide +kernel
  refine fi_each (fun d => okJ d ∧ isMB d = false) (fun δ τ' => τ3 = τ' ∧ ∃ a2 a3 : Option PyData, δ = [some (PyData.list (List.map PyData.int ns)), some (rf t), a2, a3, none, none, some (moD m), some (ptD p), some (ptD m.1), some (ptD m.2.1), some (.int m.2.2), none]) ?s1 ?d1 _ ?p1 _ _ ?h1
  case p1 => exact fun d hd => odd_mo hm mb d hd
  case h1 => exact ⟨rfl, _, none, rfl⟩
  case s1 =>
    rintro d ⟨jd, nd⟩ δ τ' N ⟨rfl, a2, a3, rfl⟩ hN
    (try dsimp only [startD, dSetL, List.map_cons, List.map_nil, List.length_cons, List.length_nil, Nat.reduceAdd, Nat.reduceSub, List.replicate_succ, List.replicate_zero, List.cons_append, List.nil_append, List.set_cons_zero, List.set_cons_succ])
    refine ⟨by decide, by decide, fun A hA => ?_⟩
    refine dLf_pure (fun _ => true) (fun _ => .str "motion") (fun d _ τ' R' q => q) (fun d' hd' _ τ' R' q => ?_) hA (by simp [rngD]) ?_
    · obtain ⟨j, hj, rfl⟩ := List.mem_map.mp hd'
      have hj := List.mem_range.mp hj
      have hj : j < 8 := hj
      exact ⟨rfl, j, d, .none, "motion", rfl, q, .inl ⟨jd, by omega, by omega, nd, rfl, rfl⟩⟩
    have e1 : ([] : List PyData) ++ List.map (fun _ => PyData.str "motion") (List.filter (fun _ => true) (rngD (Int.toNat 8))) = List.replicate 8 (.str "motion") := rfl
    rw [e1]
    refine ⟨by simp, by decide, by decide, strs_shp _ (by decide +kernel) _, (by rw [flat_rep]; exact strs_shp _ (by decide +kernel) _), ?_⟩
    have e2 : PyData.eqv (.list (List.replicate 8 (.str "motion"))) (.list (List.replicate (Int.toNat 8) [PyData.str "motion"]).flatten) = true := strs_eq _ 8
    rw [e2]
    refine iteC (fun hc => absurd hc (by decide)) (fun _ => ?_)
    refine ⟨rfl, d, rfl, jd, ?_⟩
    rw [nd]
    refine ⟨rfl, 1, _, d, "motion", rfl, ?_, .inr (.inl ⟨jm, rfl, jd, nd, rfl⟩)⟩
    refine ⟨sM, sM, ?_⟩
    rw [show PyData.eqv (.str "motion") (.str "motion") = true by simp [PyData.eqv]]
    refine iteC (fun hc => absurd hc (by decide)) (fun _ => ?_)
    exact hN _ _ ⟨rfl, _, _, rfl⟩
  case d1 =>
    rintro δ τ' ⟨rfl, a2, a3, rfl⟩
    refine ⟨by simp, by simp, by simp, by simp, by simp, by simp, by simp, ?_⟩
    refine fi_each (fun d => okI d ∧ isPB d = false) (fun δ τ' => τ3 = τ' ∧ ∃ a2 a3 : Option PyData, δ = [some (PyData.list (List.map PyData.int ns)), some (rf t), a2, a3, none, none, some (moD m), some (ptD p), some (ptD m.1), some (ptD m.2.1), some (.int m.2.2), none]) ?s2 ?d2 _ ?p2 _ _ ?h2
    case p2 => exact fun d hd => odd_pt d hd
    case h2 => exact ⟨rfl, _, _, rfl⟩
    case s2 =>
      rintro d ⟨od, nd⟩ δ τ' N ⟨rfl, a2, a3, rfl⟩ hN
      (try dsimp only [startD, dSetL, List.map_cons, List.map_nil, List.length_cons, List.length_nil, Nat.reduceAdd, Nat.reduceSub, List.replicate_succ, List.replicate_zero, List.cons_append, List.nil_append, List.set_cons_zero, List.set_cons_succ])
      refine ⟨rfl, 0, _, d, "point", rfl, ?_, .inr (.inr (.inl ⟨jm, rfl, gm, od, nd, rfl⟩))⟩
      refine ⟨sP, sP, ?_⟩
      rw [show PyData.eqv (.str "point") (.str "point") = true by simp [PyData.eqv]]
      refine iteC (fun hc => absurd hc (by decide)) (fun _ => ?_)
      refine ⟨rfl, d, rfl, od, ?_⟩
      rw [nd]
      refine ⟨8, 11, rfl, rfl, by decide, by decide, by decide, by decide, fun A hA => ?_⟩
      refine dLf_pure (fun _ => true) (fun _ => .str "point") (fun d _ τ' R' q => q) (fun d' hd' _ τ' R' q => ?_) hA (by simp [rngE]) ?_
      · obtain ⟨j, hj, rfl⟩ := List.mem_map.mp hd'
        have hj := List.mem_range.mp hj
        have hj : j < 3 := hj
        exact ⟨rfl, 8 + j, d, ptD p, "point", rfl, q, .inr (.inr (.inr (.inl ⟨by omega, by omega, od, okI_pt _, by rw [nd]; rfl, rfl⟩)))⟩
      refine ⟨8, 11, rfl, rfl, by decide, by decide, by decide, by decide, fun A2 hA2 => ?_⟩
      refine dLf_pure (fun _ => true) (fun _ => .str "point") (fun d _ τ' R' q => q) (fun d' hd' _ τ' R' q => ?_) hA2 (by simp [rngE]) ?_
      · obtain ⟨j, hj, rfl⟩ := List.mem_map.mp hd'
        have hj := List.mem_range.mp hj
        have hj : j < 3 := hj
        exact ⟨rfl, 8 + j, ptD p, d, "point", rfl, q, .inr (.inr (.inr (.inl ⟨by omega, by omega, okI_pt _, od, by rw [nd, Bool.and_false], rfl⟩)))⟩
      refine ⟨(by decide : (3 : Nat) + 3 ≤ 1000), ?_⟩
      have e6 : (([] : List PyData) ++ List.map (fun _ => PyData.str "point") (List.filter (fun _ => true) (rngE 8 (Int.toNat (11 - 8))))) ++ (([] : List PyData) ++ List.map (fun _ => PyData.str "point") (List.filter (fun _ => true) (rngE 8 (Int.toNat (11 - 8))))) = List.replicate 6 (.str "point") := rfl
      rw [e6]
      refine ⟨by simp, by decide, by decide, strs_shp _ (by decide +kernel) _, (by rw [flat_rep]; exact strs_shp _ (by decide +kernel) _), ?_⟩
      have e7 : PyData.eqv (.list (List.replicate 6 (.str "point"))) (.list (List.replicate (Int.toNat 6) [PyData.str "point"]).flatten) = true := strs_eq _ 6
      rw [e7]
      refine iteC (fun hc => absurd hc (by decide)) (fun _ => ?_)
      refine ⟨rfl, 11, d, ptD m.1, "point", rfl, ?_, .inr (.inr (.inr (.inl ⟨by decide, by decide, od, okI_pt _, by rw [nd]; rfl, rfl⟩)))⟩
      refine ⟨sP, sP, ?_⟩
      rw [show PyData.eqv (.str "point") (.str "point") = true by simp [PyData.eqv]]
      refine iteC (fun hc => absurd hc (by decide)) (fun _ => ?_)
      exact hN _ _ ⟨rfl, _, _, rfl⟩
    case d2 =>
      rintro δ τ' ⟨rfl, a2, a3, rfl⟩
      refine ⟨by simp, by simp, by simp, by simp, by simp, ?_⟩
      refine fi_each (fun d => ∃ t : P3, d = ptD t ∧ isP t ∧ bd Mb t ∧ ¬ at1 t) (fun δ τ' => τ3 = τ' ∧ ∃ a2 a3 : Option PyData, δ = [some (PyData.list (List.map PyData.int ns)), some (rf t), a2, a3, none, none, some (moD m), some (ptD p), some (ptD m.1), some (ptD m.2.1), some (.int m.2.2), none]) ?s3 ?d3 _ ?p3 _ _ ?h3
      case p3 => exact fun d hd => odd_tn d hd
      case h3 => exact ⟨rfl, _, _, rfl⟩
      case s3 =>
        rintro d ⟨u, rfl, iu, bu, nu⟩ δ τ' N ⟨rfl, a2, a3, rfl⟩ hN
        (try dsimp only [startD, dSetL, List.map_cons, List.map_nil, List.length_cons, List.length_nil, Nat.reduceAdd, Nat.reduceSub, List.replicate_succ, List.replicate_zero, List.cons_append, List.nil_append, List.set_cons_zero, List.set_cons_succ])
        refine ⟨rfl, 11, ptD p, ptD u, "motion", rfl, ?_, .inr (.inr (.inr (.inr ⟨rfl, p, u, rfl, rfl, hp, iu, bu, .inl ⟨nu, rfl⟩⟩)))⟩
        refine ⟨sM, sM, ?_⟩
        rw [show PyData.eqv (.str "motion") (.str "motion") = true by simp [PyData.eqv]]
        refine iteC (fun hc => absurd hc (by decide)) (fun _ => ?_)
        exact hN _ _ ⟨rfl, _, _, rfl⟩
      case d3 =>
        rintro δ τ' ⟨rfl, a2, a3, rfl⟩
        refine ⟨by simp, by simp, ?_⟩
        refine fi_each (fun d => tyOf d ≠ none ∧ isWh d = false) (fun δ τ' => τ3 = τ' ∧ ∃ a2 a3 : Option PyData, δ = [some (PyData.list (List.map PyData.int ns)), some (rf t), a2, a3, none, none, some (moD m), some (ptD p), some (ptD m.1), some (ptD m.2.1), some (.int m.2.2), none]) ?s4 ?d4 _ ?p4 _ _ ?h4
        case p4 => exact fun d hd => odd_nm d hd
        case h4 => exact ⟨rfl, _, _, rfl⟩
        case s4 =>
          rintro d ⟨td, wd⟩ δ τ' N ⟨rfl, a2, a3, rfl⟩ hN
          (try dsimp only [startD, dSetL, List.map_cons, List.map_nil, List.length_cons, List.length_nil, Nat.reduceAdd, Nat.reduceSub, List.replicate_succ, List.replicate_zero, List.cons_append, List.nil_append, List.set_cons_zero, List.set_cons_succ])
          have t1 : tyOf (.int 1) ≠ none := by simp [tyOf]
          refine ⟨rfl, d, .int 1, .int 1, rfl, td, t1, t1, .inl (by rw [wd]; rfl), ?_⟩
          refine ⟨rfl, .int 1, d, .int 1, rfl, t1, td, t1, .inl (by rw [wd]; rfl), ?_⟩
          refine ⟨rfl, .int 1, .int 1, d, rfl, t1, t1, td, .inl (by rw [wd]; rfl), ?_⟩
          refine ⟨by simp, ?_⟩
          refine ⟨by simp, by decide, by decide, (show SeqAt.shaped (.list (List.replicate 3 (PyData.str "point"))) = true from strs_shp _ (by decide +kernel) _), (by rw [flat_rep]; exact strs_shp _ (by decide +kernel) _), ?_⟩
          have e7 : PyData.eqv (.list [.str "point", .str "point", .str "point"]) (.list (List.replicate (Int.toNat 3) [PyData.str "point"]).flatten) = true := strs_eq _ 3
          rw [e7]
          refine iteC (fun hc => absurd hc (by decide)) (fun _ => ?_)
          exact hN _ _ ⟨rfl, _, _, rfl⟩
        case d4 =>
          rintro δ τ' ⟨rfl, a2, a3, rfl⟩
          refine ⟨rfl, t, r, 4, rfl, T3, by decide, by decide, fun q τ4 hq bq T4 K4 => ?_⟩
          (try dsimp only [startD, dSetL, List.map_cons, List.map_nil, List.length_cons, List.length_nil, Nat.reduceAdd, Nat.reduceSub, List.replicate_succ, List.replicate_zero, List.cons_append, List.nil_append, List.set_cons_zero, List.set_cons_succ])
          have qb : bd Mb q := bq.bd (by decide) (by decide)
          have cont : ∀ b : Bool, b = (decide (p.1 * q.2.2 < q.1 * p.2.2) || (p.1 * q.2.2 == q.1 * p.2.2 && decide (p.2.1 * q.2.2 < q.2.1 * p.2.2))) → (dRet (dAndV (dOp dEqR (dCall 3 (sp__law_made cs) (dCons (dC (PyData.int 1)) (dCons (dC (PyData.int 1)) (dCons (dC (PyData.int 0)) dNil)))) (dC (PyData.str (Str.ofString "point")))) (dAndV (dOp dEqR (dCall 3 (sp__law_asked cs) (dCons (dC (PyData.int 11)) (dCons (dVar 7) (dCons (dTup (dCons (dC (PyData.int 3)) (dCons (dSub (dC (PyData.int 0)) (dC (PyData.int 4))) (dCons (dC (PyData.int 5)) dNil)))) dNil)))) (dC (PyData.str (Str.ofString "told")))) (dCall 2 sp__law_is (dCons (dCallXD 2 (spx_is_ahead cs) (dCons (dVar 7) (dCons (dVar 4) dNil))) (dCons (dVar 5) dNil)))))) (dEnd R)
              [some (PyData.list (List.map PyData.int ns)), some (rf t), a2, a3, some (ptD q), some (.bool b), some (moD m), some (ptD p), some (ptD m.fst), some (ptD m.snd.fst), some (PyData.int m.snd.snd), none] τ4 := fun b hb' => by
            have t1 : ∀ i : Int, tyOf (.int i) ≠ none := fun i => by simp [tyOf]
            refine ⟨rfl, _, _, _, rfl, t1 _, t1 _, t1 _, .inr rfl, ?_⟩
            refine ⟨sP, sP, ?_⟩
            rw [show PyData.eqv (.str "point") (.str "point") = true by simp [PyData.eqv]]
            refine ⟨by simp, ?_⟩
            have tt : prd (3, -4, 5) p = prd (3, -4, 5) p := rfl
            have i5 : isP (3, 0 - 4, 5) := ⟨by decide, by decide⟩
            have w5 : bw 5 5 ((3, 0 - 4, 5) : P3) := ⟨by decide, by decide, by decide⟩
            refine ⟨rfl, 11, ptD p, ptD (3, 0 - 4, 5), "told", rfl, ?_, .inr (.inr (.inr (.inr ⟨rfl, p, (3, 0 - 4, 5), rfl, rfl, hp, i5, ⟨by decide, by decide, by decide⟩, .inr ⟨rfl, pb, (prd_bw w5 bp (by decide) (ww hp)).bd (by decide) (by decide), rfl⟩⟩)))⟩
            refine ⟨sT, sT, ?_⟩
            rw [show PyData.eqv (.str "told") (.str "told") = true by simp [PyData.eqv]]
            refine ⟨rfl, .inr ⟨p, q, rfl, hp, hq, pb, qb, ?_⟩⟩
            refine ⟨rfl, _, b, rfl, ?_⟩
            rw [hb', beq_self_eq_true]
            exact k _
          refine ⟨cm_of pb.1 (by decide) _, cm_of qb.1 (by decide) _, ?_⟩
          refine iteB (fun h1 => ?_) (fun h1 => ?_)
          · exact cont true (by rw [decide_eq_true h1, Bool.true_or])
          · refine ⟨cm_of pb.1 (by decide) _, cm_of qb.1 (by decide) _, rfl, rfl, ?_⟩
            rw [eqv_int]
            refine iteC (fun h2 => ?_) (fun h2 => ?_)
            · refine ⟨cm_of pb.2.1 (by decide) _, cm_of qb.2.1 (by decide) _, ?_⟩
              exact cont _ (by rw [decide_eq_false h1, h2, Bool.false_or, Bool.true_and])
            · exact cont false (by rw [decide_eq_false h1, h2, Bool.false_or, Bool.false_and])
end Pr
end
set_option Elab.async false
set_option linter.all false
set_option maxRecDepth 100000
set_option maxHeartbeats 4000000
namespace Pr
open PySem L2 L3 M
theorem all_mk {l : PySem.W.OpenLaw} {w : World} {K : PySem.W.Frag} {h : Heap} {mg : Str → Option Value} {fa : Addr} (X : K.In h) (G : h.Ns mainGlobals mg) (hfa : mg "law" = some (.ref fa))
    {f0 : Addr} {oc0 kV0 dc0 pm0 cd0 ct0 : Value} {od0 an0 : Option Addr} {sl0 : Array (Option Value)}
    {f1 : Addr} {oc1 kV1 dc1 pm1 cd1 ct1 : Value} {od1 an1 : Option Addr} {sl1 : Array (Option Value)}
    {f2 : Addr} {oc2 kV2 dc2 pm2 cd2 ct2 : Value} {od2 an2 : Option Addr} {sl2 : Array (Option Value)}
    {f3 : Addr} {oc3 kV3 dc3 pm3 cd3 ct3 : Value} {od3 an3 : Option Addr} {sl3 : Array (Option Value)}
    {f4 : Addr} {oc4 kV4 dc4 pm4 cd4 ct4 : Value} {od4 an4 : Option Addr} {sl4 : Array (Option Value)}
    {f5 : Addr} {oc5 kV5 dc5 pm5 cd5 ct5 : Value} {od5 an5 : Option Addr} {sl5 : Array (Option Value)}
    {f6 : Addr} {oc6 kV6 dc6 pm6 cd6 ct6 : Value} {od6 an6 : Option Addr} {sl6 : Array (Option Value)}
    {f7 : Addr} {oc7 kV7 dc7 pm7 cd7 ct7 : Value} {od7 an7 : Option Addr} {sl7 : Array (Option Value)}
    {f8 : Addr} {oc8 kV8 dc8 pm8 cd8 ct8 : Value} {od8 an8 : Option Addr} {sl8 : Array (Option Value)}
    {f9 : Addr} {oc9 kV9 dc9 pm9 cd9 ct9 : Value} {od9 an9 : Option Addr} {sl9 : Array (Option Value)}
    {dT9 : Addr} {oT9 : Value} {dd9 : Option Addr} {nT9 : Nat} {sT9 : Array (Option Value)} {tk9_0 : Tok}
    {f10 : Addr} {oc10 kV10 dc10 pm10 cd10 ct10 : Value} {od10 an10 : Option Addr} {sl10 : Array (Option Value)}
    {f11 : Addr} {oc11 kV11 dc11 pm11 cd11 ct11 : Value} {od11 an11 : Option Addr} {sl11 : Array (Option Value)}
    {f12 : Addr} {oc12 kV12 dc12 pm12 cd12 ct12 : Value} {od12 an12 : Option Addr} {sl12 : Array (Option Value)}
    {f13 : Addr} {oc13 kV13 dc13 pm13 cd13 ct13 : Value} {od13 an13 : Option Addr} {sl13 : Array (Option Value)}
    {f14 : Addr} {oc14 kV14 dc14 pm14 cd14 ct14 : Value} {od14 an14 : Option Addr} {sl14 : Array (Option Value)}
    {f15 : Addr} {oc15 kV15 dc15 pm15 cd15 ct15 : Value} {od15 an15 : Option Addr} {sl15 : Array (Option Value)}
    {f16 : Addr} {oc16 kV16 dc16 pm16 cd16 ct16 : Value} {od16 an16 : Option Addr} {sl16 : Array (Option Value)}
    {f17 : Addr} {oc17 kV17 dc17 pm17 cd17 ct17 : Value} {od17 an17 : Option Addr} {sl17 : Array (Option Value)}
    {f18 : Addr} {oc18 kV18 dc18 pm18 cd18 ct18 : Value} {od18 an18 : Option Addr} {sl18 : Array (Option Value)}
    {f19 : Addr} {oc19 kV19 dc19 pm19 cd19 ct19 : Value} {od19 an19 : Option Addr} {sl19 : Array (Option Value)}
    {f20 : Addr} {oc20 kV20 dc20 pm20 cd20 ct20 : Value} {od20 an20 : Option Addr} {sl20 : Array (Option Value)}
    {f21 : Addr} {oc21 kV21 dc21 pm21 cd21 ct21 : Value} {od21 an21 : Option Addr} {sl21 : Array (Option Value)}
    {f22 : Addr} {oc22 kV22 dc22 pm22 cd22 ct22 : Value} {od22 an22 : Option Addr} {sl22 : Array (Option Value)}
    {f23 : Addr} {oc23 kV23 dc23 pm23 cd23 ct23 : Value} {od23 an23 : Option Addr} {sl23 : Array (Option Value)}
    {f24 : Addr} {oc24 kV24 dc24 pm24 cd24 ct24 : Value} {od24 an24 : Option Addr} {sl24 : Array (Option Value)}
    {f25 : Addr} {oc25 kV25 dc25 pm25 cd25 ct25 : Value} {od25 an25 : Option Addr} {sl25 : Array (Option Value)}
    {f26 : Addr} {oc26 kV26 dc26 pm26 cd26 ct26 : Value} {od26 an26 : Option Addr} {sl26 : Array (Option Value)}
    {f27 : Addr} {oc27 kV27 dc27 pm27 cd27 ct27 : Value} {od27 an27 : Option Addr} {sl27 : Array (Option Value)}
    {f28 : Addr} {oc28 kV28 dc28 pm28 cd28 ct28 : Value} {od28 an28 : Option Addr} {sl28 : Array (Option Value)}
    {f29 : Addr} {oc29 kV29 dc29 pm29 cd29 ct29 : Value} {od29 an29 : Option Addr} {sl29 : Array (Option Value)}
    {f30 : Addr} {oc30 kV30 dc30 pm30 cd30 ct30 : Value} {od30 an30 : Option Addr} {sl30 : Array (Option Value)}
    {f31 : Addr} {oc31 kV31 dc31 pm31 cd31 ct31 : Value} {od31 an31 : Option Addr} {sl31 : Array (Option Value)}
    {f32 : Addr} {oc32 kV32 dc32 pm32 cd32 ct32 : Value} {od32 an32 : Option Addr} {sl32 : Array (Option Value)}
    {f33 : Addr} {oc33 kV33 dc33 pm33 cd33 ct33 : Value} {od33 an33 : Option Addr} {sl33 : Array (Option Value)}
    {f34 : Addr} {oc34 kV34 dc34 pm34 cd34 ct34 : Value} {od34 an34 : Option Addr} {sl34 : Array (Option Value)}
    {f35 : Addr} {oc35 kV35 dc35 pm35 cd35 ct35 : Value} {od35 an35 : Option Addr} {sl35 : Array (Option Value)}
    {f36 : Addr} {oc36 kV36 dc36 pm36 cd36 ct36 : Value} {od36 an36 : Option Addr} {sl36 : Array (Option Value)}
    {f37 : Addr} {oc37 kV37 dc37 pm37 cd37 ct37 : Value} {od37 an37 : Option Addr} {sl37 : Array (Option Value)}
    {f38 : Addr} {oc38 kV38 dc38 pm38 cd38 ct38 : Value} {od38 an38 : Option Addr} {sl38 : Array (Option Value)}
    {f39 : Addr} {oc39 kV39 dc39 pm39 cd39 ct39 : Value} {od39 an39 : Option Addr} {sl39 : Array (Option Value)}
    {f40 : Addr} {oc40 kV40 dc40 pm40 cd40 ct40 : Value} {od40 an40 : Option Addr} {sl40 : Array (Option Value)}
    {f41 : Addr} {oc41 kV41 dc41 pm41 cd41 ct41 : Value} {od41 an41 : Option Addr} {sl41 : Array (Option Value)}
    {f42 : Addr} {oc42 kV42 dc42 pm42 cd42 ct42 : Value} {od42 an42 : Option Addr} {sl42 : Array (Option Value)}
    {c_OverError : Addr}
    {c_BadNumber : Addr}
    {c_BadPoint : Addr}
    {c_BadMotion : Addr}
    {c_BadHeap : Addr}
    {c_BadPairs : Addr}
    {c_BadName : Addr}
    {c_BadText : Addr}
    {c_NoThing : Addr}
    {cd_BadPoint : ClassData}
    {cd_BadMotion : ClassData}
    (a0 : PySem.W.nsIn K mainGlobals "is_whole" = some (some (.ref f0)))
    (l0 : K.lookup f0 = some ⟨oc0, od0, .func (PySem.W.fnOf "is_whole" "is_whole" (defArgs s_is_whole) (defBody s_is_whole) (defScope s_is_whole) .none kV0 dc0 pm0 an0 cd0 ct0), sl0⟩)
    (c0 : PySem.W.codeIn K cd0 "is_whole" = true)
    (k0 : PySem.W.keepIn K (.ref f0) = true)
    (a1 : PySem.W.nsIn K mainGlobals "common_divisor" = some (some (.ref f1)))
    (l1 : K.lookup f1 = some ⟨oc1, od1, .func (PySem.W.fnOf "common_divisor" "common_divisor" (defArgs s_common_divisor) (defBody s_common_divisor) (defScope s_common_divisor) .none kV1 dc1 pm1 an1 cd1 ct1), sl1⟩)
    (c1 : PySem.W.codeIn K cd1 "common_divisor" = true)
    (k1 : PySem.W.keepIn K (.ref f1) = true)
    (a2 : PySem.W.nsIn K mainGlobals "flipped" = some (some (.ref f2)))
    (l2 : K.lookup f2 = some ⟨oc2, od2, .func (PySem.W.fnOf "flipped" "flipped" (defArgs s_flipped) (defBody s_flipped) (defScope s_flipped) .none kV2 dc2 pm2 an2 cd2 ct2), sl2⟩)
    (c2 : PySem.W.codeIn K cd2 "flipped" = true)
    (k2 : PySem.W.keepIn K (.ref f2) = true)
    (a3 : PySem.W.nsIn K mainGlobals "is_at_one" = some (some (.ref f3)))
    (l3 : K.lookup f3 = some ⟨oc3, od3, .func (PySem.W.fnOf "is_at_one" "is_at_one" (defArgs s_is_at_one) (defBody s_is_at_one) (defScope s_is_at_one) .none kV3 dc3 pm3 an3 cd3 ct3), sl3⟩)
    (c3 : PySem.W.codeIn K cd3 "is_at_one" = true)
    (k3 : PySem.W.keepIn K (.ref f3) = true)
    (a4 : PySem.W.nsIn K mainGlobals "_law_town" = some (some (.ref f4)))
    (l4 : K.lookup f4 = some ⟨oc4, od4, .func (PySem.W.fnOf "_law_town" "_law_town" (defArgs s__law_town) (defBody s__law_town) (defScope s__law_town) .none kV4 dc4 pm4 an4 cd4 ct4), sl4⟩)
    (c4 : PySem.W.codeIn K cd4 "_law_town" = true)
    (k4 : PySem.W.keepIn K (.ref f4) = true)
    (a5 : PySem.W.nsIn K mainGlobals "_law_draw" = some (some (.ref f5)))
    (l5 : K.lookup f5 = some ⟨oc5, od5, .func (PySem.W.fnOf "_law_draw" "_law_draw" (defArgs s__law_draw) (defBody s__law_draw) (defScope s__law_draw) .none kV5 dc5 pm5 an5 cd5 ct5), sl5⟩)
    (c5 : PySem.W.codeIn K cd5 "_law_draw" = true)
    (k5 : PySem.W.keepIn K (.ref f5) = true)
    (a6 : PySem.W.nsIn K mainGlobals "_law_is" = some (some (.ref f6)))
    (l6 : K.lookup f6 = some ⟨oc6, od6, .func (PySem.W.fnOf "_law_is" "_law_is" (defArgs s__law_is) (defBody s__law_is) (defScope s__law_is) .none kV6 dc6 pm6 an6 cd6 ct6), sl6⟩)
    (c6 : PySem.W.codeIn K cd6 "_law_is" = true)
    (k6 : PySem.W.keepIn K (.ref f6) = true)
    (a7 : PySem.W.nsIn K mainGlobals "_law_refusal" = some (some (.ref f7)))
    (l7 : K.lookup f7 = some ⟨oc7, od7, .func (PySem.W.fnOf "_law_refusal" "_law_refusal" (defArgs s__law_refusal) (defBody s__law_refusal) (defScope s__law_refusal) .none kV7 dc7 pm7 an7 cd7 ct7), sl7⟩)
    (c7 : PySem.W.codeIn K cd7 "_law_refusal" = true)
    (k7 : PySem.W.keepIn K (.ref f7) = true)
    (a8 : PySem.W.nsIn K mainGlobals "_law_gcd" = some (some (.ref f8)))
    (l8 : K.lookup f8 = some ⟨oc8, od8, .func (PySem.W.fnOf "_law_gcd" "_law_gcd" (defArgs s__law_gcd) (defBody s__law_gcd) (defScope s__law_gcd) .none kV8 dc8 pm8 an8 cd8 ct8), sl8⟩)
    (c8 : PySem.W.codeIn K cd8 "_law_gcd" = true)
    (k8 : PySem.W.keepIn K (.ref f8) = true)
    (a9 : PySem.W.nsIn K mainGlobals "point" = some (some (.ref f9)))
    (l9 : K.lookup f9 = some ⟨oc9, od9, .func (PySem.W.fnOf "point" "point" (defArgs s_point) (defBody s_point) (defScope s_point) (.ref dT9) kV9 dc9 pm9 an9 cd9 ct9), sl9⟩)
    (c9 : PySem.W.codeIn K cd9 "point" = true)
    (k9 : PySem.W.keepIn K (.ref f9) = true)
    (d9 : K.lookup dT9 = some ⟨oT9, dd9, .seq #[.int 1 tk9_0] nT9, sT9⟩)
    (a10 : PySem.W.nsIn K mainGlobals "point_divisor" = some (some (.ref f10)))
    (l10 : K.lookup f10 = some ⟨oc10, od10, .func (PySem.W.fnOf "point_divisor" "point_divisor" (defArgs s_point_divisor) (defBody s_point_divisor) (defScope s_point_divisor) .none kV10 dc10 pm10 an10 cd10 ct10), sl10⟩)
    (c10 : PySem.W.codeIn K cd10 "point_divisor" = true)
    (k10 : PySem.W.keepIn K (.ref f10) = true)
    (a11 : PySem.W.nsIn K mainGlobals "is_flip" = some (some (.ref f11)))
    (l11 : K.lookup f11 = some ⟨oc11, od11, .func (PySem.W.fnOf "is_flip" "is_flip" (defArgs s_is_flip) (defBody s_is_flip) (defScope s_is_flip) .none kV11 dc11 pm11 an11 cd11 ct11), sl11⟩)
    (c11 : PySem.W.codeIn K cd11 "is_flip" = true)
    (k11 : PySem.W.keepIn K (.ref f11) = true)
    (a12 : PySem.W.nsIn K mainGlobals "faced" = some (some (.ref f12)))
    (l12 : K.lookup f12 = some ⟨oc12, od12, .func (PySem.W.fnOf "faced" "faced" (defArgs s_faced) (defBody s_faced) (defScope s_faced) .none kV12 dc12 pm12 an12 cd12 ct12), sl12⟩)
    (c12 : PySem.W.codeIn K cd12 "faced" = true)
    (k12 : PySem.W.keepIn K (.ref f12) = true)
    (a13 : PySem.W.nsIn K mainGlobals "_law_pick" = some (some (.ref f13)))
    (l13 : K.lookup f13 = some ⟨oc13, od13, .func (PySem.W.fnOf "_law_pick" "_law_pick" (defArgs s__law_pick) (defBody s__law_pick) (defScope s__law_pick) .none kV13 dc13 pm13 an13 cd13 ct13), sl13⟩)
    (c13 : PySem.W.codeIn K cd13 "_law_pick" = true)
    (k13 : PySem.W.keepIn K (.ref f13) = true)
    (a14 : PySem.W.nsIn K mainGlobals "_law_low" = some (some (.ref f14)))
    (l14 : K.lookup f14 = some ⟨oc14, od14, .func (PySem.W.fnOf "_law_low" "_law_low" (defArgs s__law_low) (defBody s__law_low) (defScope s__law_low) .none kV14 dc14 pm14 an14 cd14 ct14), sl14⟩)
    (c14 : PySem.W.codeIn K cd14 "_law_low" = true)
    (k14 : PySem.W.keepIn K (.ref f14) = true)
    (a15 : PySem.W.nsIn K mainGlobals "is_point" = some (some (.ref f15)))
    (l15 : K.lookup f15 = some ⟨oc15, od15, .func (PySem.W.fnOf "is_point" "is_point" (defArgs s_is_point) (defBody s_is_point) (defScope s_is_point) .none kV15 dc15 pm15 an15 cd15 ct15), sl15⟩)
    (c15 : PySem.W.codeIn K cd15 "is_point" = true)
    (k15 : PySem.W.keepIn K (.ref f15) = true)
    (a16 : PySem.W.nsIn K mainGlobals "lowest" = some (some (.ref f16)))
    (l16 : K.lookup f16 = some ⟨oc16, od16, .func (PySem.W.fnOf "lowest" "lowest" (defArgs s_lowest) (defBody s_lowest) (defScope s_lowest) .none kV16 dc16 pm16 an16 cd16 ct16), sl16⟩)
    (c16 : PySem.W.codeIn K cd16 "lowest" = true)
    (k16 : PySem.W.keepIn K (.ref f16) = true)
    (a17 : PySem.W.nsIn K mainGlobals "_law_point" = some (some (.ref f17)))
    (l17 : K.lookup f17 = some ⟨oc17, od17, .func (PySem.W.fnOf "_law_point" "_law_point" (defArgs s__law_point) (defBody s__law_point) (defScope s__law_point) .none kV17 dc17 pm17 an17 cd17 ct17), sl17⟩)
    (c17 : PySem.W.codeIn K cd17 "_law_point" = true)
    (k17 : PySem.W.keepIn K (.ref f17) = true)
    (a18 : PySem.W.nsIn K mainGlobals "_law_turn" = some (some (.ref f18)))
    (l18 : K.lookup f18 = some ⟨oc18, od18, .func (PySem.W.fnOf "_law_turn" "_law_turn" (defArgs s__law_turn) (defBody s__law_turn) (defScope s__law_turn) .none kV18 dc18 pm18 an18 cd18 ct18), sl18⟩)
    (c18 : PySem.W.codeIn K cd18 "_law_turn" = true)
    (k18 : PySem.W.keepIn K (.ref f18) = true)
    (a19 : PySem.W.nsIn K mainGlobals "_law_made" = some (some (.ref f19)))
    (l19 : K.lookup f19 = some ⟨oc19, od19, .func (PySem.W.fnOf "_law_made" "_law_made" (defArgs s__law_made) (defBody s__law_made) (defScope s__law_made) .none kV19 dc19 pm19 an19 cd19 ct19), sl19⟩)
    (c19 : PySem.W.codeIn K cd19 "_law_made" = true)
    (k19 : PySem.W.keepIn K (.ref f19) = true)
    (a20 : PySem.W.nsIn K mainGlobals "need_points" = some (some (.ref f20)))
    (l20 : K.lookup f20 = some ⟨oc20, od20, .func (PySem.W.fnOf "need_points" "need_points" (defArgs s_need_points) (defBody s_need_points) (defScope s_need_points) .none kV20 dc20 pm20 an20 cd20 ct20), sl20⟩)
    (c20 : PySem.W.codeIn K cd20 "need_points" = true)
    (k20 : PySem.W.keepIn K (.ref f20) = true)
    (a21 : PySem.W.nsIn K mainGlobals "difference" = some (some (.ref f21)))
    (l21 : K.lookup f21 = some ⟨oc21, od21, .func (PySem.W.fnOf "difference" "difference" (defArgs s_difference) (defBody s_difference) (defScope s_difference) .none kV21 dc21 pm21 an21 cd21 ct21), sl21⟩)
    (c21 : PySem.W.codeIn K cd21 "difference" = true)
    (k21 : PySem.W.keepIn K (.ref f21) = true)
    (a22 : PySem.W.nsIn K mainGlobals "product" = some (some (.ref f22)))
    (l22 : K.lookup f22 = some ⟨oc22, od22, .func (PySem.W.fnOf "product" "product" (defArgs s_product) (defBody s_product) (defScope s_product) .none kV22 dc22 pm22 an22 cd22 ct22), sl22⟩)
    (c22 : PySem.W.codeIn K cd22 "product" = true)
    (k22 : PySem.W.keepIn K (.ref f22) = true)
    (a23 : PySem.W.nsIn K mainGlobals "is_motion" = some (some (.ref f23)))
    (l23 : K.lookup f23 = some ⟨oc23, od23, .func (PySem.W.fnOf "is_motion" "is_motion" (defArgs s_is_motion) (defBody s_is_motion) (defScope s_is_motion) .none kV23 dc23 pm23 an23 cd23 ct23), sl23⟩)
    (c23 : PySem.W.codeIn K cd23 "is_motion" = true)
    (k23 : PySem.W.keepIn K (.ref f23) = true)
    (a24 : PySem.W.nsIn K mainGlobals "_law_motion" = some (some (.ref f24)))
    (l24 : K.lookup f24 = some ⟨oc24, od24, .func (PySem.W.fnOf "_law_motion" "_law_motion" (defArgs s__law_motion) (defBody s__law_motion) (defScope s__law_motion) .none kV24 dc24 pm24 an24 cd24 ct24), sl24⟩)
    (c24 : PySem.W.codeIn K cd24 "_law_motion" = true)
    (k24 : PySem.W.keepIn K (.ref f24) = true)
    (a25 : PySem.W.nsIn K mainGlobals "is_ahead" = some (some (.ref f25)))
    (l25 : K.lookup f25 = some ⟨oc25, od25, .func (PySem.W.fnOf "is_ahead" "is_ahead" (defArgs s_is_ahead) (defBody s_is_ahead) (defScope s_is_ahead) .none kV25 dc25 pm25 an25 cd25 ct25), sl25⟩)
    (c25 : PySem.W.codeIn K cd25 "is_ahead" = true)
    (k25 : PySem.W.keepIn K (.ref f25) = true)
    (a26 : PySem.W.nsIn K mainGlobals "square_gap" = some (some (.ref f26)))
    (l26 : K.lookup f26 = some ⟨oc26, od26, .func (PySem.W.fnOf "square_gap" "square_gap" (defArgs s_square_gap) (defBody s_square_gap) (defScope s_square_gap) .none kV26 dc26 pm26 an26 cd26 ct26), sl26⟩)
    (c26 : PySem.W.codeIn K cd26 "square_gap" = true)
    (k26 : PySem.W.keepIn K (.ref f26) = true)
    (a27 : PySem.W.nsIn K mainGlobals "shifting" = some (some (.ref f27)))
    (l27 : K.lookup f27 = some ⟨oc27, od27, .func (PySem.W.fnOf "shifting" "shifting" (defArgs s_shifting) (defBody s_shifting) (defScope s_shifting) .none kV27 dc27 pm27 an27 cd27 ct27), sl27⟩)
    (c27 : PySem.W.codeIn K cd27 "shifting" = true)
    (k27 : PySem.W.keepIn K (.ref f27) = true)
    (a28 : PySem.W.nsIn K mainGlobals "need_motions" = some (some (.ref f28)))
    (l28 : K.lookup f28 = some ⟨oc28, od28, .func (PySem.W.fnOf "need_motions" "need_motions" (defArgs s_need_motions) (defBody s_need_motions) (defScope s_need_motions) .none kV28 dc28 pm28 an28 cd28 ct28), sl28⟩)
    (c28 : PySem.W.codeIn K cd28 "need_motions" = true)
    (k28 : PySem.W.keepIn K (.ref f28) = true)
    (a29 : PySem.W.nsIn K mainGlobals "bringing" = some (some (.ref f29)))
    (l29 : K.lookup f29 = some ⟨oc29, od29, .func (PySem.W.fnOf "bringing" "bringing" (defArgs s_bringing) (defBody s_bringing) (defScope s_bringing) .none kV29 dc29 pm29 an29 cd29 ct29), sl29⟩)
    (c29 : PySem.W.codeIn K cd29 "bringing" = true)
    (k29 : PySem.W.keepIn K (.ref f29) = true)
    (a30 : PySem.W.nsIn K mainGlobals "led" = some (some (.ref f30)))
    (l30 : K.lookup f30 = some ⟨oc30, od30, .func (PySem.W.fnOf "led" "led" (defArgs s_led) (defBody s_led) (defScope s_led) .none kV30 dc30 pm30 an30 cd30 ct30), sl30⟩)
    (c30 : PySem.W.codeIn K cd30 "led" = true)
    (k30 : PySem.W.keepIn K (.ref f30) = true)
    (a31 : PySem.W.nsIn K mainGlobals "then" = some (some (.ref f31)))
    (l31 : K.lookup f31 = some ⟨oc31, od31, .func (PySem.W.fnOf "then" "then" (defArgs s_then) (defBody s_then) (defScope s_then) .none kV31 dc31 pm31 an31 cd31 ct31), sl31⟩)
    (c31 : PySem.W.codeIn K cd31 "then" = true)
    (k31 : PySem.W.keepIn K (.ref f31) = true)
    (a32 : PySem.W.nsIn K mainGlobals "back" = some (some (.ref f32)))
    (l32 : K.lookup f32 = some ⟨oc32, od32, .func (PySem.W.fnOf "back" "back" (defArgs s_back) (defBody s_back) (defScope s_back) .none kV32 dc32 pm32 an32 cd32 ct32), sl32⟩)
    (c32 : PySem.W.codeIn K cd32 "back" = true)
    (k32 : PySem.W.keepIn K (.ref f32) = true)
    (a33 : PySem.W.nsIn K mainGlobals "kind_of" = some (some (.ref f33)))
    (l33 : K.lookup f33 = some ⟨oc33, od33, .func (PySem.W.fnOf "kind_of" "kind_of" (defArgs s_kind_of) (defBody s_kind_of) (defScope s_kind_of) .none kV33 dc33 pm33 an33 cd33 ct33), sl33⟩)
    (c33 : PySem.W.codeIn K cd33 "kind_of" = true)
    (k33 : PySem.W.keepIn K (.ref f33) = true)
    (a34 : PySem.W.nsIn K mainGlobals "axis" = some (some (.ref f34)))
    (l34 : K.lookup f34 = some ⟨oc34, od34, .func (PySem.W.fnOf "axis" "axis" (defArgs s_axis) (defBody s_axis) (defScope s_axis) .none kV34 dc34 pm34 an34 cd34 ct34), sl34⟩)
    (c34 : PySem.W.codeIn K cd34 "axis" = true)
    (k34 : PySem.W.keepIn K (.ref f34) = true)
    (a35 : PySem.W.nsIn K mainGlobals "turning" = some (some (.ref f35)))
    (l35 : K.lookup f35 = some ⟨oc35, od35, .func (PySem.W.fnOf "turning" "turning" (defArgs s_turning) (defBody s_turning) (defScope s_turning) .none kV35 dc35 pm35 an35 cd35 ct35), sl35⟩)
    (c35 : PySem.W.codeIn K cd35 "turning" = true)
    (k35 : PySem.W.keepIn K (.ref f35) = true)
    (a36 : PySem.W.nsIn K mainGlobals "motion_text" = some (some (.ref f36)))
    (l36 : K.lookup f36 = some ⟨oc36, od36, .func (PySem.W.fnOf "motion_text" "motion_text" (defArgs s_motion_text) (defBody s_motion_text) (defScope s_motion_text) .none kV36 dc36 pm36 an36 cd36 ct36), sl36⟩)
    (c36 : PySem.W.codeIn K cd36 "motion_text" = true)
    (k36 : PySem.W.keepIn K (.ref f36) = true)
    (a37 : PySem.W.nsIn K mainGlobals "order_of" = some (some (.ref f37)))
    (l37 : K.lookup f37 = some ⟨oc37, od37, .func (PySem.W.fnOf "order_of" "order_of" (defArgs s_order_of) (defBody s_order_of) (defScope s_order_of) .none kV37 dc37 pm37 an37 cd37 ct37), sl37⟩)
    (c37 : PySem.W.codeIn K cd37 "order_of" = true)
    (k37 : PySem.W.keepIn K (.ref f37) = true)
    (a38 : PySem.W.nsIn K mainGlobals "center" = some (some (.ref f38)))
    (l38 : K.lookup f38 = some ⟨oc38, od38, .func (PySem.W.fnOf "center" "center" (defArgs s_center) (defBody s_center) (defScope s_center) .none kV38 dc38 pm38 an38 cd38 ct38), sl38⟩)
    (c38 : PySem.W.codeIn K cd38 "center" = true)
    (k38 : PySem.W.keepIn K (.ref f38) = true)
    (a39 : PySem.W.nsIn K mainGlobals "_law_points" = some (some (.ref f39)))
    (l39 : K.lookup f39 = some ⟨oc39, od39, .func (PySem.W.fnOf "_law_points" "_law_points" (defArgs s__law_points) (defBody s__law_points) (defScope s__law_points) .none kV39 dc39 pm39 an39 cd39 ct39), sl39⟩)
    (c39 : PySem.W.codeIn K cd39 "_law_points" = true)
    (k39 : PySem.W.keepIn K (.ref f39) = true)
    (a40 : PySem.W.nsIn K mainGlobals "_law_does" = some (some (.ref f40)))
    (l40 : K.lookup f40 = some ⟨oc40, od40, .func (PySem.W.fnOf "_law_does" "_law_does" (defArgs s__law_does) (defBody s__law_does) (defScope s__law_does) .none kV40 dc40 pm40 an40 cd40 ct40), sl40⟩)
    (c40 : PySem.W.codeIn K cd40 "_law_does" = true)
    (k40 : PySem.W.keepIn K (.ref f40) = true)
    (a41 : PySem.W.nsIn K mainGlobals "_law_asked" = some (some (.ref f41)))
    (l41 : K.lookup f41 = some ⟨oc41, od41, .func (PySem.W.fnOf "_law_asked" "_law_asked" (defArgs s__law_asked) (defBody s__law_asked) (defScope s__law_asked) .none kV41 dc41 pm41 an41 cd41 ct41), sl41⟩)
    (c41 : PySem.W.codeIn K cd41 "_law_asked" = true)
    (k41 : PySem.W.keepIn K (.ref f41) = true)
    (a42 : PySem.W.nsIn K mainGlobals "law" = some (some (.ref f42)))
    (l42 : K.lookup f42 = some ⟨oc42, od42, .func (PySem.W.fnOf "law" "law" (defArgs s_law) (defBody s_law) (defScope s_law) .none kV42 dc42 pm42 an42 cd42 ct42), sl42⟩)
    (c42 : PySem.W.codeIn K cd42 "law" = true)
    (k42 : PySem.W.keepIn K (.ref f42) = true)
    (z_isinstance : PySem.W.nsIn K mainGlobals "isinstance" = some none)
    (z_int : PySem.W.nsIn K mainGlobals "int" = some none)
    (z_bool : PySem.W.nsIn K mainGlobals "bool" = some none)
    (z_abs : PySem.W.nsIn K mainGlobals "abs" = some none)
    (z_list : PySem.W.nsIn K mainGlobals "list" = some none)
    (z_len : PySem.W.nsIn K mainGlobals "len" = some none)
    (z_ValueError : PySem.W.nsIn K mainGlobals "ValueError" = some none)
    (z_max : PySem.W.nsIn K mainGlobals "max" = some none)
    (z_all : PySem.W.nsIn K mainGlobals "all" = some none)
    (z_tuple : PySem.W.nsIn K mainGlobals "tuple" = some none)
    (z_range : PySem.W.nsIn K mainGlobals "range" = some none)
    (n_OverError : PySem.W.nsIn K mainGlobals "OverError" = some (some (.ref c_OverError)))
    (n_BadNumber : PySem.W.nsIn K mainGlobals "BadNumber" = some (some (.ref c_BadNumber)))
    (n_BadPoint : PySem.W.nsIn K mainGlobals "BadPoint" = some (some (.ref c_BadPoint)))
    (n_BadMotion : PySem.W.nsIn K mainGlobals "BadMotion" = some (some (.ref c_BadMotion)))
    (n_BadHeap : PySem.W.nsIn K mainGlobals "BadHeap" = some (some (.ref c_BadHeap)))
    (n_BadPairs : PySem.W.nsIn K mainGlobals "BadPairs" = some (some (.ref c_BadPairs)))
    (n_BadName : PySem.W.nsIn K mainGlobals "BadName" = some (some (.ref c_BadName)))
    (n_BadText : PySem.W.nsIn K mainGlobals "BadText" = some (some (.ref c_BadText)))
    (n_NoThing : PySem.W.nsIn K mainGlobals "NoThing" = some (some (.ref c_NoThing)))
    (gs_ : PySem.W.specialIn K (.builtin "object.__class__") "__get__" = some (some (.builtin "getset_descriptor.__get__")))
    (tk_ : PySem.W.takesIn K (.builtin "object.__class__") = some true)
    (x__BadPoint : PySem.W.excIn K c_BadPoint [.type "ValueError", .type "Exception", .type "BaseException", .type "object"] "ValueError.__new__" = true)
    (ga_BadPoint : PySem.W.findIn K (.ref c_BadPoint) "__getattribute__" = some (some (.builtin "BaseException.__getattribute__")))
    (gt_BadPoint : PySem.W.findIn K (.ref c_BadPoint) "__getattr__" = some none)
    (kl_BadPoint : PySem.W.findIn K (.ref c_BadPoint) "__class__" = some (some (.builtin "object.__class__")))
    (be_BadPoint : PySem.W.mroIn K c_BadPoint (.type "BaseException") = some true)
    (ob_BadPoint : PySem.W.mroIn K c_BadPoint (.type "object") = some true)
    (is_BadPoint : PySem.W.clsIn K c_BadPoint = some cd_BadPoint)
    (em_BadPoint : PySem.W.exmOne K (.ref c_BadPoint) (.ref c_OverError) = some true)
    (q0_BadPoint : PySem.W.kitOne K (.ref c_BadPoint) (.ref c_OverError) = some true)
    (q1_BadPoint : PySem.W.kitOne K (.ref c_BadPoint) (.type "ValueError") = some true)
    (r0_BadPoint : PySem.W.kitOne K (.ref c_BadPoint) (.ref c_BadNumber) = some false)
    (r1_BadPoint : PySem.W.kitOne K (.ref c_BadPoint) (.ref c_BadPoint) = some true)
    (r2_BadPoint : PySem.W.kitOne K (.ref c_BadPoint) (.ref c_BadMotion) = some false)
    (r3_BadPoint : PySem.W.kitOne K (.ref c_BadPoint) (.ref c_BadHeap) = some false)
    (r4_BadPoint : PySem.W.kitOne K (.ref c_BadPoint) (.ref c_BadPairs) = some false)
    (r5_BadPoint : PySem.W.kitOne K (.ref c_BadPoint) (.ref c_BadName) = some false)
    (r6_BadPoint : PySem.W.kitOne K (.ref c_BadPoint) (.ref c_BadText) = some false)
    (r7_BadPoint : PySem.W.kitOne K (.ref c_BadPoint) (.ref c_NoThing) = some false)
    (x__BadMotion : PySem.W.excIn K c_BadMotion [.type "ValueError", .type "Exception", .type "BaseException", .type "object"] "ValueError.__new__" = true)
    (ga_BadMotion : PySem.W.findIn K (.ref c_BadMotion) "__getattribute__" = some (some (.builtin "BaseException.__getattribute__")))
    (gt_BadMotion : PySem.W.findIn K (.ref c_BadMotion) "__getattr__" = some none)
    (kl_BadMotion : PySem.W.findIn K (.ref c_BadMotion) "__class__" = some (some (.builtin "object.__class__")))
    (be_BadMotion : PySem.W.mroIn K c_BadMotion (.type "BaseException") = some true)
    (ob_BadMotion : PySem.W.mroIn K c_BadMotion (.type "object") = some true)
    (is_BadMotion : PySem.W.clsIn K c_BadMotion = some cd_BadMotion)
    (em_BadMotion : PySem.W.exmOne K (.ref c_BadMotion) (.ref c_OverError) = some true)
    (q0_BadMotion : PySem.W.kitOne K (.ref c_BadMotion) (.ref c_OverError) = some true)
    (q1_BadMotion : PySem.W.kitOne K (.ref c_BadMotion) (.type "ValueError") = some true)
    (r0_BadMotion : PySem.W.kitOne K (.ref c_BadMotion) (.ref c_BadNumber) = some false)
    (r1_BadMotion : PySem.W.kitOne K (.ref c_BadMotion) (.ref c_BadPoint) = some false)
    (r2_BadMotion : PySem.W.kitOne K (.ref c_BadMotion) (.ref c_BadMotion) = some true)
    (r3_BadMotion : PySem.W.kitOne K (.ref c_BadMotion) (.ref c_BadHeap) = some false)
    (r4_BadMotion : PySem.W.kitOne K (.ref c_BadMotion) (.ref c_BadPairs) = some false)
    (r5_BadMotion : PySem.W.kitOne K (.ref c_BadMotion) (.ref c_BadName) = some false)
    (r6_BadMotion : PySem.W.kitOne K (.ref c_BadMotion) (.ref c_BadText) = some false)
    (r7_BadMotion : PySem.W.kitOne K (.ref c_BadMotion) (.ref c_NoThing) = some false)
    : ∃ fd : FuncData, (∀ (s : Shared) (v : Value), BindsTo s fd ⟨[v], []⟩ [("_law_script", v)]) ∧ ∀ base : Heap, K.In base → base.Ns mainGlobals mg → BMd base mg → FnOk l.prog w K mg base CX0 10 fa fd ["_law_script"] (lSp K 1 sp_law) := by
  have e := hfa.symm.trans (PySem.W.mg_of X G a42)
  cases e
  have m0 := PySem.W.mg_of X G a0
  have m1 := PySem.W.mg_of X G a1
  have m2 := PySem.W.mg_of X G a2
  have m3 := PySem.W.mg_of X G a3
  have m4 := PySem.W.mg_of X G a4
  have m5 := PySem.W.mg_of X G a5
  have m6 := PySem.W.mg_of X G a6
  have m7 := PySem.W.mg_of X G a7
  have m8 := PySem.W.mg_of X G a8
  have m9 := PySem.W.mg_of X G a9
  have m10 := PySem.W.mg_of X G a10
  have m11 := PySem.W.mg_of X G a11
  have m12 := PySem.W.mg_of X G a12
  have m13 := PySem.W.mg_of X G a13
  have m14 := PySem.W.mg_of X G a14
  have m15 := PySem.W.mg_of X G a15
  have m16 := PySem.W.mg_of X G a16
  have m17 := PySem.W.mg_of X G a17
  have m18 := PySem.W.mg_of X G a18
  have m19 := PySem.W.mg_of X G a19
  have m20 := PySem.W.mg_of X G a20
  have m21 := PySem.W.mg_of X G a21
  have m22 := PySem.W.mg_of X G a22
  have m23 := PySem.W.mg_of X G a23
  have m24 := PySem.W.mg_of X G a24
  have m25 := PySem.W.mg_of X G a25
  have m26 := PySem.W.mg_of X G a26
  have m27 := PySem.W.mg_of X G a27
  have m28 := PySem.W.mg_of X G a28
  have m29 := PySem.W.mg_of X G a29
  have m30 := PySem.W.mg_of X G a30
  have m31 := PySem.W.mg_of X G a31
  have m32 := PySem.W.mg_of X G a32
  have m33 := PySem.W.mg_of X G a33
  have m34 := PySem.W.mg_of X G a34
  have m35 := PySem.W.mg_of X G a35
  have m36 := PySem.W.mg_of X G a36
  have m37 := PySem.W.mg_of X G a37
  have m38 := PySem.W.mg_of X G a38
  have m39 := PySem.W.mg_of X G a39
  have m40 := PySem.W.mg_of X G a40
  have m41 := PySem.W.mg_of X G a41
  have m42 := PySem.W.mg_of X G a42
  have y_isinstance := PySem.W.mg_none_of X G z_isinstance
  have y_int := PySem.W.mg_none_of X G z_int
  have y_bool := PySem.W.mg_none_of X G z_bool
  have y_abs := PySem.W.mg_none_of X G z_abs
  have y_list := PySem.W.mg_none_of X G z_list
  have y_len := PySem.W.mg_none_of X G z_len
  have y_ValueError := PySem.W.mg_none_of X G z_ValueError
  have y_max := PySem.W.mg_none_of X G z_max
  have y_all := PySem.W.mg_none_of X G z_all
  have y_tuple := PySem.W.mg_none_of X G z_tuple
  have y_range := PySem.W.mg_none_of X G z_range
  let cs : Cs := ⟨c_OverError, c_BadNumber, c_BadPoint, c_BadMotion, c_BadHeap, c_BadPairs, c_BadName, c_BadText, c_NoThing⟩
  have w_OverError : mg "OverError" = some (.ref cs.over) := PySem.W.mg_of X G n_OverError
  have w_BadNumber : mg "BadNumber" = some (.ref cs.num) := PySem.W.mg_of X G n_BadNumber
  have w_BadPoint : mg "BadPoint" = some (.ref cs.pnt) := PySem.W.mg_of X G n_BadPoint
  have w_BadMotion : mg "BadMotion" = some (.ref cs.mot) := PySem.W.mg_of X G n_BadMotion
  have w_BadHeap : mg "BadHeap" = some (.ref cs.hep) := PySem.W.mg_of X G n_BadHeap
  have w_BadPairs : mg "BadPairs" = some (.ref cs.prs) := PySem.W.mg_of X G n_BadPairs
  have w_BadName : mg "BadName" = some (.ref cs.nam) := PySem.W.mg_of X G n_BadName
  have w_BadText : mg "BadText" = some (.ref cs.txt) := PySem.W.mg_of X G n_BadText
  have w_NoThing : mg "NoThing" = some (.ref cs.non) := PySem.W.mg_of X G n_NoThing
  have R_BadPoint : KitR K cs cs.pnt [false, true, false, false, false, false, false, false] := ⟨⟨ga_BadPoint, gt_BadPoint, kl_BadPoint, be_BadPoint, ob_BadPoint, ⟨_, is_BadPoint⟩, gs_, tk_⟩, em_BadPoint, q0_BadPoint, q1_BadPoint, r0_BadPoint, r1_BadPoint, r2_BadPoint, r3_BadPoint, r4_BadPoint, r5_BadPoint, r6_BadPoint, r7_BadPoint, trivial⟩
  have R_BadMotion : KitR K cs cs.mot [false, false, true, false, false, false, false, false] := ⟨⟨ga_BadMotion, gt_BadMotion, kl_BadMotion, be_BadMotion, ob_BadMotion, ⟨_, is_BadMotion⟩, gs_, tk_⟩, em_BadMotion, q0_BadMotion, q1_BadMotion, r0_BadMotion, r1_BadMotion, r2_BadMotion, r3_BadMotion, r4_BadMotion, r5_BadMotion, r6_BadMotion, r7_BadMotion, trivial⟩
  refine ⟨_, fun s v => .of_eq (show bindArgs (PySem.W.fnOf "law" "law" (defArgs s_law) (defBody s_law) (defScope s_law) .none kV42 dc42 pm42 an42 cd42 ct42) ⟨[v], []⟩ = _ from rfl), fun base _ _ BM => ?_⟩
  have F0 : Fu K "is_whole" s_is_whole f0 _ _ := ⟨⟨_, _, _, _, _, _, _, _, _, rfl, l0, c0⟩, k0⟩
  have T_is_whole := ok_is_whole (cs := cs) (P := l.prog) (w := w) (base := base) ⟨y_isinstance, y_int, y_bool⟩ F0 m0 (.all fun us hl => match us, hl with | [_], _ => rfl)
  have F1 : Fu K "common_divisor" s_common_divisor f1 _ _ := ⟨⟨_, _, _, _, _, _, _, _, _, rfl, l1, c1⟩, k1⟩
  have T_common_divisor := ok_common_divisor (cs := cs) (P := l.prog) (w := w) (base := base) y_abs F1 m1 (.all fun us hl => match us, hl with | [_, _], _ => rfl)
  have F2 : Fu K "flipped" s_flipped f2 _ _ := ⟨⟨_, _, _, _, _, _, _, _, _, rfl, l2, c2⟩, k2⟩
  have T_flipped := ok_flipped (cs := cs) (P := l.prog) (w := w) (base := base) trivial F2 m2 (.all fun us hl => match us, hl with | [_], _ => rfl)
  have F3 : Fu K "is_at_one" s_is_at_one f3 _ _ := ⟨⟨_, _, _, _, _, _, _, _, _, rfl, l3, c3⟩, k3⟩
  have T_is_at_one := ok_is_at_one (cs := cs) (P := l.prog) (w := w) (base := base) trivial F3 m3 (.all fun us hl => match us, hl with | [_], _ => rfl)
  have F4 : Fu K "_law_town" s__law_town f4 _ _ := ⟨⟨_, _, _, _, _, _, _, _, _, rfl, l4, c4⟩, k4⟩
  have T__law_town := ok__law_town (cs := cs) (P := l.prog) (w := w) (base := base) y_list F4 m4 (.all fun us hl => match us, hl with | [_], _ => rfl)
  have F5 : Fu K "_law_draw" s__law_draw f5 _ _ := ⟨⟨_, _, _, _, _, _, _, _, _, rfl, l5, c5⟩, k5⟩
  have T__law_draw := ok__law_draw (cs := cs) (P := l.prog) (w := w) (base := base) y_len F5 m5 (.all fun us hl => match us, hl with | [_, _], _ => rfl)
  have F6 : Fu K "_law_is" s__law_is f6 _ _ := ⟨⟨_, _, _, _, _, _, _, _, _, rfl, l6, c6⟩, k6⟩
  have T__law_is := ok__law_is (cs := cs) (P := l.prog) (w := w) (base := base) ⟨y_isinstance, y_bool⟩ F6 m6 (.all fun us hl => match us, hl with | [_, _], _ => rfl)
  have F7 : Fu K "_law_refusal" s__law_refusal f7 _ _ := ⟨⟨_, _, _, _, _, _, _, _, _, rfl, l7, c7⟩, k7⟩
  have T__law_refusal := ok__law_refusal (cs := cs) (P := l.prog) (w := w) (base := base) ⟨y_isinstance, y_ValueError, w_BadNumber, w_BadPoint, w_BadMotion, w_BadHeap, w_BadPairs, w_BadName, w_BadText, w_NoThing, w_OverError, R_BadPoint, R_BadMotion⟩ F7 m7 (.all fun us hl => match us, hl with | [_], _ => rfl)
  have F8 : Fu K "_law_gcd" s__law_gcd f8 _ _ := ⟨⟨_, _, _, _, _, _, _, _, _, rfl, l8, c8⟩, k8⟩
  have T__law_gcd := ok__law_gcd (cs := cs) (P := l.prog) (w := w) (base := base) y_max F8 m8 (.all fun us hl => match us, hl with | [_, _], _ => rfl)
  have F9 : Fu K "point" s_point f9 _ _ := ⟨⟨_, _, _, _, _, _, _, _, _, rfl, l9, c9⟩, k9⟩
  have T_point := ok_point (cs := cs) (P := l.prog) (w := w) (base := base) ⟨T_is_whole, w_BadPoint, x__BadPoint⟩ F9 m9 (fun s us KI hl => match us, hl with | [_, _, _], _ => BindsTo.of_defaults rfl (KI _ _ d9) rfl rfl rfl)
  have F10 : Fu K "point_divisor" s_point_divisor f10 _ _ := ⟨⟨_, _, _, _, _, _, _, _, _, rfl, l10, c10⟩, k10⟩
  have T_point_divisor := ok_point_divisor (cs := cs) (P := l.prog) (w := w) (base := base) T_common_divisor F10 m10 (.all fun us hl => match us, hl with | [_, _, _], _ => rfl)
  have F11 : Fu K "is_flip" s_is_flip f11 _ _ := ⟨⟨_, _, _, _, _, _, _, _, _, rfl, l11, c11⟩, k11⟩
  have T_is_flip := ok_is_flip (cs := cs) (P := l.prog) (w := w) (base := base) T_is_whole F11 m11 (.all fun us hl => match us, hl with | [_], _ => rfl)
  have F12 : Fu K "faced" s_faced f12 _ _ := ⟨⟨_, _, _, _, _, _, _, _, _, rfl, l12, c12⟩, k12⟩
  have T_faced := ok_faced (cs := cs) (P := l.prog) (w := w) (base := base) T_flipped F12 m12 (.all fun us hl => match us, hl with | [_, _], _ => rfl)
  have F13 : Fu K "_law_pick" s__law_pick f13 _ _ := ⟨⟨_, _, _, _, _, _, _, _, _, rfl, l13, c13⟩, k13⟩
  have T__law_pick := ok__law_pick (cs := cs) (P := l.prog) (w := w) (base := base) ⟨T__law_draw, y_len⟩ F13 m13 (.all fun us hl => match us, hl with | [_, _], _ => rfl)
  have F14 : Fu K "_law_low" s__law_low f14 _ _ := ⟨⟨_, _, _, _, _, _, _, _, _, rfl, l14, c14⟩, k14⟩
  have T__law_low := ok__law_low (cs := cs) (P := l.prog) (w := w) (base := base) T__law_gcd F14 m14 (.all fun us hl => match us, hl with | [_, _, _], _ => rfl)
  have F15 : Fu K "is_point" s_is_point f15 _ _ := ⟨⟨_, _, _, _, _, _, _, _, _, rfl, l15, c15⟩, k15⟩
  have T_is_point := ok_is_point (cs := cs) (P := l.prog) (w := w) (base := base) ⟨T_point_divisor, T_is_whole, y_all, y_isinstance, y_tuple, y_len⟩ F15 m15 (.all fun us hl => match us, hl with | [_], _ => rfl)
  have F16 : Fu K "lowest" s_lowest f16 _ _ := ⟨⟨_, _, _, _, _, _, _, _, _, rfl, l16, c16⟩, k16⟩
  have T_lowest := ok_lowest (cs := cs) (P := l.prog) (w := w) (base := base) T_point_divisor F16 m16 (.all fun us hl => match us, hl with | [_, _, _], _ => rfl)
  have F17 : Fu K "_law_point" s__law_point f17 _ _ := ⟨⟨_, _, _, _, _, _, _, _, _, rfl, l17, c17⟩, k17⟩
  have T__law_point := ok__law_point (cs := cs) (P := l.prog) (w := w) (base := base) ⟨T__law_low, T__law_draw, T__law_pick⟩ F17 m17 (.all fun us hl => match us, hl with | [_, _], _ => rfl)
  have F18 : Fu K "_law_turn" s__law_turn f18 _ _ := ⟨⟨_, _, _, _, _, _, _, _, _, rfl, l18, c18⟩, k18⟩
  have T__law_turn := ok__law_turn (cs := cs) (P := l.prog) (w := w) (base := base) ⟨T__law_pick, T__law_low⟩ F18 m18 (.all fun us hl => match us, hl with | [_], _ => rfl)
  have F19 : Fu K "_law_made" s__law_made f19 _ _ := ⟨⟨_, _, _, _, _, _, _, _, _, rfl, l19, c19⟩, k19⟩
  have T__law_made := ok__law_made (cs := cs) (P := l.prog) (w := w) (base := base) ⟨T_point, T__law_refusal, w_OverError, R_BadPoint, R_BadMotion⟩ F19 m19 (.all fun us hl => match us, hl with | [_, _, _], _ => rfl)
  have F20 : Fu K "need_points" s_need_points f20 _ _ := ⟨⟨_, _, _, _, _, _, _, _, _, rfl, l20, c20⟩, k20⟩
  have T_need_points := ok_need_points (cs := cs) (P := l.prog) (w := w) (base := base) ⟨T_is_point, w_BadPoint, x__BadPoint⟩ F20 m20 (fun us => by cases us <;> rfl)
  have F21 : Fu K "difference" s_difference f21 _ _ := ⟨⟨_, _, _, _, _, _, _, _, _, rfl, l21, c21⟩, k21⟩
  have T_difference := ok_difference (cs := cs) (P := l.prog) (w := w) (base := base) T_lowest F21 m21 (.all fun us hl => match us, hl with | [_, _], _ => rfl)
  have F22 : Fu K "product" s_product f22 _ _ := ⟨⟨_, _, _, _, _, _, _, _, _, rfl, l22, c22⟩, k22⟩
  have T_product := ok_product (cs := cs) (P := l.prog) (w := w) (base := base) T_lowest F22 m22 (.all fun us hl => match us, hl with | [_, _], _ => rfl)
  have F23 : Fu K "is_motion" s_is_motion f23 _ _ := ⟨⟨_, _, _, _, _, _, _, _, _, rfl, l23, c23⟩, k23⟩
  have T_is_motion := ok_is_motion (cs := cs) (P := l.prog) (w := w) (base := base) ⟨T_is_at_one, T_is_point, T_is_flip, y_isinstance, y_tuple, y_len⟩ F23 m23 (.all fun us hl => match us, hl with | [_], _ => rfl)
  have F24 : Fu K "_law_motion" s__law_motion f24 _ _ := ⟨⟨_, _, _, _, _, _, _, _, _, rfl, l24, c24⟩, k24⟩
  have T__law_motion := ok__law_motion (cs := cs) (P := l.prog) (w := w) (base := base) ⟨T__law_turn, T__law_point, T__law_draw⟩ F24 m24 (.all fun us hl => match us, hl with | [_], _ => rfl)
  have F25 : Fu K "is_ahead" s_is_ahead f25 _ _ := ⟨⟨_, _, _, _, _, _, _, _, _, rfl, l25, c25⟩, k25⟩
  have T_is_ahead := ok_is_ahead (cs := cs) (P := l.prog) (w := w) (base := base) T_need_points F25 m25 (.all fun us hl => match us, hl with | [_, _], _ => rfl)
  have F26 : Fu K "square_gap" s_square_gap f26 _ _ := ⟨⟨_, _, _, _, _, _, _, _, _, rfl, l26, c26⟩, k26⟩
  have T_square_gap := ok_square_gap (cs := cs) (P := l.prog) (w := w) (base := base) T_need_points F26 m26 (.all fun us hl => match us, hl with | [_, _], _ => rfl)
  have F27 : Fu K "shifting" s_shifting f27 _ _ := ⟨⟨_, _, _, _, _, _, _, _, _, rfl, l27, c27⟩, k27⟩
  have T_shifting := ok_shifting (cs := cs) (P := l.prog) (w := w) (base := base) T_need_points F27 m27 (.all fun us hl => match us, hl with | [_, _], _ => rfl)
  have F28 : Fu K "need_motions" s_need_motions f28 _ _ := ⟨⟨_, _, _, _, _, _, _, _, _, rfl, l28, c28⟩, k28⟩
  have T_need_motions := ok_need_motions (cs := cs) (P := l.prog) (w := w) (base := base) ⟨T_is_motion, w_BadMotion, x__BadMotion⟩ F28 m28 (fun us => by cases us <;> rfl)
  have F29 : Fu K "bringing" s_bringing f29 _ _ := ⟨⟨_, _, _, _, _, _, _, _, _, rfl, l29, c29⟩, k29⟩
  have T_bringing := ok_bringing (cs := cs) (P := l.prog) (w := w) (base := base) ⟨T_difference, T_product, T_faced⟩ F29 m29 (.all fun us hl => match us, hl with | [_, _, _, _], _ => rfl)
  have F30 : Fu K "led" s_led f30 _ _ := ⟨⟨_, _, _, _, _, _, _, _, _, rfl, l30, c30⟩, k30⟩
  have T_led := ok_led (cs := cs) (P := l.prog) (w := w) (base := base) ⟨T_need_motions, T_need_points⟩ F30 m30 (.all fun us hl => match us, hl with | [_, _], _ => rfl)
  have F31 : Fu K "then" s_then f31 _ _ := ⟨⟨_, _, _, _, _, _, _, _, _, rfl, l31, c31⟩, k31⟩
  have T_then := ok_then (cs := cs) (P := l.prog) (w := w) (base := base) T_need_motions F31 m31 (.all fun us hl => match us, hl with | [_, _], _ => rfl)
  have F32 : Fu K "back" s_back f32 _ _ := ⟨⟨_, _, _, _, _, _, _, _, _, rfl, l32, c32⟩, k32⟩
  have T_back := ok_back (cs := cs) (P := l.prog) (w := w) (base := base) T_need_motions F32 m32 (.all fun us hl => match us, hl with | [_], _ => rfl)
  have F33 : Fu K "kind_of" s_kind_of f33 _ _ := ⟨⟨_, _, _, _, _, _, _, _, _, rfl, l33, c33⟩, k33⟩
  have T_kind_of := ok_kind_of (cs := cs) (P := l.prog) (w := w) (base := base) T_need_motions F33 m33 (.all fun us hl => match us, hl with | [_], _ => rfl)
  have F34 : Fu K "axis" s_axis f34 _ _ := ⟨⟨_, _, _, _, _, _, _, _, _, rfl, l34, c34⟩, k34⟩
  have T_axis := ok_axis (cs := cs) (P := l.prog) (w := w) (base := base) T_need_motions F34 m34 (.all fun us hl => match us, hl with | [_], _ => rfl)
  have F35 : Fu K "turning" s_turning f35 _ _ := ⟨⟨_, _, _, _, _, _, _, _, _, rfl, l35, c35⟩, k35⟩
  have T_turning := ok_turning (cs := cs) (P := l.prog) (w := w) (base := base) ⟨T_need_points, T_bringing, T_is_at_one, w_BadMotion, x__BadMotion⟩ F35 m35 (.all fun us hl => match us, hl with | [_, _], _ => rfl)
  have F36 : Fu K "motion_text" s_motion_text f36 _ _ := ⟨⟨_, _, _, _, _, _, _, _, _, rfl, l36, c36⟩, k36⟩
  have T_motion_text := ok_motion_text (cs := cs) (P := l.prog) (w := w) (base := base) T_need_motions F36 m36 (.all fun us hl => match us, hl with | [_], _ => rfl)
  have F37 : Fu K "order_of" s_order_of f37 _ _ := ⟨⟨_, _, _, _, _, _, _, _, _, rfl, l37, c37⟩, k37⟩
  have T_order_of := ok_order_of (cs := cs) (P := l.prog) (w := w) (base := base) T_kind_of F37 m37 (.all fun us hl => match us, hl with | [_], _ => rfl)
  have F38 : Fu K "center" s_center f38 _ _ := ⟨⟨_, _, _, _, _, _, _, _, _, rfl, l38, c38⟩, k38⟩
  have T_center := ok_center (cs := cs) (P := l.prog) (w := w) (base := base) T_kind_of F38 m38 (.all fun us hl => match us, hl with | [_], _ => rfl)
  have F39 : Fu K "_law_points" s__law_points f39 _ _ := ⟨⟨_, _, _, _, _, _, _, _, _, rfl, l39, c39⟩, k39⟩
  have T__law_points := ok__law_points (cs := cs) (P := l.prog) (w := w) (base := base) ⟨T_is_ahead, T_square_gap, T_shifting, T_turning⟩ F39 m39 (.all fun us hl => match us, hl with | [_, _, _], _ => rfl)
  have F40 : Fu K "_law_does" s__law_does f40 _ _ := ⟨⟨_, _, _, _, _, _, _, _, _, rfl, l40, c40⟩, k40⟩
  have T__law_does := ok__law_does (cs := cs) (P := l.prog) (w := w) (base := base) ⟨T_led, T_then, T_back, T_kind_of, T_order_of, T_center, T_axis, T_motion_text⟩ F40 m40 (.all fun us hl => match us, hl with | [_, _, _], _ => rfl)
  have F41 : Fu K "_law_asked" s__law_asked f41 _ _ := ⟨⟨_, _, _, _, _, _, _, _, _, rfl, l41, c41⟩, k41⟩
  have T__law_asked := ok__law_asked (cs := cs) (P := l.prog) (w := w) (base := base) ⟨T__law_refusal, T__law_does, T__law_points, w_OverError, R_BadPoint, R_BadMotion⟩ F41 m41 (.all fun us hl => match us, hl with | [_, _, _], _ => rfl)
  have F42 : Fu K "law" s_law fa _ _ := ⟨⟨_, _, _, _, _, _, _, _, _, rfl, l42, c42⟩, k42⟩
  exact ok_law (cs := cs) (P := l.prog) (w := w) (base := base) ⟨T__law_town, T__law_point, T__law_motion, T__law_is, T__law_asked, T__law_made, T_is_ahead, T_is_motion, T_is_point, y_range⟩ F42
end Pr
open PySem PySem.W PyProof.Rows
set_option maxRecDepth 100000 in
set_option maxHeartbeats 0 in
theorem PySem.Challenge.cw_laidover_k04_motions_refused_holds : PySem.Challenge.rw_laidover_k04_motions_refused.Holds := by
  w_on; o_law; k_head; (case hw => w_witness2)
  k_fill
  refine L3.walkD (l := PySem.Challenge.rw_laidover_k04_motions_refused) (x := "_law_script") (k := 10) (dsp := Pr.sp_law) rfl rfl ⟨rfl, by decide, by decide⟩ (ts := []) (fun w h Y => ⟨PySem.W.kIn_of Y, fun P h => nomatch h⟩) ?T1 ?T2 (fun ns hl => ⟨ns, rfl, hl, ⟨_, rfl⟩, fun _ => rfl⟩) ?F
  case T1 => intro p; kernel_rfl
  case T2 => intro p; kernel_rfl
  case F =>
    intro w mg fa h KX G hmg
    refine' Pr.all_mk KX G hmg ?a0 ?l0 ?c0 ?k0 ?a1 ?l1 ?c1 ?k1 ?a2 ?l2 ?c2 ?k2 ?a3 ?l3 ?c3 ?k3 ?a4 ?l4 ?c4 ?k4 ?a5 ?l5 ?c5 ?k5 ?a6 ?l6 ?c6 ?k6 ?a7 ?l7 ?c7 ?k7 ?a8 ?l8 ?c8 ?k8 ?a9 ?l9 ?c9 ?k9 ?d9 ?a10 ?l10 ?c10 ?k10 ?a11 ?l11 ?c11 ?k11 ?a12 ?l12 ?c12 ?k12 ?a13 ?l13 ?c13 ?k13 ?a14 ?l14 ?c14 ?k14 ?a15 ?l15 ?c15 ?k15 ?a16 ?l16 ?c16 ?k16 ?a17 ?l17 ?c17 ?k17 ?a18 ?l18 ?c18 ?k18 ?a19 ?l19 ?c19 ?k19 ?a20 ?l20 ?c20 ?k20 ?a21 ?l21 ?c21 ?k21 ?a22 ?l22 ?c22 ?k22 ?a23 ?l23 ?c23 ?k23 ?a24 ?l24 ?c24 ?k24 ?a25 ?l25 ?c25 ?k25 ?a26 ?l26 ?c26 ?k26 ?a27 ?l27 ?c27 ?k27 ?a28 ?l28 ?c28 ?k28 ?a29 ?l29 ?c29 ?k29 ?a30 ?l30 ?c30 ?k30 ?a31 ?l31 ?c31 ?k31 ?a32 ?l32 ?c32 ?k32 ?a33 ?l33 ?c33 ?k33 ?a34 ?l34 ?c34 ?k34 ?a35 ?l35 ?c35 ?k35 ?a36 ?l36 ?c36 ?k36 ?a37 ?l37 ?c37 ?k37 ?a38 ?l38 ?c38 ?k38 ?a39 ?l39 ?c39 ?k39 ?a40 ?l40 ?c40 ?k40 ?a41 ?l41 ?c41 ?k41 ?a42 ?l42 ?c42 ?k42 ?z_isinstance ?z_int ?z_bool ?z_abs ?z_list ?z_len ?z_ValueError ?z_max ?z_all ?z_tuple ?z_range ?n_OverError ?n_BadNumber ?n_BadPoint ?n_BadMotion ?n_BadHeap ?n_BadPairs ?n_BadName ?n_BadText ?n_NoThing ?gs_ ?tk_ ?x__BadPoint ?ga_BadPoint ?gt_BadPoint ?kl_BadPoint ?be_BadPoint ?ob_BadPoint ?is_BadPoint ?em_BadPoint ?q0_BadPoint ?q1_BadPoint ?r0_BadPoint ?r1_BadPoint ?r2_BadPoint ?r3_BadPoint ?r4_BadPoint ?r5_BadPoint ?r6_BadPoint ?r7_BadPoint ?x__BadMotion ?ga_BadMotion ?gt_BadMotion ?kl_BadMotion ?be_BadMotion ?ob_BadMotion ?is_BadMotion ?em_BadMotion ?q0_BadMotion ?q1_BadMotion ?r0_BadMotion ?r1_BadMotion ?r2_BadMotion ?r3_BadMotion ?r4_BadMotion ?r5_BadMotion ?r6_BadMotion ?r7_BadMotion
    (case a0 => k_is)
    (case l0 => k_is)
    (case c0 => k_is)
    (case k0 => k_is)
    (case a1 => k_is)
    (case l1 => k_is)
    (case c1 => k_is)
    (case k1 => k_is)
    (case a2 => k_is)
    (case l2 => k_is)
    (case c2 => k_is)
    (case k2 => k_is)
    (case a3 => k_is)
    (case l3 => k_is)
    (case c3 => k_is)
    (case k3 => k_is)
    (case a4 => k_is)
    (case l4 => k_is)
    (case c4 => k_is)
    (case k4 => k_is)
    (case a5 => k_is)
    (case l5 => k_is)
    (case c5 => k_is)
    (case k5 => k_is)
    (case a6 => k_is)
    (case l6 => k_is)
    (case c6 => k_is)
    (case k6 => k_is)
    (case a7 => k_is)
    (case l7 => k_is)
    (case c7 => k_is)
    (case k7 => k_is)
    (case a8 => k_is)
    (case l8 => k_is)
    (case c8 => k_is)
    (case k8 => k_is)
    (case a9 => k_is)
    (case l9 => k_is)
    (case c9 => k_is)
    (case k9 => k_is)
    (case d9 => k_is)
    (case a10 => k_is)
    (case l10 => k_is)
    (case c10 => k_is)
    (case k10 => k_is)
    (case a11 => k_is)
    (case l11 => k_is)
    (case c11 => k_is)
    (case k11 => k_is)
    (case a12 => k_is)
    (case l12 => k_is)
    (case c12 => k_is)
    (case k12 => k_is)
    (case a13 => k_is)
    (case l13 => k_is)
    (case c13 => k_is)
    (case k13 => k_is)
    (case a14 => k_is)
    (case l14 => k_is)
    (case c14 => k_is)
    (case k14 => k_is)
    (case a15 => k_is)
    (case l15 => k_is)
    (case c15 => k_is)
    (case k15 => k_is)
    (case a16 => k_is)
    (case l16 => k_is)
    (case c16 => k_is)
    (case k16 => k_is)
    (case a17 => k_is)
    (case l17 => k_is)
    (case c17 => k_is)
    (case k17 => k_is)
    (case a18 => k_is)
    (case l18 => k_is)
    (case c18 => k_is)
    (case k18 => k_is)
    (case a19 => k_is)
    (case l19 => k_is)
    (case c19 => k_is)
    (case k19 => k_is)
    (case a20 => k_is)
    (case l20 => k_is)
    (case c20 => k_is)
    (case k20 => k_is)
    (case a21 => k_is)
    (case l21 => k_is)
    (case c21 => k_is)
    (case k21 => k_is)
    (case a22 => k_is)
    (case l22 => k_is)
    (case c22 => k_is)
    (case k22 => k_is)
    (case a23 => k_is)
    (case l23 => k_is)
    (case c23 => k_is)
    (case k23 => k_is)
    (case a24 => k_is)
    (case l24 => k_is)
    (case c24 => k_is)
    (case k24 => k_is)
    (case a25 => k_is)
    (case l25 => k_is)
    (case c25 => k_is)
    (case k25 => k_is)
    (case a26 => k_is)
    (case l26 => k_is)
    (case c26 => k_is)
    (case k26 => k_is)
    (case a27 => k_is)
    (case l27 => k_is)
    (case c27 => k_is)
    (case k27 => k_is)
    (case a28 => k_is)
    (case l28 => k_is)
    (case c28 => k_is)
    (case k28 => k_is)
    (case a29 => k_is)
    (case l29 => k_is)
    (case c29 => k_is)
    (case k29 => k_is)
    (case a30 => k_is)
    (case l30 => k_is)
    (case c30 => k_is)
    (case k30 => k_is)
    (case a31 => k_is)
    (case l31 => k_is)
    (case c31 => k_is)
    (case k31 => k_is)
    (case a32 => k_is)
    (case l32 => k_is)
    (case c32 => k_is)
    (case k32 => k_is)
    (case a33 => k_is)
    (case l33 => k_is)
    (case c33 => k_is)
    (case k33 => k_is)
    (case a34 => k_is)
    (case l34 => k_is)
    (case c34 => k_is)
    (case k34 => k_is)
    (case a35 => k_is)
    (case l35 => k_is)
    (case c35 => k_is)
    (case k35 => k_is)
    (case a36 => k_is)
    (case l36 => k_is)
    (case c36 => k_is)
    (case k36 => k_is)
    (case a37 => k_is)
    (case l37 => k_is)
    (case c37 => k_is)
    (case k37 => k_is)
    (case a38 => k_is)
    (case l38 => k_is)
    (case c38 => k_is)
    (case k38 => k_is)
    (case a39 => k_is)
    (case l39 => k_is)
    (case c39 => k_is)
    (case k39 => k_is)
    (case a40 => k_is)
    (case l40 => k_is)
    (case c40 => k_is)
    (case k40 => k_is)
    (case a41 => k_is)
    (case l41 => k_is)
    (case c41 => k_is)
    (case k41 => k_is)
    (case a42 => k_is)
    (case l42 => k_is)
    (case c42 => k_is)
    (case k42 => k_is)
    (case z_isinstance => k_is)
    (case z_int => k_is)
    (case z_bool => k_is)
    (case z_abs => k_is)
    (case z_list => k_is)
    (case z_len => k_is)
    (case z_ValueError => k_is)
    (case z_max => k_is)
    (case z_all => k_is)
    (case z_tuple => k_is)
    (case z_range => k_is)
    (case n_OverError => k_is)
    (case n_BadNumber => k_is)
    (case n_BadPoint => k_is)
    (case n_BadMotion => k_is)
    (case n_BadHeap => k_is)
    (case n_BadPairs => k_is)
    (case n_BadName => k_is)
    (case n_BadText => k_is)
    (case n_NoThing => k_is)
    (case gs_ => k_is)
    (case tk_ => k_is)
    (case x__BadPoint => k_exc)
    (case ga_BadPoint => k_is)
    (case gt_BadPoint => k_is)
    (case kl_BadPoint => k_is)
    (case be_BadPoint => k_is)
    (case ob_BadPoint => k_is)
    (case is_BadPoint => k_is)
    (case em_BadPoint => kts_exm)
    (case q0_BadPoint => kit_is)
    (case q1_BadPoint => kit_is)
    (case r0_BadPoint => kit_is)
    (case r1_BadPoint => kit_is)
    (case r2_BadPoint => kit_is)
    (case r3_BadPoint => kit_is)
    (case r4_BadPoint => kit_is)
    (case r5_BadPoint => kit_is)
    (case r6_BadPoint => kit_is)
    (case r7_BadPoint => kit_is)
    (case x__BadMotion => k_exc)
    (case ga_BadMotion => k_is)
    (case gt_BadMotion => k_is)
    (case kl_BadMotion => k_is)
    (case be_BadMotion => k_is)
    (case ob_BadMotion => k_is)
    (case is_BadMotion => k_is)
    (case em_BadMotion => kts_exm)
    (case q0_BadMotion => kit_is)
    (case q1_BadMotion => kit_is)
    (case r0_BadMotion => kit_is)
    (case r1_BadMotion => kit_is)
    (case r2_BadMotion => kit_is)
    (case r3_BadMotion => kit_is)
    (case r4_BadMotion => kit_is)
    (case r5_BadMotion => kit_is)
    (case r6_BadMotion => kit_is)
    (case r7_BadMotion => kit_is)
