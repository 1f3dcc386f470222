import PyProof.Rows.All
import Wide.All
import OpenK.AllK
import Wide.FinOn
import PyProof.EqAt
import PyProof.EqKinds
import PyProof.TupleCall
import KE.BitLaws
import Open.SpecLaws
import KE.OsHead
import KE.OsGo
import Rb19Spec
import PySem.Challenge.RW_versionpick_s01_answers
import KE.KSortAsk
import KE.KSortKeyAny
import KE.KSortTupG
import KE.KLam
import PyRb19
set_option Elab.async false
set_option linter.all false
set_option maxRecDepth 100000
namespace L2
open PySem PySem.Spec PyProof.Rows
abbrev Key := Sum Int Str
def keyIs : Key → Value → Bool
  | .inl k, v => Value.isInt k v
  | .inr x, v => Value.isStrOf x v
def keyH (w : World) : Key → Int
  | .inl k => hashInt k
  | .inr x => hashStr w x
theorem keyIs_shape : ∀ {k : Key} {v : Value}, keyIs k v = true → (∃ i t, k = Sum.inl i ∧ v = Value.int i t) ∨ (∃ x t, k = Sum.inr x ∧ v = Value.str x t)
  | .inl i, v, h => by
    obtain ⟨t, e⟩ := Value.isInt_shape (k := i) (v := v) h
    exact .inl ⟨i, t, rfl, e⟩
  | .inr x, v, h => by
    obtain ⟨t, e⟩ := Value.isStrOf_shape (x := x) (v := v) h
    exact .inr ⟨x, t, rfl, e⟩
theorem keyIs_int (i : Int) (t : Tok) : keyIs (.inl i) (.int i t) = true := by simp [keyIs, Value.isInt]
theorem keyIs_str (x : Str) (t : Tok) : keyIs (.inr x) (.str x t) = true := by simp [keyIs, Value.isStrOf]
theorem key_ll (a b : Int) : decide ((Sum.inl a : Key) = Sum.inl b) = (a == b) := by
  by_cases e : a = b
  · subst e; simp
  · have h : ¬ (Sum.inl a : Key) = Sum.inl b := fun q => e (Sum.inl.inj q)
    rw [decide_eq_false h]
    exact (beq_eq_false_iff_ne.mpr e).symm
theorem key_rr (a b : Str) : decide ((Sum.inr a : Key) = Sum.inr b) = decide (a = b) := by
  by_cases e : a = b
  · subst e; simp
  · have h : ¬ (Sum.inr a : Key) = Sum.inr b := fun q => e (Sum.inr.inj q)
    rw [decide_eq_false h, decide_eq_false e]
theorem key_lr (a : Int) (b : Str) : decide ((Sum.inl a : Key) = Sum.inr b) = false := decide_eq_false (fun q => nomatch q)
theorem key_rl (a : Str) (b : Int) : decide ((Sum.inr a : Key) = Sum.inl b) = false := decide_eq_false (fun q => nomatch q)
def mixKind (prog : Program) (w : World) : PySem.KeyKind prog w Key where
  is := keyIs
  hash := keyH w
  inj := fun v a b ha hb => by
    rcases keyIs_shape ha with ⟨i, t, rfl, rfl⟩ | ⟨x, t, rfl, rfl⟩
    · rcases keyIs_shape hb with ⟨j, u, rfl, e⟩ | ⟨y, u, rfl, e⟩
      · injection e with e1 _; rw [e1]
      · exact nomatch e
    · rcases keyIs_shape hb with ⟨j, u, rfl, e⟩ | ⟨y, u, rfl, e⟩
      · exact nomatch e
      · injection e with e1 _; rw [e1]
  byValue := fun k v h => by
    rcases keyIs_shape h with ⟨i, t, rfl, rfl⟩ | ⟨x, t, rfl, rfl⟩ <;> rfl
  pyHash := fun hv h => by
    rcases keyIs_shape hv with ⟨i, t, rfl, rfl⟩ | ⟨x, t, rfl, rfl⟩
    · exact wpAny_pyHash_int h
    · exact wpAny_pyHash_str h
  eqBool := fun hu hv h => by
    rcases keyIs_shape hu with ⟨i, t, rfl, rfl⟩ | ⟨x, t, rfl, rfl⟩
    · rcases keyIs_shape hv with ⟨j, u, rfl, rfl⟩ | ⟨y, u, rfl, rfl⟩
      · rw [key_ll] at h; exact wpAny_eqBool_int h
      · rw [key_lr] at h; exact SeqAt.EqAt.int_str i t y u _ _ _ _ h
    · rcases keyIs_shape hv with ⟨j, u, rfl, rfl⟩ | ⟨y, u, rfl, rfl⟩
      · rw [key_rl] at h; exact SeqAt.EqAt.str_int x t j u _ _ _ _ h
      · rw [key_rr] at h; exact wpAny_eqBool_str h
  «strs» := fun k x t v h => by
    rcases keyIs_shape h with ⟨i, u, rfl, e⟩ | ⟨y, u, rfl, e⟩
    · exact nomatch e
    · injection e with e1 _
      subst e1
      cases v <;> rfl
theorem mixKind_int (prog : Program) (w : World) (i : Int) (t : Tok) : (mixKind prog w).is (.inl i) (.int i t) = true := keyIs_int i t
theorem mixKind_str (prog : Program) (w : World) (x : Str) (t : Tok) : (mixKind prog w).is (.inr x) (.str x t) = true := keyIs_str x t
end L2
namespace L2
open PySem PySem.Spec PyProof.Rows
inductive V where
  | non | bl (b : Bool) | int (i : Int) | str (x : Str) | byt (b : Array UInt8) | flt (b : UInt64) | ref (a : Addr) | ty (n : String)
  deriving DecidableEq
def RelV : V → Value → Prop
  | .non, u => u = Value.none
  | .bl b, u => u = Value.bool b
  | .int i, u => ∃ t, u = Value.int i t
  | .str x, u => ∃ t, u = Value.str x t
  | .byt b, u => ∃ t, u = Value.bytes b t
  | .flt b, u => ∃ t, u = Value.float b t
  | .ref a, u => u = Value.ref a
  | .ty n, u => u = Value.type n
abbrev Vals : List V → List Value → Prop := Paired RelV
theorem Vals.length {xs : List V} {us : List Value} (r : Vals xs us) : xs.length = us.length := Paired.length r
theorem Vals.get : ∀ {xs : List V} {us : List Value} {i : Nat} {x : V}, Vals xs us → xs[i]? = some x → ∃ u, us[i]? = some u ∧ RelV x u
  | _, _, _, _, .nil, e => by simp at e
  | _, _, 0, _, .cons r _, e => by simp at e; subst e; exact ⟨_, rfl, r⟩
  | _, _, i + 1, x, .cons _ t, e => by
    obtain ⟨u, h1, h2⟩ := Vals.get (i := i) (x := x) t (by simpa using e)
    exact ⟨u, by simpa using h1, h2⟩
theorem Vals.append : ∀ {xs ys : List V} {us ws : List Value}, Vals xs us → Vals ys ws → Vals (xs ++ ys) (us ++ ws)
  | _, _, _, _, .nil, s => s
  | _, _, _, _, .cons r t, s => .cons r (Vals.append t s)
theorem Vals.take : ∀ {xs : List V} {us : List Value} (n : Nat), Vals xs us → Vals (xs.take n) (us.take n)
  | _, _, 0, _ => .nil
  | _, _, _ + 1, .nil => .nil
  | _, _, n + 1, .cons r t => .cons r (Vals.take n t)
theorem Vals.drop : ∀ {xs : List V} {us : List Value} (n : Nat), Vals xs us → Vals (xs.drop n) (us.drop n)
  | _, _, 0, r => r
  | _, _, _ + 1, .nil => .nil
  | _, _, n + 1, .cons _ t => Vals.drop n t
def RelO : Option V → Option Value → Prop
  | some v, some u => RelV v u
  | none, none => True
  | _, _ => False
def KV {κ : Type} : List (κ × V) → List (κ × Value) → Prop := Paired fun (p : κ × V) (q : κ × Value) => p.1 = q.1 ∧ RelV p.2 q.2
def kV : Key → V
  | .inl i => .int i
  | .inr x => .str x
inductive HO where
  | lst (xs : List V)
  | tup (xs : List V)
  | dK (kvs : List (Key × V)) | dT (kvs : List (List Key × V))
  | set (S : Int → Bool) (n : Nat)
  | ins (C dx : Addr) (fs : List (Str × V))
  | own (x : Addr)
  | xd (fs : List (Str × V))
  | met (f x : Addr)
  | rng (lo hi : Int)
  | frz (o : Obj) (u : HO)
  | tbl (ps : Array Value)
  | ext (φ : Heap → Prop)
abbrev Hp := Addr → Option HO
def upd (H : Hp) (a : Addr) (o : HO) : Hp := fun b => if b = a then some o else H b
theorem upd_same {H : Hp} {a : Addr} {o : HO} : upd H a o a = some o := by unfold upd; rw [if_pos rfl]
theorem upd_ne {H : Hp} {a b : Addr} {o : HO} (h : b ≠ a) : upd H a o b = H b := by unfold upd; rw [if_neg h]
theorem upd_upd {H : Hp} {a : Addr} {o u : HO} : upd (upd H a o) a u = upd H a u := by
  funext b; unfold upd; split <;> rfl
theorem ne_of {H : Hp} {a b : Addr} {o u : HO} (h : H a = some o) (h' : H b = some u) (d : o ≠ u) : a ≠ b := by
  intro e; subst e; rw [h] at h'; exact d (Option.some.inj h')
theorem ne_of_none {H : Hp} {a b : Addr} {o : HO} (h : H a = some o) (h' : H b = none) : a ≠ b := by
  intro e; subst e; rw [h] at h'; cases h'
section
variable (P : Program) (w : World)
def ObjOk (H : Hp) (h : Heap) (a : Addr) : HO → Prop
  | .lst xs => xs.length ≤ sizeLine ∧ ∃ (its : List Value) (n : Nat), Vals xs its ∧ h.get? a = some { cls := .type "list", data := .seq its.toArray n }
  | .tup xs => xs.length ≤ sizeLine ∧ ∃ its : List Value, Vals xs its ∧ IsTup h a its.toArray
  | .dK kvs => kvs.length ≤ sizeLine ∧ (a == sysModules) = false ∧ ∃ vs, KV kvs vs ∧ h.DictOf (mixKind P w) a vs
  | .dT kvs => kvs.length ≤ sizeLine ∧ (a == sysModules) = false ∧ ∃ xs : List (List Key × Addr × Value),
      Paired (fun (p : List Key × V) (q : List Key × Addr × Value) => p.1 = q.1 ∧ H q.2.1 = some (.tup (p.1.map kV)) ∧ RelV p.2 q.2.2) kvs xs ∧
      ∃ o es ep, h.get? a = some o ∧ o.ExactDict ∧ o.data = .dict es ep ∧ es.toList = xs.map (entryOfKey (tupleKind (mixKind P w))) ∧ (xs.map (·.1)).Nodup
  | .set S n => h.SetOf (intKind P w) a S n
  | .ins C dx fs => H dx = some (.own a) ∧ fs.length ≤ 1000 ∧ dx ≠ a ∧ h.get? a = some (PySem.W.instObj C dx) ∧
      ∃ mA, h.Ns1 dx mA ∧ (∀ f, RelO (fs.lookup f) (mA f)) ∧ PySem.Within mA (fs.map (·.1))
  | .own _ => ∃ o, h.get? a = some o
  | .xd fs => ∃ mA, h.Ns1 a mA ∧ ∀ f, RelO (fs.lookup f) (mA f)
  | .rng lo hi => ∃ t u v, h.get? a = some { cls := .type "range", data := .fields #[.int lo t, .int hi u, .int 1 v] }
  | .frz o u => h.get? a = some o ∧ ObjOk H h a u
  | .tbl ps => h.get? a = some { cls := .none, data := .fields ps }
  | .met f x => h.get? a = some (PySem.W.methodObj (.ref f) (.ref x))
  | .ext φ => φ h ∧ (∃ o, h.get? a = some o) ∧ ∀ h1 h2 : Heap, φ h1 → (∀ o, h1.get? a = some o → h2.get? a = some o) → φ h2
def HOk (H : Hp) (h : Heap) : Prop := ∀ a o, H a = some o → ObjOk P w H h a o
end
section
variable {P : Program} {w : World} {H H' : Hp} {h h' : Heap} {a : Addr} {o : HO}
theorem ObjOk.lt (x : ObjOk P w H h a o) : a < h.objs.size := by
  cases o with
  | lst xs => obtain ⟨_, _, _, _, e⟩ := x; exact Heap.lt_size e
  | tup xs => obtain ⟨_, _, _, p⟩ := x; exact p.lt
  | dK kvs => obtain ⟨_, _, _, _, o, _, _, e, _⟩ := x; exact Heap.lt_size e
  | dT kvs => obtain ⟨_, _, _, _, o, _, _, e, _⟩ := x; exact Heap.lt_size e
  | set S n => obtain ⟨o, _, _, _, e, _⟩ := x; exact Heap.lt_size e
  | ins C dx fs => obtain ⟨_, _, _, e, _⟩ := x; exact Heap.lt_size e
  | own y => obtain ⟨_, e⟩ := x; exact Heap.lt_size e
  | xd fs => obtain ⟨_, ⟨_, _, _, e, _⟩, _⟩ := x; exact Heap.lt_size e
  | rng lo hi => obtain ⟨_, _, _, e⟩ := x; exact Heap.lt_size e
  | frz ob u => obtain ⟨e, _⟩ := x; exact Heap.lt_size e
  | tbl ps => exact Heap.lt_size (show h.get? a = some _ from x)
  | met f y => exact Heap.lt_size (show h.get? a = some _ from x)
  | ext φ => obtain ⟨_, ⟨_, e⟩, _⟩ := x; exact Heap.lt_size e
theorem Paired.mapP {α β : Type} {F G : α → β → Prop} : ∀ {l₁ : List α} {l₂ : List β}, Paired F l₁ l₂ → (∀ a b, F a b → G a b) → Paired G l₁ l₂
  | _, _, .nil, _ => .nil
  | _, _, .cons r t, f => .cons (f _ _ r) (Paired.mapP t f)
theorem ObjOk.stay (x : ObjOk P w H h a o) (k : ∀ b u, (b = a ∨ H b = some (.own a)) → h.get? b = some u → h'.get? b = some u)
    (ho : ∀ b, H b = some (.own a) → H' b = some (.own a)) (ht : ∀ b xs, H b = some (.tup xs) → H' b = some (.tup xs)) : ObjOk P w H' h' a o := by
  induction o with
  | lst xs => obtain ⟨z, its, n, r, e⟩ := x; exact ⟨z, its, n, r, k _ _ (.inl rfl) e⟩
  | tup xs => obtain ⟨z, its, r, ob, e, c⟩ := x; exact ⟨z, its, r, ob, k _ _ (.inl rfl) e, c⟩
  | dK kvs => obtain ⟨z, y, vs, r, ob, es, ep, e, c⟩ := x; exact ⟨z, y, vs, r, ob, es, ep, k _ _ (.inl rfl) e, c⟩
  | dT kvs =>
    obtain ⟨z, y, xs, r, ob, es, ep, e, c⟩ := x
    exact ⟨z, y, xs, Paired.mapP r fun p q z => ⟨z.1, ht _ _ z.2.1, z.2.2⟩, ob, es, ep, k _ _ (.inl rfl) e, c⟩
  | set S n => obtain ⟨ob, es, ep, t, e, c⟩ := x; exact ⟨ob, es, ep, t, k _ _ (.inl rfl) e, c⟩
  | ins C dx fs =>
    obtain ⟨d, z, ne, e, mA, ⟨od, es, ep, e2, c⟩, r⟩ := x
    exact ⟨ho _ d, z, ne, k _ _ (.inl rfl) e, mA, ⟨od, es, ep, k _ _ (.inr d) e2, c⟩, r⟩
  | own y => obtain ⟨ob, e⟩ := x; exact ⟨ob, k _ _ (.inl rfl) e⟩
  | xd fs => obtain ⟨mA, ⟨od, es, ep, e, c⟩, r⟩ := x; exact ⟨mA, ⟨od, es, ep, k _ _ (.inl rfl) e, c⟩, r⟩
  | rng lo hi => obtain ⟨t, u, v, e⟩ := x; exact ⟨t, u, v, k _ _ (.inl rfl) e⟩
  | frz ob u ih => obtain ⟨e, q⟩ := x; exact ⟨k _ _ (.inl rfl) e, ih q⟩
  | tbl ps =>
    have e : h.get? a = some { cls := .none, data := .fields ps } := x
    show h'.get? a = some { cls := .none, data := .fields ps }
    exact k a _ (.inl rfl) e
  | met f y =>
    have e : h.get? a = some (PySem.W.methodObj (.ref f) (.ref y)) := x
    show h'.get? a = some (PySem.W.methodObj (.ref f) (.ref y))
    exact k a _ (.inl rfl) e
  | ext φ => obtain ⟨p, ⟨o, e⟩, st⟩ := x; exact ⟨st _ _ p fun o q => k _ _ (.inl rfl) q, ⟨o, k _ _ (.inl rfl) e⟩, st⟩
theorem HOk.lt (x : HOk P w H h) (e : H a = some o) : a < h.objs.size := (x a o e).lt
theorem HOk.fresh (x : HOk P w H h) (e : h.objs.size ≤ a) : H a = none := by
  cases q : H a with
  | none => rfl
  | some u => exact absurd (Nat.lt_of_lt_of_le (x.lt q) e) (Nat.lt_irrefl _)
theorem HOk.kept (x : HOk P w H h) (k : ∀ b u, h.get? b = some u → h'.get? b = some u) : HOk P w H h' := fun a o e =>
  (x a o e).stay (fun b u _ q => k b u q) (fun _ q => q) fun _ _ q => q
theorem HOk.laid (x : HOk P w H h) (k : ∀ b u, h.get? b = some u → h'.get? b = some u) (hp : h.objs.size ≤ a) (new : ObjOk P w (upd H a o) h' a o) : HOk P w (upd H a o) h' := fun b u e => by
  have hn := x.fresh hp
  by_cases hb : b = a
  · subst hb; rw [upd_same] at e; cases e; exact new
  · rw [upd_ne hb] at e
    exact (x b u e).stay (fun c v _ q => k c v q) (fun c q => by rw [upd_ne (ne_of_none q hn)]; exact q) fun c xs q => by rw [upd_ne (ne_of_none q hn)]; exact q
end
def Rd (H : Hp) (a : Addr) (u : HO) : Prop := H a = some u ∨ ∃ o, H a = some (.frz o u)
theorem Rd.ok {P : Program} {w : World} {H : Hp} {h : Heap} {a : Addr} {u : HO} (r : Rd H a u) (x : HOk P w H h) : ObjOk P w H h a u := by
  rcases r with r | ⟨o, r⟩
  · exact x a u r
  · obtain ⟨_, q⟩ := x a _ r
    exact q
def Mut : Option HO → Prop
  | some (.lst _) => True
  | some (.dK _) => True
  | some (.dT _) => True
  | some (.set _ _) => True
  | some (.ins _ _ _) => True
  | some (.ext _) => True
  | _ => False
section
variable {P : Program} {w : World} {H : Hp} {h h' : Heap} {x e : Addr} {o' : HO}
theorem HOk.write (ok : HOk P w H h) (mu : Mut (H x)) (he : e = x ∨ H e = some (.own x)) (k : ∀ b u, b ≠ e → h.get? b = some u → h'.get? b = some u) (heo : ∃ u, h'.get? e = some u)
    (new : ObjOk P w (upd H x o') h' x o') : HOk P w (upd H x o') h' := fun b u q => by
  have nown : ∀ c y, H c = some (.own y) → c ≠ x := fun c y r z => by subst z; rw [r] at mu; exact mu
  have ntup : ∀ c xs, H c = some (.tup xs) → c ≠ x := fun c xs r z => by subst z; rw [r] at mu; exact mu
  by_cases hb : b = x
  · subst hb; rw [upd_same] at q; cases q; exact new
  · rw [upd_ne hb] at q
    by_cases hbe : b = e
    · have q' : H b = some (.own x) := by
        rcases he with z | z
        · exact absurd (hbe.trans z) hb
        · rw [hbe]; exact z
      rw [q] at q'; cases q'
      obtain ⟨v, hv⟩ := heo
      exact ⟨v, by rw [hbe]; exact hv⟩
    · refine (ok b u q).stay (fun c v hc r => k c v ?_ r) (fun c r => by rw [upd_ne (nown c b r)]; exact r) fun c xs r => by rw [upd_ne (ntup c xs r)]; exact r
      rcases hc with rfl | hc
      · exact hbe
      · rintro rfl
        rcases he with z | z
        · exact nown c b hc z
        · rw [hc] at z; cases z; exact hb rfl
end
structure Un (fs ex : List Addr) (H H' : Hp) (h h' : Heap) : Prop where
  keep : ∀ b o, h.get? b = some o → H b = none → b ∉ fs → b ∉ ex → h'.get? b = some o
  slot : ∀ b o, h.get? b = some o → H b = none → b ∈ fs → b ∉ ex → ∃ sl, h'.get? b = some { o with slots := sl }
  free : ∀ b o, h.get? b = some o → H b = none → b ∉ ex → H' b = none
  there : ∀ b o, h.get? b = some o → b ∉ ex → ∃ o', h'.get? b = some o'
  tups : ∀ b xs, H b = some (.tup xs) → H' b = some (.tup xs)
  frzs : ∀ b o u, H b = some (.frz o u) → H' b = some (.frz o u)
  tbls : ∀ b ps, H b = some (.tbl ps) → ∃ more, H' b = some (.tbl (ps ++ more))
section
variable {fs fs' ex ex' : List Addr} {H H1 H2 : Hp} {h h1 h2 h' : Heap} {a x e : Addr} {o : HO}
theorem Un.any (u : Un fs ex H H1 h h1) {b : Addr} {ob : Obj} (q : h.get? b = some ob) (n : H b = none) (hx : b ∉ ex) : ∃ sl, h1.get? b = some { ob with slots := sl } := by
  by_cases hb : b ∈ fs
  · exact u.slot b ob q n hb hx
  · exact ⟨ob.slots, u.keep b ob q n hb hx⟩
theorem Un.kept (k : ∀ b u, h.get? b = some u → h'.get? b = some u) : Un fs ex H H h h' :=
  ⟨fun b ob q _ _ _ => k b ob q, fun b ob q _ _ _ => ⟨ob.slots, k b ob q⟩, fun _ _ _ n _ => n, fun b ob q _ => ⟨ob, k b ob q⟩, fun _ _ q => q, fun _ _ _ q => q, fun _ ps q => ⟨#[], by rw [q]; simp⟩⟩
theorem Un.refl : Un fs ex H H h h := Un.kept fun _ _ q => q
theorem Un.laid (k : ∀ b u, h.get? b = some u → h'.get? b = some u) (hp : h.objs.size ≤ a) (hn : H a = none) : Un fs ex H (upd H a o) h h' where
  keep := fun b u q _ _ _ => k b u q
  slot := fun b u q _ _ _ => ⟨u.slots, k b u q⟩
  free := fun b u q n _ => by rw [upd_ne (Nat.ne_of_lt (Nat.lt_of_lt_of_le (Heap.lt_size q) hp))]; exact n
  there := fun b u q _ => ⟨u, k b u q⟩
  tups := fun b xs q => by rw [upd_ne (ne_of_none q hn)]; exact q
  frzs := fun b u xs q => by rw [upd_ne (ne_of_none q hn)]; exact q
  tbls := fun b ps q => ⟨#[], by rw [upd_ne (ne_of_none q hn), q]; simp⟩
theorem Un.write (mu : Mut (H x)) (he : e = x ∨ H e = some (.own x)) (k : ∀ b u, b ≠ e → h.get? b = some u → h'.get? b = some u) (heo : ∃ u, h'.get? e = some u) : Un fs ex H (upd H x o) h h' := by
  have hx : ∀ b, H b = none → b ≠ x := fun b n z => by subst z; rw [n] at mu; exact mu
  have hb : ∀ b, H b = none → b ≠ e := fun b n z => by
    subst z
    rcases he with r | r
    · exact hx b n r
    · rw [n] at r; cases r
  have hm : ∀ b u, H b = some u → ¬ Mut (some u) → b ≠ x := fun b u q nm z => by subst z; rw [q] at mu; exact nm mu
  refine ⟨fun b u q n _ _ => k b u (hb b n) q, fun b u q n _ _ => ⟨u.slots, k b u (hb b n) q⟩, fun b u q n _ => by rw [upd_ne (hx b n)]; exact n, fun b u q _ => ?_,
    fun b xs q => by rw [upd_ne (hm b _ q fun z => z)]; exact q, fun b u xs q => by rw [upd_ne (hm b _ q fun z => z)]; exact q, fun b ps q => ⟨#[], by rw [upd_ne (hm b _ q fun z => z), q]; simp⟩⟩
  by_cases hbe : b = e
  · subst hbe; exact heo
  · exact ⟨u, k b u hbe q⟩
end
def trk (h : Heap) (H : Hp) : List Addr := (List.range h.objs.size).filter fun a => (H a).isSome
def hidT (h : Heap) (H : Hp) : Heap := PySem.W.hideAll h (trk h H)
theorem hidT_size (h : Heap) (H : Hp) : (hidT h H).objs.size = h.objs.size := PySem.W.hideAll_size _ _
theorem hidT_get {h : Heap} {H : Hp} {b : Addr} {o : Obj} (e : h.get? b = some o) (n : H b = none) : (hidT h H).get? b = some o :=
  PySem.W.hideAll_get _ e fun hm => by
    have q : (H b).isSome = true := (List.mem_filter.mp hm).2
    rw [n] at q; simp at q
theorem of_hidT {h : Heap} {H : Hp} {b : Addr} {o : Obj} (e : (hidT h H).get? b = some o) : h.get? b = some o ∧ H b = none := by
  have e' : h.get? b = some o := PySem.W.of_hideAll (trk h H) e
  refine ⟨e', ?_⟩
  cases q : H b with
  | none => rfl
  | some x =>
    have hm : b ∈ trk h H := List.mem_filter.mpr ⟨List.mem_range.mpr (Heap.lt_size e'), by simp [q]⟩
    have z : (hidT h H).get? b = none := PySem.W.hideAll_none (trk h H) hm
    rw [z] at e; cases e
def allNews (g h : Heap) (L : Addr) : List (Addr × Obj) := (List.range h.objs.size).filterMap fun a => if a = L ∨ (g.get? a).isSome = true then none else (h.get? a).map fun o => (a, o)
def rest (g h : Heap) (L d : Addr) : List (Addr × Obj) := (allNews g h L).filter fun p => decide (p.1 ≠ d)
end L2
namespace L2
open PySem PySem.Spec PyProof.Rows
structure Mod (K : PySem.W.Frag) (mg : Str → Option Value) (base : Heap) : Prop where
  kin : K.In base
  glob : base.Ns mainGlobals mg
  blt : ∃ mb, base.Ns builtinsNs mb ∧ ∀ x : Str, x ≠ "__name__" → mb x = bootBuiltins x
  nolimit : base.NoLimit
structure Cx where
  prog : Program
  w : World
  K : PySem.W.Frag
  mg : Str → Option Value
  base : Heap
  A : Around
  N : List Str
  s_0 : Shared
  H_0 : Hp
  env : Env
  outer : List Env
  stack : List Env
  ex : List Addr
  fn : Str → Bool
  calm : Bool
  pn : List (Addr × Obj)
  xe : Value → Shared → Prop
def frs (l : List Env) : List Addr := l.filterMap (·.frame)
abbrev Cx.fs (X : Cx) : List Addr := frs X.outer
def Vis (sc : Scope) (x : Str) : Prop := sc.names.lookup x = some .local ∨ sc.names.lookup x = some .cell ∨ sc.names.lookup x = some .free
def Loc (sc : Scope) (x : Str) : Prop := sc.names.lookup x = some .local ∨ sc.names.lookup x = some .cell
def Look (env : Env) (h : Heap) (m : Str → Option Value) (x : Str) (u : Value) : Prop :=
  (env.kindOf x = some .local ∧ m x = some u) ∨ ((env.kindOf x = some .cell ∨ env.kindOf x = some .free) ∧ ∃ c, env.cells.lookup x = some c ∧ h.IsCell c (some u))
structure Cx.Ok (X : Cx) : Prop where
  mod : Mod X.K X.mg X.base
  kind : X.env.scope.kind = .function
  glob : X.env.globals = mainGlobals
  blt : X.env.builtins = builtinsNs
  above : X.s_0.heap.objs.size ≤ X.env.locals
  inj : ∀ x y c, X.env.cells.lookup x = some c → X.env.cells.lookup y = some c → x = y
  has : ∀ x, (X.env.kindOf x = some .cell ∨ X.env.kindOf x = some .free) → ∃ c, X.env.cells.lookup x = some c
  cab : ∀ x c, X.fn x = true → X.env.cells.lookup x = some c → X.s_0.heap.objs.size ≤ c
  hd : X.calm = true → X.A.handled = none
  frames : X.A.frames = some X.stack
  stk : X.stack = X.outer ∨ (X.stack = X.env :: X.outer ∧ X.env.frame = some X.env.locals)
  exf : ∀ b ∈ X.ex, b ≠ X.env.locals ∧ ∀ x c, X.env.cells.lookup x = some c → c ≠ b
  bs : ∀ b o, X.base.get? b = some o → X.s_0.heap.get? b = some o ∧ X.H_0 b = none
  bsz : X.base.objs.size ≤ X.s_0.heap.objs.size
  noex : ∀ b o, X.base.get? b = some o → b ∉ X.ex
  exfs : ∀ b ∈ X.ex, b ∉ X.fs
  funs : X.s_0.heap.FunFrames X.base X.outer
  frf : ∀ b ∈ X.fs, X.H_0 b = none
structure Inv (X : Cx) (pins : List (Addr × Obj)) (σ : List (Option V)) (H : Hp) (s : Shared) : Prop where
  ok : X.Ok
  os : s.os = X.s_0.os
  bare : AllBare s.gens
  base : Un X.fs X.ex X.H_0 H X.s_0.heap s.heap
  loc : ∃ m, s.heap.Ns X.env.locals m ∧ ∀ (i : Nat) (x : Str) (v : V), X.N[i]? = some x → σ[i]? = some (some v) → Vis X.env.scope x → ∃ u, RelV v u ∧ Look X.env s.heap m x u
  cell : ∀ x c, X.env.cells.lookup x = some c → ∃ v, s.heap.IsCell c v
  free : H X.env.locals = none
  freeC : ∀ x c, X.env.cells.lookup x = some c → H c = none
  pin : ∀ p ∈ X.pn ++ pins, s.heap.get? p.1 = some p.2 ∧ H p.1 = none ∧ p.1 ≠ X.env.locals ∧ p.1 ∉ X.fs ∧ ∀ v, p.2.data ≠ .cell v
  hok : HOk X.prog X.w H s.heap
  len : σ.length = X.N.length
section
variable {X : Cx} {pins : List (Addr × Obj)} {σ : List (Option V)} {H H' : Hp} {s : Shared} {h' : Heap}
theorem Cx.Ok.nofr (ok : X.Ok) {b : Addr} {o : Obj} (e : X.base.get? b = some o) : b ∉ X.fs := fun hb => by
  have := (ok.funs.mem hb).1
  rw [e] at this; cases this
theorem Inv.bs (I : Inv X pins σ H s) : ∀ b o, X.base.get? b = some o → s.heap.get? b = some o ∧ H b = none := fun b o e =>
  ⟨I.base.keep b o (I.ok.bs b o e).1 (I.ok.bs b o e).2 (I.ok.nofr e) (I.ok.noex b o e), I.base.free b o (I.ok.bs b o e).1 (I.ok.bs b o e).2 (I.ok.noex b o e)⟩
theorem Inv.bk (I : Inv X pins σ H s) : ∀ b o, X.base.get? b = some o → s.heap.get? b = some o := fun b o e => (I.bs b o e).1
theorem Inv.mod (I : Inv X pins σ H s) : Mod X.K X.mg X.base := I.ok.mod
theorem Inv.kIn (I : Inv X pins σ H s) : X.K.In s.heap := I.ok.mod.kin.keeps I.bk
theorem Inv.nolimit (I : Inv X pins σ H s) : s.heap.NoLimit := I.ok.mod.nolimit.keeps I.bk
theorem Inv.fr (I : Inv X pins σ H s) : ∃ m, Fr X.base X.env.locals s.heap m :=
  let ⟨m, hn, _⟩ := I.loc
  ⟨m, hn, I.bk, Nat.le_trans I.ok.bsz I.ok.above⟩
theorem Inv.lt (I : Inv X pins σ H s) : X.env.locals < s.heap.objs.size := let ⟨_, hn, _⟩ := I.loc; hn.lt
theorem Inv.sz (I : Inv X pins σ H s) : X.s_0.heap.objs.size ≤ s.heap.objs.size := Nat.le_trans I.ok.above (Nat.le_of_lt I.lt)
theorem Inv.nofs (I : Inv X pins σ H s) {a : Addr} (h : s.heap.objs.size ≤ a) : a ∉ X.fs := fun hb => by
  obtain ⟨_, o, ho, _⟩ := I.ok.funs.mem hb
  exact absurd (Nat.lt_of_lt_of_le (Heap.lt_size ho) (Nat.le_trans I.sz h)) (Nat.lt_irrefl _)
theorem Inv.cne (I : Inv X pins σ H s) : ∀ x c, X.env.cells.lookup x = some c → c ≠ X.env.locals := fun x c e z => by
  obtain ⟨v, o, ho, hd⟩ := I.cell x c e
  obtain ⟨m, ⟨o', es, ep, ho', hd', _⟩, _⟩ := I.loc
  rw [z, ho'] at ho; cases ho; rw [hd'] at hd; cases hd
theorem Inv.funs (I : Inv X pins σ H s) : s.heap.FunFrames X.base X.outer := by
  have all : ∀ (l : List Env), (∀ b ∈ frs l, b ∈ X.fs) → X.s_0.heap.FunFrames X.base l → s.heap.FunFrames X.base l := by
    intro l
    induction l with
    | nil => intro _ _; trivial
    | cons env r ih =>
      intro hs hl
      obtain ⟨hk, ⟨L, o, hf, hn, ho, hd⟩, hr⟩ := hl
      have hL : L ∈ X.fs := hs L (by unfold frs; rw [List.filterMap_cons, hf]; exact List.mem_cons_self)
      obtain ⟨sl, e⟩ := I.base.slot L o ho (I.ok.frf L hL) hL fun z => I.ok.exfs L z hL
      exact ⟨hk, ⟨L, _, hf, hn, e, hd⟩, ih (fun b hb => hs b (by unfold frs; rw [List.filterMap_cons, hf]; exact List.mem_cons_of_mem _ hb)) hr⟩
  exact all X.outer (fun _ hb => hb) I.ok.funs
theorem Inv.stack (I : Inv X pins σ H s) : s.heap.FunFrames X.base X.stack := by
  rcases I.ok.stk with e | ⟨e, hf⟩
  · rw [e]; exact I.funs
  · rw [e]
    obtain ⟨m, hn, _⟩ := I.loc
    refine .cons (by rw [I.ok.kind]; decide) hf hn ?_ I.funs
    exact Heap.get?_none_of_le (Nat.le_trans I.ok.bsz I.ok.above)
theorem Inv.stkSub (I : Inv X pins σ H s) : ∀ b ∈ frs X.stack, b ∈ X.env.locals :: X.fs := fun b hb => by
  rcases I.ok.stk with e | ⟨e, hf⟩
  · rw [e] at hb; exact List.mem_cons_of_mem _ hb
  · rw [e] at hb
    unfold frs at hb
    rw [List.filterMap_cons, hf] at hb
    exact hb
theorem Inv.stkFree (I : Inv X pins σ H s) : ∀ b ∈ frs X.stack, H b = none := fun b hb => by
  rcases List.mem_cons.mp (I.stkSub b hb) with e | hb
  · rw [e]; exact I.free
  · obtain ⟨_, o, ho, _⟩ := I.ok.funs.mem hb
    exact I.base.free b o ho (I.ok.frf b hb) fun z => I.ok.exfs b z hb
theorem Inv.step {g' : Array GenState} {t' : Nat} {d' : Drawn} {ch : List Addr} (I : Inv X pins σ H s)
    (hch : ∀ b ∈ ch, (b ∈ X.ex ∨ X.s_0.heap.objs.size ≤ b) ∧ b ≠ X.env.locals ∧ (∀ x c, X.env.cells.lookup x = some c → c ≠ b) ∧ ∀ p ∈ X.pn ++ pins, p.1 ≠ b)
    (keep : ∀ b o, b ≠ X.env.locals → b ∉ X.fs → b ∉ ch → s.heap.get? b = some o → H b = none → h'.get? b = some o)
    (slot : ∀ b o, b ≠ X.env.locals → b ∈ X.fs → b ∉ ch → s.heap.get? b = some o → H b = none → ∃ sl, h'.get? b = some { o with slots := sl }) (free : ∀ b o, b ∉ ch → s.heap.get? b = some o → H b = none → H' b = none)
    (there : ∀ b o, b ∉ ch → s.heap.get? b = some o → ∃ o', h'.get? b = some o')
    (tups : ∀ b xs, H b = some (.tup xs) → H' b = some (.tup xs)) (frzs : ∀ b o u, H b = some (.frz o u) → H' b = some (.frz o u)) (tbls : ∀ b ps, H b = some (.tbl ps) → ∃ more, H' b = some (.tbl (ps ++ more)))
    (ns : ∀ m, s.heap.Ns X.env.locals m → h'.Ns X.env.locals m) (hok : HOk X.prog X.w H' h') (hg : AllBare g') :
    Inv X pins σ H' { s with heap := h', gens := g', drawn := d', toks := t' } := by
  have neL : ∀ b o, X.s_0.heap.get? b = some o → b ≠ X.env.locals := fun b o e => Nat.ne_of_lt (Nat.lt_of_lt_of_le (Heap.lt_size e) I.ok.above)
  have neC : ∀ b o, X.s_0.heap.get? b = some o → b ∉ X.ex → b ∉ ch := fun b o e hx hb => by
    rcases (hch b hb).1 with z | z
    · exact hx z
    · exact absurd (Nat.lt_of_lt_of_le (Heap.lt_size e) z) (Nat.lt_irrefl _)
  have cellK : ∀ x c, X.env.cells.lookup x = some c → ∀ v, s.heap.IsCell c v → h'.IsCell c v := fun x c e v ⟨o, ho, hd⟩ => by
    have nch : c ∉ ch := fun z => (hch c z).2.2.1 x c e rfl
    by_cases hc : c ∈ X.fs
    · obtain ⟨sl, q⟩ := slot c o (I.cne x c e) hc nch ho (I.freeC x c e)
      exact ⟨_, q, hd⟩
    · exact ⟨o, keep c o (I.cne x c e) hc nch ho (I.freeC x c e), hd⟩
  refine ⟨I.ok, I.os, hg, ⟨fun b o e n hb hx => ?_, fun b o e n hb hx => ?_, fun b o e n hx => ?_, fun b o e hx => ?_, fun b xs e => tups b xs (I.base.tups b xs e), fun b o xs e => frzs b o xs (I.base.frzs b o xs e), fun b ps e => ?_⟩, ?_, fun x c e => ?_, ?_, fun x c e => ?_, fun p hp => ?_, hok, I.len⟩
  · exact keep b o (neL b o e) hb (neC b o e hx) (I.base.keep b o e n hb hx) (I.base.free b o e n hx)
  · obtain ⟨sl, e1⟩ := I.base.slot b o e n hb hx
    obtain ⟨sl', e2⟩ := slot b _ (neL b o e) hb (neC b o e hx) e1 (I.base.free b o e n hx)
    exact ⟨sl', e2⟩
  · obtain ⟨o', e1⟩ := I.base.there b o e hx
    exact free b o' (neC b o e hx) e1 (I.base.free b o e n hx)
  · obtain ⟨o', e1⟩ := I.base.there b o e hx
    exact there b o' (neC b o e hx) e1
  · obtain ⟨m1, e1⟩ := I.base.tbls b ps e
    obtain ⟨m2, e2⟩ := tbls b _ e1
    exact ⟨m1 ++ m2, by rw [e2, Array.append_assoc]⟩
  · obtain ⟨m, hn, hl⟩ := I.loc
    refine ⟨m, ns m hn, fun i x v e1 e2 e3 => ?_⟩
    obtain ⟨u, r, l⟩ := hl i x v e1 e2 e3
    refine ⟨u, r, ?_⟩
    rcases l with l | ⟨k, c, e, z⟩
    · exact .inl l
    · exact .inr ⟨k, c, e, cellK x c e _ z⟩
  · obtain ⟨v, z⟩ := I.cell x c e
    exact ⟨v, cellK x c e v z⟩
  · obtain ⟨m, ⟨o, _, _, ho, _⟩, _⟩ := I.loc
    exact free _ o (fun z => (hch _ z).2.1 rfl) ho I.free
  · obtain ⟨v, o, ho, hd⟩ := I.cell x c e
    exact free c o (fun z => (hch c z).2.2.1 x c e rfl) ho (I.freeC x c e)
  · obtain ⟨e, n, ne, nf, d⟩ := I.pin p hp
    have nch : p.1 ∉ ch := fun z => (hch p.1 z).2.2.2 p hp rfl
    exact ⟨keep p.1 p.2 ne nf nch e n, free p.1 p.2 nch e n, ne, nf, d⟩
theorem Inv.un {t' : Nat} (I : Inv X pins σ H s) (u : Un X.fs [] H H' s.heap h') (hok : HOk X.prog X.w H' h') : Inv X pins σ H' { s with heap := h', toks := t' } := by
  obtain ⟨m, ⟨o, es, ep, ho, r⟩, _⟩ := id I.loc
  obtain ⟨sl, hL⟩ := u.any ho I.free (by simp)
  exact I.step (g' := s.gens) (d' := s.drawn) (ch := []) (fun _ z => nomatch z) (fun b o _ hb _ e n => u.keep b o e n hb (by simp)) (fun b o _ hb _ e n => u.slot b o e n hb (by simp)) (fun b o _ e n => u.free b o e n (by simp)) (fun b o _ e => u.there b o e (by simp)) u.tups u.frzs u.tbls (fun m' hm => by
    obtain ⟨o', es', ep', ho', r'⟩ := hm
    rw [ho] at ho'; cases ho'
    exact ⟨_, es', ep', hL, r'⟩) hok I.bare
theorem Inv.call {g' : Array GenState} {t' : Nat} {d' : Drawn} {ch : List Addr} (I : Inv X pins σ H s) (u : Un (frs X.stack) ch H H' s.heap h') (hok : HOk X.prog X.w H' h') (hg : AllBare g')
    (hch : ∀ b ∈ ch, (b ∈ X.ex ∨ X.s_0.heap.objs.size ≤ b) ∧ b ≠ X.env.locals ∧ (∀ x c, X.env.cells.lookup x = some c → c ≠ b) ∧ ∀ p ∈ X.pn ++ pins, p.1 ≠ b) :
    Inv X pins σ H' { s with heap := h', gens := g', drawn := d', toks := t' } := by
  obtain ⟨m, ⟨o, es, ep, ho, r⟩, _⟩ := id I.loc
  obtain ⟨sl, hL⟩ := u.any ho I.free fun z => (hch _ z).2.1 rfl
  exact I.step (ch := ch) hch (fun b o hL hb hc e n => u.keep b o e n (fun z => (List.mem_cons.mp (I.stkSub b z)).elim hL hb) hc) (fun b o _ _ hc e n => u.any e n hc) (fun b o hc e n => u.free b o e n hc) (fun b o hc e => u.there b o e hc) u.tups u.frzs u.tbls (fun m' hm => by
    obtain ⟨o', es', ep', ho', r'⟩ := hm
    rw [ho] at ho'; cases ho'
    exact ⟨_, es', ep', hL, r'⟩) hok hg
theorem Inv.turned {t' : Nat} {it : Addr} (I : Inv X pins σ H s) (k : ∀ b o, b ≠ it → s.heap.get? b = some o → h'.get? b = some o) (hn : H it = none) (hL : it ≠ X.env.locals)
    (h1 : it ∈ X.ex ∨ X.s_0.heap.objs.size ≤ it) (h2 : ∀ x c, X.env.cells.lookup x = some c → c ≠ it) (h3 : ∀ p ∈ X.pn ++ pins, p.1 ≠ it) : Inv X pins σ H { s with heap := h', toks := t' } := by
  have nit : ∀ b u, H b = some u → b ≠ it := fun b u e z => by rw [z, hn] at e; cases e
  refine I.step (g' := s.gens) (d' := s.drawn) (ch := [it]) (fun b hb => ?_) (fun b o _ _ hc e _ => k b o (fun z => hc (by simp [z])) e) (fun b o _ _ hc e _ => ⟨o.slots, k b o (fun z => hc (by simp [z])) e⟩) (fun _ _ _ _ n => n)
    (fun b o hc e => ⟨o, k b o (fun z => hc (by simp [z])) e⟩) (fun _ _ e => e) (fun _ _ _ e => e) (fun b ps e => ⟨#[], by rw [e]; simp⟩) (fun m hm => ?_) (fun b u e => ?_) I.bare
  · have e : b = it := by simpa using hb
    subst e
    exact ⟨h1, hL, h2, h3⟩
  · obtain ⟨o, es, ep, ho, r⟩ := hm
    exact ⟨o, es, ep, k _ o (Ne.symm hL) ho, r⟩
  · refine (I.hok b u e).stay (fun c v hc q => k c v ?_ q) (fun _ q => q) fun _ _ q => q
    rcases hc with z | z
    · rw [z]; exact nit b u e
    · exact nit c _ z
theorem Inv.tok (I : Inv X pins σ H s) (t : Nat) : Inv X pins σ H { s with toks := t } := I.un (h' := s.heap) (t' := t) Un.refl I.hok
theorem Inv.kept {t' : Nat} (I : Inv X pins σ H s) (k : ∀ b u, s.heap.get? b = some u → h'.get? b = some u) : Inv X pins σ H { s with heap := h', toks := t' } := I.un (Un.kept k) (I.hok.kept k)
theorem Inv.laid {a : Addr} {o : HO} {t' : Nat} (I : Inv X pins σ H s) (k : ∀ b u, s.heap.get? b = some u → h'.get? b = some u) (hp : s.heap.objs.size ≤ a) (new : ObjOk X.prog X.w (upd H a o) h' a o) :
    Inv X pins σ (upd H a o) { s with heap := h', toks := t' } := I.un (Un.laid k hp (I.hok.fresh hp)) (I.hok.laid k hp new)
theorem Inv.write {x e : Addr} {o : HO} {t' : Nat} (I : Inv X pins σ H s) (mu : Mut (H x)) (he : e = x ∨ H e = some (.own x)) (k : ∀ b u, b ≠ e → s.heap.get? b = some u → h'.get? b = some u) (heo : ∃ u, h'.get? e = some u)
    (new : ObjOk X.prog X.w (upd H x o) h' x o) : Inv X pins σ (upd H x o) { s with heap := h', toks := t' } := I.un (Un.write mu he k heo) (I.hok.write mu he k heo new)
theorem Inv.weak {σ' : List (Option V)} (I : Inv X pins σ H s) (hl : σ'.length = σ.length) (w : ∀ (i : Nat) v, σ'[i]? = some (some v) → σ[i]? = some (some v)) : Inv X pins σ' H s :=
  ⟨I.ok, I.os, I.bare, I.base, let ⟨m, hn, hl'⟩ := I.loc; ⟨m, hn, fun i x v e1 e2 e3 => hl' i x v e1 (w i v e2) e3⟩, I.cell, I.free, I.freeC, I.pin, I.hok, hl.trans I.len⟩
theorem Inv.pins_of {pins' : List (Addr × Obj)} (I : Inv X pins σ H s) (h : ∀ p ∈ pins', s.heap.get? p.1 = some p.2 ∧ H p.1 = none ∧ p.1 ≠ X.env.locals ∧ p.1 ∉ X.fs ∧ ∀ v, p.2.data ≠ .cell v) : Inv X pins' σ H s :=
  ⟨I.ok, I.os, I.bare, I.base, I.loc, I.cell, I.free, I.freeC, fun p hp => (List.mem_append.mp hp).elim (fun z => I.pin p (List.mem_append_left _ z)) (h p), I.hok, I.len⟩
theorem nodup_ix {N : List Str} (hN : N.Nodup) {i j : Nat} {x : Str} (a : N[i]? = some x) (b : N[j]? = some x) : i = j := by
  obtain ⟨h1, e1⟩ := List.getElem?_eq_some_iff.mp a
  obtain ⟨h2, e2⟩ := List.getElem?_eq_some_iff.mp b
  exact (List.getElem_inj hN).mp (e1.trans e2.symm)
theorem store_ok2 {M : Model} {A : Around} {E : Value → Shared → Prop} {i : Nat} {x : Str} {v : V} {u : Value} {Q : Unit → Shared → Prop} (I : Inv X pins σ H s) (hN : X.N.Nodup) (hi : X.N[i]? = some x) (hx : Loc X.env.scope x) (r : RelV v u)
    (h : ∀ s', Inv X pins (σ.set i (some v)) H s' → (∃ a, Heap.SameBut a s.heap s'.heap ∧ (a = X.env.locals ∨ X.env.cells.lookup x = some a)) → Q () s') (hf : X.fn x = true ∨ X.env.scope.names.lookup x = some .local := by first | exact .inl rfl | exact .inr rfl | assumption) : wpAny M A (storeName X.env x u) Q E s := by
  obtain ⟨m, hn, hl⟩ := id I.loc
  have hcls : (X.env.scope.kind == .class || (X.env.scope.kind == .module && X.env.locals != X.env.globals)) = false := by rw [I.ok.kind]; rfl
  have hiσ : i < σ.length := by rw [I.len]; exact (List.getElem?_eq_some_iff.mp hi).1
  have cne := I.cne
  have tracked : ∀ {a : Addr} {h' : Heap}, (∃ o, s.heap.get? a = some o ∧ H a = none) → Heap.SameBut a s.heap h' → HOk X.prog X.w H h' := fun {a h'} ha hs b ob e => by
    obtain ⟨_, _, hfree⟩ := ha
    refine (I.hok b ob e).stay (fun c w' hc q => (hs.2 c ?_).trans q) (fun _ q => q) fun _ _ q => q
    rintro rfl
    rcases hc with rfl | hc
    · rw [hfree] at e; cases e
    · rw [hfree] at hc; cases hc
  rcases hx with hk | hk
  · refine wpAny_storeName_local hk hn (fun h' hn' hs => ?_) hcls
    obtain ⟨oL, _, _, hoL, _⟩ := id hn
    refine h _ ⟨I.ok, I.os, I.bare, ⟨fun b o e n hb hx => ?_, fun b o e n hb hx => ?_, I.base.free, fun b o e hx => ?_, I.base.tups, I.base.frzs, I.base.tbls⟩, ⟨_, hn', fun j y v' e1 e2 e3 => ?_⟩, fun y c e => ?_, I.free, I.freeC, fun p hp => ?_, tracked ⟨oL, hoL, I.free⟩ hs, by simpa using I.len⟩ ⟨_, hs, .inl rfl⟩
    · exact (hs.2 b (Nat.ne_of_lt (Nat.lt_of_lt_of_le (Heap.lt_size e) I.ok.above))).trans (I.base.keep b o e n hb hx)
    · obtain ⟨sl, e1⟩ := I.base.slot b o e n hb hx
      exact ⟨sl, (hs.2 b (Nat.ne_of_lt (Nat.lt_of_lt_of_le (Heap.lt_size e) I.ok.above))).trans e1⟩
    · obtain ⟨o', e1⟩ := I.base.there b o e hx
      exact ⟨o', (hs.2 b (Nat.ne_of_lt (Nat.lt_of_lt_of_le (Heap.lt_size e) I.ok.above))).trans e1⟩
    · by_cases hj : j = i
      · subst hj
        rw [hi] at e1; cases e1
        rw [List.getElem?_set_self hiσ] at e2
        cases e2
        exact ⟨u, r, .inl ⟨hk, by simp⟩⟩
      · rw [List.getElem?_set_ne (Ne.symm hj)] at e2
        obtain ⟨u', r', q⟩ := hl j y v' e1 e2 e3
        refine ⟨u', r', ?_⟩
        rcases q with ⟨k, e⟩ | ⟨k, c, e, z⟩
        · refine .inl ⟨k, ?_⟩
          have : y ≠ x := fun e => hj (nodup_ix hN e1 (e ▸ hi))
          simp [this, e]
        · exact .inr ⟨k, c, e, z.sameBut hs (cne y c e)⟩
    · obtain ⟨w', z⟩ := I.cell y c e
      exact ⟨w', z.sameBut hs (cne y c e)⟩
    · obtain ⟨e, n, ne, nf, d⟩ := I.pin p hp
      exact ⟨(hs.2 p.1 ne).trans e, n, ne, nf, d⟩
  · have hfn : X.fn x = true := by
      rcases hf with z | z
      · exact z
      · rw [z] at hk; cases hk
    obtain ⟨c, hc⟩ := I.ok.has x (.inl hk)
    obtain ⟨w', z⟩ := I.cell x c hc
    refine wpAny_storeName_cell I.ok.kind hk hc z (fun h' hc' hs => ?_)
    obtain ⟨oc, hoc, hocd⟩ := id z
    refine h { s with heap := h' } ⟨I.ok, I.os, I.bare, ⟨fun b o e n hb hx => ?_, fun b o e n hb hx => ?_, I.base.free, fun b o e hx => ?_, I.base.tups, I.base.frzs, I.base.tbls⟩, ⟨m, hn.sameBut hs (Ne.symm (cne x c hc)), fun j y v' e1 e2 e3 => ?_⟩, fun y c' e => ?_, I.free, I.freeC, fun p hp => ?_, tracked ⟨oc, hoc, I.freeC x c hc⟩ hs, by simpa using I.len⟩ ⟨c, hs, .inr hc⟩
    · exact (hs.2 b (Nat.ne_of_lt (Nat.lt_of_lt_of_le (Heap.lt_size e) (I.ok.cab x c hfn hc)))).trans (I.base.keep b o e n hb hx)
    · obtain ⟨sl, e1⟩ := I.base.slot b o e n hb hx
      exact ⟨sl, (hs.2 b (Nat.ne_of_lt (Nat.lt_of_lt_of_le (Heap.lt_size e) (I.ok.cab x c hfn hc)))).trans e1⟩
    · obtain ⟨o', e1⟩ := I.base.there b o e hx
      exact ⟨o', (hs.2 b (Nat.ne_of_lt (Nat.lt_of_lt_of_le (Heap.lt_size e) (I.ok.cab x c hfn hc)))).trans e1⟩
    · by_cases hj : j = i
      · subst hj
        rw [hi] at e1; cases e1
        rw [List.getElem?_set_self hiσ] at e2
        cases e2
        exact ⟨u, r, .inr ⟨.inl hk, c, hc, hc'⟩⟩
      · rw [List.getElem?_set_ne (Ne.symm hj)] at e2
        obtain ⟨u', r', q⟩ := hl j y v' e1 e2 e3
        refine ⟨u', r', ?_⟩
        rcases q with q | ⟨k, c', e, z'⟩
        · exact .inl q
        · refine .inr ⟨k, c', e, z'.sameBut hs ?_⟩
          rintro rfl
          exact hj (nodup_ix hN e1 (I.ok.inj _ _ _ e hc ▸ hi))
    · by_cases hcc : c' = c
      · subst hcc; exact ⟨_, hc'⟩
      · obtain ⟨w2, z2⟩ := I.cell y c' e
        exact ⟨w2, z2.sameBut hs hcc⟩
    · obtain ⟨e, n, ne, nf, d⟩ := I.pin p hp
      refine ⟨(hs.2 p.1 ?_).trans e, n, ne, nf, d⟩
      intro q
      rw [q, hoc] at e
      have q' : oc = p.2 := Option.some.inj e
      exact d w' (by rw [← q']; exact hocd)
theorem store_ok {M : Model} {A : Around} {E : Value → Shared → Prop} {i : Nat} {x : Str} {v : V} {u : Value} {Q : Unit → Shared → Prop} (I : Inv X pins σ H s) (hN : X.N.Nodup) (hi : X.N[i]? = some x) (hx : Loc X.env.scope x) (r : RelV v u)
    (h : ∀ s', Inv X pins (σ.set i (some v)) H s' → Q () s') (hf : X.fn x = true ∨ X.env.scope.names.lookup x = some .local := by first | exact .inl rfl | exact .inr rfl | assumption) : wpAny M A (storeName X.env x u) Q E s :=
  store_ok2 I hN hi hx r (fun s' I' _ => h s' I') hf
theorem Inv.call' {s' : Shared} {ch : List Addr} (I : Inv X pins σ H s) (ho : s'.os = s.os) (u : Un (frs X.stack) ch H H' s.heap s'.heap) (hok : HOk X.prog X.w H' s'.heap) (hg : AllBare s'.gens)
    (hch : ∀ b ∈ ch, (b ∈ X.ex ∨ X.s_0.heap.objs.size ≤ b) ∧ b ≠ X.env.locals ∧ (∀ x c, X.env.cells.lookup x = some c → c ≠ b) ∧ ∀ p ∈ X.pn ++ pins, p.1 ≠ b) : Inv X pins σ H' s' := by
  obtain ⟨h', g', d', t', o'⟩ := s'
  have e : o' = s.os := ho
  subst e
  exact I.call (g' := g') (t' := t') (d' := d') u hok hg hch
end
abbrev XK := Value → Option Addr → Hp → Prop
abbrev St := List (Option V)
abbrev VK := V → Hp → Prop
abbrev TE := St → Hp → VK → Prop
abbrev TT := St → Hp → (Bool → Hp → Prop) → Prop
abbrev TA := St → Hp → (List V → Hp → Prop) → Prop
structure Ends where
  nx : St → Hp → Prop
  rt : VK
  bk : St → Hp → Prop := fun _ _ => False
  ct : St → Hp → Prop := fun _ _ => False
abbrev TS := Ends → St → Hp → Prop
def EP (X : Cx) (pins : List (Addr × Obj)) (σ : St) (Q : VK) (u : Value) (s' : Shared) : Prop := ∃ v H', Inv X pins σ H' s' ∧ RelV v u ∧ Q v H'
def TP (X : Cx) (pins : List (Addr × Obj)) (σ : St) (Q : Bool → Hp → Prop) (b : Bool) (s' : Shared) : Prop := ∃ H', Inv X pins σ H' s' ∧ Q b H'
def AP (X : Cx) (pins : List (Addr × Obj)) (σ : St) (Q : List V → Hp → Prop) (us : List Value) (s' : Shared) : Prop := ∃ vs H', Inv X pins σ H' s' ∧ Vals vs us ∧ Q vs H'
def SP (X : Cx) (pins : List (Addr × Obj)) (D : Ends) (f : Flow) (s' : Shared) : Prop :=
  match f with
  | .next => ∃ σ' H', Inv X pins σ' H' s' ∧ D.nx σ' H'
  | .brk => ∃ σ' H', Inv X pins σ' H' s' ∧ D.bk σ' H'
  | .cont => ∃ σ' H', Inv X pins σ' H' s' ∧ D.ct σ' H'
  | .ret u => ∃ v σ' H', Inv X pins σ' H' s' ∧ RelV v u ∧ D.rt v H'
def PE (X : Cx) (e : Expr) (t : TE) : Prop :=
  ∀ (pins : List (Addr × Obj)) (s : Shared) (σ : St) (H : Hp) (Q : VK), Inv X pins σ H s → t σ H Q → wpAny (model X.prog X.w) X.A (eval e X.env) (EP X pins σ Q) X.xe s
def PT (X : Cx) (e : Expr) (t : TT) : Prop :=
  ∀ (pins : List (Addr × Obj)) (s : Shared) (σ : St) (H : Hp) (Q : Bool → Hp → Prop), Inv X pins σ H s → t σ H Q → wpAny (model X.prog X.w) X.A (isTrue e X.env (eval e X.env)) (TP X pins σ Q) X.xe s
def PW (X : Cx) (e : Expr) (t : TT) : Prop :=
  ∀ (whole : Sem Value) (pins : List (Addr × Obj)) (s : Shared) (σ : St) (H : Hp) (Q : Bool → Hp → Prop), Inv X pins σ H s → t σ H Q → wpAny (model X.prog X.w) X.A (isTrue e X.env whole) (TP X pins σ Q) X.xe s
theorem PW.pt {X : Cx} {e : Expr} {t : TT} (h : PW X e t) : PT X e t := h _
def PA (X : Cx) (es : List Expr) (t : TA) : Prop :=
  ∀ (pos : Pos) (pins : List (Addr × Obj)) (s : Shared) (σ : St) (H : Hp) (Q : List V → Hp → Prop), Inv X pins σ H s → t σ H Q → wpAny (model X.prog X.w) X.A (spliced (backTo pos (starEach es X.env))) (AP X pins σ Q) X.xe s
def PS (X : Cx) (st : Stmt) (t : TS) : Prop :=
  ∀ (pins : List (Addr × Obj)) (s : Shared) (σ : St) (H : Hp) (D : Ends), Inv X pins σ H s → t D σ H → wpAny (model X.prog X.w) X.A (exec st X.env) (SP X pins D) X.xe s
def PSs (X : Cx) (st : List Stmt) (t : TS) : Prop :=
  ∀ (pins : List (Addr × Obj)) (s : Shared) (σ : St) (H : Hp) (D : Ends), Inv X pins σ H s → t D σ H → wpAny (model X.prog X.w) X.A (execs st X.env) (SP X pins D) X.xe s
theorem thn {α : Type} {t : Sem α} {Q Q' : α → Shared → Prop} {M : Model} {A : Around} {E : Value → Shared → Prop} {s : Shared} (h : wpAny M A t Q E s) (hQ : ∀ a s, Q a s → Q' a s) : wpAny M A t Q' E s := wpAny_mono h hQ fun _ _ x => x
end L2
namespace L2
open PySem PySem.Spec PyProof.Rows
section
variable {X : Cx}
theorem bin {a b : Expr} {ta tb : TE} (ha : PE X a ta) (hb : PE X b tb) {pins : List (Addr × Obj)} {s : Shared} {σ : St} {H : Hp} {R : V → V → Hp → Prop} (I : Inv X pins σ H s) (h : ta σ H fun x H1 => tb σ H1 fun y H2 => R x y H2)
    {α : Type} {Q : α → Shared → Prop} {f : Value → Value → Sem α}
    (hf : ∀ v u s2 x y H2, Inv X pins σ H2 s2 → RelV x v → RelV y u → R x y H2 → wpAny (model X.prog X.w) X.A (f v u) Q X.xe s2) :
    wpAny (model X.prog X.w) X.A (eval a X.env) (fun v s₁ => wpAny (model X.prog X.w) X.A (eval b X.env) (fun u s₂ => wpAny (model X.prog X.w) X.A (f v u) Q X.xe s₂) X.xe s₁) X.xe s := by
  refine thn (ha pins s σ H _ I h) fun v s1 ⟨x, H1, I1, r1, q1⟩ => ?_
  refine thn (hb pins s1 σ H1 _ I1 q1) fun u s2 ⟨y, H2, I2, r2, q2⟩ => ?_
  exact hf v u s2 x y H2 I2 r1 r2 q2
def tVar (i : Nat) : TE := fun σ H Q => ∃ v, σ[i]? = some (some v) ∧ Q v H
def tC (v : V) : TE := fun _ H Q => Q v H
theorem pe_var {i : Nat} {x : Str} {pos : Pos} (hN : X.N[i]? = some x) (hv : Vis X.env.scope x) (hd : (x == ("__debug__" : Str)) = false := by decide) (hcd : (x == ("__classdict__" : Str)) = false := by decide) : PE X (.Name x pos) (tVar i) := by
  intro pins s σ H Q I h
  obtain ⟨v, e, h⟩ := h
  obtain ⟨m, hn, hl⟩ := I.loc
  obtain ⟨u, r, l⟩ := hl i x v hN e hv
  have fin : EP X pins σ Q u s := ⟨v, H, I, r, h⟩
  rcases l with ⟨hk, hm⟩ | ⟨hk, c, hc, hcell⟩
  · exact wpAny_Name (wpAny_loadName_local I.ok.kind hk hn hm fin) hd
  · rcases hk with hk | hk
    · exact wpAny_Name (wpAny_loadName_cell I.ok.kind hk hc hcell fin) hd
    · exact wpAny_Name (wpAny_loadName_free I.ok.kind hk hc hcell fin hcd) hd
theorem pe_int {i j pos} : PE X (.Constant (.int i) j pos) (tC (.int i)) := fun _ _ _ H _ I h => wpAny_Constant_int ⟨.int i, H, I.tok _, ⟨_, rfl⟩, h⟩
theorem pe_bl {b j pos} : PE X (.Constant (.bool b) j pos) (tC (.bl b)) := fun _ _ _ H _ I h => Constant_bool ⟨.bl b, H, I, rfl, h⟩
theorem pe_non {j pos} : PE X (.Constant .none j pos) (tC .non) := fun _ _ _ H _ I h => Constant_none ⟨.non, H, I, rfl, h⟩
theorem pe_str {x j pos} : PE X (.Constant (.str x) j pos) (tC (.str x)) := fun _ _ _ H _ I h => Calls.Constant_str ⟨.str x, H, I.tok _, ⟨_, rfl⟩, h⟩
def Gl (X : Cx) (x : Str) : Prop := X.env.kindOf x = some .globalImplicit
theorem ld_glob {E : Value → Shared → Prop} {pins : List (Addr × Obj)} {s : Shared} {σ : St} {H : Hp} {x : Str} {u : Value} {pos : Pos} {Q : Value → Shared → Prop} (I : Inv X pins σ H s) (hg : Gl X x) (hm : X.mg x = some u) (h : Q u s)
    (hd : (x == ("__debug__" : Str)) = false := by decide) : wpAny (model X.prog X.w) X.A (eval (.Name x pos) X.env) Q E s :=
  Calls.Name_function_global I.ok.kind hg (Calls.loadGlobal_global (by rw [I.ok.glob]; exact I.mod.glob.keeps I.bk) hm h) hd
theorem ld_blt {E : Value → Shared → Prop} {pins : List (Addr × Obj)} {s : Shared} {σ : St} {H : Hp} {x : Str} {u : Value} {pos : Pos} {Q : Value → Shared → Prop} (I : Inv X pins σ H s) (hg : Gl X x) (hm : X.mg x = none) (hv : bootBuiltins x = some u) (h : Q u s)
    (hn : x ≠ "__name__" := by decide) (hd : (x == ("__debug__" : Str)) = false := by decide) : wpAny (model X.prog X.w) X.A (eval (.Name x pos) X.env) Q E s := by
  obtain ⟨mb, h1, h2⟩ := I.mod.blt
  exact Calls.Name_function_global I.ok.kind hg (Calls.loadGlobal_builtin (by rw [I.ok.glob]; exact I.mod.glob.keeps I.bk) hm (by rw [I.ok.blt]; exact h1.keeps I.bk) ((h2 x hn).trans hv) h) hd
theorem pe_glob {x : Str} {v : V} {u : Value} {pos : Pos} (hg : Gl X x) (hm : X.mg x = some u) (r : RelV v u) (hd : (x == ("__debug__" : Str)) = false := by decide) : PE X (.Name x pos) (tC v) :=
  fun _ _ _ H _ I h => ld_glob I hg hm ⟨v, H, I, r, h⟩ hd
variable {a b : Expr} {ta tb : TE} {pos : Pos}
def PC (X : Cx) (op : CmpOp) (a b : Expr) (t : TE) : Prop :=
  ∀ (pins : List (Addr × Obj)) (s : Shared) (σ : St) (H : Hp) (Q : VK), Inv X pins σ H s → t σ H Q →
    wpAny (model X.prog X.w) X.A (eval a X.env) (fun v s₁ => wpAny (model X.prog X.w) X.A (eval b X.env) (fun u s₂ => wpAny (model X.prog X.w) X.A (compareOp op v u) (EP X pins σ Q) X.xe s₂) X.xe s₁) X.xe s
theorem nobehind (b : Expr) {op : CmpOp} (h : op ≠ .In) (h2 : op ≠ .NotIn) : behindInMarks op b = false := by
  have e1 : (op == CmpOp.In) = false := by cases op <;> first | rfl | exact absurd rfl h
  have e2 : (op == CmpOp.NotIn) = false := by cases op <;> first | rfl | exact absurd rfl h2
  cases b <;> simp [behindInMarks, e1, e2]
def tIsN (ta : TE) : TE := fun σ H Q => ta σ H fun x H1 => Q (.bl (decide (x = .non))) H1
def tNotN (ta : TE) : TE := fun σ H Q => ta σ H fun x H1 => Q (.bl (!decide (x = .non))) H1
theorem RelV.none_iff {x : V} {v : Value} (r : RelV x v) : (v == Value.none) = decide (x = .non) := by
  cases x with
  | non => cases r; rfl
  | bl _ => cases r; rfl
  | int _ => obtain ⟨t, rfl⟩ := r; rfl
  | str _ => obtain ⟨t, rfl⟩ := r; rfl
  | byt _ => obtain ⟨t, rfl⟩ := r; rfl
  | flt _ => obtain ⟨t, rfl⟩ := r; rfl
  | ref _ => cases r; rfl
  | ty _ => cases r; rfl
theorem pc_isN {j pos'} (ha : PE X a ta) : PC X .Is a (.Constant .none j pos') (tIsN ta) := by
  intro pins s σ H Q I h
  refine thn (ha pins s σ H _ I h) fun v s1 ⟨x, H1, I1, r1, q1⟩ => ?_
  exact Constant_none (is_none_gen ⟨.bl _, H1, I1, by rw [r1.none_iff]; rfl, q1⟩)
theorem pc_notN {j pos'} (ha : PE X a ta) : PC X .IsNot a (.Constant .none j pos') (tNotN ta) := by
  intro pins s σ H Q I h
  refine thn (ha pins s σ H _ I h) fun v s1 ⟨x, H1, I1, r1, q1⟩ => ?_
  exact Constant_none (isnot_none_gen ⟨.bl _, H1, I1, by rw [r1.none_iff]; rfl, q1⟩)
def tB (t : TE) : TT := fun σ H Q => t σ H fun x H1 => ∃ c, x = .bl c ∧ Q c H1
theorem pt_cmp {op : CmpOp} {t : TE} (h : PC X op a b t) (h1 : behindInMarks op b = false := by first | exact nobehind _ (by decide) (by decide) | rfl) : PT X (.Compare a [op] [b] pos) (tB t) := by
  intro pins s σ H Q I hw
  refine wpAny_isTrue_Compare1 (thn (h pins s σ H _ I hw) fun v s1 h1 => thn h1 fun u s2 h2 => thn h2 fun c s3 ⟨x, H1, I1, r1, q1⟩ => ?_) h1
  obtain ⟨d, rfl, q⟩ := q1
  cases r1
  exact wpAny_truthy_bool ⟨H1, I1, q⟩
theorem pt_val {e : Expr} {t : TE} (h : PE X e t) (he : ∀ whole, isTrue e X.env whole = (do let v ← whole; standAt e.pos; holding [v] (truthy v)) := by intro _; rfl) : PT X e (tB t) := by
  intro pins s σ H Q I hw
  refine isTrue_plain (thn (h pins s σ H _ I hw) fun v s1 ⟨x, H1, I1, r1, q1⟩ => ?_) (he _)
  obtain ⟨d, rfl, q⟩ := q1
  cases r1
  exact wpAny_truthy_bool ⟨H1, I1, q⟩
variable {tA tB' : TT} {rest : List Expr}
def tAnd (t u : TT) : TT := fun σ H Q => t σ H fun c H1 => if c = true then u σ H1 Q else Q false H1
def tOr (t u : TT) : TT := fun σ H Q => t σ H fun c H1 => if c = true then Q true H1 else u σ H1 Q
def tNot (t : TT) : TT := fun σ H Q => t σ H fun c H1 => Q (!c) H1
theorem pw_and1 (ha : PT X a tA) : PW X (.BoolOp .And [a] pos) tA := by
  intro wh pins s σ H Q I h
  refine isTrue_and (thn (ha pins s σ H Q I h) fun c s1 e => ?_)
  cases c with
  | true => exact isTrue_and_nil e
  | false => exact e
theorem pw_or1 (ha : PT X a tA) : PW X (.BoolOp .Or [a] pos) tA := by
  intro wh pins s σ H Q I h
  refine isTrue_or (thn (ha pins s σ H Q I h) fun c s1 e => ?_)
  cases c with
  | false => exact isTrue_or_nil e
  | true => exact e
theorem pw_and (ha : PT X a tA) (hb : PW X (.BoolOp .And (b :: rest) pos) tB') : PW X (.BoolOp .And (a :: b :: rest) pos) (tAnd tA tB') := by
  intro wh pins s σ H Q I h
  refine isTrue_and (thn (ha pins s σ H _ I h) fun c s1 ⟨H1, I1, q1⟩ => ?_)
  cases c with
  | true => exact hb wh pins s1 σ H1 Q I1 q1
  | false => exact ⟨H1, I1, q1⟩
theorem pw_or (ha : PT X a tA) (hb : PW X (.BoolOp .Or (b :: rest) pos) tB') : PW X (.BoolOp .Or (a :: b :: rest) pos) (tOr tA tB') := by
  intro wh pins s σ H Q I h
  refine isTrue_or (thn (ha pins s σ H _ I h) fun c s1 ⟨H1, I1, q1⟩ => ?_)
  cases c with
  | true => exact ⟨H1, I1, q1⟩
  | false => exact hb wh pins s1 σ H1 Q I1 q1
theorem pt_not (ha : PT X a tA) : PT X (.UnaryOp .Not a pos) (tNot tA) := by
  intro pins s σ H Q I h
  exact isTrue_not (ha pins s σ H (fun c H1 => Q (!c) H1) I h)
def tAndV (ta tb : TE) : TE := fun σ H Q => ta σ H fun x H1 => ∃ c, x = .bl c ∧ if c = true then tb σ H1 Q else Q (.bl false) H1
def tOrV (ta tb : TE) : TE := fun σ H Q => ta σ H fun x H1 => ∃ c, x = .bl c ∧ if c = true then Q (.bl true) H1 else tb σ H1 Q
theorem pe_one {op} {t : TE} (h : PE X a t) : PE X (.BoolOp op [a] pos) t := fun pins s σ H Q I hw => BoolOp_one (h pins s σ H Q I hw)
theorem pe_and (ha : PE X a ta) (hb : PE X (.BoolOp .And (b :: rest) pos) tb) : PE X (.BoolOp .And (a :: b :: rest) pos) (tAndV ta tb) := by
  intro pins s σ H Q I h
  refine BoolOp_and (thn (ha pins s σ H _ I h) fun v s1 ⟨x, H1, I1, r1, q1⟩ => ?_)
  obtain ⟨c, rfl, q1⟩ := q1
  cases r1
  refine wpAny_truthy_bool ?_
  cases c with
  | true => exact hb pins s1 σ H1 Q I1 q1
  | false => exact ⟨.bl false, H1, I1, rfl, q1⟩
theorem pe_or (ha : PE X a ta) (hb : PE X (.BoolOp .Or (b :: rest) pos) tb) : PE X (.BoolOp .Or (a :: b :: rest) pos) (tOrV ta tb) := by
  intro pins s σ H Q I h
  refine BoolOp_or (thn (ha pins s σ H _ I h) fun v s1 ⟨x, H1, I1, r1, q1⟩ => ?_)
  obtain ⟨c, rfl, q1⟩ := q1
  cases r1
  refine wpAny_truthy_bool ?_
  cases c with
  | false => exact hb pins s1 σ H1 Q I1 q1
  | true => exact ⟨.bl true, H1, I1, rfl, q1⟩
def tIf (t : TT) (ta tb : TE) : TE := fun σ H Q => t σ H fun c H1 => if c = true then ta σ H1 Q else tb σ H1 Q
theorem pe_ifExp {c : Expr} (hc : PT X c tA) (ha : PE X a ta) (hb : PE X b tb) : PE X (.IfExp c a b pos) (tIf tA ta tb) := by
  intro pins s σ H Q I h
  refine wpAny_IfExp (thn (hc pins s σ H _ I h) fun d s1 ⟨H1, I1, q1⟩ => ?_)
  cases d with
  | true => exact ha pins s1 σ H1 Q I1 q1
  | false => exact hb pins s1 σ H1 Q I1 q1
end
end L2
namespace L2
open PySem PySem.Spec PyProof.Rows
def SqL (K : PySem.W.Frag) (H : Hp) (a : Addr) (xs : List V) : Prop :=
  Rd H a (.lst xs) ∨
    ∃ (o : Obj) (its : Array Value) (n : Nat), K.lookup a = some o ∧ o.cls = .type "list" ∧ o.dict = none ∧ o.data = .seq its n ∧ its.size ≤ sizeLine ∧ Vals xs its.toList
def SqT (K : PySem.W.Frag) (H : Hp) (a : Addr) (xs : List V) : Prop :=
  Rd H a (.tup xs) ∨
    ∃ (o : Obj) (its : Array Value) (n : Nat), K.lookup a = some o ∧ o.cls = .type "tuple" ∧ o.data = .seq its n ∧ its.size ≤ sizeLine ∧ Vals xs its.toList
def absV : Value → Option V
  | .none => some .non
  | .bool b => some (.bl b)
  | .int i _ => some (.int i)
  | .str x _ => some (.str x)
  | .bytes b _ => some (.byt b)
  | .float b _ => some (.flt b)
  | .ref a => some (.ref a)
  | .type n => some (.ty n)
  | _ => none
theorem RelV.abs {x : V} {u : Value} (r : RelV x u) : absV u = some x := by
  cases x with
  | non => cases r; rfl
  | bl _ => cases r; rfl
  | int _ => obtain ⟨t, rfl⟩ := r; rfl
  | str _ => obtain ⟨t, rfl⟩ := r; rfl
  | byt _ => obtain ⟨t, rfl⟩ := r; rfl
  | flt _ => obtain ⟨t, rfl⟩ := r; rfl
  | ref _ => cases r; rfl
  | ty _ => cases r; rfl
theorem RelV.inj {x y : V} {u : Value} (r : RelV x u) (q : RelV y u) : x = y := Option.some.inj (r.abs.symm.trans q.abs)
theorem Vals.inj : ∀ {xs ys : List V} {us : List Value}, Vals xs us → Vals ys us → xs = ys
  | _, _, _, .nil, .nil => rfl
  | _, _, _, .cons r t, .cons r' t' => by rw [r.inj r', Vals.inj t t']
section
variable {X : Cx} {pins : List (Addr × Obj)} {σ : St} {H : Hp} {s : Shared} {a : Addr} {xs ys : List V}
theorem SqL.of {K : PySem.W.Frag} (h : H a = some (.lst xs)) : SqL K H a xs := .inl (.inl h)
theorem SqT.of {K : PySem.W.Frag} (h : H a = some (.tup xs)) : SqT K H a xs := .inl (.inl h)
theorem Inv.list (I : Inv X pins σ H s) (h : SqL X.K H a xs) : ∃ its : List Value, Vals xs its ∧ PlainL s.heap a its.toArray ∧ xs.length ≤ sizeLine := by
  rcases h with h | ⟨o, its, n, hk, hc, hd, hs, hz, r⟩
  · obtain ⟨z, its, n, r, e⟩ := h.ok I.hok
    exact ⟨its, r, ⟨_, n, e, rfl, rfl, rfl⟩, z⟩
  · refine ⟨its.toList, r, ⟨o, n, I.kIn a o hk, hc, hd, by simpa using hs⟩, ?_⟩
    have e := r.length
    simp only [Array.length_toList] at e
    omega
theorem Inv.tuple (I : Inv X pins σ H s) (h : SqT X.K H a xs) : ∃ its : List Value, Vals xs its ∧ IsTup s.heap a its.toArray ∧ xs.length ≤ sizeLine := by
  rcases h with h | ⟨o, its, n, hk, hc, hs, hz, r⟩
  · obtain ⟨z, its, r, p⟩ := h.ok I.hok
    exact ⟨its, r, p, z⟩
  · refine ⟨its.toList, r, ⟨o, I.kIn a o hk, hc, n, by simpa using hs⟩, ?_⟩
    have e := r.length
    simp only [Array.length_toList] at e
    omega
theorem Inv.list_inj (I : Inv X pins σ H s) (h : SqL X.K H a xs) (h' : SqL X.K H a ys) : xs = ys := by
  obtain ⟨its, r, ⟨o, n, e, _, _, d⟩, _⟩ := I.list h
  obtain ⟨its', r', ⟨o', n', e', _, _, d'⟩, _⟩ := I.list h'
  rw [e] at e'; cases e'
  rw [d] at d'
  injection d' with d1 _
  have : its = its' := by simpa using congrArg Array.toList d1
  subst this
  exact r.inj r'
theorem Inv.tuple_inj (I : Inv X pins σ H s) (h : SqT X.K H a xs) (h' : SqT X.K H a ys) : xs = ys := by
  obtain ⟨its, r, ⟨o, e, _, n, d⟩, _⟩ := I.tuple h
  obtain ⟨its', r', ⟨o', e', _, n', d'⟩, _⟩ := I.tuple h'
  rw [e] at e'; cases e'
  rw [d] at d'
  injection d' with d1 _
  have : its = its' := by simpa using congrArg Array.toList d1
  subst this
  exact r.inj r'
end
abbrev Cx.wish (X : Cx) (E : Value → Shared → Prop) : Cx := { X with xe := E }
abbrev Cx.nox (X : Cx) : Cx := X.wish fun _ _ => False
theorem Cx.Ok.wish {X : Cx} (ok : X.Ok) (E : Value → Shared → Prop) : (X.wish E).Ok :=
  ⟨ok.mod, ok.kind, ok.glob, ok.blt, ok.above, ok.inj, ok.has, ok.cab, ok.hd, ok.frames, ok.stk, ok.exf, ok.bs, ok.bsz, ok.noex, ok.exfs, ok.funs, ok.frf⟩
theorem Cx.Ok.unwish {X : Cx} {E : Value → Shared → Prop} (ok : (X.wish E).Ok) : X.Ok :=
  ⟨ok.mod, ok.kind, ok.glob, ok.blt, ok.above, ok.inj, ok.has, ok.cab, ok.hd, ok.frames, ok.stk, ok.exf, ok.bs, ok.bsz, ok.noex, ok.exfs, ok.funs, ok.frf⟩
section
variable {X : Cx} {pins : List (Addr × Obj)} {σ : St} {H : Hp} {s : Shared} {E : Value → Shared → Prop}
theorem Inv.wish (I : Inv X pins σ H s) (E : Value → Shared → Prop) : Inv (X.wish E) pins σ H s := ⟨I.ok.wish E, I.os, I.bare, I.base, I.loc, I.cell, I.free, I.freeC, I.pin, I.hok, I.len⟩
theorem Inv.unwish (I : Inv (X.wish E) pins σ H s) : Inv X pins σ H s := ⟨I.ok.unwish, I.os, I.bare, I.base, I.loc, I.cell, I.free, I.freeC, I.pin, I.hok, I.len⟩
theorem SP.unwish {D : Ends} {f : Flow} {s' : Shared} (h : SP (X.wish E) pins D f s') : SP X pins D f s' := by
  cases f with
  | next => obtain ⟨σ', H', I, q⟩ := h; exact ⟨σ', H', I.unwish, q⟩
  | brk => obtain ⟨σ', H', I, q⟩ := h; exact ⟨σ', H', I.unwish, q⟩
  | cont => obtain ⟨σ', H', I, q⟩ := h; exact ⟨σ', H', I.unwish, q⟩
  | ret u => obtain ⟨v, σ', H', I, r, q⟩ := h; exact ⟨v, σ', H', I.unwish, r, q⟩
theorem PSs.nox {st : List Stmt} {t : TS} (h : PSs X.nox st t) : PSs X st t := fun pins s σ H D I hw =>
  wpAny_mono (h pins s σ H D (I.wish _) hw) (fun _ _ q => q.unwish) fun _ _ z => False.elim z
end
section
variable {X : Cx} {st : Stmt} {rest : List Stmt} {t u : TS} {e : Expr} {te : TE} {pos : Pos}
def tNext : TS := fun D σ H => D.nx σ H
def tSeq (t u : TS) : TS := fun D σ H => t { D with nx := u D } σ H
theorem pss_nil : PSs X [] tNext := fun _ _ σ H _ I h => wpAny_execs_nil ⟨σ, H, I, h⟩
theorem pss_cons (h1 : PS X st t) (h2 : PSs X rest u) : PSs X (st :: rest) (tSeq t u) := by
  intro pins s σ H D I h
  refine wpAny_execs_cons (thn (h1 pins s σ H { D with nx := u D } I h) fun f s1 q => ?_)
  cases f with
  | next =>
    obtain ⟨σ', H', I', q⟩ := q
    exact h2 pins s1 σ' H' D I' q
  | ret v => exact q
  | brk => exact q
  | cont => exact q
theorem pss_one (h1 : PS X st t) : PSs X [st] t := by
  intro pins s σ H D I h
  refine wpAny_execs_cons (thn (h1 pins s σ H D I h) fun f s1 q => ?_)
  cases f with
  | next => exact wpAny_execs_nil q
  | ret v => exact q
  | brk => exact q
  | cont => exact q
theorem Inv.quiet {pins : List (Addr × Obj)} {σ : St} {H : Hp} {s : Shared} (I : Inv X pins σ H s) : interactive X.env = false := by simp [interactive, I.ok.kind]
def tDrop (te : TE) : TS := fun D σ H => te σ H fun _ H1 => D.nx σ H1
theorem ps_expr (he : PE X e te) (hs : swapsWith e none pos.line X.env = pure false := by rfl) : PS X (.Expr e pos) (tDrop te) := by
  intro pins s σ H D I h
  exact wpAny_Expr_any (thn (he pins s σ H _ I h) fun v s1 ⟨x, H1, I1, r1, q1⟩ => ⟨σ, H1, I1, q1⟩) I.quiet hs
def tRet (te : TE) : TS := fun D σ H => te σ H D.rt
theorem ps_ret (he : PE X e te) : PS X (.Return (some e) pos) (tRet te) := by
  intro pins s σ H D I h
  exact wpAny_Return_some (thn (he pins s σ H _ I h) fun v s1 ⟨x, H1, I1, r1, q1⟩ => ⟨x, σ, H1, I1, r1, q1⟩)
def tIfS (c : TT) (t u : TS) : TS := fun D σ H => c σ H fun b H1 => if b = true then t D σ H1 else u D σ H1
theorem ps_if {c : Expr} {a b : List Stmt} {tc : TT} (hc : PT X c tc) (ha : PSs X a t) (hb : PSs X b u) : PS X (.If c a b pos) (tIfS tc t u) := by
  intro pins s σ H D I h
  refine wpAny_If (thn (hc pins s σ H _ I h) fun d s1 ⟨H1, I1, q1⟩ => ?_)
  cases d with
  | true => exact ha pins s1 σ H1 D I1 q1
  | false => exact hb pins s1 σ H1 D I1 q1
end
abbrev TG := V → St → Hp → (St → Hp → Prop) → Prop
abbrev TGs := List V → St → Hp → (St → Hp → Prop) → Prop
def PG (X : Cx) (target : Expr) (t : TG) : Prop :=
  ∀ (pins : List (Addr × Obj)) (s : Shared) (σ : St) (H : Hp) (v : V) (u : Value) (Q : St → Hp → Prop), Inv X pins σ H s → RelV v u → t v σ H Q →
    wpAny (model X.prog X.w) X.A (assign target X.env u) (fun _ s' => ∃ σ' H', Inv X pins σ' H' s' ∧ Q σ' H') X.xe s
def PGs (X : Cx) (ts : List Expr) (t : TGs) : Prop :=
  ∀ (pins : List (Addr × Obj)) (s : Shared) (σ : St) (H : Hp) (vs : List V) (us : List Value) (Q : St → Hp → Prop), Inv X pins σ H s → Vals vs us → t vs σ H Q →
    wpAny (model X.prog X.w) X.A (assignInOrder ((assignEach ts X.env).map (·.2)) us) (fun _ s' => ∃ σ' H', Inv X pins σ' H' s' ∧ Q σ' H') X.xe s
section
variable {X : Cx} {pos : Pos}
def gName (i : Nat) : TG := fun v σ H Q => Q (σ.set i (some v)) H
theorem pg_name {i : Nat} {x : Str} (hN : X.N.Nodup) (hi : X.N[i]? = some x) (hx : Loc X.env.scope x) (hf : X.fn x = true ∨ X.env.scope.names.lookup x = some .local := by first | exact .inl rfl | exact .inr rfl | assumption) : PG X (.Name x pos) (gName i) := by
  intro pins s σ H v u Q I r h
  exact wpAny_assign_Name (store_ok I hN hi hx r (fun s' I' => ⟨_, H, I', h⟩) hf)
def gNil : TGs := fun vs σ H Q => vs = [] ∧ Q σ H
def gCons (t : TG) (u : TGs) : TGs := fun vs σ H Q => ∃ v r, vs = v :: r ∧ t v σ H fun σ' H' => u r σ' H' Q
theorem pgs_nil : PGs X [] gNil := by
  intro pins s σ H vs us Q I r h
  obtain ⟨e, h⟩ := h
  subst e
  cases r
  exact assignInOrder_nil ⟨σ, H, I, h⟩
theorem pgs_cons {e : Expr} {es : List Expr} {t : TG} {u : TGs} (h1 : PG X e t) (h2 : PGs X es u)
    (hs : (assignEach (e :: es) X.env).map (·.2) = assign e X.env :: (assignEach es X.env).map (·.2) := by rfl) : PGs X (e :: es) (gCons t u) := by
  intro pins s σ H vs us Q I r h
  obtain ⟨v, vr, e1, h⟩ := h
  subst e1
  cases r with
  | cons r rr =>
    rw [hs]
    refine assignInOrder_cons (thn (h1 pins s σ H _ _ _ I r h) fun _ s1 ⟨σ1, H1, I1, q1⟩ => ?_)
    exact h2 pins s1 σ1 H1 _ _ Q I1 rr q1
def gTup (K : PySem.W.Frag) (n : Nat) (t : TGs) : TG := fun v σ H Q => ∃ a xs, v = .ref a ∧ SqT K H a xs ∧ xs.length = n ∧ t xs σ H Q
theorem pg_tup {es : List Expr} {k : Nat} {t : TGs} {n : Nat} (hc : X.calm = true) (h : PGs X es t)
    (hn : (assignEach es X.env).length = n := by rfl) (hst : (assignEach es X.env).findIdx? (·.1) = none := by rfl) : PG X (.Tuple es k pos) (gTup X.K n t) := by
  intro pins s σ H v u Q I r hw
  obtain ⟨a, xs, e1, hq, hl, hw⟩ := hw
  subst e1
  cases r
  obtain ⟨its, rv, ht, hz⟩ := I.tuple hq
  refine assign_Tuple_tuple (I.ok.hd hc) ht (by simp [hn, ← hl, rv.length]) hst fun h' hx => ?_
  have I1 : Inv X pins σ H { s with heap := h' } := I.kept (t' := s.toks) fun b o e => hx b o (Nat.ne_of_lt (Heap.lt_size e)) e
  exact h pins _ σ H xs _ Q I1 (by simpa using rv) hw
def tAsg (te : TE) (g : TG) : TS := fun D σ H => te σ H fun x H1 => g x σ H1 D.nx
theorem ps_set {i : Nat} {x : Str} {e : Expr} {te : TE} {pos' : Pos} (hN : X.N.Nodup) (hi : X.N[i]? = some x) (hx : Loc X.env.scope x) (he : PE X e te) (hs : swapsWith e (some (.Name x pos')) pos.line X.env = pure false := by rfl) (hf : X.fn x = true ∨ X.env.scope.names.lookup x = some .local := by first | exact .inl rfl | exact .inr rfl | assumption) :
    PS X (.Assign [.Name x pos'] e pos) (tAsg te (gName i)) := by
  intro pins s σ H D I h
  refine wpAny_Assign_Name (thn (he pins s σ H _ I h) fun v s1 ⟨y, H1, I1, r1, q1⟩ => ?_) hs
  exact store_ok I1 hN hi hx r1 (fun s2 I2 => ⟨_, H1, I2, q1⟩) hf
end
section
variable {X : Cx} {pos : Pos}
def tWhile (c : TT) (tb : TS) : TS := fun D σ H => ∃ W : Nat → St → Hp → Prop, (∃ m, W m σ H) ∧ ∀ m σ H, W m σ H →
  c σ H fun b H1 => if b = true then ∃ N : St → Hp → Prop, (∀ σ' H', N σ' H' → ∃ m', m' < m ∧ W m' σ' H') ∧ tb { D with nx := N, ct := N, bk := D.nx } σ H1 else D.nx σ H1
theorem ps_while {c : Expr} {body : List Stmt} {tc : TT} {tb : TS} (hp : PassesOwn (model X.prog X.w) X.A X.env X.xe) (hc : PT X c tc) (hb : PSs X body tb) : PS X (.While c body [] pos) (tWhile tc tb) := by
  intro pins s σ H D I h
  obtain ⟨W, ⟨m0, w0⟩, turn⟩ := h
  refine wpAny_While (codeAny_whileLoop (fun n s' => ∃ σ' H', Inv X pins σ' H' s' ∧ W n σ' H') ?_ m0 ⟨σ, H, I, w0⟩)
  rintro n s1 ⟨σ1, H1, I1, w1⟩
  refine wpAny_passesOwn hp (thn (hc pins s1 σ1 H1 _ I1 (turn n σ1 H1 w1)) fun b s2 ⟨H2, I2, q2⟩ => ?_)
  cases b with
  | true =>
    obtain ⟨N, hN, q2⟩ := q2
    rw [if_pos rfl]
    refine wpAny_passesOwn hp (thn (hb pins s2 σ1 H2 _ I2 q2) fun f s3 q3 => ?_)
    cases f with
    | next =>
      obtain ⟨σ3, H3, I3, n3⟩ := q3
      obtain ⟨m', hm, w3⟩ := hN σ3 H3 n3
      exact ⟨m', hm, σ3, H3, I3, w3⟩
    | cont =>
      obtain ⟨σ3, H3, I3, n3⟩ := q3
      obtain ⟨m', hm, w3⟩ := hN σ3 H3 n3
      exact ⟨m', hm, σ3, H3, I3, w3⟩
    | brk => exact q3
    | ret v => exact q3
  | false =>
    rw [if_neg Bool.false_ne_true]
    exact wpAny_execs_nil ⟨σ1, H2, I2, q2⟩
end
structure It where
  go : Nat → Hp → Prop
  yld : Nat → Hp → V → Hp → Prop
  stop : Nat → Hp → Prop
def FpOk (X : Cx) (pins : List (Addr × Obj)) (H : Hp) (b : Addr) : Prop :=
  H b = none ∧ b ≠ X.env.locals ∧ b ∉ X.fs ∧ (b ∈ X.ex ∨ X.s_0.heap.objs.size ≤ b) ∧ (∀ x c, X.env.cells.lookup x = some c → c ≠ b) ∧ ∀ p ∈ X.pn ++ pins, p.1 ≠ b
theorem Inv.fpOk {X : Cx} {pins : List (Addr × Obj)} {σ : St} {H H' : Hp} {s : Shared} {b : Addr} (I : Inv X pins σ H s) (hb : s.heap.objs.size ≤ b) (hn : H' b = none) : FpOk X pins H' b := by
  refine ⟨hn, Nat.ne_of_gt (Nat.lt_of_lt_of_le I.lt hb), I.nofs hb, .inr (Nat.le_trans I.sz hb), fun x c e z => ?_, fun p hp z => ?_⟩
  · obtain ⟨v, q⟩ := I.cell x c e
    exact absurd (Nat.lt_of_lt_of_le q.lt (by rw [z]; exact hb)) (Nat.lt_irrefl _)
  · exact absurd (Nat.lt_of_lt_of_le (Heap.lt_size (I.pin p hp).1) (by rw [z]; exact hb)) (Nat.lt_irrefl _)
structure Turn (P : Program) (w : World) (K : PySem.W.Frag) (tg : Expr) (J : It) (fp : List Addr) (it : Addr) (tn : Nat → Heap → Prop) : Prop where
  mem : it ∈ fp
  obj : ∀ i h, tn i h → ∀ b ∈ fp, ∃ o, h.get? b = some o ∧ ∀ v, o.data ≠ .cell v
  keep : ∀ i h h', tn i h → (∀ b ∈ fp, ∀ o, h.get? b = some o → h'.get? b = some o) → tn i h'
  item : ∀ (X : Cx), X.prog = P → X.w = w → X.K = K → X.calm = true → ∀ (i : Nat) (pins : List (Addr × Obj)) (s : Shared) (σ : St) (H : Hp) (E : Value → Shared → Prop), Inv X pins σ H s → (∀ b ∈ fp, FpOk X pins H b) → tn i s.heap → J.go i H →
    wpAny (model P w) X.A (pyNext (.ref it)) (fun r s1 => ∃ u, r = some u ∧
      wpAny (model P w) X.A (letOwnedTupleGo tg (.ref it) u) (fun _ s2 => ∃ x H', Inv X pins σ H' s2 ∧ RelV x u ∧ J.yld i H x H' ∧ tn (i + 1) s2.heap ∧ ∀ b ∈ fp, H' b = none) E s1) E s
  done : ∀ (X : Cx), X.prog = P → X.w = w → X.K = K → X.calm = true → ∀ (i : Nat) (pins : List (Addr × Obj)) (s : Shared) (σ : St) (H : Hp) (E : Value → Shared → Prop), Inv X pins σ H s → (∀ b ∈ fp, FpOk X pins H b) → tn i s.heap → J.stop i H →
    wpAny (model P w) X.A (pyNext (.ref it)) (fun r s1 => r = none ∧ Inv X pins σ H s1) E s
  self : ∀ (A : Around) (i : Nat) (s : Shared) (Q : Value → Shared → Prop) (E : Value → Shared → Prop), tn i s.heap → Q (.ref it) s → wpAny (model P w) A (pyIter (.ref it)) Q E s
abbrev TI := St → Hp → (It → Hp → Prop) → Prop
def PIE (X : Cx) (pins : List (Addr × Obj)) (σ : St) (tg : Expr) (R : It → Hp → Prop) (itv : Value) (s2 : Shared) : Prop :=
  ∃ (it : Addr) (fp : List Addr) (tn : Nat → Heap → Prop) (J : It) (H' : Hp), itv = .ref it ∧ Inv X pins σ H' s2 ∧ Turn X.prog X.w X.K tg J fp it tn ∧ tn 0 s2.heap ∧ (∀ b ∈ fp, FpOk X pins H' b) ∧ R J H'
def PI (X : Cx) (tg iter : Expr) (wi : TI) : Prop :=
  ∀ (pins : List (Addr × Obj)) (s : Shared) (σ : St) (H : Hp) (R : It → Hp → Prop), Inv X pins σ H s → wi σ H R →
    wpAny (model X.prog X.w) X.A (eval iter X.env) (fun v s1 => wpAny (model X.prog X.w) X.A (pyIter v) (PIE X pins σ tg R) X.xe s1) X.xe s
theorem go_of {M : Model} {A : Around} {E : Value → Shared → Prop} {s : Shared} {tg : Expr} {it : Addr} {u : Value} {o : Obj} {n : String} {vs : Array Value} {Q : Unit → Shared → Prop} (ho : s.heap.get? it = some o) (hc : o.cls = .type n) (hd : o.data = .fields vs)
    (hn : ["enumerate", "zip", "dict_itemiterator", "dict_reverseitemiterator", "odict_iterator", "itertools.zip_longest", "itertools.pairwise"].contains n = false) (hQ : Q () s) : wpAny M A (letOwnedTupleGo tg (.ref it) u) Q E s := by
  unfold letOwnedTupleGo
  cases tg <;> first
    | exact wpAny_pure hQ
    | (cases u <;> first
        | exact wpAny_pure hQ
        | (refine wpAny_bind (wpAny_load ho ?_)
           rw [hc, hd]
           show wpAny M A (if (["enumerate", "zip", "dict_itemiterator", "dict_reverseitemiterator", "odict_iterator", "itertools.zip_longest", "itertools.pairwise"].contains n && vs[0]? == some (rawInt _)) = true then _ else _) Q E s
           rw [if_neg (by intro h; rw [hn, Bool.false_and] at h; cases h)]
           exact wpAny_pure hQ))
def Itl (K : PySem.W.Frag) (a : Addr) : It :=
  ⟨fun i H => ∃ xs x, SqL K H a xs ∧ xs[i]? = some x, fun i H x H' => H' = H ∧ ∀ xs, SqL K H a xs → xs[i]? = some x, fun i H => ∃ xs, SqL K H a xs ∧ xs.length ≤ i⟩
def Itt (K : PySem.W.Frag) (a : Addr) : It :=
  ⟨fun i H => ∃ xs x, SqT K H a xs ∧ xs[i]? = some x, fun i H x H' => H' = H ∧ ∀ xs, SqT K H a xs → xs[i]? = some x, fun i H => ∃ xs, SqT K H a xs ∧ xs.length ≤ i⟩
def Itr (lo : Int) (n : Nat) : It := ⟨fun i _ => i < n, fun i H x H' => H' = H ∧ x = .int (lo + i), fun i _ => n ≤ i⟩
theorem turn_list {P : Program} {w : World} {K : PySem.W.Frag} {tg : Expr} (a it : Addr) : Turn P w K tg (Itl K a) [it] it (fun i h => h.IsListIter it a i) where
  mem := by simp
  obj := fun i h st b hb => by
    have e : b = it := by simpa using hb
    subst e
    obtain ⟨o, e, c, d⟩ := st
    exact ⟨o, e, fun v z => by rw [d] at z; cases z⟩
  keep := fun i h h' st k => st.at fun o e => k it (by simp) o e
  item := by
    intro X hP hw hK hc i pins s σ H E I hf st hg
    subst hP hw hK
    obtain ⟨xs, x, hq, hx⟩ := hg
    obtain ⟨its, rv, p, hz⟩ := I.list hq
    obtain ⟨u, hu, ru⟩ := rv.get hx
    obtain ⟨f0, f1, f2, f3, f4, f5⟩ := hf it (by simp)
    refine wpAny_pyNext_list_item st p.isList (x := u) (by simpa using hu) fun h' st' sb => ?_
    have I1 : Inv X pins σ H { s with heap := h' } := I.turned (t' := s.toks) (fun b o hb e => (sb.2 b hb).trans e) f0 f1 f3 f4 f5
    obtain ⟨o, e, c, d⟩ := id st'
    exact ⟨u, rfl, go_of (s := { s with heap := h' }) e c d (by decide) ⟨x, H, I1, ru, ⟨rfl, fun ys hy => by rw [I.list_inj hy hq]; exact hx⟩, st', fun b hb => (hf b hb).1⟩⟩
  done := by
    intro X hP hw hK hc i pins s σ H E I hf st hg
    subst hP hw hK
    obtain ⟨xs, hq, hx⟩ := hg
    obtain ⟨its, rv, p, hz⟩ := I.list hq
    obtain ⟨f0, f1, f2, f3, f4, f5⟩ := hf it (by simp)
    have hl := rv.length
    exact wpAny_pyNext_list_end (I.ok.hd hc) st p.isList (by simp; omega) fun h' eb => ⟨rfl, I.turned (t' := s.toks) (fun b o hb e => eb b o hb e) f0 f1 f3 f4 f5⟩
  self := fun _ _ _ _ _ st h => wpAny_pyIter_listiter st h
theorem turn_tuple {P : Program} {w : World} {K : PySem.W.Frag} {tg : Expr} (a it : Addr) : Turn P w K tg (Itt K a) [it] it (fun i h => h.IsTupleIter it a i) where
  mem := by simp
  obj := fun i h st b hb => by
    have e : b = it := by simpa using hb
    subst e
    obtain ⟨o, e, c, d⟩ := st
    exact ⟨o, e, fun v z => by rw [d] at z; cases z⟩
  keep := fun i h h' st k => st.at fun o e => k it (by simp) o e
  item := by
    intro X hP hw hK hc i pins s σ H E I hf st hg
    subst hP hw hK
    obtain ⟨xs, x, hq, hx⟩ := hg
    obtain ⟨its, rv, p, hz⟩ := I.tuple hq
    obtain ⟨u, hu, ru⟩ := rv.get hx
    obtain ⟨f0, f1, f2, f3, f4, f5⟩ := hf it (by simp)
    refine wpAny_pyNext_tuple_item st (show s.heap.IsTuple a its.toArray from p) (x := u) (by simpa using hu) fun h' st' sb => ?_
    have I1 : Inv X pins σ H { s with heap := h' } := I.turned (t' := s.toks) (fun b o hb e => (sb.2 b hb).trans e) f0 f1 f3 f4 f5
    obtain ⟨o, e, c, d⟩ := id st'
    exact ⟨u, rfl, go_of (s := { s with heap := h' }) e c d (by decide) ⟨x, H, I1, ru, ⟨rfl, fun ys hy => by rw [I.tuple_inj hy hq]; exact hx⟩, st', fun b hb => (hf b hb).1⟩⟩
  done := by
    intro X hP hw hK hc i pins s σ H E I hf st hg
    subst hP hw hK
    obtain ⟨xs, hq, hx⟩ := hg
    obtain ⟨its, rv, p, hz⟩ := I.tuple hq
    obtain ⟨f0, f1, f2, f3, f4, f5⟩ := hf it (by simp)
    have hl := rv.length
    exact wpAny_pyNext_tuple_end (I.ok.hd hc) st (show s.heap.IsTuple a its.toArray from p) (by simp; omega) fun h' eb => ⟨rfl, I.turned (t' := s.toks) (fun b o hb e => eb b o hb e) f0 f1 f3 f4 f5⟩
  self := fun _ _ _ _ _ st h => wpAny_pyIter_tupleiter st h
theorem turn_range {P : Program} {w : World} {K : PySem.W.Frag} {tg : Expr} (it : Addr) (lo : Int) (n : Nat) : Turn P w K tg (Itr lo n) [it] it (fun i h => IsRangeIter h it (lo + (i : Nat) * 1) ((n : Int) - (i : Nat)) 1) where
  mem := by simp
  obj := fun i h st b hb => by
    have e : b = it := by simpa using hb
    subst e
    exact ⟨_, st, fun v z => by
      have z' : Data.fields _ = Data.cell v := z
      cases z'⟩
  keep := fun i h h' st k => k it (by simp) _ st
  item := by
    intro X hP hw hK hc i pins s σ H E I hf st hg
    subst hP hw hK
    obtain ⟨f0, f1, f2, f3, f4, f5⟩ := hf it (by simp)
    have W := Walks.range (prog := X.prog) (w := X.w) (I.ok.hd hc) it lo 1 n
    refine W.item i s _ _ hg st fun v h' tk hv st' kk => ?_
    obtain ⟨t, rfl⟩ := hv
    have I1 : Inv X pins σ H { s with heap := h', toks := tk } := I.turned (fun b o hb e => kk b o (by simpa using hb) e) f0 f1 f3 f4 f5
    refine ⟨_, rfl, go_of (s := { s with heap := h', toks := tk }) (n := "range_iterator") st' rfl rfl (by decide) ⟨.int (lo + i), H, I1, ⟨t, ?_⟩, ⟨rfl, rfl⟩, st', fun b hb => (hf b hb).1⟩⟩
    rw [Int.mul_one]
  done := by
    intro X hP hw hK hc i pins s σ H E I hf st hg
    subst hP hw hK
    obtain ⟨f0, f1, f2, f3, f4, f5⟩ := hf it (by simp)
    exact wpAny_pyNext_range_end (I.ok.hd hc) st (by have : n ≤ i := hg; omega) fun h' eb => ⟨rfl, I.turned (t' := s.toks) (fun b o hb e => eb b o hb e) f0 f1 f3 f4 f5⟩
  self := fun _ _ _ _ _ st h => wpAny_pyIter_rangeiter st h
end L2
namespace L2
open PySem PySem.Spec PyProof.Rows
section
variable {X : Cx} {tg : Expr}
def iList (K : PySem.W.Frag) (tl : TE) : TI := fun σ H R => tl σ H fun x H1 => ∃ a, x = .ref a ∧ (∃ xs, SqL K H1 a xs) ∧ R (Itl K a) H1
def iTup (K : PySem.W.Frag) (tl : TE) : TI := fun σ H R => tl σ H fun x H1 => ∃ a, x = .ref a ∧ (∃ xs, SqT K H1 a xs) ∧ R (Itt K a) H1
theorem pi_list {l : Expr} {tl : TE} (hl : PE X l tl) : PI X tg l (iList X.K tl) := by
  intro pins s σ H R I h
  refine thn (hl pins s σ H _ I h) fun v s1 ⟨x, H1, I1, r1, q1⟩ => ?_
  obtain ⟨a, e, ⟨xs, hq⟩, q⟩ := q1
  subst e
  cases r1
  obtain ⟨its, rv, p, hz⟩ := I1.list hq
  refine wpAny_pyIter_list p.isList ?_
  refine ⟨s1.heap.objs.size, [s1.heap.objs.size], _, _, H1, rfl, I1.kept (t' := s1.toks) fun b o e => Heap.get?_push_of_some _ e, turn_list a _, ⟨_, Heap.get?_push_size _ rfl, rfl, rfl⟩, fun b hb => ?_, q⟩
  have e : b = s1.heap.objs.size := by simpa using hb
  subst e
  exact I1.fpOk (Nat.le_refl _) (I1.hok.fresh (Nat.le_refl _))
theorem pi_tup {l : Expr} {tl : TE} (hl : PE X l tl) : PI X tg l (iTup X.K tl) := by
  intro pins s σ H R I h
  refine thn (hl pins s σ H _ I h) fun v s1 ⟨x, H1, I1, r1, q1⟩ => ?_
  obtain ⟨a, e, ⟨xs, hq⟩, q⟩ := q1
  subst e
  cases r1
  obtain ⟨its, rv, p, hz⟩ := I1.tuple hq
  refine wpAny_pyIter_tuple (show s1.heap.IsTuple a its.toArray from p) ?_
  refine ⟨s1.heap.objs.size, [s1.heap.objs.size], _, _, H1, rfl, I1.kept (t' := s1.toks) fun b o e => Heap.get?_push_of_some _ e, turn_tuple a _, ⟨_, Heap.get?_push_size _ rfl, rfl, rfl⟩, fun b hb => ?_, q⟩
  have e : b = s1.heap.objs.size := by simpa using hb
  subst e
  exact I1.fpOk (Nat.le_refl _) (I1.hok.fresh (Nat.le_refl _))
theorem range_it {pins : List (Addr × Obj)} {σ : St} {H : Hp} {s : Shared} {R : It → Hp → Prop} {E : Value → Shared → Prop} {lo hi : Int} {t u v : Tok} {tk : Nat} (I : Inv X pins σ H s) (h1 : -(2 ^ 62) ≤ lo) (h2 : lo < 2 ^ 62) (h3 : -(2 ^ 62) ≤ hi) (h4 : hi < 2 ^ 62)
    (q : R (Itr lo (hi - lo).toNat) H) : wpAny (model X.prog X.w) X.A (pyIter (.ref s.heap.objs.size)) (PIE X pins σ tg R) E { s with heap := s.heap.push { cls := .type "range", data := .fields #[.int lo t, .int hi u, .int 1 v] }, toks := tk } := by
  refine wpAny_pyIter_range (IsRange.new ..) (small_one h1 h2 h3 h4) ?_
  have I1 : Inv X pins σ H { s with heap := s.heap.push { cls := .type "range", data := .fields #[.int lo t, .int hi u, .int 1 v] }, toks := tk } := I.kept fun b o e => Heap.get?_push_of_some _ e
  refine ⟨(s.heap.push { cls := .type "range", data := .fields #[.int lo t, .int hi u, .int 1 v] }).objs.size, [(s.heap.push { cls := .type "range", data := .fields #[.int lo t, .int hi u, .int 1 v] }).objs.size], _, _, H, rfl,
    I1.kept (t' := tk) fun b o e => Heap.get?_push_of_some _ e, turn_range _ lo (hi - lo).toNat, ?_, fun b hb => ?_, q⟩
  · have e1 : lo + ((0 : Nat) : Int) * 1 = lo := by simp
    have e2 : (((hi - lo).toNat : Nat) : Int) - ((0 : Nat) : Int) = Builtin.Range.rangeSize lo hi 1 := by rw [rangeSize_one]; split <;> omega
    show IsRangeIter _ _ (lo + ((0 : Nat) : Int) * 1) ((((hi - lo).toNat : Nat) : Int) - ((0 : Nat) : Int)) 1
    rw [e1, e2]
    exact Heap.get?_push_size _ rfl
  · have e : b = (s.heap.push { cls := .type "range", data := .fields #[.int lo t, .int hi u, .int 1 v] }).objs.size := by simpa using hb
    subst e
    exact I1.fpOk (Nat.le_refl _) (I1.hok.fresh (Nat.le_refl _))
def iRng1 (ta : TA) : TI := fun σ H R => ta σ H fun vs H1 => ∃ j : Int, vs = [.int j] ∧ -(2 ^ 62) ≤ j ∧ j < 2 ^ 62 ∧ R (Itr 0 j.toNat) H1
theorem pi_range1 {a : Expr} {ta : TA} {p pos : Pos} (hg : Gl X "range") (hm : X.mg "range" = none) (ha : PA X [a] ta) (hs : starEach [a] X.env = [(false, eval a X.env)] := by rfl) : PI X tg (.Call (.Name "range" p) [a] [] pos) (iRng1 ta) := by
  intro pins s σ H R I h
  refine Call_ (ld_blt I hg hm boot_range (PyProof.Rows.callWith_type1 (thn (ha pos pins s σ H _ I h) fun us s1 ⟨vs, H1, I1, r1, q1⟩ => ?_) hs rfl))
  obtain ⟨j, e, q1, q2, q⟩ := q1
  subst e
  cases r1 with
  | cons r rr =>
    cases rr
    obtain ⟨t, rfl⟩ := r
    exact call_range_1 (range_it I1 (by omega) (by omega) q1 q2 (by simpa using q))
def tFor (wi : TI) (g : TG) (tb : TS) : TS := fun D σ H => wi σ H fun J H1 => ∃ W : Nat → Nat → St → Hp → Prop, (∃ m, W 0 m σ H1) ∧ ∀ i m σ H, W i m σ H →
  (J.stop i H ∧ D.nx σ H) ∨ (J.go i H ∧ ∃ N : St → Hp → Prop, (∀ σ' H', N σ' H' → ∃ m', m' < m ∧ W (i + 1) m' σ' H') ∧ ∀ x H', J.yld i H x H' → g x σ H' fun σ2 H2 => tb { D with nx := N, ct := N, bk := D.nx } σ2 H2)
def pinsAt (fp : List Addr) (h : Heap) : List (Addr × Obj) := fp.filterMap fun b => (h.get? b).map fun o => (b, o)
theorem mem_pinsAt {fp : List Addr} {h : Heap} {b : Addr} {o : Obj} (hb : b ∈ fp) (e : h.get? b = some o) : (b, o) ∈ pinsAt fp h := List.mem_filterMap.mpr ⟨b, hb, by rw [e]; rfl⟩
theorem of_pinsAt {fp : List Addr} {h : Heap} {p : Addr × Obj} (hp : p ∈ pinsAt fp h) : p.1 ∈ fp ∧ h.get? p.1 = some p.2 := by
  obtain ⟨b, hb, e⟩ := List.mem_filterMap.mp hp
  cases q : h.get? b with
  | none => rw [q] at e; cases e
  | some o =>
    rw [q] at e
    have e' : (b, o) = p := Option.some.inj e
    subst e'
    exact ⟨hb, q⟩
theorem Inv.pinned {pins : List (Addr × Obj)} {σ : St} {H : Hp} {s : Shared} {fp : List Addr} (I : Inv X pins σ H s) (hf : ∀ b ∈ fp, FpOk X pins H b) (ho : ∀ b ∈ fp, ∃ o, s.heap.get? b = some o ∧ ∀ v, o.data ≠ .cell v) : Inv X (pins ++ pinsAt fp s.heap) σ H s :=
  I.pins_of fun p hp => (List.mem_append.mp hp).elim (fun z => I.pin p (List.mem_append_right _ z)) fun z => by
    obtain ⟨hb, e⟩ := of_pinsAt z
    obtain ⟨f0, f1, f2, _⟩ := hf p.1 hb
    obtain ⟨o, e', d⟩ := ho p.1 hb
    rw [e] at e'; cases e'
    exact ⟨e, f0, f1, f2, d⟩
theorem Inv.unpinned {pins pl : List (Addr × Obj)} {σ : St} {H : Hp} {s : Shared} (I : Inv X (pins ++ pl) σ H s) : Inv X pins σ H s := I.pins_of fun p hp => I.pin p (List.mem_append_right _ (List.mem_append_left _ hp))
theorem ps_for {iter : Expr} {body : List Stmt} {wi : TI} {g : TG} {tb : TS} {pos : Pos} (hp : PassesOwn (model X.prog X.w) X.A X.env X.xe) (hc : X.calm = true) (hi : PI X tg iter wi) (hg : PG X tg g) (hb : PSs X body tb)
    (hs : ∀ x, foldedSetIterable iter X.env x = pure x := by intro _; rfl) : PS X (.For tg iter body [] pos) (tFor wi g tb) := by
  intro pins s σ H D I h
  refine wpAny_For (thn (hi pins s σ H _ I h) fun v s1 h1 => thn h1 fun itv s2 h2 => ?_) hs
  obtain ⟨it, fp, tn, J, H2, e, I2, T, st2, f2, W, ⟨m0, w0⟩, turn⟩ := h2
  subst e
  have stat : ∀ {H' : Hp}, (∀ b ∈ fp, H' b = none) → ∀ b ∈ fp, FpOk X pins H' b := fun hn b hb => ⟨hn b hb, (f2 b hb).2⟩
  refine codeAny_forLoop_any (fun n s' => ∃ i σ' H', Inv X pins σ' H' s' ∧ tn i s'.heap ∧ (∀ b ∈ fp, H' b = none) ∧ W i n σ' H') ?_ m0 ⟨0, σ, H2, I2, st2, fun b hb => (f2 b hb).1, w0⟩
  rintro n s3 ⟨i, σ3, H3, I3, st3, fr3, w3⟩
  rcases turn i n σ3 H3 w3 with ⟨stop, qn⟩ | ⟨go, N, hN, step⟩
  · refine wpAny_passesOwn hp (thn (T.done X rfl rfl rfl hc i pins s3 σ3 H3 X.xe I3 (stat fr3) st3 stop) fun r s4 ⟨hr, I4⟩ => ?_)
    subst hr
    exact wpAny_execs_nil ⟨σ3, H3, I4, qn⟩
  · refine wpAny_passesOwn hp (thn (T.item X rfl rfl rfl hc i pins s3 σ3 H3 X.xe I3 (stat fr3) st3 go) fun r s4 ⟨u, hr, h4⟩ => ?_)
    subst hr
    refine wpAny_passesOwn hp (thn h4 fun _ s5 ⟨x, H5, I5, r5, y5, st5, fr5⟩ => ?_)
    have I5' := I5.pinned (stat fr5) (T.obj _ _ st5)
    refine wpAny_passesOwn hp (thn (hg _ s5 σ3 H5 x u _ I5' r5 (step x H5 y5)) fun _ s6 ⟨σ6, H6, I6, q6⟩ => ?_)
    refine wpAny_passesOwn hp (thn (hb _ s6 σ6 H6 _ I6 q6) fun f s7 q7 => ?_)
    have again : ∀ {σ7 : St} {H7 : Hp}, Inv X (pins ++ pinsAt fp s5.heap) σ7 H7 s7 → N σ7 H7 → ∃ m, m < n ∧ ∃ i σ' H', Inv X pins σ' H' s7 ∧ tn i s7.heap ∧ (∀ b ∈ fp, H' b = none) ∧ W i m σ' H' := fun {σ7 H7} I7 n7 => by
      obtain ⟨m', hm, w7⟩ := hN σ7 H7 n7
      refine ⟨m', hm, i + 1, σ7, H7, I7.unpinned, T.keep _ _ _ st5 fun b hb o e => (I7.pin (b, o) (List.mem_append_right _ (List.mem_append_right _ (mem_pinsAt hb e)))).1, fun b hb => ?_, w7⟩
      obtain ⟨o, e, d⟩ := T.obj _ _ st5 b hb
      exact (I7.pin (b, o) (List.mem_append_right _ (List.mem_append_right _ (mem_pinsAt hb e)))).2.1
    cases f with
    | next => obtain ⟨σ7, H7, I7, n7⟩ := q7; exact again I7 n7
    | cont => obtain ⟨σ7, H7, I7, n7⟩ := q7; exact again I7 n7
    | brk => obtain ⟨σ7, H7, I7, q7⟩ := q7; exact ⟨σ7, H7, I7.unpinned, q7⟩
    | ret v => obtain ⟨x7, σ7, H7, I7, r7, q7⟩ := q7; exact ⟨x7, σ7, H7, I7.unpinned, r7, q7⟩
end
theorem for_list {K : PySem.W.Frag} {a : Addr} {xs : List V} {g : TG} {tb : TS} {D : Ends} {σ : St} {H : Hp} (Pv : Nat → St → Hp → Prop) (h0 : Pv 0 σ H) (hl : ∀ i σ H, i ≤ xs.length → Pv i σ H → SqL K H a xs)
    (hs : ∀ i x σ H, xs[i]? = some x → Pv i σ H → g x σ H fun σ2 H2 => tb { D with nx := Pv (i + 1), ct := Pv (i + 1), bk := D.nx } σ2 H2) (hd : ∀ σ H, Pv xs.length σ H → D.nx σ H) :
    ∃ W : Nat → Nat → St → Hp → Prop, (∃ m, W 0 m σ H) ∧ ∀ i m σ H, W i m σ H →
      ((Itl K a).stop i H ∧ D.nx σ H) ∨ ((Itl K a).go i H ∧ ∃ N : St → Hp → Prop, (∀ σ' H', N σ' H' → ∃ m', m' < m ∧ W (i + 1) m' σ' H') ∧ ∀ x H', (Itl K a).yld i H x H' → g x σ H' fun σ2 H2 => tb { D with nx := N, ct := N, bk := D.nx } σ2 H2) := by
  refine ⟨fun i m σ H => m = xs.length - i ∧ i ≤ xs.length ∧ Pv i σ H, ⟨xs.length, by simp, Nat.zero_le _, h0⟩, ?_⟩
  rintro i m σ H ⟨rfl, hi, p⟩
  have q := hl i σ H hi p
  by_cases hlt : i < xs.length
  · refine .inr ⟨⟨xs, xs[i], q, by simp [hlt]⟩, Pv (i + 1), fun σ' H' p' => ⟨xs.length - (i + 1), by omega, rfl, hlt, p'⟩, fun x H' y => ?_⟩
    obtain ⟨e, y⟩ := y
    subst e
    exact hs i x σ _ (y xs q) p
  · have e : i = xs.length := by omega
    subst e
    exact .inl ⟨⟨xs, q, Nat.le_refl _⟩, hd σ H p⟩
theorem for_tup {K : PySem.W.Frag} {a : Addr} {xs : List V} {g : TG} {tb : TS} {D : Ends} {σ : St} {H : Hp} (Pv : Nat → St → Hp → Prop) (h0 : Pv 0 σ H) (hl : ∀ i σ H, i ≤ xs.length → Pv i σ H → SqT K H a xs)
    (hs : ∀ i x σ H, xs[i]? = some x → Pv i σ H → g x σ H fun σ2 H2 => tb { D with nx := Pv (i + 1), ct := Pv (i + 1), bk := D.nx } σ2 H2) (hd : ∀ σ H, Pv xs.length σ H → D.nx σ H) :
    ∃ W : Nat → Nat → St → Hp → Prop, (∃ m, W 0 m σ H) ∧ ∀ i m σ H, W i m σ H →
      ((Itt K a).stop i H ∧ D.nx σ H) ∨ ((Itt K a).go i H ∧ ∃ N : St → Hp → Prop, (∀ σ' H', N σ' H' → ∃ m', m' < m ∧ W (i + 1) m' σ' H') ∧ ∀ x H', (Itt K a).yld i H x H' → g x σ H' fun σ2 H2 => tb { D with nx := N, ct := N, bk := D.nx } σ2 H2) := by
  refine ⟨fun i m σ H => m = xs.length - i ∧ i ≤ xs.length ∧ Pv i σ H, ⟨xs.length, by simp, Nat.zero_le _, h0⟩, ?_⟩
  rintro i m σ H ⟨rfl, hi, p⟩
  have q := hl i σ H hi p
  by_cases hlt : i < xs.length
  · refine .inr ⟨⟨xs, xs[i], q, by simp [hlt]⟩, Pv (i + 1), fun σ' H' p' => ⟨xs.length - (i + 1), by omega, rfl, hlt, p'⟩, fun x H' y => ?_⟩
    obtain ⟨e, y⟩ := y
    subst e
    exact hs i x σ _ (y xs q) p
  · have e : i = xs.length := by omega
    subst e
    exact .inl ⟨⟨xs, q, Nat.le_refl _⟩, hd σ H p⟩
theorem for_range {lo : Int} {n : Nat} {g : TG} {tb : TS} {D : Ends} {σ : St} {H : Hp} (Pv : Nat → St → Hp → Prop) (h0 : Pv 0 σ H)
    (hs : ∀ i σ H, i < n → Pv i σ H → g (.int (lo + i)) σ H fun σ2 H2 => tb { D with nx := Pv (i + 1), ct := Pv (i + 1), bk := D.nx } σ2 H2) (hd : ∀ σ H, Pv n σ H → D.nx σ H) :
    ∃ W : Nat → Nat → St → Hp → Prop, (∃ m, W 0 m σ H) ∧ ∀ i m σ H, W i m σ H →
      ((Itr lo n).stop i H ∧ D.nx σ H) ∨ ((Itr lo n).go i H ∧ ∃ N : St → Hp → Prop, (∀ σ' H', N σ' H' → ∃ m', m' < m ∧ W (i + 1) m' σ' H') ∧ ∀ x H', (Itr lo n).yld i H x H' → g x σ H' fun σ2 H2 => tb { D with nx := N, ct := N, bk := D.nx } σ2 H2) := by
  refine ⟨fun i m σ H => m = n - i ∧ i ≤ n ∧ Pv i σ H, ⟨n, by simp, Nat.zero_le _, h0⟩, ?_⟩
  rintro i m σ H ⟨rfl, hi, p⟩
  by_cases hlt : i < n
  · refine .inr ⟨hlt, Pv (i + 1), fun σ' H' p' => ⟨n - (i + 1), by omega, rfl, hlt, p'⟩, fun x H' y => ?_⟩
    obtain ⟨e, y⟩ := y
    subst e y
    exact hs i σ _ hlt p
  · have e : i = n := by omega
    subst e
    exact .inl ⟨Nat.le_refl _, hd σ H p⟩
end L2
namespace L2
open PySem PySem.Spec PyProof.Rows
abbrev R2 := V → V → Hp → VK → Prop
def OpR (X : Cx) (f : Value → Value → Sem Value) (r : R2) : Prop :=
  ∀ (pins : List (Addr × Obj)) (s : Shared) (σ : St) (H : Hp) (x y : V) (v u : Value) (Q : VK), Inv X pins σ H s → RelV x v → RelV y u → r x y H Q →
    wpAny (model X.prog X.w) X.A (f v u) (EP X pins σ Q) X.xe s
def UnR (X : Cx) (f : Value → Sem Value) (r : V → Hp → VK → Prop) : Prop :=
  ∀ (pins : List (Addr × Obj)) (s : Shared) (σ : St) (H : Hp) (x : V) (v : Value) (Q : VK), Inv X pins σ H s → RelV x v → r x H Q →
    wpAny (model X.prog X.w) X.A (f v) (EP X pins σ Q) X.xe s
def CallR (X : Cx) (f : Value) (r : List V → Hp → VK → Prop) : Prop :=
  ∀ (pins : List (Addr × Obj)) (s : Shared) (σ : St) (H : Hp) (xs : List V) (us : List Value) (Q : VK), Inv X pins σ H s → Vals xs us → r xs H Q →
    wpAny (model X.prog X.w) X.A (call f us) (EP X pins σ Q) X.xe s
def tOp (r : R2) (ta tb : TE) : TE := fun σ H Q => ta σ H fun x H1 => tb σ H1 fun y H2 => r x y H2 Q
def tUn (r : V → Hp → VK → Prop) (ta : TE) : TE := fun σ H Q => ta σ H fun x H1 => r x H1 Q
def rI (C : Int → Int → Prop) (g : Int → Int → V) : R2 := fun x y H Q => ∃ i j, x = .int i ∧ y = .int j ∧ C i j ∧ Q (g i j) H
def rI0 (g : Int → Int → V) : R2 := fun x y H Q => ∃ i j, x = .int i ∧ y = .int j ∧ Q (g i j) H
def rU (g : Int → V) : V → Hp → VK → Prop := fun x H Q => ∃ i, x = .int i ∧ Q (g i) H
section
variable {X : Cx} {a b c : Expr} {ta tb tc : TE} {pos : Pos}
theorem binT (ha : PE X a ta) (hb : PE X b tb) {pins : List (Addr × Obj)} {s : Shared} {σ : St} {H : Hp} {R : V → V → Hp → Prop} (I : Inv X pins σ H s)
    (h : ta σ H fun x H1 => tb σ H1 fun y H2 => R x y H2) {Q : Value → Shared → Prop} {f : Value → Value → Sem Value}
    (hf : ∀ v u s2 x y H2, Inv X pins σ H2 s2 → RelV x v → RelV y u → R x y H2 → wpAny (model X.prog X.w) X.A (f v u) Q X.xe s2) :
    wpAny (model X.prog X.w) X.A (eval a X.env) (fun v s₁ => wpAny (model X.prog X.w) X.A (eval b X.env) (fun u s₂ => wpAny (model X.prog X.w) X.A (f v u) Q X.xe s₂) X.xe s₁) X.xe s := by
  refine thn (ha pins s σ H _ I h) fun v s1 ⟨x, H1, I1, r1, q1⟩ => ?_
  refine thn (hb pins s1 σ H1 _ I1 q1) fun u s2 ⟨y, H2, I2, r2, q2⟩ => ?_
  exact hf v u s2 x y H2 I2 r1 r2 q2
theorem pe_op {op : Operator} {r : R2} (ho : OpR X (binaryOp op) r) (ha : PE X a ta) (hb : PE X b tb) : PE X (.BinOp a op b pos) (tOp r ta tb) := by
  intro pins s σ H Q I h
  exact wpAny_BinOp (binT ha hb I h fun v u s2 x y H2 I2 rx ry q => ho pins s2 σ H2 x y v u Q I2 rx ry q)
theorem pe_un {op : UnaryOp} {r : V → Hp → VK → Prop} (ho : UnR X (unaryOp op) r) (ha : PE X a ta) : PE X (.UnaryOp op a pos) (tUn r ta) := by
  intro pins s σ H Q I h
  exact UnaryOp_ (thn (ha pins s σ H _ I h) fun v s1 ⟨x, H1, I1, r1, q1⟩ => ho pins s1 σ H1 x v Q I1 r1 q1)
theorem opI {f : Value → Value → Sem Value} {C : Int → Int → Prop} {g : Int → Int → Int}
    (rule : ∀ (i j : Int) (t u : Tok) (s : Shared) (Q : Value → Shared → Prop) (E : Value → Shared → Prop), C i j → Q (.int (g i j) s.toks) { s with toks := s.toks + 1 } → wpAny (model X.prog X.w) X.A (f (.int i t) (.int j u)) Q E s) :
    OpR X f (rI C fun i j => .int (g i j)) := by
  intro pins s σ H x y v u Q I rx ry h
  obtain ⟨i, j, rfl, rfl, hc, q⟩ := h
  obtain ⟨t, rfl⟩ := rx
  obtain ⟨t', rfl⟩ := ry
  exact rule i j t t' s _ _ hc ⟨.int (g i j), H, I.tok _, ⟨_, rfl⟩, q⟩
theorem opI0 {f : Value → Value → Sem Value} {g : Int → Int → Int}
    (rule : ∀ (i j : Int) (t u : Tok) (s : Shared) (Q : Value → Shared → Prop) (E : Value → Shared → Prop), Q (.int (g i j) s.toks) { s with toks := s.toks + 1 } → wpAny (model X.prog X.w) X.A (f (.int i t) (.int j u)) Q E s) :
    OpR X f (rI0 fun i j => .int (g i j)) := by
  intro pins s σ H x y v u Q I rx ry h
  obtain ⟨i, j, rfl, rfl, q⟩ := h
  obtain ⟨t, rfl⟩ := rx
  obtain ⟨t', rfl⟩ := ry
  exact rule i j t t' s _ _ ⟨.int (g i j), H, I.tok _, ⟨_, rfl⟩, q⟩
theorem opB0 {f : Value → Value → Sem Value} {g : Int → Int → Bool}
    (rule : ∀ (i j : Int) (t u : Tok) (s : Shared) (Q : Value → Shared → Prop) (E : Value → Shared → Prop), Q (.bool (g i j)) s → wpAny (model X.prog X.w) X.A (f (.int i t) (.int j u)) Q E s) :
    OpR X f (rI0 fun i j => .bl (g i j)) := by
  intro pins s σ H x y v u Q I rx ry h
  obtain ⟨i, j, rfl, rfl, q⟩ := h
  obtain ⟨t, rfl⟩ := rx
  obtain ⟨t', rfl⟩ := ry
  exact rule i j t t' s _ _ ⟨.bl (g i j), H, I, rfl, q⟩
def CDiv (i j : Int) : Prop := 0 < j ∧ j < 1073741824
def CMul (i j : Int) : Prop := (-(2 ^ 64) < i ∧ i < 2 ^ 64) ∨ (-(2 ^ 64) < j ∧ j < 2 ^ 64)
theorem CMul.ok {i j : Int} (h : CMul i j) : IntMulOk i j := by
  rcases h with ⟨h1, h2⟩ | ⟨h1, h2⟩
  · exact .of_left (intBits_le_64 h1 h2)
  · exact .of_right (intBits_le_64 h1 h2)
theorem op_add : OpR X (binaryOp .Add) (rI0 fun i j => .int (i + j)) := opI0 fun _ _ _ _ _ _ _ q => add_int q
theorem op_sub : OpR X (binaryOp .Sub) (rI0 fun i j => .int (i - j)) := opI0 fun _ _ _ _ _ _ _ q => sub_int q
theorem op_mul : OpR X (binaryOp .Mult) (rI CMul fun i j => .int (i * j)) := opI fun _ _ _ _ _ _ _ hc q => mul_int q hc.ok
theorem op_fdiv : OpR X (binaryOp .FloorDiv) (rI CDiv fun i j => .int (i / j)) := opI fun i j _ _ _ _ _ hc q => by
  have h1 : (0 : Int) < j := hc.1
  have h2 : j < 1073741824 := hc.2
  exact floordiv_int (by omega) (by rw [Int.fdiv_eq_ediv_of_nonneg i (by omega)]; exact q) (.inl (PyProof.noPylong_small (by omega)))
theorem op_mod : OpR X (binaryOp .Mod) (rI (fun _ j => 0 < j) fun i j => .int (i % j)) := opI fun i j _ _ _ _ _ hc q => by
  have h1 : (0 : Int) < j := hc
  exact mod_int' (by omega) (by rw [Int.fmod_eq_emod_of_nonneg i (by omega)]; exact q)
theorem unI {f : Value → Sem Value} {g : Int → Int}
    (rule : ∀ (i : Int) (t : Tok) (s : Shared) (Q : Value → Shared → Prop) (E : Value → Shared → Prop), Q (.int (g i) s.toks) { s with toks := s.toks + 1 } → wpAny (model X.prog X.w) X.A (f (.int i t)) Q E s) :
    UnR X f (rU fun i => .int (g i)) := by
  intro pins s σ H x v Q I rx h
  obtain ⟨i, rfl, q⟩ := h
  obtain ⟨t, rfl⟩ := rx
  exact rule i t s _ _ ⟨.int (g i), H, I.tok _, ⟨_, rfl⟩, q⟩
theorem un_neg : UnR X (unaryOp .USub) (rU fun i => .int (-i)) := unI fun _ _ _ _ _ q => neg_int q
end
def scal : V → V → Bool
  | .non, .non => true | .non, .int _ => true | .int _, .non => true | .non, .bl _ => true | .bl _, .non => true | .non, .str _ => true | .str _, .non => true
  | .int _, .int _ => true | .bl _, .bl _ => true | .str _, .str _ => true | .byt _, .byt _ => true
  | .int _, .str _ => true | .str _, .int _ => true | .bl _, .str _ => true | .str _, .bl _ => true
  | _, _ => false
def rEq : R2 := fun x y H Q => scal x y = true ∧ Q (.bl (decide (x = y))) H
def rNe : R2 := fun x y H Q => scal x y = true ∧ Q (.bl (!decide (x = y))) H
theorem dec_int {i j : Int} : decide (V.int i = V.int j) = (i == j) := by
  rw [Bool.eq_iff_iff]
  simp
theorem dec_bl {i j : Bool} : decide (V.bl i = V.bl j) = (i == j) := by
  rw [Bool.eq_iff_iff]
  simp
theorem dec_str {i j : Str} : decide (V.str i = V.str j) = (i == j) := by
  rw [Bool.eq_iff_iff]
  simp
theorem dec_byt {i j : Array UInt8} : decide (V.byt i = V.byt j) = (i.toList == j.toList) := by
  rw [Bool.eq_iff_iff]
  cases i
  cases j
  simp
section
variable {X : Cx} {a b c : Expr} {ta tb tc : TE} {pos : Pos}
theorem fin_bl {pins : List (Addr × Obj)} {σ : St} {H : Hp} {s : Shared} {Q : VK} {k k' : Bool} (I : Inv X pins σ H s) (q : Q (.bl k) H) (e : k = k') : EP X pins σ Q (.bool k') s := by
  subst e
  exact ⟨.bl k, H, I, rfl, q⟩
theorem op_eq : OpR X (compareOp .Eq) rEq := by
  intro pins s σ H x y v u Q I rx ry h
  obtain ⟨hs, q⟩ := h
  cases x with
  | non =>
    cases rx
    cases y with
    | non => cases ry; exact PySem.EqNone.eq_none_none (fin_bl I q (by simp))
    | bl j => cases ry; exact PySem.EqNone.eq_none_bool (fin_bl I q (by simp))
    | int j => obtain ⟨t', rfl⟩ := ry; exact PySem.EqNone.eq_none_int (fin_bl I q (by simp))
    | str j => obtain ⟨t', rfl⟩ := ry; exact PySem.EqNone.eq_none_str (fin_bl I q (by simp))
    | _ => exact absurd (show false = true from hs) Bool.false_ne_true
  | bl i =>
    cases rx
    cases y with
    | non => cases ry; exact PySem.EqNone.eq_bool_none (fin_bl I q (by simp))
    | bl j => cases ry; exact eq_bool (fin_bl I q dec_bl)
    | str j => obtain ⟨t', rfl⟩ := ry; exact PySem.EqMixed.eq_bool_str (fin_bl I q (by simp))
    | _ => exact absurd (show false = true from hs) Bool.false_ne_true
  | int i =>
    obtain ⟨t, rfl⟩ := rx
    cases y with
    | non => cases ry; exact PySem.EqNone.eq_int_none (fin_bl I q (by simp))
    | int j => obtain ⟨t', rfl⟩ := ry; exact eq_int (fin_bl I q dec_int)
    | str j => obtain ⟨t', rfl⟩ := ry; exact PySem.EqMixed.eq_int_str (fin_bl I q (by simp))
    | _ => exact absurd (show false = true from hs) Bool.false_ne_true
  | str i =>
    obtain ⟨t, rfl⟩ := rx
    cases y with
    | non => cases ry; exact PySem.EqNone.eq_str_none (fin_bl I q (by simp))
    | bl j => cases ry; exact PySem.EqMixed.eq_str_bool (fin_bl I q (by simp))
    | int j => obtain ⟨t', rfl⟩ := ry; exact PySem.EqMixed.eq_str_int (fin_bl I q (by simp))
    | str j => obtain ⟨t', rfl⟩ := ry; exact eq_str (fin_bl I q dec_str)
    | _ => exact absurd (show false = true from hs) Bool.false_ne_true
  | byt i =>
    obtain ⟨t, rfl⟩ := rx
    cases y with
    | byt j => obtain ⟨t', rfl⟩ := ry; exact PySem.W.eq_bytes (fin_bl I q dec_byt)
    | _ => exact absurd (show false = true from hs) Bool.false_ne_true
  | _ => cases y <;> exact absurd (show false = true from hs) Bool.false_ne_true
theorem op_ne : OpR X (compareOp .NotEq) rNe := by
  intro pins s σ H x y v u Q I rx ry h
  obtain ⟨hs, q⟩ := h
  cases x with
  | non =>
    cases rx
    cases y with
    | non => cases ry; exact PySem.EqNone.ne_none_none (fin_bl I q (by simp))
    | bl j => cases ry; exact PySem.EqNone.ne_none_bool (fin_bl I q (by simp))
    | int j => obtain ⟨t', rfl⟩ := ry; exact PySem.EqNone.ne_none_int (fin_bl I q (by simp))
    | str j => obtain ⟨t', rfl⟩ := ry; exact PySem.EqNone.ne_none_str (fin_bl I q (by simp))
    | _ => exact absurd (show false = true from hs) Bool.false_ne_true
  | bl i =>
    cases rx
    cases y with
    | non => cases ry; exact PySem.EqNone.ne_bool_none (fin_bl I q (by simp))
    | bl j => cases ry; exact ne_bool (fin_bl I q (congrArg not dec_bl))
    | str j => obtain ⟨t', rfl⟩ := ry; exact PySem.EqMixed.ne_bool_str (fin_bl I q (by simp))
    | _ => exact absurd (show false = true from hs) Bool.false_ne_true
  | int i =>
    obtain ⟨t, rfl⟩ := rx
    cases y with
    | non => cases ry; exact PySem.EqNone.ne_int_none (fin_bl I q (by simp))
    | int j => obtain ⟨t', rfl⟩ := ry; exact ne_int (fin_bl I q (congrArg not dec_int))
    | str j => obtain ⟨t', rfl⟩ := ry; exact PySem.EqMixed.ne_int_str (fin_bl I q (by simp))
    | _ => exact absurd (show false = true from hs) Bool.false_ne_true
  | str i =>
    obtain ⟨t, rfl⟩ := rx
    cases y with
    | non => cases ry; exact PySem.EqNone.ne_str_none (fin_bl I q (by simp))
    | bl j => cases ry; exact PySem.EqMixed.ne_str_bool (fin_bl I q (by simp))
    | int j => obtain ⟨t', rfl⟩ := ry; exact PySem.EqMixed.ne_str_int (fin_bl I q (by simp))
    | str j => obtain ⟨t', rfl⟩ := ry; exact ne_str (fin_bl I q (congrArg not dec_str))
    | _ => exact absurd (show false = true from hs) Bool.false_ne_true
  | byt i =>
    obtain ⟨t, rfl⟩ := rx
    cases y with
    | byt j => obtain ⟨t', rfl⟩ := ry; exact PySem.W.ne_bytes (fin_bl I q (congrArg not dec_byt))
    | _ => exact absurd (show false = true from hs) Bool.false_ne_true
  | _ => cases y <;> exact absurd (show false = true from hs) Bool.false_ne_true
theorem op_lt : OpR X (compareOp .Lt) (rI0 fun i j => .bl (decide (i < j))) := opB0 fun _ _ _ _ _ _ _ q => lt_int q
theorem op_le : OpR X (compareOp .LtE) (rI0 fun i j => .bl (decide (i ≤ j))) := opB0 fun _ _ _ _ _ _ _ q => le_int q
theorem op_gt : OpR X (compareOp .Gt) (rI0 fun i j => .bl (decide (j < i))) := opB0 fun _ _ _ _ _ _ _ q => gt_int q
theorem op_ge : OpR X (compareOp .GtE) (rI0 fun i j => .bl (decide (j ≤ i))) := opB0 fun _ _ _ _ _ _ _ q => ge_int q
theorem nomark (b : Expr) {op : CmpOp} (h : op ≠ .In := by decide) (h2 : op ≠ .NotIn := by decide) : behindInMarks op b = false := by
  have e1 : (op == CmpOp.In) = false := by cases op <;> first | rfl | exact absurd rfl h
  have e2 : (op == CmpOp.NotIn) = false := by cases op <;> first | rfl | exact absurd rfl h2
  cases b <;> simp [behindInMarks, e1, e2]
theorem pe_cmpR {op : CmpOp} {r : R2} (ho : OpR X (compareOp op) r) (ha : PE X a ta) (hb : PE X b tb) (hm : behindInMarks op b = false) : PE X (.Compare a [op] [b] pos) (tOp r ta tb) := by
  intro pins s σ H Q I h
  exact wpAny_Compare1 (binT ha hb I h fun v u s2 x y H2 I2 rx ry q => ho pins s2 σ H2 x y v u Q I2 rx ry q) hm
def tTest (t : TE) : TT := fun σ H Q => t σ H fun x H' => ∃ k, x = .bl k ∧ Q k H'
theorem pt_cmpR {op : CmpOp} {r : R2} (ho : OpR X (compareOp op) r) (ha : PE X a ta) (hb : PE X b tb) (hm : behindInMarks op b = false) : PT X (.Compare a [op] [b] pos) (tTest (tOp r ta tb)) := by
  intro pins s σ H Q I h
  refine wpAny_isTrue_Compare1 (thn (ha pins s σ H _ I h) fun v s1 ⟨x, H1, I1, r1, q1⟩ => thn (hb pins s1 σ H1 _ I1 q1) fun u s2 ⟨y, H2, I2, r2, q2⟩ =>
    thn (ho pins s2 σ H2 x y v u _ I2 r1 r2 q2) fun c s3 ⟨z, H3, I3, r3, k, e, q3⟩ => ?_) hm
  subst e
  cases r3
  exact wpAny_truthy_bool ⟨H3, I3, q3⟩
def tChain (r r' : R2) (ta tb tc : TE) : TE := fun σ H Q => ta σ H fun x H1 => tb σ H1 fun y H2 => r x y H2 fun z H3 => ∃ k, z = .bl k ∧
  (if k = true then tc σ H3 fun w' H4 => r' y w' H4 Q else Q (.bl false) H3)
theorem pe_chain {op op' : CmpOp} {r r' : R2} (ho : OpR X (compareOp op) r) (ho' : OpR X (compareOp op') r') (ha : PE X a ta) (hb : PE X b tb) (hc : PE X c tc)
    (hm : lastMarks [op, op'] [b, c] = false := by with_unfolding_all rfl) : PE X (.Compare a [op, op'] [b, c] pos) (tChain r r' ta tb tc) := by
  intro pins s σ H Q I h
  refine Compare_chain (thn (ha pins s σ H _ I h) fun v s1 ⟨x, H1, I1, r1, q1⟩ => chain_link (thn (hb pins s1 σ H1 _ I1 q1) fun u s2 ⟨y, H2, I2, r2, q2⟩ =>
    thn (ho pins s2 σ H2 x y v u _ I2 r1 r2 q2) fun d s3 ⟨z, H3, I3, r3, k, e, q3⟩ => ?_)) hm
  subst e
  cases r3
  refine wpAny_truthy_bool ?_
  cases k with
  | false => exact ite_ff ⟨.bl false, H3, I3, rfl, q3⟩
  | true => exact ite_tt (chain_last (thn (hc pins s3 σ H3 _ I3 q3) fun w' s4 ⟨z', H4, I4, r4, q4⟩ => ho' pins s4 σ H4 y z' u w' Q I4 r2 r4 q4))
theorem line63 : (sizeLine : Nat) < 2 ^ 63 := by rw [sizeLine_eq]; decide
theorem vals1 {x : V} {us : List Value} (r : Vals [x] us) : ∃ u, us = [u] ∧ RelV x u := by
  cases r with
  | cons r1 r2 => cases r2; exact ⟨_, rfl, r1⟩
theorem call_ord : CallR X (.builtin "ord") (fun xs H Q => ∃ x, xs = [.str x] ∧ x.length = 1 ∧ Q (.int (x.cps.getD 0 0 : Nat)) H) := by
  intro pins s σ H xs us Q I r h
  obtain ⟨x, rfl, hz, q⟩ := h
  obtain ⟨u, rfl, t, rfl⟩ := vals1 r
  exact ord_of_one hz ⟨.int _, H, I.tok _, ⟨_, rfl⟩, q⟩
end
end L2
namespace L2
open PySem PySem.Spec PyProof.Rows
structure ObjM (h : Heap) (x dx C : Addr) (mA : Str → Option Value) : Prop where
  obj : h.get? x = some (PySem.W.instObj C dx)
  ns : h.Ns1 dx mA
  ne : dx ≠ x
theorem lookIn_ns {h : Heap} {dx : Addr} {mA : Str → Option Value} (n : h.Ns1 dx mA) : ∃ od, h.get? dx = some od ∧ ∀ name, PySem.W.lookIn name od = some (mA name) := by
  obtain ⟨o, es, ep, ho, hd, hk, _, hm⟩ := n
  refine ⟨o, ho, fun name => ?_⟩
  have e := hm name
  unfold nsFind findBy at e
  rw [← Array.find?_toList] at e
  unfold PySem.W.lookIn
  rw [hd]
  dsimp only
  split
  · rename_i y q
    rw [q] at e
    exact congrArg some e
  · rename_i q
    rw [q] at e
    have a : es.toList.any (·.refKey) = false := by
      rw [List.any_eq_false]
      intro y hy
      obtain ⟨z, t, hkey⟩ := hk y (Array.mem_toList_iff.mp hy)
      simp [DictEntry.refKey, hkey]
    have a' : ¬ es.toList.any (·.refKey) = true := by rw [a]; exact Bool.false_ne_true
    rw [if_neg a']
    exact congrArg some e
theorem ObjM.look {h : Heap} {x dx C : Addr} {mA : Str → Option Value} (I : ObjM h x dx C mA) : ∃ od, PySem.W.InstAt h x (PySem.W.instObj C dx) C (some od) ∧ ∀ name, PySem.W.lookIn name od = some (mA name) :=
  let ⟨od, ho, hl⟩ := lookIn_ns I.ns
  ⟨od, ⟨I.obj, rfl, rfl, ho⟩, hl⟩
section
variable {prog : Program} {w : World} {A : Around} {E : Value → Shared → Prop} {s : Shared} {K : PySem.W.Frag} {x dx C f : Addr} {mA : Str → Option Value} {name : Str} {v : Value}
theorem get_map {expr : Bool} {Q : Value → Shared → Prop} (X : K.In s.heap) (I : ObjM s.heap x dx C mA) (hg : PySem.W.plainGet K C name = true) (hh : PySem.W.hasDictIn K C = true)
    (ha : PySem.W.findIn K (.ref C) name = some none) (hv : mA name = some v) (hv' : PySem.W.handedIn v = true) (h : Q v { s with toks := s.toks + 1 }) :
    wpAny (model prog w) A (getAttr (.ref x) name expr) Q E s := by
  obtain ⟨od, J, hl⟩ := I.look
  exact PySem.W.get_value X J (PySem.W.plainGet_of hg).1 (PySem.W.findObj_own hh ha rfl (by rw [hl, hv])) hv' h
theorem get_meth {pl : Sem Bool} {Q : Value × List Value → Shared → Prop} (X : K.In s.heap) (I : ObjM s.heap x dx C mA) (hg : PySem.W.plainGet K C name = true)
    (hf : PySem.W.findIn K (.ref C) name = some (some (.ref f))) (ht : PySem.W.isFn K (.ref f) = true) (hv : mA name = none) (h : Q (.ref f, [.ref x]) s) :
    wpAny (model prog w) A (getMethod (.ref x) name pl) Q E s := by
  obtain ⟨od, J, hl⟩ := I.look
  exact PySem.W.method_fn X J (PySem.W.plainGet_of hg).1 (PySem.W.plainGet_of hg).2 hf (beq_iff_eq.mp ht) (by show (PySem.W.lookIn name od).map (·.isSome) = some false; rw [hl, hv]; rfl) h
theorem set_map {ns : List Str} {Q : Unit → Shared → Prop} (X : K.In s.heap) (I : ObjM s.heap x dx C mA)
    (hs : PySem.W.findIn K (.ref C) "__setattr__" = some (some (.builtin "object.__setattr__"))) (hp : PySem.W.plainOver K C = true) (ht : PySem.W.takerIn K C name = some none) (hh : PySem.W.hasDictIn K C = true)
    (hw : PySem.Within mA ns) (hsz : ns.length ≤ sizeLine)
    (h : ∀ h', ObjM h' x dx C (fun y => if y = name then some v else mA y) → Heap.SameBut dx s.heap h' → Q () { s with heap := h', toks := s.toks + 2 }) :
    wpAny (model prog w) A (setAttr (.ref x) name v) Q E s := by
  obtain ⟨od, J, hl⟩ := I.look
  refine PySem.W.set_plain X J hs (PySem.W.osa_open (s := { s with toks := s.toks + 1 }) (r := none) X J hp ht fun b => ?_)
  obtain ⟨cd, hc, hd'⟩ := PySem.W.any_some hh
  have hx : s.heap.get? x = some ⟨.ref C, some dx, .plain, #[]⟩ := I.obj
  refine wpAny_bind (wpAny_pure (wpAny_bind (wpAny_bind (wpAny_loadPart hx (wpAny_bind (PySem.W.Looks.here (s := { s with toks := s.toks + 1 }) (PySem.W.looks_clsIn X hc) ?_))))))
  rw [hd']
  refine wpAny_pure (a := some dx) (wpAny_bind (wpAny_pure (wpAny_bind ?_)))
  refine wpAny_nsSet1 (s := { s with toks := s.toks + 1 }) I.ns fun h' hn2 hs2 => ?_
  obtain ⟨oD, esD, epD, hoD, hdD, hcD⟩ := hn2.count (PySem.Within.cons name v hw)
  refine wpAny_bind (wpAny_lookBehind hoD (by rw [hdD]; exact pastItsLine_dict (Nat.le_trans hcD (by rw [List.length_cons]; omega))) ?_)
  exact wpAny_pure (h _ ⟨(hs2.2 _ (Ne.symm I.ne)).trans I.obj, hn2, I.ne⟩ hs2)
theorem make_map {R : Result → Shared → Prop} {vs : List Value} {kw : List (Str × Value)} (X : K.In s.heap) (hm : PySem.W.makesIn K C = true)
    (hi : PySem.W.findIn K (.ref C) "__init__" = some (some (.ref f))) (hf : PySem.W.typeIn K (.ref f) = some (.type "function"))
    (h : codeAny (model prog w) (A.under (.builtin "type.__call__" ⟨.ref C :: vs, kw⟩)) (.call (.ref f) ⟨.ref (s.heap.objs.size + 1) :: vs, kw⟩) (PySem.W.InitBack (s.heap.objs.size + 1) R)
      { s with heap := (s.heap.push PySem.W.emptyDict).push (PySem.W.instObj C s.heap.objs.size) }) :
    codeAny (model prog w) A (.call (.ref C) ⟨vs, kw⟩) R s := by
  obtain ⟨hh, g, d, t, os⟩ := s
  exact PySem.W.make_core (PySem.W.makes_of X hm) (PySem.W.looks_findIn X hi) (fun self => PySem.W.bind_fn X self hf) (.inl rfl) h
end
def putF (f : Str) (v : V) : List (Str × V) → List (Str × V)
  | [] => [(f, v)]
  | (g, x) :: r => if g = f then (g, v) :: r else (g, x) :: putF f v r
theorem lookup_putF (f g : Str) (v : V) : ∀ fs : List (Str × V), (putF f v fs).lookup g = if g = f then some v else fs.lookup g
  | [] => by
    show List.lookup g [(f, v)] = _
    by_cases h : g = f
    · have hb : (g == f) = true := beq_iff_eq.mpr h
      simp only [List.lookup, hb, if_pos h]
    · have hb : (g == f) = false := beq_eq_false_iff_ne.mpr h
      simp only [List.lookup, hb, if_neg h]
  | (k, x) :: r => by
    have ih := lookup_putF f g v r
    rw [show putF f v ((k, x) :: r) = (if k = f then (k, v) :: r else (k, x) :: putF f v r) from rfl]
    by_cases hk : k = f
    · rw [if_pos hk]
      by_cases h : g = k
      · have hb : (g == k) = true := beq_iff_eq.mpr h
        simp only [List.lookup, hb, if_pos (h.trans hk)]
      · have hb : (g == k) = false := beq_eq_false_iff_ne.mpr h
        simp only [List.lookup, hb, if_neg (fun e : g = f => h (e.trans hk.symm))]
    · rw [if_neg hk]
      by_cases h : g = k
      · have hb : (g == k) = true := beq_iff_eq.mpr h
        simp only [List.lookup, hb, if_neg (fun e : g = f => hk (h.symm.trans e))]
      · have hb : (g == k) = false := beq_eq_false_iff_ne.mpr h
        simp only [List.lookup, hb]
        exact ih
theorem keys_putF (f : Str) (v : V) : ∀ fs : List (Str × V), f ∈ (putF f v fs).map (·.1) ∧ ∀ g, g ∈ fs.map (·.1) → g ∈ (putF f v fs).map (·.1)
  | [] => ⟨by simp [putF], fun g h => by simp at h⟩
  | (k, x) :: r => by
    obtain ⟨i1, i2⟩ := keys_putF f v r
    rw [show putF f v ((k, x) :: r) = (if k = f then (k, v) :: r else (k, x) :: putF f v r) from rfl]
    by_cases hk : k = f
    · rw [if_pos hk]
      subst hk
      exact ⟨by simp, fun g h => by simpa using h⟩
    · rw [if_neg hk]
      refine ⟨?_, fun g h => ?_⟩
      · rw [List.map_cons]
        exact List.mem_cons_of_mem _ i1
      · rw [List.map_cons] at h ⊢
        rcases List.mem_cons.mp h with e | e
        · exact List.mem_cons.mpr (.inl e)
        · exact List.mem_cons_of_mem _ (i2 g e)
theorem length_putF (f : Str) (v : V) : ∀ fs : List (Str × V), (putF f v fs).length ≤ fs.length + 1
  | [] => by simp [putF]
  | (k, x) :: r => by
    have ih := length_putF f v r
    rw [show putF f v ((k, x) :: r) = (if k = f then (k, v) :: r else (k, x) :: putF f v r) from rfl]
    by_cases hk : k = f
    · rw [if_pos hk, List.length_cons, List.length_cons]; omega
    · rw [if_neg hk, List.length_cons, List.length_cons]; omega
theorem RelO.some_of {v : V} {o : Option Value} (r : RelO (some v) o) : ∃ u, o = some u ∧ RelV v u := by
  cases o with
  | none => exact (show False from r).elim
  | some u => exact ⟨u, rfl, r⟩
theorem RelO.none_of {o : Option Value} (r : RelO none o) : o = none := by
  cases o with
  | none => rfl
  | some u => exact (show False from r).elim
theorem handed_of {v : V} {u : Value} (r : RelV v u) : PySem.W.handedIn u = true := by
  cases v with
  | non => cases (show u = Value.none from r); rfl
  | bl b => cases (show u = Value.bool b from r); rfl
  | int i => obtain ⟨t, e⟩ := (show ∃ t, u = Value.int i t from r); cases e; rfl
  | str x => obtain ⟨t, e⟩ := (show ∃ t, u = Value.str x t from r); cases e; rfl
  | byt b => obtain ⟨t, e⟩ := (show ∃ t, u = Value.bytes b t from r); cases e; rfl
  | flt b => obtain ⟨t, e⟩ := (show ∃ t, u = Value.float b t from r); cases e; rfl
  | ref a => cases (show u = Value.ref a from r); rfl
  | ty n => cases (show u = Value.type n from r); rfl
section
variable {P : Program} {w : World} {H H' : Hp} {h h' : Heap} {a C dx : Addr} {fs fs' : List (Str × V)}
theorem ins_get (hok : HOk P w H h) (e : H a = some (.ins C dx fs)) : ∃ mA, ObjM h a dx C mA ∧ (∀ f, RelO (fs.lookup f) (mA f)) ∧ PySem.Within mA (fs.map (·.1)) ∧ fs.length ≤ 1000 ∧ H dx = some (.own a) := by
  obtain ⟨d, z, ne, ob, mA, n, r, q⟩ := (show ObjOk P w H h a (.ins C dx fs) from hok a _ e)
  exact ⟨mA, ⟨ob, n, ne⟩, r, q, z, d⟩
end
structure Cls (K : PySem.W.Frag) (C : Addr) : Prop where
  pg : PySem.W.plainGet K C Str.empty = true
  hd : PySem.W.hasDictIn K C = true
  po : PySem.W.plainOver K C = true
  sa : PySem.W.findIn K (.ref C) "__setattr__" = some (some (.builtin "object.__setattr__"))
theorem Cls.get {K : PySem.W.Frag} {C : Addr} (c : Cls K C) (f : Str) : PySem.W.plainGet K C f = true := c.pg
def NoAttr (K : PySem.W.Frag) (C : Addr) (f : Str) : Prop := PySem.W.findIn K (.ref C) f = some none
theorem NoAttr.taker {K : PySem.W.Frag} {C : Addr} {f : Str} (n : NoAttr K C f) : PySem.W.takerIn K C f = some none := by
  unfold PySem.W.takerIn
  rw [show PySem.W.findIn K (.ref C) f = some none from n]
  rfl
structure Con (K : PySem.W.Frag) (C : Addr) (f : Str) (v : V) (u : Value) : Prop where
  at_ : PySem.W.findIn K (.ref C) f = some (some u)
  rel : RelV v u
  get : PySem.W.specialIn K u "__get__" = some none
  cp : PySem.W.copiedNames.contains f = false
structure Meth (K : PySem.W.Frag) (C : Addr) (m : Str) (f : Addr) : Prop where
  at_ : PySem.W.findIn K (.ref C) m = some (some (.ref f))
  fn : PySem.W.isFn K (.ref f) = true
  kp : PySem.W.keepIn K (.ref f) = true
section
variable {X : Cx} {pins : List (Addr × Obj)} {σ : St} {H : Hp} {s : Shared} {a C dx : Addr} {fs : List (Str × V)} {f : Str} {v : V} {A : Around} {E : Value → Shared → Prop}
theorem getattr_ok {b : Bool} {Q : Value → Shared → Prop} (I : Inv X pins σ H s) (e : H a = some (.ins C dx fs)) (c : Cls X.K C) (n : NoAttr X.K C f) (l : fs.lookup f = some v)
    (h : ∀ u s', Inv X pins σ H s' → RelV v u → Q u s') : wpAny (model X.prog X.w) A (getAttr (.ref a) f b) Q E s := by
  obtain ⟨mA, O, r, _, _, _⟩ := ins_get I.hok e
  obtain ⟨u, hu, ru⟩ := RelO.some_of (v := v) (o := mA f) (by rw [← l]; exact r f)
  exact get_map I.kIn O (c.get f) c.hd n hu (handed_of ru) (h u _ (I.tok _) ru)
theorem getmeth_ok {m : Str} {g : Addr} {pl : Sem Bool} {Q : Value × List Value → Shared → Prop} (I : Inv X pins σ H s) (e : H a = some (.ins C dx fs)) (c : Cls X.K C) (k : Meth X.K C m g) (l : fs.lookup m = none)
    (h : Q (.ref g, [.ref a]) s) : wpAny (model X.prog X.w) A (getMethod (.ref a) m pl) Q E s := by
  obtain ⟨mA, O, r, _, _, _⟩ := ins_get I.hok e
  have hn : mA m = none := RelO.none_of (by rw [← l]; exact r m)
  exact get_meth I.kIn O (c.get m) k.at_ k.fn hn h
theorem setattr_ok {y : V} {u : Value} {Q : Unit → Shared → Prop} (I : Inv X pins σ H s) (e : H a = some (.ins C dx fs)) (c : Cls X.K C) (n : NoAttr X.K C f) (hl : fs.length < 1000) (ry : RelV y u)
    (h : ∀ s', Inv X pins σ (upd H a (.ins C dx (putF f y fs))) s' → Q () s') : wpAny (model X.prog X.w) A (setAttr (.ref a) f u) Q E s := by
  obtain ⟨mA, O, r, wi, _, ho⟩ := ins_get I.hok e
  have hz : (fs.map (·.1)).length ≤ sizeLine := by rw [List.length_map, sizeLine_eq]; omega
  refine set_map I.kIn O c.sa c.po n.taker c.hd wi hz fun h' O' sb => h _ ?_
  have hd : ∃ o, h'.get? dx = some o := let ⟨o, _, _, e', _⟩ := O'.ns; ⟨o, e'⟩
  refine I.write (x := a) (e := dx) (by rw [e]; exact True.intro) (.inr ho) (fun b q hb z => (sb.2 b hb).trans z) hd ?_
  refine ⟨by rw [upd_ne O.ne]; exact ho, ?_, O.ne, O'.obj, _, O'.ns, fun g => ?_, fun g hg => ?_⟩
  · have := length_putF f y fs; omega
  · show RelO ((putF f y fs).lookup g) (if g = f then some u else mA g)
    rw [lookup_putF]
    by_cases q : g = f
    · rw [if_pos q, if_pos q]; exact ry
    · rw [if_neg q, if_neg q]; exact r g
  · by_cases q : g = f
    · rw [q]; exact (keys_putF f y fs).1
    · refine (keys_putF f y fs).2 g (wi g fun z => hg ?_)
      show (if g = f then some u else mA g) = none
      rw [if_neg q]; exact z
theorem Inv.made (I : Inv X pins σ H s) : Inv X pins σ (upd (upd H s.heap.objs.size (.own (s.heap.objs.size + 1))) (s.heap.objs.size + 1) (.ins C s.heap.objs.size []))
    { s with heap := (s.heap.push PySem.W.emptyDict).push (PySem.W.instObj C s.heap.objs.size) } := by
  have e1 : (s.heap.push PySem.W.emptyDict).get? s.heap.objs.size = some PySem.W.emptyDict := Heap.get?_push_size s.heap rfl
  have e2 : ((s.heap.push PySem.W.emptyDict).push (PySem.W.instObj C s.heap.objs.size)).get? (s.heap.objs.size + 1) = some (PySem.W.instObj C s.heap.objs.size) := by
    have := Heap.get?_push_size (s.heap.push PySem.W.emptyDict) (o := PySem.W.instObj C s.heap.objs.size) rfl
    rwa [Heap.size_push] at this
  have e3 : (s.heap.push PySem.W.emptyDict).Ns s.heap.objs.size (fun _ => none) := ⟨PySem.W.emptyDict, #[], _, e1, rfl, (fun e he => absurd he (by simp)), fun _ => rfl⟩
  have I1 := I.laid (a := s.heap.objs.size) (o := .own (s.heap.objs.size + 1)) (h' := s.heap.push PySem.W.emptyDict) (t' := s.toks) (fun b u q => Heap.get?_push_of_some _ q) (Nat.le_refl _) ⟨_, e1⟩
  refine I1.laid (a := s.heap.objs.size + 1) (o := .ins C s.heap.objs.size []) (t' := s.toks) (fun b u q => Heap.get?_push_of_some _ q) (Nat.le_of_eq (Heap.size_push _ _)) ?_
  have ne : s.heap.objs.size ≠ s.heap.objs.size + 1 := Nat.ne_of_lt (Nat.lt_succ_self _)
  refine ⟨by rw [upd_ne ne, upd_same], Nat.zero_le _, ne, e2, fun _ => none, (Heap.Ns1.of_empty e3).at fun o q => Heap.get?_push_of_some _ q, fun _ => True.intro, fun y hy => absurd rfl hy⟩
theorem attr_of {prog : Program} {w : World} {env : Env} {e : Expr} {f : Str} {pos : Pos} {s : Shared} {Q : Value → Shared → Prop} (hb : attributeBase e f env (eval e env) = eval e env)
    (h : wpAny (model prog w) A (eval e env) (fun o s₁ => wpAny (model prog w) A (getAttr o f true) Q E s₁) E s) : wpAny (model prog w) A (eval (.Attribute e f pos) env) Q E s :=
  Attribute_any_ h (by rw [arm_eval_Attribute, hb])
end
def tFld (K : PySem.W.Frag) (ta : TE) (f : Str) : TE := fun σ H Q => ta σ H fun x H1 => ∃ a C dx fs v, x = .ref a ∧ H1 a = some (.ins C dx fs) ∧ Cls K C ∧ NoAttr K C f ∧ fs.lookup f = some v ∧ Q v H1
def sFld (K : PySem.W.Frag) (ta tv : TE) (f : Str) : TS := fun D σ H => tv σ H fun y H1 => ta σ H1 fun x H2 => ∃ a C dx fs, x = .ref a ∧ H2 a = some (.ins C dx fs) ∧ Cls K C ∧ NoAttr K C f ∧ fs.length < 1000 ∧
  D.nx σ (upd H2 a (.ins C dx (putF f y fs)))
section
variable {X : Cx} {o e value : Expr} {f : Str} {pos pos' tpos : Pos} {ta tv : TE}
theorem pe_fld (he : PE X e ta) (hb : attributeBase e f X.env (eval e X.env) = eval e X.env) : PE X (.Attribute e f pos) (tFld X.K ta f) := by
  intro pins s σ H Q I h
  refine attr_of hb (thn (he pins s σ H _ I h) fun u s1 ⟨x, H1, I1, rx, a, C, dx, fs, v, ex, ea, c, n, l, q⟩ => ?_)
  subst ex
  obtain rfl : u = Value.ref a := rx
  exact getattr_ok I1 ea c n l fun u' s2 I2 ru => ⟨v, H1, I2, ru, q⟩
theorem ps_fld (ha : PE X o ta) (hv : PE X value tv) (hs : swapsWith value (some (.Attribute o f pos')) pos.line X.env = pure false) : PS X (.Assign [.Attribute o f pos'] value pos) (sFld X.K ta tv f) := by
  intro pins s σ H D I h
  refine plainObj_wpAny_Assign_Attribute (thn (hv pins s σ H _ I h) fun u s1 ⟨y, H1, I1, ry, q⟩ => thn (ha pins s1 σ H1 _ I1 q) fun ov s2 ⟨x, H2, I2, rx, a, C, dx, fs, ex, ea, c, n, l, q2⟩ => ?_) hs
  subst ex
  obtain rfl : ov = Value.ref a := rx
  exact setattr_ok I2 ea c n l ry fun s3 I3 => ⟨σ, _, I3, q2⟩
theorem methcall_of {pl : Sem Bool} {m : Str} {apos : Pos} {args : List Expr} {pins : List (Addr × Obj)} {s : Shared} {σ : St} {H : Hp} {Q : Value → Shared → Prop} {te : TE} (he : PE X e te) (I : Inv X pins σ H s)
    (h : te σ H fun x H1 => ∃ a C dx fs g, x = .ref a ∧ H1 a = some (.ins C dx fs) ∧ Cls X.K C ∧ Meth X.K C m g ∧ fs.lookup m = none ∧
      ∀ s1, Inv X pins σ H1 s1 → wpAny (model X.prog X.w) X.A (callWith pos (.ref g) [.ref a] (backTo pos (starEach args X.env)) (backToKw pos (keywordEach [] X.env))) Q X.xe s1)
    (ht : eval (.Call (.Attribute e m apos) args [] pos) X.env = (do
      let ov ← eval e X.env
      standAt apos.atName
      let (f, first) ← holding [ov] (getMethod ov m pl)
      callWith pos f first (backTo pos (starEach args X.env)) (backToKw pos (keywordEach [] X.env)))) :
    wpAny (model X.prog X.w) X.A (eval (.Call (.Attribute e m apos) args [] pos) X.env) Q X.xe s := by
  refine PySem.W.methodCall_KW (pl := pl) (thn (he pins s σ H _ I h) fun u s1 ⟨x, H1, I1, rx, a, C, dx, fs, g, ex, ea, c, k, l, q⟩ => ?_) ht
  subst ex
  obtain rfl : u = Value.ref a := rx
  exact getmeth_ok I1 ea c k l (q s1 I1)
end
section
variable {X : Cx} {pins : List (Addr × Obj)} {σ : St} {H : Hp} {s : Shared} {A : Around} {E : Value → Shared → Prop} {Q : Value → Shared → Prop} {c : Value} {b : Bool}
inductive TyOf (K : PySem.W.Frag) (H : Hp) : V → Value → Prop where
  | non : TyOf K H .non (.type "NoneType")
  | bl (x : Bool) : TyOf K H (.bl x) (.type "bool")
  | int (i : Int) : TyOf K H (.int i) (.type "int")
  | str (x : Str) : TyOf K H (.str x) (.type "str")
  | flt (x : UInt64) : TyOf K H (.flt x) (.type "float")
  | lst {a : Addr} {xs : List V} (e : H a = some (.lst xs)) : TyOf K H (.ref a) (.type "list")
  | frz {a : Addr} {o : Obj} {xs : List V} (e : H a = some (.frz o (.lst xs))) : TyOf K H (.ref a) (.type "list")
  | tup {a : Addr} {xs : List V} (e : H a = some (.tup xs)) : TyOf K H (.ref a) (.type "tuple")
  | dK {a : Addr} {kvs : List (Key × V)} (e : H a = some (.dK kvs)) : TyOf K H (.ref a) (.type "dict")
  | dT {a : Addr} {kvs : List (List Key × V)} (e : H a = some (.dT kvs)) : TyOf K H (.ref a) (.type "dict")
  | ins {a C dx : Addr} {fs : List (Str × V)} (e : H a = some (.ins C dx fs)) (cl : Cls K C) (ha : PySem.W.findIn K (.ref C) "__class__" = some (some (.builtin "object.__class__")))
      (hn : PySem.W.specialIn K (.builtin "object.__class__") "__get__" = some (some (.builtin "getset_descriptor.__get__"))) (htk : PySem.W.takesIn K (.builtin "object.__class__") = some true)
      (hm : PySem.W.mroIn K C (.type "object") = some true) : TyOf K H (.ref a) (.ref C)
end
end L2
namespace L2
open PySem PySem.Spec PyProof.Rows
structure Room (k : Nat) (A : Around) : Prop where
  hd : A.handled = none
  dp : A.depth + 3 * k + 5 < recursionLimit
  un : A.units + 16 * k + 200 < cLine
theorem Room.mono {j k : Nat} {A : Around} (r : Room k A) (h : j ≤ k) : Room j A := ⟨r.hd, by have := r.dp; omega, by have := r.un; omega⟩
theorem Room.deeper {k : Nat} {A : Around} (r : Room (k + 1) A) (env : Env) : Room k (A.deeper env) :=
  ⟨r.hd, by have := r.dp; show A.depth + 1 + 3 * k + 5 < _; omega, by have := r.un; show A.units + 3 + 16 * k + 200 < _; omega⟩
theorem make_depth {A : Around} {C : Addr} {us : List Value} {kw : List (Str × Value)} : (A.under (.builtin "type.__call__" ⟨.ref C :: us, kw⟩)).depth = A.depth + 1 := by
  first | rfl | simp [Around.under, Code.weight, Code.isCreation, Code.isGuard, Code.isCaller, Code.frames, Code.isFrame, guardIds]
theorem make_units {A : Around} {C : Addr} {us : List Value} {kw : List (Str × Value)} : (A.under (.builtin "type.__call__" ⟨.ref C :: us, kw⟩)).units = A.units + 1 := by
  first | rfl | simp [Around.under, Code.cUnits, Code.frames, Code.isFrame]
theorem Room.make {k : Nat} {A : Around} (r : Room (k + 1) A) (C : Addr) (us : List Value) (kw : List (Str × Value)) : Room k (A.under (.builtin "type.__call__" ⟨.ref C :: us, kw⟩)) :=
  ⟨r.hd, by have := r.dp; rw [make_depth]; omega, by have := r.un; rw [make_units]; omega⟩
theorem Room.depth {k : Nat} {A : Around} (r : Room k A) : A.depth < recursionLimit := by have := r.dp; omega
theorem Room.units {k : Nat} {A : Around} (r : Room k A) : A.units + 64 < cLine := by have := r.un; omega
def tNil : TA := fun _ H Q => Q [] H
def tCons (ta : TE) (tr : TA) : TA := fun σ H Q => ta σ H fun x H1 => tr σ H1 fun xs H2 => Q (x :: xs) H2
section
variable {X : Cx} {e : Expr} {es : List Expr} {te : TE} {t : TA} {pos : Pos}
theorem pa_nil : PA X [] tNil := fun _ _ _ _ H Q I h => Calls.spliced_nil ⟨[], H, I, .nil, h⟩
theorem pa_cons (ha : PE X e te) (hr : PA X es t) (hs : starEach (e :: es) X.env = (false, eval e X.env) :: starEach es X.env := by rfl) : PA X (e :: es) (tCons te t) := by
  intro pos pins s σ H Q I h
  rw [hs]
  show wpAny _ _ (spliced ((false, eval e X.env) :: backTo pos (starEach es X.env))) _ _ s
  refine Calls.spliced_cons (thn (ha pins s σ H _ I h) fun u s1 ⟨x, H1, I1, r1, q1⟩ => ?_)
  exact thn (hr pos pins s1 σ H1 _ I1 q1) fun us s2 ⟨xs, H2, I2, r2, q2⟩ => ⟨x :: xs, H2, I2, .cons r1 r2, q2⟩
def tTup (t : TA) : TE := fun σ H Q => t σ H fun xs H1 => xs.length ≤ sizeLine ∧ ∀ p, H1 p = none → Q (.ref p) (upd H1 p (.tup xs))
def tLst (t : TA) : TE := fun σ H Q => t σ H fun xs H1 => xs.length ≤ sizeLine ∧ ∀ p, H1 p = none → Q (.ref p) (upd H1 p (.lst xs))
theorem pe_tup {x1} (h : PA X es t) : PE X (.Tuple es x1 pos) (tTup t) := by
  intro pins s σ H Q I hq
  refine wpAny_Tuple_spliced (thn (h pos pins s σ H _ I hq) fun us s1 ⟨xs, H1, I1, r, z, q⟩ => ⟨by rw [← r.length]; exact z, ?_⟩)
  have hf : H1 s1.heap.objs.size = none := I1.hok.fresh (Nat.le_refl _)
  refine ⟨.ref s1.heap.objs.size, upd H1 s1.heap.objs.size (.tup xs), I1.laid (t' := s1.toks) (fun b u e => Heap.get?_push_of_some _ e) (Nat.le_refl _) ?_, rfl, q _ hf⟩
  exact ⟨z, us, r, ⟨_, Heap.get?_push_size _ rfl, rfl, _, rfl⟩⟩
theorem pe_lst (h : PA X es t) : PE X (.List es pos) (tLst t) := by
  intro pins s σ H Q I hq
  refine wpAny_List_spliced (thn (h pos pins s σ H _ I hq) fun us s1 ⟨xs, H1, I1, r, z, q⟩ => ⟨by rw [← r.length]; exact z, ?_⟩)
  have hf : H1 s1.heap.objs.size = none := I1.hok.fresh (Nat.le_refl _)
  refine ⟨.ref s1.heap.objs.size, upd H1 s1.heap.objs.size (.lst xs), I1.laid (t' := s1.toks) (fun b u e => Heap.get?_push_of_some _ e) (Nat.le_refl _) ?_, rfl, q _ hf⟩
  exact ⟨z, us, 0, r, Heap.get?_push_size _ rfl⟩
end
abbrev Sp := List V → Hp → VK → XK → Prop
abbrev CXT := List Env → Hp → Shared → XK → Value → Shared → Prop
structure Env0 (P : Program) (w : World) (K : PySem.W.Frag) (mg : Str → Option Value) (base : Heap) (A : Around) (outer : List Env) (s : Shared) (H : Hp) : Prop where
  frames : A.frames = some outer
  mod : Mod K mg base
  bs : ∀ b o, base.get? b = some o → s.heap.get? b = some o ∧ H b = none
  bsz : base.objs.size ≤ s.heap.objs.size
  funs : s.heap.FunFrames base outer
  frf : ∀ b ∈ frs outer, H b = none
  hok : HOk P w H s.heap
  bare : AllBare s.gens
def CE (outer : List Env) (P : Program) (w : World) (H : Hp) (s : Shared) (Q : VK) (u : Value) (s' : Shared) : Prop :=
  ∃ v H', s'.os = s.os ∧ AllBare s'.gens ∧ Un (frs outer) [] H H' s.heap s'.heap ∧ HOk P w H' s'.heap ∧ RelV v u ∧ Q v H'
def CR (CX : CXT) (outer : List Env) (P : Program) (w : World) (H : Hp) (s : Shared) (Q : VK) (E : XK) (r : Result) (s' : Shared) : Prop :=
  match r with
  | .ok (.ret u) => CE outer P w H s Q u s'
  | .ok _ => False
  | .error e => CX outer H s E e s'
structure FnOk (P : Program) (w : World) (K : PySem.W.Frag) (mg : Str → Option Value) (base : Heap) (CX : CXT) (k : Nat) (f : Addr) (fd : FuncData) (ps : List Str) (sp : Sp) : Prop where
  len : ∀ vs H Q E, sp vs H Q E → vs.length = ps.length
  run : ∀ (A : Around) (outer : List Env) (s : Shared) (H : Hp) (args : Args) (us : List Value) (vs : List V) (Q : VK) (E : XK), Room k A → Env0 P w K mg base A outer s H → BindsTo s fd args (ps.zip us) → Vals vs us → sp vs H Q E →
    codeAny (model P w) A (.call (.ref f) args) (CR CX outer P w H s Q E) s
theorem FnOk.mono {P : Program} {w : World} {K : PySem.W.Frag} {mg : Str → Option Value} {base : Heap} {CX : CXT} {j k : Nat} {f : Addr} {fd : FuncData} {ps : List Str} {sp : Sp} (F : FnOk P w K mg base CX j f fd ps sp) (h : j ≤ k) :
    FnOk P w K mg base CX k f fd ps sp := ⟨F.len, fun A outer s H args us vs Q E hr => F.run A outer s H args us vs Q E (hr.mono h)⟩
theorem Env0.make {P : Program} {w : World} {K : PySem.W.Frag} {mg : Str → Option Value} {base : Heap} {A : Around} {outer : List Env} {s : Shared} {H : Hp} (e : Env0 P w K mg base A outer s H) (C : Addr) (us : List Value) (kw : List (Str × Value)) :
    Env0 P w K mg base (A.under (.builtin "type.__call__" ⟨.ref C :: us, kw⟩)) outer s H := ⟨by first | exact e.frames | (simpa [Around.under, Code.envs, Code.isFrame, pushEnvs] using e.frames), e.mod, e.bs, e.bsz, e.funs, e.frf, e.hok, e.bare⟩
section
variable {X : Cx} {pins : List (Addr × Obj)} {σ : St} {H : Hp} {s s' : Shared}
theorem Inv.env0 (I : Inv X pins σ H s) : Env0 X.prog X.w X.K X.mg X.base X.A X.stack s H :=
  ⟨I.ok.frames, I.ok.mod, I.bs, Nat.le_trans I.ok.bsz I.sz, I.stack, I.stkFree, I.hok, I.bare⟩
theorem Inv.after {Q : VK} {u : Value} (I : Inv X pins σ H s) (h : CE X.stack X.prog X.w H s Q u s') : EP X pins σ Q u s' := by
  obtain ⟨v, H', os, bare, un, hok, r, q⟩ := h
  obtain ⟨hh, g, d, t, os'⟩ := s'
  obtain rfl : os' = s.os := os
  exact ⟨v, H', I.call (h' := hh) (g' := g) (d' := d) (t' := t) (ch := []) un hok bare (fun b z => absurd z (by simp)), r, q⟩
end
def tCall (sp : Sp) (dvs : List V) (E : XK) (t : TA) : TE := fun σ H Q => t σ H fun vs H1 => sp (vs ++ dvs) H1 Q E
def tMeth (C : Addr) (m : Str) (sp : Sp) (dvs : List V) (E : XK) (ta : TE) (t : TA) : TE := fun σ H Q => ta σ H fun x H1 => ∃ a dx fs, x = .ref a ∧ H1 a = some (.ins C dx fs) ∧ fs.lookup m = none ∧
  t σ H1 fun vs H2 => sp (x :: (vs ++ dvs)) H2 Q E
def tMake (C : Addr) (sp : Sp) (dvs : List V) (E : XK) (t : TA) : TE := fun σ H Q => t σ H fun vs H1 => ∀ x dx, H1 x = none → H1 dx = none → dx ≠ x →
  sp (.ref x :: (vs ++ dvs)) (upd (upd H1 dx (.own x)) x (.ins C dx [])) (fun v H2 => v = .non ∧ Q (.ref x) H2) E
def Binds (K : PySem.W.Frag) (fd : FuncData) (ps : List Str) (ds : List Value) : Prop :=
  ∀ (s : Shared) (us : List Value), K.In s.heap → (us ++ ds).length = ps.length → BindsTo s fd ⟨us, []⟩ (ps.zip (us ++ ds))
theorem Binds.all {K : PySem.W.Frag} {fd : FuncData} {ps : List Str} (h : ∀ us : List Value, us.length = ps.length → bindArgs fd ⟨us, []⟩ = pure (ps.zip us)) : Binds K fd ps [] := fun s us _ hl => by
  rw [List.append_nil] at hl ⊢
  exact .of_eq (h us hl)
def Passes (CX : CXT) (X : Cx) (E : XK) : Prop := ∀ (pins : List (Addr × Obj)) (σ : St) (H : Hp) (s : Shared) (e : Value) (s' : Shared), Inv X pins σ H s → CX X.stack H s E e s' → X.xe e s'
section
variable {X : Cx} {CX : CXT} {k : Nat} {f C : Addr} {fd : FuncData} {ps : List Str} {sp : Sp} {dvs : List V} {ds : List Value} {E : XK} {x m : Str} {p pos apos : Pos} {e o : Expr} {es : List Expr} {ta : TE} {t : TA}
theorem run_fn {pins : List (Addr × Obj)} {σ : St} {H : Hp} {s : Shared} {Q : VK} {us : List Value} {vs : List V} (F : FnOk X.prog X.w X.K X.mg X.base CX k f fd ps sp) (hr : Room k X.A) (hb : Binds X.K fd ps ds) (hd : Vals dvs ds) (hx : Passes CX X E)
    (I : Inv X pins σ H s) (r : Vals vs us) (h : sp (vs ++ dvs) H Q E) : wpAny (model X.prog X.w) X.A (call (.ref f) us) (EP X pins σ Q) X.xe s := by
  have r2 : Vals (vs ++ dvs) (us ++ ds) := r.append hd
  have hl : (us ++ ds).length = ps.length := by rw [← r2.length]; exact F.len _ _ _ _ h
  refine wpAny_call (codeAny_mono (F.run X.A X.stack s H ⟨us, []⟩ (us ++ ds) (vs ++ dvs) Q E hr I.env0 (hb s us I.kIn hl) r2 h) fun r s' hq => ?_)
  cases r with
  | error e => exact hx pins σ H s e s' I hq
  | ok fl =>
    cases fl with
    | ret u => exact I.after hq
    | next => exact False.elim hq
    | brk => exact False.elim hq
    | cont => exact False.elim hq
theorem pe_call (F : FnOk X.prog X.w X.K X.mg X.base CX k f fd ps sp) (hr : Room k X.A) (hg : Gl X x) (hm : X.mg x = some (.ref f)) (hk : PySem.W.keepIn X.K (.ref f) = true) (hb : Binds X.K fd ps ds) (hd : Vals dvs ds) (hx : Passes CX X E)
    (ha : PA X (e :: es) t) (hdb : (x == ("__debug__" : Str)) = false := by decide) (he : starEach (e :: es) X.env = (false, eval e X.env) :: starEach es X.env := by rfl) (hpl : (backTo pos (starEach es X.env)).any (·.1) = false := by rfl) :
    PE X (.Call (.Name x p) (e :: es) [] pos) (tCall sp dvs E t) := by
  intro pins s σ H Q I h
  refine wpAny_Call_Name_kw (ld_glob I hg hm ?_ hdb)
  refine PySem.W.callWith_K (h₀ := X.base) I.ok.mod.kin hk (thn (ha pos pins s σ H _ I h) fun us s1 ⟨vs, H1, I1, r, q⟩ => ⟨I1.kIn, ?_⟩) he hpl
  exact run_fn F hr hb hd hx I1 r q
theorem pe_meth {pl : Sem Bool} (he : PE X o ta) (c : Cls X.K C) (hm : Meth X.K C m f) (F : FnOk X.prog X.w X.K X.mg X.base CX k f fd ps sp) (hr : Room k X.A) (hb : Binds X.K fd ps ds) (hd : Vals dvs ds) (hx : Passes CX X E) (ha : PA X (e :: es) t)
    (hst : starEach (e :: es) X.env = (false, eval e X.env) :: starEach es X.env := by rfl) (hpl : (backTo pos (starEach es X.env)).any (·.1) = false := by rfl)
    (ht : eval (.Call (.Attribute o m apos) (e :: es) [] pos) X.env = (do
      let ov ← eval o X.env
      standAt apos.atName
      let (f, first) ← holding [ov] (getMethod ov m pl)
      callWith pos f first (backTo pos (starEach (e :: es) X.env)) (backToKw pos (keywordEach [] X.env))) := by rfl) :
    PE X (.Call (.Attribute o m apos) (e :: es) [] pos) (tMeth C m sp dvs E ta t) := by
  intro pins s σ H Q I h
  refine PySem.W.methodCall_KW (pl := pl) (thn (he pins s σ H _ I h) fun u s1 ⟨x, H1, I1, rx, a, dx, fs, ex, ea, l, q⟩ => ?_) ht
  subst ex
  obtain rfl : u = Value.ref a := rx
  refine getmeth_ok I1 ea c hm l ?_
  refine PySem.W.callWith_K (first := [.ref a]) (h₀ := X.base) I.ok.mod.kin hm.kp (thn (ha pos pins s1 σ H1 _ I1 q) fun us s2 ⟨vs, H2, I2, r, q2⟩ => ⟨I2.kIn, ?_⟩) hst hpl
  exact run_fn (us := .ref a :: us) (vs := .ref a :: vs) F hr hb hd hx I2 (.cons rfl r) q2
theorem pe_meth0 {pl : Sem Bool} (he : PE X o ta) (c : Cls X.K C) (hm : Meth X.K C m f) (F : FnOk X.prog X.w X.K X.mg X.base CX k f fd ps sp) (hr : Room k X.A) (hb : Binds X.K fd ps ds) (hd : Vals dvs ds) (hx : Passes CX X E)
    (ht : eval (.Call (.Attribute o m apos) [] [] pos) X.env = (do
      let ov ← eval o X.env
      standAt apos.atName
      let (f, first) ← holding [ov] (getMethod ov m pl)
      callWith pos f first (backTo pos (starEach [] X.env)) (backToKw pos (keywordEach [] X.env))) := by rfl) :
    PE X (.Call (.Attribute o m apos) [] [] pos) (tMeth C m sp dvs E ta tNil) := by
  intro pins s σ H Q I h
  refine PySem.W.methodCall_KW (pl := pl) (thn (he pins s σ H _ I h) fun u s1 ⟨x, H1, I1, rx, a, dx, fs, ex, ea, l, q⟩ => ?_) ht
  subst ex
  obtain rfl : u = Value.ref a := rx
  refine getmeth_ok I1 ea c hm l ?_
  exact PySem.W.callWith_K0 (first := [.ref a]) I1.kIn hm.kp (run_fn (us := [.ref a]) (vs := [.ref a]) F hr hb hd hx I1 (.cons rfl .nil) q)
structure Mk (K : PySem.W.Frag) (C f : Addr) : Prop where
  makes : PySem.W.makesIn K C = true
  init : PySem.W.findIn K (.ref C) "__init__" = some (some (.ref f))
  fn : PySem.W.isFn K (.ref f) = true
  kp : PySem.W.keepIn K (.ref C) = true
theorem run_make {pins : List (Addr × Obj)} {σ : St} {H : Hp} {s : Shared} {Q : VK} {us : List Value} {vs : List V} (M : Mk X.K C f) (F : FnOk X.prog X.w X.K X.mg X.base CX k f fd ps sp) (hr : Room (k + 1) X.A) (hb : Binds X.K fd ps ds) (hd : Vals dvs ds)
    (hx : Passes CX X E) (I : Inv X pins σ H s) (r : Vals vs us)
    (h : ∀ x dx, H x = none → H dx = none → dx ≠ x → sp (.ref x :: (vs ++ dvs)) (upd (upd H dx (.own x)) x (.ins C dx [])) (fun v H2 => v = .non ∧ Q (.ref x) H2) E) :
    wpAny (model X.prog X.w) X.A (call (.ref C) us) (EP X pins σ Q) X.xe s := by
  have hq := h (s.heap.objs.size + 1) s.heap.objs.size (I.hok.fresh (Nat.le_succ _)) (I.hok.fresh (Nat.le_refl _)) (Nat.ne_of_lt (Nat.lt_succ_self _))
  have I2 := Inv.made (C := C) I
  have r2 : Vals (V.ref (s.heap.objs.size + 1) :: (vs ++ dvs)) (Value.ref (s.heap.objs.size + 1) :: (us ++ ds)) := .cons rfl (r.append hd)
  have hl : (Value.ref (s.heap.objs.size + 1) :: us ++ ds).length = ps.length := by
    have e := r2.length
    rw [F.len _ _ _ _ hq] at e
    exact e.symm
  refine wpAny_call (make_map (f := f) I.kIn M.makes M.init (beq_iff_eq.mp M.fn) (codeAny_mono (F.run _ X.stack _ _ ⟨Value.ref (s.heap.objs.size + 1) :: us, []⟩ (Value.ref (s.heap.objs.size + 1) :: (us ++ ds)) _ _ E (hr.make C us [])
    (I2.env0.make C us []) (hb _ (Value.ref (s.heap.objs.size + 1) :: us) I2.kIn hl) r2 hq) fun r s' hq' => ?_))
  cases r with
  | error e => exact hx pins σ _ _ e s' I2 hq'
  | ok fl =>
    cases fl with
    | ret u =>
      obtain ⟨v, H', I3, rv, ev, q3⟩ := I2.after hq'
      subst ev
      exact ⟨rv, ⟨V.ref (s.heap.objs.size + 1), H', I3, rfl, q3⟩⟩
    | next => exact False.elim hq'
    | brk => exact False.elim hq'
    | cont => exact False.elim hq'
theorem pe_make (M : Mk X.K C f) (F : FnOk X.prog X.w X.K X.mg X.base CX k f fd ps sp) (hr : Room (k + 1) X.A) (hg : Gl X x) (hm : X.mg x = some (.ref C)) (hb : Binds X.K fd ps ds) (hd : Vals dvs ds) (hx : Passes CX X E)
    (ha : PA X (e :: es) t) (hdb : (x == ("__debug__" : Str)) = false := by decide) (he : starEach (e :: es) X.env = (false, eval e X.env) :: starEach es X.env := by rfl) (hpl : (backTo pos (starEach es X.env)).any (·.1) = false := by rfl) :
    PE X (.Call (.Name x p) (e :: es) [] pos) (tMake C sp dvs E t) := by
  intro pins s σ H Q I h
  refine wpAny_Call_Name_kw (ld_glob I hg hm ?_ hdb)
  refine PySem.W.callWith_K (h₀ := X.base) I.ok.mod.kin M.kp (thn (ha pos pins s σ H _ I h) fun us s1 ⟨vs, H1, I1, r, q⟩ => ⟨I1.kIn, ?_⟩) he hpl
  exact run_make M F hr hb hd hx I1 r q
theorem pe_make0 (M : Mk X.K C f) (F : FnOk X.prog X.w X.K X.mg X.base CX k f fd ps sp) (hr : Room (k + 1) X.A) (hg : Gl X x) (hm : X.mg x = some (.ref C)) (hb : Binds X.K fd ps ds) (hd : Vals dvs ds) (hx : Passes CX X E)
    (hdb : (x == ("__debug__" : Str)) = false := by decide) : PE X (.Call (.Name x p) [] [] pos) (tMake C sp dvs E tNil) := by
  intro pins s σ H Q I h
  refine wpAny_Call_Name_kw (ld_glob I hg hm ?_ hdb)
  exact PySem.W.callWith_K0 I.kIn M.kp (run_make (us := []) M F hr hb hd hx I .nil h)
end
def PK (X : Cx) (kws : List Keyword) (t : TA) : Prop :=
  ∀ (pos : Pos) (pins : List (Addr × Obj)) (s : Shared) (σ : St) (H : Hp) (Q : List V → Hp → Prop), Inv X pins σ H s → t σ H Q → wpAny (model X.prog X.w) X.A (evalAll ((backToKw pos (keywordEach kws X.env)).map (·.2))) (AP X pins σ Q) X.xe s
section
variable {X : Cx} {CX : CXT} {k : Nat} {f C : Addr} {fd : FuncData} {ps ks : List Str} {sp : Sp} {E : XK} {x m : Str} {p pos apos kpos : Pos} {e o : Expr} {es : List Expr} {kws : List Keyword} {te ta : TE} {t tk : TA} {nm : Option Str}
theorem pk_nil : PK X [] tNil := fun _ _ _ _ H Q I h => wpAny_evalAll_nil ⟨[], H, I, .nil, h⟩
theorem pk_cons (ha : PE X e te) (hr : PK X kws t) : PK X (⟨nm, e, kpos⟩ :: kws) (tCons te t) := by
  intro pos pins s σ H Q I h
  show wpAny _ _ (evalAll ((do let v ← eval e X.env; standAt pos; pure v) :: (backToKw pos (keywordEach kws X.env)).map (·.2))) _ _ s
  refine wpAny_evalAll_cons (wpAny_bind (thn (ha pins s σ H _ I h) fun u s1 ⟨x, H1, I1, r1, q1⟩ => wpAny_bind (wpAny_standAt (wpAny_pure ?_))))
  exact thn (hr pos pins s1 σ H1 _ I1 q1) fun us s2 ⟨xs, H2, I2, r2, q2⟩ => ⟨x :: xs, H2, I2, .cons r1 r2, q2⟩
structure KBinds (K : PySem.W.Frag) (fd : FuncData) (ps ks : List Str) (g : List Value → List Value → List Value) (gV : List V → List V → List V) : Prop where
  to : ∀ (s : Shared) (us ws : List Value), K.In s.heap → (g us ws).length = ps.length → BindsTo s fd ⟨us, ks.zip ws⟩ (ps.zip (g us ws))
  rel : ∀ {vs : List V} {us : List Value} {zs : List V} {ws : List Value}, Vals vs us → Vals zs ws → Vals (gV vs zs) (g us ws)
variable {g : List Value → List Value → List Value} {gV : List V → List V → List V}
end
structure FnScope (N P : List Str) (sc : Scope) : Prop where
  kind : sc.kind = .function
  co : sc.isCoroutine = false
  gen : sc.isGenerator = false
  nd : N.Nodup
  pre : N.take P.length = P
  par : ∀ x ∈ P, sc.names.lookup x = some .local ∨ sc.names.lookup x = some .cell
  nofree : ∀ y ∈ sc.names, y.2 ≠ .free
theorem bindL_out {kindOf : Str → Option NameKind} {x : Str} : ∀ {binds : List (Str × Value)} {m : Str → Option Value}, (∀ v, (x, v) ∉ binds) → bindL kindOf binds m x = m x
  | [], _, _ => rfl
  | (n, v) :: r, m, h => by
    unfold bindL
    rw [bindL_out fun w hw => h w (List.mem_cons_of_mem _ hw)]
    split
    · have : x ≠ n := by rintro rfl; exact h v List.mem_cons_self
      simp [this]
    · rfl
theorem bindC_out {kindOf : Str → Option NameKind} {x : Str} : ∀ {binds : List (Str × Value)} {m : Str → Option Value}, (∀ v, (x, v) ∉ binds) → bindC kindOf binds m x = m x
  | [], _, _ => rfl
  | (n, v) :: r, m, h => by
    unfold bindC
    rw [bindC_out fun w hw => h w (List.mem_cons_of_mem _ hw)]
    split
    · rfl
    · have : x ≠ n := by rintro rfl; exact h v List.mem_cons_self
      simp [this]
theorem bindL_get {kindOf : Str → Option NameKind} {x : Str} {v : Value} : ∀ {P : List Str} {vs : List Value} {i : Nat} {m : Str → Option Value}, P.Nodup → P[i]? = some x → vs[i]? = some v → kindOf x = some .local →
    bindL kindOf (P.zip vs) m x = some v
  | [], _, _, _, _, h, _, _ => by simp at h
  | _ :: _, [], _, _, _, _, h, _ => by simp at h
  | p :: P, w :: vs, 0, m, nd, h1, h2, hk => by
    simp at h1 h2; subst h1; subst h2
    show bindL kindOf ((p, w) :: P.zip vs) m p = _
    unfold bindL
    rw [bindL_out fun v hv => (List.nodup_cons.mp nd).1 (List.of_mem_zip hv).1, if_pos hk]
    simp
  | p :: P, w :: vs, i + 1, m, nd, h1, h2, hk => by
    show bindL kindOf ((p, w) :: P.zip vs) m x = _
    unfold bindL
    exact bindL_get (i := i) (List.nodup_cons.mp nd).2 (by simpa using h1) (by simpa using h2) hk
theorem bindC_get {kindOf : Str → Option NameKind} {x : Str} {v : Value} : ∀ {P : List Str} {vs : List Value} {i : Nat} {m : Str → Option Value}, P.Nodup → P[i]? = some x → vs[i]? = some v → kindOf x ≠ some .local →
    bindC kindOf (P.zip vs) m x = some v
  | [], _, _, _, _, h, _, _ => by simp at h
  | _ :: _, [], _, _, _, _, h, _ => by simp at h
  | p :: P, w :: vs, 0, m, nd, h1, h2, hk => by
    simp at h1 h2; subst h1; subst h2
    show bindC kindOf ((p, w) :: P.zip vs) m p = _
    unfold bindC
    rw [bindC_out fun v hv => (List.nodup_cons.mp nd).1 (List.of_mem_zip hv).1, if_neg hk]
    simp
  | p :: P, w :: vs, i + 1, m, nd, h1, h2, hk => by
    show bindC kindOf ((p, w) :: P.zip vs) m x = _
    unfold bindC
    exact bindC_get (i := i) (List.nodup_cons.mp nd).2 (by simpa using h1) (by simpa using h2) hk
def start (N : List Str) (vs : List V) : St := vs.map some ++ List.replicate (N.length - vs.length) none
def cxOf (CX : CXT) (P : Program) (w : World) (K : PySem.W.Frag) (mg : Str → Option Value) (base : Heap) (N : List Str) (qual : Str) (scope : Scope) (f : Addr) (cd : Value) (A : Around) (outer : List Env) (s : Shared) (H : Hp) (E : XK) : Cx where
  prog := P
  w := w
  K := K
  mg := mg
  base := base
  A := A.deeper (envOfC qual scope s.heap.objs.size f cd)
  N := N
  s_0 := s
  H_0 := H
  env := envOfC qual scope s.heap.objs.size f cd
  outer := outer
  stack := envOfC qual scope s.heap.objs.size f cd :: outer
  ex := []
  calm := true
  fn := fun _ => true
  pn := []
  xe := fun e s' => wpAny (model P w) (A.deeper (envOfC qual scope s.heap.objs.size f cd)) (leaving (envOfC qual scope s.heap.objs.size f cd) e) (fun _ s'' => CX outer H s E e s'') (fun e' s'' => CX outer H s E e' s'') s'
theorem cell_has {sc : Scope} {n : Nat} {x : Str} (h : sc.names.lookup x = some .cell) : ∃ c, (cellsFrom n sc.names []).lookup x = some c := by
  have q := PySem.W.cellsFrom_some sc.names n [] (.inl h)
  exact Option.isSome_iff_exists.mp q
theorem inv_start {CX : CXT} {P : Program} {w : World} {K : PySem.W.Frag} {mg : Str → Option Value} {base : Heap} {N ps : List Str} {qual : Str} {scope : Scope} {f : Addr} {cd : Value} {A : Around} {outer : List Env} {s s1 : Shared} {H : Hp} {E : XK} {us : List Value} {vs : List V}
    (S : FnScope N ps scope) (hd : A.handled = none) (e0 : Env0 P w K mg base A outer s H) (hl : vs.length = ps.length) (r : Vals vs us)
    (x : InCallC s s.heap.objs.size (bindL (envOfC qual scope s.heap.objs.size f cd).kindOf (ps.zip us) fun _ => none) (cellsFrom (s.heap.objs.size + 1) scope.names []) (bindC (envOfC qual scope s.heap.objs.size f cd).kindOf (ps.zip us) fun _ => none) s1) :
    Inv (cxOf CX P w K mg base N qual scope f cd A outer s H E) [] (start N vs) H s1 := by
  have hpl : ps.length ≤ N.length := by have := congrArg List.length S.pre; rw [List.length_take] at this; omega
  obtain ⟨h1, tk, rfl, hk⟩ := x.done
  have noA : ∀ b : Addr, b ∉ (cxOf CX P w K mg base N qual scope f cd A outer s H E).ex := fun b z => absurd (show b ∈ ([] : List Addr) from z) (by simp)
  refine ⟨⟨e0.mod, S.kind, rfl, rfl, Nat.le_refl _, fun y z c h1 h2 => ?_, fun y hy => ?_, fun y c _ h => ?_, fun _ => hd, Around.frames_deeper e0.frames, .inr ⟨rfl, rfl⟩, fun b z => absurd z (noA b), e0.bs, e0.bsz, fun b _ _ => noA b, fun b z => absurd z (noA b), e0.funs, e0.frf⟩,
    rfl, e0.bare, Un.kept hk, ⟨_, x.toInCall.ns, fun i y v h1 h2 h3 => ?_⟩, fun y c h => ⟨_, x.cell y c h⟩, e0.hok.fresh (Nat.le_refl _), fun y c h => ?_, fun p hp => absurd (show p ∈ ([] : List (Addr × Obj)) from hp) (by simp), e0.hok.kept hk, ?_⟩
  · exact name_of_addr x.apart (PySem.mem_of_lookup h1) (PySem.mem_of_lookup h2)
  · have hy : scope.names.lookup y = some .cell ∨ scope.names.lookup y = some .free := hy
    rcases hy with hy | hy
    · exact cell_has hy
    · exact absurd rfl (S.nofree _ (PySem.mem_of_lookup hy))
  · exact Nat.le_of_lt (x.above y c (PySem.mem_of_lookup h))
  · have hi : i < vs.length := by
      unfold start at h2
      by_cases hi : i < vs.length
      · exact hi
      · rw [List.getElem?_append_right (by simpa using hi)] at h2
        rw [List.getElem?_replicate] at h2
        split at h2 <;> cases h2
    have ha : vs[i]? = some v := by
      unfold start at h2
      rw [List.getElem?_append_left (by simpa using hi), List.getElem?_map] at h2
      cases e : vs[i]? with
      | none => rw [e] at h2; cases h2
      | some a => rw [e] at h2; cases h2; rfl
    obtain ⟨u, hu, rv⟩ := r.get ha
    have hp : ps[i]? = some y := by
      rw [← S.pre, List.getElem?_take_of_lt (by omega)]; exact h1
    have ndP : ps.Nodup := by rw [← S.pre]; exact S.nd.sublist (List.take_sublist _ _)
    refine ⟨u, rv, ?_⟩
    rcases S.par y (List.mem_of_getElem? hp) with k | k
    · exact .inl ⟨k, bindL_get ndP hp hu k⟩
    · obtain ⟨c, e⟩ := cell_has (n := s.heap.objs.size + 1) k
      refine .inr ⟨.inl k, c, e, ?_⟩
      have q := x.cell y c e
      rw [bindC_get ndP hp hu (by show scope.names.lookup y ≠ _; rw [k]; decide)] at q
      exact q
  · exact e0.hok.fresh (Nat.le_of_lt (x.above y c (PySem.mem_of_lookup h)))
  · unfold start
    show _ = N.length
    rw [List.length_append, List.length_map, List.length_replicate]
    omega
theorem fn_of {CX : CXT} {P : Program} {w : World} {K : PySem.W.Frag} {mg : Str → Option Value} {base : Heap} {k : Nat} {f : Addr} {name qual : Str} {params : Arguments} {body : List Stmt} {scope : Scope} {dV kV doc pm cdv ct oc : Value} {an od : Option Addr}
    {osl : Array (Option Value)} {N ps : List Str} {sp : Sp} (lk : K.lookup f = some ⟨oc, od, .func (PySem.W.fnOf name qual params body scope dV kV doc pm an cdv ct), osl⟩) (hcd : PySem.W.codeIn K cdv qual = true) (S : FnScope N ps scope)
    (len : ∀ vs H Q E, sp vs H Q E → vs.length = ps.length)
    (hbody : ∀ (A : Around) (outer : List Env) (s : Shared) (H : Hp) (vs : List V) (Q : VK) (E : XK), Room k (A.deeper (envOfC qual scope s.heap.objs.size f cdv)) → sp vs H Q E →
      ∃ t, PSs (cxOf CX P w K mg base N qual scope f cdv A outer s H E) body t ∧ t { nx := fun _ H' => Q .non H', rt := Q } (start N vs) H) :
    FnOk P w K mg base CX (k + 1) f (PySem.W.fnOf name qual params body scope dV kV doc pm an cdv ct) ps sp := by
  refine ⟨len, fun A outer s H args us vs Q E hr e0 hb r hsp => ?_⟩
  have hl := len _ _ _ _ hsp
  have KX : K.In s.heap := e0.mod.kin.keeps fun b o e => (e0.bs b o e).1
  have lim : s.heap.NoLimit := e0.mod.nolimit.keeps fun b o e => (e0.bs b o e).1
  have hkind : ∀ y ∈ ps.zip us, scope.names.lookup y.1 = some .local ∨ (scope.names.lookup y.1 = some .cell ∧ ((cellsFrom (s.heap.objs.size + 1) scope.names []).lookup y.1).isSome = true) := fun ⟨n, v⟩ hy => by
    rcases S.par n (List.of_mem_zip hy).1 with q | q
    · exact .inl q
    · exact .inr ⟨q, PySem.W.cellsFrom_some _ _ _ (.inl q)⟩
  refine codeAny_call_function hr.depth (KX _ _ lk) rfl S.co S.gen rfl (PySem.W.codeRec_of KX hcd) (hb _ _ _ _ ?_)
  refine wpAny_newFunctionEnv_cells S.kind hkind fun env he s1 x => ?_
  subst he
  refine ⟨lim.keeps x.toInCall.keep, codeAny_func ?_⟩
  obtain ⟨t, ht, hq⟩ := hbody A outer s H vs Q E (hr.deeper _) hsp
  have I : Inv (cxOf CX P w K mg base N qual scope f cdv A outer s H E) [] (start N vs) H s1 := inv_start S hr.hd e0 hl r x
  refine wpAny_mono (ht [] s1 (start N vs) H _ I hq) (fun fl s' hs => ?_) fun e s' hs => hs
  have fin : ∀ {σ' : St} {H' : Hp} {v : V} {u : Value}, Inv (cxOf CX P w K mg base N qual scope f cdv A outer s H E) [] σ' H' s' → RelV v u → Q v H' → CE outer P w H s Q u s' :=
    fun {σ' H' v u} J rv q => ⟨v, H', J.os, J.bare, J.base, J.hok, rv, q⟩
  cases fl with
  | ret u =>
    obtain ⟨v, σ', H', J, rv, q⟩ := hs
    exact fin J rv q
  | next =>
    obtain ⟨σ', H', J, q⟩ := hs
    exact fin (v := V.non) (u := Value.none) J rfl q
  | brk =>
    obtain ⟨_, _, _, q⟩ := hs
    exact False.elim q
  | cont =>
    obtain ⟨_, _, _, q⟩ := hs
    exact False.elim q
end L2
namespace L2
open PySem PySem.Spec PyProof.Rows
section
variable {X : Cx} {x : Str} {p pos : Pos} {e : Expr} {es : List Expr} {t : TA} {id T : String} {r : List V → Hp → VK → Prop}
def tCB (r : List V → Hp → VK → Prop) (t : TA) : TE := fun σ H Q => t σ H fun vs H1 => r vs H1 Q
theorem pe_callB (hc : CallR X (.builtin id) r) (hg : Gl X x) (hm : X.mg x = none) (hv : bootBuiltins x = some (.builtin id)) (ha : PA X (e :: es) t) (hn : x ≠ "__name__" := by decide) (hdb : (x == ("__debug__" : Str)) = false := by decide)
    (he : starEach (e :: es) X.env = (false, eval e X.env) :: starEach es X.env := by rfl) (hpl : (backTo pos (starEach es X.env)).any (·.1) = false := by rfl) : PE X (.Call (.Name x p) (e :: es) [] pos) (tCB r t) := by
  intro pins s σ H Q I h
  refine wpAny_Call_Name_kw (ld_blt I hg hm hv ?_ hn hdb)
  exact PyProof.Rows.callWith_builtin1 (thn (ha pos pins s σ H _ I h) fun us s1 ⟨vs, H1, I1, r1, q1⟩ => hc pins s1 σ H1 vs us Q I1 r1 q1) he hpl
theorem pe_callTy (hc : CallR X (.type T) r) (hg : Gl X x) (hm : X.mg x = none) (hv : bootBuiltins x = some (.type T)) (ha : PA X (e :: es) t) (hn : x ≠ "__name__" := by decide) (hdb : (x == ("__debug__" : Str)) = false := by decide)
    (he : starEach (e :: es) X.env = (false, eval e X.env) :: starEach es X.env := by rfl) (hpl : (backTo pos (starEach es X.env)).any (·.1) = false := by rfl) : PE X (.Call (.Name x p) (e :: es) [] pos) (tCB r t) := by
  intro pins s σ H Q I h
  refine wpAny_Call_Name_kw (ld_blt I hg hm hv ?_ hn hdb)
  exact PyProof.Rows.callWith_type1 (thn (ha pos pins s σ H _ I h) fun us s1 ⟨vs, H1, I1, r1, q1⟩ => hc pins s1 σ H1 vs us Q I1 r1 q1) he hpl
end
end L2
namespace HT
open PySem PyProof.Rows
section
open PySem.SeqAt
open PySem.AutoSeq1 (wpAny_loadPart')
open PySem.MeetsSeq PySem.MeetsSeq2 PySem.MeetsSeq3
end
section
variable {prog : Program} {w : World} {A : Around} {E : Value → Shared → Prop} {s : Shared}
def sIx (n d : Nat) : Option Int → Nat
  | none => d
  | some v => if v < 0 then (v + (n : Int)).toNat else min v.toNat n
theorem sIx_none (n d : Nat) : sIx n d none = d := rfl
theorem sIx_nat (n d k : Nat) : sIx n d (some (k : Int)) = min k n := by
  show (if (k : Int) < 0 then ((k : Int) + (n : Int)).toNat else min (k : Int).toNat n) = min k n
  rw [if_neg (by omega), Int.toNat_natCast]
theorem sIx_le (n d : Nat) (hd : d ≤ n) (o : Option Int) : sIx n d o ≤ n := by
  cases o with
  | none => exact hd
  | some v =>
    show (if v < 0 then (v + (n : Int)).toNat else min v.toNat n) ≤ n
    by_cases hv : v < 0
    · rw [if_pos hv]; omega
    · rw [if_neg hv]; exact Nat.min_le_right _ _
theorem clip_eq (v : Int) (n d : Nat) : (if v < 0 then max (v + (n : Int)) 0 else min v (n : Int)) = ((sIx n d (some v) : Nat) : Int) := by
  show (if v < 0 then max (v + (n : Int)) 0 else min v (n : Int)) = (((if v < 0 then (v + (n : Int)).toNat else min v.toNat n) : Nat) : Int)
  by_cases hv : v < 0
  · simp only [if_pos hv]; omega
  · simp only [if_neg hv]; omega
theorem adjust_gen (lo hi : Option Int) (n : Nat) : Builtin.Slice.sliceAdjust lo hi 1 (n : Int) = (((sIx n 0 lo : Nat) : Int), ((sIx n n hi : Nat) : Int)) := by
  have h1 : ¬ ((1 : Int) < 0) := by omega
  unfold Builtin.Slice.sliceAdjust
  simp only [h1, if_false]
  refine Prod.ext ?_ ?_
  · cases lo with
    | none => rfl
    | some v => exact clip_eq v n 0
  · cases hi with
    | none => rfl
    | some v => exact clip_eq v n n
theorem places_gen (i j : Nat) : Builtin.Slice.slicePlaces (i : Int) (j : Int) 1 = j - i := by
  unfold Builtin.Slice.slicePlaces
  have h1 : (1 : Int) > 0 := by omega
  simp only [h1, if_true, Int.ediv_one]
  split <;> omega
theorem slicePart_ {v : Value} {o : Option Int} {Q : Option Int → Shared → Prop} (p : IsPart v o) (h : Q o s) : wpAny (model prog w) A (Builtin.Slice.slicePartIndex v) Q E s := by
  cases p with
  | none => exact slicePart_none h
  | int i t => exact slicePart_int h
theorem sliceApplied_gen {sl : Addr} {vl vu : Value} {lo hi : Option Int} {n : Nat} {Q : Int × Int × Nat → Shared → Prop} (hs : s.heap.IsSliceOf sl vl vu .none) (pl : IsPart vl lo) (pu : IsPart vu hi)
    (h : Q (((sIx n 0 lo : Nat) : Int), 1, sIx n n hi - sIx n 0 lo) s) : wpAny (model prog w) A (Builtin.Slice.sliceApplied (.ref sl) (pure (n : Int))) Q E s := by
  obtain ⟨os, hos, hcs, hds⟩ := id hs
  unfold Builtin.Slice.sliceApplied Builtin.Slice.sliceFields
  refine wpAny_bind (wpAny_bind (wpAny_field hos hds (x := vl) rfl (wpAny_bind (wpAny_field hos hds (x := vu) rfl (wpAny_bind (wpAny_field hos hds (x := .none) rfl (wpAny_pure ?_)))))))
  refine wpAny_bind (slicePart_none ?_)
  show wpAny _ _ (if ((1 : Int) == 0) = true then _ else _) _ _ s
  rw [if_neg (by decide)]
  refine wpAny_bind (slicePart_ pl (wpAny_bind (slicePart_ pu (wpAny_bind (wpAny_pure ?_)))))
  show wpAny _ _ (match Builtin.Slice.sliceAdjust lo hi 1 (n : Int) with | (lo, hi) => pure (lo, (1 : Int), Builtin.Slice.slicePlaces lo hi 1)) _ _ s
  rw [adjust_gen lo hi n]
  show wpAny _ _ (pure (((sIx n 0 lo : Nat) : Int), (1 : Int), Builtin.Slice.slicePlaces ((sIx n 0 lo : Nat) : Int) ((sIx n n hi : Nat) : Int) 1)) _ _ s
  rw [places_gen]
  exact wpAny_pure h
theorem pick_gen (xs : Array Value) (i k : Nat) : ((List.range k).filterMap fun (m : Nat) => xs[((i : Int) + (m : Int) * 1).toNat]?).toArray = ((xs.toList.drop i).take k).toArray := by
  have e : (fun (m : Nat) => xs[((i : Int) + (m : Int) * 1).toNat]?) = fun m => xs[i + m]? := by
    funext m
    have : ((i : Int) + (m : Int) * 1).toNat = i + m := by omega
    rw [this]
  rw [e]
  have := pick_run xs i k
  rw [List.filterMap_map] at this
  have e2 : ((fun x => xs[x]?) ∘ fun x => i + x) = fun m => xs[i + m]? := rfl
  rw [e2] at this
  rw [this]
theorem getItem_tuple_cut {t sl : Addr} {items : Array Value} {vl vu : Value} {lo hi : Option Int} {Q : Value → Shared → Prop} (ht : IsTup s.heap t items) (hs : s.heap.IsSliceOf sl vl vu .none) (pl : IsPart vl lo) (pu : IsPart vu hi)
    (hw : ¬ (sIx items.size 0 lo = 0 ∧ sIx items.size items.size hi = items.size))
    (h : Q (.ref s.heap.objs.size) { s with heap := s.heap.push { cls := .type "tuple", data := .seq ((items.toList.drop (sIx items.size 0 lo)).take (sIx items.size items.size hi - sIx items.size 0 lo)).toArray } })
    (hsz : items.size ≤ sizeLine) : wpAny (model prog w) A (getItem (.ref t) (.ref sl)) Q E s := by
  have htake : sizeOk (.seq ((items.toList.drop (sIx items.size 0 lo)).take (sIx items.size items.size hi - sIx items.size 0 lo)).toArray) := by
    show ((items.toList.drop (sIx items.size 0 lo)).take (sIx items.size items.size hi - sIx items.size 0 lo)).toArray.size ≤ sizeLine
    rw [List.size_toArray, List.length_take, List.length_drop, Array.length_toList]
    omega
  have hj : sIx items.size items.size hi ≤ items.size := sIx_le _ _ (Nat.le_refl _) hi
  obtain ⟨os, hos, hcs, hds⟩ := id hs
  have hTs : s.TypeIs (.ref sl) "slice" := ⟨os, hos, hcs⟩
  unfold getItem
  try with_reducible refine wpAny_holding ?_
  first | refine wpAny_bind (wpAny_pure ?_) | skip
  refine wpAny_bind (wpAny_sequenceKey ht.typeIs (by decide) ?_)
  refine wpAny_bind (wpAny_callSpecial?_slot (name := Str.ofString "__getitem__") ht.typeIs PyProof.Rows.slot_tuple_getitem
    (wpAny_call_entry PyProof.Rows.slot_tuple_getitem ht.typeIs entry_tuple_getitem ?_ (args_tuple_getitem _ _)))
  show wpAny _ _ (Builtin.Tuple.tupleItemsOf (.ref t) >>= _) _ _ s
  refine wpAny_bind (tupleItemsOf_ ht ?_)
  refine wpAny_bind (wpAny_typeOf hTs ?_)
  rw [if_pos (by decide)]
  refine wpAny_bind (sliceApplied_gen hs pl pu ?_)
  have hno : ¬ ((((sIx items.size 0 lo : Nat) : Int) == 0 && (1 : Int) == 1 && (sIx items.size items.size hi - sIx items.size 0 lo) == items.size) = true) := by
    intro q
    rw [Bool.and_eq_true, Bool.and_eq_true] at q
    have q1 : ((sIx items.size 0 lo : Nat) : Int) = 0 := eq_of_beq q.1.1
    have q2 : sIx items.size items.size hi - sIx items.size 0 lo = items.size := eq_of_beq q.2
    exact hw ⟨by omega, by omega⟩
  show wpAny _ _ (if (((sIx items.size 0 lo : Nat) : Int) == 0 && (1 : Int) == 1 && (sIx items.size items.size hi - sIx items.size 0 lo) == items.size) = true then _ else _) _ _ s
  rw [if_neg hno, pick_gen]
  first
    | exact wpAny_bind (m := Builtin.Tuple.tupleExact _) (wpAny_newObj_type (wpAny_pure ⟨_, rfl, wpAny_pure h⟩) htake)
    | exact wpAny_bind (m := Builtin.Tuple.tupleExact _) (wpAny_newObj_type (wpAny_bind (wpAny_pure (wpAny_pure ⟨_, rfl, wpAny_pure h⟩))) htake)
    | exact wpAny_bind (wpAny_bind (m := Builtin.Tuple.tupleExact _) (wpAny_newObj_type (wpAny_pure (wpAny_pure ⟨_, rfl, wpAny_pure h⟩)) htake))
    | exact wpAny_bind (wpAny_bind (m := Builtin.Tuple.tupleExact _) (wpAny_newObj_type (wpAny_pure ⟨_, rfl, wpAny_pure h⟩) htake))
end
end HT
namespace L2
open PySem PySem.Spec PyProof.Rows
abbrev TO := St → Hp → (Option Int → Hp → Prop) → Prop
def PO (X : Cx) (e : Option Expr) (t : TO) : Prop :=
  ∀ (pins : List (Addr × Obj)) (s : Shared) (σ : St) (H : Hp) (Q : Option Int → Hp → Prop), Inv X pins σ H s → t σ H Q →
    wpAny (model X.prog X.w) X.A (evalPart e X.env) (fun u s' => ∃ o H', Inv X pins σ H' s' ∧ IsPart u o ∧ Q o H') X.xe s
def tNoPart : TO := fun _ H Q => Q none H
def tPart (t : TE) : TO := fun σ H Q => t σ H fun x H1 => ∃ i, x = .int i ∧ Q (some i) H1
section
variable {X : Cx} {e : Expr} {te : TE} {lo hi : Option Expr} {tl th : TO} {pos p2 : Pos}
theorem po_none : PO X none tNoPart := by
  intro pins s σ H Q I h
  rw [evalPart_none]
  exact wpAny_pure ⟨none, H, I, .none, h⟩
theorem po_some (h : PE X e te) : PO X (some e) (tPart te) := by
  intro pins s σ H Q I hw
  rw [evalPart_some]
  refine thn (h pins s σ H _ I hw) fun u s1 ⟨x, H1, I1, r1, q1⟩ => ?_
  obtain ⟨i, rfl, q⟩ := q1
  obtain ⟨t, rfl⟩ := r1
  exact ⟨some i, H1, I1, .int i t, q⟩
def SlR (X : Cx) (r : V → Option Int → Option Int → Hp → VK → Prop) : Prop :=
  ∀ (pins : List (Addr × Obj)) (s : Shared) (σ : St) (H : Hp) (x : V) (v vl vu : Value) (lo hi : Option Int) (sl : Addr) (Q : VK), Inv X pins σ H s → RelV x v → s.heap.IsSliceOf sl vl vu .none → IsPart vl lo → IsPart vu hi → r x lo hi H Q →
    ∃ T id, typeLookup (.type T) "__getitem__" = pure (some (.builtin id)) ∧ s.TypeIs v T ∧ wpAny (model X.prog X.w) X.A (getItem v (.ref sl)) (EP X pins σ Q) X.xe s
def tSl (r : V → Option Int → Option Int → Hp → VK → Prop) (te : TE) (tl th : TO) : TE := fun σ H Q => te σ H fun x H1 => tl σ H1 fun l H2 => th σ H2 fun u H3 => r x l u H3 Q
theorem pe_slice {r : V → Option Int → Option Int → Hp → VK → Prop} (hr : SlR X r) (he : PE X e te) (hl : PO X lo tl) (hu : PO X hi th) : PE X (.Subscript e (.Slice lo hi none p2) pos) (tSl r te tl th) := by
  intro pins s σ H Q I h
  refine Subscript_ (thn (he pins s σ H _ I h) fun v s1 ⟨x, H1, I1, r1, q1⟩ => ?_)
  refine wpAny_Slice (thn (hl pins s1 σ H1 _ I1 q1) fun vl s2 ⟨l, H2, I2, pl, q2⟩ => thn (hu pins s2 σ H2 _ I2 q2) fun vu s3 ⟨u, H3, I3, pu, q3⟩ => ?_)
  rw [evalPart_none]
  refine wpAny_pure ?_
  have I4 : Inv X pins σ H3 { s3 with heap := s3.heap.push { cls := .type "slice", data := .fields #[vl, vu, .none] } } := I3.kept (t' := s3.toks) fun b ob q => Heap.get?_push_of_some _ q
  obtain ⟨T, id, hT, ht, hg⟩ := hr pins { s3 with heap := s3.heap.push { cls := .type "slice", data := .fields #[vl, vu, .none] } } σ H3 x v vl vu l u s3.heap.objs.size Q I4 r1 (Heap.IsSliceOf.new ..) pl pu q3
  show wpAny (model X.prog X.w) X.A (subscriptTail e (.Slice lo hi none p2) v (.ref s3.heap.objs.size)) (EP X pins σ Q) X.xe { s3 with heap := s3.heap.push { cls := .type "slice", data := .fields #[vl, vu, .none] } }
  exact tail_any (ops := [.ref s3.heap.objs.size, v]) ht hT hg (by with_unfolding_all rfl)
def cutV (xs : List V) (lo hi : Option Int) : List V := (xs.drop (HT.sIx xs.length 0 lo)).take (HT.sIx xs.length xs.length hi - HT.sIx xs.length 0 lo)
theorem cutV_length (xs : List V) (lo hi : Option Int) : (cutV xs lo hi).length ≤ xs.length := by
  unfold cutV
  rw [List.length_take, List.length_drop]
  omega
def rSlT (K : PySem.W.Frag) : V → Option Int → Option Int → Hp → VK → Prop := fun x lo hi H Q => ∃ a xs, x = .ref a ∧ SqT K H a xs ∧
  ¬ (HT.sIx xs.length 0 lo = 0 ∧ HT.sIx xs.length xs.length hi = xs.length) ∧ ∀ p, H p = none → Q (.ref p) (upd H p (.tup (cutV xs lo hi)))
theorem sl_tup : SlR X (rSlT X.K) := by
  intro pins s σ H x v vl vu lo hi sl Q I rx hs pl pu h
  obtain ⟨a, xs, rfl, hx, hw, q⟩ := h
  cases rx
  obtain ⟨its, r, ht, hz⟩ := I.tuple hx
  have hlen : its.toArray.size = xs.length := by rw [List.size_toArray]; exact r.length.symm
  refine ⟨"tuple", _, PyProof.Rows.slot_tuple_getitem.lookup, ht.typeIs, ?_⟩
  refine HT.getItem_tuple_cut ht hs pl pu (by rw [hlen]; exact hw) ?_ (by rw [hlen]; exact hz)
  rw [hlen]
  refine ⟨.ref s.heap.objs.size, _, I.laid (t' := s.toks) (o := .tup (cutV xs lo hi)) (fun b ob q => Heap.get?_push_of_some _ q) (Nat.le_refl _) ?_, rfl, q _ (I.hok.fresh (Nat.le_refl _))⟩
  exact ⟨Nat.le_trans (cutV_length xs lo hi) hz, _, (r.drop (HT.sIx xs.length 0 lo)).take (HT.sIx xs.length xs.length hi - HT.sIx xs.length 0 lo), IsTup.new _ _⟩
end
end L2
namespace L2
open PySem PySem.Spec PyProof.Rows
def ixN (n : Nat) (i : Int) : Option Nat := if 0 ≤ i then (if i < n then some i.toNat else none) else if -(n : Int) ≤ i then some (i + n).toNat else none
def atI {α : Type} (xs : List α) (i : Int) : Option α := (ixN xs.length i).bind fun j => xs[j]?
theorem ixN_seq {n : Nat} {i : Int} {j : Nat} (h : ixN n i = some j) : seqIndex? i n = some j ∧ j < n ∧ -(n : Int) ≤ i ∧ i < n := by
  unfold ixN at h
  by_cases h0 : 0 ≤ i
  · rw [if_pos h0] at h
    by_cases h1 : i < n
    · rw [if_pos h1] at h
      have e : i.toNat = j := Option.some.inj h
      exact ⟨by rw [seqIndex_of h0 h1, e], by omega, by omega, h1⟩
    · rw [if_neg h1] at h; cases h
  · rw [if_neg h0] at h
    by_cases h1 : -(n : Int) ≤ i
    · rw [if_pos h1] at h
      have e : (i + n).toNat = j := Option.some.inj h
      exact ⟨by rw [seqIndex_neg (by omega) h1, e], by omega, h1, by omega⟩
    · rw [if_neg h1] at h; cases h
theorem atI_get {α : Type} {xs : List α} {i : Int} {v : α} (h : atI xs i = some v) : ∃ j, seqIndex? i xs.length = some j ∧ xs[j]? = some v ∧ j < xs.length ∧ -(xs.length : Int) ≤ i ∧ i < xs.length := by
  unfold atI at h
  cases e : ixN xs.length i with
  | none => rw [e] at h; cases h
  | some j =>
    rw [e] at h
    obtain ⟨h1, h2, h3, h4⟩ := ixN_seq e
    exact ⟨j, h1, h, h2, h3, h4⟩
theorem atI_nat {α : Type} {xs : List α} {j : Nat} {v : α} (h : xs[j]? = some v) : atI xs (j : Int) = some v := by
  have hj : j < xs.length := (List.getElem?_eq_some_iff.mp h).1
  have e : ixN xs.length (j : Int) = some j := by
    unfold ixN
    rw [if_pos (by omega), if_pos (by omega)]; simp
  unfold atI; rw [e]; exact h
theorem atI_last {α : Type} (xs : List α) (v : α) : atI (xs ++ [v]) (-1) = some v := by
  have hl : (xs ++ [v]).length = xs.length + 1 := by simp
  have e : ixN (xs ++ [v]).length (-1) = some xs.length := by
    unfold ixN
    rw [hl, if_neg (by decide), if_pos (by omega)]
    congr 1
    omega
  unfold atI
  rw [e]
  show (xs ++ [v])[xs.length]? = some v
  simp
def PlainIx (b : Expr) : Prop := ∀ o i, subscripted b false o i = operate [o, i] (getItem o i)
def IxR (X : Cx) (r : R2) : Prop :=
  ∀ (value slice : Expr) (pins : List (Addr × Obj)) (s : Shared) (σ : St) (H : Hp) (x y : V) (v u : Value) (Q : VK), Inv X pins σ H s → RelV x v → RelV y u → r x y H Q →
    subscripted slice false v u = operate [v, u] (getItem v u) → wpAny (model X.prog X.w) X.A (subscriptTail value slice v u) (EP X pins σ Q) X.xe s
def MtR (X : Cx) (id : String) (r : V → List V → Hp → VK → Prop) : Prop :=
  ∀ (pins : List (Addr × Obj)) (s : Shared) (σ : St) (H : Hp) (x : V) (xs : List V) (v : Value) (us : List Value) (Q : VK), Inv X pins σ H s → RelV x v → Vals xs us → r x xs H Q →
    wpAny (model X.prog X.w) X.A (call (.builtin id) (v :: us)) (EP X pins σ Q) X.xe s
section
variable {X : Cx} {a b : Expr} {ta tb : TE} {pos : Pos}
theorem pe_ix {r : R2} (hr : IxR X r) (ha : PE X a ta) (hb : PE X b tb) (hs : PlainIx b) : PE X (.Subscript a b pos) (tOp r ta tb) := by
  intro pins s σ H Q I h
  exact Subscript_ (binT ha hb I h fun v u s2 x y H2 I2 rx ry q => hr a b pins s2 σ H2 x y v u Q I2 rx ry q (hs _ _))
def rIxL (K : PySem.W.Frag) : R2 := fun x y H Q => ∃ p xs i v, x = .ref p ∧ y = .int i ∧ SqL K H p xs ∧ atI xs i = some v ∧ Q v H
def rIxT (K : PySem.W.Frag) : R2 := fun x y H Q => ∃ p xs i v, x = .ref p ∧ y = .int i ∧ SqT K H p xs ∧ atI xs i = some v ∧ Q v H
theorem ix_list : IxR X (rIxL X.K) := by
  intro value slice pins s σ H x y v u Q I rx ry h hs
  obtain ⟨p, xs, i, z, rfl, rfl, hq, he, q⟩ := h
  cases rx
  obtain ⟨t, rfl⟩ := ry
  obtain ⟨its, r, pl, hz⟩ := I.list hq
  obtain ⟨j, h1, h2, h3, h4, h5⟩ := atI_get he
  obtain ⟨w, ew, rw'⟩ := r.get h2
  have hl := r.length
  have hn := line63
  have fin : EP X pins σ Q w s := ⟨z, H, I, rw', q⟩
  by_cases h0 : 0 ≤ i
  · have hj : i.toNat = j := by
      rw [seqIndex_of h0 h5] at h1
      exact Option.some.inj h1
    exact item_listR pl.isList h0 (by omega) (by rw [hj]; simpa using ew) fin hs
  · have hj : (i + (its.toArray.size : Int)).toNat = j := by
      rw [seqIndex_neg (by omega) h4] at h1
      rw [List.size_toArray, ← hl]
      exact Option.some.inj h1
    exact subscriptTail_builtinR (x := w) pl.isList.typeIs slot_list_getitem.lookup
      (wpAny_getItem_list_neg (Q := fun r s' => r = w ∧ EP X pins σ Q r s') pl.isList (by omega) (by rw [List.size_toArray] <;> omega) (by omega) (by rw [hj]; simpa using ew) ⟨rfl, fin⟩) hs
theorem ix_tup : IxR X (rIxT X.K) := by
  intro value slice pins s σ H x y v u Q I rx ry h hs
  obtain ⟨p, xs, i, z, rfl, rfl, hq, he, q⟩ := h
  cases rx
  obtain ⟨t, rfl⟩ := ry
  obtain ⟨its, r, pl, hz⟩ := I.tuple hq
  obtain ⟨j, h1, h2, h3, h4, h5⟩ := atI_get he
  obtain ⟨w, ew, rw'⟩ := r.get h2
  have hl := r.length
  have hn := line63
  have fin : EP X pins σ Q w s := ⟨z, H, I, rw', q⟩
  exact subscriptTail_builtinR (x := w) pl.typeIs slot_tuple_getitem.lookup
    (getItem_tuple (j := j) (Q := fun r s' => r = w ∧ EP X pins σ Q r s') pl (by omega) (by omega) (by rw [List.size_toArray, ← hl]; exact h1) (by simpa using ew) ⟨rfl, fin⟩) hs
theorem slice_bounds (lo hi : Option Int) (n : Nat) : (sliceBounds lo hi none n).1 = ((HT.sIx n 0 lo : Nat) : Int) ∧ (sliceBounds lo hi none n).2.1 = ((HT.sIx n n hi : Nat) : Int) ∧ (sliceBounds lo hi none n).2.2 = 1 := by
  refine ⟨?_, ?_, rfl⟩
  · cases lo with
    | none => simp [sliceBounds, HT.sIx]
    | some i =>
      simp only [sliceBounds, HT.sIx, Option.getD_none, show (1 : Int) > 0 by decide, if_true]
      by_cases h : i < 0
      · simp only [h, if_true] <;> omega
      · simp only [h, if_false] <;> omega
  · cases hi with
    | none => simp [sliceBounds, HT.sIx]
    | some i =>
      simp only [sliceBounds, HT.sIx, Option.getD_none, show (1 : Int) > 0 by decide, if_true]
      by_cases h : i < 0
      · simp only [h, if_true] <;> omega
      · simp only [h, if_false] <;> omega
theorem slicePick_cut (its : List Value) (lo hi : Option Int) : slicePick its.toArray lo hi none = ((its.drop (HT.sIx its.length 0 lo)).take (HT.sIx its.length its.length hi - HT.sIx its.length 0 lo)).toArray := by
  obtain ⟨h1, h2, h3⟩ := slice_bounds lo hi its.toArray.size
  unfold slicePick
  rw [h1, h2, h3]
  simp only [sliceRange_one, pick_run, List.size_toArray] <;> rfl
def rSlL (K : PySem.W.Frag) : V → Option Int → Option Int → Hp → VK → Prop := fun x lo hi H Q => ∃ a xs, x = .ref a ∧ SqL K H a xs ∧ ∀ p, H p = none → Q (.ref p) (upd H p (.lst (cutV xs lo hi)))
theorem sl_list : SlR X (rSlL X.K) := by
  intro pins s σ H x v vl vu lo hi sl Q I rx hs pl pu h
  obtain ⟨a, xs, rfl, hx, q⟩ := h
  cases rx
  obtain ⟨its, r, ht, hz⟩ := I.list hx
  have hlen := r.length
  refine ⟨"list", _, slot_list_getitem.lookup, ht.isList.typeIs, ?_⟩
  refine wpAny_getItem_list_slice ht.isList hs pl pu .none (by simp) ?_ (by rw [List.size_toArray] <;> omega)
  rw [slicePick_cut, ← hlen]
  refine ⟨.ref s.heap.objs.size, _, I.laid (t' := s.toks) (o := .lst (cutV xs lo hi)) (fun b ob q => Heap.get?_push_of_some _ q) (Nat.le_refl _) ?_, rfl, q _ (I.hok.fresh (Nat.le_refl _))⟩
  exact ⟨Nat.le_trans (cutV_length xs lo hi) hz, _, 0, (r.drop (HT.sIx xs.length 0 lo)).take (HT.sIx xs.length xs.length hi - HT.sIx xs.length 0 lo), Heap.get?_push_size _ rfl⟩
theorem call_len_seq : CallR X (.builtin "len") (fun xs H Q => ∃ p ys, xs = [.ref p] ∧ (SqL X.K H p ys ∨ SqT X.K H p ys) ∧ Q (.int ys.length) H) := by
  intro pins s σ H xs us Q I r h
  obtain ⟨p, ys, rfl, hq, q⟩ := h
  obtain ⟨u, rfl, rx⟩ := vals1 r
  cases rx
  have hn := line63
  rcases hq with hq | hq
  · obtain ⟨its, r', pl, hz⟩ := I.list hq
    have hlen := r'.length
    exact Calls.call_len_list pl.isList (by simp only [List.size_toArray] <;> omega) ⟨.int ys.length, H, I.tok _, ⟨s.toks + 1, by rw [List.size_toArray, hlen]⟩, q⟩
  · obtain ⟨its, r', pl, hz⟩ := I.tuple hq
    have hlen := r'.length
    exact len_tuple pl (by simp only [List.size_toArray] <;> omega) ⟨.int ys.length, H, I.tok _, ⟨s.toks + 1, by rw [List.size_toArray, hlen]⟩, q⟩
theorem call_len_str : CallR X (.builtin "len") (fun xs H Q => ∃ z, xs = [.str z] ∧ z.length ≤ sizeLine ∧ Q (.int z.length) H) := by
  intro pins s σ H xs us Q I r h
  obtain ⟨z, rfl, hz, q⟩ := h
  obtain ⟨u, rfl, t, rfl⟩ := vals1 r
  have hn := line63
  exact len_str (by omega) ⟨.int z.length, H, I.tok _, ⟨_, rfl⟩, q⟩
theorem call_list_of : CallR X (.type "list") (fun xs H Q => ∃ p ys, xs = [.ref p] ∧ (SqL X.K H p ys ∨ SqT X.K H p ys) ∧ ∀ l, H l = none → Q (.ref l) (upd H l (.lst ys))) := by
  intro pins s σ H xs us Q I r h
  obtain ⟨p, ys, rfl, hq, q⟩ := h
  obtain ⟨u, rfl, rx⟩ := vals1 r
  cases rx
  have fin : ∀ (its : List Value), Vals ys its → ys.length ≤ sizeLine → ∀ (h' : Heap) (c' : Nat), (∀ b o', s.heap.get? b = some o' → h'.get? b = some o') →
      h'.get? s.heap.objs.size = some { cls := .type "list", dict := none, data := .seq its.toArray c', slots := #[] } → EP X pins σ Q (.ref s.heap.objs.size) { s with heap := h' } := fun its r' hz h' c' kp e =>
    ⟨.ref s.heap.objs.size, _, I.laid (t' := s.toks) kp (Nat.le_refl _) (show ObjOk X.prog X.w _ h' _ (.lst ys) from ⟨hz, its, c', r', e⟩), rfl, q _ (I.hok.fresh (Nat.le_refl _))⟩
  rcases hq with hq | hq
  · obtain ⟨its, r', pl, hz⟩ := I.list hq
    have hlen := r'.length
    obtain ⟨o, ho, hc, n, hd⟩ := pl.isList
    exact call_list_seq p (.inl rfl) ho hc hd (fun h' c' kp e => fin its r' hz h' c' kp e) (by simp only [List.size_toArray] <;> omega)
  · obtain ⟨its, r', pl, hz⟩ := I.tuple hq
    have hlen := r'.length
    obtain ⟨o, ho, hc, n, hd⟩ := pl
    exact call_list_seq p (.inr rfl) ho hc hd (fun h' c' kp e => fin its r' hz h' c' kp e) (by simp only [List.size_toArray] <;> omega)
theorem call_tuple_of : CallR X (.type "tuple") (fun xs H Q => ∃ p ys, xs = [.ref p] ∧ ((SqL X.K H p ys ∧ ∀ l, H l = none → Q (.ref l) (upd H l (.tup ys))) ∨ (SqT X.K H p ys ∧ Q (.ref p) H))) := by
  intro pins s σ H xs us Q I r h
  obtain ⟨p, ys, rfl, h⟩ := h
  obtain ⟨u, rfl, rx⟩ := vals1 r
  cases rx
  rcases h with ⟨hq, q⟩ | ⟨hq, q⟩
  · obtain ⟨its, r', pl, hz⟩ := I.list hq
    have hlen := r'.length
    refine call_tuple_list pl.isList (fun h' kp => ?_) (by simp only [List.size_toArray] <;> omega)
    have I1 : Inv X pins σ H { s with heap := h' } := I.kept (t' := s.toks) kp
    have I2 : Inv X pins σ (upd H h'.objs.size (.tup ys)) { s with heap := h'.push { cls := .type "tuple", data := .seq its.toArray } } :=
      I1.laid (t' := s.toks) (fun b o e => Heap.get?_push_of_some _ e) (Nat.le_refl _) (show ObjOk X.prog X.w _ _ _ (.tup ys) from ⟨hz, its, r', IsTup.new _ _⟩)
    exact ⟨.ref h'.objs.size, _, I2, rfl, q _ (I1.hok.fresh (Nat.le_refl _))⟩
  · obtain ⟨its, r', pl, hz⟩ := I.tuple hq
    exact call_tuple_same pl ⟨.ref p, H, I, rfl, q⟩
def tyV (K : PySem.W.Frag) (T : String) (x : V) (H : Hp) : Prop := match x with
  | .str _ => T = "str"
  | .int _ => T = "int"
  | .ref p => (T = "list" ∧ ∃ xs, SqL K H p xs) ∨ (T = "tuple" ∧ ∃ o, K.lookup p = some o ∧ o.cls = .type "tuple" ∧ o.dict = none) ∨
      (T = "dict" ∧ ((∃ kvs, H p = some (.dK kvs)) ∨ ∃ kvs, H p = some (.dT kvs))) ∨ (T = "set" ∧ ∃ S n, H p = some (.set S n))
  | _ => False
theorem tyV_is {pins : List (Addr × Obj)} {σ : St} {H : Hp} {s : Shared} {T : String} {x : V} {v : Value} (I : Inv X pins σ H s) (r : RelV x v) (ty : tyV X.K T x H) :
    s.TypeIs v T ∧ ∀ a, v = .ref a → ∃ ob, s.heap.get? a = some ob ∧ ob.dict = none := by
  cases x with
  | str z =>
    obtain ⟨t, rfl⟩ := r
    cases (show T = "str" from ty)
    exact ⟨typeIs_str s z t, fun _ e => nomatch e⟩
  | int i =>
    obtain ⟨t, rfl⟩ := r
    cases (show T = "int" from ty)
    exact ⟨typeIs_int s i t, fun _ e => nomatch e⟩
  | ref p =>
    cases r
    rcases ty with ⟨rfl, xs, hq⟩ | ⟨rfl, o, hk, hc, hd⟩ | ⟨rfl, hk⟩ | ⟨rfl, S, n, hk⟩
    · obtain ⟨its, _, pl, _⟩ := I.list hq
      refine ⟨pl.isList.typeIs, fun a e => ?_⟩
      cases e
      obtain ⟨o, n, e, c, hd, _⟩ := pl
      exact ⟨o, e, hd⟩
    · refine ⟨⟨o, I.kIn p o hk, hc⟩, fun a e => ?_⟩
      cases e
      exact ⟨o, I.kIn _ o hk, hd⟩
    · have z : ∃ o, s.heap.get? p = some o ∧ o.ExactDict := by
        rcases hk with ⟨kvs, hk⟩ | ⟨kvs, hk⟩
        · obtain ⟨_, _, _, _, o, _, _, e, ex, _⟩ := I.hok p _ hk
          exact ⟨o, e, ex⟩
        · obtain ⟨_, _, _, _, o, _, _, e, ex, _⟩ := I.hok p _ hk
          exact ⟨o, e, ex⟩
      obtain ⟨o, e, ex⟩ := z
      refine ⟨⟨o, e, ex.1⟩, fun a e2 => ?_⟩
      cases e2
      exact ⟨o, e, ex.2.1⟩
    · obtain ⟨o, _, _, _, e, ex, _⟩ := I.hok p _ hk
      refine ⟨⟨o, e, ex.1⟩, fun a e2 => ?_⟩
      cases e2
      exact ⟨o, e, ex.2.1⟩
  | _ => exact False.elim ty
def tBM0 (K : PySem.W.Frag) (T : String) (r : V → List V → Hp → VK → Prop) (to : TE) : TE := fun σ H Q => to σ H fun x H1 => tyV K T x H1 ∧ r x [] H1 Q
def tBM (K : PySem.W.Frag) (T : String) (r : V → List V → Hp → VK → Prop) (to : TE) (t : TA) : TE := fun σ H Q => to σ H fun x H1 => tyV K T x H1 ∧ t σ H1 fun xs H2 => r x xs H2 Q
variable {o e : Expr} {es : List Expr} {to : TE} {t : TA} {name : Str} {apos cpos : Pos} {T id : String} {r : V → List V → Hp → VK → Prop}
theorem pe_bm0 (pa : PlainAttrs T) (slot : Slot T name id) (hty : typeOf (.builtin id) = pure (.type "method_descriptor")) (hm : MtR X id r) (ho : PE X o to)
    (hbase : attributeBase o name X.env (eval o X.env) = eval o X.env := by rfl) (hline : (apos.endLine == cpos.line) = true := by rfl) : PE X (.Call (.Attribute o name apos) [] [] cpos) (tBM0 X.K T r to) := by
  intro pins s σ H Q I h
  refine wpAny_Call_method0_late hbase hline (thn (ho pins s σ H _ I h) fun v s1 ⟨x, H1, I1, r1, ty, q1⟩ => ?_)
  obtain ⟨h1, h2⟩ := tyV_is I1 r1 ty
  exact ⟨T, id, pa, slot, hty, h1, h2, Calls.callWith_builtin rfl (PySem.evalArgs_none (hm pins s1 σ H1 x [] v [] Q I1 r1 .nil q1))⟩
theorem pe_bm (pa : PlainAttrs T) (slot : Slot T name id) (hty : typeOf (.builtin id) = pure (.type "method_descriptor")) (hm : MtR X id r) (ho : PE X o to) (ha : PA X (e :: es) t)
    (hbase : attributeBase o name X.env (eval o X.env) = eval o X.env := by rfl)
    (hfew : ((backTo cpos (starEach (e :: es) X.env)).all (fun x => !x.1) && (backToKw cpos (keywordEach [] X.env)).all (fun x => x.1.isSome)
      && decide ((e :: es).length + ([] : List Keyword).length + (if ([] : List Keyword).isEmpty then 0 else 1) < 30)) = true := by rfl)
    (hline : (apos.endLine == cpos.line) = true := by rfl) (hs : starEach (e :: es) X.env = (false, eval e X.env) :: starEach es X.env := by rfl) (hplain : (backTo cpos (starEach es X.env)).any (·.1) = false := by rfl) :
    PE X (.Call (.Attribute o name apos) (e :: es) [] cpos) (tBM X.K T r to t) := by
  intro pins s σ H Q I h
  refine wpAny_Call_method_late hbase hfew hline rfl (thn (ho pins s σ H _ I h) fun v s1 ⟨x, H1, I1, r1, ty, q1⟩ => ?_)
  obtain ⟨h1, h2⟩ := tyV_is I1 r1 ty
  refine ⟨T, id, pa, slot, hty, h1, h2, ?_⟩
  have hA := ha cpos pins s1 σ H1 _ I1 q1
  rw [hs] at hA ⊢
  refine Calls.callWith_builtin (by show (false || (backTo cpos (starEach es X.env)).any (·.1)) = false; rw [hplain] <;> rfl) (Calls.evalArgs_plain ?_)
  exact thn hA fun us s2 ⟨vs, H2, I2, r2, q2⟩ => hm pins s2 σ H2 x vs v us Q I2 r1 r2 q2
end
end L2
namespace L2
open PySem PySem.Spec PyProof.Rows
def MtM (X : Cx) (id : String) (r : V → List V → Hp → VK → Prop) : Prop :=
  ∀ (pins : List (Addr × Obj)) (s : Shared) (σ : St) (H : Hp) (x : V) (xs : List V) (v : Value) (us : List Value) (Q : VK), Inv X pins σ H s → RelV x v → Vals xs us → r x xs H Q →
    wpAny (model X.prog X.w) X.A (call (.builtin id) (v :: us)) (EP X pins σ Q) X.xe s
theorem Vals.one : ∀ {x : V} {us : List Value}, Vals [x] us → ∃ u, us = [u] ∧ RelV x u
  | _, _, .cons r .nil => ⟨_, rfl, r⟩
theorem Vals.zero : ∀ {us : List Value}, Vals [] us → us = []
  | _, .nil => rfl
theorem Vals.dropLast {xs : List V} {us : List Value} (h : Vals xs us) : Vals xs.dropLast us.dropLast := by
  induction h with
  | nil => exact .nil
  | cons r t ih =>
    cases t with
    | nil => exact .nil
    | cons q t' => exact .cons r ih
theorem Vals.reverse {xs : List V} {us : List Value} (h : Vals xs us) : Vals xs.reverse us.reverse := by
  induction h with
  | nil => exact .nil
  | cons r t ih => rw [List.reverse_cons, List.reverse_cons]; exact Vals.append ih (.cons r .nil)
theorem Vals.rep {xs : List V} {us : List Value} (h : Vals xs us) : ∀ k : Nat, Vals (List.replicate k xs).flatten (List.replicate k us).flatten
  | 0 => .nil
  | k + 1 => by
    rw [List.replicate_succ, List.replicate_succ, List.flatten_cons, List.flatten_cons]
    exact Vals.append h (Vals.rep h k)
theorem erase_last {α : Type} (l : List α) : l.eraseIdx (l.length - 1) = l.dropLast := by
  induction l with
  | nil => rfl
  | cons a r ih =>
    cases r with
    | nil => rfl
    | cons b r =>
      have e : (a :: b :: r).length - 1 = ((b :: r).length - 1) + 1 := by
        have h1 : (a :: b :: r).length = r.length + 2 := rfl
        have h2 : (b :: r).length = r.length + 1 := rfl
        omega
      rw [e, List.eraseIdx_cons_succ, ih]
      all_goals rfl
theorem foldl_rep (its : List Value) : ∀ (k : Nat) (acc : List Value),
    List.foldl (fun x1 x2 => x1 ++ x2) acc.toArray (List.replicate k its.toArray) = (acc ++ (List.replicate k its).flatten).toArray
  | 0, acc => by simp
  | k + 1, acc => by
    have e : acc.toArray ++ its.toArray = (acc ++ its).toArray := by simp
    have e2 : (acc ++ its) ++ (List.replicate k its).flatten = acc ++ (List.replicate (k + 1) its).flatten := by
      rw [List.replicate_succ, List.flatten_cons, List.append_assoc]
    rw [← e2, ← foldl_rep its k (acc ++ its), ← e, List.replicate_succ, List.foldl_cons]
section
variable {X : Cx} {pins : List (Addr × Obj)} {σ : St} {H : Hp} {s : Shared} {l b : Addr} {xs ys zs : List V}
theorem Inv.lset {its its' : List Value} {n : Nat} {f : Array Value → Array Value} {t' : Nat} (I : Inv X pins σ H s) (hH : H l = some (.lst xs))
    (e : s.heap.get? l = some { cls := .type "list", data := .seq its.toArray n }) (hf : f its.toArray = its'.toArray) (hv : Vals ys its') (hz : ys.length ≤ sizeLine) :
    Inv X pins σ (upd H l (.lst ys)) { s with heap := s.heap.update l (Obj.mapSeq f), toks := t' } := by
  have q := PySem.IsL.update e f
  rw [hf] at q
  refine I.write (x := l) (e := l) (by rw [hH]; exact trivial) (.inl rfl) (fun b' u hb hu => (Heap.get?_update_other s.heap (Obj.mapSeq f) (Ne.symm hb)).trans hu) ⟨_, q⟩ ?_
  exact ⟨hz, its', _, hv, q⟩
theorem Inv.lnew {its : List Value} {t' : Nat} (I : Inv X pins σ H s) (hv : Vals ys its) (hz : ys.length ≤ sizeLine) :
    Inv X pins σ (upd H s.heap.objs.size (.lst ys)) { s with heap := s.heap.push { cls := .type "list", data := .seq its.toArray }, toks := t' } :=
  I.laid (fun _ _ q => Heap.get?_push_of_some _ q) (Nat.le_refl _) ⟨hz, its, 0, hv, Heap.get?_push_size _ rfl⟩
theorem Inv.fresh (I : Inv X pins σ H s) : H s.heap.objs.size = none := I.hok.fresh (Nat.le_refl _)
theorem Inv.lstM (I : Inv X pins σ H s) (hH : H l = some (.lst xs)) : xs.length ≤ sizeLine ∧ ∃ (its : List Value) (n : Nat), Vals xs its ∧ xs.length = its.length ∧ s.heap.get? l = some { cls := .type "list", data := .seq its.toArray n } := by
  obtain ⟨z, its, n, r, e⟩ := I.hok l _ hH
  exact ⟨z, its, n, r, r.length, e⟩
theorem notLongL {n : Nat} (h : n ≤ sizeLine) : Builtin.List.listTooLong n = false := by
  unfold Builtin.List.listTooLong
  exact decide_eq_false (by omega)
end
section
variable {X : Cx}
def rAppend : V → List V → Hp → VK → Prop := fun x vs H Q => ∃ l xs y, x = .ref l ∧ vs = [y] ∧ H l = some (.lst xs) ∧ xs.length < sizeLine ∧ Q .non (upd H l (.lst (xs ++ [y])))
theorem mt_append : MtM X "list.append" rAppend := by
  intro pins s σ H x vs v us Q I rx rv h
  obtain ⟨l, xs, y, rfl, rfl, hH, hz, q⟩ := h
  cases rx
  obtain ⟨u, rfl, ru⟩ := rv.one
  obtain ⟨z, its, n, r, hl, e⟩ := I.lstM hH
  refine call_meets F.slot_list_append ⟨_, e, rfl⟩ F.entry_list_append (F.args_list_append_2 _ _) (PySem.list_append l its.toArray n u (by rw [List.size_toArray]; omega)) ⟨e, ?_⟩
  refine ⟨.non, _, I.lset (its' := its ++ [u]) hH e (by simp) (r.append (.cons ru .nil)) ?_, rfl, q⟩
  rw [List.length_append, List.length_singleton]
  omega
def rExtend : V → List V → Hp → VK → Prop := fun x vs H Q => ∃ l b xs zs, x = .ref l ∧ vs = [.ref b] ∧ H l = some (.lst xs) ∧ H b = some (.lst zs) ∧ xs.length + zs.length ≤ sizeLine ∧ Q .non (upd H l (.lst (xs ++ zs)))
theorem mt_extend : MtM X "list.extend" rExtend := by
  intro pins s σ H x vs v us Q I rx rv h
  obtain ⟨l, b, xs, zs, rfl, rfl, hH, hB, hz, q⟩ := h
  cases rx
  obtain ⟨u, rfl, ru⟩ := rv.one
  cases ru
  obtain ⟨z, its, n, r, hl, e⟩ := I.lstM hH
  obtain ⟨z2, its2, n2, r2, hl2, e2⟩ := I.lstM hB
  have hsz : its.toArray.size + its2.toArray.size ≤ sizeLine := by rw [List.size_toArray, List.size_toArray]; omega
  have hlong : ¬ (!its.toArray.isEmpty && Builtin.List.listTooLong (its.toArray.size + its2.toArray.size)) = true := by
    rw [notLongL hsz, Bool.and_false]
    exact Bool.false_ne_true
  refine call_meets F.slot_list_extend ⟨_, e, rfl⟩ F.entry_list_extend (F.args_list_extend_2 _ _)
    (AutoSeq1.list_extend_list_list_0 l its.toArray n b its2.toArray n2 hlong (by rw [List.size_toArray]; omega) (by omega)) ⟨e, e2, ?_⟩
  refine ⟨.non, _, I.lset (its' := its ++ its2) hH e (by simp) (r.append r2) ?_, rfl, q⟩
  rw [List.length_append]
  omega
def rPop : V → List V → Hp → VK → Prop := fun x vs H Q => ∃ l xs y, x = .ref l ∧ vs = [] ∧ H l = some (.lst xs) ∧ xs[xs.length - 1]? = some y ∧ Q y (upd H l (.lst xs.dropLast))
theorem mt_pop : MtM X "list.pop" rPop := by
  intro pins s σ H x vs v us Q I rx rv h
  obtain ⟨l, xs, y, rfl, rfl, hH, hy, q⟩ := h
  cases rx
  have hus := rv.zero
  subst hus
  obtain ⟨z, its, n, r, hl, e⟩ := I.lstM hH
  obtain ⟨u, hu, ru⟩ := r.get hy
  have hy' : its.toArray[its.toArray.size - 1]? = some u := by
    show its.toArray[its.length - 1]? = some u
    rw [← Array.getElem?_toList, ← hl]
    exact hu
  refine call_meets F.slot_list_pop ⟨_, e, rfl⟩ F.entry_list_pop (F.args_list_pop_1 _) (MeetsSeq.list_pop_last l its.toArray n u hy' (by rw [List.size_toArray]; omega)) ⟨e, ?_⟩
  refine ⟨y, _, I.lset (its' := its.dropLast) hH e ?_ r.dropLast ?_, ru, q⟩
  · show its.toArray.eraseIdxIfInBounds (its.toArray.size - 1) = its.dropLast.toArray
    rw [List.size_toArray, List.eraseIdxIfInBounds_toArray, erase_last]
  · rw [List.length_dropLast]
    omega
def rReverse : V → List V → Hp → VK → Prop := fun x vs H Q => ∃ l xs, x = .ref l ∧ vs = [] ∧ H l = some (.lst xs) ∧ Q .non (upd H l (.lst xs.reverse))
theorem mt_reverse : MtM X "list.reverse" rReverse := by
  intro pins s σ H x vs v us Q I rx rv h
  obtain ⟨l, xs, rfl, rfl, hH, q⟩ := h
  cases rx
  have hus := rv.zero
  subst hus
  obtain ⟨z, its, n, r, hl, e⟩ := I.lstM hH
  refine call_meets F.slot_list_reverse ⟨_, e, rfl⟩ F.entry_list_reverse (F.args_list_reverse_1 _) (AutoSeq1.list_reverse_list_0 l its.toArray n (by rw [List.size_toArray]; omega)) ⟨e, ?_⟩
  refine ⟨.non, _, I.lset (its' := its.reverse) hH e (by simp) r.reverse ?_, rfl, q⟩
  rw [List.length_reverse]
  omega
def rClear : V → List V → Hp → VK → Prop := fun x vs H Q => ∃ l xs, x = .ref l ∧ vs = [] ∧ H l = some (.lst xs) ∧ Q .non (upd H l (.lst []))
theorem mt_clear : MtM X "list.clear" rClear := by
  intro pins s σ H x vs v us Q I rx rv h
  obtain ⟨l, xs, rfl, rfl, hH, q⟩ := h
  cases rx
  have hus := rv.zero
  subst hus
  obtain ⟨z, its, n, r, hl, e⟩ := I.lstM hH
  refine call_meets F.slot_list_clear ⟨_, e, rfl⟩ F.entry_list_clear (F.args_list_clear_1 _) (AutoSeq1.list_clear_list_0 l its.toArray n (by rw [List.size_toArray]; omega)) ⟨e, ?_⟩
  exact ⟨.non, _, I.lset (its' := []) (ys := []) hH e rfl .nil (Nat.zero_le _), rfl, q⟩
def rCat : R2 := fun x y H Q => ∃ l b xs zs, x = .ref l ∧ y = .ref b ∧ H l = some (.lst xs) ∧ H b = some (.lst zs) ∧ xs.length + zs.length ≤ sizeLine ∧ ∀ p, H p = none → Q (.ref p) (upd H p (.lst (xs ++ zs)))
theorem op_cat : OpR X (binaryOp .Add) rCat := by
  intro pins s σ H x y v u Q I rx ry h
  obtain ⟨l, b, xs, zs, rfl, rfl, hH, hB, hz, q⟩ := h
  cases rx
  cases ry
  obtain ⟨z, its, n, r, hl, e⟩ := I.lstM hH
  obtain ⟨z2, its2, n2, r2, hl2, e2⟩ := I.lstM hB
  refine PySem.P.add_list e e2 ?_ (by rw [List.size_toArray, List.size_toArray]; omega)
  have ea : its.toArray ++ its2.toArray = (its ++ its2).toArray := by simp
  rw [ea]
  exact ⟨.ref _, _, I.lnew (t' := s.toks) (r.append r2) (by rw [List.length_append]; omega), rfl, q _ I.fresh⟩
def rRep : R2 := fun x y H Q => ∃ l k xs, x = .ref l ∧ y = .int k ∧ H l = some (.lst xs) ∧ -(2 ^ 63) ≤ k ∧ k < 2 ^ 63 ∧ xs.length * k.toNat ≤ sizeLine ∧
  ∀ p, H p = none → Q (.ref p) (upd H p (.lst (List.replicate k.toNat xs).flatten))
theorem len_rep {α : Type} (xs : List α) (k : Nat) : (List.replicate k xs).flatten.length = k * xs.length := by
  induction k with
  | zero => simp
  | succ k ih => rw [List.replicate_succ, List.flatten_cons, List.length_append, ih, Nat.succ_mul, Nat.add_comm]
theorem op_rep : OpR X (binaryOp .Mult) rRep := by
  intro pins s σ H x y v u Q I rx ry h
  obtain ⟨l, k, xs, rfl, rfl, hH, h1, h2, hz, q⟩ := h
  cases rx
  obtain ⟨t, rfl⟩ := ry
  obtain ⟨z, its, n, r, hl, e⟩ := I.lstM hH
  have hlen : its.toArray.size * k.toNat ≤ sizeLine := by rw [List.size_toArray, ← hl]; exact hz
  have hcap : ¬ its.toArray.size * k.toNat > (2 ^ 63 - 1) / 8 := by
    have : (sizeLine : Nat) ≤ (2 ^ 63 - 1) / 8 := by decide
    omega
  have hfit : ¬ (!Builtin.List.listFitsIndex k) = true := by
    rw [fitsIndex_both h1 h2]
    exact Bool.false_ne_true
  have hlong : ¬ Builtin.List.listTooLong (its.toArray.size * k.toNat) = true := by
    rw [notLongL hlen]
    exact Bool.false_ne_true
  have hnew : List.foldl (fun x1 x2 => x1 ++ x2) #[] (List.replicate (if its.toArray.isEmpty = true then 0 else k.toNat) its.toArray) = (List.replicate k.toNat its).flatten.toArray := by
    have f0 : ∀ m : Nat, List.foldl (fun x1 x2 => x1 ++ x2) #[] (List.replicate m its.toArray) = (List.replicate m its).flatten.toArray := fun m => by
      have := foldl_rep its m []
      rw [List.nil_append] at this
      exact this
    rw [f0]
    cases its with
    | nil => simp
    | cons a r' => rw [if_neg (by simp)]
  refine wpAny_binaryOp_repeat_ref (T := "list") (U := "int") (by decide) ⟨_, e, rfl⟩ (fun s' => typeIs_int s' k t) noFill_list_mul F.fills_int_mul F.slot_int_rmul repeat_list F.slot_int_index.lookup
    (call_meets F.slot_int_rmul (typeIs_int s k t) F.entry_int_rmul (F.args_int_rmul_2 _ _) (int___rmul___int_list k t l its.toArray n)
      ⟨e, rfl, ⟨_, e, rfl⟩, call_meets F.slot_list_mul ⟨_, e, rfl⟩ F.entry_list_mul (F.args_list_mul_2 _ _) (AutoListH.list___mul___list_int_3 l its.toArray n k t hfit hcap hlong) ⟨e, ?_⟩⟩)
  rw [hnew]
  exact ⟨.ref _, _, I.lnew (t' := s.toks) (r.rep k.toNat) (by rw [len_rep, Nat.mul_comm]; exact hz), rfl, q _ I.fresh⟩
end
section
variable {prog : Program} {w : World} {A : Around} {E : Value → Shared → Prop} {s : Shared}
set_option maxRecDepth 100000 in
end
section
variable {X : Cx}
end
end L2
namespace L2
open PySem PySem.Spec PyProof.Rows
theorem Vals.bls : ∀ {bs : List Bool} {us : List Value}, Vals (bs.map V.bl) us → us = bs.map Value.bool
  | [], us, h => by
    rw [List.map_nil] at h
    cases h
    rfl
  | b :: bs, us, h => by
    rw [List.map_cons] at h
    cases h with
    | cons r t =>
      cases r
      rw [Vals.bls t, List.map_cons]
theorem Vals.ref1 {a : Addr} {us : List Value} (r : Vals [V.ref a] us) : us = [Value.ref a] := by
  cases r with
  | cons r t =>
    cases t
    cases r
    rfl
section
variable {prog : Program} {w : World} {A : Around} {E : Value → Shared → Prop} {s : Shared} {l : Addr} {its : List Value} {ns : List Int} {Q : Value → Shared → Prop}
end
section
variable {X : Cx}
end
section
variable {X : Cx}
end
section
variable {X : Cx}
end
theorem iter_any {prog : Program} {w : World} {A : Around} {E : Value → Shared → Prop} {s : Shared} {l : Addr} {items : Array Value} {Q : Value → Shared → Prop} (hl : s.heap.IsList l items)
    (h : ∀ s₂ : Shared, s₂ = { s with heap := s.heap.push { cls := .type "list_iterator", data := .fields #[.ref l, .int 0 0] } } →
      (s₂.heap.IsListIter s.heap.objs.size l 0 ∧ s₂.heap.IsList l items) → l ≠ s.heap.objs.size → Q (.ref s.heap.objs.size) s₂) : wpAny (model prog w) A (pyIter (.ref l)) Q E s := by
  have hlt : l < s.heap.objs.size := by obtain ⟨_, e, _⟩ := hl; exact Heap.lt_size e
  exact wpAny_pyIter_list hl (h _ rfl ⟨⟨_, Heap.get?_push_size _ rfl, rfl, rfl⟩, hl.push _⟩ (Nat.ne_of_lt hlt))
theorem truth_bools {prog : Program} {w : World} {A : Around} {bs : List Bool} {its : List Value} (e : its = bs.map Value.bool) :
    TruthOf prog w A (fun i v => its.toArray[i]? = some v) (fun i => bs.getD i false) := fun i v s Q E hv hq => by
  have hv' : its[i]? = some v := by simpa using hv
  rw [e, List.getElem?_map] at hv'
  obtain ⟨b, hb, rfl⟩ := Option.map_eq_some_iff.mp hv'
  have hg : bs.getD i false = b := by rw [List.getD_eq_getElem?_getD, hb] <;> rfl
  have hq' : Q (bs.getD i false) s := hq
  rw [hg] at hq'
  exact wpAny_truthy_bool hq'
theorem any_range : ∀ bs : List Bool, (List.range bs.length).any (fun i => bs.getD i false) = bs.any id
  | [] => rfl
  | b :: bs => by
    rw [List.length_cons, List.range_succ_eq_map, List.any_cons, List.any_map, List.any_cons, ← any_range bs]
    all_goals rfl
theorem all_range : ∀ bs : List Bool, (List.range bs.length).all (fun i => bs.getD i false) = bs.all id
  | [] => rfl
  | b :: bs => by
    rw [List.length_cons, List.range_succ_eq_map, List.all_cons, List.all_map, List.all_cons, ← all_range bs]
    all_goals rfl
section
variable {X : Cx}
def rAny (K : PySem.W.Frag) : List V → Hp → VK → Prop := fun vs H Q => ∃ (a : Addr) (bs : List Bool), vs = [V.ref a] ∧ SqL K H a (bs.map V.bl) ∧ Q (.bl (bs.any id)) H
def rAll (K : PySem.W.Frag) : List V → Hp → VK → Prop := fun vs H Q => ∃ (a : Addr) (bs : List Bool), vs = [V.ref a] ∧ SqL K H a (bs.map V.bl) ∧ Q (.bl (bs.all id)) H
theorem cr_any (hc : X.calm = true) : CallR X (.builtin "any") (rAny X.K) := by
  intro pins s σ H vs us Q I r h
  obtain ⟨a, bs, rfl, hs, q⟩ := h
  obtain ⟨its, rv, hl, _⟩ := I.list hs
  rw [Vals.ref1 r]
  have hb := rv.bls
  refine call_any_walk (iter_any hl.isList fun s₂ e2 st hne => ?_)
  subst e2
  refine ⟨_, _, _, _, _, _, _, rfl, Walks.list (A := X.A.in1) (I.ok.hd hc) _ a hne its.toArray, st, truth_bools hb, fun h' tk hk => ?_⟩
  refine ⟨.bl _, H, I.kept fun b o eo => hk b o (fun hmem => ?_) (Heap.get?_push_of_some _ eo), ?_, q⟩
  · rcases List.mem_cons.mp hmem with e1 | hmem
    · exact absurd (e1 ▸ Heap.lt_size eo) (Nat.lt_irrefl _)
    · cases hmem
  · show Value.bool _ = Value.bool _
    rw [← any_range, hb, List.size_toArray, List.length_map]
theorem cr_all (hc : X.calm = true) : CallR X (.builtin "all") (rAll X.K) := by
  intro pins s σ H vs us Q I r h
  obtain ⟨a, bs, rfl, hs, q⟩ := h
  obtain ⟨its, rv, hl, _⟩ := I.list hs
  rw [Vals.ref1 r]
  have hb := rv.bls
  refine call_all_walk (iter_any hl.isList fun s₂ e2 st hne => ?_)
  subst e2
  refine ⟨_, _, _, _, _, _, _, rfl, Walks.list (A := X.A.in1) (I.ok.hd hc) _ a hne its.toArray, st, truth_bools hb, fun h' tk hk => ?_⟩
  refine ⟨.bl _, H, I.kept fun b o eo => hk b o (fun hmem => ?_) (Heap.get?_push_of_some _ eo), ?_, q⟩
  · rcases List.mem_cons.mp hmem with e1 | hmem
    · exact absurd (e1 ▸ Heap.lt_size eo) (Nat.lt_irrefl _)
    · cases hmem
  · show Value.bool _ = Value.bool _
    rw [← all_range, hb, List.size_toArray, List.length_map]
end
mutual
inductive Dp (K : PySem.W.Frag) (H : Hp) : V → PyData → Prop
  | non : Dp K H .non .none
  | bl (b : Bool) : Dp K H (.bl b) (.bool b)
  | int (i : Int) : Dp K H (.int i) (.int i)
  | str (x : Str) : Dp K H (.str x) (.str x)
  | lst {a : Addr} {xs : List V} {ds : List PyData} : SqL K H a xs → DpAll K H xs ds → Dp K H (.ref a) (.list ds)
  | tup {a : Addr} {xs : List V} {ds : List PyData} : SqT K H a xs → DpAll K H xs ds → Dp K H (.ref a) (.tuple ds)
inductive DpAll (K : PySem.W.Frag) (H : Hp) : List V → List PyData → Prop
  | nil : DpAll K H [] []
  | cons {v : V} {vs : List V} {d : PyData} {ds : List PyData} : Dp K H v d → DpAll K H vs ds → DpAll K H (v :: vs) (d :: ds)
end
section
variable {X : Cx} {pins : List (Addr × Obj)} {σ : St} {H : Hp} {s : Shared}
end
section
variable {X : Cx}
end
end L2
namespace L2
open PySem PySem.Spec PyProof.Rows
abbrev CellAt (h : Heap) (c : Addr) (v : Option Value) : Prop := h.IsCell c v
def relS (scope sc : Scope) : Scope :=
  { scope with names := scope.names.map fun (n, k) => if (k == .free && sc.kind == .function && sc.names.lookup n == some .cell) then (n, .cell) else (n, k) }
def cloFrom (cells : List (Str × Addr)) : List (Str × NameKind) → List (Str × Addr) → List (Str × Addr)
  | [], acc => acc
  | (n, k) :: r, acc => if k == .free then cloFrom cells r ((n, (cells.lookup n).getD 0) :: acc) else cloFrom cells r acc
theorem closure_loop (env : Env) (f : Str × NameKind → List (Str × Addr) → Sem (ForInStep (List (Str × Addr))))
    (hf : ∀ n k c, f (n, k) c = if k == .free then (do let a ← cellOf env n; pure (.yield ((n, a) :: c))) else pure (.yield c)) :
    ∀ (names : List (Str × NameKind)) (acc : List (Str × Addr)), (∀ y ∈ names, y.2 = .free → ∃ c, env.cells.lookup y.1 = some c) → forIn names acc f = pure (cloFrom env.cells names acc)
  | [], acc, _ => by rw [List.forIn_nil]; rfl
  | (n, k) :: r, acc, h => by
    rw [List.forIn_cons, hf]
    have ih := fun acc => closure_loop env f hf r acc fun y hy => h y (List.mem_cons_of_mem _ hy)
    unfold cloFrom
    by_cases hk : (k == NameKind.free) = true
    · rw [if_pos hk, if_pos hk]
      obtain ⟨c, hc⟩ := h (n, k) List.mem_cons_self (by simpa using hk)
      have e : cellOf env n = pure c := by unfold cellOf; rw [hc]
      rw [e]
      have e2 : (env.cells.lookup n).getD 0 = c := by rw [hc]; rfl
      rw [e2]
      exact ih _
    · rw [if_neg hk, if_neg hk]
      exact ih _
theorem closure_ok {scope : Scope} {env : Env} (h : ∀ y ∈ scope.names, y.2 = .free → ∃ c, env.cells.lookup y.1 = some c) : closureFor scope env = pure (cloFrom env.cells scope.names []) := by
  simp only [closureFor]
  rw [closure_loop env _ (fun n k c => rfl) scope.names [] h]
  rfl
theorem mem_lookup {α : Type} : ∀ {l : List (Str × α)} {n : Str} {c : α}, (n, c) ∈ l → ∃ c', l.lookup n = some c'
  | (k, v) :: r, n, c, h => by
    rw [List.lookup_cons]
    cases hb : n == k with
    | true => exact ⟨_, rfl⟩
    | false =>
      rcases List.mem_cons.mp h with e | h
      · cases e; simp at hb
      · exact mem_lookup h
theorem cloFrom_mem {cells : List (Str × Addr)} : ∀ {names : List (Str × NameKind)} {acc : List (Str × Addr)} {n : Str} {c : Addr}, (n, c) ∈ cloFrom cells names acc → (n, c) ∈ acc ∨ ((n, .free) ∈ names ∧ c = (cells.lookup n).getD 0)
  | [], _, _, _, h => .inl h
  | (m, k) :: r, acc, n, c, h => by
    unfold cloFrom at h
    split at h
    · rename_i hk
      have hk : k = .free := by simpa using hk
      rcases cloFrom_mem h with h | ⟨h1, h2⟩
      · rcases List.mem_cons.mp h with e | h
        · cases e; exact .inr ⟨hk ▸ List.mem_cons_self, rfl⟩
        · exact .inl h
      · exact .inr ⟨List.mem_cons_of_mem _ h1, h2⟩
    · rcases cloFrom_mem h with h | ⟨h1, h2⟩
      · exact .inl h
      · exact .inr ⟨List.mem_cons_of_mem _ h1, h2⟩
theorem cloFrom_acc {cells : List (Str × Addr)} : ∀ {names : List (Str × NameKind)} {acc : List (Str × Addr)} {p : Str × Addr}, p ∈ acc → p ∈ cloFrom cells names acc
  | [], _, _, h => h
  | (m, k) :: r, acc, p, h => by
    unfold cloFrom
    split
    · exact cloFrom_acc (List.mem_cons_of_mem _ h)
    · exact cloFrom_acc h
theorem cloFrom_has {cells : List (Str × Addr)} : ∀ {names : List (Str × NameKind)} {acc : List (Str × Addr)} {n : Str}, (n, .free) ∈ names → (n, (cells.lookup n).getD 0) ∈ cloFrom cells names acc
  | (m, k) :: r, acc, n, h => by
    unfold cloFrom
    rcases List.mem_cons.mp h with e | h
    · cases e
      exact cloFrom_acc List.mem_cons_self
    · split
      · exact cloFrom_has h
      · exact cloFrom_has h
theorem cells_mem : ∀ {names : List (Str × NameKind)} {h : Heap} {acc : List (Str × Addr)} {x : Str} {c : Addr}, (x, c) ∈ cellsFrom h.objs.size names acc →
    (x, c) ∈ acc ∨ ((x, .cell) ∈ names ∧ h.objs.size ≤ c ∧ CellAt (pushCells h names) c none)
  | [], _, _, _, _, h => .inl h
  | (n, k) :: r, h, acc, x, c, hm => by
    unfold cellsFrom at hm
    unfold pushCells
    split at hm
    · rename_i hk
      rw [if_pos hk]
      have hk : k = .cell := by simpa using hk
      rw [← Heap.size_push h { cls := .type "cell", data := .cell none }] at hm
      rcases cells_mem hm with hm | ⟨h1, h2, h3⟩
      · rcases List.mem_cons.mp hm with e | hm
        · cases e
          exact .inr ⟨hk ▸ List.mem_cons_self, Nat.le_refl _, _, pushCells_keeps r _ _ _ (Heap.get?_push_size _ rfl), rfl⟩
        · exact .inl hm
      · rw [Heap.size_push] at h2
        exact .inr ⟨List.mem_cons_of_mem _ h1, Nat.le_of_succ_le h2, h3⟩
    · rename_i hk
      rw [if_neg hk]
      rcases cells_mem hm with hm | ⟨h1, h2, h3⟩
      · exact .inl hm
      · exact .inr ⟨List.mem_cons_of_mem _ h1, h2, h3⟩
theorem cells_acc : ∀ {names : List (Str × NameKind)} {n : Nat} {acc : List (Str × Addr)} {p : Str × Addr}, p ∈ acc → p ∈ cellsFrom n names acc
  | [], _, _, _, h => h
  | (m, k) :: r, n, acc, p, h => by
    unfold cellsFrom
    split
    · exact cells_acc (List.mem_cons_of_mem _ h)
    · exact cells_acc h
theorem cells_has : ∀ {names : List (Str × NameKind)} {n : Nat} {acc : List (Str × Addr)} {x : Str}, (x, .cell) ∈ names → ∃ c, (x, c) ∈ cellsFrom n names acc
  | (m, k) :: r, n, acc, x, h => by
    unfold cellsFrom
    rcases List.mem_cons.mp h with e | h
    · cases e
      exact ⟨n, cells_acc List.mem_cons_self⟩
    · split
      · exact cells_has h
      · exact cells_has h
theorem cells_inj : ∀ {names : List (Str × NameKind)} {h : Heap} {acc : List (Str × Addr)} {x y : Str} {c : Addr}, (∀ p ∈ acc, p.2 < h.objs.size) → (∀ x y c, (x, c) ∈ acc → (y, c) ∈ acc → x = y) →
    (x, c) ∈ cellsFrom h.objs.size names acc → (y, c) ∈ cellsFrom h.objs.size names acc → x = y
  | [], _, _, _, _, _, _, hi, h1, h2 => hi _ _ _ h1 h2
  | (n, k) :: r, h, acc, x, y, c, hl, hi, h1, h2 => by
    unfold cellsFrom at h1 h2
    split at h1
    · rename_i hk
      rw [if_pos hk] at h2
      rw [← Heap.size_push h { cls := .type "cell", data := .cell none }] at h1 h2
      refine cells_inj (h := h.push _) (fun p hp => ?_) (fun x y c a b => ?_) h1 h2
      · rw [Heap.size_push]
        rcases List.mem_cons.mp hp with rfl | hp
        · exact Nat.lt_succ_self _
        · exact Nat.lt_succ_of_lt (hl p hp)
      · rcases List.mem_cons.mp a with e | a <;> rcases List.mem_cons.mp b with e' | b
        · cases e; cases e'; rfl
        · cases e; exact absurd (hl _ b) (Nat.lt_irrefl _)
        · cases e'; exact absurd (hl _ a) (Nat.lt_irrefl _)
        · exact hi _ _ _ a b
    · rename_i hk
      rw [if_neg hk] at h2
      exact cells_inj hl hi h1 h2
theorem newEnv_comp {M : Model} {A : Around} {E : Value → Shared → Prop} {s : Shared} {scope : Scope} {globals : Addr} {closure : List (Str × Addr)} {qual : Str} {func : Option Addr} {code : Value} {around : Env} {builtins : Addr} {Q : Env → Shared → Prop}
    (h : Q (newEnv scope s.heap.objs.size globals (cellsFrom (s.heap.objs.size + 1) scope.names closure) qual func code (some around) builtins)
      { s with heap := pushCells (s.heap.push { cls := .type "dict", data := .dict #[] }) scope.names }) :
    wpAny M A (newFunctionEnv scope globals closure [] qual func code (some around) builtins) Q E s := by
  simp only [newFunctionEnv, Option.isSome_some, if_true]
  refine wpAny_bind (wpAny_alloc ?_)
  refine wpAny_bind (wpAny_layCells _ (fun n k c => rfl) scope.names closure _ _ ?_)
  rw [show ({ s with heap := s.heap.push { cls := .type "dict", data := .dict #[] } } : Shared).heap.objs.size = s.heap.objs.size + 1 from Heap.size_push ..]
  rw [List.forIn_nil]
  exact wpAny_bind (wpAny_pure (wpAny_pure h))
theorem lookup_relS {sc : Scope} : ∀ {names : List (Str × NameKind)} {x : Str} {k : NameKind},
    (names.map fun (n, k) => if (k == NameKind.free && sc.kind == .function && sc.names.lookup n == some .cell) then (n, NameKind.cell) else (n, k)).lookup x = some k →
    ∃ k', names.lookup x = some k' ∧ (k = k' ∨ (k' = .free ∧ k = .cell))
  | [], _, _, h => by simp at h
  | (n, k₀) :: r, x, k, h => by
    have ih := @lookup_relS sc r x k
    have h' : List.lookup x ((if (k₀ == NameKind.free && sc.kind == .function && sc.names.lookup n == some .cell) = true then (n, NameKind.cell) else (n, k₀)) :: (r.map _)) = some k := h
    cases hx : x == n with
    | true =>
      simp only [List.lookup_cons, hx]
      by_cases hc : (k₀ == NameKind.free && sc.kind == .function && sc.names.lookup n == some .cell) = true
      · rw [if_pos hc] at h'
        simp only [List.lookup_cons, hx] at h'
        cases h'
        simp only [Bool.and_eq_true, beq_iff_eq] at hc
        exact ⟨k₀, rfl, .inr ⟨hc.1.1, rfl⟩⟩
      · rw [if_neg hc] at h'
        simp only [List.lookup_cons, hx] at h'
        cases h'
        exact ⟨_, rfl, .inl rfl⟩
    | false =>
      simp only [List.lookup_cons, hx]
      by_cases hc : (k₀ == NameKind.free && sc.kind == .function && sc.names.lookup n == some .cell) = true
      · rw [if_pos hc] at h'
        simp only [List.lookup_cons, hx] at h'
        exact ih h'
      · rw [if_neg hc] at h'
        simp only [List.lookup_cons, hx] at h'
        exact ih h'
structure BlkOk (N : List Str) (sc scope : Scope) (own : List (Str × Nat)) : Prop where
  kind : scope.kind = .function
  uniq : ∀ y ∈ scope.names, scope.names.lookup y.1 = some y.2
  ix : ∀ p ∈ own, N[p.2]? = some p.1
  free : ∀ y ∈ scope.names, y.2 = .free → sc.names.lookup y.1 = some .cell ∨ sc.names.lookup y.1 = some .free
  own : ∀ y ∈ scope.names, y.2 = .local ∨ y.2 = .cell → y.1 ∈ own.map (·.1) ∨ y.1 ∉ N
def wipe (σ : St) : List Nat → St
  | [] => σ
  | v :: vs => (wipe σ vs).set v none
theorem wipe_length (σ : St) : ∀ vs : List Nat, (wipe σ vs).length = σ.length
  | [] => rfl
  | v :: vs => by unfold wipe; rw [List.length_set, wipe_length σ vs]
theorem wipe_some {σ : St} {i : Nat} {x : V} : ∀ {vs : List Nat}, (wipe σ vs)[i]? = some (some x) → σ[i]? = some (some x) ∧ i ∉ vs
  | [], h => ⟨h, by simp⟩
  | v :: vs, h => by
    unfold wipe at h
    by_cases hi : v = i
    · subst hi
      by_cases hv : v < (wipe σ vs).length
      · rw [List.getElem?_set_self hv] at h; cases h
      · rw [List.getElem?_eq_none (by simpa using hv)] at h; cases h
    · rw [List.getElem?_set_ne hi] at h
      obtain ⟨h1, h2⟩ := wipe_some h
      exact ⟨h1, by simp only [List.mem_cons, not_or]; exact ⟨fun e => hi e.symm, h2⟩⟩
abbrev Cx.blk (X : Cx) (s : Shared) (H : Hp) (scope : Scope) (cenv : Env) (fp : List Addr) : Cx := { X with s_0 := s, H_0 := H, env := cenv, outer := X.stack, ex := fp, fn := fun x => scope.names.lookup x == some .cell, pn := [], xe := fun _ _ => False }
section
variable {X : Cx} {pins : List (Addr × Obj)} {σ : St} {H : Hp} {s : Shared}
theorem block_start {scope : Scope} {own : List (Str × Nat)} {fp : List Addr} (I : Inv X pins σ H s) (ok : BlkOk X.N X.env.scope scope own) (hN : X.N.Nodup) (hfp : ∀ b ∈ fp, FpOk X pins H b ∧ b < s.heap.objs.size) :
    Inv (X.blk s H scope (compEnvC scope (cellsFrom (s.heap.objs.size + 1) scope.names (cloFrom X.env.cells scope.names [])) s.heap.objs.size X.env) fp) [] (wipe σ (own.map (·.2))) H { s with heap := pushCells (s.heap.push { cls := .type "dict", data := .dict #[] }) scope.names } := by
  have hfree : ∀ y ∈ scope.names, y.2 = .free → ∃ c, X.env.cells.lookup y.1 = some c := fun y hy e => by
    rcases ok.free y hy e with k | k
    · exact I.ok.has _ (.inl k)
    · exact I.ok.has _ (.inr k)
  generalize hcenv : compEnvC scope (cellsFrom (s.heap.objs.size + 1) scope.names (cloFrom X.env.cells scope.names [])) s.heap.objs.size X.env = cenv
  have kp : ∀ b o, s.heap.get? b = some o → (pushCells (s.heap.push { cls := .type "dict", data := .dict #[] }) scope.names).get? b = some o := fun b o e => pushCells_keeps _ _ _ _ (Heap.get?_push_of_some _ e)
  have hL : cenv.locals = s.heap.objs.size := by rw [← hcenv]; rfl
  have hcl : cenv.cells = cellsFrom (s.heap.objs.size + 1) scope.names (cloFrom X.env.cells scope.names []) := by rw [← hcenv]; rfl
  have hsc : cenv.scope = relS scope X.env.scope := by rw [← hcenv]; rfl
  rw [← Heap.size_push s.heap { cls := .type "dict", data := .dict #[] }] at hcl
  have cm : ∀ {y c}, (y, c) ∈ cloFrom X.env.cells scope.names [] → X.env.cells.lookup y = some c ∧ c < s.heap.objs.size := fun {y c} hm => by
    rcases cloFrom_mem hm with hm | ⟨h1, rfl⟩
    · cases hm
    · obtain ⟨c, hc⟩ := hfree _ h1 rfl
      rw [hc]
      obtain ⟨w, z⟩ := I.cell _ _ hc
      exact ⟨rfl, z.lt⟩
  have mem : ∀ {y c}, cenv.cells.lookup y = some c → (X.env.cells.lookup y = some c ∧ c < s.heap.objs.size) ∨ (s.heap.objs.size + 1 ≤ c ∧ CellAt (pushCells (s.heap.push { cls := .type "dict", data := .dict #[] }) scope.names) c none) := fun {y c} e => by
    rw [hcl] at e
    rcases cells_mem (PySem.mem_of_lookup e) with hm | ⟨_, h2, h3⟩
    · exact .inl (cm hm)
    · rw [Heap.size_push] at h2; exact .inr ⟨h2, h3⟩
  have look : ∀ {y}, scope.names.lookup y = some .free → ∃ c, cenv.cells.lookup y = some c ∧ X.env.cells.lookup y = some c := fun {y} hl => by
    have hy : (y, NameKind.free) ∈ scope.names := PySem.mem_of_lookup hl
    obtain ⟨c', e'⟩ := mem_lookup (cells_acc (names := scope.names) (n := (s.heap.push { cls := .type "dict", data := .dict #[] }).objs.size) (cloFrom_has (cells := X.env.cells) (acc := []) hy))
    rw [← hcl] at e'
    refine ⟨c', e', ?_⟩
    rw [hcl] at e'
    rcases cells_mem (PySem.mem_of_lookup e') with hm | ⟨h1, _, _⟩
    · exact (cm hm).1
    · have := ok.uniq _ h1
      rw [hl] at this; cases this
  have okB : (X.blk s H scope cenv fp).Ok := by
    refine ⟨I.ok.mod, by show cenv.scope.kind = _; rw [hsc]; exact ok.kind, by show cenv.globals = _; rw [← hcenv]; exact I.ok.glob, by show cenv.builtins = _; rw [← hcenv]; exact I.ok.blt, by show s.heap.objs.size ≤ cenv.locals; rw [hL]; exact Nat.le_refl _,
      fun y z c e1 e2 => ?_, fun y hy => ?_, fun y c z e => ?_, I.ok.hd, I.ok.frames, .inl rfl, fun b hb => ⟨?_, fun y c e z => ?_⟩, I.bs, Nat.le_trans I.ok.bsz I.sz, fun b o e hb => ?_, fun b hb z => ?_, I.stack, I.stkFree⟩
    · have e1 : cenv.cells.lookup y = some c := e1
      have e2 : cenv.cells.lookup z = some c := e2
      rw [hcl] at e1 e2
      refine cells_inj (fun p hp => ?_) (fun y z c a b => I.ok.inj y z c (cm a).1 (cm b).1) (PySem.mem_of_lookup e1) (PySem.mem_of_lookup e2)
      rw [Heap.size_push]
      exact Nat.lt_succ_of_lt (cm (y := p.1) (c := p.2) hp).2
    · show ∃ c, cenv.cells.lookup y = some c
      have key : ∀ k, cenv.kindOf y = some k → (k = .cell ∨ k = .free) → ∃ c, cenv.cells.lookup y = some c := fun k hk hk' => by
        unfold Env.kindOf at hk
        rw [hsc] at hk
        obtain ⟨k', e, r⟩ := lookup_relS hk
        have : k' = .cell ∨ k' = .free := by
          rcases r with rfl | ⟨rfl, _⟩
          · exact hk'
          · exact .inr rfl
        rcases this with rfl | rfl
        · obtain ⟨c, hm⟩ := cells_has (n := (s.heap.push { cls := .type "dict", data := .dict #[] }).objs.size) (acc := cloFrom X.env.cells scope.names []) (PySem.mem_of_lookup e)
          obtain ⟨c', e'⟩ := mem_lookup hm
          exact ⟨c', by rw [hcl]; exact e'⟩
        · obtain ⟨c, h1, _⟩ := look e
          exact ⟨c, h1⟩
      rcases hy with hy | hy
      · exact key _ hy (.inl rfl)
      · exact key _ hy (.inr rfl)
    · have z : (scope.names.lookup y == some NameKind.cell) = true := z
      have z : scope.names.lookup y = some .cell := by simpa using z
      have e : cenv.cells.lookup y = some c := e
      rw [hcl] at e
      rcases cells_mem (PySem.mem_of_lookup e) with hm | ⟨_, h2, _⟩
      · rcases cloFrom_mem hm with hm | ⟨h1, _⟩
        · cases hm
        · have q := ok.uniq _ h1
          rw [z] at q; cases q
      · rw [Heap.size_push] at h2
        exact Nat.le_of_succ_le h2
    · show b ≠ cenv.locals
      rw [hL]; exact Nat.ne_of_lt (hfp b hb).2
    · have e : cenv.cells.lookup y = some c := e
      rcases mem e with ⟨h1, _⟩ | ⟨h1, _⟩
      · exact (hfp b hb).1.2.2.2.2.1 y c h1 z
      · have h2 : s.heap.objs.size + 1 ≤ b := by rw [← z]; exact h1
        exact absurd (Nat.lt_of_lt_of_le (hfp b hb).2 (Nat.le_of_succ_le h2)) (Nat.lt_irrefl _)
    · rcases (hfp b hb).1.2.2.2.1 with z | z
      · exact I.ok.noex b o e z
      · exact absurd (Nat.lt_of_lt_of_le (Heap.lt_size e) (Nat.le_trans I.ok.bsz z)) (Nat.lt_irrefl _)
    · rcases List.mem_cons.mp (I.stkSub b z) with z | z
      · exact (hfp b hb).1.2.1 z
      · exact (hfp b hb).1.2.2.1 z
  refine ⟨okB, rfl, I.bare, Un.kept kp, ⟨fun _ => none, ?_, fun i y av e1 e2 e3 => ?_⟩, fun y c e => ?_, ?_, fun y c e => ?_, fun p hp => ?_, I.hok.kept kp, by rw [wipe_length]; exact I.len⟩
  · show Heap.Ns _ cenv.locals _
    rw [hL]
    exact Heap.Ns.keeps (Heap.Ns.new ..) fun b o e => pushCells_keeps _ _ _ _ e
  · obtain ⟨e2, hne⟩ := wipe_some e2
    have hfr : scope.names.lookup y = some .free ∧ (cenv.kindOf y = some .cell ∨ cenv.kindOf y = some .free) := by
      have key : ∀ k, cenv.scope.names.lookup y = some k → k = .local ∨ k = .cell ∨ k = .free → scope.names.lookup y = some .free ∧ (cenv.kindOf y = some .cell ∨ cenv.kindOf y = some .free) := fun k hk hk' => by
        have hk0 := hk
        rw [hsc] at hk
        obtain ⟨k', e, r⟩ := lookup_relS hk
        have no : ¬ (k' = .local ∨ k' = .cell) := fun hh => by
          rcases ok.own _ (PySem.mem_of_lookup e) hh with e' | e'
          · obtain ⟨p, hp, hpy⟩ := List.mem_map.mp e'
            have e3 := ok.ix p hp
            have : p.1 = y := hpy
            rw [this] at e3
            exact hne (List.mem_map.mpr ⟨p, hp, nodup_ix hN e3 e1⟩)
          · exact e' (List.mem_of_getElem? e1)
        rcases r with rfl | ⟨rfl, rfl⟩
        · rcases hk' with rfl | rfl | rfl
          · exact absurd (.inl rfl) no
          · exact absurd (.inr rfl) no
          · exact ⟨e, .inr hk0⟩
        · exact ⟨e, .inl hk0⟩
      have e3 : Vis cenv.scope y := e3
      rcases e3 with e3 | e3 | e3
      · exact key _ e3 (.inl rfl)
      · exact key _ e3 (.inr (.inl rfl))
      · exact key _ e3 (.inr (.inr rfl))
    obtain ⟨m, hn, hl⟩ := I.loc
    have hvis : Vis X.env.scope y := (ok.free _ (PySem.mem_of_lookup hfr.1) rfl).elim (fun k => .inr (.inl k)) (fun k => .inr (.inr k))
    obtain ⟨w, r, q⟩ := hl i y av e1 e2 hvis
    refine ⟨w, r, .inr ⟨hfr.2, ?_⟩⟩
    obtain ⟨c, h1, h2⟩ := look hfr.1
    rcases q with ⟨k, _⟩ | ⟨_, c', e', z⟩
    · have k : X.env.scope.names.lookup y = some .local := k
      rcases ok.free _ (PySem.mem_of_lookup hfr.1) rfl with k' | k' <;> rw [show X.env.scope.names.lookup y = _ from k'] at k <;> cases k
    · rw [h2] at e'; cases e'
      exact ⟨c, h1, z.keeps kp⟩
  · have e : cenv.cells.lookup y = some c := e
    rcases mem e with ⟨h1, _⟩ | ⟨_, z⟩
    · obtain ⟨w, z⟩ := I.cell y c h1
      exact ⟨w, z.keeps kp⟩
    · exact ⟨_, z⟩
  · show H cenv.locals = none
    rw [hL]; exact I.hok.fresh (Nat.le_refl _)
  · have e : cenv.cells.lookup y = some c := e
    rcases mem e with ⟨h1, _⟩ | ⟨h1, _⟩
    · exact I.freeC y c h1
    · exact I.hok.fresh (Nat.le_of_succ_le h1)
  · exact absurd (show p ∈ ([] : List (Addr × Obj)) ++ [] from hp) (by simp)
theorem app_ok {E : Value → Shared → Prop} {D : Addr} {xs : List V} {y : V} {v : Value} {Q : Value → Shared → Prop} (I : Inv X pins σ H s) (hD : H D = some (.lst xs)) (hz : xs.length < sizeLine) (r : RelV y v)
    (h : ∀ s', Inv X pins σ (upd H D (.lst (xs ++ [y]))) s' → Q .none s') : wpAny (model X.prog X.w) X.A (call (.builtin "list.append") [.ref D, v]) Q E s := by
  obtain ⟨hz', its, n, ri, e⟩ := I.hok D _ hD
  have hl := ri.length
  refine append_at (hsz := by rw [List.size_toArray]; omega) e fun h' sb ho' => ?_
  refine h { s with heap := h' } (I.write (t' := s.toks) (by rw [hD]; trivial) (.inl rfl) (fun b u hb q => (sb.2 b hb).trans q) ⟨_, ho'⟩ ⟨by rw [List.length_append]; exact hz, its ++ [v], n + 1, ri.append (.cons r .nil), ?_⟩)
  rw [ho']
  simp
def PTs (X : Cx) (ifs : List Expr) (t : TT) : Prop :=
  ∀ (pins : List (Addr × Obj)) (s : Shared) (σ : St) (H : Hp) (Q : Bool → Hp → Prop), Inv X pins σ H s → t σ H Q →
    wpAny (model X.prog X.w) X.A (forIn ifs true fun c r => if r = true then do let ok ← isTrue c X.env (eval c X.env); pure (ForInStep.yield ok) else pure (ForInStep.yield r)) (TP X pins σ Q) X.xe s
def tYes : TT := fun _ H Q => Q true H
theorem pts_nil : PTs X [] tYes := fun _ _ _ H _ I h => wpAny_tests_nil ⟨H, I, h⟩
theorem pts_one {c : Expr} {t : TT} (h : PT X c t) : PTs X [c] t := fun pins s σ H Q I hw => wpAny_tests_one (h pins s σ H Q I hw)
end
theorem thnF {α : Type} {t : Sem α} {Q Q' : α → Shared → Prop} {M : Model} {A : Around} {E : Value → Shared → Prop} {s : Shared} (h : wpAny M A t Q (fun _ _ => False) s) (hQ : ∀ a s, Q a s → Q' a s) : wpAny M A t Q' E s := wpAny_mono h hQ fun _ _ z => False.elim z
theorem compLoop_any {prog : Program} {w : World} {A : Around} {R : Result → Shared → Prop} {s : Shared} {elt target iter : Expr} {ifs : List Expr} {scope : Scope} {pos : Pos} {it acc : Value} {env : Env} (I : Nat → Shared → Prop)
    (turn : ∀ n s, I n s → wpAny (model prog w) A (pyNext it) (fun r s₁ => match r with
      | none => R (.ok .next) s₁
      | some v => wpAny (model prog w) A (letOwnedTupleGo target it v) (fun _ s₁' => wpAny (model prog w) A (assign target env v) (fun _ s₂ =>
          wpAny (model prog w) A (forIn ifs true fun c r => if r = true then do let ok ← isTrue c env (eval c env); pure (ForInStep.yield ok) else pure (ForInStep.yield r)) (fun ok s₃ =>
            if ok = true then wpAny (model prog w) A (eval elt env) (fun x s₄ =>
              wpAny (model prog w) A (call (.builtin "list.append") [acc, x]) (fun _ s₅ => ∃ m, m < n ∧ I m s₅) (notedBy (model prog w) A env fun e s' => R (.error e) s') s₄) (notedBy (model prog w) A env fun e s' => R (.error e) s') s₃
            else ∃ m, m < n ∧ I m s₃) (notedBy (model prog w) A env fun e s' => R (.error e) s') s₂) (notedBy (model prog w) A env fun e s' => R (.error e) s') s₁') (notedBy (model prog w) A env fun e s' => R (.error e) s') s₁) (notedBy (model prog w) A env fun e s' => R (.error e) s') s)
    (n : Nat) (h : I n s) :
    codeAny (model prog w) A (.compLoop (.ListComp elt [⟨target, iter, ifs, 0⟩] scope pos) 0 it acc env) R s := by
  refine codeAny_loop rfl I (fun n s hI => ?_) n h
  show wpAny _ A ((compTurn (.ListComp elt [⟨target, iter, ifs, 0⟩] scope pos) 0 it acc env).onRaise (fun x => do noteFrame x env; theTreesLotGoes x)) _ _ s
  refine wpAny_noted ?_
  rw [compTurn_list]
  refine wpAny_bind (wpAny_standAt (wpAny_bind (wpAny_mono (turn n s hI) (fun r s₁ h₁ => ?_) fun _ _ h' => h')))
  cases r with
  | none => exact wpAny_pure h₁
  | some v =>
    refine wpAny_bind (wpAny_mono h₁ (fun _ s₁' h₁' => ?_) fun _ _ h' => h')
    refine wpAny_bind (wpAny_mono h₁' (fun _ s₂ h₂ => wpAny_bind (wpAny_mono h₂ (fun ok s₃ h₃ => ?_) fun _ _ h' => h')) fun _ _ h' => h')
    cases ok with
    | false => exact wpAny_pure ⟨rfl, h₃⟩
    | true =>
      exact wpAny_bind (wpAny_bind (wpAny_mono h₃ (fun x s₄ h₄ => wpAny_bind (wpAny_mono h₄ (fun _ s₅ h₅ => wpAny_pure (wpAny_pure ⟨rfl, h₅⟩)) fun _ _ h' => h')) fun _ _ h' => h'))
section
variable {X : Cx}
def tLc (wi : TI) (g : TG) (tt : TT) (te : TE) (vs : List Nat) : TE := fun σ H Q => wi σ H fun J H1 => ∀ D, H1 D = none → ∃ W : Nat → Nat → Hp → Prop, (∃ m, W 0 m (upd H1 D (.lst []))) ∧ ∀ i m H, W i m H →
  (J.stop i H ∧ Q (.ref D) H) ∨ (J.go i H ∧ ∃ Nx : Hp → Prop, (∀ H', Nx H' → ∃ m', m' < m ∧ W (i + 1) m' H') ∧ ∀ x H', J.yld i H x H' → g x (wipe σ vs) H' fun σ2 H2 => wipe σ2 vs = wipe σ vs ∧ tt σ2 H2 fun b H3 =>
    if b = true then te σ2 H3 fun y H4 => ∃ acc, H4 D = some (.lst acc) ∧ acc.length < sizeLine ∧ Nx (upd H4 D (.lst (acc ++ [y]))) else Nx H3)
theorem lc_core {pins : List (Addr × Obj)} {s : Shared} {σ : St} {H : Hp} {Q : VK} {elt tg iter : Expr} {ifs : List Expr} {scope : Scope} {own : List (Str × Nat)} {pos pos' : Pos} {wi : TI} {g : TG} {tt : TT} {te : TE} {use : Option (Value → Sem Unit)} {Qf : Value → Shared → Prop}
    (hc : X.calm = true) (hN : X.N.Nodup) (I : Inv X pins σ H s) (hi : PI X tg iter wi) (ok : BlkOk X.N X.env.scope scope own)
    (hg : ∀ (s : Shared) (H : Hp) (C : Addr) (cl : List (Str × Addr)) (fp : List Addr), PG (X.blk s H scope (compEnvC scope cl C X.env) fp) tg g) (ht : ∀ (s : Shared) (H : Hp) (C : Addr) (cl : List (Str × Addr)) (fp : List Addr), PTs (X.blk s H scope (compEnvC scope cl C X.env) fp) ifs tt)
    (he : ∀ (s : Shared) (H : Hp) (C : Addr) (cl : List (Str × Addr)) (fp : List Addr), PE (X.blk s H scope (compEnvC scope cl C X.env) fp) elt te) (hs : ∀ x, foldedSetIterable iter X.env x = pure x)
    (h : tLc wi g tt te (own.map (·.2)) σ H Q)
    (hRR : ∀ D C s' m H', Inv X pins σ H' s' → Q (.ref D) H' → s'.heap.Ns C m → FpOk X pins H' C → compPost (model X.prog X.w) X.A X.xe use Qf (.ref D) C (.ok .next) s') :
    wpAny (model X.prog X.w) X.A (comprehension (.ListComp elt [⟨tg, iter, ifs, 0⟩] scope pos) scope X.env pos' (newList []) false (eval iter X.env) use) Qf X.xe s := by
  have hfree : ∀ y ∈ scope.names, y.2 = .free → ∃ c, X.env.cells.lookup y.1 = some c := fun y hy e => by
    rcases ok.free y hy e with k | k
    · exact I.ok.has _ (.inl k)
    · exact I.ok.has _ (.inr k)
  refine wpAny_comprehension_free (use := use) rfl hs (closure_ok hfree) ok.kind (fun y hy e => by rw [ok.uniq y hy, e])
    (thn (hi pins s σ H _ I h) fun xv s1 hx => thn hx fun itv s2 h2 => ?_)
  obtain ⟨it, fp, tn, J, H2, e, I2, T, st2, f2, q⟩ := h2
  subst e
  refine wpAny_newObj_type (newEnv_comp ?_) (by show 0 ≤ sizeLine; decide)
  generalize hD : s2.heap.objs.size = D
  have hDn : H2 D = none := I2.hok.fresh (Nat.le_of_eq hD)
  obtain ⟨W, ⟨m0, w0⟩, turn⟩ := q D hDn
  generalize hs3 : ({ s2 with heap := s2.heap.push { cls := .type "list", data := .seq ([] : List Value).toArray } } : Shared) = s3
  have I3 : Inv X pins σ (upd H2 D (.lst [])) s3 := by
    rw [← hs3]
    refine I2.laid (t' := s2.toks) (fun b o e => Heap.get?_push_of_some _ e) (Nat.le_of_eq hD) ⟨Nat.zero_le _, [], 0, .nil, ?_⟩
    rw [← hD]
    exact Heap.get?_push_size _ rfl
  have h3 : s3.heap = s2.heap.push { cls := .type "list", data := .seq ([] : List Value).toArray } := by rw [← hs3]
  have sz : ∀ b ∈ fp, b < s2.heap.objs.size := fun b hb => by
    obtain ⟨o, e, _⟩ := T.obj _ _ st2 b hb
    exact Heap.lt_size e
  have f3 : ∀ b ∈ fp, FpOk X pins (upd H2 D (.lst [])) b ∧ b < s3.heap.objs.size := fun b hb => by
    have hlt := sz b hb
    refine ⟨⟨?_, (f2 b hb).2⟩, by rw [h3, Heap.size_push]; exact Nat.lt_succ_of_lt hlt⟩
    rw [upd_ne (by rw [← hD]; exact Nat.ne_of_lt hlt)]
    exact (f2 b hb).1
  have st3 : tn 0 s3.heap := T.keep _ _ _ st2 fun b _ o e => by rw [h3]; exact Heap.get?_push_of_some _ e
  have I4 := block_start I3 ok hN f3
  have pg := hg s3 (upd H2 D (.lst [])) s3.heap.objs.size (cellsFrom (s3.heap.objs.size + 1) scope.names (cloFrom X.env.cells scope.names [])) fp
  have pt := ht s3 (upd H2 D (.lst [])) s3.heap.objs.size (cellsFrom (s3.heap.objs.size + 1) scope.names (cloFrom X.env.cells scope.names [])) fp
  have pe := he s3 (upd H2 D (.lst [])) s3.heap.objs.size (cellsFrom (s3.heap.objs.size + 1) scope.names (cloFrom X.env.cells scope.names [])) fp
  show codeAny _ _ (.compStart (.ListComp elt [⟨tg, iter, ifs, 0⟩] scope pos) 0 (.ref it) (.ref D) (compEnvC scope (cellsFrom (s3.heap.objs.size + 1) scope.names (cloFrom X.env.cells scope.names [])) s3.heap.objs.size X.env)) (compPost (model X.prog X.w) X.A X.xe use Qf (.ref D) s3.heap.objs.size) { s3 with heap := pushCells (s3.heap.push { cls := .type "dict", data := .dict #[] }) scope.names }
  have nfp : ∀ b ∈ fp, (upd H2 D (.lst [])) b = none := fun b hb => (f3 b hb).1.1
  generalize hce : compEnvC scope (cellsFrom (s3.heap.objs.size + 1) scope.names (cloFrom X.env.cells scope.names [])) s3.heap.objs.size X.env = ce at I4 pg pt pe ⊢
  have cL : ce.locals = s3.heap.objs.size := by subst hce; rfl
  generalize hH3 : upd H2 D (.lst []) = H3 at I3 I4 pg pt pe w0 nfp f3
  generalize hs4 : ({ s3 with heap := pushCells (s3.heap.push { cls := .type "dict", data := .dict #[] }) scope.names } : Shared) = s4 at I4 ⊢
  have st4 : tn 0 s4.heap := T.keep _ _ _ st3 fun b _ o e => by rw [← hs4]; exact pushCells_keeps _ _ _ _ (Heap.get?_push_of_some _ e)
  have stat : ∀ {σ' : St} {H' : Hp} {s' : Shared}, Inv (X.blk s3 H3 scope ce fp) [] σ' H' s' → (∀ b ∈ fp, H' b = none) → ∀ b ∈ fp, FpOk (X.blk s3 H3 scope ce fp) [] H' b := fun {σ' H' s'} I' hn b hb =>
    ⟨hn b hb, (I'.ok.exf b hb).1, I'.ok.exfs b hb, .inl hb, fun x c e => (I'.ok.exf b hb).2 x c e, fun p hp => absurd (show p ∈ ([] : List (Addr × Obj)) ++ [] from hp) (by simp)⟩
  have loop : codeAny (model X.prog X.w) X.A (.compLoop (.ListComp elt [⟨tg, iter, ifs, 0⟩] scope pos) 0 (.ref it) (.ref D) ce) (compPost (model X.prog X.w) X.A X.xe use Qf (.ref D) s3.heap.objs.size) s4 := by
    refine compLoop_any (fun n s' => ∃ i H', Inv (X.blk s3 H3 scope ce fp) [] (wipe σ (own.map (·.2))) H' s' ∧ tn i s'.heap ∧ (∀ b ∈ fp, H' b = none) ∧ W i n H') ?_ m0 ⟨0, H3, I4, st4, nfp, w0⟩
    rintro n s5 ⟨i, H5, I5, st5, n5, w5⟩
    rcases turn i n H5 w5 with ⟨stop, qq⟩ | ⟨go, Nx, hNx, step⟩
    · have td := T.done (X.blk s3 H3 scope ce fp) rfl rfl rfl hc i [] s5 _ H5 (fun _ _ => False) I5 (stat I5 n5) st5 stop
      refine thnF td fun r s6 ⟨hr, I6⟩ => ?_
      subst hr
      have I7 : Inv X pins σ H5 s6 := I3.call' (ch := fp) I6.os I6.base I6.hok I6.bare fun b hb => ⟨(f3 b hb).1.2.2.2.1, (f3 b hb).1.2.1, (f3 b hb).1.2.2.2.2.1, (f3 b hb).1.2.2.2.2.2⟩
      have nC : H5 s3.heap.objs.size = none := by
        have z : H5 ce.locals = none := I6.free
        rw [cL] at z
        exact z
      obtain ⟨m, hn, _⟩ := I6.loc
      have hn : s6.heap.Ns ce.locals m := hn
      rw [cL] at hn
      exact hRR D s3.heap.objs.size s6 m H5 I7 qq hn (I3.fpOk (Nat.le_refl _) nC)
    · have ti := T.item (X.blk s3 H3 scope ce fp) rfl rfl rfl hc i [] s5 _ H5 (fun _ _ => False) I5 (stat I5 n5) st5 go
      refine thnF ti fun r s6 ⟨u, hr, h6⟩ => ?_
      subst hr
      refine thnF h6 fun _ s7 ⟨x, H7, I7, r7, y7, st7, n7⟩ => ?_
      have I7' := I7.pinned (stat I7 n7) (T.obj _ _ st7)
      refine thnF (pg _ s7 _ H7 x u _ I7' r7 (step x H7 y7)) fun _ s8 ⟨σ8, H8, I8, hw8, q8⟩ => ?_
      refine thnF (pt _ s8 σ8 H8 _ I8 q8) fun b s9 ⟨H9, I9, q9⟩ => ?_
      have fin : ∀ {s' : Shared} {H' : Hp}, Inv (X.blk s3 H3 scope ce fp) ([] ++ pinsAt fp s7.heap) σ8 H' s' → Nx H' → ∃ m, m < n ∧ ∃ i H', Inv (X.blk s3 H3 scope ce fp) [] (wipe σ (own.map (·.2))) H' s' ∧ tn i s'.heap ∧ (∀ b ∈ fp, H' b = none) ∧ W i m H' := fun {s' H'} I' nx => by
        obtain ⟨m', hm, w'⟩ := hNx H' nx
        have pin' : ∀ b ∈ fp, ∀ o, s7.heap.get? b = some o → s'.heap.get? b = some o ∧ H' b = none := fun b hb o e =>
          let z := I'.pin (b, o) (List.mem_append_right _ (List.mem_append_right _ (mem_pinsAt hb e)))
          ⟨z.1, z.2.1⟩
        have hl : (wipe σ (own.map (·.2))).length = σ8.length := by rw [← hw8, wipe_length]
        refine ⟨m', hm, i + 1, H', (I'.unpinned (pins := [])).weak hl (fun j v e => ?_), T.keep _ _ _ st7 fun b hb o e => (pin' b hb o e).1, fun b hb => ?_, w'⟩
        · rw [← hw8] at e
          exact (wipe_some e).1
        · obtain ⟨o, e, _⟩ := T.obj _ _ st7 b hb
          exact (pin' b hb o e).2
      cases b with
      | false =>
        simp only [Bool.false_eq_true, if_false] at q9 ⊢
        exact fin I9 q9
      | true =>
        simp only [if_true] at q9 ⊢
        refine thnF (pe _ s9 σ8 H9 _ I9 q9) fun z s10 ⟨yv, H10, I10, r10, acc, hD10, hz10, nx⟩ => ?_
        exact app_ok (X := X.blk s3 H3 scope ce fp) I10 hD10 hz10 r10 fun s11 I11 => fin I11 nx
  exact codeAny_compStart_list loop (T.self X.A 0 _ _ _ st4 loop)
theorem pe_lc {elt tg iter : Expr} {ifs : List Expr} {scope : Scope} {own : List (Str × Nat)} {pos : Pos} {wi : TI} {g : TG} {tt : TT} {te : TE} (hc : X.calm = true) (hN : X.N.Nodup) (hi : PI X tg iter wi) (ok : BlkOk X.N X.env.scope scope own)
    (hg : ∀ (s : Shared) (H : Hp) (C : Addr) (cl : List (Str × Addr)) (fp : List Addr), PG (X.blk s H scope (compEnvC scope cl C X.env) fp) tg g) (ht : ∀ (s : Shared) (H : Hp) (C : Addr) (cl : List (Str × Addr)) (fp : List Addr), PTs (X.blk s H scope (compEnvC scope cl C X.env) fp) ifs tt)
    (he : ∀ (s : Shared) (H : Hp) (C : Addr) (cl : List (Str × Addr)) (fp : List Addr), PE (X.blk s H scope (compEnvC scope cl C X.env) fp) elt te) (hs : ∀ x, foldedSetIterable iter X.env x = pure x := by intro _; rfl) :
    PE X (.ListComp elt [⟨tg, iter, ifs, 0⟩] scope pos) (tLc wi g tt te (own.map (·.2))) := by
  intro pins s σ H Q I h
  rw [eval_ListComp]
  refine lc_core hc hN I hi ok hg ht he hs h fun D C s' m H' I' q hn f => ⟨m, hn, fun h'' sb => ?_⟩
  obtain ⟨f0, f1, f2, f3, f4, f5⟩ := f
  exact ⟨.ref D, H', I'.turned (t' := s'.toks) (fun b o hb e => (sb.2 b hb).trans e) f0 f1 f3 f4 f5, rfl, q⟩
theorem ps_setLc {i : Nat} {y : Str} {py : Pos} {elt tg iter : Expr} {ifs : List Expr} {scope : Scope} {own : List (Str × Nat)} {pos spos : Pos} {wi : TI} {g : TG} {tt : TT} {te : TE} (hc : X.calm = true) (hN : X.N.Nodup) (hy : X.N[i]? = some y) (hyl : X.env.scope.names.lookup y = some .local)
    (hsw : swapsWith (.ListComp elt [⟨tg, iter, ifs, 0⟩] scope pos) (some (.Name y py)) spos.line X.env = pure true) (hi : PI X tg iter wi) (ok : BlkOk X.N X.env.scope scope own)
    (hg : ∀ (s : Shared) (H : Hp) (C : Addr) (cl : List (Str × Addr)) (fp : List Addr), PG (X.blk s H scope (compEnvC scope cl C X.env) fp) tg g) (ht : ∀ (s : Shared) (H : Hp) (C : Addr) (cl : List (Str × Addr)) (fp : List Addr), PTs (X.blk s H scope (compEnvC scope cl C X.env) fp) ifs tt)
    (he : ∀ (s : Shared) (H : Hp) (C : Addr) (cl : List (Str × Addr)) (fp : List Addr), PE (X.blk s H scope (compEnvC scope cl C X.env) fp) elt te) (hs : ∀ x, foldedSetIterable iter X.env x = pure x := by intro _; rfl) :
    PS X (.Assign [.Name y py] (.ListComp elt [⟨tg, iter, ifs, 0⟩] scope pos) spos) (tAsg (tLc wi g tt te (own.map (·.2))) (gName i)) := by
  intro pins s σ H D I h
  rw [exec_Assign_Name_used _ _ _ _ hsw]
  refine wpAny_bind (wpAny_standAt (wpAny_bind ?_))
  show wpAny _ X.A (do let _ ← comprehension (.ListComp elt [⟨tg, iter, ifs, 0⟩] scope pos) scope X.env (firstIterPos [⟨tg, iter, ifs, 0⟩] pos) (newList []) false (eval iter X.env) (some (assign (.Name y py) X.env))) _ _ s
  have h : tLc wi g tt te (own.map (·.2)) σ H (fun x H1 => gName i x σ H1 D.nx) := h
  refine wpAny_bind (thn (lc_core (Qf := fun _ s' => SP X pins D .next s') hc hN I hi ok hg ht he hs h fun L C s' m H' I' q hn f => ?_) fun _ s' hq => wpAny_pure (wpAny_pure hq))
  show wpAny _ _ (assign (.Name y py) X.env (.ref L)) _ _ _
  refine wpAny_assign_Name (store_ok2 (v := V.ref L) I' hN hy (.inl hyl) rfl (fun s2 I2 ⟨a, sb, ha⟩ => ?_) (.inr hyl))
  obtain ⟨f0, f1, f2, f3, f4, f5⟩ := f
  have haC : C ≠ a := by
    rcases ha with z | z
    · rw [z]; exact f1
    · exact fun e => f4 y a z e.symm
  refine ⟨m, hn.sameBut sb haC, fun h3 sb3 => ?_⟩
  exact ⟨_, H', I2.turned (t' := s2.toks) (fun b o hb e => (sb3.2 b hb).trans e) f0 f1 f3 f4 f5, q⟩
theorem sw_true {elt : Expr} {gs : List Comprehension} {scope : Scope} {pos py : Pos} {y : Str} {l : Nat} {env : Env} (hk : env.scope.kind = .function) (hy : env.scope.names.lookup y = some .local) (hl : (py.line == pos.line) = true)
    (ha : (scope.names.any fun (n, k) => n == y && (k == .local || k == .cell)) = false) : swapsWith (.ListComp elt gs scope pos) (some (.Name y py)) l env = pure true := by
  have ky : env.kindOf y = some .local := hy
  have hb : env.blockKind = .function := by unfold Env.blockKind; rw [hk]; rfl
  unfold swapsWith
  simp only [hb, ky, ha, Expr.pos, hl]
  rfl
end
theorem lc_list {K : PySem.W.Frag} {a : Addr} {xs : List V} {g : TG} {tt : TT} {te : TE} {vs : List Nat} {σ : St} {H1 : Hp} {D : Addr} {Qd : Hp → Prop} (Pv : Nat → Hp → Prop) (h0 : Pv 0 (upd H1 D (.lst []))) (hl : ∀ i H, i ≤ xs.length → Pv i H → SqL K H a xs)
    (hs : ∀ i x H, xs[i]? = some x → Pv i H → g x (wipe σ vs) H fun σ2 H2 => wipe σ2 vs = wipe σ vs ∧ tt σ2 H2 fun b H3 =>
      if b = true then te σ2 H3 fun y H4 => ∃ acc, H4 D = some (.lst acc) ∧ acc.length < sizeLine ∧ Pv (i + 1) (upd H4 D (.lst (acc ++ [y]))) else Pv (i + 1) H3) (hd : ∀ H, Pv xs.length H → Qd H) :
    ∃ W : Nat → Nat → Hp → Prop, (∃ m, W 0 m (upd H1 D (.lst []))) ∧ ∀ i m H, W i m H →
      ((Itl K a).stop i H ∧ Qd H) ∨ ((Itl K a).go i H ∧ ∃ Nx : Hp → Prop, (∀ H', Nx H' → ∃ m', m' < m ∧ W (i + 1) m' H') ∧ ∀ x H', (Itl K a).yld i H x H' → g x (wipe σ vs) H' fun σ2 H2 => wipe σ2 vs = wipe σ vs ∧ tt σ2 H2 fun b H3 =>
        if b = true then te σ2 H3 fun y H4 => ∃ acc, H4 D = some (.lst acc) ∧ acc.length < sizeLine ∧ Nx (upd H4 D (.lst (acc ++ [y]))) else Nx H3) := by
  refine ⟨fun i m H => m = xs.length - i ∧ i ≤ xs.length ∧ Pv i H, ⟨xs.length, by simp, Nat.zero_le _, h0⟩, ?_⟩
  rintro i m H ⟨rfl, hi, p⟩
  have q := hl i H hi p
  by_cases hlt : i < xs.length
  · refine .inr ⟨⟨xs, xs[i], q, by simp [hlt]⟩, Pv (i + 1), fun H' p' => ⟨xs.length - (i + 1), by omega, rfl, hlt, p'⟩, fun x H' y => ?_⟩
    obtain ⟨e, y⟩ := y
    subst e
    exact hs i x _ (y xs q) p
  · have e : i = xs.length := by omega
    subst e
    exact .inl ⟨⟨xs, q, Nat.le_refl _⟩, hd H p⟩
def blkC (N : List Str) (sc scope : Scope) (own : List (Str × Nat)) : Bool :=
  (match scope.kind with | .function => true | _ => false) && (scope.names.all fun y => decide (scope.names.lookup y.1 = some y.2)) && (own.all fun p => decide (N[p.2]? = some p.1)) &&
    (scope.names.all fun y => match y.2 with
      | .free => (match sc.names.lookup y.1 with | some .cell => true | some .free => true | _ => false)
      | .local => decide (y.1 ∈ own.map (·.1)) || decide (y.1 ∉ N)
      | .cell => decide (y.1 ∈ own.map (·.1)) || decide (y.1 ∉ N)
      | _ => true)
theorem blkOk_by {N : List Str} {sc scope : Scope} {own : List (Str × Nat)} (h : blkC N sc scope own = true) : BlkOk N sc scope own := by
  unfold blkC at h
  simp only [Bool.and_eq_true, List.all_eq_true, decide_eq_true_eq] at h
  obtain ⟨⟨⟨h1, h2⟩, h3⟩, h4⟩ := h
  refine ⟨?_, h2, h3, fun y hy e => ?_, fun y hy e => ?_⟩
  · split at h1
    · assumption
    · cases h1
  · have q := h4 y hy
    simp only [e] at q
    split at q <;> first | exact .inl (by assumption) | exact .inr (by assumption) | cases q
  · have q := h4 y hy
    rcases e with e | e <;> (simp only [e, Bool.or_eq_true, decide_eq_true_eq] at q; exact q)
end L2
namespace L2
open PySem PySem.Spec PyProof.Rows
section
variable {prog : Program} {w : World} {A : Around} {R : Result → Shared → Prop} {s : Shared} {elt t0 i0 t1 i1 : Expr} {ifs0 ifs1 : List Expr} {scope : Scope} {pos : Pos} {it acc : Value} {env : Env}
end
section
variable {X : Cx}
end
end L2
namespace L2
open PySem PySem.Spec PyProof.Rows
section
variable {κ : Type} [DecidableEq κ]
def valV (kvs : List (κ × V)) (k : κ) : Option V := (kvs.find? fun kv => decide (kv.1 = k)).map (·.2)
def putK (kvs : List (κ × V)) (k : κ) (v : V) : List (κ × V) :=
  if (kvs.any fun kv => decide (kv.1 = k)) = true then kvs.map (fun kv => if kv.1 = k then (kv.1, v) else kv) else kvs ++ [(k, v)]
theorem valV_pos {p : κ × V} {r : List (κ × V)} {k : κ} (e : p.1 = k) : valV (p :: r) k = some p.2 := by simp [valV, List.find?_cons, e]
theorem valV_neg {p : κ × V} {r : List (κ × V)} {k : κ} (e : ¬ p.1 = k) : valV (p :: r) k = valV r k := by simp [valV, List.find?_cons, e]
theorem valV_any (k : κ) : ∀ kvs : List (κ × V), (kvs.any fun kv => decide (kv.1 = k)) = (valV kvs k).isSome
  | [] => rfl
  | p :: r => by
    rw [List.any_cons]
    by_cases e : p.1 = k
    · simp only [valV_pos e, decide_eq_true e, Bool.true_or, Option.isSome_some]
    · rw [valV_neg e, decide_eq_false e, Bool.false_or]; exact valV_any k r
theorem length_putK (kvs : List (κ × V)) (k : κ) (v : V) : (putK kvs k v).length ≤ kvs.length + 1 := by
  unfold putK
  split
  · rw [List.length_map]; omega
  · rw [List.length_append, List.length_cons, List.length_nil]; omega
theorem RelO.isSome_eq {o : Option V} {u : Option Value} (r : RelO o u) : o.isSome = u.isSome := by
  cases o with
  | none => cases u with
    | none => rfl
    | some _ => exact (show False from r).elim
  | some _ => cases u with
    | none => exact (show False from r).elim
    | some _ => rfl
theorem RelO.getD {o : Option V} {u : Option Value} {d : V} {d' : Value} (r : RelO o u) (rd : RelV d d') : RelV (o.getD d) (u.getD d') := by
  cases o with
  | none => cases u with
    | none => exact rd
    | some _ => exact (show False from r).elim
  | some _ => cases u with
    | none => exact (show False from r).elim
    | some _ => exact r
theorem KV.val {kvs : List (κ × V)} {vs : List (κ × Value)} (r : KV kvs vs) (k : κ) : RelO (valV kvs k) (valueAt vs k) := by
  unfold KV at r
  induction r with
  | nil => exact True.intro
  | @cons p q ps qs h t ih =>
    obtain ⟨h1, h2⟩ := h
    by_cases e : p.1 = k
    · have e' : q.1 = k := h1.symm.trans e
      have b : valueAt (q :: qs) k = some q.2 := by simp [valueAt, List.find?_cons, e']
      rw [valV_pos e, b]; exact h2
    · have e' : ¬ q.1 = k := fun z => e (h1.trans z)
      have b : valueAt (q :: qs) k = valueAt qs k := by simp [valueAt, List.find?_cons, e']
      rw [valV_neg e, b]; exact ih
theorem KV.any {kvs : List (κ × V)} {vs : List (κ × Value)} (r : KV kvs vs) (k : κ) : (kvs.any fun kv => decide (kv.1 = k)) = vs.any fun kv => decide (kv.1 = k) := by
  unfold KV at r
  induction r with
  | nil => rfl
  | cons h t ih => rw [List.any_cons, List.any_cons, ih, h.1]
theorem KV.repl {kvs : List (κ × V)} {vs : List (κ × Value)} (r : KV kvs vs) (k : κ) {y : V} {u : Value} (ry : RelV y u) :
    KV (kvs.map fun kv => if kv.1 = k then (kv.1, y) else kv) (vs.map fun kv => if kv.1 = k then (kv.1, u) else kv) := by
  unfold KV at r ⊢
  induction r with
  | nil => exact .nil
  | @cons p q ps qs h t ih =>
    rw [List.map_cons, List.map_cons]
    refine .cons ?_ ih
    obtain ⟨h1, h2⟩ := h
    by_cases e : p.1 = k
    · rw [if_pos e, if_pos (h1.symm.trans e)]; exact ⟨h1, ry⟩
    · rw [if_neg e, if_neg (fun z => e (h1.trans z))]; exact ⟨h1, h2⟩
theorem KV.put {kvs : List (κ × V)} {vs : List (κ × Value)} (r : KV kvs vs) (k : κ) {y : V} {u : Value} (ry : RelV y u) : KV (putK kvs k y) (stored vs k u) := by
  unfold putK stored
  rw [r.any k]
  by_cases e : (vs.any fun kv => decide (kv.1 = k)) = true
  · rw [if_pos e, if_pos e]; exact r.repl k ry
  · rw [if_neg e, if_neg e]; exact Paired.snoc r ⟨rfl, ry⟩
theorem KV.length {kvs : List (κ × V)} {vs : List (κ × Value)} (r : KV kvs vs) : kvs.length = vs.length := Paired.length r
end
theorem kV_is {P : Program} {w : World} {k : Key} {u : Value} (r : RelV (kV k) u) : (mixKind P w).is k u = true := by
  cases k with
  | inl i => obtain ⟨t, e⟩ := (show ∃ t, u = Value.int i t from r); subst e; exact mixKind_int P w i t
  | inr x => obtain ⟨t, e⟩ := (show ∃ t, u = Value.str x t from r); subst e; exact mixKind_str P w x t
theorem items_are {P : Program} {w : World} : ∀ {ks : List Key} {us : List Value}, Vals (ks.map kV) us → ItemsAre (mixKind P w) ks us
  | [], _, r => by rw [List.map_nil] at r; cases r; exact .nil
  | k :: ks, _, r => by
    rw [List.map_cons] at r
    cases r with
    | cons h t => exact .cons (kV_is h) (items_are t)
abbrev KT (H : Hp) : List (List Key × V) → List (List Key × Addr × Value) → Prop := Paired fun p q => p.1 = q.1 ∧ H q.2.1 = some (.tup (p.1.map kV)) ∧ RelV p.2 q.2.2
theorem KT.val {H : Hp} {kvs : List (List Key × V)} {xs : List (List Key × Addr × Value)} (r : KT H kvs xs) (k : List Key) : RelO (valV kvs k) ((atKey xs k).map (·.2)) := by
  induction r with
  | nil => exact True.intro
  | @cons p q ps qs h t ih =>
    obtain ⟨h1, _, h2⟩ := h
    by_cases e : p.1 = k
    · have e' : q.1 = k := h1.symm.trans e
      have b : atKey (q :: qs) k = some q.2 := by simp [atKey, List.find?_cons, e']
      rw [valV_pos e, b]; exact h2
    · have e' : ¬ q.1 = k := fun z => e (h1.trans z)
      have b : atKey (q :: qs) k = atKey qs k := by simp [atKey, List.find?_cons, e']
      rw [valV_neg e, b]; exact ih
theorem KT.repl {H : Hp} {kvs : List (List Key × V)} {xs : List (List Key × Addr × Value)} (r : KT H kvs xs) (k : List Key) {y : V} {u : Value} (ry : RelV y u) :
    KT H (kvs.map fun kv => if kv.1 = k then (kv.1, y) else kv) (xs.map (putAt k u)) := by
  induction r with
  | nil => exact .nil
  | @cons p q ps qs h t ih =>
    rw [List.map_cons, List.map_cons]
    refine .cons ?_ ih
    obtain ⟨h1, h2, h3⟩ := h
    unfold putAt
    by_cases e : p.1 = k
    · rw [if_pos e, if_pos (h1.symm.trans e)]; exact ⟨h1, h2, ry⟩
    · rw [if_neg e, if_neg (fun z => e (h1.trans z))]; exact ⟨h1, h2, h3⟩
theorem KT.put {H : Hp} {kvs : List (List Key × V)} {xs : List (List Key × Addr × Value)} (r : KT H kvs xs) (k : List Key) {b : Addr} {y : V} {u : Value} (hb : H b = some (.tup (k.map kV))) (ry : RelV y u) :
    KT H (putK kvs k y) (storedH xs k b u) := by
  have e : (kvs.any fun kv => decide (kv.1 = k)) = (atKey xs k).isSome := by
    rw [valV_any, (r.val k).isSome_eq, Option.isSome_map]
  unfold putK storedH
  rw [e]
  by_cases q : (atKey xs k).isSome = true
  · rw [if_pos q, if_pos q]; exact r.repl k ry
  · rw [if_neg q, if_neg q]; exact Paired.snoc r ⟨rfl, hb, ry⟩
theorem KT.keeps {H H' : Hp} {kvs : List (List Key × V)} {xs : List (List Key × Addr × Value)} (r : KT H kvs xs) (ht : ∀ b ys, H b = some (.tup ys) → H' b = some (.tup ys)) : KT H' kvs xs :=
  Paired.mapP r fun _ _ z => ⟨z.1, ht _ _ z.2.1, z.2.2⟩
section
variable {P : Program} {w : World} {H : Hp} {h : Heap} {a : Addr}
theorem rd_of {u : HO} (ok : HOk P w H h) (e : Rd H a u) : ObjOk P w H h a u := e.ok ok
theorem dk_rd {kvs : List (Key × V)} (ok : HOk P w H h) (e : Rd H a (.dK kvs)) : kvs.length ≤ sizeLine ∧ (a == sysModules) = false ∧ ∃ vs, KV kvs vs ∧ h.DictOf (mixKind P w) a vs :=
  show ObjOk P w H h a (.dK kvs) from rd_of ok e
theorem dk_of {kvs : List (Key × V)} (ok : HOk P w H h) (e : H a = some (.dK kvs)) : kvs.length ≤ sizeLine ∧ (a == sysModules) = false ∧ ∃ vs, KV kvs vs ∧ h.DictOf (mixKind P w) a vs := dk_rd ok (.inl e)
theorem key_of {ks : List Key} (ok : HOk P w H h) (e : H a = some (.tup (ks.map kV))) : (tupleKind (mixKind P w)).is h ks a := by
  obtain ⟨_, its, r, o, h1, h2, n, h3⟩ := (show ObjOk P w H h a (.tup (ks.map kV)) from ok a _ e)
  exact ⟨o, its.toArray, n, h1, h2, h3, by simpa using items_are r⟩
theorem dt_rd {kvs : List (List Key × V)} (ok : HOk P w H h) (e : Rd H a (.dT kvs)) : kvs.length ≤ sizeLine ∧ (a == sysModules) = false ∧
    ∃ xs, KT H kvs xs ∧ h.DictOfH (tupleKind (mixKind P w)) a xs := by
  obtain ⟨z, y, xs, r, o, es, ep, h1, h2, h3, h4, h5⟩ := (show ObjOk P w H h a (.dT kvs) from rd_of ok e)
  refine ⟨z, y, xs, r, o, es, ep, h1, h2, h3, h4, fun x hx => ?_, h5⟩
  have all : ∀ {l : List (List Key × V)} {m : List (List Key × Addr × Value)}, KT H l m → ∀ x ∈ m, (tupleKind (mixKind P w)).is h x.1 x.2.1 := by
    intro l m q
    induction q with
    | nil => intro x hx; exact nomatch hx
    | @cons p q ps qs hq t ih =>
      intro x hx
      rcases List.mem_cons.mp hx with e | hx
      · subst e
        exact key_of ok (by rw [← hq.1]; exact hq.2.1)
      · exact ih x hx
  exact all r x hx
theorem dt_of {kvs : List (List Key × V)} (ok : HOk P w H h) (e : H a = some (.dT kvs)) : kvs.length ≤ sizeLine ∧ (a == sysModules) = false ∧
    ∃ xs, KT H kvs xs ∧ h.DictOfH (tupleKind (mixKind P w)) a xs := dt_rd ok (.inl e)
end
def DGet (H : Hp) (a : Addr) (y : V) (r : Option V) : Prop :=
  (∃ kvs k, Rd H a (.dK kvs) ∧ y = kV k ∧ r = valV kvs k) ∨ ∃ kvs k b, Rd H a (.dT kvs) ∧ y = .ref b ∧ H b = some (.tup (k.map kV)) ∧ r = valV kvs k
def DPut (H : Hp) (a : Addr) (y v : V) (H' : Hp) : Prop :=
  (∃ kvs k, H a = some (.dK kvs) ∧ y = kV k ∧ kvs.length < sizeLine ∧ H' = upd H a (.dK (putK kvs k v))) ∨
  ∃ kvs k b, H a = some (.dT kvs) ∧ y = .ref b ∧ H b = some (.tup (k.map kV)) ∧ kvs.length < sizeLine ∧ H' = upd H a (.dT (putK kvs k v))
theorem DGet.k {H : Hp} {a : Addr} {kvs : List (Key × V)} {k : Key} (e : H a = some (.dK kvs)) : DGet H a (kV k) (valV kvs k) := .inl ⟨kvs, k, .inl e, rfl, rfl⟩
theorem DGet.t {H : Hp} {a b : Addr} {kvs : List (List Key × V)} {k : List Key} (e : H a = some (.dT kvs)) (eb : H b = some (.tup (k.map kV))) : DGet H a (.ref b) (valV kvs k) := .inr ⟨kvs, k, b, .inl e, rfl, eb, rfl⟩
theorem DPut.k {H : Hp} {a : Addr} {kvs : List (Key × V)} {k : Key} {v : V} (e : H a = some (.dK kvs)) (hl : kvs.length < sizeLine) : DPut H a (kV k) v (upd H a (.dK (putK kvs k v))) := .inl ⟨kvs, k, e, rfl, hl, rfl⟩
theorem DPut.t {H : Hp} {a b : Addr} {kvs : List (List Key × V)} {k : List Key} {v : V} (e : H a = some (.dT kvs)) (eb : H b = some (.tup (k.map kV))) (hl : kvs.length < sizeLine) :
    DPut H a (.ref b) v (upd H a (.dT (putK kvs k v))) := .inr ⟨kvs, k, b, e, rfl, eb, hl, rfl⟩
section
variable {X : Cx} {pins : List (Addr × Obj)} {σ : St} {H : Hp} {s : Shared} {a : Addr} {y v : V} {u r : Value} {o : Option V} {A : Around} {E : Value → Shared → Prop}
theorem Inv.big (I : Inv X pins σ H s) : sysModules < s.heap.objs.size := by
  have h : mainGlobals < s.heap.objs.size := (I.mod.glob.keeps I.bk).lt
  exact Nat.lt_trans (by decide) h
theorem d_getItem {Q : Value → Shared → Prop} (hu : A.units + 1 < cLine) (I : Inv X pins σ H s) (g : DGet H a y (some v)) (ry : RelV y u) (h : ∀ w' s', Inv X pins σ H s' → RelV v w' → Q w' s') :
    wpAny (model X.prog X.w) A (getItem (.ref a) u) Q E s := by
  rcases g with ⟨kvs, k, e, ey, l⟩ | ⟨kvs, k, b, e, ey, eb, l⟩
  · subst ey
    obtain ⟨z, hd, vs, rel, dd⟩ := dk_rd I.hok e
    obtain ⟨w', hw, rw'⟩ := RelO.some_of (v := v) (o := valueAt vs k) (by rw [l]; exact rel.val k)
    exact wpAny_getItem_of (kV_is ry) dd.mapOf hw (h w' _ (I.tok _) rw')
  · subst ey
    cases (show u = Value.ref b from ry)
    obtain ⟨z, hd, xs, rel, dd⟩ := dt_rd I.hok e
    obtain ⟨w', hw, rw'⟩ := RelO.some_of (v := v) (o := (atKey xs k).map (·.2)) (by rw [l]; exact rel.val k)
    obtain ⟨p, hp, hp2⟩ := Option.map_eq_some_iff.mp hw
    refine wpAny_getItem_heap (tupleKind_room_in1 hu) (key_of I.hok eb) dd hp ?_
    rw [hp2]
    exact h w' _ (I.tok _) rw'
theorem d_notIn {Q : Value → Shared → Prop} (hu : A.units + 1 < cLine) (I : Inv X pins σ H s) (g : DGet H a y o) (ry : RelV y u) (h : ∀ s', Inv X pins σ H s' → Q (.bool (!o.isSome)) s') :
    wpAny (model X.prog X.w) A (compareOp .NotIn u (.ref a)) Q E s := by
  rcases g with ⟨kvs, k, e, ey, l⟩ | ⟨kvs, k, b, e, ey, eb, l⟩
  · subst ey
    obtain ⟨z, hd, vs, rel, dd⟩ := dk_rd I.hok e
    refine wpAny_notIn_of (kV_is ry) hd dd.mapOf ?_
    rw [← (rel.val k).isSome_eq, ← l]
    exact h _ (I.tok _)
  · subst ey
    cases (show u = Value.ref b from ry)
    obtain ⟨z, hd, xs, rel, dd⟩ := dt_rd I.hok e
    refine wpAny_notIn_heap (tupleKind_room_in1 hu) (key_of I.hok eb) hd dd ?_
    have q := (rel.val k).isSome_eq
    rw [Option.isSome_map] at q
    rw [← q, ← l]
    exact h _ (I.tok _)
theorem d_write {h' : Heap} {t' : Nat} {ob : HO} (I : Inv X pins σ H s) (mu : Mut (H a)) (hs : Heap.SameBut a s.heap h') (he : ∃ q, h'.get? a = some q) (new : ObjOk X.prog X.w (upd H a ob) h' a ob) :
    Inv X pins σ (upd H a ob) { s with heap := h', toks := t' } :=
  I.write (x := a) (e := a) mu (.inl rfl) (fun b q hb z => (hs.2 b hb).trans z) he new
theorem dk_new {P : Program} {w : World} {H' : Hp} {h' : Heap} {kvs : List (Key × V)} {vs : List (Key × Value)} (z : kvs.length ≤ sizeLine) (hd : (a == sysModules) = false) (rel : KV kvs vs) (dd : h'.DictOf (mixKind P w) a vs) :
    ObjOk P w H' h' a (.dK kvs) := ⟨z, hd, vs, rel, dd⟩
theorem d_setItem {H' : Hp} {Q : Unit → Shared → Prop} (hu : A.units + 1 < cLine) (I : Inv X pins σ H s) (g : DPut H a y v H') (ry : RelV y u) (rv : RelV v r) (h : ∀ s', Inv X pins σ H' s' → Q () s') :
    wpAny (model X.prog X.w) A (setItem (.ref a) u r) Q E s := by
  rcases g with ⟨kvs, k, e, ey, l, eH⟩ | ⟨kvs, k, b, e, ey, eb, l, eH⟩
  · subst ey eH
    obtain ⟨z, hd, vs, rel, dd⟩ := dk_of I.hok e
    have hz : vs.length ≤ sizeLine := by rw [← rel.length]; exact z
    have hl : (putK kvs k v).length ≤ sizeLine := by have := length_putK kvs k v; omega
    refine wpAny_setItem_pairs (hsz := hz) (kV_is ry) dd fun h' dd' hs => h _ ?_
    have he : ∃ q, h'.get? a = some q := let ⟨q, _, _, hq, _⟩ := dd'; ⟨q, hq⟩
    exact d_write I (by rw [e]; exact True.intro) hs he (dk_new hl hd (rel.put k rv) dd')
  · subst ey eH
    cases (show u = Value.ref b from ry)
    obtain ⟨z, hd, xs, rel, dd⟩ := dt_of I.hok e
    have hz : xs.length ≤ sizeLine := by rw [← Paired.length rel]; exact z
    have hl : (putK kvs k v).length ≤ sizeLine := by have := length_putK kvs k v; omega
    refine wpAny_setItem_heap (hsz := hz) (tupleKind_room_in1 hu) (key_of I.hok eb) dd fun h' dd' hs => h _ ?_
    obtain ⟨q, es, ep, hq, h2, h3, h4, _, h5⟩ := dd'
    refine d_write I (by rw [e]; exact True.intro) hs ⟨q, hq⟩ ⟨hl, hd, _, (rel.put k eb rv).keeps fun c ys ec => ?_, q, es, ep, hq, h2, h3, h4, h5⟩
    rw [upd_ne (ne_of ec e (fun z => nomatch z))]
    exact ec
end
section
variable {X : Cx} {pins : List (Addr × Obj)} {σ : St} {H : Hp} {s : Shared} {a : Addr} {kvs : List (Key × V)} {k : Key} {u : Value} {A : Around} {E : Value → Shared → Prop}
theorem d_len {Q : Value → Shared → Prop} (I : Inv X pins σ H s) (e : Rd H a (.dK kvs)) (h : ∀ t s', Inv X pins σ H s' → Q (.int kvs.length t) s') : wpAny (model X.prog X.w) A (call (.builtin "len") [.ref a]) Q E s := by
  obtain ⟨z, hd, vs, rel, dd⟩ := dk_rd I.hok e
  refine call_len_dict hd dd (by rw [← rel.length]; rw [sizeLine_eq] at z; omega) ?_
  rw [← rel.length]
  exact h _ _ (I.tok _)
end
def NoSl (i : Expr) : Prop := ∀ ov iv, subscripted i false ov iv = operate [ov, iv] (getItem ov iv)
theorem subD_of {prog : Program} {w : World} {A : Around} {E : Value → Shared → Prop} {s : Shared} {env : Env} {value slice : Expr} {pos : Pos} {T id : String} {Q : Value → Shared → Prop}
    (hl : typeLookup (.type T) "__getitem__" = pure (some (.builtin id))) (hs : NoSl slice)
    (h : wpAny (model prog w) A (eval value env) (fun o s₁ => wpAny (model prog w) A (eval slice env) (fun i s₂ => s₂.TypeIs o T ∧ wpAny (model prog w) A (getItem o i) Q E s₂) E s₁) E s) :
    wpAny (model prog w) A (eval (.Subscript value slice pos) env) Q E s := by
  refine Subscript_ (wpAny_mono h (fun o s₁ h₁ => wpAny_mono h₁ (fun i s₂ h₂ => ?_) fun _ _ x => x) fun _ _ x => x)
  obtain ⟨hT, h₂⟩ := h₂
  unfold subscriptTail
  refine wpAny_bind ?_
  rw [getitemInPython_of_ne hT.not_modules]
  refine wpAny_bind (wpAny_specialOf hT hl ?_)
  have fin : wpAny (model prog w) A (subscripted slice false o i) (fun r s₃ => wpAny (model prog w) A (letTemporaryGo value o r >>= fun _ => pure r) Q E s₃) E s₂ := by
    rw [hs o i]
    exact wpAny_operating (wpAny_mono h₂ (fun r s₃ h₃ => wpAny_bind (wpAny_letTemporaryGo (wpAny_pure h₃))) fun _ _ x => x)
  first
    | exact wpAny_pure (wpAny_bind fin)
    | exact wpAny_bind (wpAny_pure (wpAny_bind fin))
    | exact wpAny_bind fin
theorem dict_typeIs {X : Cx} {pins : List (Addr × Obj)} {σ : St} {H : Hp} {s : Shared} {a : Addr} {y : V} {o : Option V} (I : Inv X pins σ H s) (g : DGet H a y o) : s.TypeIs (.ref a) "dict" := by
  rcases g with ⟨kvs, k, e, _, _⟩ | ⟨kvs, k, b, e, _, _, _⟩
  · obtain ⟨_, _, vs, _, dd⟩ := dk_rd I.hok e
    exact dd.typeIs
  · obtain ⟨_, _, xs, _, dd⟩ := dt_rd I.hok e
    exact dd.typeIs
def tDGet (td ty : TE) : TE := fun σ H Q => td σ H fun x H1 => ty σ H1 fun y H2 => ∃ a v, x = .ref a ∧ DGet H2 a y (some v) ∧ Q v H2
def tDNotIn (ty td : TE) : TE := fun σ H Q => ty σ H fun y H1 => td σ H1 fun x H2 => ∃ a o, x = .ref a ∧ DGet H2 a y o ∧ Q (.bl (!o.isSome)) H2
def sDPut (td ty tv : TE) : TS := fun D σ H => tv σ H fun v H1 => td σ H1 fun x H2 => ty σ H2 fun y H3 => ∃ a H4, x = .ref a ∧ DPut H3 a y v H4 ∧ D.nx σ H4
section
variable {X : Cx} {o i e value : Expr} {pos pos' tpos : Pos} {td ty tv : TE}
theorem pe_dget (hu : X.A.units + 1 < cLine) (ho : PE X o td) (hi : PE X i ty) (hs : NoSl i) : PE X (.Subscript o i pos) (tDGet td ty) := by
  intro pins s σ H Q I h
  refine subD_of PySem.F.slot_dict_getitem.lookup hs (thn (ho pins s σ H _ I h) fun u s1 ⟨x, H1, I1, rx, q1⟩ => thn (hi pins s1 σ H1 _ I1 q1) fun iv s2 ⟨y, H2, I2, ry, a, v, ex, g, q2⟩ => ?_)
  subst ex
  obtain rfl : u = Value.ref a := rx
  exact ⟨dict_typeIs I2 g, d_getItem hu I2 g ry fun w' s3 I3 rw' => ⟨v, H2, I3, rw', q2⟩⟩
theorem pc_dnotin (hu : X.A.units + 1 < cLine) (hi : PE X i ty) (ho : PE X o td) : PC X .NotIn i o (tDNotIn ty td) := by
  intro pins s σ H Q I h
  refine thn (hi pins s σ H _ I h) fun iv s1 ⟨y, H1, I1, ry, q1⟩ => thn (ho pins s1 σ H1 _ I1 q1) fun u s2 ⟨x, H2, I2, rx, a, ov, ex, g, q2⟩ => ?_
  subst ex
  obtain rfl : u = Value.ref a := rx
  exact d_notIn hu I2 g ry fun s3 I3 => ⟨.bl (!ov.isSome), H2, I3, rfl, q2⟩
theorem ps_dput (hu : X.A.units + 1 < cLine) (ho : PE X o td) (hi : PE X i ty) (hv : PE X value tv) (hs : swapsWith value (some (.Subscript o i pos')) pos.line X.env = pure false) :
    PS X (.Assign [.Subscript o i pos'] value pos) (sDPut td ty tv) := by
  intro pins s σ H D I h
  refine wpAny_Assign_Subscript (thn (hv pins s σ H _ I h) fun r s1 ⟨v, H1, I1, rv, q1⟩ => thn (ho pins s1 σ H1 _ I1 q1) fun u s2 ⟨x, H2, I2, rx, q2⟩ => thn (hi pins s2 σ H2 _ I2 q2) fun iv s3 ⟨y, H3, I3, ry, a, H4, ex, g, q3⟩ => ?_) hs
  subst ex
  obtain rfl : u = Value.ref a := rx
  exact d_setItem hu I3 g ry rv fun s4 I4 => ⟨σ, H4, I4, q3⟩
end
theorem dk_empty {P : Program} {w : World} {H : Hp} (h : Heap) (hb : sysModules < h.objs.size) : ObjOk P w H (h.push { cls := .type "dict", data := .dict #[] }) h.objs.size (.dK []) :=
  ⟨Nat.zero_le _, beq_eq_false_iff_ne.mpr (Ne.symm (Nat.ne_of_lt hb)), [], .nil, Heap.DictOf.new h⟩
theorem dt_empty {P : Program} {w : World} {H : Hp} (h : Heap) (hb : sysModules < h.objs.size) : ObjOk P w H (h.push { cls := .type "dict", data := .dict #[] }) h.objs.size (.dT []) :=
  ⟨Nat.zero_le _, beq_eq_false_iff_ne.mpr (Ne.symm (Nat.ne_of_lt hb)), [], .nil, _, #[], 0, Heap.get?_push_size _ rfl, ⟨rfl, rfl, rfl⟩, rfl, rfl, List.nodup_nil⟩
def tDNewK : TE := fun _ H Q => ∀ p, H p = none → Q (.ref p) (upd H p (.dK []))
def tDNewT : TE := fun _ H Q => ∀ p, H p = none → Q (.ref p) (upd H p (.dT []))
section
variable {X : Cx} {pos : Pos}
theorem pe_dnewK : PE X (.Dict [] [] pos) tDNewK := fun pins s σ H Q I h =>
  wpAny_Dict_empty ⟨.ref s.heap.objs.size, _, I.laid (a := s.heap.objs.size) (o := .dK []) (t' := s.toks) (fun _ _ q => Heap.get?_push_of_some _ q) (Nat.le_refl _) (dk_empty s.heap I.big), rfl, h _ (I.hok.fresh (Nat.le_refl _))⟩
theorem pe_dnewT : PE X (.Dict [] [] pos) tDNewT := fun pins s σ H Q I h =>
  wpAny_Dict_empty ⟨.ref s.heap.objs.size, _, I.laid (a := s.heap.objs.size) (o := .dT []) (t' := s.toks) (fun _ _ q => Heap.get?_push_of_some _ q) (Nat.le_refl _) (dt_empty s.heap I.big), rfl, h _ (I.hok.fresh (Nat.le_refl _))⟩
end
structure M1 (X : Cx) (o : Expr) (m : Str) (apos : Pos) (e : Expr) (cpos : Pos) : Prop where
  base : attributeBase o m X.env (eval o X.env) = eval o X.env
  few : ((backTo cpos (starEach [e] X.env)).all (fun x => !x.1) && (backToKw cpos (keywordEach [] X.env)).all (fun x => x.1.isSome)
    && decide (([e] : List Expr).length + ([] : List Keyword).length + (if ([] : List Keyword).isEmpty then 0 else 1) < 30)) = true
  line : (apos.endLine == cpos.line) = true
  trees : backTo cpos (starEach [e] X.env) = [(false, eval e X.env)]
structure M2 (X : Cx) (o : Expr) (m : Str) (apos : Pos) (e f : Expr) (cpos : Pos) : Prop where
  base : attributeBase o m X.env (eval o X.env) = eval o X.env
  few : ((backTo cpos (starEach [e, f] X.env)).all (fun x => !x.1) && (backToKw cpos (keywordEach [] X.env)).all (fun x => x.1.isSome)
    && decide (([e, f] : List Expr).length + ([] : List Keyword).length + (if ([] : List Keyword).isEmpty then 0 else 1) < 30)) = true
  line : (apos.endLine == cpos.line) = true
  trees : backTo cpos (starEach [e, f] X.env) = [(false, eval e X.env), (false, eval f X.env)]
def IsD (H : Hp) (a : Addr) : Prop := (∃ kvs, Rd H a (.dK kvs)) ∨ ∃ kvs, Rd H a (.dT kvs)
theorem isD_at {X : Cx} {pins : List (Addr × Obj)} {σ : St} {H : Hp} {s : Shared} {a : Addr} (I : Inv X pins σ H s) (d : IsD H a) :
    s.TypeIs (.ref a) "dict" ∧ (∀ b, Value.ref a = .ref b → ∃ ob, s.heap.get? b = some ob ∧ ob.dict = none) ∧ (a == sysModules) = false := by
  rcases d with ⟨kvs, e⟩ | ⟨kvs, e⟩
  · obtain ⟨_, hd, vs, _, dd⟩ := dk_rd I.hok e
    refine ⟨dd.typeIs, fun b q => ?_, hd⟩
    cases q
    obtain ⟨ob, _, _, h1, h2, _⟩ := dd
    exact ⟨ob, h1, h2.2.1⟩
  · obtain ⟨_, hd, xs, _, dd⟩ := dt_rd I.hok e
    refine ⟨dd.typeIs, fun b q => ?_, hd⟩
    cases q
    obtain ⟨ob, _, _, h1, h2, _⟩ := dd
    exact ⟨ob, h1, h2.2.1⟩
section
variable {X : Cx} {pins : List (Addr × Obj)} {σ : St} {H : Hp} {s : Shared} {a : Addr} {y d : V} {u r : Value} {o : Option V} {A : Around} {E : Value → Shared → Prop}
theorem d_get1 {Q : Value → Shared → Prop} (hu : A.units + 1 < cLine) (I : Inv X pins σ H s) (g : DGet H a y o) (ry : RelV y u) (h : ∀ w' s', Inv X pins σ H s' → RelV (o.getD .non) w' → Q w' s') :
    wpAny (model X.prog X.w) A (call (.builtin "dict.get") [.ref a, u]) Q E s := by
  rcases g with ⟨kvs, k, e, ey, l⟩ | ⟨kvs, k, b, e, ey, eb, l⟩
  · subst ey
    obtain ⟨z, hd, vs, rel, dd⟩ := dk_rd I.hok e
    refine call_meetsIn PySem.F.slot_dict_get dd.typeIs PySem.F.entry_dict_get (PySem.F.args_dict_get_2 _ _) (meets_dict_get (mixKind X.prog X.w) a (kV_is ry) hd) ⟨_, dd.mapOf, h _ _ (I.tok _) ?_⟩
    rw [l]
    exact (rel.val k).getD rfl
  · subst ey
    cases (show u = Value.ref b from ry)
    obtain ⟨z, hd, xs, rel, dd⟩ := dt_rd I.hok e
    refine call_meetsIn PySem.F.slot_dict_get dd.typeIs PySem.F.entry_dict_get (PySem.F.args_dict_get_2 _ _) (meetsH_dict_get (tupleKind (mixKind X.prog X.w)) a b hd) ⟨tupleKind_room_in1 hu, k, xs, key_of I.hok eb, dd, h _ _ (I.tok _) ?_⟩
    rw [l]
    exact (rel.val k).getD rfl
end
def tDGet1 (td ty : TE) : TE := fun σ H Q => td σ H fun x H1 => ∃ a, x = .ref a ∧ IsD H1 a ∧ ty σ H1 fun y H2 => ∃ o, DGet H2 a y o ∧ Q (o.getD .non) H2
section
variable {X : Cx} {o e f : Expr} {apos cpos : Pos} {td ty tx : TE}
theorem pe_dget1 (hu : X.A.units + 1 < cLine) (ho : PE X o td) (he : PE X e ty) (m : M1 X o "get" apos e cpos) : PE X (.Call (.Attribute o "get" apos) [e] [] cpos) (tDGet1 td ty) := by
  intro pins s σ H Q I h
  refine wpAny_Call_method m.base m.few m.line PySem.F.plainAttrs_dict PySem.F.slot_dict_get PySem.F.type_dict_get (thn (ho pins s σ H _ I h) fun u s1 ⟨x, H1, I1, rx, a, ex, d, q1⟩ => ?_)
  subst ex
  obtain rfl : u = Value.ref a := rx
  obtain ⟨t1, t2, _⟩ := isD_at I1 d
  refine ⟨t1, t2, ?_⟩
  rw [m.trees]
  refine Calls.callWith_builtin rfl (Calls.evalArgs_plain (Calls.spliced_cons (thn (he pins s1 σ H1 _ I1 q1) fun iv s2 ⟨y, H2, I2, ry, ov, g, q2⟩ => Calls.spliced_nil ?_)))
  exact d_get1 hu I2 g ry fun w' s3 I3 rw' => ⟨_, H2, I3, rw', q2⟩
end
section
variable {X : Cx} {pins : List (Addr × Obj)} {σ : St} {H : Hp} {s : Shared} {a : Addr} {kvs : List (Key × V)} {A : Around} {E : Value → Shared → Prop}
end
section
variable {X : Cx} {pins : List (Addr × Obj)} {σ : St} {H : Hp} {s : Shared} {a : Addr} {y : V} {u : Value} {A : Around} {E : Value → Shared → Prop}
end
end L2
namespace L2
open PySem PySem.Spec PyProof.Rows
section
variable {prog : Program} {w : World} {A : Around} {E : Value → Shared → Prop}
end
section
variable {X : Cx}
end
end L2
namespace L2
open PySem PySem.Spec PyProof.Rows
theorem boot_reversed5 : bootBuiltins "reversed" = some (.type "reversed") := by decide +kernel
section
variable {X : Cx} {pins : List (Addr × Obj)} {σ : St} {H : Hp} {s : Shared} {h' : Heap}
theorem Inv.lock {d : Addr} {u : HO} (I : Inv X pins σ H s) (h : H d = some u) (mu : Mut (some u)) : ∃ od, Inv X pins σ (upd H d (.frz od u)) s := by
  have x := I.hok d u h
  have ex : ∃ od, s.heap.get? d = some od := by
    cases u with
    | lst xs => obtain ⟨_, _, _, _, e⟩ := x; exact ⟨_, e⟩
    | dK kvs => obtain ⟨_, _, _, _, o, _, _, e, _⟩ := x; exact ⟨o, e⟩
    | dT kvs => obtain ⟨_, _, _, _, o, _, _, e, _⟩ := x; exact ⟨o, e⟩
    | set S n => obtain ⟨o, _, _, _, e, _⟩ := x; exact ⟨o, e⟩
    | ins C dx fs => obtain ⟨_, _, _, e, _⟩ := x; exact ⟨_, e⟩
    | ext φ => obtain ⟨_, ⟨_, e⟩, _⟩ := x; exact ⟨_, e⟩
    | _ => exact False.elim mu
  obtain ⟨od, e⟩ := ex
  have new : ObjOk X.prog X.w (upd H d (.frz od u)) s.heap d (.frz od u) := by
    refine ⟨e, x.stay (fun b v _ q => q) (fun b q => ?_) fun b xs q => ?_⟩
    · rw [upd_ne (fun z => by rw [z, h] at q; cases q; exact mu)]; exact q
    · rw [upd_ne (fun z => by rw [z, h] at q; cases q; exact mu)]; exact q
  exact ⟨od, I.write (x := d) (e := d) (t' := s.toks) (h' := s.heap) (by rw [h]; exact mu) (.inl rfl) (fun b v _ q => q) ⟨od, e⟩ new⟩
theorem Inv.nofrz {d : Addr} {u : HO} (I : Inv X pins σ H s) (h : H d = some u) (mu : Mut (some u)) : ∀ o' u', X.H_0 d ≠ some (.frz o' u') := fun o' u' e => by
  have q := I.base.frzs d o' u' e
  rw [h] at q
  cases q
  exact mu
theorem Inv.unlock {d : Addr} {od : Obj} {u : HO} (I : Inv X pins σ H s) (h : H d = some (.frz od u)) (hn : ∀ o' u', X.H_0 d ≠ some (.frz o' u')) : Inv X pins σ (upd H d u) s := by
  have neH : ∀ b o, H b = some o → (∀ o' u', o ≠ .frz o' u') → b ≠ d := fun b o e hne z => by
    rw [z, h] at e
    cases e
    exact hne _ _ rfl
  have neN : ∀ b, H b = none → b ≠ d := fun b e z => by rw [z, h] at e; cases e
  refine ⟨I.ok, I.os, I.bare, ⟨I.base.keep, I.base.slot, fun b o e n hx => ?_, I.base.there, fun b xs e => ?_, fun b o x e => ?_, fun b ps e => ?_⟩, I.loc, I.cell, ?_, fun x c e => ?_, fun p hp => ?_, fun b o e => ?_, I.len⟩
  · rw [upd_ne (neN b (I.base.free b o e n hx))]; exact I.base.free b o e n hx
  · have q := I.base.tups b xs e
    rw [upd_ne (neH b _ q (fun _ _ z => nomatch z))]; exact q
  · have q := I.base.frzs b o x e
    rw [upd_ne (fun z => by rw [z] at e; exact hn _ _ e)]; exact q
  · obtain ⟨m, q⟩ := I.base.tbls b ps e
    exact ⟨m, by rw [upd_ne (neH b _ q (fun _ _ z => nomatch z))]; exact q⟩
  · rw [upd_ne (neN _ I.free)]; exact I.free
  · rw [upd_ne (neN c (I.freeC x c e))]; exact I.freeC x c e
  · obtain ⟨e, n, r⟩ := I.pin p hp
    exact ⟨e, by rw [upd_ne (neN _ n)]; exact n, r⟩
  · by_cases hb : b = d
    · rw [hb, upd_same] at e
      cases e
      rw [hb]
      obtain ⟨_, x⟩ := I.hok d _ h
      exact x.stay (fun c v _ q => q) (fun c q => by rw [upd_ne (neH c _ q (fun _ _ z => nomatch z))]; exact q) fun c xs q => by rw [upd_ne (neH c _ q (fun _ _ z => nomatch z))]; exact q
    · rw [upd_ne hb] at e
      exact (I.hok b o e).stay (fun c v _ q => q) (fun c q => by rw [upd_ne (neH c _ q (fun _ _ z => nomatch z))]; exact q) fun c xs q => by rw [upd_ne (neH c _ q (fun _ _ z => nomatch z))]; exact q
end
def tLockE (t : TE) : TE := fun σ H Q => ∃ d u, H d = some u ∧ Mut (some u) ∧ ∀ od, t σ (upd H d (.frz od u)) fun v H' => H' d = some (.frz od u) ∧ Q v (upd H' d u)
section
variable {X : Cx}
theorem pe_lock {e : Expr} {t : TE} (h : PE X e t) : PE X e (tLockE t) := by
  intro pins s σ H Q I hw
  obtain ⟨d, u, hd, mu, hw⟩ := hw
  obtain ⟨od, I1⟩ := I.lock hd mu
  refine thn (h pins s σ _ _ I1 (hw od)) fun v s1 ⟨x, H1, I2, r, e2, q⟩ => ?_
  exact ⟨x, _, I2.unlock e2 (I.nofrz hd mu), r, q⟩
theorem pi_one {tg : Expr} {pins : List (Addr × Obj)} {σ : St} {H : Hp} {s : Shared} {R : It → Hp → Prop} {J : It} {tn : Nat → Heap → Prop} {tk : Nat} (I : Inv X pins σ H s) (o : Obj)
    (T : Turn X.prog X.w X.K tg J [s.heap.objs.size] s.heap.objs.size tn) (st : tn 0 (s.heap.push o)) (q : R J H) : PIE X pins σ tg R (.ref s.heap.objs.size) { s with heap := s.heap.push o, toks := tk } := by
  refine ⟨s.heap.objs.size, [s.heap.objs.size], tn, J, H, rfl, I.kept fun b ob e => Heap.get?_push_of_some _ e, T, st, fun b hb => ?_, q⟩
  have e : b = s.heap.objs.size := by simpa using hb
  subst e
  exact I.fpOk (Nat.le_refl _) (I.hok.fresh (Nat.le_refl _))
end
section
variable {X : Cx} {tg : Expr}
end
def Itv (K : PySem.W.Frag) (a : Addr) (n : Nat) : It :=
  ⟨fun i H => i < n ∧ ∃ (xs : List V) (x : V), SqL K H a xs ∧ xs[n - 1 - i]? = some x, fun i H x H' => H' = H ∧ ∀ xs, SqL K H a xs → xs[n - 1 - i]? = some x, fun i _ => n ≤ i⟩
theorem turn_rev {P : Program} {w : World} {K : PySem.W.Frag} {tg : Expr} (a it : Addr) (n : Nat) : Turn P w K tg (Itv K a n) [it] it (fun i h => i ≤ n ∧ h.IsRevIter it a ((n : Int) - 1 - (i : Nat))) where
  mem := by simp
  obj := fun i h st b hb => by
    have e : b = it := by simpa using hb
    subst e
    obtain ⟨_, o, e, c, d⟩ := st
    exact ⟨o, e, fun v z => by rw [d] at z; cases z⟩
  keep := fun i h h' st k => ⟨st.1, st.2.at fun o e => k it (by simp) o e⟩
  item := by
    intro X hP hw hK hc i pins s σ H E I hf st hg
    subst hP hw hK
    obtain ⟨hin, xs, x, hq, hx⟩ := hg
    obtain ⟨its, rv, p, hz⟩ := I.list hq
    obtain ⟨u, hu, ru⟩ := rv.get hx
    obtain ⟨f0, f1, f2, f3, f4, f5⟩ := hf it (by simp)
    obtain ⟨_, hit⟩ := st
    have e1 : (n : Int) - 1 - ((i : Nat) : Int) = ((n - 1 - i : Nat) : Int) := by omega
    rw [e1] at hit
    refine wpAny_pyNext_rev_item hit p.isList (x := u) (by simpa using hu) fun h' st' sb => ?_
    have e2 : ((n - 1 - i : Nat) : Int) - 1 = (n : Int) - 1 - ((i + 1 : Nat) : Int) := by omega
    rw [e2] at st'
    have I1 : Inv X pins σ H { s with heap := h' } := I.turned (t' := s.toks) (fun b o hb e => (sb.2 b hb).trans e) f0 f1 f3 f4 f5
    obtain ⟨o, e, c, d⟩ := id st'
    exact ⟨u, rfl, go_of (s := { s with heap := h' }) e c d (by decide) ⟨x, H, I1, ru, ⟨rfl, fun ys hy => by rw [I.list_inj hy hq]; exact hx⟩, ⟨hin, st'⟩, fun b hb => (hf b hb).1⟩⟩
  done := by
    intro X hP hw hK hc i pins s σ H E I hf st hg
    subst hP hw hK
    obtain ⟨f0, f1, f2, f3, f4, f5⟩ := hf it (by simp)
    obtain ⟨hin, hit⟩ := st
    have hge : n ≤ i := hg
    have e1 : (n : Int) - 1 - ((i : Nat) : Int) = -1 := by omega
    rw [e1] at hit
    exact wpAny_pyNext_rev_end (I.ok.hd hc) hit fun h' eb => ⟨rfl, I.turned (t' := s.toks) (fun b o hb e => eb b o hb e) f0 f1 f3 f4 f5⟩
  self := fun A i s Q E st h => wpAny_pyIter_revIter st.2 h
def iRev (K : PySem.W.Frag) (ta : TA) : TI := fun σ H R => ta σ H fun vs H1 => ∃ (a : Addr) (xs : List V), vs = [.ref a] ∧ SqL K H1 a xs ∧ R (Itv K a xs.length) H1
section
variable {X : Cx} {tg : Expr}
theorem pi_reversed {e : Expr} {ta : TA} {p pos : Pos} (hg : Gl X "reversed") (hm : X.mg "reversed" = none) (ha : PA X [e] ta) (hs : starEach [e] X.env = [(false, eval e X.env)] := by rfl) : PI X tg (.Call (.Name "reversed" p) [e] [] pos) (iRev X.K ta) := by
  intro pins s σ H R I h
  refine Call_ (ld_blt I hg hm boot_reversed5 (PyProof.Rows.callWith_type1 (thn (ha pos pins s σ H _ I h) fun us s1 ⟨vs, H1, I1, r1, q1⟩ => ?_) hs rfl))
  obtain ⟨a, xs, e, hq, q⟩ := q1
  subst e
  cases r1 with
  | cons r rr =>
    cases rr
    cases r
    obtain ⟨its, rv, p', hz⟩ := I1.list hq
    have hl := rv.length
    have e1 : ((its.toArray.size : Nat) : Int) - 1 = (xs.length : Int) - 1 - ((0 : Nat) : Int) := by simp only [List.size_toArray]; omega
    refine call_reversed_list p'.isList (wpAny_pyIter_revIter (l := a) (i := ((its.toArray.size : Nat) : Int) - 1) ⟨_, Heap.get?_push_size _ rfl, rfl, rfl⟩ ?_)
    refine pi_one (tk := s1.toks) I1 _ (turn_rev a _ xs.length) ⟨Nat.zero_le _, ?_⟩ q
    rw [← e1]
    exact ⟨_, Heap.get?_push_size _ rfl, rfl, rfl⟩
end
def Its (x : Str) : It := ⟨fun i _ => i < x.cps.size, fun i H v H' => H' = H ∧ ∃ c, x.cps[i]? = some c ∧ v = .str ⟨#[c]⟩, fun i _ => x.cps.size ≤ i⟩
theorem turn_str {P : Program} {w : World} {K : PySem.W.Frag} {tg : Expr} (it : Addr) (x : Str) (t : Tok) (ty : String) (hty : ty = "str_ascii_iterator" ∨ ty = "str_iterator") :
    Turn P w K tg (Its x) [it] it (fun i h => h.IsStrIter it ty x t i) where
  mem := by simp
  obj := fun i h st b hb => by
    have e : b = it := by simpa using hb
    subst e
    obtain ⟨o, e, c, d⟩ := st
    exact ⟨o, e, fun v z => by rw [d] at z; cases z⟩
  keep := fun i h h' st k => let ⟨o, ho, r⟩ := st; ⟨o, k it (by simp) o ho, r⟩
  item := by
    intro X hP hw hK hc i pins s σ H E I hf st hg
    subst hP hw hK
    obtain ⟨f0, f1, f2, f3, f4, f5⟩ := hf it (by simp)
    have W : Walks X.prog X.w X.A it [it] [it] x.cps.size (SignAt x) (fun i h => h.IsStrIter it ty x t i) := by
      rcases hty with e | e
      · rw [e]; exact Walks.strAscii (I.ok.hd hc) it x t
      · rw [e]; exact Walks.strWide (I.ok.hd hc) it x t
    have hno : ["enumerate", "zip", "dict_itemiterator", "dict_reverseitemiterator", "odict_iterator", "itertools.zip_longest", "itertools.pairwise"].contains ty = false := by
      rcases hty with e | e
      · rw [e]; decide
      · rw [e]; decide
    refine W.item i s _ _ hg st fun v h' tk hv st' kk => ?_
    obtain ⟨c, u, hcx, rfl⟩ := hv
    have I1 : Inv X pins σ H { s with heap := h', toks := tk } := I.turned (fun b o hb e => kk b o (by simpa using hb) e) f0 f1 f3 f4 f5
    obtain ⟨oi, e, cc, dd⟩ := id st'
    exact ⟨_, rfl, go_of (s := { s with heap := h', toks := tk }) e cc dd hno ⟨.str ⟨#[c]⟩, H, I1, ⟨u, rfl⟩, ⟨rfl, c, hcx, rfl⟩, st', fun b hb => (hf b hb).1⟩⟩
  done := by
    intro X hP hw hK hc i pins s σ H E I hf st hg
    subst hP hw hK
    obtain ⟨f0, f1, f2, f3, f4, f5⟩ := hf it (by simp)
    have hx : x.cps[i]? = none := Array.getElem?_eq_none hg
    rcases hty with e | e
    · rw [e] at st
      exact wpAny_pyNext_ascii_end (I.ok.hd hc) st hx fun h' eb => ⟨rfl, I.turned (t' := s.toks) (fun b o hb e => eb b o hb e) f0 f1 f3 f4 f5⟩
    · rw [e] at st
      exact wpAny_pyNext_wide_end (I.ok.hd hc) st hx fun h' eb => ⟨rfl, I.turned (t' := s.toks) (fun b o hb e => eb b o hb e) f0 f1 f3 f4 f5⟩
  self := fun A i s Q E st h => by
    rcases hty with e | e
    · rw [e] at st; exact wpAny_pyIter_striter_ascii st h
    · rw [e] at st; exact wpAny_pyIter_striter_wide st h
def iStr (te : TE) : TI := fun σ H R => te σ H fun v H1 => ∃ x, v = .str x ∧ R (Its x) H1
theorem pi_str {X : Cx} {tg e : Expr} {te : TE} (he : PE X e te) : PI X tg e (iStr te) := by
  intro pins s σ H R I h
  refine thn (he pins s σ H _ I h) fun v s1 ⟨y, H1, I1, r1, x, ex, q⟩ => ?_
  subst ex
  obtain ⟨t, rfl⟩ := r1
  cases ha : x.cps.all (· < 128)
  · exact wpAny_pyIter_wide ha (pi_one (tk := s1.toks) I1 _ (turn_str _ x t "str_iterator" (.inr rfl)) ⟨_, Heap.get?_push_size _ rfl, rfl, rfl⟩ q)
  · exact wpAny_pyIter_ascii ha (pi_one (tk := s1.toks) I1 _ (turn_str _ x t "str_ascii_iterator" (.inl rfl)) ⟨_, Heap.get?_push_size _ rfl, rfl, rfl⟩ q)
section
variable {prog : Program} {w : World} {A : Around} {E : Value → Shared → Prop} {s : Shared}
end
theorem paired_get {α β : Type} {G : α → β → Prop} {l₁ : List α} {l₂ : List β} (h : Paired G l₁ l₂) : ∀ {i : Nat} {a : α}, l₁[i]? = some a → ∃ b, l₂[i]? = some b ∧ G a b := by
  induction h with
  | nil => intro i a e; simp at e
  | @cons a b l₁ l₂ r t ih =>
    intro i a' e
    cases i with
    | zero =>
      simp only [List.getElem?_cons_zero, Option.some.injEq] at e
      subst e
      exact ⟨b, rfl, r⟩
    | succ j =>
      simp only [List.getElem?_cons_succ] at e ⊢
      exact ih e
section
variable {X : Cx} {pins : List (Addr × Obj)} {σ : St} {H : Hp} {s : Shared} {d : Addr} {o : Obj}
end
section
variable {P : Program} {w : World} {K : PySem.W.Frag} {tg : Expr} {d : Addr} {o : Obj} {es : Array DictEntry} {ep : Nat}
end
section
variable {X : Cx} {tg e : Expr} {td : TE} {apos cpos : Pos}
end
end L2
section
namespace Bits
open PySem PyProof.Rows
end Bits
end
section
namespace TL
open PySem PySem.Builtin PySem.Builtin.Str PySem.StrLaws
abbrev tl (x : Str) : List Nat := x.cps.toList
def pre (S l : List Nat) : Bool := l.take S.length == S
def spl (S : List Nat) : Nat → List Nat → List Nat → List (List Nat)
  | _, acc, [] => [acc]
  | 0, acc, c :: r => if pre S (c :: r) = true then acc :: spl S (S.length - 1) [] r else spl S 0 (acc ++ [c]) r
  | k + 1, acc, _ :: r => spl S k acc r
def par (S : List Nat) : List Nat → List Nat → Option (List Nat × List Nat)
  | _, [] => none
  | acc, c :: r => if pre S (c :: r) = true then some (acc, (c :: r).drop S.length) else par S (acc ++ [c]) r
end TL
end
namespace L2
open PySem PySem.Spec PyProof.Rows
section
variable {X : Cx} {pins : List (Addr × Obj)} {σ : St} {H : Hp} {s : Shared} {Q : VK}
end
section
variable {X : Cx}
end
section
variable {X : Cx} {o e : Expr} {to te : TE}
end
end L2
namespace L2
open PySem PySem.Spec PyProof.Rows
section
variable {X : Cx}
end
end L2
namespace Att
open PySem PySem.W PySem.Calls PyProof.Rows
section
variable {prog : Program} {w : World} {A : Around} {E : Value → Shared → Prop} {s : Shared} {K : Frag}
def ledger (h : Heap) (L d : Addr) : List (Addr × Obj) := (List.range h.objs.size).filterMap fun a => if a = L ∨ a = d then none else (h.get? a).map fun o => (a, o)
end
end Att
namespace L2
open PySem PySem.Spec PyProof.Rows
end L2
namespace L2
open PySem PySem.Spec PyProof.Rows
abbrev KOf {K : PySem.W.Frag} {h : Heap} (_ : K.In h) : PySem.W.Frag := K
end L2
namespace L2
open PySem PySem.Spec PyProof.Rows
def inClass (s : Stmt) (j : Nat) : Stmt := match s with
  | .ClassDef _ _ _ body _ _ _ _ _ _ _ => body.getD j (.Pass ⟨0, 0, 0, 0⟩)
  | _ => .Pass ⟨0, 0, 0, 0⟩
def defArgs (s : Stmt) : Arguments := match s with
  | .FunctionDef _ a _ _ _ _ _ _ _ _ => a
  | _ => { posonlyargs := [], args := [], vararg := none, kwonlyargs := [], kw_defaults := [], kwarg := none, defaults := [] }
def defBody (s : Stmt) : List Stmt := match s with
  | .FunctionDef _ _ b _ _ _ _ _ _ _ => b
  | _ => []
def defScope (s : Stmt) : Scope := match s with
  | .FunctionDef _ _ _ _ _ _ sc _ _ _ => sc
  | _ => { kind := .function, names := [], isGenerator := false, isCoroutine := false }
abbrev CX0 : CXT := fun _ _ _ _ _ _ => False
abbrev E0 : XK := fun _ _ _ => False
theorem pass0 {X : Cx} : Passes CX0 X E0 := fun _ _ _ _ _ _ _ h => h.elim
structure Fun (K : PySem.W.Frag) (x qual : Str) (st : Stmt) (f : Addr) (fd : FuncData) : Prop where
  ex : ∃ (oc : Value) (od : Option Addr) (kV doc pm : Value) (an : Option Addr) (cdv ct : Value) (osl : Array (Option Value)),
    fd = PySem.W.fnOf x qual (defArgs st) (defBody st) (defScope st) .none kV doc pm an cdv ct ∧ K.lookup f = some ⟨oc, od, .func fd, osl⟩ ∧ PySem.W.codeIn K cdv qual = true
  kp : PySem.W.keepIn K (.ref f) = true
section
variable {P : Program} {w : World} {K : PySem.W.Frag} {mg : Str → Option Value} {base : Heap}
theorem Fun.ok {x qual : Str} {st : Stmt} {f : Addr} {fd : FuncData} {N ps : List Str} {k : Nat} {sp : Sp} (F : Fun K x qual st f fd) (S : FnScope N ps (defScope st)) (len : ∀ vs H Q E, sp vs H Q E → vs.length = ps.length)
    (hbody : ∀ (cdv : Value) (A : Around) (outer : List Env) (s : Shared) (H : Hp) (vs : List V) (Q : VK) (E : XK), Room k (A.deeper (envOfC qual (defScope st) s.heap.objs.size f cdv)) → sp vs H Q E →
      ∃ t, PSs (cxOf CX0 P w K mg base N qual (defScope st) f cdv A outer s H E).nox (defBody st) t ∧ t { nx := fun _ H' => Q .non H', rt := Q } (start N vs) H) : FnOk P w K mg base CX0 (k + 1) f fd ps sp := by
  obtain ⟨oc, od, kV, doc, pm, an, cdv, ct, osl, rfl, lk, hcd⟩ := F.ex
  refine fn_of lk hcd S len fun A outer s H vs Q E hr hsp => ?_
  obtain ⟨t, h, q⟩ := hbody cdv A outer s H vs Q E hr hsp
  exact ⟨t, h.nox, q⟩
theorem Fun.binds {x qual : Str} {st : Stmt} {f : Addr} {fd : FuncData} {ps : List Str} (F : Fun K x qual st f fd)
    (h : ∀ (kV doc pm : Value) (an : Option Addr) (cdv ct : Value) (us : List Value), us.length = ps.length → bindArgs (PySem.W.fnOf x qual (defArgs st) (defBody st) (defScope st) .none kV doc pm an cdv ct) ⟨us, []⟩ = pure (ps.zip us)) : Binds K fd ps [] := by
  obtain ⟨oc, od, kV, doc, pm, an, cdv, ct, osl, rfl, lk, hcd⟩ := F.ex
  exact .all (h kV doc pm an cdv ct)
theorem fun_mk {x qual : Str} {st : Stmt} {f : Addr} {oc : Value} {od an : Option Addr} {osl : Array (Option Value)} {kV doc pm cdv ct : Value} (l : K.lookup f = some ⟨oc, od, .func (PySem.W.fnOf x qual (defArgs st) (defBody st) (defScope st) .none kV doc pm an cdv ct), osl⟩)
    (c : PySem.W.codeIn K cdv qual = true) (k : PySem.W.keepIn K (.ref f) = true) : Fun K x qual st f (PySem.W.fnOf x qual (defArgs st) (defBody st) (defScope st) .none kV doc pm an cdv ct) := ⟨⟨oc, od, kV, doc, pm, an, cdv, ct, osl, rfl, l, c⟩, k⟩
end
theorem hu_of {A : Around} {k : Nat} (hr : Room k A) : A.units + 1 < cLine := Nat.lt_of_le_of_lt (Nat.add_le_add_left (by decide : 1 ≤ 64) _) hr.units
theorem small1000 {n : Nat} (h : n ≤ 1000) : n < sizeLine := Nat.lt_of_le_of_lt h (by decide)
section
variable {X : Cx}
theorem pv (i : Nat) {x : Str} {pos : Pos} (hN : X.N[i]? = some x := by rfl) (hv : Vis X.env.scope x := by first | exact Or.inl rfl | exact Or.inr (Or.inl rfl) | exact Or.inr (Or.inr rfl)) (hd : (x == ("__debug__" : Str)) = false := by decide)
    (hcd : (x == ("__classdict__" : Str)) = false := by decide) : PE X (.Name x pos) (tVar i) := pe_var hN hv hd hcd
theorem call_lenD : CallR X (.builtin "len") (fun xs H Q => ∃ a kvs, xs = [V.ref a] ∧ H a = some (.dK kvs) ∧ Q (.int kvs.length) H) := by
  intro pins s σ H xs us Q I r h
  obtain ⟨a, kvs, rfl, ha, q⟩ := h
  obtain ⟨u, rfl, ru⟩ := vals1 r
  cases ru
  exact d_len I (.inl ha) fun t s' I' => ⟨.int kvs.length, H, I', ⟨t, rfl⟩, q⟩
end
def Same (H H' : Hp) : Prop := ∀ b o, H b = some o → H' b = some o
theorem Same.refl (H : Hp) : Same H H := fun _ _ h => h
theorem Same.trans {H H1 H2 : Hp} (a : Same H H1) (b : Same H1 H2) : Same H H2 := fun c o h => b c o (a c o h)
theorem Same.free {H H' : Hp} (e : Same H H') {l : Addr} (h : H' l = Option.none) : H l = Option.none := by
  cases q : H l with
  | none => rfl
  | some o =>
    rw [e l o q] at h
    cases h
theorem Same.seq {K : PySem.W.Frag} {H H' : Hp} {a : Addr} {xs : List V} (e : Same H H') (h : SqL K H a xs) : SqL K H' a xs := by
  rcases h with (h | ⟨o, h⟩) | h
  · exact .inl (.inl (e _ _ h))
  · exact .inl (.inr ⟨o, e _ _ h⟩)
  · exact .inr h
section
variable {κ : Type} [DecidableEq κ]
theorem nd_snoc : ∀ {l : List κ} {k : κ}, l.Nodup → ¬ k ∈ l → (l ++ [k]).Nodup
  | [], k, _, _ => by simp
  | a :: r, k, h, hk => by
    obtain ⟨h1, h2⟩ := List.nodup_cons.mp h
    show (a :: (r ++ [k])).Nodup
    refine List.nodup_cons.mpr ⟨fun m => ?_, nd_snoc h2 fun m => hk (List.mem_cons.mpr (Or.inr m))⟩
    rcases List.mem_append.mp m with q | q
    · exact h1 q
    · exact hk (List.mem_cons.mpr (Or.inl (List.mem_singleton.mp q).symm))
end
theorem Same.made {H H1 : Hp} {x dx C : Addr} (nx : H x = Option.none) (nd : H dx = Option.none) (k : ∀ b o, (upd (upd H dx (.own x)) x (.ins C dx [])) b = some o → b ≠ x → H1 b = some o) : Same H H1 := fun b o e =>
  k b o (by rw [upd_ne (ne_of_none e nx), upd_ne (ne_of_none e nd)]; exact e) (ne_of_none e nx)
end L2
section
set_option maxHeartbeats 2000000
namespace L2
open PySem PySem.Spec PyProof.Rows
open PySem.W (WData Codec OpenSpec Well WellAll ReadsW ReadsAllW)
mutual
inductive Dw (K : PySem.W.Frag) (H : Hp) : V → WData → Prop
  | non : Dw K H .non .none
  | bl (b : Bool) : Dw K H (.bl b) (.bool b)
  | int (i : Int) : Dw K H (.int i) (.int i)
  | str (x : Str) : Dw K H (.str x) (.str x)
  | byt (b : Array UInt8) : Dw K H (.byt b) (.bytes b.toList)
  | lst {a : Addr} {xs : List V} {ds : List WData} : SqL K H a xs → DwAll K H xs ds → Dw K H (.ref a) (.list ds)
  | tup {a : Addr} {xs : List V} {ds : List WData} : SqT K H a xs → DwAll K H xs ds → Dw K H (.ref a) (.tuple ds)
inductive DwAll (K : PySem.W.Frag) (H : Hp) : List V → List WData → Prop
  | nil : DwAll K H [] []
  | cons {v : V} {vs : List V} {d : WData} {ds : List WData} : Dw K H v d → DwAll K H vs ds → DwAll K H (v :: vs) (d :: ds)
end
theorem dw_ints {K : PySem.W.Frag} {H : Hp} : ∀ ns : List Int, DwAll K H (ns.map V.int) (ns.map WData.int)
  | [] => .nil
  | n :: r => .cons (.int n) (dw_ints r)
theorem ints_dw {K : PySem.W.Frag} {H : Hp} : ∀ (ns : List Int) (xs : List V), DwAll K H xs (ns.map WData.int) → xs = ns.map V.int
  | [], xs, h => by
    cases h
    rfl
  | n :: r, xs, h => by
    cases h with
    | cons h1 h2 =>
      cases h1
      rw [ints_dw r _ h2] <;> rfl
section
variable {P : Program} {w : World} {K : PySem.W.Frag} {H : Hp} {h : Heap} {R : PySem.W.WRecords} {cl : Str → Option Addr}
theorem sqL_at {a : Addr} {xs : List V} (hok : HOk P w H h) (KX : K.In h) (q : SqL K H a xs) : ∃ (its : List Value) (o : Obj) (n : Nat), Vals xs its ∧ h.get? a = some o ∧ o.cls = .type "list" ∧ o.data = .seq its.toArray n := by
  rcases q with q | ⟨o, its, n, e, hc, _, hd, _, hv⟩
  · obtain ⟨_, its, n, hv, e⟩ := (show ObjOk P w H h a (.lst xs) from q.ok hok)
    exact ⟨its, _, n, hv, e, rfl, rfl⟩
  · exact ⟨its.toList, o, n, hv, KX _ _ e, hc, by simp [hd]⟩
theorem sqT_at {a : Addr} {xs : List V} (hok : HOk P w H h) (KX : K.In h) (q : SqT K H a xs) : ∃ (its : List Value) (o : Obj) (n : Nat), Vals xs its ∧ h.get? a = some o ∧ o.cls = .type "tuple" ∧ o.data = .seq its.toArray n := by
  rcases q with q | ⟨o, its, n, e, hc, hd, _, hv⟩
  · obtain ⟨_, its, hv, o, e, hc, n, hd⟩ := (show ObjOk P w H h a (.tup xs) from q.ok hok)
    exact ⟨its, o, n, hv, e, hc, hd⟩
  · exact ⟨its.toList, o, n, hv, KX _ _ e, hc, by simp [hd]⟩
mutual
theorem Dw.reads (hok : HOk P w H h) (KX : K.In h) : ∀ (d : WData) (v : V) (u : Value), Dw K H v d → RelV v u → ∃ as, ReadsW R cl h u d as
  | .none, _, _, x, r => by
    cases x
    cases r
    exact ⟨_, ReadsW.none⟩
  | .bool b, _, _, x, r => by
    cases x
    cases r
    exact ⟨_, ReadsW.bool b⟩
  | .int i, _, _, x, r => by
    cases x
    obtain ⟨t, rfl⟩ := r
    exact ⟨_, ReadsW.int i t⟩
  | .str s, _, _, x, r => by
    cases x
    obtain ⟨t, rfl⟩ := r
    exact ⟨_, ReadsW.str s t⟩
  | .bytes b, _, _, x, r => by
    cases x
    obtain ⟨t, rfl⟩ := r
    exact ⟨_, ReadsW.bytes _ t⟩
  | .list ds, _, _, x, r => by
    cases x with
    | lst hs ha =>
      cases r
      obtain ⟨its, o, n, rv, ho, hc, hd⟩ := sqL_at hok KX hs
      obtain ⟨as, hr⟩ := Dw.readsAll hok KX ds _ its ha rv
      exact ⟨_, ReadsW.list ho hc hd hr⟩
  | .tuple ds, _, _, x, r => by
    cases x with
    | tup hs ha =>
      cases r
      obtain ⟨its, o, n, rv, ho, hc, hd⟩ := sqT_at hok KX hs
      obtain ⟨as, hr⟩ := Dw.readsAll hok KX ds _ its ha rv
      exact ⟨_, ReadsW.tuple ho hc hd hr⟩
  | .float _, _, _, x, _ => by cases x
  | .dict _, _, _, x, _ => by cases x
  | .bytearray _, _, _, x, _ => by cases x
  | .set _, _, _, x, _ => by cases x
  | .frozenset _, _, _, x, _ => by cases x
  | .obj _ _, _, _, x, _ => by cases x
theorem Dw.readsAll (hok : HOk P w H h) (KX : K.In h) : ∀ (ds : List WData) (vs : List V) (us : List Value), DwAll K H vs ds → Vals vs us → ∃ as, ReadsAllW R cl h us ds as
  | [], _, _, x, r => by
    cases x
    cases r
    exact ⟨_, ReadsAllW.nil⟩
  | d :: ds, _, _, x, r => by
    cases x with
    | cons h1 h2 =>
      cases r with
      | cons r1 r2 =>
        obtain ⟨as, q1⟩ := Dw.reads hok KX d _ _ h1 r1
        obtain ⟨bs, q2⟩ := Dw.readsAll hok KX ds _ _ h2 r2
        exact ⟨_, ReadsAllW.cons q1 q2⟩
end
end
mutual
def plW : WData → Bool
  | .none => true
  | .bool _ => true
  | .int _ => true
  | .str _ => true
  | .bytes _ => true
  | .list xs => plWs xs
  | .tuple xs => plWs xs
  | _ => false
def plWs : List WData → Bool
  | [] => true
  | x :: r => plW x && plWs r
end
theorem plWs_map {α : Type} {f : α → WData} (h : ∀ a, plW (f a) = true) : ∀ l : List α, plWs (l.map f) = true
  | [] => rfl
  | x :: r => by
    show (plW (f x) && plWs (r.map f)) = true
    rw [h x, plWs_map h r] <;> rfl
theorem pl_enc : ∀ (c : Codec) (a : c.denote), plW (c.enc a) = true
  | .unit, _ => rfl
  | .bool, _ => rfl
  | .int _ _, _ => rfl
  | .nat _ _, _ => rfl
  | .u8, _ => rfl
  | .bytes _ _, _ => rfl
  | .text _ _ _ _, _ => rfl
  | .list _ _ c, a => plWs_map (fun x => pl_enc c x) a
  | .pair c d, a => by
    show (plW (c.enc a.1) && (plW (d.enc a.2) && true)) = true
    rw [pl_enc c a.1, pl_enc d a.2] <;> rfl
  | .triple c d e, a => by
    show (plW (c.enc a.1) && (plW (d.enc a.2.1) && (plW (e.enc a.2.2) && true))) = true
    rw [pl_enc c a.1, pl_enc d a.2.1, pl_enc e a.2.2] <;> rfl
  | .option c, none => rfl
  | .option c, some x => pl_enc c x
theorem pl_encAll : ∀ (cs : List Codec) (a : Codec.denoteAll cs), plWs (Codec.encAll cs a) = true
  | [], _ => rfl
  | c :: cs, a => by
    show (plW (c.enc a.1) && plWs (Codec.encAll cs a.2)) = true
    rw [pl_enc c a.1, pl_encAll cs a.2] <;> rfl
theorem weight_mem : ∀ {xs : List WData} {d : WData}, d ∈ xs → d.weight ≤ WData.weightAll xs
  | [], d, h => absurd h (by simp)
  | x :: r, d, h => by
    show d.weight ≤ x.weight + 1 + WData.weightAll r
    rcases List.mem_cons.mp h with e | m
    · rw [e]
      omega
    · have z := weight_mem m
      omega
def toV : Value → V
  | .none => .non
  | .bool b => .bl b
  | .int i _ => .int i
  | .str x _ => .str x
  | .bytes b _ => .byt b
  | .ref a => .ref a
  | _ => .non
def OkU (A : List Addr) : Value → Prop
  | .none => True
  | .bool _ => True
  | .int _ _ => True
  | .str _ _ => True
  | .bytes _ _ => True
  | .ref a => a ∈ A
  | _ => False
theorem OkU.mono {A B : List Addr} (h : ∀ a ∈ A, a ∈ B) : ∀ {u : Value}, OkU A u → OkU B u := fun {u} x => by
  cases u with
  | ref a => exact h a x
  | none => trivial
  | bool b => trivial
  | int i t => trivial
  | str s t => trivial
  | bytes b t => trivial
  | _ => exact False.elim x
theorem relV_toV {A : List Addr} {u : Value} (x : OkU A u) : RelV (toV u) u := by
  cases u with
  | ref a => rfl
  | none => rfl
  | bool b => rfl
  | int i t => exact ⟨t, rfl⟩
  | str s t => exact ⟨t, rfl⟩
  | bytes b t => exact ⟨t, rfl⟩
  | _ => exact False.elim x
theorem vals_toV {A : List Addr} : ∀ {vs : List Value}, (∀ u ∈ vs, OkU A u) → Vals (vs.map toV) vs
  | [], _ => .nil
  | u :: r, h => .cons (relV_toV (h u (List.mem_cons_self ..))) (vals_toV fun x hx => h x (List.mem_cons_of_mem _ hx))
def ArgOb (h : Heap) (A : List Addr) (a : Addr) : Prop := ∃ vs : List Value, vs.length ≤ sizeLine ∧ (∀ u ∈ vs, OkU A u) ∧
  (h.get? a = some { cls := .type "list", data := .seq vs.toArray } ∨ h.get? a = some { cls := .type "tuple", data := .seq vs.toArray })
theorem ArgOb.mono {h : Heap} {A B : List Addr} {a : Addr} (k : ∀ a ∈ A, a ∈ B) (x : ArgOb h A a) : ArgOb h B a := by
  obtain ⟨vs, h1, h2, h3⟩ := x
  exact ⟨vs, h1, fun u hu => (h2 u hu).mono k, h3⟩
theorem wellAll_len {P : Params} {h : Heap} : ∀ {vs : List Value} {ds : List WData}, WellAll P h vs ds → vs.length = ds.length
  | _, _, .nil => rfl
  | _, _, .cons _ b => by
    show _ + 1 = _ + 1
    rw [wellAll_len b]
theorem well_list {P : Params} {h : Heap} {v : Value} {ds : List WData} (x : Well P h v (.list ds)) : ∃ (a : Addr) (vs : List Value), v = .ref a ∧ h.get? a = some { cls := .type "list", data := .seq vs.toArray } ∧ WellAll P h vs ds := by
  cases x with
  | list ho hall => exact ⟨_, _, rfl, ho, hall⟩
theorem well_tuple {P : Params} {h : Heap} {v : Value} {ds : List WData} (x : Well P h v (.tuple ds)) : ∃ (a : Addr) (vs : List Value), v = .ref a ∧ h.get? a = some { cls := .type "tuple", data := .seq vs.toArray } ∧ WellAll P h vs ds := by
  cases x with
  | tuple ho hall => exact ⟨_, _, rfl, ho, hall⟩
theorem well_cons {P : Params} {h : Heap} {us : List Value} {d : WData} {ds : List WData} (x : WellAll P h us (d :: ds)) : ∃ (v : Value) (vs : List Value), us = v :: vs ∧ Well P h v d ∧ WellAll P h vs ds := by
  cases x with
  | cons a b => exact ⟨_, _, rfl, a, b⟩
theorem line_of {n : Nat} (h : n ≤ 1048576) : n ≤ sizeLine := Nat.le_trans h (by decide)
section
variable {P : Params} {h : Heap}
mutual
theorem area_one : ∀ (d : WData) (v : Value), Well P h v d → plW d = true → d.weight ≤ 1048576 → ∃ A : List Addr, OkU A v ∧ ∀ a ∈ A, ArgOb h A a
  | .none, _, x, _, _ => by
    cases x
    exact ⟨[], trivial, fun a m => absurd m (by simp)⟩
  | .bool b, _, x, _, _ => by
    cases x
    exact ⟨[], trivial, fun a m => absurd m (by simp)⟩
  | .int i, _, x, _, _ => by
    cases x
    exact ⟨[], trivial, fun a m => absurd m (by simp)⟩
  | .str s, _, x, _, _ => by
    cases x
    exact ⟨[], trivial, fun a m => absurd m (by simp)⟩
  | .bytes b, _, x, _, _ => by
    cases x
    exact ⟨[], trivial, fun a m => absurd m (by simp)⟩
  | .list ds, _, x, p, z => by
    obtain ⟨a, vs, rfl, ho, hall⟩ := well_list x
    have z2 : WData.weightAll ds ≤ 1048576 := z
    obtain ⟨A, h1, h2⟩ := area_all ds _ hall p fun d hd => Nat.le_trans (weight_mem hd) z2
    have k : ∀ b ∈ A, b ∈ a :: A := fun b hb => List.mem_cons_of_mem _ hb
    refine ⟨a :: A, List.mem_cons_self .., fun b hb => ?_⟩
    rcases List.mem_cons.mp hb with e | m
    · rw [e]
      exact ⟨vs, line_of (by rw [wellAll_len hall]; exact Nat.le_trans (PySem.W.length_le_weightAllW ds) z2), fun u hu => (h1 u hu).mono k, .inl ho⟩
    · exact (h2 b m).mono k
  | .tuple ds, _, x, p, z => by
    obtain ⟨a, vs, rfl, ho, hall⟩ := well_tuple x
    have z2 : WData.weightAll ds ≤ 1048576 := z
    obtain ⟨A, h1, h2⟩ := area_all ds _ hall p fun d hd => Nat.le_trans (weight_mem hd) z2
    have k : ∀ b ∈ A, b ∈ a :: A := fun b hb => List.mem_cons_of_mem _ hb
    refine ⟨a :: A, List.mem_cons_self .., fun b hb => ?_⟩
    rcases List.mem_cons.mp hb with e | m
    · rw [e]
      exact ⟨vs, line_of (by rw [wellAll_len hall]; exact Nat.le_trans (PySem.W.length_le_weightAllW ds) z2), fun u hu => (h1 u hu).mono k, .inr ho⟩
    · exact (h2 b m).mono k
  | .float _, _, _, p, _ => Bool.noConfusion (show false = true from p)
  | .dict _, _, _, p, _ => Bool.noConfusion (show false = true from p)
  | .bytearray _, _, _, p, _ => Bool.noConfusion (show false = true from p)
  | .set _, _, _, p, _ => Bool.noConfusion (show false = true from p)
  | .frozenset _, _, _, p, _ => Bool.noConfusion (show false = true from p)
  | .obj _ _, _, _, p, _ => Bool.noConfusion (show false = true from p)
theorem area_all : ∀ (ds : List WData) (vs : List Value), WellAll P h vs ds → plWs ds = true → (∀ d ∈ ds, d.weight ≤ 1048576) → ∃ A : List Addr, (∀ u ∈ vs, OkU A u) ∧ ∀ a ∈ A, ArgOb h A a
  | [], _, x, _, _ => by
    cases x
    exact ⟨[], fun u m => absurd m (by simp), fun a m => absurd m (by simp)⟩
  | d :: ds, _, x, p, z => by
    obtain ⟨v, vs, rfl, x1, x2⟩ := well_cons x
    have q : plW d = true ∧ plWs ds = true := Bool.and_eq_true_iff.mp p
    obtain ⟨A, a1, a2⟩ := area_one d v x1 q.1 (z d (List.mem_cons_self ..))
    obtain ⟨B, b1, b2⟩ := area_all ds vs x2 q.2 fun e he => z e (List.mem_cons_of_mem _ he)
    have kA : ∀ b ∈ A, b ∈ A ++ B := fun b hb => List.mem_append.mpr (.inl hb)
    have kB : ∀ b ∈ B, b ∈ A ++ B := fun b hb => List.mem_append.mpr (.inr hb)
    refine ⟨A ++ B, fun u hu => ?_, fun b hb => ?_⟩
    · rcases List.mem_cons.mp hu with e | m
      · rw [e]
        exact a1.mono kA
      · exact (b1 u m).mono kB
    · rcases List.mem_append.mp hb with m | m
      · exact (a2 b m).mono kA
      · exact (b2 b m).mono kB
end
end
def hoOf (o : Obj) : Option HO := match o.data with
  | .seq vs _ => if (o.cls == Value.type "list") = true then some (.frz o (.lst (vs.toList.map toV))) else some (.frz o (.tup (vs.toList.map toV)))
  | _ => none
def argH (K : PySem.W.Frag) (h : Heap) (A : List Addr) : Hp := fun b => if b ∈ A then (if (K.lookup b).isNone = true then (h.get? b).bind hoOf else none) else none
def OnlyF (H : Hp) : Prop := ∀ b, H b = none ∨ ∃ o u, H b = some (.frz o u)
theorem hoOf_lst (vs : List Value) : hoOf { cls := .type "list", data := .seq vs.toArray } = some (.frz { cls := .type "list", data := .seq vs.toArray } (.lst (vs.map toV))) := by
  show (if (Value.type "list" == Value.type "list") = true then some (HO.frz { cls := .type "list", data := .seq vs.toArray } (.lst (vs.toArray.toList.map toV))) else some (HO.frz { cls := .type "list", data := .seq vs.toArray } (.tup (vs.toArray.toList.map toV)))) = _
  rw [if_pos (beq_self_eq_true _)]
theorem hoOf_tup (vs : List Value) : hoOf { cls := .type "tuple", data := .seq vs.toArray } = some (.frz { cls := .type "tuple", data := .seq vs.toArray } (.tup (vs.map toV))) := by
  show (if (Value.type "tuple" == Value.type "list") = true then some (HO.frz { cls := .type "tuple", data := .seq vs.toArray } (.lst (vs.toArray.toList.map toV))) else some (HO.frz { cls := .type "tuple", data := .seq vs.toArray } (.tup (vs.toArray.toList.map toV)))) = _
  rw [if_neg (by decide)]
section
variable {P : Program} {w : World} {K : PySem.W.Frag} {h : Heap} {A : List Addr}
theorem argH_at {b : Addr} {o : Obj} (hb : b ∈ A) (hk : K.lookup b = none) (e : h.get? b = some o) : argH K h A b = hoOf o := by
  unfold argH
  rw [if_pos hb, hk, if_pos (show (none : Option Obj).isNone = true from rfl), e] <;> rfl
theorem of_argH {b : Addr} {u : HO} (q : argH K h A b = some u) : b ∈ A ∧ K.lookup b = none := by
  unfold argH at q
  by_cases hb : b ∈ A
  · rw [if_pos hb] at q
    cases hk : K.lookup b with
    | none => exact ⟨hb, rfl⟩
    | some o =>
      rw [hk, if_neg (by simp)] at q
      cases q
  · rw [if_neg hb] at q
    cases q
theorem argH_is (ar : ∀ a ∈ A, ArgOb h A a) {b : Addr} {u : HO} (q : argH K h A b = some u) : K.lookup b = none ∧ ∃ vs : List Value, vs.length ≤ sizeLine ∧ (∀ u ∈ vs, OkU A u) ∧
    ((h.get? b = some { cls := .type "list", data := .seq vs.toArray } ∧ u = .frz { cls := .type "list", data := .seq vs.toArray } (.lst (vs.map toV))) ∨
     (h.get? b = some { cls := .type "tuple", data := .seq vs.toArray } ∧ u = .frz { cls := .type "tuple", data := .seq vs.toArray } (.tup (vs.map toV)))) := by
  obtain ⟨hb, hk⟩ := of_argH q
  obtain ⟨vs, h1, h2, h3⟩ := ar b hb
  refine ⟨hk, vs, h1, h2, ?_⟩
  rcases h3 with e | e
  · rw [argH_at hb hk e, hoOf_lst] at q
    exact .inl ⟨e, (Option.some.inj q).symm⟩
  · rw [argH_at hb hk e, hoOf_tup] at q
    exact .inr ⟨e, (Option.some.inj q).symm⟩
theorem argH_only (ar : ∀ a ∈ A, ArgOb h A a) : OnlyF (argH K h A) := fun b => by
  cases q : argH K h A b with
  | none => exact .inl rfl
  | some u =>
    obtain ⟨_, vs, _, _, ⟨_, e⟩ | ⟨_, e⟩⟩ := argH_is ar q
    · exact .inr ⟨_, _, by rw [e]⟩
    · exact .inr ⟨_, _, by rw [e]⟩
theorem argH_ok (ar : ∀ a ∈ A, ArgOb h A a) : HOk P w (argH K h A) h := fun b u q => by
  obtain ⟨_, vs, h1, h2, ⟨e, rfl⟩ | ⟨e, rfl⟩⟩ := argH_is ar q
  · exact ⟨e, by rw [List.length_map]; exact h1, vs, _, vals_toV h2, e⟩
  · exact ⟨e, by rw [List.length_map]; exact h1, vs, vals_toV h2, _, e, rfl, _, rfl⟩
theorem seq_inj {c c' : Value} {vs us : List Value} (e : (some { cls := c, data := .seq vs.toArray } : Option Obj) = some { cls := c', data := .seq us.toArray }) : c = c' ∧ vs = us := by
  have e1 := Option.some.inj e
  have e2 : c = c' := congrArg Obj.cls e1
  have e3 : Data.seq vs.toArray = Data.seq us.toArray := congrArg Obj.data e1
  injection e3 with e4
  refine ⟨e2, ?_⟩
  have e5 := congrArg Array.toList e4
  simpa using e5
theorem argL (KX : K.In h) (ar : ∀ a ∈ A, ArgOb h A a) {a : Addr} {vs : List Value} (ha : a ∈ A) (e : h.get? a = some { cls := .type "list", data := .seq vs.toArray }) : (∀ u ∈ vs, OkU A u) ∧ SqL K (argH K h A) a (vs.map toV) := by
  obtain ⟨us, h1, h2, h3⟩ := ar a ha
  have hu : us = vs := by
    rcases h3 with q | q
    · rw [e] at q
      exact (seq_inj q).2.symm
    · rw [e] at q
      exact absurd (Value.type.inj (seq_inj q).1) (by decide)
  subst hu
  refine ⟨h2, ?_⟩
  cases hk : K.lookup a with
  | none => exact .inl (.inr ⟨_, by rw [argH_at ha hk e, hoOf_lst]⟩)
  | some o =>
    have e2 := KX a o hk
    rw [e] at e2
    obtain rfl := Option.some.inj e2
    exact .inr ⟨_, us.toArray, _, hk, rfl, rfl, rfl, by rw [List.size_toArray]; exact h1, by simpa using vals_toV h2⟩
theorem argT (KX : K.In h) (ar : ∀ a ∈ A, ArgOb h A a) {a : Addr} {vs : List Value} (ha : a ∈ A) (e : h.get? a = some { cls := .type "tuple", data := .seq vs.toArray }) : (∀ u ∈ vs, OkU A u) ∧ SqT K (argH K h A) a (vs.map toV) := by
  obtain ⟨us, h1, h2, h3⟩ := ar a ha
  have hu : us = vs := by
    rcases h3 with q | q
    · rw [e] at q
      exact absurd (Value.type.inj (seq_inj q).1) (by decide)
    · rw [e] at q
      exact (seq_inj q).2.symm
  subst hu
  refine ⟨h2, ?_⟩
  cases hk : K.lookup a with
  | none => exact .inl (.inr ⟨_, by rw [argH_at ha hk e, hoOf_tup]⟩)
  | some o =>
    have e2 := KX a o hk
    rw [e] at e2
    obtain rfl := Option.some.inj e2
    exact .inr ⟨_, us.toArray, _, hk, rfl, rfl, by rw [List.size_toArray]; exact h1, by simpa using vals_toV h2⟩
mutual
theorem dw_one {Pm : Params} (KX : K.In h) (ar : ∀ a ∈ A, ArgOb h A a) : ∀ (d : WData) (v : Value), Well Pm h v d → plW d = true → OkU A v → Dw K (argH K h A) (toV v) d
  | .none, _, x, _, _ => by
    cases x
    exact .non
  | .bool b, _, x, _, _ => by
    cases x
    exact .bl b
  | .int i, _, x, _, _ => by
    cases x
    exact .int i
  | .str s, _, x, _, _ => by
    cases x
    exact .str s
  | .bytes b, _, x, _, _ => by
    cases x
    have z := Dw.byt (K := K) (H := argH K h A) b.toArray
    exact z
  | .list ds, _, x, p, hu => by
    obtain ⟨a, vs, rfl, ho, hall⟩ := well_list x
    obtain ⟨h2, hs⟩ := argL KX ar hu ho
    exact .lst hs (dw_all KX ar ds _ hall p h2)
  | .tuple ds, _, x, p, hu => by
    obtain ⟨a, vs, rfl, ho, hall⟩ := well_tuple x
    obtain ⟨h2, hs⟩ := argT KX ar hu ho
    exact .tup hs (dw_all KX ar ds _ hall p h2)
  | .float _, _, _, p, _ => Bool.noConfusion (show false = true from p)
  | .dict _, _, _, p, _ => Bool.noConfusion (show false = true from p)
  | .bytearray _, _, _, p, _ => Bool.noConfusion (show false = true from p)
  | .set _, _, _, p, _ => Bool.noConfusion (show false = true from p)
  | .frozenset _, _, _, p, _ => Bool.noConfusion (show false = true from p)
  | .obj _ _, _, _, p, _ => Bool.noConfusion (show false = true from p)
theorem dw_all {Pm : Params} (KX : K.In h) (ar : ∀ a ∈ A, ArgOb h A a) : ∀ (ds : List WData) (vs : List Value), WellAll Pm h vs ds → plWs ds = true → (∀ u ∈ vs, OkU A u) → DwAll K (argH K h A) (vs.map toV) ds
  | [], _, x, _, _ => by
    cases x
    exact .nil
  | d :: ds, _, x, p, hu => by
    obtain ⟨v, vs, rfl, x1, x2⟩ := well_cons x
    have q : plW d = true ∧ plWs ds = true := Bool.and_eq_true_iff.mp p
    exact .cons (dw_one KX ar d v x1 q.1 (hu _ (List.mem_cons_self ..))) (dw_all KX ar ds vs x2 q.2 fun u m => hu u (List.mem_cons_of_mem _ m))
end
end
theorem layable_weight {ds : List WData} (h : WData.layableAll ds = true) : ∀ d ∈ ds, d.weight ≤ 1048576 := fun d hd =>
  (PySem.W.layableW_iff.mp (List.all_eq_true.mp h d hd)).2.2
theorem encAll_len : ∀ (cs : List Codec) (a : Codec.denoteAll cs), (Codec.encAll cs a).length = cs.length
  | [], _ => rfl
  | c :: cs, a => by
    show (Codec.encAll cs a.2).length + 1 = cs.length + 1
    rw [encAll_len cs a.2]
end L2
end
set_option Elab.async false
set_option linter.all false
namespace VM
open Rb19
def addLast (c : Nat) : List B → List B
  | [] => [[c]]
  | [x] => [x ++ [c]]
  | x :: y :: r => x :: addLast c (y :: r)
theorem cut_nil (m : Nat) : cut m [] = [[]] := rfl
theorem cut_cons (m c : Nat) (l : B) : cut m (c :: l) = if c = m then [] :: cut m l else match cut m l with
  | x :: r => (c :: x) :: r
  | [] => [[c]] := rfl
theorem cut_ne (m : Nat) : ∀ l : B, cut m l ≠ []
  | [] => by simp [cut_nil]
  | c :: l => by
    rw [cut_cons]
    split
    · simp
    · split <;> simp
theorem cut_snoc_at (m : Nat) : ∀ l : B, cut m (l ++ [m]) = cut m l ++ [[]]
  | [] => by simp [cut_cons, cut_nil]
  | c :: l => by
    have ih := cut_snoc_at m l
    rw [List.cons_append, cut_cons, cut_cons, ih]
    split
    · rfl
    · cases h : cut m l with
      | nil => exact absurd h (cut_ne m l)
      | cons x r => rfl
theorem addLast_cons {c : Nat} {x : B} {r : List B} (h : r ≠ []) : addLast c (x :: r) = x :: addLast c r := by
  cases r with
  | nil => exact absurd rfl h
  | cons y r => rfl
theorem cut_snoc_ne {m c : Nat} (hc : c ≠ m) : ∀ l : B, cut m (l ++ [c]) = addLast c (cut m l)
  | [] => by simp [cut_cons, cut_nil, hc, addLast]
  | d :: l => by
    have ih := cut_snoc_ne hc l
    rw [List.cons_append, cut_cons, cut_cons, ih]
    split
    · rw [addLast_cons (cut_ne m l)]
    · cases h : cut m l with
      | nil => exact absurd h (cut_ne m l)
      | cons x r =>
        cases r with
        | nil => rfl
        | cons y r => rfl
theorem addLast_eq (c : Nat) : ∀ (l : List B), l ≠ [] → ∃ ini z, l = ini ++ [z] ∧ addLast c l = ini ++ [z ++ [c]]
  | [], h => absurd rfl h
  | [x], _ => ⟨[], x, rfl, rfl⟩
  | x :: y :: r, _ => by
    obtain ⟨ini, z, e1, e2⟩ := addLast_eq c (y :: r) (by simp)
    exact ⟨x :: ini, z, by rw [e1]; rfl, by show x :: addLast c (y :: r) = _; rw [e2]; rfl⟩
theorem cut_len (m : Nat) : ∀ l : B, (cut m l).length ≤ l.length + 1
  | [] => by simp [cut_nil]
  | c :: l => by
    have ih := cut_len m l
    rw [cut_cons]
    split
    · simp only [List.length_cons]; omega
    · cases h : cut m l with
      | nil => exact absurd h (cut_ne m l)
      | cons x r => rw [h] at ih; simp only [List.length_cons] at *; omega
theorem cut_mem (m : Nat) : ∀ (l : B) (x : B), x ∈ cut m l → x.length ≤ l.length ∧ ∀ c ∈ x, c ∈ l
  | [], x, h => by simp [cut_nil] at h; subst h; simp
  | c :: l, x, h => by
    rw [cut_cons] at h
    split at h
    · rcases List.mem_cons.mp h with rfl | h
      · simp
      · obtain ⟨h1, h2⟩ := cut_mem m l x h
        exact ⟨by simp only [List.length_cons]; omega, fun c hc => List.mem_cons_of_mem _ (h2 c hc)⟩
    · cases e : cut m l with
      | nil => exact absurd e (cut_ne m l)
      | cons y r =>
        rw [e] at h
        rcases List.mem_cons.mp h with rfl | h
        · obtain ⟨h1, h2⟩ := cut_mem m l y (by rw [e]; exact List.mem_cons_self ..)
          refine ⟨by simp only [List.length_cons]; omega, fun d hd => ?_⟩
          rcases List.mem_cons.mp hd with rfl | hd
          · exact List.mem_cons_self ..
          · exact List.mem_cons_of_mem _ (h2 d hd)
        · obtain ⟨h1, h2⟩ := cut_mem m l x (by rw [e]; exact List.mem_cons_of_mem _ h)
          exact ⟨by simp only [List.length_cons]; omega, fun c hc => List.mem_cons_of_mem _ (h2 c hc)⟩
theorem cut_head (m : Nat) : ∀ l : B, (cut m l).head? = some (l.takeWhile fun c => c != m)
  | [] => by simp [cut_nil]
  | c :: l => by
    have ih := cut_head m l
    rw [cut_cons]
    by_cases h : c = m
    · rw [if_pos h]; subst h; simp
    · rw [if_neg h]
      cases e : cut m l with
      | nil => exact absurd e (cut_ne m l)
      | cons y r =>
        rw [e] at ih
        simp only [List.head?_cons, Option.some.injEq] at ih
        subst ih
        simp [h]
theorem take_len {α : Type} (p : α → Bool) : ∀ l : List α, (l.takeWhile p).length ≤ l.length
  | [] => by simp
  | c :: l => by
    have := take_len p l
    rw [List.takeWhile_cons]
    split <;> simp <;> omega
theorem take_all {α : Type} (p : α → Bool) : ∀ l : List α, (l.takeWhile p).length = l.length → l.takeWhile p = l
  | [], _ => rfl
  | c :: l, h => by
    rw [List.takeWhile_cons] at h ⊢
    split
    · rename_i hc
      rw [if_pos hc] at h
      rw [take_all p l (by simpa using h)]
    · rename_i hc
      rw [if_neg hc] at h
      simp at h
theorem number_snoc (l : B) (c : Nat) : number (l ++ [c]) = 10 * number l + (c - 48) := by
  unfold number
  rw [List.foldl_append]
  rfl
theorem number_lt : ∀ (n : Nat) (l : B), l.length = n → (∀ c ∈ l, digit c = true) → number l < 10 ^ n
  | 0, l, h, _ => by
    have : l = [] := List.eq_nil_of_length_eq_zero h
    subst this
    decide
  | n + 1, l, h, hd => by
    obtain ⟨i, c, rfl⟩ : ∃ i c, l = i ++ [c] := by
      refine ⟨l.dropLast, l.getLast (by intro e; subst e; simp at h), ?_⟩
      rw [List.dropLast_concat_getLast]
    have ih := number_lt n i (by simpa using h) (fun x hx => hd x (List.mem_append_left _ hx))
    rw [number_snoc]
    have h1 := hd c (List.mem_append_right _ (List.mem_cons_self ..))
    unfold digit at h1
    simp only [Bool.and_eq_true, decide_eq_true_eq] at h1
    rw [Nat.pow_succ]
    omega
theorem number_lt9 {l : B} (h : l.length ≤ 9) (hd : ∀ c ∈ l, digit c = true) : number l < 10 ^ 9 :=
  Nat.lt_of_lt_of_le (number_lt _ l rfl hd) (Nat.pow_le_pow_right (by decide) h)
theorem isNumber_iff (l : B) : isNumber l = (!(decide (l.length < 1) || decide (9 < l.length) || !l.all digit) && !(decide (1 < l.length) && l.head? == some 48)) := by
  unfold isNumber
  cases l with
  | nil => rfl
  | cons a r =>
    have e1 : decide ((a :: r).length < 1) = false := decide_eq_false (by simp)
    have e2 : decide ((a :: r).length ≤ 9) = !decide (9 < (a :: r).length) := by
      by_cases h : (a :: r).length ≤ 9
      · rw [decide_eq_true h, decide_eq_false (by omega)]; rfl
      · rw [decide_eq_false h, decide_eq_true (by omega)]; rfl
    have e3 : ((a :: r).length == 1) = !decide (1 < (a :: r).length) := by
      cases r with
      | nil => rfl
      | cons b r => simp
    rw [e1, e2, e3]
    generalize decide (9 < (a :: r).length) = p
    generalize decide (1 < (a :: r).length) = q
    generalize (a :: r).all digit = d
    have e4 : ((a :: r).head? != some 48) = !((a :: r).head? == some 48) := rfl
    rw [e4]
    generalize ((a :: r).head? == some 48) = z
    cases p <;> cases q <;> cases d <;> cases z <;> rfl
end VM
namespace VO
def lexO : List Ordering → Nat → Nat → Ordering
  | [], n, m => if n < m then .lt else if n = m then .eq else .gt
  | .eq :: r, n, m => lexO r n m
  | .lt :: _, _, _ => .lt
  | .gt :: _, _, _ => .gt
def ordI (a b : Int) : Ordering := if a < b then .lt else if a = b then .eq else .gt
end VO
namespace VM
open Rb19 VO
theorem ordI_cases (a b : Int) : (a < b ∧ ordI a b = .lt) ∨ (a = b ∧ ordI a b = .eq) ∨ (b < a ∧ ordI a b = .gt) := by
  unfold ordI
  by_cases h : a < b
  · exact .inl ⟨h, if_pos h⟩
  · by_cases e : a = b
    · exact .inr (.inl ⟨e, by rw [if_neg h, if_pos e]⟩)
    · exact .inr (.inr ⟨by omega, by rw [if_neg h, if_neg e]⟩)
theorem ordI_self (a : Int) : ordI a a = .eq := by
  rcases ordI_cases a a with ⟨h, _⟩ | ⟨_, e⟩ | ⟨h, _⟩
  · omega
  · exact e
  · omega
theorem ordI_eq_iff {a b : Int} : ordI a b = .eq ↔ a = b := by
  rcases ordI_cases a b with ⟨h, e⟩ | ⟨h, e⟩ | ⟨h, e⟩ <;> rw [e]
  · exact ⟨fun z => (nomatch z), fun z => by omega⟩
  · exact ⟨fun _ => h, fun _ => rfl⟩
  · exact ⟨fun z => (nomatch z), fun z => by omega⟩
theorem ordI_swap (a b : Int) : ordI b a = (ordI a b).swap := by
  rcases ordI_cases a b with ⟨h, e⟩ | ⟨h, e⟩ | ⟨h, e⟩ <;> rcases ordI_cases b a with ⟨h', e'⟩ | ⟨h', e'⟩ | ⟨h', e'⟩ <;> rw [e, e'] <;> first | rfl | omega
theorem lexO_succ : ∀ (os : List Ordering) (n m : Nat), lexO os (n + 1) (m + 1) = lexO os n m
  | [], n, m => by
    unfold lexO
    by_cases h : n < m
    · rw [if_pos h, if_pos (by omega)]
    · rw [if_neg h, if_neg (by omega)]
      by_cases e : n = m
      · rw [if_pos e, if_pos (by omega)]
      · rw [if_neg e, if_neg (by omega)]
  | .eq :: r, n, m => lexO_succ r n m
  | .lt :: _, _, _ => rfl
  | .gt :: _, _, _ => rfl
def lexL {α : Type} (f : α → α → Ordering) (x y : List α) : Ordering := lexO (List.zipWith f x y) x.length y.length
section
variable {α : Type} {f : α → α → Ordering}
theorem lexL_nil : lexL f [] [] = .eq := rfl
theorem lexL_nl (b : α) (y : List α) : lexL f [] (b :: y) = .lt := by
  show lexO [] 0 (y.length + 1) = .lt
  unfold lexO
  rw [if_pos (by omega)]
theorem lexL_nr (a : α) (x : List α) : lexL f (a :: x) [] = .gt := by
  show lexO [] (x.length + 1) 0 = .gt
  unfold lexO
  rw [if_neg (by omega), if_neg (by omega)]
theorem lexL_cons (a b : α) (x y : List α) : lexL f (a :: x) (b :: y) = match f a b with
    | .eq => lexL f x y
    | .lt => .lt
    | .gt => .gt := by
  show lexO (f a b :: List.zipWith f x y) (x.length + 1) (y.length + 1) = _
  cases f a b with
  | eq => exact lexO_succ _ _ _
  | lt => rfl
  | gt => rfl
theorem lexL_eq (hf : ∀ a b, f a b = .eq ↔ a = b) : ∀ x y : List α, lexL f x y = .eq ↔ x = y
  | [], [] => ⟨fun _ => rfl, fun _ => rfl⟩
  | [], b :: y => by rw [lexL_nl]; exact ⟨fun z => (nomatch z), fun z => (nomatch z)⟩
  | a :: x, [] => by rw [lexL_nr]; exact ⟨fun z => (nomatch z), fun z => (nomatch z)⟩
  | a :: x, b :: y => by
    rw [lexL_cons]
    have ih := lexL_eq hf x y
    cases e : f a b with
    | eq =>
      have e1 := (hf a b).mp e
      subst e1
      show lexL f x y = .eq ↔ _
      rw [ih]
      exact ⟨fun z => by rw [z], fun z => (List.cons.inj z).2⟩
    | lt => exact ⟨fun z => (nomatch z), fun z => by rw [(hf a b).mpr (List.cons.inj z).1] at e; cases e⟩
    | gt => exact ⟨fun z => (nomatch z), fun z => by rw [(hf a b).mpr (List.cons.inj z).1] at e; cases e⟩
theorem lexL_swap (hf : ∀ a b, f b a = (f a b).swap) : ∀ x y : List α, lexL f y x = (lexL f x y).swap
  | [], [] => rfl
  | [], b :: y => by rw [lexL_nl, lexL_nr]; rfl
  | a :: x, [] => by rw [lexL_nl, lexL_nr]; rfl
  | a :: x, b :: y => by
    rw [lexL_cons, lexL_cons, hf a b]
    cases f a b with
    | eq => exact lexL_swap hf x y
    | lt => rfl
    | gt => rfl
end
def ordN (a b : Nat) : Ordering := ordI a b
theorem ordN_eq (a b : Nat) : ordN a b = .eq ↔ a = b := by
  unfold ordN
  rw [ordI_eq_iff]
  omega
theorem textLess_ord : ∀ x y : B, textLess x y = (lexL ordN x y == .lt)
  | [], [] => rfl
  | [], b :: y => by rw [lexL_nl]; rfl
  | a :: x, [] => by rw [lexL_nr]; rfl
  | a :: x, b :: y => by
    rw [lexL_cons, textLess]
    have ih := textLess_ord x y
    show _ = ((match ordI a b with
      | .eq => lexL ordN x y
      | .lt => .lt
      | .gt => .gt) == Ordering.lt)
    rcases ordI_cases a b with ⟨h, e⟩ | ⟨h, e⟩ | ⟨h, e⟩ <;> rw [e]
    · have : a < b := by omega
      simp [this]
    · have : a = b := by omega
      subst this
      rw [ih]
      simp
    · have h1 : ¬ a < b := by omega
      have h2 : ¬ a = b := by omega
      simp [h1, h2]
def ordW : Word → Word → Ordering
  | .num m, .num n => ordN m n
  | .num _, .text _ => .lt
  | .text _, .num _ => .gt
  | .text x, .text y => lexL ordN x y
theorem ordW_eq : ∀ a b : Word, ordW a b = .eq ↔ a = b
  | .num m, .num n => by
    show ordN m n = .eq ↔ _
    rw [ordN_eq]
    exact ⟨fun e => by rw [e], fun e => by injection e⟩
  | .num _, .text _ => ⟨fun z => (nomatch z), fun z => (nomatch z)⟩
  | .text _, .num _ => ⟨fun z => (nomatch z), fun z => (nomatch z)⟩
  | .text x, .text y => by
    show lexL ordN x y = .eq ↔ _
    rw [lexL_eq ordN_eq]
    exact ⟨fun e => by rw [e], fun e => by injection e⟩
theorem ordW_swap : ∀ a b : Word, ordW b a = (ordW a b).swap
  | .num m, .num n => ordI_swap m n
  | .num _, .text _ => rfl
  | .text _, .num _ => rfl
  | .text x, .text y => lexL_swap (f := ordN) (fun a b => ordI_swap a b) x y
theorem wordLess_ord : ∀ a b : Word, wordLess a b = (ordW a b == .lt)
  | .num m, .num n => by
    show decide (m < n) = (ordI m n == .lt)
    rcases ordI_cases m n with ⟨h, e⟩ | ⟨h, e⟩ | ⟨h, e⟩ <;> rw [e]
    · exact decide_eq_true (by omega)
    · exact decide_eq_false (by omega)
    · exact decide_eq_false (by omega)
  | .num _, .text _ => rfl
  | .text _, .num _ => rfl
  | .text x, .text y => textLess_ord x y
theorem wordsLess_ord : ∀ x y : List Word, wordsLess x y = (lexL ordW x y == .lt)
  | [], [] => rfl
  | [], b :: y => by rw [lexL_nl]; rfl
  | a :: x, [] => by rw [lexL_nr]; rfl
  | a :: x, b :: y => by
    rw [lexL_cons, wordsLess]
    have ih := wordsLess_ord x y
    rw [wordLess_ord]
    cases e : ordW a b with
    | eq =>
      have e1 := (ordW_eq a b).mp e
      subst e1
      rw [ih]
      simp
    | lt => simp
    | gt =>
      have h2 : ¬ a = b := fun z => by rw [(ordW_eq a b).mpr z] at e; cases e
      simp [h2]
def flag (u : Version) : Int := if u.pre.isEmpty = true then 1 else 0
def ordV (u v : Version) : Ordering := lexO [ordI u.a v.a, ordI u.b v.b, ordI u.c v.c, ordI (flag u) (flag v), lexL ordW u.pre v.pre] 5 5
theorem lexO5 (a b c d e : Ordering) : (lexO [a, b, c, d, e] 5 5) = match a, b, c, d with
    | .eq, .eq, .eq, .eq => e
    | .eq, .eq, .eq, o => o
    | .eq, .eq, o, _ => o
    | .eq, o, _, _ => o
    | o, _, _, _ => o := by
  cases a <;> cases b <;> cases c <;> cases d <;> cases e <;> rfl
theorem ordV_eq (u v : Version) : ordV u v = .eq ↔ u = v := by
  unfold ordV
  rw [lexO5]
  constructor
  · intro h
    cases e1 : ordI u.a v.a <;> rw [e1] at h <;> first | cases h | skip
    cases e2 : ordI u.b v.b <;> rw [e2] at h <;> first | cases h | skip
    cases e3 : ordI u.c v.c <;> rw [e3] at h <;> first | cases h | skip
    cases e4 : ordI (flag u) (flag v) <;> rw [e4] at h <;> first | cases h | skip
    have h : lexL ordW u.pre v.pre = .eq := h
    have e5 := (lexL_eq ordW_eq _ _).mp h
    have e1 := ordI_eq_iff.mp e1
    have e2 := ordI_eq_iff.mp e2
    have e3 := ordI_eq_iff.mp e3
    cases u; cases v
    simp only at *
    have z1 := Int.ofNat.inj e1
    have z2 := Int.ofNat.inj e2
    have z3 := Int.ofNat.inj e3
    subst z1 z2 z3 e5
    rfl
  · intro h
    subst h
    rw [ordI_self, ordI_self, ordI_self, ordI_self, (lexL_eq ordW_eq _ _).mpr rfl]
theorem ordV_swap (u v : Version) : ordV v u = (ordV u v).swap := by
  unfold ordV
  rw [lexO5, lexO5, ordI_swap u.a v.a, ordI_swap u.b v.b, ordI_swap u.c v.c, ordI_swap (flag u) (flag v), lexL_swap ordW_swap u.pre v.pre]
  cases ordI u.a v.a <;> cases ordI u.b v.b <;> cases ordI u.c v.c <;> cases ordI (flag u) (flag v) <;> rfl
theorem ordI_lt {a b : Nat} (h : a < b) : ordI a b = .lt := by
  rcases ordI_cases a b with ⟨h', e⟩ | ⟨h', e⟩ | ⟨h', e⟩
  · exact e
  · omega
  · omega
theorem ordI_gt {a b : Nat} (h : b < a) : ordI a b = .gt := by
  rcases ordI_cases a b with ⟨h', e⟩ | ⟨h', e⟩ | ⟨h', e⟩
  · omega
  · omega
  · exact e
theorem less_ord (u v : Version) : less u v = (ordV u v == .lt) := by
  unfold less ordV
  rw [lexO5]
  have key : ∀ {a b : Nat}, a ≠ b → (decide (a < b) = (ordI a b == .lt) ∧ ordI a b ≠ .eq) := fun {a b} h => by
    by_cases hl : a < b
    · rw [ordI_lt hl, decide_eq_true hl]
      exact ⟨rfl, fun z => (nomatch z)⟩
    · rw [ordI_gt (show b < a by omega), decide_eq_false hl]
      exact ⟨rfl, fun z => (nomatch z)⟩
  by_cases h1 : u.a = v.a
  · rw [if_neg (by simpa using h1), h1, ordI_self]
    by_cases h2 : u.b = v.b
    · rw [if_neg (by simpa using h2), h2, ordI_self]
      by_cases h3 : u.c = v.c
      · rw [if_neg (by simpa using h3), h3, ordI_self]
        unfold flag
        cases hu : u.pre with
        | nil =>
          cases hv : v.pre with
          | nil => rfl
          | cons b y => rfl
        | cons a x =>
          cases hv : v.pre with
          | nil => rfl
          | cons b y =>
            show wordsLess (a :: x) (b :: y) = _
            rw [wordsLess_ord]
            rfl
      · rw [if_pos h3]
        obtain ⟨k1, k2⟩ := key h3
        rw [k1]
        cases e : ordI u.c v.c <;> first | rfl | exact absurd e k2
    · rw [if_pos h2]
      obtain ⟨k1, k2⟩ := key h2
      rw [k1]
      cases e : ordI u.b v.b <;> first | rfl | exact absurd e k2
  · rw [if_pos h1]
    obtain ⟨k1, k2⟩ := key h1
    rw [k1]
    cases e : ordI u.a v.a <;> first | rfl | exact absurd e k2
theorem less_gt (u v : Version) : less v u = (ordV u v == .gt) := by
  rw [less_ord, ordV_swap]
  cases ordV u v <;> rfl
end VM
set_option maxRecDepth 100000
set_option maxHeartbeats 4000000
namespace VO
open PySem PySem.Spec PyProof.Rows
open PySem.SeqAt
open PySem.AutoSeq1 (wpAny_loadPart')
open PySem.MeetsSeq PySem.MeetsSeq2 PySem.MeetsSeq3
def opv : CmpOp → Ordering → Bool
  | .Lt, .lt => true
  | .LtE, .lt => true
  | .LtE, .eq => true
  | .Gt, .gt => true
  | .GtE, .gt => true
  | .GtE, .eq => true
  | _, _ => false
def isOrd (op : CmpOp) : Prop := op = .Lt ∨ op = .LtE ∨ op = .Gt ∨ op = .GtE
structure CmpA (A : Around) (s : Shared) (x y : Value) (o : Ordering) : Prop where
  eq : EqAt A s x y (o == .eq)
  re : RcAt A s x y (o == .eq)
  rc : ∀ op, isOrd op → ∀ (prog : Program) (w : World) (E : Value → Shared → Prop) (Q : Value → Shared → Prop), Q (.bool (opv op o)) s → wpAny (model prog w) A (richCompare op x y) Q E s
inductive CmpZ (A : Around) (s : Shared) : List Value → List Value → List Ordering → Prop
  | nl (ys : List Value) : CmpZ A s [] ys []
  | nr (xs : List Value) : CmpZ A s xs [] []
  | cons {x y : Value} {xs ys : List Value} {o : Ordering} {os : List Ordering} : CmpA A s x y o → CmpZ A s xs ys os → CmpZ A s (x :: xs) (y :: ys) (o :: os)
theorem ordI_eq (a b : Int) : (ordI a b == .eq) = (a == b) := by
  unfold ordI
  by_cases h : a < b
  · rw [if_pos h]
    have : ¬ a = b := by omega
    simp [this]
  · rw [if_neg h]
    by_cases e : a = b
    · subst e; simp
    · rw [if_neg e]; simp [e]
theorem CmpA.int (A : Around) (s : Shared) (a : Int) (t : Tok) (c : Int) (u : Tok) : CmpA A s (.int a t) (.int c u) (ordI a c) where
  eq := by rw [ordI_eq]; exact EqAt.int_int a t c u
  re := by rw [ordI_eq]; exact RcAt.int_int a t c u
  rc := by
    intro op ho prog w E Q h
    have split : (a < c ∧ ordI a c = .lt) ∨ (a = c ∧ ordI a c = .eq) ∨ (c < a ∧ ordI a c = .gt) := by
      unfold ordI
      by_cases h : a < c
      · exact .inl ⟨h, if_pos h⟩
      · by_cases e : a = c
        · exact .inr (.inl ⟨e, by rw [if_neg h, if_pos e]⟩)
        · exact .inr (.inr ⟨by omega, by rw [if_neg h, if_neg e]⟩)
    rcases ho with rfl | rfl | rfl | rfl
    · refine (PyProof.Rows.lt_int ?_ : wpAny (model prog w) A (compareOp .Lt (.int a t) (.int c u)) Q E s)
      rcases split with ⟨h1, e⟩ | ⟨h1, e⟩ | ⟨h1, e⟩ <;> rw [e] at h
      · rw [decide_eq_true h1]; exact h
      · rw [decide_eq_false (by omega)]; exact h
      · rw [decide_eq_false (by omega)]; exact h
    · refine (PyProof.Rows.le_int ?_ : wpAny (model prog w) A (compareOp .LtE (.int a t) (.int c u)) Q E s)
      rcases split with ⟨h1, e⟩ | ⟨h1, e⟩ | ⟨h1, e⟩ <;> rw [e] at h
      · rw [decide_eq_true (by omega)]; exact h
      · rw [decide_eq_true (by omega)]; exact h
      · rw [decide_eq_false (by omega)]; exact h
    · refine (PyProof.Rows.gt_int ?_ : wpAny (model prog w) A (compareOp .Gt (.int a t) (.int c u)) Q E s)
      rcases split with ⟨h1, e⟩ | ⟨h1, e⟩ | ⟨h1, e⟩ <;> rw [e] at h
      · rw [decide_eq_false (by omega)]; exact h
      · rw [decide_eq_false (by omega)]; exact h
      · rw [decide_eq_true (by omega)]; exact h
    · refine (PyProof.Rows.ge_int ?_ : wpAny (model prog w) A (compareOp .GtE (.int a t) (.int c u)) Q E s)
      rcases split with ⟨h1, e⟩ | ⟨h1, e⟩ | ⟨h1, e⟩ <;> rw [e] at h
      · rw [decide_eq_false (by omega)]; exact h
      · rw [decide_eq_true (by omega)]; exact h
      · rw [decide_eq_true (by omega)]; exact h
theorem sizes_op (op : CmpOp) (ho : isOrd op) (n m : Nat) : Builtin.Tuple.tupleCompareSizes op n m = .bool (opv op (lexO [] n m)) := by
  have split : (n < m ∧ lexO [] n m = .lt) ∨ (n = m ∧ lexO [] n m = .eq) ∨ (m < n ∧ lexO [] n m = .gt) := by
    unfold lexO
    by_cases h : n < m
    · exact .inl ⟨h, if_pos h⟩
    · by_cases e : n = m
      · exact .inr (.inl ⟨e, by rw [if_neg h, if_pos e]⟩)
      · exact .inr (.inr ⟨by omega, by rw [if_neg h, if_neg e]⟩)
  rcases ho with rfl | rfl | rfl | rfl <;> rcases split with ⟨h1, e⟩ | ⟨h1, e⟩ | ⟨h1, e⟩ <;> rw [e] <;> simp [Builtin.Tuple.tupleCompareSizes, opv] <;> omega
theorem tuple_lt (l b : Addr) (items items2 : Array Value) (n n2 : Nat) (dd dd2 : Option Addr) (sl sl2 : Array (Option Value)) (os : List Ordering) :
    Meets (Builtin.«tuple.__lt__» ⟨[.ref l, .ref b], []⟩)
      (fun A R s => s.heap.get? l = some { cls := .type "tuple", dict := dd, data := .seq items n, slots := sl } ∧ s.heap.get? b = some { cls := .type "tuple", dict := dd2, data := .seq items2 n2, slots := sl2 } ∧
        CmpZ A.in1 s items.toList items2.toList os ∧ R (.ok (.ret (.bool (opv .Lt (lexO os items.size items2.size))))) s) :=
  .of_wp fun prog w A R s h => by
    obtain ⟨hp, g, d, tk, os'⟩ := s; obtain ⟨hl, hb, hz0, h⟩ := h
    have f2 := AutoSeq1.sub_tuple_tuple
    wp_walk using wpAny_loadPart' hl, wpAny_loadPart' hb, wpAny_forIn_list _ (fun rest b s' => b.1 = none ∧ s' = ⟨hp, g, d, tk, os'⟩ ∧ ∃ (vs ws : List Value) (oo : List Ordering), rest = vs.zip ws ∧
      CmpZ A.in1 ⟨hp, g, d, tk, os'⟩ vs ws oo ∧ R (.ok (.ret (.bool (opv .Lt (lexO oo items.size items2.size))))) ⟨hp, g, d, tk, os'⟩) _
    case turn =>
      rintro ⟨y, x⟩ rest b s' ⟨hb', rfl, vs, ws, oo, hz, hcz, hR⟩
      cases hcz with
      | nl ys => rw [List.zip_nil_left] at hz; cases hz
      | nr xs => rw [List.zip_nil_right] at hz; cases hz
      | @cons x0 y0 xs ys o oo' hc hr =>
        rw [List.zip_cons_cons] at hz
        injection hz with hyx hrest
        injection hyx with hy hx
        subst hy hx
        refine wpAny_bind (hc.eq prog w _ _ ?_)
        cases o with
        | eq =>
          wp_walk
          exact ⟨rfl, rfl, _, _, _, hrest, hr, hR⟩
        | lt =>
          have hri := hc.rc .Lt (.inl rfl) prog w
          wp_walk using hri
          exact ⟨_, rfl, hR⟩
        | gt =>
          have hri := hc.rc .Lt (.inl rfl) prog w
          wp_walk using hri
          exact ⟨_, rfl, hR⟩
    case fin =>
      rintro ⟨b1, b2⟩ s' ⟨hb', rfl, vs, ws, oo, hz, hcz, hR⟩
      simp only at hb'
      subst hb'
      have hoo : oo = [] := by
        cases hcz with
        | nl ys => rfl
        | nr xs => rfl
        | cons hc hr => rw [List.zip_cons_cons] at hz; cases hz
      subst hoo
      rw [← sizes_op .Lt (.inl rfl)] at hR
      wp_walk
      exact ⟨_, rfl, hR⟩
    case h =>
      exact ⟨rfl, rfl, items.toList, items2.toList, os, rfl, hz0, h⟩
theorem tuple_le (l b : Addr) (items items2 : Array Value) (n n2 : Nat) (dd dd2 : Option Addr) (sl sl2 : Array (Option Value)) (os : List Ordering) :
    Meets (Builtin.«tuple.__le__» ⟨[.ref l, .ref b], []⟩)
      (fun A R s => s.heap.get? l = some { cls := .type "tuple", dict := dd, data := .seq items n, slots := sl } ∧ s.heap.get? b = some { cls := .type "tuple", dict := dd2, data := .seq items2 n2, slots := sl2 } ∧
        CmpZ A.in1 s items.toList items2.toList os ∧ R (.ok (.ret (.bool (opv .LtE (lexO os items.size items2.size))))) s) :=
  .of_wp fun prog w A R s h => by
    obtain ⟨hp, g, d, tk, os'⟩ := s; obtain ⟨hl, hb, hz0, h⟩ := h
    have f2 := AutoSeq1.sub_tuple_tuple
    wp_walk using wpAny_loadPart' hl, wpAny_loadPart' hb, wpAny_forIn_list _ (fun rest b s' => b.1 = none ∧ s' = ⟨hp, g, d, tk, os'⟩ ∧ ∃ (vs ws : List Value) (oo : List Ordering), rest = vs.zip ws ∧
      CmpZ A.in1 ⟨hp, g, d, tk, os'⟩ vs ws oo ∧ R (.ok (.ret (.bool (opv .LtE (lexO oo items.size items2.size))))) ⟨hp, g, d, tk, os'⟩) _
    case turn =>
      rintro ⟨y, x⟩ rest b s' ⟨hb', rfl, vs, ws, oo, hz, hcz, hR⟩
      cases hcz with
      | nl ys => rw [List.zip_nil_left] at hz; cases hz
      | nr xs => rw [List.zip_nil_right] at hz; cases hz
      | @cons x0 y0 xs ys o oo' hc hr =>
        rw [List.zip_cons_cons] at hz
        injection hz with hyx hrest
        injection hyx with hy hx
        subst hy hx
        refine wpAny_bind (hc.eq prog w _ _ ?_)
        cases o with
        | eq =>
          wp_walk
          exact ⟨rfl, rfl, _, _, _, hrest, hr, hR⟩
        | lt =>
          have hri := hc.rc .LtE (.inr (.inl rfl)) prog w
          wp_walk using hri
          exact ⟨_, rfl, hR⟩
        | gt =>
          have hri := hc.rc .LtE (.inr (.inl rfl)) prog w
          wp_walk using hri
          exact ⟨_, rfl, hR⟩
    case fin =>
      rintro ⟨b1, b2⟩ s' ⟨hb', rfl, vs, ws, oo, hz, hcz, hR⟩
      simp only at hb'
      subst hb'
      have hoo : oo = [] := by
        cases hcz with
        | nl ys => rfl
        | nr xs => rfl
        | cons hc hr => rw [List.zip_cons_cons] at hz; cases hz
      subst hoo
      rw [← sizes_op .LtE (.inr (.inl rfl))] at hR
      wp_walk
      exact ⟨_, rfl, hR⟩
    case h =>
      exact ⟨rfl, rfl, items.toList, items2.toList, os, rfl, hz0, h⟩
theorem tuple_gt (l b : Addr) (items items2 : Array Value) (n n2 : Nat) (dd dd2 : Option Addr) (sl sl2 : Array (Option Value)) (os : List Ordering) :
    Meets (Builtin.«tuple.__gt__» ⟨[.ref l, .ref b], []⟩)
      (fun A R s => s.heap.get? l = some { cls := .type "tuple", dict := dd, data := .seq items n, slots := sl } ∧ s.heap.get? b = some { cls := .type "tuple", dict := dd2, data := .seq items2 n2, slots := sl2 } ∧
        CmpZ A.in1 s items.toList items2.toList os ∧ R (.ok (.ret (.bool (opv .Gt (lexO os items.size items2.size))))) s) :=
  .of_wp fun prog w A R s h => by
    obtain ⟨hp, g, d, tk, os'⟩ := s; obtain ⟨hl, hb, hz0, h⟩ := h
    have f2 := AutoSeq1.sub_tuple_tuple
    wp_walk using wpAny_loadPart' hl, wpAny_loadPart' hb, wpAny_forIn_list _ (fun rest b s' => b.1 = none ∧ s' = ⟨hp, g, d, tk, os'⟩ ∧ ∃ (vs ws : List Value) (oo : List Ordering), rest = vs.zip ws ∧
      CmpZ A.in1 ⟨hp, g, d, tk, os'⟩ vs ws oo ∧ R (.ok (.ret (.bool (opv .Gt (lexO oo items.size items2.size))))) ⟨hp, g, d, tk, os'⟩) _
    case turn =>
      rintro ⟨y, x⟩ rest b s' ⟨hb', rfl, vs, ws, oo, hz, hcz, hR⟩
      cases hcz with
      | nl ys => rw [List.zip_nil_left] at hz; cases hz
      | nr xs => rw [List.zip_nil_right] at hz; cases hz
      | @cons x0 y0 xs ys o oo' hc hr =>
        rw [List.zip_cons_cons] at hz
        injection hz with hyx hrest
        injection hyx with hy hx
        subst hy hx
        refine wpAny_bind (hc.eq prog w _ _ ?_)
        cases o with
        | eq =>
          wp_walk
          exact ⟨rfl, rfl, _, _, _, hrest, hr, hR⟩
        | lt =>
          have hri := hc.rc .Gt (.inr (.inr (.inl rfl))) prog w
          wp_walk using hri
          exact ⟨_, rfl, hR⟩
        | gt =>
          have hri := hc.rc .Gt (.inr (.inr (.inl rfl))) prog w
          wp_walk using hri
          exact ⟨_, rfl, hR⟩
    case fin =>
      rintro ⟨b1, b2⟩ s' ⟨hb', rfl, vs, ws, oo, hz, hcz, hR⟩
      simp only at hb'
      subst hb'
      have hoo : oo = [] := by
        cases hcz with
        | nl ys => rfl
        | nr xs => rfl
        | cons hc hr => rw [List.zip_cons_cons] at hz; cases hz
      subst hoo
      rw [← sizes_op .Gt (.inr (.inr (.inl rfl)))] at hR
      wp_walk
      exact ⟨_, rfl, hR⟩
    case h =>
      exact ⟨rfl, rfl, items.toList, items2.toList, os, rfl, hz0, h⟩
theorem tuple_ge (l b : Addr) (items items2 : Array Value) (n n2 : Nat) (dd dd2 : Option Addr) (sl sl2 : Array (Option Value)) (os : List Ordering) :
    Meets (Builtin.«tuple.__ge__» ⟨[.ref l, .ref b], []⟩)
      (fun A R s => s.heap.get? l = some { cls := .type "tuple", dict := dd, data := .seq items n, slots := sl } ∧ s.heap.get? b = some { cls := .type "tuple", dict := dd2, data := .seq items2 n2, slots := sl2 } ∧
        CmpZ A.in1 s items.toList items2.toList os ∧ R (.ok (.ret (.bool (opv .GtE (lexO os items.size items2.size))))) s) :=
  .of_wp fun prog w A R s h => by
    obtain ⟨hp, g, d, tk, os'⟩ := s; obtain ⟨hl, hb, hz0, h⟩ := h
    have f2 := AutoSeq1.sub_tuple_tuple
    wp_walk using wpAny_loadPart' hl, wpAny_loadPart' hb, wpAny_forIn_list _ (fun rest b s' => b.1 = none ∧ s' = ⟨hp, g, d, tk, os'⟩ ∧ ∃ (vs ws : List Value) (oo : List Ordering), rest = vs.zip ws ∧
      CmpZ A.in1 ⟨hp, g, d, tk, os'⟩ vs ws oo ∧ R (.ok (.ret (.bool (opv .GtE (lexO oo items.size items2.size))))) ⟨hp, g, d, tk, os'⟩) _
    case turn =>
      rintro ⟨y, x⟩ rest b s' ⟨hb', rfl, vs, ws, oo, hz, hcz, hR⟩
      cases hcz with
      | nl ys => rw [List.zip_nil_left] at hz; cases hz
      | nr xs => rw [List.zip_nil_right] at hz; cases hz
      | @cons x0 y0 xs ys o oo' hc hr =>
        rw [List.zip_cons_cons] at hz
        injection hz with hyx hrest
        injection hyx with hy hx
        subst hy hx
        refine wpAny_bind (hc.eq prog w _ _ ?_)
        cases o with
        | eq =>
          wp_walk
          exact ⟨rfl, rfl, _, _, _, hrest, hr, hR⟩
        | lt =>
          have hri := hc.rc .GtE (.inr (.inr (.inr rfl))) prog w
          wp_walk using hri
          exact ⟨_, rfl, hR⟩
        | gt =>
          have hri := hc.rc .GtE (.inr (.inr (.inr rfl))) prog w
          wp_walk using hri
          exact ⟨_, rfl, hR⟩
    case fin =>
      rintro ⟨b1, b2⟩ s' ⟨hb', rfl, vs, ws, oo, hz, hcz, hR⟩
      simp only at hb'
      subst hb'
      have hoo : oo = [] := by
        cases hcz with
        | nl ys => rfl
        | nr xs => rfl
        | cons hc hr => rw [List.zip_cons_cons] at hz; cases hz
      subst hoo
      rw [← sizes_op .GtE (.inr (.inr (.inr rfl)))] at hR
      wp_walk
      exact ⟨_, rfl, hR⟩
    case h =>
      exact ⟨rfl, rfl, items.toList, items2.toList, os, rfl, hz0, h⟩
section
variable {A : Around} {s : Shared}
theorem CmpZ.at_ : ∀ {xs ys : List Value} {os : List Ordering}, CmpZ A s xs ys os → os.length = min xs.length ys.length ∧ ∀ (j : Nat) (h1 : j < xs.length) (h2 : j < ys.length), EqAt A s xs[j] ys[j] (os.getD j .eq == .eq)
  | _, _, _, .nl ys => ⟨by simp, fun j h1 _ => absurd h1 (by simp)⟩
  | _, _, _, .nr xs => ⟨by simp, fun j _ h2 => absurd h2 (by simp)⟩
  | _, _, _, .cons hc hr => by
    obtain ⟨h1, h2⟩ := CmpZ.at_ hr
    refine ⟨by simp only [List.length_cons, h1]; omega, fun j h3 h4 => ?_⟩
    cases j with
    | zero => exact hc.eq
    | succ j => exact h2 j (by simpa using h3) (by simpa using h4)
theorem lexO_eq : ∀ (os : List Ordering) (n m : Nat), (lexO os n m == .eq) = (os.all (· == .eq) && n == m)
  | [], n, m => by
    unfold lexO
    by_cases h : n < m
    · rw [if_pos h]
      have : ¬ n = m := by omega
      simp [this]
    · rw [if_neg h]
      by_cases e : n = m
      · subst e; simp
      · rw [if_neg e]; simp [e]
  | .eq :: r, n, m => by
    have := lexO_eq r n m
    show (lexO r n m == .eq) = _
    rw [this]; simp
  | .lt :: r, n, m => by simp [lexO]
  | .gt :: r, n, m => by simp [lexO]
theorem all_range_getD : ∀ (os : List Ordering), (List.range os.length).all (fun j => os.getD j .eq == .eq) = os.all (· == .eq)
  | [] => rfl
  | o :: r => by
    rw [List.length_cons, List.range_succ_eq_map, List.all_cons, List.all_map, List.all_cons]
    have := all_range_getD r
    rw [← this]
    rfl
theorem tup_re {l b : Addr} {items items2 : Array Value} {os : List Ordering} (hl : IsTup s.heap l items) (hb : IsTup s.heap b items2) (hu : A.units < cLine) (hz : CmpZ A.in1 s items.toList items2.toList os) :
    RcAt A s (.ref l) (.ref b) (lexO os items.size items2.size == .eq) := by
  obtain ⟨h1, h2⟩ := hz.at_
  have := RcAt.tuples (s := s) (A := A) (e := fun j => os.getD j .eq == .eq) hl hb hu (fun j q1 q2 => h2 j (by simpa using q1) (by simpa using q2))
  have e1 : min items.size items2.size = os.length := by rw [h1]; simp
  rw [e1, all_range_getD, ← lexO_eq] at this
  exact this
theorem CmpA.tup {l b : Addr} {items items2 : Array Value} {os : List Ordering} (hl : IsTup s.heap l items) (hb : IsTup s.heap b items2) (hu : A.units < cLine) (hz : CmpZ A.in1 s items.toList items2.toList os)
    (hself : l = b → lexO os items.size items2.size = .eq) : CmpA A s (.ref l) (.ref b) (lexO os items.size items2.size) where
  eq := by
    by_cases e : l = b
    · subst e
      rw [hself rfl]
      exact EqAt.same _
    · exact EqAt.of_refs e (tup_re hl hb hu hz)
  re := tup_re hl hb hu hz
  rc := by
    intro op ho prog w E Q h
    obtain ⟨⟨cls, dd, data, sl⟩, ho1, hc, n, hd⟩ := id hl
    obtain ⟨⟨cls2, dd2, data2, sl2⟩, ho2, hc2, n2, hd2⟩ := id hb
    simp only at hc hd hc2 hd2
    subst hc hd hc2 hd2
    rcases ho with rfl | rfl | rfl | rfl
    · exact richCompare_meets_room (op := .Lt) ⟨_, ho1, rfl⟩ ⟨_, ho2, rfl⟩ PySem.F.slot_tuple_lt PySem.F.entry_tuple_lt (PySem.F.args_tuple_lt_2 _ _) (tuple_lt l b items items2 n n2 dd dd2 sl sl2 os)
        ⟨ho1, ho2, hz, (fun x => nomatch x), h⟩ hu
    · exact richCompare_meets_room (op := .LtE) ⟨_, ho1, rfl⟩ ⟨_, ho2, rfl⟩ PySem.F.slot_tuple_le PySem.F.entry_tuple_le (PySem.F.args_tuple_le_2 _ _) (tuple_le l b items items2 n n2 dd dd2 sl sl2 os)
        ⟨ho1, ho2, hz, (fun x => nomatch x), h⟩ hu
    · exact richCompare_meets_room (op := .Gt) ⟨_, ho1, rfl⟩ ⟨_, ho2, rfl⟩ PySem.F.slot_tuple_gt PySem.F.entry_tuple_gt (PySem.F.args_tuple_gt_2 _ _) (tuple_gt l b items items2 n n2 dd dd2 sl sl2 os)
        ⟨ho1, ho2, hz, (fun x => nomatch x), h⟩ hu
    · exact richCompare_meets_room (op := .GtE) ⟨_, ho1, rfl⟩ ⟨_, ho2, rfl⟩ PySem.F.slot_tuple_ge PySem.F.entry_tuple_ge (PySem.F.args_tuple_ge_2 _ _) (tuple_ge l b items items2 n n2 dd dd2 sl sl2 os)
        ⟨ho1, ho2, hz, (fun x => nomatch x), h⟩ hu
end
end VO
namespace VP
open PySem PySem.Spec PyProof.Rows L2 VO VM
open Rb19 (B Word Version)
def bs (l : List Nat) : List V := l.map fun (n : Nat) => V.int (n : Int)
theorem bs_len (l : List Nat) : (bs l).length = l.length := List.length_map ..
theorem bs_get {l : List Nat} {i : Nat} {x : V} (h : (bs l)[i]? = some x) : ∃ n, l[i]? = some n ∧ x = .int (n : Int) := by
  unfold bs at h
  rw [List.getElem?_map] at h
  cases e : l[i]? with
  | none => rw [e] at h; cases h
  | some n => rw [e] at h; exact ⟨n, rfl, (Option.some.inj h).symm⟩
theorem bs_at {l : List Nat} {i n : Nat} (h : l[i]? = some n) : (bs l)[i]? = some (.int (n : Int)) := by
  unfold bs
  rw [List.getElem?_map, h]
  rfl
theorem bs_inj : ∀ {x y : List Nat}, bs x = bs y → x = y
  | [], [], _ => rfl
  | [], _ :: _, h => by cases h
  | _ :: _, [], h => by cases h
  | a :: x, b :: y, h => by
    have h1 : V.int (a : Int) = V.int (b : Int) := (List.cons.inj h).1
    have h2 : bs x = bs y := (List.cons.inj h).2
    injection h1 with h1
    have h1 : a = b := by omega
    rw [h1, bs_inj h2]
theorem bs_append (x y : List Nat) : bs (x ++ y) = bs x ++ bs y := List.map_append ..
def WordAt (H : Hp) (v : V) : Word → Prop
  | .num n => ∃ a e, v = .ref a ∧ H a = some (.tup [.int 0, .int (n : Int), .ref e]) ∧ H e = some (.tup [])
  | .text l => ∃ a e, v = .ref a ∧ H a = some (.tup [.int 1, .int 0, .ref e]) ∧ H e = some (.tup (bs l))
def VerAt (H : Hp) (v : V) (u : Version) : Prop := ∃ a e vs, v = .ref a ∧ H a = some (.tup [.int (u.a : Int), .int (u.b : Int), .int (u.c : Int), .int (flag u), .ref e]) ∧ H e = some (.tup vs) ∧ Paired (WordAt H) vs u.pre
def OptAt {α : Type} (R : V → α → Prop) (v : V) : Option α → Prop
  | none => v = .non
  | some x => R v x
theorem WordAt.same {H H' : Hp} (s : Same H H') : ∀ {v : V} {w : Word}, WordAt H v w → WordAt H' v w
  | _, .num _, ⟨a, e, h0, h1, h2⟩ => ⟨a, e, h0, s _ _ h1, s _ _ h2⟩
  | _, .text _, ⟨a, e, h0, h1, h2⟩ => ⟨a, e, h0, s _ _ h1, s _ _ h2⟩
theorem VerAt.same {H H' : Hp} (s : Same H H') {v : V} {u : Version} : VerAt H v u → VerAt H' v u := fun ⟨a, e, vs, h0, h1, h2, h3⟩ => ⟨a, e, vs, h0, s _ _ h1, s _ _ h2, L2.Paired.mapP h3 fun _ _ q => q.same s⟩
theorem VerAt.tups {H H' : Hp} (s : ∀ b xs, H b = some (.tup xs) → H' b = some (.tup xs)) {v : V} {u : Version} : VerAt H v u → VerAt H' v u := fun ⟨a, e, vs, h0, h1, h2, h3⟩ => ⟨a, e, vs, h0, s _ _ h1, s _ _ h2, L2.Paired.mapP h3 fun v w q => by
  cases w with
  | num n => obtain ⟨a, e, h0, h1, h2⟩ := q; exact ⟨a, e, h0, s _ _ h1, s _ _ h2⟩
  | text l => obtain ⟨a, e, h0, h1, h2⟩ := q; exact ⟨a, e, h0, s _ _ h1, s _ _ h2⟩⟩
theorem WordAt.inj {H : Hp} {v : V} : ∀ {w w' : Word}, WordAt H v w → WordAt H v w' → w = w'
  | .num n, .num m, ⟨a, e, h0, h1, h2⟩, ⟨a', e', h0', h1', h2'⟩ => by
    subst h0
    injection h0' with h0'
    subst h0'
    rw [h1] at h1'
    injection h1' with h1'
    injection h1' with h1'
    injection h1' with _ h1'
    injection h1' with h1' _
    injection h1' with h1'
    have : n = m := by omega
    rw [this]
  | .num n, .text m, ⟨a, e, h0, h1, h2⟩, ⟨a', e', h0', h1', h2'⟩ => by
    subst h0
    injection h0' with h0'
    subst h0'
    rw [h1] at h1'
    injection h1' with h1'
    injection h1' with h1'
    injection h1' with h1' _
    injection h1' with h1'
    omega
  | .text n, .num m, ⟨a, e, h0, h1, h2⟩, ⟨a', e', h0', h1', h2'⟩ => by
    subst h0
    injection h0' with h0'
    subst h0'
    rw [h1] at h1'
    injection h1' with h1'
    injection h1' with h1'
    injection h1' with h1' _
    injection h1' with h1'
    omega
  | .text n, .text m, ⟨a, e, h0, h1, h2⟩, ⟨a', e', h0', h1', h2'⟩ => by
    subst h0
    injection h0' with h0'
    subst h0'
    rw [h1] at h1'
    injection h1' with h1'
    injection h1' with h1'
    injection h1' with _ h1'
    injection h1' with _ h1'
    injection h1' with h1' _
    injection h1' with h1'
    subst h1'
    rw [h2] at h2'
    injection h2' with h2'
    injection h2' with h2'
    rw [bs_inj h2']
theorem paired_inj {α : Type} {R : V → α → Prop} (hR : ∀ v x y, R v x → R v y → x = y) : ∀ {vs : List V} {xs ys : List α}, Paired R vs xs → Paired R vs ys → xs = ys
  | _, _, _, .nil, .nil => rfl
  | _, _, _, .cons r t, .cons r' t' => by rw [hR _ _ _ r r', paired_inj hR t t']
theorem VerAt.inj {H : Hp} {v : V} {u u' : Version} (h : VerAt H v u) (h' : VerAt H v u') : u = u' := by
  obtain ⟨a, e, vs, h0, h1, h2, h3⟩ := h
  obtain ⟨a', e', vs', h0', h1', h2', h3'⟩ := h'
  subst h0
  injection h0' with h0'
  subst h0'
  rw [h1] at h1'
  injection h1' with h1'
  injection h1' with h1'
  injection h1' with q1 h1'
  injection h1' with q2 h1'
  injection h1' with q3 h1'
  injection h1' with q4 h1'
  injection h1' with q5 h1'
  injection q1 with q1
  injection q2 with q2
  injection q3 with q3
  injection q5 with q5
  subst q5
  rw [h2] at h2'
  injection h2' with h2'
  injection h2' with h2'
  subst h2'
  have e := paired_inj (R := WordAt H) (fun _ _ _ => WordAt.inj) h3 h3'
  cases u; cases u'
  simp only at *
  have z1 := Int.ofNat.inj q1
  have z2 := Int.ofNat.inj q2
  have z3 := Int.ofNat.inj q3
  subst z1 z2 z3 e
  rfl
section
variable {A : Around} {s : Shared}
theorem cmpZ_of {α : Type} {f : α → α → Ordering} {R : V → α → Prop} (h : ∀ v x v' y u u', R v x → R v' y → RelV v u → RelV v' u' → CmpA A s u u' (f x y)) :
    ∀ {vs vs' : List V} {xs ys : List α} {us us' : List Value}, Paired R vs xs → Paired R vs' ys → Vals vs us → Vals vs' us' → CmpZ A s us us' (List.zipWith f xs ys)
  | _, _, _, _, _, _, .nil, _, .nil, _ => by rw [List.zipWith_nil_left]; exact .nl _
  | _, _, _, _, _, _, .cons _ _, .nil, .cons _ _, .nil => by rw [List.zipWith_nil_right]; exact .nr _
  | _, _, _, _, _, _, .cons r t, .cons r' t', .cons q p, .cons q' p' => .cons (h _ _ _ _ _ _ r r' q q') (cmpZ_of h t t' p p')
theorem paired_len {α β : Type} {R : α → β → Prop} : ∀ {xs : List α} {ys : List β}, Paired R xs ys → xs.length = ys.length
  | _, _, .nil => rfl
  | _, _, .cons _ t => by rw [List.length_cons, List.length_cons, paired_len t]
theorem paired_bs : ∀ l : List Nat, Paired (fun v (n : Nat) => v = V.int (n : Int)) (bs l) l
  | [] => .nil
  | a :: l => .cons rfl (paired_bs l)
variable {X : Cx} {pins : List (Addr × Obj)} {σ : L2.St} {H : Hp}
theorem cmp_tupV {a b : Addr} {vs vs' : List V} {os : List Ordering} (I : Inv X pins σ H s) (ha : H a = some (.tup vs)) (hb : H b = some (.tup vs')) (hu : A.units < cLine)
    (hz : ∀ us us', Vals vs us → Vals vs' us' → CmpZ A.in1 s us us' os) (hself : a = b → lexO os vs.length vs'.length = .eq) : CmpA A s (.ref a) (.ref b) (lexO os vs.length vs'.length) := by
  obtain ⟨its, r, p, _⟩ := I.tuple (SqT.of (K := X.K) ha)
  obtain ⟨its', r', p', _⟩ := I.tuple (SqT.of (K := X.K) hb)
  have e1 : vs.length = its.toArray.size := by rw [r.length]; simp
  have e2 : vs'.length = its'.toArray.size := by rw [r'.length]; simp
  have key := CmpA.tup (A := A) (s := s) p p' hu (hz its its' r r')
  rw [e1, e2] at hself ⊢
  exact key hself
theorem cmp_bytes {a b : Addr} {x y : List Nat} (I : Inv X pins σ H s) (ha : H a = some (.tup (bs x))) (hb : H b = some (.tup (bs y))) (hu : A.units < cLine) : CmpA A s (.ref a) (.ref b) (lexL ordN x y) := by
  have k := cmp_tupV (A := A) (os := List.zipWith ordN x y) I ha hb hu (fun us us' r r' => cmpZ_of (f := ordN) (R := fun v (n : Nat) => v = V.int (n : Int)) (fun v n v' m u u' h1 h2 q1 q2 => by
    subst h1 h2
    obtain ⟨t, rfl⟩ := q1
    obtain ⟨t', rfl⟩ := q2
    exact CmpA.int _ _ _ _ _ _) (paired_bs x) (paired_bs y) r r') (fun e => by
      subst e
      rw [ha] at hb
      injection hb with hb
      injection hb with hb
      have := bs_inj hb
      subst this
      rw [bs_len]
      exact (lexL_eq ordN_eq x x).mpr rfl)
  rw [bs_len, bs_len] at k
  exact k
theorem cmp_int3 {x y z x' y' z' : V} {us us' : List Value} {a b c : Ordering} (h1 : ∀ u u', RelV x u → RelV x' u' → CmpA A s u u' a) (h2 : ∀ u u', RelV y u → RelV y' u' → CmpA A s u u' b) (h3 : ∀ u u', RelV z u → RelV z' u' → CmpA A s u u' c)
    (r : Vals [x, y, z] us) (r' : Vals [x', y', z'] us') : CmpZ A s us us' [a, b, c] := by
  cases r with
  | cons q1 r =>
  cases r with
  | cons q2 r =>
  cases r with
  | cons q3 r =>
  cases r
  cases r' with
  | cons q1' r' =>
  cases r' with
  | cons q2' r' =>
  cases r' with
  | cons q3' r' =>
  cases r'
  exact .cons (h1 _ _ q1 q1') (.cons (h2 _ _ q2 q2') (.cons (h3 _ _ q3 q3') (.nl _)))
theorem cmpI (a b : Int) : ∀ u u', RelV (.int a) u → RelV (.int b) u' → CmpA A s u u' (ordI a b) := fun u u' ⟨t, h⟩ ⟨t', h'⟩ => by
  subst h h'
  exact CmpA.int _ _ _ _ _ _
theorem cmpR {a b : Addr} {o : Ordering} (h : CmpA A s (.ref a) (.ref b) o) : ∀ u u', RelV (.ref a) u → RelV (.ref b) u' → CmpA A s u u' o := fun u u' q q' => by
  cases q; cases q'; exact h
theorem cmp_word (I : Inv X pins σ H s) (hu : A.units + 4 < cLine) : ∀ (w w' : Word) (v v' : V) (u u' : Value), WordAt H v w → WordAt H v' w' → RelV v u → RelV v' u' → CmpA A s u u' (ordW w w') := by
  intro w w' v v' u u' h h' q q'
  have hu1 : A.in1.units < cLine := by show A.units + 1 < cLine; omega
  have hu0 : A.units < cLine := by omega
  have self : v = v' → ordW w w' = .eq := fun e => by
    subst e
    rw [h.inj h']
    exact (ordW_eq _ _).mpr rfl
  cases w with
  | num n =>
    obtain ⟨a, e, rfl, h1, h2⟩ := h
    cases w' with
    | num m =>
      obtain ⟨a', e', rfl, h1', h2'⟩ := h'
      cases q; cases q'
      have ee := cmp_bytes (A := A.in1) (x := []) (y := []) I h2 h2' hu1
      have er : lexO [ordI 0 0, ordI n m, lexL ordN [] []] 3 3 = ordW (.num n) (.num m) := by
        show lexO [ordI 0 0, ordI n m, .eq] 3 3 = ordI n m
        rw [ordI_self]
        cases ordI n m <;> rfl
      have k := cmp_tupV (A := A) I h1 h1' hu0 (fun us us' r r' => cmp_int3 (cmpI _ _) (cmpI _ _) (cmpR ee) r r') (fun z => by
        show lexO [ordI 0 0, ordI n m, lexL ordN [] []] 3 3 = .eq
        rw [er]; exact self (by rw [z]))
      rw [← er]
      exact k
    | text m =>
      obtain ⟨a', e', rfl, h1', h2'⟩ := h'
      cases q; cases q'
      have ee := cmp_bytes (A := A.in1) (x := []) (y := m) I h2 h2' hu1
      have k := cmp_tupV (A := A) I h1 h1' hu0 (fun us us' r r' => cmp_int3 (cmpI _ _) (cmpI _ _) (cmpR ee) r r') (fun z => absurd (self (by rw [z])) (by show ¬ Ordering.lt = .eq; exact fun z => (nomatch z)))
      exact k
  | text n =>
    obtain ⟨a, e, rfl, h1, h2⟩ := h
    cases w' with
    | num m =>
      obtain ⟨a', e', rfl, h1', h2'⟩ := h'
      cases q; cases q'
      have ee := cmp_bytes (A := A.in1) (x := n) (y := []) I h2 h2' hu1
      have k := cmp_tupV (A := A) I h1 h1' hu0 (fun us us' r r' => cmp_int3 (cmpI _ _) (cmpI _ _) (cmpR ee) r r') (fun z => absurd (self (by rw [z])) (by show ¬ Ordering.gt = .eq; exact fun z => (nomatch z)))
      exact k
    | text m =>
      obtain ⟨a', e', rfl, h1', h2'⟩ := h'
      cases q; cases q'
      have ee := cmp_bytes (A := A.in1) (x := n) (y := m) I h2 h2' hu1
      have er : lexO [ordI 1 1, ordI 0 0, lexL ordN n m] 3 3 = ordW (.text n) (.text m) := by
        show lexO [ordI 1 1, ordI 0 0, lexL ordN n m] 3 3 = lexL ordN n m
        rw [ordI_self, ordI_self]
        cases lexL ordN n m <;> rfl
      have k := cmp_tupV (A := A) I h1 h1' hu0 (fun us us' r r' => cmp_int3 (cmpI _ _) (cmpI _ _) (cmpR ee) r r') (fun z => by
        show lexO [ordI 1 1, ordI 0 0, lexL ordN n m] 3 3 = .eq
        rw [er]; exact self (by rw [z]))
      rw [← er]
      exact k
theorem cmp_ver (I : Inv X pins σ H s) (hu : A.units + 8 < cLine) {x y : Version} {v v' : V} {u u' : Value} (h : VerAt H v x) (h' : VerAt H v' y) (q : RelV v u) (q' : RelV v' u') : CmpA A s u u' (ordV x y) := by
  have self : v = v' → ordV x y = .eq := fun e => by
    subst e
    rw [h.inj h']
    exact (ordV_eq _ _).mpr rfl
  obtain ⟨a, e, vs, rfl, h1, h2, h3⟩ := h
  obtain ⟨a', e', vs', rfl, h1', h2', h3'⟩ := h'
  cases q; cases q'
  have hu1 : A.in1.units < cLine := by show A.units + 1 < cLine; omega
  have ee : CmpA A.in1 s (.ref e) (.ref e') (lexL ordW x.pre y.pre) := by
    have k := cmp_tupV (A := A.in1) (os := List.zipWith ordW x.pre y.pre) I h2 h2' hu1 (fun us us' r r' => cmpZ_of (f := ordW) (R := WordAt H) (fun v n v' m u u' h1 h2 q1 q2 => cmp_word (A := A.in1.in1) I (by show A.units + 1 + 1 + 4 < cLine; omega) _ _ _ _ _ _ h1 h2 q1 q2) h3 h3' r r') (fun z => by
      subst z
      rw [h2] at h2'
      injection h2' with h2'
      injection h2' with h2'
      subst h2'
      have e := paired_inj (R := WordAt H) (fun _ _ _ => WordAt.inj) h3 h3'
      rw [← e, paired_len h3]
      exact (lexL_eq ordW_eq _ _).mpr rfl)
    rw [paired_len h3, paired_len h3'] at k
    exact k
  have k := cmp_tupV (A := A) (os := [ordI x.a y.a, ordI x.b y.b, ordI x.c y.c, ordI (flag x) (flag y), lexL ordW x.pre y.pre]) I h1 h1' (by omega) (fun us us' r r' => by
    cases r with
    | cons q1 r =>
    cases r with
    | cons q2 r =>
    cases r' with
    | cons q1' r' =>
    cases r' with
    | cons q2' r' =>
    exact .cons (cmpI _ _ _ _ q1 q1') (.cons (cmpI _ _ _ _ q2 q2') (cmp_int3 (cmpI _ _) (cmpI _ _) (cmpR ee) r r'))) (fun z => self (by rw [z]))
  exact k
end
section
variable {X : Cx}
def rOrd (op : CmpOp) : R2 := fun x y H Q => ∃ u v, VerAt H x u ∧ VerAt H y v ∧ Q (.bl (opv op (ordV u v))) H
theorem op_ord {op : CmpOp} (ho : isOrd op) (hu : X.A.units + 64 < cLine) : OpR X (compareOp op) (rOrd op) := by
  intro pins s σ H x y v u Q I rx ry h
  obtain ⟨a, b, h1, h2, q⟩ := h
  have k := (cmp_ver (A := X.A) I (by omega) h1 h2 rx ry).rc op ho X.prog X.w X.xe (EP X pins σ Q) ⟨.bl _, H, I, rfl, q⟩
  rcases ho with rfl | rfl | rfl | rfl <;> exact k
def rOrdE : R2 := fun x y H Q => ∃ u v, VerAt H x u ∧ VerAt H y v ∧ Q (.bl (ordV u v == .eq)) H
theorem op_ordE (hu : X.A.units + 64 < cLine) : OpR X (compareOp .Eq) rOrdE := by
  intro pins s σ H x y v u Q I rx ry h
  obtain ⟨a, b, h1, h2, q⟩ := h
  exact (cmp_ver (A := X.A) I (by omega) h1 h2 rx ry).re X.prog X.w X.xe (EP X pins σ Q) ⟨.bl _, H, I, rfl, q⟩
end
end VP
namespace VP
open PySem PySem.Spec PyProof.Rows L2 VO VM
open Rb19 (B Word Version)
def SameB (D : Addr) (H H' : Hp) : Prop := ∀ b o, H b = some o → b ≠ D → H' b = some o
theorem Same.b {H H' : Hp} (s : Same H H') (D : Addr) : SameB D H H' := fun b o e _ => s b o e
theorem sameB_upd (D : Addr) (H : Hp) (o : HO) : SameB D H (upd H D o) := fun b q e h => by rw [upd_ne h]; exact e
theorem SameB.trans {D : Addr} {H H1 H2 : Hp} (a : SameB D H H1) (b : SameB D H1 H2) : SameB D H H2 := fun c o e h => b c o (a c o e h) h
theorem same_new {H H1 : Hp} {p : Addr} {o : HO} (s : Same H H1) (hp : H1 p = none) : Same H (upd H1 p o) := fun b q e => by
  rw [upd_ne (ne_of_none (s _ _ e) hp)]
  exact s _ _ e
theorem same_upd {H : Hp} {p : Addr} {o : HO} (hp : H p = none) : Same H (upd H p o) := same_new (Same.refl H) hp
theorem same_free {H H1 : Hp} {p : Addr} {o : HO} (s : Same H H1) (hp : H p = none) : Same H (upd H1 p o) := fun b q e => by
  rw [upd_ne (ne_of_none e hp)]
  exact s _ _ e
theorem SameB.tups {D : Addr} {H H' : Hp} {zs : List V} (s : SameB D H H') (hD : H D = some (.lst zs)) : ∀ b xs, H b = some (.tup xs) → H' b = some (.tup xs) := fun b xs e => s b _ e (ne_of e hD (fun z => by cases z))
theorem Same.sqT {K : PySem.W.Frag} {H H' : Hp} {a : Addr} {xs : List V} (e : Same H H') (h : SqT K H a xs) : SqT K H' a xs := by
  rcases h with (h | ⟨o, h⟩) | h
  · exact .inl (.inl (e _ _ h))
  · exact .inl (.inr ⟨o, e _ _ h⟩)
  · exact .inr h
theorem WordAt.tups {H H' : Hp} (s : ∀ b xs, H b = some (.tup xs) → H' b = some (.tup xs)) {v : V} : ∀ {w : Word}, WordAt H v w → WordAt H' v w
  | .num _, ⟨a, e, h0, h1, h2⟩ => ⟨a, e, h0, s _ _ h1, s _ _ h2⟩
  | .text _, ⟨a, e, h0, h1, h2⟩ => ⟨a, e, h0, s _ _ h1, s _ _ h2⟩
theorem OptAt.imp {α : Type} {R S : V → α → Prop} {v : V} (f : ∀ x, R v x → S v x) : ∀ {o : Option α}, OptAt R v o → OptAt S v o
  | none, h => h
  | some x, h => f x h
theorem paired_snoc {α β : Type} {R : α → β → Prop} : ∀ {xs : List α} {ys : List β} {x : α} {y : β}, Paired R xs ys → R x y → Paired R (xs ++ [x]) (ys ++ [y])
  | _, _, _, _, .nil, r => .cons r .nil
  | _, _, _, _, .cons q t, r => .cons q (paired_snoc t r)
theorem take_snoc {α : Type} : ∀ {l : List α} {i : Nat} {x : α}, l[i]? = some x → l.take (i + 1) = l.take i ++ [x]
  | [], i, x, h => by simp at h
  | a :: l, 0, x, h => by
    have e : a = x := Option.some.inj h
    subst e
    rfl
  | a :: l, i + 1, x, h => by
    have ih := take_snoc (l := l) (i := i) (x := x) h
    show a :: l.take (i + 1) = a :: l.take i ++ [x]
    rw [ih]
    rfl
theorem lc_rel {K : PySem.W.Frag} {a D : Addr} {xs : List V} {g : TG} {te : TE} {vs : List Nat} {σ : L2.St} {H1 : Hp} {Qd : Hp → Prop} (R : V → V → Hp → Prop)
    (hD : H1 D = none) (hxs : SqL K H1 a xs) (hl : xs.length < sizeLine)
    (mono : ∀ x y H H' zs, H D = some (.lst zs) → SameB D H H' → R x y H → R x y H')
    (step : ∀ x H (Q' : VK) zs, x ∈ xs → Same H1 H → H D = some (.lst zs) → (∀ y H4, Same H H4 → R x y H4 → Q' y H4) → g x (wipe σ vs) H fun σ2 H2 => wipe σ2 vs = wipe σ vs ∧ te σ2 H2 Q')
    (fin : ∀ ys H', Same H1 H' → H' D = some (.lst ys) → Paired (fun x y => R x y H') xs ys → Qd H') :
    ∃ W : Nat → Nat → Hp → Prop, (∃ m, W 0 m (upd H1 D (.lst []))) ∧ ∀ i m H, W i m H → ((Itl K a).stop i H ∧ Qd H) ∨ ((Itl K a).go i H ∧ ∃ Nx : Hp → Prop, (∀ H', Nx H' → ∃ m', m' < m ∧ W (i + 1) m' H') ∧
      ∀ x H', (Itl K a).yld i H x H' → g x (wipe σ vs) H' fun σ2 H2 => wipe σ2 vs = wipe σ vs ∧ tYes σ2 H2 fun b H3 =>
        if b = true then te σ2 H3 fun y H4 => ∃ acc, H4 D = some (.lst acc) ∧ acc.length < sizeLine ∧ Nx (upd H4 D (.lst (acc ++ [y]))) else Nx H3) := by
  refine lc_list (K := K) (a := a) (xs := xs) (fun i H => Same H1 H ∧ ∃ ys, H D = some (.lst ys) ∧ Paired (fun x y => R x y H) (xs.take i) ys) ?_ ?_ ?_ ?_
  · exact ⟨same_upd hD, [], upd_same, by rw [List.take_zero]; exact .nil⟩
  · exact fun i H _ ⟨s, _⟩ => s.seq hxs
  · rintro i x H hi ⟨s, ys, hy, pr⟩
    refine step x H _ ys (List.mem_of_getElem? hi) s hy fun y H4 s4 r => ?_
    have l1 := paired_len pr
    rw [List.length_take] at l1
    refine ⟨ys, s4 _ _ hy, by omega, same_free (s.trans s4) hD, ys ++ [y], upd_same, ?_⟩
    rw [take_snoc hi]
    refine paired_snoc (L2.Paired.mapP pr fun x' y' q => ?_) ?_
    · exact mono x' y' H _ ys hy ((Same.b s4 D).trans (sameB_upd D H4 _)) q
    · exact mono x y H4 _ ys (s4 _ _ hy) (sameB_upd D H4 _) r
  · rintro H ⟨s, ys, hy, pr⟩
    rw [List.take_length] at pr
    exact fin ys H s hy pr
theorem lc_map {K : PySem.W.Frag} {a D : Addr} {xs : List V} {g : TG} {te : TE} {vs : List Nat} {σ : L2.St} {H1 : Hp} {Qd : Hp → Prop} (φ : V → V)
    (hD : H1 D = none) (hxs : SqL K H1 a xs) (hl : xs.length < sizeLine)
    (step : ∀ x H (Q' : VK) zs, x ∈ xs → Same H1 H → H D = some (.lst zs) → (∀ H4, Same H H4 → Q' (φ x) H4) → g x (wipe σ vs) H fun σ2 H2 => wipe σ2 vs = wipe σ vs ∧ te σ2 H2 Q')
    (fin : ∀ H', Same H1 H' → H' D = some (.lst (xs.map φ)) → Qd H') :
    ∃ W : Nat → Nat → Hp → Prop, (∃ m, W 0 m (upd H1 D (.lst []))) ∧ ∀ i m H, W i m H → ((Itl K a).stop i H ∧ Qd H) ∨ ((Itl K a).go i H ∧ ∃ Nx : Hp → Prop, (∀ H', Nx H' → ∃ m', m' < m ∧ W (i + 1) m' H') ∧
      ∀ x H', (Itl K a).yld i H x H' → g x (wipe σ vs) H' fun σ2 H2 => wipe σ2 vs = wipe σ vs ∧ tYes σ2 H2 fun b H3 =>
        if b = true then te σ2 H3 fun y H4 => ∃ acc, H4 D = some (.lst acc) ∧ acc.length < sizeLine ∧ Nx (upd H4 D (.lst (acc ++ [y]))) else Nx H3) := by
  refine lc_rel (fun x y _ => y = φ x) hD hxs hl (fun _ _ _ _ _ _ _ h => h) (fun x H Q' zs hx s hz k => step x H Q' zs hx s hz fun H4 s4 => k _ H4 s4 rfl) (fun ys H' s hy pr => ?_)
  have e : ys = xs.map φ := by
    clear hy hl hxs step fin
    induction pr with
    | nil => rfl
    | cons q _ ih => rw [List.map_cons, q, ih]
  rw [e] at hy
  exact fin H' s hy
end VP
namespace VP
open PySem
def top (i : Nat) : Stmt := PySem.Challenge.pw_versionpick_s01_answers.main.body.getD i (.Pass ⟨0, 0, 0, 0⟩)
abbrev sOptions : Stmt := top 1
abbrev sChoiceAt : Stmt := top 2
abbrev sCount : Stmt := top 3
abbrev sIsMet : Stmt := top 4
abbrev sIsRight : Stmt := top 5
abbrev sBest : Stmt := top 6
abbrev sIsDigit : Stmt := top 10
abbrev sIsSmall : Stmt := top 11
abbrev sIsLarge : Stmt := top 12
abbrev sIsWord : Stmt := top 13
abbrev sAllDigits : Stmt := top 14
abbrev sPieces : Stmt := top 15
abbrev sReadNumber : Stmt := top 16
abbrev sReadWord : Stmt := top 17
abbrev sReadVersion : Stmt := top 18
abbrev sFirstNext : Stmt := top 19
abbrev sCaret : Stmt := top 20
abbrev sSign : Stmt := top 21
abbrev sBounds : Stmt := top 22
abbrev sGroup : Stmt := top 23
abbrev sCond : Stmt := top 24
abbrev sKeepB : Stmt := top 25
abbrev sKeepG : Stmt := top 26
abbrev sHoldsC : Stmt := top 27
abbrev sIsNameB : Stmt := top 38
abbrev sIsName : Stmt := top 39
abbrev cAsk : Stmt := top 40
abbrev mAsk_init : Stmt := L2.inClass (top 40) 0
abbrev mAsk_accepts : Stmt := L2.inClass (top 40) 1
abbrev cRelease : Stmt := top 41
abbrev mRelease_init : Stmt := L2.inClass (top 41) 0
abbrev cPackage : Stmt := top 42
abbrev mPackage_init : Stmt := L2.inClass (top 42) 0
abbrev mPackage_add_release : Stmt := L2.inClass (top 42) 1
abbrev mPackage_find_release : Stmt := L2.inClass (top 42) 2
abbrev cSession : Stmt := top 43
abbrev mSession_init : Stmt := L2.inClass (top 43) 0
abbrev mSession_begin : Stmt := L2.inClass (top 43) 1
abbrev mSession_number_of : Stmt := L2.inClass (top 43) 2
abbrev mSession_release_of : Stmt := L2.inClass (top 43) 3
abbrev mSession_add : Stmt := L2.inClass (top 43) 4
abbrev mSession_ask : Stmt := L2.inClass (top 43) 5
abbrev mSession_want : Stmt := L2.inClass (top 43) 6
abbrev mSession_put_ask : Stmt := L2.inClass (top 43) 7
abbrev mSession_choose : Stmt := L2.inClass (top 43) 8
abbrev sSplit : Stmt := top 44
abbrev sAnswer : Stmt := top 45
abbrev sAnswers : Stmt := top 46
end VP
namespace VP
open PySem PySem.Spec PyProof.Rows L2 VO VM
open Rb19 (B Word Version)
theorem bt_ord : bootBuiltins "ord" = some (.builtin "ord") := by decide +kernel
theorem bt_all : bootBuiltins "all" = some (.builtin "all") := by decide +kernel
theorem bt_tuple : bootBuiltins "tuple" = some (.type "tuple") := by decide +kernel
theorem bt_list : bootBuiltins "list" = some (.type "list") := by decide +kernel
theorem bt_any : bootBuiltins "any" = some (.builtin "any") := by decide +kernel
structure Blt (mg : Str → Option Value) : Prop where
  ord : mg "ord" = none
  len : mg "len" = none
  all : mg "all" = none
  tuple : mg "tuple" = none
structure Def (K : PySem.W.Frag) (mg : Str → Option Value) (x : Str) (st : Stmt) (ps : List Str) (f : Addr) (fd : FuncData) : Prop where
  F : Fun K x x st f fd
  b : Binds K fd ps []
  at_ : mg x = some (.ref f)
def small (c : Nat) : Bool := decide (97 ≤ c) && decide (c ≤ 122)
def large (c : Nat) : Bool := decide (65 ≤ c) && decide (c ≤ 90)
def spB (f : Nat → Bool) : Sp := fun vs H Q _ => ∃ n : Nat, vs = [.int (n : Int)] ∧ Q (.bl (f n)) H
section
variable {P : Program} {w : World} {K : PySem.W.Frag} {mg : Str → Option Value} {base : Heap} {f : Addr} {fd : FuncData}
theorem between {lo hi n : Nat} {Q : VK} {H : Hp} {a b : Int} (ha : a = lo) (hb : b = hi) (q : Q (.bl (decide (lo ≤ n) && decide (n ≤ hi))) H) :
    rI0 (fun i j => .bl (decide (i ≤ j))) (.int a) (.int (n : Int)) H fun z H3 => ∃ k, z = .bl k ∧ (if k = true then rI0 (fun i j => .bl (decide (i ≤ j))) (.int (n : Int)) (.int b) H3 Q else Q (.bl false) H3) := by
  subst ha hb
  refine ⟨_, _, rfl, rfl, _, rfl, ?_⟩
  by_cases h : lo ≤ n
  · rw [if_pos (decide_eq_true (by omega))]
    refine ⟨_, _, rfl, rfl, ?_⟩
    rw [decide_eq_true h, Bool.true_and] at q
    have e : decide ((n : Int) ≤ (hi : Int)) = decide (n ≤ hi) := by
      by_cases h2 : n ≤ hi
      · rw [decide_eq_true h2, decide_eq_true (by omega)]
      · rw [decide_eq_false h2, decide_eq_false (by omega)]
    show Q (V.bl (decide ((n : Int) ≤ (hi : Int)))) H
    rw [e]
    exact q
  · rw [if_neg (by rw [decide_eq_true_eq]; omega)]
    rw [decide_eq_false h, Bool.false_and] at q
    exact q
theorem scDigit : FnScope ["byte"] ["byte"] (defScope sIsDigit) := ⟨rfl, rfl, rfl, by decide +kernel, rfl, by decide +kernel, by decide +kernel⟩
theorem ok_isDigit (D : Def K mg "is_digit" sIsDigit ["byte"] f fd) (T : Blt mg) : FnOk P w K mg base CX0 1 f fd ["byte"] (spB Rb19.digit) := by
  refine D.F.ok scDigit (fun vs H Q E h => ?_) (fun cdv A outer s H vs Q E hr h => ?_)
  · obtain ⟨n, rfl, _⟩ := h
    rfl
  · obtain ⟨n, rfl, q⟩ := h
    refine ⟨_, pss_one (ps_ret (pe_chain op_le op_le (pe_callB call_ord rfl T.ord bt_ord (pa_cons pe_str pa_nil)) (pv 0) (pe_callB call_ord rfl T.ord bt_ord (pa_cons pe_str pa_nil)))), ?_⟩
    refine ⟨_, rfl, rfl, _, rfl, ?_⟩
    have k := between (lo := 48) (hi := 57) (n := n) (Q := Q) (H := H) rfl rfl q
    obtain ⟨i, j, e1, e2, k0, e3, k⟩ := k
    exact ⟨i, j, e1, e2, k0, e3, by
      revert k
      cases k0 with
      | true => exact fun k => ⟨_, rfl, rfl, k⟩
      | false => exact fun k => k⟩
theorem scSmall : FnScope ["byte"] ["byte"] (defScope sIsSmall) := ⟨rfl, rfl, rfl, by decide +kernel, rfl, by decide +kernel, by decide +kernel⟩
theorem ok_isSmall (D : Def K mg "is_small_letter" sIsSmall ["byte"] f fd) (T : Blt mg) : FnOk P w K mg base CX0 1 f fd ["byte"] (spB small) := by
  refine D.F.ok scSmall (fun vs H Q E h => ?_) (fun cdv A outer s H vs Q E hr h => ?_)
  · obtain ⟨n, rfl, _⟩ := h
    rfl
  · obtain ⟨n, rfl, q⟩ := h
    refine ⟨_, pss_one (ps_ret (pe_chain op_le op_le (pe_callB call_ord rfl T.ord bt_ord (pa_cons pe_str pa_nil)) (pv 0) (pe_callB call_ord rfl T.ord bt_ord (pa_cons pe_str pa_nil)))), ?_⟩
    refine ⟨_, rfl, rfl, _, rfl, ?_⟩
    have k := between (lo := 97) (hi := 122) (n := n) (Q := Q) (H := H) rfl rfl q
    obtain ⟨i, j, e1, e2, k0, e3, k⟩ := k
    exact ⟨i, j, e1, e2, k0, e3, by
      revert k
      cases k0 with
      | true => exact fun k => ⟨_, rfl, rfl, k⟩
      | false => exact fun k => k⟩
theorem scLarge : FnScope ["byte"] ["byte"] (defScope sIsLarge) := ⟨rfl, rfl, rfl, by decide +kernel, rfl, by decide +kernel, by decide +kernel⟩
theorem ok_isLarge (D : Def K mg "is_large_letter" sIsLarge ["byte"] f fd) (T : Blt mg) : FnOk P w K mg base CX0 1 f fd ["byte"] (spB large) := by
  refine D.F.ok scLarge (fun vs H Q E h => ?_) (fun cdv A outer s H vs Q E hr h => ?_)
  · obtain ⟨n, rfl, _⟩ := h
    rfl
  · obtain ⟨n, rfl, q⟩ := h
    refine ⟨_, pss_one (ps_ret (pe_chain op_le op_le (pe_callB call_ord rfl T.ord bt_ord (pa_cons pe_str pa_nil)) (pv 0) (pe_callB call_ord rfl T.ord bt_ord (pa_cons pe_str pa_nil)))), ?_⟩
    refine ⟨_, rfl, rfl, _, rfl, ?_⟩
    have k := between (lo := 65) (hi := 90) (n := n) (Q := Q) (H := H) rfl rfl q
    obtain ⟨i, j, e1, e2, k0, e3, k⟩ := k
    exact ⟨i, j, e1, e2, k0, e3, by
      revert k
      cases k0 with
      | true => exact fun k => ⟨_, rfl, rfl, k⟩
      | false => exact fun k => k⟩
theorem dec_nat (n : Nat) (m : Nat) : decide (V.int (n : Int) = V.int (m : Int)) = (n == m) := by
  rw [dec_int]
  by_cases h : n = m
  · subst h; rw [beq_self_eq_true, beq_self_eq_true]
  · have h2 : ¬ (n : Int) = (m : Int) := by omega
    rw [beq_eq_false_iff_ne.mpr h, beq_eq_false_iff_ne.mpr h2]
theorem scWordB : FnScope ["byte"] ["byte"] (defScope sIsWord) := ⟨rfl, rfl, rfl, by decide +kernel, rfl, by decide +kernel, by decide +kernel⟩
theorem or4 {a b c d : Bool} {Q : Bool → Prop} (q : Q (a || (c || (b || d)))) : if a = true then Q true else if b = true then Q true else if c = true then Q true else Q d := by
  cases a <;> cases b <;> cases c <;> exact q
theorem ok_isWord {f1 f2 f3 : Addr} {fd1 fd2 fd3 : FuncData} (D : Def K mg "is_word_byte" sIsWord ["byte"] f fd) (T : Blt mg) (D1 : Def K mg "is_digit" sIsDigit ["byte"] f1 fd1) (D2 : Def K mg "is_small_letter" sIsSmall ["byte"] f2 fd2) (D3 : Def K mg "is_large_letter" sIsLarge ["byte"] f3 fd3) :
    FnOk P w K mg base CX0 2 f fd ["byte"] (spB Rb19.sign) := by
  have G1 : FnOk P w K mg base CX0 1 f1 fd1 ["byte"] (spB Rb19.digit) := ok_isDigit D1 T
  have G2 : FnOk P w K mg base CX0 1 f2 fd2 ["byte"] (spB small) := ok_isSmall D2 T
  have G3 : FnOk P w K mg base CX0 1 f3 fd3 ["byte"] (spB large) := ok_isLarge D3 T
  refine D.F.ok scWordB (fun vs H Q E h => ?_) (fun cdv A outer s H vs Q E hr h => ?_)
  · obtain ⟨n, rfl, _⟩ := h
    rfl
  · obtain ⟨n, rfl, q⟩ := h
    refine ⟨_, pss_one (ps_ret (pe_or (pe_call G1 hr rfl D1.at_ D1.F.kp D1.b .nil pass0 (pa_cons (pv 0) pa_nil)) (pe_or (pe_call G2 hr rfl D2.at_ D2.F.kp D2.b .nil pass0 (pa_cons (pv 0) pa_nil))
      (pe_or (pe_call G3 hr rfl D3.at_ D3.F.kp D3.b .nil pass0 (pa_cons (pv 0) pa_nil)) (pe_one (pe_cmpR op_eq (pv 0) (pe_callB call_ord rfl T.ord bt_ord (pa_cons pe_str pa_nil)) (nomark _))))))), ?_⟩
    refine ⟨_, rfl, n, rfl, _, rfl, ?_⟩
    have k := or4 (a := Rb19.digit n) (b := small n) (c := large n) (d := n == 45) (Q := fun b => Q (.bl b) H) q
    revert k
    cases Rb19.digit n with
    | true => exact fun k => k
    | false =>
      intro k
      refine ⟨_, rfl, n, rfl, _, rfl, ?_⟩
      revert k
      cases small n with
      | true => exact fun k => k
      | false =>
        intro k
        refine ⟨_, rfl, n, rfl, _, rfl, ?_⟩
        revert k
        cases large n with
        | true => exact fun k => k
        | false =>
          intro k
          refine ⟨_, rfl, _, rfl, rfl, rfl, ?_⟩
          have e := dec_nat n 45
          have k : Q (.bl (n == 45)) H := k
          rw [← e] at k
          exact k
def spT (K : PySem.W.Frag) (φ : B → V) : Sp := fun vs H Q _ => ∃ (a : Addr) (l : B), vs = [.ref a] ∧ SqL K H a (bs l) ∧ l.length ≤ 256 ∧ ∀ H', Same H H' → Q (φ l) H'
theorem len256 {n : Nat} (h : n ≤ 256) : n < sizeLine := small1000 (by omega)
theorem map_bs (g : Nat → Bool) (φ : V → V) (h : ∀ n : Nat, φ (.int (n : Int)) = .bl (g n)) : ∀ l : B, (bs l).map φ = (l.map g).map V.bl
  | [] => rfl
  | a :: l => by
    show φ (.int (a : Int)) :: (bs l).map φ = _
    rw [h, map_bs g φ h l]
    rfl
theorem all_id (g : Nat → Bool) : ∀ l : B, (l.map g).all id = l.all g
  | [] => rfl
  | a :: l => by rw [List.map_cons, List.all_cons, List.all_cons, all_id g l]; rfl
def onB (g : Nat → Bool) : V → V
  | .int i => .bl (g i.toNat)
  | v => v
theorem onB_nat (g : Nat → Bool) (n : Nat) : onB g (.int (n : Int)) = .bl (g n) := rfl
theorem scAll : FnScope ["text", "byte"] ["text"] (defScope sAllDigits) := ⟨rfl, rfl, rfl, by decide +kernel, rfl, by decide +kernel, by decide +kernel⟩
theorem mem_bs {l : B} {x : V} (h : x ∈ bs l) : ∃ n, n ∈ l ∧ x = .int (n : Int) := by
  unfold bs at h
  obtain ⟨n, h1, h2⟩ := List.mem_map.mp h
  exact ⟨n, h1, h2.symm⟩
theorem ok_allDigits {f1 : Addr} {fd1 : FuncData} (D : Def K mg "all_digits" sAllDigits ["text"] f fd) (T : Blt mg) (D1 : Def K mg "is_digit" sIsDigit ["byte"] f1 fd1) :
    FnOk P w K mg base CX0 2 f fd ["text"] (spT K fun l => .bl (l.all Rb19.digit)) := by
  have G1 : FnOk P w K mg base CX0 1 f1 fd1 ["byte"] (spB Rb19.digit) := ok_isDigit D1 T
  refine D.F.ok scAll (fun vs H Q E h => ?_) (fun cdv A outer s H vs Q E hr h => ?_)
  · obtain ⟨a, l, rfl, _⟩ := h
    rfl
  · obtain ⟨a, l, rfl, hS, hl, k⟩ := h
    refine ⟨_, pss_one (ps_ret (pe_callB (cr_all rfl) rfl T.all bt_all (pa_cons (pe_lc (own := [("byte", 1)]) rfl scAll.nd (pi_list (pv 0)) (blkOk_by (by rfl)) (fun _ _ _ _ _ => pg_name (i := 1) scAll.nd rfl (Or.inl rfl)) (fun _ _ _ _ _ => pts_nil)
      (fun _ _ _ _ _ => pe_call G1 hr rfl D1.at_ D1.F.kp D1.b .nil pass0 (pa_cons (pv 1) pa_nil))) pa_nil))), ?_⟩
    refine ⟨_, rfl, a, rfl, ⟨_, hS⟩, fun DD hD => lc_map (onB Rb19.digit) hD hS (by rw [bs_len]; exact len256 hl) (fun x H2 Q' zs hx s2 hz k2 => ?_) (fun H' s2 hy => ?_)⟩
    · obtain ⟨n, _, rfl⟩ := mem_bs hx
      exact ⟨rfl, _, rfl, n, rfl, k2 H2 (Same.refl H2)⟩
    · rw [map_bs Rb19.digit _ (onB_nat _)] at hy
      refine ⟨DD, _, rfl, SqL.of hy, ?_⟩
      rw [all_id]
      exact k H' s2
end
end VP
namespace VP
open PySem PySem.Spec PyProof.Rows L2 VO VM
open Rb19 (B Word Version)
structure PcsAt (H0 H : Hp) (p : Addr) (cs : List B) : Prop where
  fp : H0 p = none
  ex : ∃ as : List Addr, H p = some (.lst (as.map V.ref)) ∧ (∀ a ∈ as, H0 a = none ∧ a ≠ p) ∧ as.Nodup ∧ Paired (fun a c => H a = some (.lst (bs c))) as cs
theorem paired_last {α β : Type} {R : α → β → Prop} : ∀ {xs : List α} {ini : List β} {z : β}, Paired R xs (ini ++ [z]) → ∃ xi x, xs = xi ++ [x] ∧ Paired R xi ini ∧ R x z
  | _, [], z, h => by
    cases h with
    | cons r t => cases t; exact ⟨[], _, rfl, .nil, r⟩
  | _, i :: ini, z, h => by
    cases h with
    | cons r t =>
      obtain ⟨xi, x, e, p, q⟩ := paired_last (ini := ini) (z := z) t
      exact ⟨_ :: xi, x, by rw [e]; rfl, .cons r p, q⟩
theorem paired_mem {α β : Type} {R S : α → β → Prop} : ∀ {xs : List α} {ys : List β}, Paired R xs ys → (∀ x y, x ∈ xs → R x y → S x y) → Paired S xs ys
  | _, _, .nil, _ => .nil
  | _, _, .cons r t, h => .cons (h _ _ (List.mem_cons_self ..) r) (paired_mem t fun x y hx q => h x y (List.mem_cons_of_mem _ hx) q)
theorem PcsAt.push {H0 H : Hp} {p q : Addr} {cs : List B} (s : Same H0 H) (I : PcsAt H0 H p cs) (hq : H q = none) :
    ∃ as : List Addr, H p = some (.lst (as.map V.ref)) ∧ as.length = cs.length ∧ p ≠ q ∧ Same H0 (upd (upd H q (.lst [])) p (.lst (as.map V.ref ++ [.ref q]))) ∧ PcsAt H0 (upd (upd H q (.lst [])) p (.lst (as.map V.ref ++ [.ref q]))) p (cs ++ [[]]) := by
  obtain ⟨fp, as, h1, h2, h3, h4⟩ := I
  have npq : p ≠ q := ne_of_none h1 hq
  refine ⟨as, h1, paired_len h4, npq, same_free (same_new s hq) fp, fp, as ++ [q], ?_, ?_, ?_, ?_⟩
  · rw [upd_same, List.map_append]; rfl
  · intro a ha
    rcases List.mem_append.mp ha with ha | ha
    · exact h2 a ha
    · have e : a = q := by simpa using ha
      subst e
      exact ⟨s.free hq, fun z => npq z.symm⟩
  · refine nd_snoc h3 fun hm => ?_
    clear h2 h3 h1
    induction h4 with
    | nil => cases hm
    | cons r _ ih =>
      rcases List.mem_cons.mp hm with rfl | hm
      · rw [hq] at r; cases r
      · exact ih hm
  · refine paired_snoc (paired_mem h4 fun a c ha r => ?_) ?_
    · rw [upd_ne (h2 a ha).2, upd_ne (ne_of_none r hq)]; exact r
    · rw [upd_ne (fun z => npq z.symm), upd_same]; rfl
theorem PcsAt.grow {H0 H : Hp} {p : Addr} {cs : List B} (c : Nat) (s : Same H0 H) (I : PcsAt H0 H p cs) (hc : cs ≠ []) (hl : ∀ x ∈ cs, x.length ≤ 256) :
    ∃ (as : List Addr) (z : Addr) (d : B), H p = some (.lst (as.map V.ref ++ [.ref z])) ∧ H z = some (.lst (bs d)) ∧ d.length ≤ 256 ∧ Same H0 (upd H z (.lst (bs d ++ [.int (c : Int)]))) ∧ PcsAt H0 (upd H z (.lst (bs d ++ [.int (c : Int)]))) p (addLast c cs) := by
  obtain ⟨ini, d, e1, e2⟩ := addLast_eq c cs hc
  subst e1
  obtain ⟨fp, as, h1, h2, h3, h4⟩ := I
  obtain ⟨xi, x, rfl, h5, h6⟩ := paired_last h4
  have hx := h2 x (List.mem_append_right _ (List.mem_cons_self ..))
  refine ⟨xi, x, d, by rw [h1, List.map_append]; rfl, h6, hl d (List.mem_append_right _ (List.mem_cons_self ..)), same_free s hx.1, fp, xi ++ [x], ?_, h2, h3, ?_⟩
  · rw [upd_ne (fun z => hx.2 z.symm)]; exact h1
  · rw [e2]
    refine paired_snoc (paired_mem h5 fun a c' ha r => ?_) ?_
    · have : a ≠ x := fun z => by
        subst z
        exact (List.nodup_append.mp h3).2.2 a ha a (List.mem_cons_self ..) rfl
      rw [upd_ne this]; exact r
    · rw [upd_same, bs_append]; rfl
theorem PcsAt.same {H0 H H' : Hp} {p : Addr} {cs : List B} (s : Same H H') (I : PcsAt H0 H p cs) : PcsAt H0 H' p cs := by
  obtain ⟨fp, as, h1, h2, h3, h4⟩ := I
  exact ⟨fp, as, s _ _ h1, h2, h3, L2.Paired.mapP h4 fun _ _ r => s _ _ r⟩
def spPieces (K : PySem.W.Frag) : Sp := fun vs H Q _ => ∃ (a : Addr) (m : Str) (mk : Nat) (l : B), vs = [.ref a, .str m] ∧ m.length = 1 ∧ m.cps.getD 0 0 = mk ∧ SqL K H a (bs l) ∧ l.length ≤ 256 ∧
  ∀ H' p, Same H H' → PcsAt H H' p (Rb19.cut mk l) → Q (.ref p) H'
section
variable {P : Program} {w : World} {K : PySem.W.Frag} {mg : Str → Option Value} {base : Heap} {f : Addr} {fd : FuncData}
theorem scPieces : FnScope ["text", "mark", "found", "byte"] ["text", "mark"] (defScope sPieces) := ⟨rfl, rfl, rfl, by decide +kernel, rfl, by decide +kernel, by decide +kernel⟩
theorem cut_small {m : Nat} {l : B} (h : l.length ≤ 256) : ∀ x ∈ Rb19.cut m l, x.length ≤ 256 := fun x hx => Nat.le_trans (cut_mem m l x hx).1 h
theorem ok_pieces (D : Def K mg "pieces" sPieces ["text", "mark"] f fd) (T : Blt mg) : FnOk P w K mg base CX0 1 f fd ["text", "mark"] (spPieces K) := by
  refine D.F.ok scPieces (fun vs H Q E h => ?_) (fun cdv A outer s H vs Q E hr h => ?_)
  · obtain ⟨a, m, mk, l, rfl, _⟩ := h
    rfl
  · obtain ⟨a, m, mk, l, rfl, hm, hmk, hS, hl, k⟩ := h
    refine ⟨_, pss_cons (ps_set (i := 2) scPieces.nd rfl (Or.inl rfl) (pe_lst (pa_cons (pe_lst pa_nil) pa_nil)))
      (pss_cons (ps_for PassesOwn.never rfl (pi_list (pv 0)) (pg_name (i := 3) scPieces.nd rfl (Or.inl rfl))
        (pss_one (ps_if (pt_cmpR op_eq (pv 3) (pe_callB call_ord rfl T.ord bt_ord (pa_cons (pv 1) pa_nil)) (nomark _))
          (pss_one (ps_expr (pe_bm PySem.F.plainAttrs_list PySem.F.slot_list_append PySem.F.type_list_append mt_append (pv 2) (pa_cons (pe_lst pa_nil) pa_nil))))
          (pss_one (ps_expr (pe_bm PySem.F.plainAttrs_list PySem.F.slot_list_append PySem.F.type_list_append mt_append (pe_ix ix_list (pv 2) (pe_un un_neg pe_int) (fun _ _ => rfl)) (pa_cons (pv 3) pa_nil)))))))
      (pss_one (ps_ret (pv 2)))), ?_⟩
    refine ⟨Nat.zero_le _, fun q0 hq0 => ⟨by show 1 ≤ sizeLine; decide, fun p hp => ?_⟩⟩
    have s0 : Same H (upd (upd H q0 (.lst [])) p (.lst [.ref q0])) := same_new (same_upd hq0) hp
    have I0 : PcsAt H (upd (upd H q0 (.lst [])) p (.lst [.ref q0])) p (Rb19.cut mk (l.take 0)) := by
      have npq : p ≠ q0 := fun z => by subst z; rw [upd_same] at hp; cases hp
      refine ⟨(same_upd hq0).free hp, [q0], upd_same, ?_, by simp, .cons ?_ .nil⟩
      · intro a ha
        have e : a = q0 := by simpa using ha
        subst e
        exact ⟨hq0, fun z => npq z.symm⟩
      · rw [upd_ne (fun z => npq z.symm), upd_same]; rfl
    refine ⟨_, rfl, a, rfl, ⟨_, s0.seq hS⟩, for_list (K := K) (a := a) (xs := bs l) (fun i σ H' => ∃ v : Option V, σ = [some (.ref a), some (.str m), some (.ref p), v] ∧ Same H H' ∧ PcsAt H H' p (Rb19.cut mk (l.take i)))
      ⟨none, rfl, s0, I0⟩ (fun i σ H' _ ⟨_, _, s5, _⟩ => s5.seq hS) ?_ ?_⟩
    · rintro i y σ H' hi ⟨v, rfl, s5, I⟩
      obtain ⟨n, hn, rfl⟩ := bs_get hi
      refine ⟨_, rfl, _, rfl, m, rfl, hm, rfl, _, rfl, ?_⟩
      have en : decide (V.int (n : Int) = V.int ((m.cps.getD 0 0 : Nat) : Int)) = (n == mk) := by rw [hmk]; exact dec_nat n mk
      show if decide (V.int (n : Int) = V.int ((m.cps.getD 0 0 : Nat) : Int)) = true then _ else _
      rw [en]
      have et : (l.take (i + 1)) = l.take i ++ [n] := take_snoc hn
      have hlt : (l.take i).length ≤ 256 := by rw [List.length_take]; omega
      by_cases hb : n = mk
      · rw [if_pos (by rw [hb]; exact beq_self_eq_true mk)]
        obtain ⟨as0, g0, _⟩ := I.ex
        refine ⟨_, rfl, .inl ⟨rfl, _, SqL.of g0⟩, Nat.zero_le _, fun q hq => ?_⟩
        obtain ⟨as, h1, h2, h3, h4, h5⟩ := I.push s5 hq
        have hz : (as.map V.ref).length < sizeLine := by
          rw [List.length_map, h2]
          exact small1000 (Nat.le_trans (cut_len mk _) (by omega))
        refine ⟨p, _, _, rfl, rfl, by rw [upd_ne h3]; exact h1, hz, _, rfl, h4, ?_⟩
        rw [et, hb, cut_snoc_at]
        exact h5
      · rw [if_neg (fun z => hb (eq_of_beq z))]
        obtain ⟨as, z, d, h1, h2, h3, h4, h5⟩ := I.grow n s5 (cut_ne _ _) (cut_small hlt)
        refine ⟨_, rfl, _, rfl, p, _, _, _, rfl, rfl, SqL.of h1, atI_last _ _, .inl ⟨rfl, _, SqL.of h2⟩, _, rfl, z, _, _, rfl, rfl, h2, by rw [bs_len]; exact len256 h3, _, rfl, h4, ?_⟩
        rw [et, cut_snoc_ne hb]
        exact h5
    · rintro σ H2 ⟨v, rfl, s5, I⟩
      rw [bs_len, List.take_length] at I
      exact ⟨_, rfl, k H2 p s5 I⟩
end
end VP
namespace VP
open PySem PySem.Spec PyProof.Rows L2 VO VM
open Rb19 (B Word Version)
def numV (l : B) : V := if Rb19.isNumber l = true then .int ((Rb19.number l : Nat) : Int) else .non
structure Nine (mg : Str → Option Value) : Prop where
  at_ : ∃ t, mg "MOST_DIGITS" = some (.int 9 t)
section
variable {P : Program} {w : World} {K : PySem.W.Frag} {mg : Str → Option Value} {base : Heap} {f : Addr} {fd : FuncData}
theorem scNumber : FnScope ["text", "number", "byte"] ["text"] (defScope sReadNumber) := ⟨rfl, rfl, rfl, by decide +kernel, rfl, by decide +kernel, by decide +kernel⟩
theorem dec_lt (n m : Nat) : decide ((n : Int) < (m : Int)) = decide (n < m) := by
  by_cases h : n < m
  · rw [decide_eq_true h, decide_eq_true (by omega)]
  · rw [decide_eq_false h, decide_eq_false (by omega)]
theorem numV_no {l : B} (h : Rb19.isNumber l = false) : numV l = .non := by unfold numV; rw [h]; rfl
theorem numV_yes {l : B} (h : Rb19.isNumber l = true) : numV l = .int ((Rb19.number l : Nat) : Int) := by unfold numV; rw [h]; rfl
theorem take_digits {l : B} (h : l.all Rb19.digit = true) (i : Nat) : ∀ c ∈ l.take i, Rb19.digit c = true := fun c hc => List.all_eq_true.mp h c (List.mem_of_mem_take hc)
theorem ok_readNumber {f1 f2 : Addr} {fd1 fd2 : FuncData} (D : Def K mg "read_number" sReadNumber ["text"] f fd) (T : Blt mg) (M : Nine mg) (D1 : Def K mg "is_digit" sIsDigit ["byte"] f1 fd1) (D2 : Def K mg "all_digits" sAllDigits ["text"] f2 fd2) :
    FnOk P w K mg base CX0 3 f fd ["text"] (spT K numV) := by
  have G2 : FnOk P w K mg base CX0 2 f2 fd2 ["text"] (spT K fun l => .bl (l.all Rb19.digit)) := ok_allDigits D2 T D1
  obtain ⟨t9, M⟩ := M.at_
  refine D.F.ok scNumber (fun vs H Q E h => ?_) (fun cdv A outer s H vs Q E hr h => ?_)
  · obtain ⟨a, l, rfl, _⟩ := h
    rfl
  · obtain ⟨a, l, rfl, hS, hl, k⟩ := h
    refine ⟨_, pss_cons (ps_if (PW.pt (pw_or (pt_cmpR op_lt (pe_callB call_len_seq rfl T.len PySem.boot_len (pa_cons (pv 0) pa_nil)) pe_int (nomark _))
        (pw_or (pt_cmpR op_gt (pe_callB call_len_seq rfl T.len PySem.boot_len (pa_cons (pv 0) pa_nil)) (pe_glob (v := .int 9) rfl M ⟨t9, rfl⟩) (nomark _))
          (pw_or1 (pt_not (pt_val (pe_call G2 hr rfl D2.at_ D2.F.kp D2.b .nil pass0 (pa_cons (pv 0) pa_nil)))))))) (pss_one (ps_ret pe_non)) pss_nil)
      (pss_cons (ps_if (PW.pt (pw_and (pt_cmpR op_gt (pe_callB call_len_seq rfl T.len PySem.boot_len (pa_cons (pv 0) pa_nil)) pe_int (nomark _))
        (pw_and1 (pt_cmpR op_eq (pe_ix ix_list (pv 0) pe_int (fun _ _ => rfl)) (pe_callB call_ord rfl T.ord bt_ord (pa_cons pe_str pa_nil)) (nomark _))))) (pss_one (ps_ret pe_non)) pss_nil)
      (pss_cons (ps_set (i := 1) scNumber.nd rfl (Or.inl rfl) pe_int)
      (pss_cons (ps_for PassesOwn.never rfl (pi_list (pv 0)) (pg_name (i := 2) scNumber.nd rfl (Or.inl rfl))
        (pss_one (ps_set (i := 1) scNumber.nd rfl (Or.inl rfl) (pe_op op_sub (pe_op op_add (pe_op op_mul (pv 1) pe_int) (pv 2)) (pe_callB call_ord rfl T.ord bt_ord (pa_cons pe_str pa_nil))))))
      (pss_one (ps_ret (pv 1)))))), ?_⟩
    have hN := isNumber_iff l
    refine ⟨_, rfl, a, _, rfl, .inl hS, _, _, rfl, rfl, _, rfl, ?_⟩
    show if decide (((bs l).length : Int) < ((1 : Nat) : Int)) = true then _ else _
    rw [dec_lt, bs_len]
    by_cases h1 : l.length < 1
    · rw [decide_eq_true h1] at hN ⊢
      rw [← numV_no (l := l) (by rw [hN]; rfl)]
      exact k H (Same.refl H)
    rw [decide_eq_false h1] at hN ⊢
    refine ⟨_, rfl, a, _, rfl, .inl hS, _, _, rfl, rfl, _, rfl, ?_⟩
    show if decide (((9 : Nat) : Int) < ((bs l).length : Int)) = true then _ else _
    rw [dec_lt, bs_len]
    by_cases h2 : 9 < l.length
    · rw [decide_eq_true h2] at hN ⊢
      rw [← numV_no (l := l) (by rw [hN]; rfl)]
      exact k H (Same.refl H)
    rw [decide_eq_false h2] at hN ⊢
    refine ⟨_, rfl, a, l, rfl, hS, hl, fun H1 s1 => ⟨_, rfl, ?_⟩⟩
    cases h3 : l.all Rb19.digit with
    | false =>
      rw [h3] at hN
      show V.non |> fun v => Q v H1
      rw [← numV_no (l := l) (by rw [hN]; rfl)]
      exact k H1 s1
    | true =>
    rw [h3] at hN
    have hS1 := s1.seq hS
    refine ⟨_, rfl, a, _, rfl, .inl hS1, _, _, rfl, rfl, _, rfl, ?_⟩
    show if decide (((1 : Nat) : Int) < ((bs l).length : Int)) = true then _ else _
    rw [dec_lt, bs_len]
    have rest : Rb19.isNumber l = true → tSeq (tAsg (tC (.int 0)) (gName 1)) (tSeq (tFor (iList K (tVar 0)) (gName 2) (tAsg (tOp (rI0 fun i j => .int (i - j)) (tOp (rI0 fun i j => .int (i + j)) (tOp (rI CMul fun i j => .int (i * j)) (tVar 1) (tC (.int 10))) (tVar 2)) (tCB (fun xs H Q => ∃ x, xs = [.str x] ∧ x.length = 1 ∧ Q (.int (x.cps.getD 0 0 : Nat)) H) (tCons (tC (.str "0")) tNil))) (gName 1))) (tRet (tVar 1)))
        { nx := fun _ H' => Q .non H', rt := Q } [some (.ref a), none, none] H1 := by
      intro hy
      refine ⟨_, rfl, a, rfl, ⟨_, hS1⟩, for_list (K := K) (a := a) (xs := bs l) (fun i σ H' => ∃ v : Option V, σ = [some (.ref a), some (.int ((Rb19.number (l.take i) : Nat) : Int)), v] ∧ H' = H1)
        ⟨none, rfl, rfl⟩ (fun i σ H' _ ⟨_, _, e⟩ => by rw [e]; exact hS1) ?_ ?_⟩
      · rintro i y σ H' hi ⟨v, rfl, rfl⟩
        obtain ⟨n, hn, rfl⟩ := bs_get hi
        have hb := number_lt9 (l := l.take i) (by rw [List.length_take]; omega) (take_digits h3 i)
        have hd : Rb19.digit n = true := List.all_eq_true.mp h3 n (List.mem_of_getElem? hn)
        unfold Rb19.digit at hd
        simp only [Bool.and_eq_true, decide_eq_true_eq] at hd
        refine ⟨_, rfl, _, _, rfl, rfl, .inl ⟨by omega, by omega⟩, _, rfl, _, _, rfl, rfl, _, rfl, rfl, _, _, rfl, rfl, ?_⟩
        refine ⟨some (.int (n : Int)), ?_, rfl⟩
        have e : ((Rb19.number (l.take i) : Nat) : Int) * 10 + (n : Int) - 48 = ((Rb19.number (l.take (i + 1)) : Nat) : Int) := by
          rw [take_snoc hn, number_snoc]
          omega
        rw [← e]
        rfl
      · rintro σ H2 ⟨v, rfl, rfl⟩
        refine ⟨_, rfl, ?_⟩
        rw [bs_len, List.take_length, ← numV_yes hy]
        exact k H2 s1
    by_cases h4 : 1 < l.length
    · rw [decide_eq_true h4] at hN ⊢
      obtain ⟨c, r, rfl⟩ : ∃ c r, l = c :: r := by
        cases l with
        | nil => exact absurd h4 (by simp)
        | cons c r => exact ⟨c, r, rfl⟩
      refine ⟨_, rfl, a, _, _, _, rfl, rfl, hS1, atI_nat (j := 0) rfl, _, rfl, rfl, rfl, _, rfl, ?_⟩
      show if decide (V.int (c : Int) = V.int ((48 : Nat) : Int)) = true then _ else _
      rw [dec_nat]
      by_cases h5 : c = 48
      · rw [if_pos (by rw [h5]; rfl)]
        subst h5
        rw [show (.non : V) = numV (48 :: r) from (numV_no (by rw [hN]; rfl)).symm]
        exact k H1 s1
      · rw [if_neg (fun z => h5 (eq_of_beq z))]
        refine rest ?_
        rw [hN]
        have : ((c :: r).head? == some 48) = false := by simp [h5]
        rw [this]; rfl
    · rw [decide_eq_false h4] at hN ⊢
      exact rest (by rw [hN]; rfl)
def spWord (K : PySem.W.Frag) : Sp := fun vs H Q _ => ∃ (a : Addr) (l : B), vs = [.ref a] ∧ SqL K H a (bs l) ∧ l.length ≤ 256 ∧ ∀ H' v, Same H H' → OptAt (WordAt H') v (Rb19.word l) → Q v H'
theorem scWord : FnScope ["text", "number", "byte"] ["text"] (defScope sReadWord) := ⟨rfl, rfl, rfl, by decide +kernel, rfl, by decide +kernel, by decide +kernel⟩
theorem word_num {l : B} (h : Rb19.isNumber l = true) : Rb19.word l = some (.num (Rb19.number l)) := by unfold Rb19.word; rw [if_pos h]
theorem word_none1 {l : B} (h : Rb19.isNumber l = false) (hd : l.all Rb19.digit = true) : Rb19.word l = none := by
  unfold Rb19.word
  rw [if_neg (by rw [h]; exact Bool.false_ne_true), hd]
  simp
theorem notNum {l : B} (hd : l.all Rb19.digit = false) : Rb19.isNumber l = false := by
  unfold Rb19.isNumber
  rw [hd]
  simp
theorem word_text {l : B} (hd : l.all Rb19.digit = false) (hs : l.all Rb19.sign = true) : Rb19.word l = some (.text l) := by
  unfold Rb19.word
  rw [if_neg (by rw [notNum hd]; exact Bool.false_ne_true), hd, hs]
  cases l with
  | nil => cases hd
  | cons a r => rfl
theorem word_none2 {l : B} (hd : l.all Rb19.digit = false) (hs : l.all Rb19.sign = false) : Rb19.word l = none := by
  unfold Rb19.word
  rw [if_neg (by rw [notNum hd]; exact Bool.false_ne_true), hd, hs]
  simp
theorem ok_readWord {f1 f2 f3 f4 f5 f6 : Addr} {fd1 fd2 fd3 fd4 fd5 fd6 : FuncData} (D : Def K mg "read_word" sReadWord ["text"] f fd) (T : Blt mg) (M : Nine mg) (D1 : Def K mg "is_digit" sIsDigit ["byte"] f1 fd1) (D2 : Def K mg "all_digits" sAllDigits ["text"] f2 fd2)
    (D3 : Def K mg "read_number" sReadNumber ["text"] f3 fd3) (D4 : Def K mg "is_small_letter" sIsSmall ["byte"] f4 fd4) (D5 : Def K mg "is_large_letter" sIsLarge ["byte"] f5 fd5) (D6 : Def K mg "is_word_byte" sIsWord ["byte"] f6 fd6) :
    FnOk P w K mg base CX0 4 f fd ["text"] (spWord K) := by
  have G2 : FnOk P w K mg base CX0 3 f2 fd2 ["text"] (spT K fun l => .bl (l.all Rb19.digit)) := (ok_allDigits D2 T D1).mono (by decide)
  have G3 : FnOk P w K mg base CX0 3 f3 fd3 ["text"] (spT K numV) := ok_readNumber D3 T M D1 D2
  have G6 : FnOk P w K mg base CX0 3 f6 fd6 ["byte"] (spB Rb19.sign) := (ok_isWord D6 T D1 D4 D5).mono (by decide)
  refine D.F.ok scWord (fun vs H Q E h => ?_) (fun cdv A outer s H vs Q E hr h => ?_)
  · obtain ⟨a, l, rfl, _⟩ := h
    rfl
  · obtain ⟨a, l, rfl, hS, hl, k⟩ := h
    refine ⟨_, pss_cons (ps_if (pt_val (pe_call G2 hr rfl D2.at_ D2.F.kp D2.b .nil pass0 (pa_cons (pv 0) pa_nil)))
        (pss_cons (ps_set (i := 1) scWord.nd rfl (Or.inl rfl) (pe_call G3 hr rfl D3.at_ D3.F.kp D3.b .nil pass0 (pa_cons (pv 0) pa_nil)))
          (pss_one (ps_ret (pe_ifExp (pt_cmp (pc_isN (pv 1))) pe_non (pe_tup (pa_cons pe_int (pa_cons (pv 1) (pa_cons (pe_tup pa_nil) pa_nil)))))))) pss_nil)
      (pss_cons (ps_if (pt_val (pe_callB (cr_all rfl) rfl T.all bt_all (pa_cons (pe_lc (own := [("byte", 2)]) rfl scWord.nd (pi_list (pv 0)) (blkOk_by (by rfl)) (fun _ _ _ _ _ => pg_name (i := 2) scWord.nd rfl (Or.inl rfl)) (fun _ _ _ _ _ => pts_nil)
          (fun _ _ _ _ _ => pe_call G6 hr rfl D6.at_ D6.F.kp D6.b .nil pass0 (pa_cons (pv 2) pa_nil))) pa_nil)))
        (pss_one (ps_ret (pe_tup (pa_cons pe_int (pa_cons pe_int (pa_cons (pe_callTy call_tuple_of rfl T.tuple bt_tuple (pa_cons (pv 0) pa_nil)) pa_nil)))))) pss_nil)
      (pss_one (ps_ret pe_non))), ?_⟩
    refine ⟨_, rfl, a, l, rfl, hS, hl, fun H1 s1 => ⟨_, rfl, ?_⟩⟩
    have hS1 := s1.seq hS
    cases hd : l.all Rb19.digit with
    | true =>
      refine ⟨_, rfl, a, l, rfl, hS1, hl, fun H2 s2 => ?_⟩
      refine ⟨_, rfl, _, rfl, ?_⟩
      cases hn : Rb19.isNumber l with
      | false =>
        rw [numV_no hn]
        exact k H2 .non (s1.trans s2) (by rw [word_none1 hn hd]; rfl)
      | true =>
        rw [numV_yes hn]
        refine ⟨_, rfl, Nat.zero_le _, fun e he => ⟨by show 3 ≤ sizeLine; decide, fun t ht => ?_⟩⟩
        refine k _ (.ref t) (same_new (same_new (s1.trans s2) he) ht) ?_
        rw [word_num hn]
        exact ⟨t, e, rfl, upd_same, by rw [upd_ne (fun z => by subst z; rw [upd_same] at ht; cases ht), upd_same]⟩
    | false =>
      refine ⟨_, rfl, a, rfl, ⟨_, hS1⟩, fun DD hD => lc_map (onB Rb19.sign) hD hS1 (by rw [bs_len]; exact len256 hl) (fun x H2 Q' zs hx s2 hz k2 => ?_) (fun H2 s2 hy => ?_)⟩
      · obtain ⟨n, _, rfl⟩ := mem_bs hx
        exact ⟨rfl, _, rfl, n, rfl, k2 H2 (Same.refl H2)⟩
      · rw [map_bs Rb19.sign _ (onB_nat _)] at hy
        refine ⟨DD, _, rfl, SqL.of hy, _, rfl, ?_⟩
        rw [all_id]
        cases hs : l.all Rb19.sign with
        | false => exact k H2 .non (s1.trans s2) (by rw [word_none2 hd hs]; rfl)
        | true =>
          refine ⟨_, rfl, a, _, rfl, .inl ⟨(s1.trans s2).seq hS, fun e he => ⟨by show 3 ≤ sizeLine; decide, fun t ht => ?_⟩⟩⟩
          refine k _ (.ref t) (same_new (same_new (s1.trans s2) he) ht) ?_
          rw [word_text hd hs]
          exact ⟨t, e, rfl, upd_same, by rw [upd_ne (fun z => by subst z; rw [upd_same] at ht; cases ht), upd_same]⟩
end
end VP
namespace VP
open PySem PySem.Spec PyProof.Rows L2 VO VM
open Rb19 (B Word Version)
def plainN (K : PySem.W.Frag) (H : Hp) (z : V) : Prop := z = .non ∨ (∃ i, z = .int i) ∨ ∃ b ys, z = .ref b ∧ (SqT K H b ys ∨ SqL K H b ys)
def rInNone (K : PySem.W.Frag) : R2 := fun x y H Q => x = .non ∧ ∃ p xs, y = .ref p ∧ SqL K H p xs ∧ (∀ z ∈ xs, plainN K H z) ∧ Q (.bl (xs.any fun z => decide (z = .non))) H
def noneU (u : Value) : Bool := match u with
  | .none => true
  | _ => false
section
variable {X : Cx}
theorem noneU_of {z : V} {u : Value} (r : RelV z u) : noneU u = decide (z = .non) := by
  cases z with
  | non => cases r; rfl
  | bl _ => cases r; rfl
  | int _ => obtain ⟨t, rfl⟩ := r; rfl
  | str _ => obtain ⟨t, rfl⟩ := r; rfl
  | byt _ => obtain ⟨t, rfl⟩ := r; rfl
  | flt _ => obtain ⟨t, rfl⟩ := r; rfl
  | ref _ => cases r; rfl
  | ty _ => cases r; rfl
theorem any_noneU : ∀ {xs : List V} {us : List Value}, Vals xs us → us.any noneU = xs.any fun z => decide (z = .non)
  | _, _, .nil => rfl
  | _, _, .cons r t => by rw [List.any_cons, List.any_cons, noneU_of r, any_noneU t]
theorem vals_mem : ∀ {xs : List V} {us : List Value} {u : Value}, Vals xs us → u ∈ us → ∃ x, x ∈ xs ∧ RelV x u
  | _, _, _, .cons r t, h => by
    rcases List.mem_cons.mp h with rfl | h
    · exact ⟨_, List.mem_cons_self .., r⟩
    · obtain ⟨x, h1, h2⟩ := vals_mem t h
      exact ⟨x, List.mem_cons_of_mem _ h1, h2⟩
theorem op_inNone (hu : X.A.units + 64 < cLine) : OpR X (compareOp .In) (rInNone X.K) := by
  intro pins s σ H x y v u Q I rx ry h
  obtain ⟨rfl, p, xs, rfl, hq, hp, q⟩ := h
  cases ry
  cases rx
  obtain ⟨its, r, pl, hz⟩ := I.list hq
  refine SeqAt.in_listAt noneU pl.isList (fun w' hw => ?_) ⟨.bl _, H, I, rfl, ?_⟩
  · obtain ⟨z, hz1, hz2⟩ := vals_mem r (show w' ∈ its by simpa using hw)
    have hu1 : X.A.in1.units < cLine := by show X.A.units + 1 < cLine; omega
    rcases hp z hz1 with rfl | ⟨i, rfl⟩ | ⟨b, ys, rfl, h | h⟩
    · cases hz2
      exact SeqAt.EqAt.same _
    · obtain ⟨t, rfl⟩ := hz2
      exact SeqAt.EqAt.int_none _ _
    · cases hz2
      obtain ⟨its', _, p', _⟩ := I.tuple h
      exact SeqAt.EqAt.tuple_none p' hu1
    · cases hz2
      obtain ⟨its', _, p', _⟩ := I.list h
      exact SeqAt.EqAt.list_none p'.isList hu1
  · rw [show its.toArray.any noneU = its.any noneU by simp, any_noneU r]
    exact q
end
theorem cutV_from (xs : List V) (k : Nat) : cutV xs (some (k : Int)) none = xs.drop k := by
  unfold cutV
  rw [HT.sIx_nat, HT.sIx_none]
  by_cases h : k ≤ xs.length
  · rw [Nat.min_eq_left h]
    exact List.take_of_length_le (by rw [List.length_drop]; omega)
  · rw [Nat.min_eq_right (by omega)]
    rw [List.drop_eq_nil_of_le (Nat.le_refl _), List.drop_eq_nil_of_le (by omega), List.take_nil]
theorem cutV_to (xs : List V) (k : Nat) : cutV xs none (some (k : Int)) = xs.take k := by
  unfold cutV
  rw [HT.sIx_nat, HT.sIx_none, List.drop_zero, Nat.sub_zero]
  by_cases h : k ≤ xs.length
  · rw [Nat.min_eq_left h]
  · rw [Nat.min_eq_right (by omega), List.take_of_length_le (Nat.le_refl _), List.take_of_length_le (by omega)]
theorem bs_drop (l : B) (k : Nat) : (bs l).drop k = bs (l.drop k) := (List.map_drop ..).symm
theorem bs_take (l : B) (k : Nat) : (bs l).take k = bs (l.take k) := (List.map_take ..).symm
theorem paired_of {α β : Type} {R : α → β → Prop} : ∀ {xs : List α} {ys : List β} {x : α}, Paired R xs ys → x ∈ xs → ∃ y, y ∈ ys ∧ R x y
  | _, _, _, .cons r t, h => by
    rcases List.mem_cons.mp h with rfl | h
    · exact ⟨_, List.mem_cons_self .., r⟩
    · obtain ⟨y, h1, h2⟩ := paired_of t h
      exact ⟨y, List.mem_cons_of_mem _ h1, h2⟩
theorem paired_by {α β : Type} {R : α → β → Prop} : ∀ {xs : List α} {ys : List β} {y : β}, Paired R xs ys → y ∈ ys → ∃ x, x ∈ xs ∧ R x y
  | _, _, _, .cons r t, h => by
    rcases List.mem_cons.mp h with rfl | h
    · exact ⟨_, List.mem_cons_self .., r⟩
    · obtain ⟨y, h1, h2⟩ := paired_by t h
      exact ⟨y, List.mem_cons_of_mem _ h1, h2⟩
def Thru (H1 : Hp) (S : B → V → Prop) (x y : V) : Prop := ∃ a c, x = .ref a ∧ H1 a = some (.lst (bs c)) ∧ S c y
theorem pcs_thru {H1 : Hp} {S : B → V → Prop} : ∀ {as : List Addr} {cs : List B} {ys : List V}, Paired (Thru H1 S) (as.map V.ref) ys → Paired (fun a c => H1 a = some (.lst (bs c))) as cs → Paired S cs ys
  | [], _, _, h, .nil => by cases h; exact .nil
  | a :: as, c :: cs, _, h, .cons r t => by
    cases h with
    | cons q h =>
      obtain ⟨a', c', e, h1, h2⟩ := q
      injection e with e
      subst e
      rw [r] at h1
      injection h1 with h1
      injection h1 with h1
      have := bs_inj h1
      subst this
      exact .cons h2 (pcs_thru h t)
theorem paired_fun {α β : Type} {φ : α → β} : ∀ {xs : List α} {ys : List β}, Paired (fun x y => y = φ x) xs ys → ys = xs.map φ
  | _, _, .nil => rfl
  | _, _, .cons r t => by rw [r, paired_fun t, List.map_cons]
theorem any_numV (cs : List B) : ((cs.map numV).any fun z => decide (z = .non)) = !cs.all Rb19.isNumber := by
  induction cs with
  | nil => rfl
  | cons c r ih =>
    rw [List.map_cons, List.any_cons, List.all_cons, ih]
    cases h : Rb19.isNumber c with
    | true => rw [numV_yes h]; simp
    | false => rw [numV_no h]; simp
theorem any_word {H : Hp} : ∀ {cs : List B} {ys : List V}, Paired (fun c y => OptAt (WordAt H) y (Rb19.word c)) cs ys → (ys.any fun z => decide (z = .non)) = !(cs.map Rb19.word).all Option.isSome
  | _, _, .nil => rfl
  | c :: cs, y :: ys, .cons r t => by
    rw [List.any_cons, List.map_cons, List.all_cons, any_word t]
    cases h : Rb19.word c with
    | none =>
      rw [h] at r
      have r : y = .non := r
      subst r
      simp
    | some w =>
      rw [h] at r
      have r : WordAt H y w := r
      have : ¬ y = .non := fun z => by
        subst z
        cases w with
        | num n => obtain ⟨a, e, h0, _⟩ := r; cases h0
        | text n => obtain ⟨a, e, h0, _⟩ := r; cases h0
      simp [this]
theorem words_at {H : Hp} : ∀ {cs : List B} {ys : List V}, Paired (fun c y => OptAt (WordAt H) y (Rb19.word c)) cs ys → (cs.map Rb19.word).all Option.isSome = true → Paired (WordAt H) ys ((cs.map Rb19.word).filterMap id)
  | _, _, .nil, _ => .nil
  | c :: cs, y :: ys, .cons r t, h => by
    rw [List.map_cons, List.all_cons, Bool.and_eq_true] at h
    cases e : Rb19.word c with
    | none => rw [e] at h; cases h.1
    | some w =>
      rw [e] at r
      rw [List.map_cons, e]
      exact .cons r (words_at t h.2)
theorem word_plain {K : PySem.W.Frag} {H : Hp} {y : V} : ∀ {o : Option Word}, OptAt (WordAt H) y o → plainN K H y
  | none, h => .inl h
  | some (.num n), ⟨a, e, h0, h1, _⟩ => .inr (.inr ⟨a, _, h0, .inl (SqT.of h1)⟩)
  | some (.text n), ⟨a, e, h0, h1, _⟩ => .inr (.inr ⟨a, _, h0, .inl (SqT.of h1)⟩)
theorem ver_no3 {l : B} (h : Rb19.three (l.takeWhile fun c => c != 45) = none) : Rb19.version l = none := by
  unfold Rb19.version
  simp only [h]
theorem ver_done {l : B} {x y z : Nat} (h : Rb19.three (l.takeWhile fun c => c != 45) = some (x, y, z)) (he : (l.takeWhile fun c => c != 45).length = l.length) : Rb19.version l = some ⟨x, y, z, []⟩ := by
  unfold Rb19.version
  have : l.drop (l.takeWhile fun c => c != 45).length = [] := by rw [he]; exact List.drop_eq_nil_of_le (Nat.le_refl _)
  simp only [h, this]
theorem ver_words {l : B} {x y z : Nat} (h : Rb19.three (l.takeWhile fun c => c != 45) = some (x, y, z)) (he : (l.takeWhile fun c => c != 45).length < l.length) :
    Rb19.version l = if ((Rb19.cut 46 (l.drop ((l.takeWhile fun c => c != 45).length + 1))).map Rb19.word).all Option.isSome = true then some ⟨x, y, z, ((Rb19.cut 46 (l.drop ((l.takeWhile fun c => c != 45).length + 1))).map Rb19.word).filterMap id⟩ else none := by
  unfold Rb19.version
  have e : ∃ c, l.drop (l.takeWhile fun c => c != 45).length = c :: l.drop ((l.takeWhile fun c => c != 45).length + 1) := ⟨_, List.drop_eq_getElem_cons he⟩
  obtain ⟨c, e⟩ := e
  simp only [h, e]
theorem three_no {t : B} (h : (Rb19.cut 46 t).length ≠ 3) : Rb19.three t = none := by
  unfold Rb19.three
  split
  · rename_i x y z e
    rw [e] at h
    exact absurd rfl h
  · rfl
theorem three_eq {t x y z : B} (h : Rb19.cut 46 t = [x, y, z]) : Rb19.three t = if ((Rb19.cut 46 t).all Rb19.isNumber) = true then some (Rb19.number x, Rb19.number y, Rb19.number z) else none := by
  unfold Rb19.three
  rw [h]
  simp only [List.all_cons, List.all_nil, Bool.and_true]
theorem filterMap_ne : ∀ {ws : List (Option Word)}, ws ≠ [] → ws.all Option.isSome = true → (ws.filterMap id).isEmpty = false
  | [], h, _ => absurd rfl h
  | none :: r, _, h => by cases h
  | some w :: r, _, _ => rfl
end VP
namespace VP
open PySem PySem.Spec PyProof.Rows L2 VO VM
open Rb19 (B Word Version)
def spVer (K : PySem.W.Frag) : Sp := fun vs H Q _ => ∃ (a : Addr) (l : B), vs = [.ref a] ∧ SqL K H a (bs l) ∧ l.length ≤ 256 ∧ ∀ H' v, Same H H' → OptAt (VerAt H') v (Rb19.version l) → Q v H'
structure VDefs (K : PySem.W.Frag) (mg : Str → Option Value) : Prop where
  T : Blt mg
  M : Nine mg
  dg : ∃ f fd, Def K mg "is_digit" sIsDigit ["byte"] f fd
  sm : ∃ f fd, Def K mg "is_small_letter" sIsSmall ["byte"] f fd
  lg : ∃ f fd, Def K mg "is_large_letter" sIsLarge ["byte"] f fd
  wb : ∃ f fd, Def K mg "is_word_byte" sIsWord ["byte"] f fd
  ad : ∃ f fd, Def K mg "all_digits" sAllDigits ["text"] f fd
  pc : ∃ f fd, Def K mg "pieces" sPieces ["text", "mark"] f fd
  rn : ∃ f fd, Def K mg "read_number" sReadNumber ["text"] f fd
  rw : ∃ f fd, Def K mg "read_word" sReadWord ["text"] f fd
section
variable {P : Program} {w : World} {K : PySem.W.Frag} {mg : Str → Option Value} {base : Heap} {f : Addr} {fd : FuncData}
theorem scVer : FnScope ["text", "front", "numbers", "words", "piece"] ["text"] (defScope sReadVersion) := ⟨rfl, rfl, rfl, by decide +kernel, rfl, by decide +kernel, by decide +kernel⟩
theorem ok_readVersion (D : Def K mg "read_version" sReadVersion ["text"] f fd) (S : VDefs K mg) : FnOk P w K mg base CX0 5 f fd ["text"] (spVer K) := by
  have T := S.T
  obtain ⟨f1, fd1, D1⟩ := S.dg
  obtain ⟨f2, fd2, D2⟩ := S.sm
  obtain ⟨f3, fd3, D3⟩ := S.lg
  obtain ⟨f4, fd4, D4⟩ := S.wb
  obtain ⟨f5, fd5, D5⟩ := S.ad
  obtain ⟨f6, fd6, D6⟩ := S.pc
  obtain ⟨f7, fd7, D7⟩ := S.rn
  obtain ⟨f8, fd8, D8⟩ := S.rw
  have G6 : FnOk P w K mg base CX0 4 f6 fd6 ["text", "mark"] (spPieces K) := (ok_pieces D6 T).mono (by decide)
  have G7 : FnOk P w K mg base CX0 4 f7 fd7 ["text"] (spT K numV) := (ok_readNumber D7 T S.M D1 D5).mono (by decide)
  have G8 : FnOk P w K mg base CX0 4 f8 fd8 ["text"] (spWord K) := ok_readWord D8 T S.M D1 D5 D7 D2 D3 D4
  refine D.F.ok scVer (fun vs H Q E h => ?_) (fun cdv A outer s H vs Q E hr h => ?_)
  · obtain ⟨a, l, rfl, _⟩ := h
    rfl
  · obtain ⟨a, l, rfl, hS, hl, k⟩ := h
    have hu := hr.units
    refine ⟨_, pss_cons (ps_set (i := 1) scVer.nd rfl (Or.inl rfl) (pe_ix ix_list (pe_call G6 hr rfl D6.at_ D6.F.kp D6.b .nil pass0 (pa_cons (pv 0) (pa_cons pe_str pa_nil))) pe_int (fun _ _ => rfl)))
      (pss_cons (ps_setLc (i := 2) (own := [("piece", 4)]) rfl scVer.nd rfl rfl (sw_true rfl rfl rfl rfl) (pi_list (pe_call G6 hr rfl D6.at_ D6.F.kp D6.b .nil pass0 (pa_cons (pv 1) (pa_cons pe_str pa_nil)))) (blkOk_by (by rfl))
        (fun _ _ _ _ _ => pg_name (i := 4) scVer.nd rfl (Or.inl rfl)) (fun _ _ _ _ _ => pts_nil) (fun _ _ _ _ _ => pe_call G7 hr rfl D7.at_ D7.F.kp D7.b .nil pass0 (pa_cons (pv 4) pa_nil)))
      (pss_cons (ps_if (PW.pt (pw_or (pt_cmpR op_ne (pe_callB call_len_seq rfl T.len PySem.boot_len (pa_cons (pv 2) pa_nil)) pe_int (nomark _)) (pw_or1 (pt_cmpR (op_inNone hu) pe_non (pv 2) (by with_unfolding_all rfl))))) (pss_one (ps_ret pe_non)) pss_nil)
      (pss_cons (ps_if (pt_cmpR op_eq (pe_callB call_len_seq rfl T.len PySem.boot_len (pa_cons (pv 1) pa_nil)) (pe_callB call_len_seq rfl T.len PySem.boot_len (pa_cons (pv 0) pa_nil)) (nomark _))
        (pss_one (ps_ret (pe_tup (pa_cons (pe_ix ix_list (pv 2) pe_int (fun _ _ => rfl)) (pa_cons (pe_ix ix_list (pv 2) pe_int (fun _ _ => rfl)) (pa_cons (pe_ix ix_list (pv 2) pe_int (fun _ _ => rfl)) (pa_cons pe_int (pa_cons (pe_tup pa_nil) pa_nil)))))))) pss_nil)
      (pss_cons (ps_setLc (i := 3) (own := [("piece", 4)]) rfl scVer.nd rfl rfl (sw_true rfl rfl rfl rfl) (pi_list (pe_call G6 hr rfl D6.at_ D6.F.kp D6.b .nil pass0 (pa_cons (pe_slice sl_list (pv 0) (po_some (pe_op op_add (pe_callB call_len_seq rfl T.len PySem.boot_len (pa_cons (pv 1) pa_nil)) pe_int)) po_none) (pa_cons pe_str pa_nil)))) (blkOk_by (by rfl))
        (fun _ _ _ _ _ => pg_name (i := 4) scVer.nd rfl (Or.inl rfl)) (fun _ _ _ _ _ => pts_nil) (fun _ _ _ _ _ => pe_call G8 hr rfl D8.at_ D8.F.kp D8.b .nil pass0 (pa_cons (pv 4) pa_nil)))
      (pss_cons (ps_if (pt_cmpR (op_inNone hu) pe_non (pv 3) (by with_unfolding_all rfl)) (pss_one (ps_ret pe_non)) pss_nil)
      (pss_one (ps_ret (pe_tup (pa_cons (pe_ix ix_list (pv 2) pe_int (fun _ _ => rfl)) (pa_cons (pe_ix ix_list (pv 2) pe_int (fun _ _ => rfl)) (pa_cons (pe_ix ix_list (pv 2) pe_int (fun _ _ => rfl)) (pa_cons pe_int (pa_cons (pe_callTy call_tuple_of rfl T.tuple bt_tuple (pa_cons (pv 3) pa_nil)) pa_nil))))))))))))), ?_⟩
    refine ⟨_, rfl, a, "-", 45, l, rfl, rfl, rfl, hS, hl, fun H1 p1 s1 I1 => ?_⟩
    obtain ⟨as1, e1, _, _, pr1⟩ := I1.ex
    obtain ⟨fr, es1, erest⟩ : ∃ (fr : Addr) (r : List Addr), as1 = fr :: r := by
      cases as1 with
      | nil => have := paired_len pr1; exact absurd (List.eq_nil_of_length_eq_zero this.symm) (cut_ne _ _)
      | cons x r => exact ⟨x, r, rfl⟩
    subst erest
    have hfr : H1 fr = some (.lst (bs (l.takeWhile fun c => c != 45))) := by
      have hh := cut_head 45 l
      cases hc : Rb19.cut 45 l with
      | nil => exact absurd hc (cut_ne _ _)
      | cons c r =>
        rw [hc] at pr1 hh
        simp only [List.head?_cons, Option.some.injEq] at hh
        subst hh
        cases pr1 with
        | cons q _ => exact q
    generalize ht : (l.takeWhile fun c => c != 45) = t at hfr
    have hlt : t.length ≤ l.length := by rw [← ht]; exact take_len _ l
    refine ⟨p1, _, _, _, rfl, rfl, SqL.of e1, atI_nat (j := 0) rfl, ?_⟩
    refine ⟨_, rfl, fr, ".", 46, t, rfl, rfl, rfl, SqL.of hfr, by omega, fun H2 p2 s2 I2 => ?_⟩
    obtain ⟨as2, e2, _, _, pr2⟩ := I2.ex
    refine ⟨p2, rfl, ⟨_, SqL.of e2⟩, fun DD hD => lc_rel (fun x y _ => Thru H2 (fun c y => y = numV c) x y) hD (SqL.of e2) ?_ (fun _ _ _ _ _ _ _ h => h) (fun x H3 Q' zs hx s3 hz k3 => ?_) (fun ys H3 s3 hy pr => ?_)⟩
    · rw [List.length_map, paired_len pr2]
      exact small1000 (Nat.le_trans (cut_len _ _) (by omega))
    · obtain ⟨b, hb, rfl⟩ := List.mem_map.mp hx
      obtain ⟨c, hc, hbc⟩ := paired_of pr2 hb
      exact ⟨rfl, _, rfl, b, c, rfl, SqL.of (s3 _ _ hbc), Nat.le_trans (cut_mem _ _ _ hc).1 (by omega), fun H4 s4 => k3 _ H4 s4 ⟨b, c, rfl, hbc, rfl⟩⟩
    have ey := paired_fun (pcs_thru pr pr2)
    subst ey
    have sA := (s1.trans s2).trans s3
    have hfr3 := s3 _ _ (s2 _ _ hfr)
    refine ⟨_, rfl, DD, _, rfl, .inl (SqL.of hy), rfl, _, rfl, ?_⟩
    show if (!decide (V.int (((Rb19.cut 46 t).map numV).length : Int) = V.int ((3 : Nat) : Int))) = true then _ else _
    rw [dec_nat, List.length_map]
    by_cases h3 : (Rb19.cut 46 t).length = 3
    case neg =>
      rw [if_pos (by rw [beq_eq_false_iff_ne.mpr h3]; rfl)]
      exact k H3 .non sA (by rw [ver_no3 (by rw [ht]; exact three_no h3)]; rfl)
    rw [if_neg (by rw [h3]; exact Bool.false_ne_true)]
    obtain ⟨x, y, z, hc3⟩ : ∃ x y z, Rb19.cut 46 t = [x, y, z] := by
      match hh : Rb19.cut 46 t, h3 with
      | [x, y, z], _ => exact ⟨x, y, z, rfl⟩
    have h33 := three_eq hc3
    refine ⟨_, rfl, rfl, DD, _, rfl, SqL.of hy, ?_, _, rfl, ?_⟩
    · intro v hv
      obtain ⟨c, _, rfl⟩ := List.mem_map.mp hv
      unfold numV
      split
      · exact .inr (.inl ⟨_, rfl⟩)
      · exact .inl rfl
    rw [any_numV]
    cases hA : (Rb19.cut 46 t).all Rb19.isNumber with
    | false =>
      rw [hA] at h33
      exact k H3 .non sA (by rw [ver_no3 (by rw [ht, h33]; rfl)]; rfl)
    | true =>
    rw [hA] at h33
    have h33 : Rb19.three (l.takeWhile fun c => c != 45) = some (Rb19.number x, Rb19.number y, Rb19.number z) := by rw [ht, h33]; rfl
    have hy : H3 DD = some (.lst [.int ((Rb19.number x : Nat) : Int), .int ((Rb19.number y : Nat) : Int), .int ((Rb19.number z : Nat) : Int)]) := by
      rw [hy, hc3]
      rw [hc3] at hA
      simp only [List.all_cons, List.all_nil, Bool.and_true, Bool.and_eq_true] at hA
      show some (HO.lst [numV x, numV y, numV z]) = _
      rw [numV_yes hA.1, numV_yes hA.2.1, numV_yes hA.2.2]
    refine ⟨_, rfl, fr, _, rfl, .inl (SqL.of hfr3), _, rfl, a, _, rfl, .inl (sA.seq hS), rfl, _, rfl, ?_⟩
    show if decide (V.int ((bs t).length : Int) = V.int ((bs l).length : Int)) = true then _ else _
    rw [dec_nat, bs_len, bs_len]
    by_cases h4 : t.length = l.length
    case pos =>
      rw [if_pos (by rw [h4]; exact beq_self_eq_true _)]
      refine ⟨_, rfl, DD, _, _, _, rfl, rfl, SqL.of hy, atI_nat (j := 0) rfl, _, rfl, DD, _, _, _, rfl, rfl, SqL.of hy, atI_nat (j := 1) rfl, _, rfl, DD, _, _, _, rfl, rfl, SqL.of hy, atI_nat (j := 2) rfl,
        Nat.zero_le _, fun e he => ⟨by show 5 ≤ sizeLine; decide, fun q hq => ?_⟩⟩
      refine k _ (.ref q) (same_new (same_new sA he) hq) ?_
      rw [ver_done h33 (by rw [ht]; exact h4)]
      exact ⟨q, e, [], rfl, upd_same, by rw [upd_ne (fun z => by subst z; rw [upd_same] at hq; cases hq), upd_same], .nil⟩
    case neg =>
    rw [if_neg (fun z => h4 (eq_of_beq z))]
    refine ⟨_, rfl, _, rfl, fr, _, rfl, .inl (SqL.of hfr3), _, _, rfl, rfl, _, rfl, a, _, rfl, sA.seq hS, fun p3 hp3 => ?_⟩
    have ec : cutV (bs l) (some (((bs t).length : Int) + 1)) none = bs (l.drop (t.length + 1)) := by
      rw [bs_len, show ((t.length : Int) + 1) = ((t.length + 1 : Nat) : Int) by omega, cutV_from, bs_drop]
    have e3 : upd H3 p3 (.lst (cutV (bs l) (some (((bs t).length : Int) + 1)) none)) p3 = some (.lst (bs (l.drop (t.length + 1)))) := by rw [upd_same, ec]
    have sB : Same H (upd H3 p3 (.lst (cutV (bs l) (some (((bs t).length : Int) + 1)) none))) := same_new sA hp3
    have sB3 : Same H3 (upd H3 p3 (.lst (cutV (bs l) (some (((bs t).length : Int) + 1)) none))) := same_upd hp3
    have hld : (l.drop (t.length + 1)).length ≤ 256 := by rw [List.length_drop]; omega
    refine ⟨p3, ".", 46, l.drop (t.length + 1), rfl, rfl, rfl, SqL.of e3, hld, fun H5 p5 s5 I5 => ?_⟩
    obtain ⟨as5, e5, _, _, pr5⟩ := I5.ex
    have hv := ver_words h33 (by rw [ht]; omega)
    rw [ht] at hv
    generalize hcs : Rb19.cut 46 (l.drop (t.length + 1)) = cs at pr5 hv
    have hcne : cs ≠ [] := by rw [← hcs]; exact cut_ne _ _
    have hcl : cs.length ≤ 257 := by rw [← hcs]; exact Nat.le_trans (cut_len _ _) (by omega)
    have hcm : ∀ c ∈ cs, c.length ≤ 256 := fun c hc => Nat.le_trans (cut_mem _ _ c (by rw [hcs]; exact hc)).1 hld
    refine ⟨p5, rfl, ⟨_, SqL.of e5⟩, fun D2 hD2 => lc_rel (fun x y H' => Thru H5 (fun c y => OptAt (WordAt H') y (Rb19.word c)) x y) hD2 (SqL.of e5) ?_ ?_ (fun x H6 Q' zs hx s6 hz k6 => ?_) (fun ys H6 s6 hy6 pr6 => ?_)⟩
    · rw [List.length_map, paired_len pr5]
      exact small1000 (by omega)
    · rintro x y H6 H7 zs hz sb ⟨b, c, h0, h1, h2⟩
      exact ⟨b, c, h0, h1, OptAt.imp (fun w q => WordAt.tups (sb.tups hz) q) h2⟩
    · obtain ⟨b, hb, rfl⟩ := List.mem_map.mp hx
      obtain ⟨c, hc, hbc⟩ := paired_of pr5 hb
      exact ⟨rfl, _, rfl, b, c, rfl, SqL.of (s6 _ _ hbc), hcm c hc, fun H7 v s7 h7 => k6 _ H7 s7 ⟨b, c, rfl, hbc, h7⟩⟩
    have prW := pcs_thru pr6 pr5
    have sC : Same H H6 := (sB.trans s5).trans s6
    have hyC := s6 _ _ (s5 _ _ (sB3 _ _ hy))
    refine ⟨_, rfl, rfl, D2, _, rfl, SqL.of hy6, ?_, _, rfl, ?_⟩
    · intro v hv'
      obtain ⟨c, _, hc⟩ := paired_by prW hv'
      exact word_plain hc
    rw [any_word prW]
    cases hW : (cs.map Rb19.word).all Option.isSome with
    | false =>
      rw [hW] at hv
      exact k H6 .non sC (by rw [hv]; rfl)
    | true =>
    rw [hW] at hv
    refine ⟨_, rfl, DD, _, _, _, rfl, rfl, SqL.of hyC, atI_nat (j := 0) rfl, _, rfl, DD, _, _, _, rfl, rfl, SqL.of hyC, atI_nat (j := 1) rfl, _, rfl, DD, _, _, _, rfl, rfl, SqL.of hyC, atI_nat (j := 2) rfl,
      _, rfl, D2, _, rfl, .inl ⟨SqL.of hy6, fun e he => ⟨by show 5 ≤ sizeLine; decide, fun q hq => ?_⟩⟩⟩
    refine k _ (.ref q) (same_new (same_new sC he) hq) ?_
    rw [hv, if_pos rfl]
    have hf : flag ⟨Rb19.number x, Rb19.number y, Rb19.number z, (cs.map Rb19.word).filterMap id⟩ = 0 := by
      unfold flag
      rw [filterMap_ne (by simpa using hcne) hW]
      rfl
    refine ⟨q, e, ys, rfl, ?_, by rw [upd_ne (fun z => by subst z; rw [upd_same] at hq; cases hq), upd_same], ?_⟩
    · rw [hf]; exact upd_same
    · refine L2.Paired.mapP (words_at prW hW) fun v wd h => WordAt.same ?_ h
      exact same_new (same_upd he) hq
end
end VP
namespace VM
open Rb19 VO
abbrev Bd := List Nat × Version
def SG : List (List Nat) := [[62, 61], [62], [60, 61], [60], [61], [126], [94]]
def signC (l : B) : List Nat := (SG.find? fun s => l.take s.length == s).getD []
def nextV (u : Version) : Nat → Version
  | 0 => early (u.a + 1) 0 0
  | 1 => early u.a (u.b + 1) 0
  | _ => early u.a u.b (u.c + 1)
def caret (u : Version) : Nat := if u.a ≠ 0 then 0 else if u.b ≠ 0 then 1 else 2
def bndsOf (s : List Nat) (u : Version) : List Bd :=
  if s = [126] then [([62, 61], u), ([60], nextV u 1)] else if s = [94] then [([62, 61], u), ([60], nextV u (caret u))] else if s = [] then [([61], u)] else [(s, u)]
def bounds (l : B) : Option (List Bd) := if l = [42] then some [] else (version (l.drop (signC l).length)).map (bndsOf (signC l))
def keepB (v : Version) (b : Bd) : Bool :=
  if b.1 = [62, 61] then ordV v b.2 != .lt else if b.1 = [62] then ordV v b.2 == .gt else if b.1 = [60, 61] then ordV v b.2 != .gt else if b.1 = [60] then ordV v b.2 == .lt else ordV v b.2 == .eq
def keepG (v : Version) (g : List Bd) : Bool := g.all (keepB v)
def keepC (v : Version) (gs : List (List Bd)) : Bool := gs.any (keepG v)
theorem signC_cases (l : B) : signC l = [] ∨ signC l ∈ SG := by
  unfold signC
  cases h : SG.find? (fun s => l.take s.length == s) with
  | none => exact .inl rfl
  | some s => exact .inr (List.mem_of_find?_eq_some h)
theorem lowest_no (v : Version) : less v LOWEST = false := by
  unfold less LOWEST
  by_cases h1 : v.a = 0
  · rw [if_neg (by simpa using h1)]
    by_cases h2 : v.b = 0
    · rw [if_neg (by simpa using h2)]
      by_cases h3 : v.c = 0
      · rw [if_neg (by simpa using h3)]
        cases hp : v.pre with
        | nil => rfl
        | cons w r =>
          show wordsLess (w :: r) [.num 0] = false
          unfold wordsLess
          have e : wordsLess r [] = false := by cases r <;> rfl
          rw [e]
          cases w with
          | num n => simp [wordLess]
          | text t => simp [wordLess]
      · rw [if_pos h3]; simp
    · rw [if_pos h2]; simp
  · rw [if_pos h1]; simp
theorem ge_keep (v u : Version) : (!less v u) = keepB v ([62, 61], u) := by
  rw [less_ord]
  show _ = (ordV v u != .lt)
  cases ordV v u <;> rfl
theorem gt_keep (v u : Version) : less u v = keepB v ([62], u) := by
  rw [less_gt]
  rfl
theorem le_keep (v u : Version) : (!less u v) = keepB v ([60, 61], u) := by
  rw [less_gt]
  show _ = (ordV v u != .gt)
  cases ordV v u <;> rfl
theorem lt_keep (v u : Version) : less v u = keepB v ([60], u) := by
  rw [less_ord]
  rfl
theorem eq_keep (v u : Version) : (!less v u && !less u v) = keepB v ([61], u) := by
  rw [less_ord, less_gt]
  show _ = (ordV v u == .eq)
  cases ordV v u <;> rfl
def Alike (o : Option Span) (b : Option (List Bd)) : Prop := match o, b with
  | none, none => True
  | some s, some g => ∀ v, s.has v = keepG v g
  | _, _ => False
theorem alike_map {r : B} {F : Version → Span} {g : Version → List Bd} (h : ∀ u v, (F u).has v = keepG v (g u)) : Alike ((version r).map F) ((version r).map g) := by
  cases version r with
  | none => trivial
  | some u => exact fun v => h u v
theorem has_eq (u v : Version) : (Span.mk u false (some u) true).has v = keepG v [([61], u)] := by
  show (!less v u && !less u v) = (keepB v ([61], u) && true)
  rw [eq_keep, Bool.and_true]
theorem keepG_two (v : Version) (a b : Bd) : keepG v [a, b] = (keepB v a && keepB v b) := by
  show (keepB v a && (keepB v b && true)) = _
  rw [Bool.and_true]
theorem alike (l : B) : Alike (condition l) (bounds l) := by
  unfold condition
  split
  ·
    show Alike _ (some [])
    intro v
    show (!less v LOWEST && true) = true
    rw [lowest_no]; rfl
  ·
    rename_i r
    have e : bounds (62 :: 61 :: r) = (version r).map (bndsOf [62, 61]) := by
      unfold bounds
      rw [if_neg (by simp)]
      have : signC (62 :: 61 :: r) = [62, 61] := by simp [signC, SG, List.find?]
      rw [this]; rfl
    rw [e]
    refine alike_map fun u v => ?_
    show (!less v u && true) = (keepB v ([62, 61], u) && true)
    rw [ge_keep]
  ·
    rename_i r hn
    have e : bounds (62 :: r) = (version r).map (bndsOf [62]) := by
      unfold bounds
      rw [if_neg (by simp)]
      have : signC (62 :: r) = [62] := by
        cases r with
        | nil => rfl
        | cons c r =>
          have hc : (c == 61) = false := beq_eq_false_iff_ne.mpr fun z => hn r (by rw [z])
          simp [signC, SG, List.find?, hc]
      rw [this]; rfl
    rw [e]
    refine alike_map fun u v => ?_
    show (less u v && true) = (keepB v ([62], u) && true)
    rw [gt_keep]
  ·
    rename_i r
    have e : bounds (60 :: 61 :: r) = (version r).map (bndsOf [60, 61]) := by
      unfold bounds
      rw [if_neg (by simp)]
      have : signC (60 :: 61 :: r) = [60, 61] := by simp [signC, SG, List.find?]
      rw [this]; rfl
    rw [e]
    refine alike_map fun u v => ?_
    show (!less v LOWEST && !less u v) = (keepB v ([60, 61], u) && true)
    rw [lowest_no, le_keep, Bool.and_true]; rfl
  ·
    rename_i r hn
    have e : bounds (60 :: r) = (version r).map (bndsOf [60]) := by
      unfold bounds
      rw [if_neg (by simp)]
      have : signC (60 :: r) = [60] := by
        cases r with
        | nil => rfl
        | cons c r =>
          have hc : (c == 61) = false := beq_eq_false_iff_ne.mpr fun z => hn r (by rw [z])
          simp [signC, SG, List.find?, hc]
      rw [this]; rfl
    rw [e]
    refine alike_map fun u v => ?_
    show (!less v LOWEST && less v u) = (keepB v ([60], u) && true)
    rw [lowest_no, lt_keep, Bool.and_true]; rfl
  ·
    rename_i r
    have e : bounds (61 :: r) = (version r).map (bndsOf [61]) := by
      unfold bounds
      rw [if_neg (by simp)]
      have : signC (61 :: r) = [61] := by simp [signC, SG, List.find?]
      rw [this]; rfl
    rw [e]
    exact alike_map fun u v => has_eq u v
  ·
    rename_i r
    have e : bounds (126 :: r) = (version r).map (bndsOf [126]) := by
      unfold bounds
      rw [if_neg (by simp)]
      have : signC (126 :: r) = [126] := by simp [signC, SG, List.find?]
      rw [this]; rfl
    rw [e]
    refine alike_map fun u v => ?_
    show (!less v u && less v (early u.a (u.b + 1) 0)) = keepG v [([62, 61], u), ([60], nextV u 1)]
    rw [keepG_two, ge_keep, lt_keep]; rfl
  ·
    rename_i r
    have e : bounds (94 :: r) = (version r).map (bndsOf [94]) := by
      unfold bounds
      rw [if_neg (by simp)]
      have : signC (94 :: r) = [94] := by simp [signC, SG, List.find?]
      rw [this]; rfl
    rw [e]
    refine alike_map fun u v => ?_
    show (!less v u && less v (if u.a ≠ 0 then early (u.a + 1) 0 0 else if u.b ≠ 0 then early 0 (u.b + 1) 0 else early 0 0 (u.c + 1))) = keepG v [([62, 61], u), ([60], nextV u (caret u))]
    rw [keepG_two, ge_keep, lt_keep]
    have : (if u.a ≠ 0 then early (u.a + 1) 0 0 else if u.b ≠ 0 then early 0 (u.b + 1) 0 else early 0 0 (u.c + 1)) = nextV u (caret u) := by
      by_cases h1 : u.a = 0 <;> by_cases h2 : u.b = 0 <;> simp [caret, nextV, h1, h2]
    rw [this]
  ·
    rename_i h1 h2 h3 h4 h5 h6 h7 h8
    have hs : signC l = [] := by
      cases l with
      | nil => rfl
      | cons c r =>
        have c1 : (c == 62) = false := beq_eq_false_iff_ne.mpr fun z => h3 r (by rw [z])
        have c2 : (c == 60) = false := beq_eq_false_iff_ne.mpr fun z => h5 r (by rw [z])
        have c3 : (c == 61) = false := beq_eq_false_iff_ne.mpr fun z => h6 r (by rw [z])
        have c4 : (c == 126) = false := beq_eq_false_iff_ne.mpr fun z => h7 r (by rw [z])
        have c5 : (c == 94) = false := beq_eq_false_iff_ne.mpr fun z => h8 r (by rw [z])
        cases r with
        | nil => simp [signC, SG, List.find?, c1, c2, c3, c4, c5]
        | cons d r => simp [signC, SG, List.find?, c1, c2, c3, c4, c5]
    have e : bounds l = (version l).map (bndsOf []) := by
      unfold bounds
      rw [if_neg (fun z => h1 z), hs]
      rfl
    rw [e]
    exact alike_map fun u v => has_eq u v
def allB : List B → Option (List Bd)
  | [] => some []
  | c :: cs => match bounds c with
    | none => none
    | some b => (allB cs).map fun r => b ++ r
def groupB (l : B) : Option (List Bd) := allB (cut 32 l)
def condB (l : B) : Option (List (List Bd)) := if ((cut 124 l).map groupB).all Option.isSome = true then some (((cut 124 l).map groupB).filterMap id) else none
theorem keepG_append (v : Version) (a b : List Bd) : keepG v (a ++ b) = (keepG v a && keepG v b) := List.all_append
theorem allB_link : ∀ cs : List B, ((cs.map condition).all Option.isSome = false ∧ allB cs = none) ∨ ((cs.map condition).all Option.isSome = true ∧ ∃ g, allB cs = some g ∧ ∀ v, (((cs.map condition).filterMap id).all fun s => s.has v) = keepG v g)
  | [] => .inr ⟨rfl, [], rfl, fun _ => rfl⟩
  | c :: cs => by
    have a := alike c
    unfold Alike at a
    rw [List.map_cons, List.all_cons]
    cases h1 : condition c with
    | none =>
      rw [h1] at a
      cases h2 : bounds c with
      | none => exact .inl ⟨rfl, by unfold allB; rw [h2]⟩
      | some b => rw [h2] at a; exact a.elim
    | some s =>
      rw [h1] at a
      cases h2 : bounds c with
      | none => rw [h2] at a; exact a.elim
      | some b =>
        rw [h2] at a
        rcases allB_link cs with ⟨e1, e2⟩ | ⟨e1, g, e2, e3⟩
        · exact .inl ⟨by rw [e1]; rfl, by unfold allB; rw [h2, e2]; rfl⟩
        · refine .inr ⟨by rw [e1]; rfl, b ++ g, by unfold allB; rw [h2, e2]; rfl, fun v => ?_⟩
          have a : s.has v = keepG v b := a v
          show (s.has v && ((cs.map condition).filterMap id).all fun s => s.has v) = _
          rw [e3, a, keepG_append]
theorem cond_link (l : B) : (conditions l = none ∧ condB l = none) ∨ ∃ cs gs, conditions l = some cs ∧ condB l = some gs ∧ ∀ v, holds cs v = keepC v gs := by
  have key : ∀ ps : List B, ((ps.map fun p => (cut 32 p).map condition).all (fun p => p.all Option.isSome) = false ∧ (ps.map groupB).all Option.isSome = false) ∨
      ((ps.map fun p => (cut 32 p).map condition).all (fun p => p.all Option.isSome) = true ∧ (ps.map groupB).all Option.isSome = true ∧ ∀ v, holds ((ps.map fun p => (cut 32 p).map condition).map fun p => p.filterMap id) v = keepC v ((ps.map groupB).filterMap id)) := by
    intro ps
    induction ps with
    | nil => exact .inr ⟨rfl, rfl, fun _ => rfl⟩
    | cons p ps ih =>
      rw [List.map_cons, List.map_cons, List.all_cons, List.all_cons]
      rcases allB_link (cut 32 p) with ⟨e1, e2⟩ | ⟨e1, g, e2, e3⟩
      · exact .inl ⟨by rw [e1]; rfl, by unfold groupB; rw [e2]; rfl⟩
      · have eg : groupB p = some g := e2
        rcases ih with ⟨i1, i2⟩ | ⟨i1, i2, i3⟩
        · exact .inl ⟨by rw [e1, i1]; rfl, by rw [eg, i2]; rfl⟩
        · refine .inr ⟨by rw [e1, i1]; rfl, by rw [eg, i2]; rfl, fun v => ?_⟩
          rw [eg]
          have i3 := i3 v
          unfold holds at i3 ⊢
          rw [List.map_cons, List.any_cons, i3, e3 v]
          rfl
  unfold conditions condB
  rcases key (cut 124 l) with ⟨e1, e2⟩ | ⟨e1, e2, e3⟩
  · left
    simp only [e1, e2]
    exact ⟨rfl, rfl⟩
  · right
    refine ⟨_, _, ?_, ?_, e3⟩
    · simp only [e1]; rfl
    · simp only [e2]; rfl
end VM
namespace VP
open PySem PySem.Spec PyProof.Rows L2 VO VM
open Rb19 (B Word Version)
theorem verNon {H : Hp} {v : V} {u : Version} (h : VerAt H v u) : ¬ v = .non := fun z => by
  obtain ⟨a, e, vs, h0, _⟩ := h
  rw [z] at h0
  cases h0
def spNext : Sp := fun vs H Q _ => ∃ (v : V) (u : Version) (i : Nat), vs = [v, .int (i : Int)] ∧ i < 3 ∧ VerAt H v u ∧ ∀ H' v', Same H H' → VerAt H' v' (nextV u i) → Q v' H'
def spCaret : Sp := fun vs H Q _ => ∃ (v : V) (u : Version), vs = [v] ∧ VerAt H v u ∧ Q (.int ((caret u : Nat) : Int)) H
section
variable {P : Program} {w : World} {K : PySem.W.Frag} {mg : Str → Option Value} {base : Heap} {f : Addr} {fd : FuncData}
theorem scNext : FnScope ["version", "place", "numbers"] ["version", "place"] (defScope sFirstNext) := ⟨rfl, rfl, rfl, by decide +kernel, rfl, by decide +kernel, by decide +kernel⟩
theorem early_at {H : Hp} {a b c : Nat} {q e t z : Addr} (hq : H q = some (.tup [.int (a : Int), .int (b : Int), .int (c : Int), .int 0, .ref e])) (he : H e = some (.tup [.ref t])) (ht : H t = some (.tup [.int 0, .int 0, .ref z])) (hz : H z = some (.tup [])) :
    VerAt H (.ref q) (Rb19.early a b c) := ⟨q, e, [.ref t], rfl, hq, he, .cons ⟨t, z, rfl, ht, hz⟩ .nil⟩
theorem ok_next (D : Def K mg "first_of_next" sFirstNext ["version", "place"] f fd) (hli : mg "list" = none) : FnOk P w K mg base CX0 1 f fd ["version", "place"] spNext := by
  refine D.F.ok scNext (fun vs H Q E h => ?_) (fun cdv A outer s H vs Q E hr h => ?_)
  · obtain ⟨v, u, i, rfl, _⟩ := h
    rfl
  · obtain ⟨v, u, i, rfl, hi, hv, k⟩ := h
    refine ⟨_, pss_cons (ps_set (i := 2) scNext.nd rfl (Or.inl rfl) (pe_op op_cat (pe_callTy call_list_of rfl hli bt_list (pa_cons (pe_slice sl_tup (pv 0) po_none (po_some (pv 1))) pa_nil))
        (pe_lst (pa_cons (pe_op op_add (pe_ix ix_tup (pv 0) (pv 1) (fun _ _ => rfl)) pe_int) (pa_cons pe_int (pa_cons pe_int pa_nil))))))
      (pss_one (ps_ret (pe_tup (pa_cons (pe_ix ix_list (pv 2) pe_int (fun _ _ => rfl)) (pa_cons (pe_ix ix_list (pv 2) pe_int (fun _ _ => rfl)) (pa_cons (pe_ix ix_list (pv 2) pe_int (fun _ _ => rfl)) (pa_cons pe_int
        (pa_cons (pe_tup (pa_cons (pe_tup (pa_cons pe_int (pa_cons pe_int (pa_cons (pe_tup pa_nil) pa_nil)))) pa_nil)) pa_nil)))))))), ?_⟩
    obtain ⟨a, e, ws, rfl, h1, h2, h3⟩ := hv
    refine ⟨_, rfl, _, rfl, _, rfl, a, _, rfl, SqT.of h1, ?_, fun p1 hp1 => ?_⟩
    · rw [HT.sIx_nat]
      show ¬ (_ ∧ min i 5 = 5)
      omega
    rw [cutV_to]
    refine ⟨p1, _, rfl, .inr (SqT.of upd_same), fun p2 hp2 => ?_⟩
    have n21 : p2 ≠ p1 := fun z => by subst z; rw [upd_same] at hp2; cases hp2
    have s2 : Same H (upd (upd H p1 (.tup ([V.int (u.a : Int), .int (u.b : Int), .int (u.c : Int), .int (flag u), .ref e].take i))) p2 (.lst ([V.int (u.a : Int), .int (u.b : Int), .int (u.c : Int), .int (flag u), .ref e].take i))) := same_new (same_upd hp1) hp2
    obtain ⟨n, hn⟩ : ∃ n : Nat, ([V.int (u.a : Int), .int (u.b : Int), .int (u.c : Int), .int (flag u), .ref e])[i]? = some (.int (n : Int)) := by
      match i, hi with
      | 0, _ => exact ⟨u.a, rfl⟩
      | 1, _ => exact ⟨u.b, rfl⟩
      | 2, _ => exact ⟨u.c, rfl⟩
    refine ⟨_, rfl, _, rfl, a, _, _, _, rfl, rfl, SqT.of (s2 _ _ h1), atI_nat hn, _, _, rfl, rfl, ?_⟩
    refine ⟨by show 3 ≤ sizeLine; decide, fun p3 hp3 => ?_⟩
    have n32 : p2 ≠ p3 := fun z => by subst z; rw [upd_same] at hp3; cases hp3
    have s3 := same_new (o := .lst [V.int ((n : Int) + 1), .int 0, .int 0]) s2 hp3
    refine ⟨p2, p3, _, _, rfl, rfl, by rw [upd_ne n32, upd_same], upd_same, ?_, fun p4 hp4 => ?_⟩
    · rw [List.length_take]
      show min i 5 + 3 ≤ sizeLine
      exact Nat.le_of_lt (small1000 (by omega))
    have s4 := same_new (o := .lst (([V.int (u.a : Int), .int (u.b : Int), .int (u.c : Int), .int (flag u), .ref e].take i) ++ [V.int ((n : Int) + 1), .int 0, .int 0])) s3 hp4
    have fin : ∀ (x y z : Nat) (r : List V), (([V.int (u.a : Int), .int (u.b : Int), .int (u.c : Int), .int (flag u), .ref e].take i) ++ [V.int ((n : Int) + 1), .int 0, .int 0]) = .int (x : Int) :: .int (y : Int) :: .int (z : Int) :: r → nextV u i = Rb19.early x y z →
        tRet (tTup (tCons (tOp (rIxL K) (tVar 2) (tC (.int 0))) (tCons (tOp (rIxL K) (tVar 2) (tC (.int 1))) (tCons (tOp (rIxL K) (tVar 2) (tC (.int 2))) (tCons (tC (.int 0)) (tCons (tTup (tCons (tTup (tCons (tC (.int 0)) (tCons (tC (.int 0)) (tCons (tTup tNil) tNil)))) tNil)) tNil))))))
          { nx := fun _ H' => Q .non H', rt := Q } [some (.ref a), some (.int (i : Int)), some (.ref p4)] (upd (upd (upd (upd H p1 (.tup ([V.int (u.a : Int), .int (u.b : Int), .int (u.c : Int), .int (flag u), .ref e].take i))) p2 (.lst ([V.int (u.a : Int), .int (u.b : Int), .int (u.c : Int), .int (flag u), .ref e].take i))) p3 (.lst [V.int ((n : Int) + 1), .int 0, .int 0])) p4 (.lst (([V.int (u.a : Int), .int (u.b : Int), .int (u.c : Int), .int (flag u), .ref e].take i) ++ [V.int ((n : Int) + 1), .int 0, .int 0]))) := by
      intro x y z r er en
      have h4 : ∀ G : Hp, SqL K (upd G p4 (.lst (([V.int (u.a : Int), .int (u.b : Int), .int (u.c : Int), .int (flag u), .ref e].take i) ++ [V.int ((n : Int) + 1), .int 0, .int 0]))) p4 (.int (x : Int) :: .int (y : Int) :: .int (z : Int) :: r) := fun G => SqL.of (by rw [upd_same, er])
      refine ⟨_, rfl, p4, _, _, _, rfl, rfl, h4 _, atI_nat (j := 0) rfl, _, rfl, p4, _, _, _, rfl, rfl, h4 _, atI_nat (j := 1) rfl, _, rfl, p4, _, _, _, rfl, rfl, h4 _, atI_nat (j := 2) rfl, ?_⟩
      refine ⟨Nat.zero_le _, fun z1 hz1 => ⟨by show 3 ≤ sizeLine; decide, fun t1 ht1 => ⟨by show 1 ≤ sizeLine; decide, fun e1 he1 => ⟨by show 5 ≤ sizeLine; decide, fun q1 hq1 => ?_⟩⟩⟩⟩
      refine k _ (.ref q1) (same_new (same_new (same_new (same_new s4 hz1) ht1) he1) hq1) ?_
      rw [en]
      refine early_at upd_same (e := e1) (t := t1) (z := z1) ?_ ?_ ?_
      · exact (same_upd hq1) _ _ upd_same
      · exact (same_upd hq1) _ _ ((same_upd he1) _ _ upd_same)
      · exact (same_upd hq1) _ _ ((same_upd he1) _ _ ((same_upd ht1) _ _ upd_same))
    have en : V.int ((n : Int) + 1) = .int ((n + 1 : Nat) : Int) := by rw [Int.natCast_add]; rfl
    match i, hi, hn, fin with
    | 0, _, hn, fin =>
      have e0 : V.int (u.a : Int) = V.int (n : Int) := Option.some.inj hn
      injection e0 with e0
      have e0 : u.a = n := by omega
      exact fin (n + 1) 0 0 [] (by rw [en]; rfl) (by rw [← e0]; rfl)
    | 1, _, hn, fin =>
      have e0 : V.int (u.b : Int) = V.int (n : Int) := Option.some.inj hn
      injection e0 with e0
      have e0 : u.b = n := by omega
      exact fin u.a (n + 1) 0 [.int 0] (by rw [en]; rfl) (by rw [← e0]; rfl)
    | 2, _, hn, fin =>
      have e0 : V.int (u.c : Int) = V.int (n : Int) := Option.some.inj hn
      injection e0 with e0
      have e0 : u.c = n := by omega
      exact fin u.a u.b (n + 1) [.int 0, .int 0] (by rw [en]; rfl) (by rw [← e0]; rfl)
theorem scCaret : FnScope ["version"] ["version"] (defScope sCaret) := ⟨rfl, rfl, rfl, by decide +kernel, rfl, by decide +kernel, by decide +kernel⟩
theorem ok_caret (D : Def K mg "caret_place" sCaret ["version"] f fd) : FnOk P w K mg base CX0 1 f fd ["version"] spCaret := by
  refine D.F.ok scCaret (fun vs H Q E h => ?_) (fun cdv A outer s H vs Q E hr h => ?_)
  · obtain ⟨v, u, rfl, _⟩ := h
    rfl
  · obtain ⟨v, u, rfl, hv, k⟩ := h
    refine ⟨_, pss_cons (ps_if (pt_cmpR op_ne (pe_ix ix_tup (pv 0) pe_int (fun _ _ => rfl)) pe_int (nomark _)) (pss_one (ps_ret pe_int)) pss_nil)
      (pss_cons (ps_if (pt_cmpR op_ne (pe_ix ix_tup (pv 0) pe_int (fun _ _ => rfl)) pe_int (nomark _)) (pss_one (ps_ret pe_int)) pss_nil)
      (pss_one (ps_ret pe_int))), ?_⟩
    obtain ⟨a, e, ws, rfl, h1, h2, h3⟩ := hv
    unfold caret at k
    refine ⟨_, rfl, a, _, _, _, rfl, rfl, SqT.of h1, atI_nat (j := 0) rfl, rfl, _, rfl, ?_⟩
    show if (!decide (V.int (u.a : Int) = V.int ((0 : Nat) : Int))) = true then _ else _
    rw [dec_nat]
    by_cases ha : u.a = 0
    case neg =>
      rw [if_pos (by rw [beq_eq_false_iff_ne.mpr ha]; rfl)]
      rw [if_pos ha] at k
      exact k
    rw [if_neg (by rw [ha]; exact Bool.false_ne_true)]
    rw [if_neg (by simpa using ha)] at k
    refine ⟨_, rfl, a, _, _, _, rfl, rfl, SqT.of h1, atI_nat (j := 1) rfl, rfl, _, rfl, ?_⟩
    show if (!decide (V.int (u.b : Int) = V.int ((0 : Nat) : Int))) = true then _ else _
    rw [dec_nat]
    by_cases hb : u.b = 0
    case neg =>
      rw [if_pos (by rw [beq_eq_false_iff_ne.mpr hb]; rfl)]
      rw [if_pos hb] at k
      exact k
    rw [if_neg (by rw [hb]; exact Bool.false_ne_true)]
    rw [if_neg (by simpa using hb)] at k
    exact k
end
end VP
namespace VP
open PySem PySem.Spec PyProof.Rows L2 VO VM
open Rb19 (B Word Version)
def mkS (s : List Nat) : Str := ⟨s.toArray⟩
theorem mkS_len (s : List Nat) : (mkS s).length = s.length := by
  show s.toArray.size = s.length
  simp
def rEqB (K : PySem.W.Frag) : R2 := fun x y H Q => ∃ a b l m, x = .ref a ∧ y = .ref b ∧ SqL K H a (bs l) ∧ SqL K H b (bs m) ∧ Q (.bl (decide (l = m))) H
theorem all_getD : ∀ (l m : B), l.length = m.length → (List.range l.length).all (fun j => (l.getD j 0 : Nat) == m.getD j 0) = decide (l = m)
  | [], [], _ => rfl
  | [], _ :: _, h => by simp at h
  | _ :: _, [], h => by simp at h
  | a :: l, b :: m, h => by
    rw [List.length_cons, List.range_succ_eq_map, List.all_cons, List.all_map]
    have ih := all_getD l m (by simpa using h)
    have e : (List.range l.length).all ((fun j => ((a :: l).getD j 0 : Nat) == (b :: m).getD j 0) ∘ Nat.succ) = decide (l = m) := ih
    rw [e]
    by_cases h1 : a = b
    · subst h1
      by_cases h2 : l = m
      · subst h2; simp
      · simp [h2]
    · simp [h1]
theorem vals_bs : ∀ {l : B} {us : List Value}, Vals (bs l) us → us.length = l.length ∧ ∀ (j : Nat) (h : j < us.length), ∃ t, us[j] = .int ((l.getD j 0 : Nat) : Int) t
  | [], _, .nil => ⟨rfl, fun j h => absurd h (by simp)⟩
  | a :: l, _, .cons r t => by
    obtain ⟨h1, h2⟩ := vals_bs (l := l) t
    refine ⟨by rw [List.length_cons, List.length_cons, h1], fun j h => ?_⟩
    cases j with
    | zero =>
      obtain ⟨t, e⟩ := r
      exact ⟨t, e⟩
    | succ j => exact h2 j (by simpa using h)
theorem op_eqB {X : Cx} (hu : X.A.units + 64 < cLine) : OpR X (compareOp .Eq) (rEqB X.K) := by
  intro pins s σ H x y v u Q I rx ry h
  obtain ⟨a, b, l, m, rfl, rfl, ha, hb, q⟩ := h
  cases rx
  cases ry
  obtain ⟨its, r, pl, _⟩ := I.list ha
  obtain ⟨its', r', pl', _⟩ := I.list hb
  obtain ⟨e1, e2⟩ := vals_bs r
  obtain ⟨e1', e2'⟩ := vals_bs r'
  by_cases hz : l.length = m.length
  · refine SeqAt.eq_listAt (e := fun j => (l.getD j 0 : Nat) == m.getD j 0) pl.isList pl'.isList (by simp; omega) (by omega) (fun j h1 h2 => ?_) ⟨.bl _, H, I, rfl, ?_⟩
    · obtain ⟨t, e⟩ := e2 j (by simpa using h1)
      obtain ⟨t', e'⟩ := e2' j (by simpa using h2)
      have := SeqAt.EqAt.int_int (A := X.A.in1) (s := s) ((l.getD j 0 : Nat) : Int) t ((m.getD j 0 : Nat) : Int) t'
      have ee : ((((l.getD j 0 : Nat) : Int)) == ((m.getD j 0 : Nat) : Int)) = ((l.getD j 0 : Nat) == m.getD j 0) := by
        have := dec_nat (l.getD j 0) (m.getD j 0)
        rw [dec_int] at this
        exact this
      rw [ee, ← e, ← e'] at this
      simpa using this
    · have : its.toArray.size = l.length := by simp [e1]
      rw [this, all_getD l m hz]
      exact q
  · refine SeqAt.eq_list_lengthsAt pl.isList pl'.isList (by simp; omega) (by omega) ⟨.bl false, H, I, rfl, ?_⟩
    rw [decide_eq_false (fun z => hz (by rw [z]))] at q
    exact q
theorem lc_ords {x : Str} {g : TG} {te : TE} {vs : List Nat} {σ : L2.St} {H1 : Hp} {D : Addr} {Qd : Hp → Prop} (hx : x.cps.size < 100)
    (step : ∀ (c : Nat) (G : Hp) (Q' : VK), Q' (.int (c : Int)) G → g (.str ⟨#[c]⟩) (wipe σ vs) G fun σ2 H2 => wipe σ2 vs = wipe σ vs ∧ te σ2 H2 Q') (fin : Qd (upd H1 D (.lst (bs x.cps.toList)))) :
    ∃ W : Nat → Nat → Hp → Prop, (∃ m, W 0 m (upd H1 D (.lst []))) ∧ ∀ i m H, W i m H → ((Its x).stop i H ∧ Qd H) ∨ ((Its x).go i H ∧ ∃ Nx : Hp → Prop, (∀ H', Nx H' → ∃ m', m' < m ∧ W (i + 1) m' H') ∧
      ∀ v H', (Its x).yld i H v H' → g v (wipe σ vs) H' fun σ2 H2 => wipe σ2 vs = wipe σ vs ∧ tYes σ2 H2 fun b H3 =>
        if b = true then te σ2 H3 fun y H4 => ∃ acc, H4 D = some (.lst acc) ∧ acc.length < sizeLine ∧ Nx (upd H4 D (.lst (acc ++ [y]))) else Nx H3) := by
  have hlen : x.cps.toList.length = x.cps.size := by simp
  refine ⟨fun i m H => m = x.cps.size - i ∧ i ≤ x.cps.size ∧ H = upd H1 D (.lst (bs (x.cps.toList.take i))), ⟨x.cps.size, by simp, Nat.zero_le _, by rw [List.take_zero]; rfl⟩, ?_⟩
  rintro i m H ⟨rfl, hi, rfl⟩
  by_cases hlt : i < x.cps.size
  · refine .inr ⟨hlt, fun H' => H' = upd H1 D (.lst (bs (x.cps.toList.take (i + 1)))), fun H' p' => ⟨x.cps.size - (i + 1), by omega, rfl, hlt, p'⟩, fun v H' y => ?_⟩
    obtain ⟨rfl, c, hc, rfl⟩ := y
    refine step c _ _ ⟨_, upd_same, ?_, ?_⟩
    · rw [bs_len, List.length_take]
      exact small1000 (by omega)
    · have hc' : x.cps.toList[i]? = some c := by simpa using hc
      rw [upd_upd, take_snoc hc', bs_append]
      rfl
  · have e : i = x.cps.size := by omega
    refine .inl ⟨by show x.cps.size ≤ i; omega, ?_⟩
    rw [List.take_of_length_le (by omega)]
    exact fin
theorem find_first {α : Type} {p : α → Bool} : ∀ {l : List α} {i : Nat} {x : α}, l[i]? = some x → (∀ y ∈ l.take i, p y = false) → p x = true → l.find? p = some x
  | [], i, x, h, _, _ => by simp at h
  | a :: l, 0, x, h, _, hp => by
    have e : a = x := Option.some.inj h
    subst e
    rw [List.find?_cons, hp]
  | a :: l, i + 1, x, h, hn, hp => by
    rw [List.find?_cons, hn a (by simp)]
    exact find_first (l := l) (i := i) h (fun y hy => hn y (by simp [hy])) hp
def signV (l : B) : V := .str (mkS (signC l))
structure Signs (K : PySem.W.Frag) (mg : Str → Option Value) : Prop where
  at_ : ∃ a, mg "SIGNS" = some (.ref a) ∧ ∀ H, SqT K H a (SG.map fun s => V.str (mkS s))
section
variable {P : Program} {w : World} {K : PySem.W.Frag} {mg : Str → Option Value} {base : Heap} {f : Addr} {fd : FuncData}
theorem scSign : FnScope ["text", "sign", "letter"] ["text"] (defScope sSign) := ⟨rfl, rfl, rfl, by decide +kernel, rfl, by decide +kernel, by decide +kernel⟩
theorem sg_len {s : List Nat} (h : s ∈ SG) : s.length ≤ 2 := by
  simp only [SG, List.mem_cons, List.not_mem_nil, or_false] at h
  rcases h with rfl | rfl | rfl | rfl | rfl | rfl | rfl <;> decide
theorem ok_sign (D : Def K mg "sign_in_front" sSign ["text"] f fd) (T : Blt mg) (Z : Signs K mg) : FnOk P w K mg base CX0 1 f fd ["text"] (spT K signV) := by
  obtain ⟨aS, hm, hS⟩ := Z.at_
  refine D.F.ok scSign (fun vs H Q E h => ?_) (fun cdv A outer s H vs Q E hr h => ?_)
  · obtain ⟨a, l, rfl, _⟩ := h
    rfl
  · obtain ⟨a, l, rfl, ha, hl, k⟩ := h
    have hu := hr.units
    refine ⟨_, pss_cons (ps_for PassesOwn.never rfl (pi_tup (pe_glob (v := .ref aS) rfl hm rfl)) (pg_name (i := 1) scSign.nd rfl (Or.inl rfl))
        (pss_one (ps_if (pt_cmpR (op_eqB hu) (pe_slice sl_list (pv 0) po_none (po_some (pe_callB call_len_str rfl T.len PySem.boot_len (pa_cons (pv 1) pa_nil))))
          (pe_lc (own := [("letter", 2)]) rfl scSign.nd (pi_str (pv 1)) (blkOk_by (by rfl)) (fun _ _ _ _ _ => pg_name (i := 2) scSign.nd rfl (Or.inl rfl)) (fun _ _ _ _ _ => pts_nil)
            (fun _ _ _ _ _ => pe_callB call_ord rfl T.ord bt_ord (pa_cons (pv 2) pa_nil))) (nomark _)) (pss_one (ps_ret (pv 1))) pss_nil)))
      (pss_one (ps_ret pe_str)), ?_⟩
    refine ⟨aS, rfl, ⟨_, hS H⟩, for_tup (K := K) (a := aS) (xs := SG.map fun s => V.str (mkS s)) (fun i σ H' => ∃ v : Option V, σ = [some (.ref a), v, none] ∧ Same H H' ∧ ∀ s ∈ SG.take i, (l.take s.length == s) = false)
      ⟨none, rfl, Same.refl H, fun s hs => by simp at hs⟩ (fun i σ H' _ _ => hS H') ?_ ?_⟩
    · rintro i y σ H' hi ⟨v, rfl, s1, hn⟩
      obtain ⟨sg, hsg, rfl⟩ : ∃ sg, SG[i]? = some sg ∧ y = .str (mkS sg) := by
        rw [List.getElem?_map] at hi
        cases e : SG[i]? with
        | none => rw [e] at hi; cases hi
        | some z => rw [e] at hi; exact ⟨z, rfl, (Option.some.inj hi).symm⟩
      have hmem := List.mem_of_getElem? hsg
      have hl2 := sg_len hmem
      refine ⟨_, rfl, _, rfl, _, rfl, ?_, _, rfl, a, _, rfl, s1.seq ha, fun p1 hp1 => ?_⟩
      · rw [mkS_len]; exact Nat.le_of_lt (small1000 (by omega))
      refine ⟨_, rfl, _, rfl, fun DD hD => lc_ords ?_ (fun c G Q' q => ⟨rfl, _, rfl, _, rfl, rfl, q⟩) ?_⟩
      · show (mkS sg).length < 100
        rw [mkS_len]; omega
      have ec : cutV (bs l) none (some ((mkS sg).length : Int)) = bs (l.take sg.length) := by rw [mkS_len, cutV_to, bs_take]
      have np : p1 ≠ DD := fun z => by subst z; rw [upd_same] at hD; cases hD
      refine ⟨p1, DD, l.take sg.length, sg, rfl, rfl, SqL.of ?_, SqL.of ?_, _, rfl, ?_⟩
      · rw [upd_ne np, upd_same, ec]
      · rw [upd_same]
        show some (HO.lst (bs sg.toArray.toList)) = _
        rw [List.toList_toArray]
      have s2 := same_new (same_new s1 (o := .lst (cutV (bs l) none (some ((mkS sg).length : Int)))) hp1) (o := .lst (bs (mkS sg).cps.toList)) hD
      by_cases he : l.take sg.length = sg
      · rw [decide_eq_true he]
        refine ⟨_, rfl, ?_⟩
        have ef : signC l = sg := by
          unfold signC
          rw [find_first hsg hn (by rw [he]; exact beq_self_eq_true sg)]
          rfl
        have k2 := k _ s2
        unfold signV at k2
        rw [ef] at k2
        exact k2
      · rw [decide_eq_false he]
        refine ⟨_, rfl, s2, fun s' hs' => ?_⟩
        rw [take_snoc hsg] at hs'
        rcases List.mem_append.mp hs' with h | h
        · exact hn s' h
        · have e : s' = sg := by simpa using h
          subst e
          exact beq_eq_false_iff_ne.mpr he
    · rintro σ H2 ⟨v, rfl, s1, hn⟩
      have ef : signC l = [] := by
        unfold signC
        have : SG.find? (fun s => l.take s.length == s) = none := by
          rw [List.find?_eq_none]
          intro s hs
          rw [List.length_map, List.take_length] at hn
          rw [hn s hs]
          exact Bool.false_ne_true
        rw [this]; rfl
      have k2 : Q (V.str (mkS (signC l))) H2 := k H2 s1
      rw [ef] at k2
      exact k2
end
end VP
namespace VP
open PySem PySem.Spec PyProof.Rows L2 VO VM
open Rb19 (B Word Version)
def BdAt (H : Hp) (v : V) (b : Bd) : Prop := ∃ a w, v = .ref a ∧ H a = some (.tup [.str (mkS b.1), w]) ∧ VerAt H w b.2
def GrpAt (N : Addr → Prop) (H : Hp) (v : V) (g : List Bd) : Prop := ∃ p vs, v = .ref p ∧ N p ∧ H p = some (.lst vs) ∧ Paired (BdAt H) vs g
def CndAt (N : Addr → Prop) (H : Hp) (v : V) (gs : List (List Bd)) : Prop := ∃ p vs, v = .ref p ∧ N p ∧ H p = some (.lst vs) ∧ Paired (GrpAt N H) vs gs
theorem BdAt.tups {H H' : Hp} (s : ∀ b xs, H b = some (.tup xs) → H' b = some (.tup xs)) {v : V} {b : Bd} : BdAt H v b → BdAt H' v b := fun ⟨a, w, h0, h1, h2⟩ => ⟨a, w, h0, s _ _ h1, VerAt.tups s h2⟩
theorem GrpAt.keep {N N' : Addr → Prop} {H H' : Hp} (hN : ∀ p, N p → N' p) (s : ∀ b xs, H b = some (.tup xs) → H' b = some (.tup xs)) (sl : ∀ p vs, N p → H p = some (.lst vs) → H' p = some (.lst vs)) {v : V} {g : List Bd} : GrpAt N H v g → GrpAt N' H' v g :=
  fun ⟨p, vs, h0, h1, h2, h3⟩ => ⟨p, vs, h0, hN p h1, sl p vs h1 h2, L2.Paired.mapP h3 fun _ _ q => q.tups s⟩
theorem CndAt.keep {N N' : Addr → Prop} {H H' : Hp} (hN : ∀ p, N p → N' p) (s : ∀ b xs, H b = some (.tup xs) → H' b = some (.tup xs)) (sl : ∀ p vs, N p → H p = some (.lst vs) → H' p = some (.lst vs)) {v : V} {g : List (List Bd)} : CndAt N H v g → CndAt N' H' v g :=
  fun ⟨p, vs, h0, h1, h2, h3⟩ => ⟨p, vs, h0, hN p h1, sl p vs h1 h2, L2.Paired.mapP h3 fun _ _ q => q.keep hN s sl⟩
theorem Same.tp {H H' : Hp} (s : Same H H') : ∀ b xs, H b = some (.tup xs) → H' b = some (.tup xs) := fun b xs e => s b _ e
abbrev New (H0 : Hp) : Addr → Prop := fun p => H0 p = none
def spBnds (K : PySem.W.Frag) : Sp := fun vs H Q _ => ∃ (a : Addr) (l : B), vs = [.ref a] ∧ SqL K H a (bs l) ∧ l.length ≤ 256 ∧ ∀ H' v, Same H H' → OptAt (GrpAt (New H) H') v (bounds l) → Q v H'
def spCnd (K : PySem.W.Frag) : Sp := fun vs H Q _ => ∃ (a : Addr) (l : B), vs = [.ref a] ∧ SqL K H a (bs l) ∧ l.length ≤ 256 ∧ ∀ H' v, Same H H' → OptAt (CndAt (New H) H') v (condB l) → Q v H'
def spGrp (K : PySem.W.Frag) : Sp := fun vs H Q _ => ∃ (a : Addr) (l : B), vs = [.ref a] ∧ SqL K H a (bs l) ∧ l.length ≤ 256 ∧ ∀ H' v, Same H H' → OptAt (GrpAt (New H) H') v (groupB l) → Q v H'
structure CDefs (K : PySem.W.Frag) (mg : Str → Option Value) : Prop where
  V : VDefs K mg
  Z : Signs K mg
  hli : mg "list" = none
  hany : mg "any" = none
  rv : ∃ f fd, Def K mg "read_version" sReadVersion ["text"] f fd
  fn : ∃ f fd, Def K mg "first_of_next" sFirstNext ["version", "place"] f fd
  cp : ∃ f fd, Def K mg "caret_place" sCaret ["version"] f fd
  sf : ∃ f fd, Def K mg "sign_in_front" sSign ["text"] f fd
  rb : ∃ f fd, Def K mg "read_bounds" sBounds ["text"] f fd
  rg : ∃ f fd, Def K mg "read_group" sGroup ["text"] f fd
  kb : ∃ f fd, Def K mg "keeps_bound" sKeepB ["version", "sign", "limit"] f fd
  kg : ∃ f fd, Def K mg "keeps_group" sKeepG ["version", "group"] f fd
section
variable {P : Program} {w : World} {K : PySem.W.Frag} {mg : Str → Option Value} {base : Heap} {f : Addr} {fd : FuncData}
theorem scBnds : FnScope ["text", "sign", "version"] ["text"] (defScope sBounds) := ⟨rfl, rfl, rfl, by decide +kernel, rfl, by decide +kernel, by decide +kernel⟩
theorem one_bd {H H1 : Hp} {v : V} {u : Version} {s : List Nat} {p t : Addr} (s1 : Same H H1) (hv : VerAt H1 v u) (ht : H1 t = none) (hp : upd H1 t (.tup [.str (mkS s), v]) p = none) :
    Same H (upd (upd H1 t (.tup [.str (mkS s), v])) p (.lst [.ref t])) ∧ GrpAt (New H) (upd (upd H1 t (.tup [.str (mkS s), v])) p (.lst [.ref t])) (.ref p) [(s, u)] := by
  have sA := same_new (o := .tup [.str (mkS s), v]) s1 ht
  have sB := same_new (o := .lst [.ref t]) sA hp
  refine ⟨sB, p, [.ref t], rfl, sA.free hp, upd_same, .cons ⟨t, v, rfl, ?_, ?_⟩ .nil⟩
  · exact (same_upd hp) _ _ upd_same
  · exact VerAt.same (same_upd hp) (VerAt.same (same_upd ht) hv)
theorem two_bd {H H1 H2 : Hp} {v v2 : V} {u u2 : Version} {s s' : List Nat} {p t t2 : Addr} (s1 : Same H H1) (hv : VerAt H1 v u) (ht : H1 t = none) (s2 : Same (upd H1 t (.tup [.str (mkS s), v])) H2) (hv2 : VerAt H2 v2 u2) (ht2 : H2 t2 = none) (hp : upd H2 t2 (.tup [.str (mkS s'), v2]) p = none) :
    Same H (upd (upd H2 t2 (.tup [.str (mkS s'), v2])) p (.lst [.ref t, .ref t2])) ∧ GrpAt (New H) (upd (upd H2 t2 (.tup [.str (mkS s'), v2])) p (.lst [.ref t, .ref t2])) (.ref p) [(s, u), (s', u2)] := by
  have sA := (same_new (o := .tup [.str (mkS s), v]) s1 ht).trans s2
  have sB := same_new (o := .tup [.str (mkS s'), v2]) sA ht2
  have sC := same_new (o := .lst [.ref t, .ref t2]) sB hp
  have q1 : Same H2 (upd (upd H2 t2 (.tup [.str (mkS s'), v2])) p (.lst [.ref t, .ref t2])) := same_new (same_upd ht2) hp
  refine ⟨sC, p, [.ref t, .ref t2], rfl, sB.free hp, upd_same, .cons ⟨t, v, rfl, q1 _ _ (s2 _ _ upd_same), ?_⟩ (.cons ⟨t2, v2, rfl, (same_upd hp) _ _ upd_same, VerAt.same q1 hv2⟩ .nil)⟩
  exact VerAt.same q1 (VerAt.same s2 (VerAt.same (same_upd ht) hv))
theorem caret_lt (u : Version) : caret u < 3 := by
  unfold caret
  split
  · omega
  · split <;> omega
theorem ok_bounds (D : Def K mg "read_bounds" sBounds ["text"] f fd) (S : CDefs K mg) : FnOk P w K mg base CX0 6 f fd ["text"] (spBnds K) := by
  have T := S.V.T
  obtain ⟨f1, fd1, D1⟩ := S.rv
  obtain ⟨f2, fd2, D2⟩ := S.fn
  obtain ⟨f3, fd3, D3⟩ := S.cp
  obtain ⟨f4, fd4, D4⟩ := S.sf
  have G1 : FnOk P w K mg base CX0 5 f1 fd1 ["text"] (spVer K) := ok_readVersion D1 S.V
  have G2 : FnOk P w K mg base CX0 5 f2 fd2 ["version", "place"] spNext := (ok_next D2 S.hli).mono (by decide)
  have G3 : FnOk P w K mg base CX0 5 f3 fd3 ["version"] spCaret := (ok_caret D3).mono (by decide)
  have G4 : FnOk P w K mg base CX0 5 f4 fd4 ["text"] (spT K signV) := (ok_sign D4 T S.Z).mono (by decide)
  refine D.F.ok scBnds (fun vs H Q E h => ?_) (fun cdv A outer s H vs Q E hr h => ?_)
  · obtain ⟨a, l, rfl, _⟩ := h
    rfl
  · obtain ⟨a, l, rfl, ha, hl, k⟩ := h
    have hu := hr.units
    refine ⟨_, pss_cons (ps_if (pt_cmpR (op_eqB hu) (pv 0) (pe_lst (pa_cons (pe_callB call_ord rfl T.ord bt_ord (pa_cons pe_str pa_nil)) pa_nil)) (nomark _)) (pss_one (ps_ret (pe_lst pa_nil))) pss_nil)
      (pss_cons (ps_set (i := 1) scBnds.nd rfl (Or.inl rfl) (pe_call G4 hr rfl D4.at_ D4.F.kp D4.b .nil pass0 (pa_cons (pv 0) pa_nil)))
      (pss_cons (ps_set (i := 2) scBnds.nd rfl (Or.inl rfl) (pe_call G1 hr rfl D1.at_ D1.F.kp D1.b .nil pass0 (pa_cons (pe_slice sl_list (pv 0) (po_some (pe_callB call_len_str rfl T.len PySem.boot_len (pa_cons (pv 1) pa_nil))) po_none) pa_nil)))
      (pss_cons (ps_if (pt_cmp (pc_isN (pv 2))) (pss_one (ps_ret pe_non)) pss_nil)
      (pss_cons (ps_if (pt_cmpR op_eq (pv 1) pe_str (nomark _)) (pss_one (ps_ret (pe_lst (pa_cons (pe_tup (pa_cons pe_str (pa_cons (pv 2) pa_nil))) (pa_cons (pe_tup (pa_cons pe_str (pa_cons (pe_call G2 hr rfl D2.at_ D2.F.kp D2.b .nil pass0 (pa_cons (pv 2) (pa_cons pe_int pa_nil))) pa_nil))) pa_nil))))) pss_nil)
      (pss_cons (ps_if (pt_cmpR op_eq (pv 1) pe_str (nomark _)) (pss_one (ps_ret (pe_lst (pa_cons (pe_tup (pa_cons pe_str (pa_cons (pv 2) pa_nil))) (pa_cons (pe_tup (pa_cons pe_str (pa_cons (pe_call G2 hr rfl D2.at_ D2.F.kp D2.b .nil pass0 (pa_cons (pv 2) (pa_cons (pe_call G3 hr rfl D3.at_ D3.F.kp D3.b .nil pass0 (pa_cons (pv 2) pa_nil)) pa_nil))) pa_nil))) pa_nil))))) pss_nil)
      (pss_cons (ps_if (pt_cmpR op_eq (pv 1) pe_str (nomark _)) (pss_one (ps_ret (pe_lst (pa_cons (pe_tup (pa_cons pe_str (pa_cons (pv 2) pa_nil))) pa_nil)))) pss_nil)
      (pss_one (ps_ret (pe_lst (pa_cons (pe_tup (pa_cons (pv 1) (pa_cons (pv 2) pa_nil))) pa_nil)))))))))), ?_⟩
    have one : (1 : Nat) ≤ sizeLine := by decide
    have two : (2 : Nat) ≤ sizeLine := by decide
    refine ⟨_, rfl, _, rfl, rfl, one, fun p0 hp0 => ?_⟩
    have s0 : Same H (upd H p0 (.lst (bs [42]))) := same_upd hp0
    refine ⟨a, p0, l, [42], rfl, rfl, s0.seq ha, SqL.of upd_same, _, rfl, ?_⟩
    by_cases h42 : l = [42]
    · rw [decide_eq_true h42]
      refine ⟨Nat.zero_le _, fun p hp => k _ _ (same_new s0 hp) ?_⟩
      unfold bounds
      rw [if_pos h42]
      exact ⟨p, [], rfl, s0.free hp, upd_same, .nil⟩
    rw [decide_eq_false h42]
    refine ⟨_, rfl, a, l, rfl, s0.seq ha, hl, fun H1 s1 => ?_⟩
    have sA := s0.trans s1
    have hsl : (signC l).length ≤ 2 := by
      rcases signC_cases l with e | e
      · rw [e]; decide
      · exact sg_len e
    refine ⟨_, rfl, _, rfl, _, rfl, ?_, _, rfl, a, _, rfl, sA.seq ha, fun p1 hp1 => ?_⟩
    · rw [mkS_len]; exact Nat.le_of_lt (small1000 (by omega))
    have ec : cutV (bs l) (some ((mkS (signC l)).length : Int)) none = bs (l.drop (signC l).length) := by rw [mkS_len, cutV_from, bs_drop]
    have sB := same_new (o := .lst (cutV (bs l) (some ((mkS (signC l)).length : Int)) none)) sA hp1
    refine ⟨p1, _, rfl, SqL.of (by rw [upd_same, ec]), by rw [List.length_drop]; omega, fun H2 v s2 hv => ?_⟩
    have sC := sB.trans s2
    have hb : bounds l = (Rb19.version (l.drop (signC l).length)).map (bndsOf (signC l)) := by unfold bounds; rw [if_neg h42]
    refine ⟨_, rfl, _, rfl, ?_⟩
    cases hver : Rb19.version (l.drop (signC l).length) with
    | none =>
      rw [hver] at hv hb
      have hv : v = .non := hv
      subst hv
      exact k H2 .non sC (by rw [hb]; rfl)
    | some u =>
    rw [hver] at hv hb
    have hv : VerAt H2 v u := hv
    rw [decide_eq_false (verNon hv)]
    have hb : bounds l = some (bndsOf (signC l) u) := hb
    rw [hb] at k
    clear hb hver ec hp1 sB s2 sA s1 s0 h42
    have rest : signC l = [] ∨ signC l ∈ SG := signC_cases l
    have esv : signV l = .str (mkS (signC l)) := rfl
    rw [esv]
    generalize signC l = sg at *
    have plain : sg ∈ SG → sg ≠ [126] → sg ≠ [94] → sg ≠ [] → tRet (tLst (tCons (tTup (tCons (tVar 1) (tCons (tVar 2) tNil))) tNil)) { nx := fun _ H' => Q .non H', rt := Q } [some (.ref a), some (.str (mkS sg)), some v] H2 := by
      intro _ n1 n2 n3
      refine ⟨_, rfl, _, rfl, two, fun t ht => ⟨one, fun p hp => ?_⟩⟩
      obtain ⟨x, y⟩ := one_bd (s := sg) sC hv ht hp
      refine k _ _ x ?_
      unfold bndsOf
      rw [if_neg n1, if_neg n2, if_neg n3]
      exact y
    rcases rest with rfl | rest
    · refine ⟨_, rfl, rfl, _, rfl, ?_⟩
      refine ⟨_, rfl, rfl, _, rfl, ?_⟩
      refine ⟨_, rfl, rfl, _, rfl, ?_⟩
      refine ⟨_, rfl, two, fun t ht => ⟨one, fun p hp => ?_⟩⟩
      obtain ⟨x, y⟩ := one_bd (s := [61]) sC hv ht hp
      exact k _ _ x y
    · have rest2 := rest
      simp only [SG, List.mem_cons, List.not_mem_nil, or_false] at rest2
      rcases rest2 with rfl | rfl | rfl | rfl | rfl | rfl | rfl
      · exact ⟨_, rfl, rfl, _, rfl, _, rfl, rfl, _, rfl, _, rfl, rfl, _, rfl, plain rest (by decide) (by decide) (by decide)⟩
      · exact ⟨_, rfl, rfl, _, rfl, _, rfl, rfl, _, rfl, _, rfl, rfl, _, rfl, plain rest (by decide) (by decide) (by decide)⟩
      · exact ⟨_, rfl, rfl, _, rfl, _, rfl, rfl, _, rfl, _, rfl, rfl, _, rfl, plain rest (by decide) (by decide) (by decide)⟩
      · exact ⟨_, rfl, rfl, _, rfl, _, rfl, rfl, _, rfl, _, rfl, rfl, _, rfl, plain rest (by decide) (by decide) (by decide)⟩
      · exact ⟨_, rfl, rfl, _, rfl, _, rfl, rfl, _, rfl, _, rfl, rfl, _, rfl, plain rest (by decide) (by decide) (by decide)⟩
      ·
        refine ⟨_, rfl, rfl, _, rfl, ?_⟩
        refine ⟨_, rfl, two, fun t ht => ?_⟩
        refine ⟨_, rfl, v, u, 1, rfl, by decide, VerAt.same (same_upd ht) hv, fun H3 v3 s3 h3 => ⟨two, fun t2 ht2 => ⟨two, fun p hp => ?_⟩⟩⟩
        obtain ⟨x, y⟩ := two_bd (s := [62, 61]) (s' := [60]) sC hv ht s3 h3 ht2 hp
        exact k _ _ x y
      ·
        refine ⟨_, rfl, rfl, _, rfl, _, rfl, rfl, _, rfl, ?_⟩
        refine ⟨_, rfl, two, fun t ht => ?_⟩
        refine ⟨_, rfl, _, rfl, v, u, rfl, VerAt.same (same_upd ht) hv, v, u, caret u, rfl, caret_lt u, VerAt.same (same_upd ht) hv, fun H3 v3 s3 h3 => ⟨two, fun t2 ht2 => ⟨two, fun p hp => ?_⟩⟩⟩
        obtain ⟨x, y⟩ := two_bd (s := [62, 61]) (s' := [60]) sC hv ht s3 h3 ht2 hp
        exact k _ _ x y
end
end VP
namespace VP
open PySem PySem.Spec PyProof.Rows L2 VO VM
open Rb19 (B Word Version)
theorem mkS_inj {s t : List Nat} (h : mkS s = mkS t) : s = t := by
  have : s.toArray = t.toArray := by injection h
  simpa using this
theorem dec_mkS (s t : List Nat) : decide (V.str (mkS s) = V.str (mkS t)) = decide (s = t) := by
  by_cases h : s = t
  · subst h; simp
  · rw [decide_eq_false h]
    exact decide_eq_false fun z => h (mkS_inj (by injection z))
theorem BdAt.inj {H : Hp} {v : V} {b b' : Bd} (h : BdAt H v b) (h' : BdAt H v b') : b = b' := by
  obtain ⟨a, w, h0, h1, h2⟩ := h
  obtain ⟨a', w', h0', h1', h2'⟩ := h'
  subst h0
  injection h0' with h0'
  subst h0'
  rw [h1] at h1'
  injection h1' with h1'
  injection h1' with h1'
  injection h1' with q1 h1'
  injection h1' with q2 _
  injection q1 with q1
  subst q2
  exact Prod.ext (mkS_inj q1) (h2.inj h2')
theorem GrpAt.inj {N : Addr → Prop} {H : Hp} {v : V} {g g' : List Bd} (h : GrpAt N H v g) (h' : GrpAt N H v g') : g = g' := by
  obtain ⟨p, vs, h0, _, h1, h2⟩ := h
  obtain ⟨p', vs', h0', _, h1', h2'⟩ := h'
  subst h0
  injection h0' with h0'
  subst h0'
  rw [h1] at h1'
  injection h1' with h1'
  injection h1' with h1'
  subst h1'
  exact paired_inj (R := BdAt H) (fun _ _ _ => BdAt.inj) h2 h2'
theorem paired_via {α : Type} {A : V → α → Prop} {F : α → V} (inj : ∀ v x y, A v x → A v y → x = y) : ∀ {xs : List V} {ys : List V} {bs : List α}, Paired (fun x y => ∃ b, A x b ∧ y = F b) xs ys → Paired A xs bs → ys = bs.map F
  | _, _, _, .nil, .nil => rfl
  | _, _, _, .cons ⟨b, h1, h2⟩ t, .cons r t' => by rw [paired_via inj t t', h2, inj _ _ _ h1 r, List.map_cons]
theorem paired_app {α β : Type} {R : α → β → Prop} : ∀ {xs xs' : List α} {ys ys' : List β}, Paired R xs ys → Paired R xs' ys' → Paired R (xs ++ xs') (ys ++ ys')
  | _, _, _, _, .nil, h => h
  | _, _, _, _, .cons r t, h => .cons r (paired_app t h)
theorem allB_cons (c : B) (cs : List B) : allB (c :: cs) = match bounds c with
    | none => none
    | some b => (allB cs).map fun r => b ++ r := rfl
theorem bnds_len (l : B) {g : List Bd} (h : bounds l = some g) : g.length ≤ 2 := by
  unfold bounds at h
  split at h
  · cases h; decide
  · cases hv : Rb19.version (l.drop (signC l).length) with
    | none => rw [hv] at h; cases h
    | some u =>
      rw [hv] at h
      have h : bndsOf (signC l) u = g := Option.some.inj h
      subst h
      unfold bndsOf
      split
      · exact Nat.le_refl _
      · split
        · exact Nat.le_refl _
        · split <;> exact Nat.le_succ 1
section
variable {P : Program} {w : World} {K : PySem.W.Frag} {mg : Str → Option Value} {base : Heap} {f : Addr} {fd : FuncData}
theorem scGrp : FnScope ["text", "group", "piece", "bounds"] ["text"] (defScope sGroup) := ⟨rfl, rfl, rfl, by decide +kernel, rfl, by decide +kernel, by decide +kernel⟩
theorem ok_group (D : Def K mg "read_group" sGroup ["text"] f fd) (S : CDefs K mg) : FnOk P w K mg base CX0 7 f fd ["text"] (spGrp K) := by
  have T := S.V.T
  obtain ⟨f1, fd1, D1⟩ := S.V.pc
  obtain ⟨f2, fd2, D2⟩ := S.rb
  have G1 : FnOk P w K mg base CX0 6 f1 fd1 ["text", "mark"] (spPieces K) := (ok_pieces D1 T).mono (by decide)
  have G2 : FnOk P w K mg base CX0 6 f2 fd2 ["text"] (spBnds K) := ok_bounds D2 S
  refine D.F.ok scGrp (fun vs H Q E h => ?_) (fun cdv A outer s H vs Q E hr h => ?_)
  · obtain ⟨a, l, rfl, _⟩ := h
    rfl
  · obtain ⟨a, l, rfl, ha, hl, k⟩ := h
    refine ⟨_, pss_cons (ps_set (i := 1) scGrp.nd rfl (Or.inl rfl) (pe_lst pa_nil))
      (pss_cons (ps_for PassesOwn.never rfl (pi_list (pe_call G1 hr rfl D1.at_ D1.F.kp D1.b .nil pass0 (pa_cons (pv 0) (pa_cons pe_str pa_nil)))) (pg_name (i := 2) scGrp.nd rfl (Or.inl rfl))
        (pss_cons (ps_set (i := 3) scGrp.nd rfl (Or.inl rfl) (pe_call G2 hr rfl D2.at_ D2.F.kp D2.b .nil pass0 (pa_cons (pv 2) pa_nil)))
        (pss_cons (ps_if (pt_cmp (pc_isN (pv 3))) (pss_one (ps_ret pe_non)) pss_nil)
        (pss_one (ps_expr (pe_bm PySem.F.plainAttrs_list PySem.F.slot_list_extend PySem.F.type_list_extend mt_extend (pv 1) (pa_cons (pv 3) pa_nil)))))))
      (pss_one (ps_ret (pv 1)))), ?_⟩
    refine ⟨Nat.zero_le _, fun g hg => ?_⟩
    have s0 : Same H (upd H g (.lst [])) := same_upd hg
    refine ⟨_, rfl, a, " ", 32, l, rfl, rfl, rfl, s0.seq ha, hl, fun H1 p s1 I => ?_⟩
    obtain ⟨fp, as, e1, e2, _, pr⟩ := I
    have hg1 : H1 g = some (.lst []) := s1 _ _ upd_same
    have npg : p ≠ g := fun z => by subst z; rw [upd_same] at fp; cases fp
    have hga : ∀ a ∈ as, a ≠ g := fun a ha z => by have := (e2 a ha).1; rw [z, upd_same] at this; cases this
    have hcl : (Rb19.cut 32 l).length ≤ 257 := Nat.le_trans (cut_len _ _) (by omega)
    have hcm : ∀ c ∈ Rb19.cut 32 l, c.length ≤ 256 := cut_small hl
    have ek : groupB l = allB (Rb19.cut 32 l) := rfl
    rw [ek] at k
    generalize Rb19.cut 32 l = cs at pr hcl hcm k
    have sAll : ∀ H', SameB g H1 H' → Same H H' := fun H' sb b o e => sb b o (s1 _ _ (s0 _ _ e)) (ne_of_none e hg)
    have hlen := paired_len pr
    refine ⟨p, rfl, ⟨_, SqL.of e1⟩, for_list (K := K) (a := p) (xs := as.map V.ref) (fun i σ H' => ∃ v2 v3 : Option V, σ = [some (.ref a), some (.ref g), v2, v3] ∧ SameB g H1 H' ∧
        ∃ vs acc, H' g = some (.lst vs) ∧ Paired (BdAt H') vs acc ∧ acc.length ≤ 2 * i ∧ allB cs = (allB (cs.drop i)).map fun r => acc ++ r)
      ⟨none, none, rfl, fun b o e _ => e, [], [], hg1, .nil, Nat.zero_le _, ?_⟩ (fun i σ H' _ ⟨_, _, _, sb, _⟩ => SqL.of (sb _ _ e1 npg)) ?_ ?_⟩
    · rw [List.drop_zero]
      cases allB cs <;> rfl
    · rintro i y σ H' hi ⟨v2, v3, rfl, sb, vs, acc, hv, pv', hacc, hall⟩
      obtain ⟨b, hb, rfl⟩ : ∃ b, as[i]? = some b ∧ y = .ref b := by
        rw [List.getElem?_map] at hi
        cases e : as[i]? with
        | none => rw [e] at hi; cases hi
        | some z => rw [e] at hi; exact ⟨z, rfl, (Option.some.inj hi).symm⟩
      obtain ⟨c, hc, hbc⟩ := paired_get pr hb
      have hi2 : i < cs.length := (List.getElem?_eq_some_iff.mp hc).1
      have hdrop : cs.drop i = c :: cs.drop (i + 1) := by rw [List.drop_eq_getElem_cons hi2, (List.getElem?_eq_some_iff.mp hc).2]
      refine ⟨_, rfl, b, c, rfl, SqL.of (sb _ _ hbc (hga b (List.mem_of_getElem? hb))), hcm c (List.mem_of_getElem? hc), fun H2 v s2 hvv => ?_⟩
      refine ⟨_, rfl, _, rfl, ?_⟩
      rw [hdrop, allB_cons] at hall
      cases hbd : bounds c with
      | none =>
        rw [hbd] at hvv hall
        have hvv : v = .non := hvv
        subst hvv
        refine k H2 .non ((sAll H' sb).trans s2) ?_
        rw [hall]; rfl
      | some bd =>
        rw [hbd] at hvv hall
        obtain ⟨q, zs, rfl, hq, hz, pz⟩ := hvv
        have nqg : q ≠ g := fun z => by rw [z] at hq; rw [show H' g = none from hq] at hv; cases hv
        have hv2 := s2 _ _ hv
        have l1 := paired_len pv'
        have l2 := paired_len pz
        have l3 := bnds_len c hbd
        refine ⟨_, rfl, .inl ⟨rfl, _, SqL.of hv2⟩, _, rfl, g, q, vs, zs, rfl, rfl, hv2, hz, Nat.le_of_lt (small1000 (by omega)), ?_⟩
        have tp : ∀ b xs, H2 b = some (.tup xs) → upd H2 g (.lst (vs ++ zs)) b = some (.tup xs) := fun b xs e => by
          rw [upd_ne (ne_of e hv2 (fun z => by cases z))]; exact e
        refine ⟨_, _, rfl, (sb.trans (Same.b s2 g)).trans (sameB_upd g H2 _), vs ++ zs, acc ++ bd, upd_same, ?_, ?_, ?_⟩
        · exact paired_app (L2.Paired.mapP pv' fun _ _ q => BdAt.tups (fun b xs e => tp b xs (s2 _ _ e)) q) (L2.Paired.mapP pz fun _ _ q => BdAt.tups tp q)
        · rw [List.length_append]; omega
        · rw [hall]
          cases allB (cs.drop (i + 1)) with
          | none => rfl
          | some r => simp
    · rintro σ H2 ⟨v2, v3, rfl, sb, vs, acc, hv, pv', hacc, hall⟩
      refine ⟨_, rfl, k H2 _ (sAll H2 sb) ?_⟩
      rw [List.length_map, hlen, List.drop_eq_nil_of_le (Nat.le_refl _)] at hall
      rw [hall]
      show GrpAt _ H2 _ (acc ++ [])
      rw [List.append_nil]
      exact ⟨g, vs, rfl, hg, hv, pv'⟩
theorem scCnd : FnScope ["text", "groups", "piece"] ["text"] (defScope sCond) := ⟨rfl, rfl, rfl, by decide +kernel, rfl, by decide +kernel, by decide +kernel⟩
theorem any_opt {α : Type} {R : V → α → Prop} {F : B → Option α} (nn : ∀ x, ¬ R .non x) : ∀ {cs : List B} {ys : List V}, Paired (fun c y => OptAt R y (F c)) cs ys → (ys.any fun z => decide (z = .non)) = !(cs.map F).all Option.isSome
  | _, _, .nil => rfl
  | c :: cs, y :: ys, .cons r t => by
    rw [List.any_cons, List.map_cons, List.all_cons, any_opt nn t]
    cases h : F c with
    | none =>
      rw [h] at r
      have r : y = .non := r
      subst r
      simp
    | some w =>
      rw [h] at r
      have r : R y w := r
      have : ¬ y = .non := fun z => by subst z; exact nn w r
      simp [this]
theorem opts_at {α : Type} {R : V → α → Prop} {F : B → Option α} : ∀ {cs : List B} {ys : List V}, Paired (fun c y => OptAt R y (F c)) cs ys → (cs.map F).all Option.isSome = true → Paired R ys ((cs.map F).filterMap id)
  | _, _, .nil, _ => .nil
  | c :: cs, y :: ys, .cons r t, h => by
    rw [List.map_cons, List.all_cons, Bool.and_eq_true] at h
    cases e : F c with
    | none => rw [e] at h; cases h.1
    | some w =>
      rw [e] at r
      rw [List.map_cons, e]
      exact .cons r (opts_at t h.2)
theorem ok_cond (D : Def K mg "read_condition" sCond ["text"] f fd) (S : CDefs K mg) : FnOk P w K mg base CX0 8 f fd ["text"] (spCnd K) := by
  have T := S.V.T
  obtain ⟨f1, fd1, D1⟩ := S.V.pc
  obtain ⟨f2, fd2, D2⟩ := S.rg
  have G1 : FnOk P w K mg base CX0 7 f1 fd1 ["text", "mark"] (spPieces K) := (ok_pieces D1 T).mono (by decide)
  have G2 : FnOk P w K mg base CX0 7 f2 fd2 ["text"] (spGrp K) := ok_group D2 S
  refine D.F.ok scCnd (fun vs H Q E h => ?_) (fun cdv A outer s H vs Q E hr h => ?_)
  · obtain ⟨a, l, rfl, _⟩ := h
    rfl
  · obtain ⟨a, l, rfl, ha, hl, k⟩ := h
    have hu := hr.units
    refine ⟨_, pss_cons (ps_setLc (i := 1) (own := [("piece", 2)]) rfl scCnd.nd rfl rfl (sw_true rfl rfl rfl rfl) (pi_list (pe_call G1 hr rfl D1.at_ D1.F.kp D1.b .nil pass0 (pa_cons (pv 0) (pa_cons pe_str pa_nil)))) (blkOk_by (by rfl))
        (fun _ _ _ _ _ => pg_name (i := 2) scCnd.nd rfl (Or.inl rfl)) (fun _ _ _ _ _ => pts_nil) (fun _ _ _ _ _ => pe_call G2 hr rfl D2.at_ D2.F.kp D2.b .nil pass0 (pa_cons (pv 2) pa_nil)))
      (pss_one (ps_ret (pe_ifExp (pt_cmpR (op_inNone hu) pe_non (pv 1) (by with_unfolding_all rfl)) pe_non (pv 1)))), ?_⟩
    refine ⟨_, rfl, a, "|", 124, l, rfl, rfl, rfl, ha, hl, fun H1 p s1 I => ?_⟩
    obtain ⟨fp, as, e1, e2, _, pr⟩ := I
    have hcl : (Rb19.cut 124 l).length ≤ 257 := Nat.le_trans (cut_len _ _) (by omega)
    have hcm : ∀ c ∈ Rb19.cut 124 l, c.length ≤ 256 := cut_small hl
    have ek : condB l = if ((Rb19.cut 124 l).map groupB).all Option.isSome = true then some (((Rb19.cut 124 l).map groupB).filterMap id) else none := rfl
    rw [ek] at k
    generalize Rb19.cut 124 l = cs at pr hcl hcm k
    refine ⟨p, rfl, ⟨_, SqL.of e1⟩, fun DD hD => lc_rel (fun x y H' => Thru H1 (fun c y => OptAt (GrpAt (fun q => H q = none ∧ q ≠ DD) H') y (groupB c)) x y) hD (SqL.of e1) ?_ ?_ (fun x H3 Q' zs hx s3 hz k3 => ?_) (fun ys H3 s3 hy pr3 => ?_)⟩
    · rw [List.length_map, paired_len pr]
      exact small1000 (by omega)
    · rintro x y H3 H4 zs hz sb ⟨b, c, h0, h1, h2⟩
      exact ⟨b, c, h0, h1, OptAt.imp (fun g q => GrpAt.keep (fun _ z => z) (sb.tups hz) (fun p vs np e => sb _ _ e np.2) q) h2⟩
    · obtain ⟨b, hb, rfl⟩ := List.mem_map.mp hx
      obtain ⟨c, hc, hbc⟩ := paired_of pr hb
      refine ⟨rfl, _, rfl, b, c, rfl, SqL.of (s3 _ _ hbc), hcm c hc, fun H4 v s4 h4 => k3 _ H4 s4 ⟨b, c, rfl, hbc, ?_⟩⟩
      refine OptAt.imp (fun g q => GrpAt.keep (fun p np => ⟨(s1.trans s3).free np, fun z => ?_⟩) (fun _ _ e => e) (fun _ _ _ e => e) q) h4
      rw [z] at np
      rw [show H3 DD = none from np] at hz
      cases hz
    have prG := pcs_thru pr3 pr
    have sA := s1.trans s3
    refine ⟨_, rfl, rfl, DD, _, rfl, SqL.of hy, ?_, _, rfl, ?_⟩
    · intro v hv'
      obtain ⟨c, _, hc⟩ := paired_by prG hv'
      cases hgc : groupB c with
      | none => rw [hgc] at hc; exact .inl hc
      | some g =>
        rw [hgc] at hc
        obtain ⟨q, vs, h0, _, h1, _⟩ := hc
        exact .inr (.inr ⟨q, vs, h0, .inr (SqL.of h1)⟩)
    rw [any_opt (R := GrpAt (fun q => H q = none ∧ q ≠ DD) H3) (F := groupB) (fun g ⟨q, vs, h0, _⟩ => by cases h0) prG]
    cases hA : (cs.map groupB).all Option.isSome with
    | false =>
      rw [hA] at k
      exact k H3 .non sA rfl
    | true =>
      rw [hA] at k
      refine ⟨_, rfl, k H3 _ sA ?_⟩
      refine ⟨DD, ys, rfl, s1.free hD, hy, L2.Paired.mapP (opts_at prG hA) fun v g q => GrpAt.keep (fun _ z => z.1) (fun _ _ e => e) (fun _ _ _ e => e) q⟩
def spKeepB : Sp := fun vs H Q _ => ∃ (v x : V) (u : Version) (b : Bd), vs = [v, .str (mkS b.1), x] ∧ VerAt H v u ∧ VerAt H x b.2 ∧ Q (.bl (keepB u b)) H
def spKeepG : Sp := fun vs H Q _ => ∃ (v x : V) (u : Version) (g : List Bd) (N : Addr → Prop), vs = [v, x] ∧ VerAt H v u ∧ GrpAt N H x g ∧ g.length ≤ 1000 ∧ ∀ H', Same H H' → Q (.bl (keepG u g)) H'
def spHoldsC : Sp := fun vs H Q _ => ∃ (v x : V) (u : Version) (gs : List (List Bd)) (N : Addr → Prop), vs = [x, v] ∧ VerAt H v u ∧ CndAt N H x gs ∧ gs.length ≤ 1000 ∧ (∀ g ∈ gs, g.length ≤ 1000) ∧ ∀ H', Same H H' → Q (.bl (keepC u gs)) H'
theorem scKB : FnScope ["version", "sign", "limit"] ["version", "sign", "limit"] (defScope sKeepB) := ⟨rfl, rfl, rfl, by decide +kernel, rfl, by decide +kernel, by decide +kernel⟩
theorem ok_keepB (D : Def K mg "keeps_bound" sKeepB ["version", "sign", "limit"] f fd) : FnOk P w K mg base CX0 1 f fd ["version", "sign", "limit"] spKeepB := by
  refine D.F.ok scKB (fun vs H Q E h => ?_) (fun cdv A outer s H vs Q E hr h => ?_)
  · obtain ⟨v, x, u, b, rfl, _⟩ := h
    rfl
  · obtain ⟨v, x, u, b, rfl, hv, hx, k⟩ := h
    have hu := hr.units
    refine ⟨_, pss_cons (ps_if (pt_cmpR op_eq (pv 1) pe_str (nomark _)) (pss_one (ps_ret (pe_cmpR (op_ord (.inr (.inr (.inr rfl))) hu) (pv 0) (pv 2) (nomark _)))) pss_nil)
      (pss_cons (ps_if (pt_cmpR op_eq (pv 1) pe_str (nomark _)) (pss_one (ps_ret (pe_cmpR (op_ord (.inr (.inr (.inl rfl))) hu) (pv 0) (pv 2) (nomark _)))) pss_nil)
      (pss_cons (ps_if (pt_cmpR op_eq (pv 1) pe_str (nomark _)) (pss_one (ps_ret (pe_cmpR (op_ord (.inr (.inl rfl)) hu) (pv 0) (pv 2) (nomark _)))) pss_nil)
      (pss_cons (ps_if (pt_cmpR op_eq (pv 1) pe_str (nomark _)) (pss_one (ps_ret (pe_cmpR (op_ord (.inl rfl) hu) (pv 0) (pv 2) (nomark _)))) pss_nil)
      (pss_one (ps_ret (pe_cmpR (op_ordE hu) (pv 0) (pv 2) (nomark _))))))), ?_⟩
    unfold keepB at k
    refine ⟨_, rfl, rfl, _, rfl, ?_⟩
    show if decide (V.str (mkS b.1) = V.str (mkS [62, 61])) = true then _ else _
    rw [dec_mkS]
    by_cases h1 : b.1 = [62, 61]
    · rw [if_pos h1] at k
      rw [if_pos (decide_eq_true h1)]
      refine ⟨_, rfl, _, rfl, u, b.2, hv, hx, ?_⟩
      revert k
      cases ordV u b.2 <;> exact fun k => k
    rw [if_neg h1] at k
    rw [if_neg (by rw [decide_eq_false h1]; exact Bool.false_ne_true)]
    refine ⟨_, rfl, rfl, _, rfl, ?_⟩
    show if decide (V.str (mkS b.1) = V.str (mkS [62])) = true then _ else _
    rw [dec_mkS]
    by_cases h2 : b.1 = [62]
    · rw [if_pos h2] at k
      rw [if_pos (decide_eq_true h2)]
      refine ⟨_, rfl, _, rfl, u, b.2, hv, hx, ?_⟩
      revert k
      cases ordV u b.2 <;> exact fun k => k
    rw [if_neg h2] at k
    rw [if_neg (by rw [decide_eq_false h2]; exact Bool.false_ne_true)]
    refine ⟨_, rfl, rfl, _, rfl, ?_⟩
    show if decide (V.str (mkS b.1) = V.str (mkS [60, 61])) = true then _ else _
    rw [dec_mkS]
    by_cases h3 : b.1 = [60, 61]
    · rw [if_pos h3] at k
      rw [if_pos (decide_eq_true h3)]
      refine ⟨_, rfl, _, rfl, u, b.2, hv, hx, ?_⟩
      revert k
      cases ordV u b.2 <;> exact fun k => k
    rw [if_neg h3] at k
    rw [if_neg (by rw [decide_eq_false h3]; exact Bool.false_ne_true)]
    refine ⟨_, rfl, rfl, _, rfl, ?_⟩
    show if decide (V.str (mkS b.1) = V.str (mkS [60])) = true then _ else _
    rw [dec_mkS]
    by_cases h4 : b.1 = [60]
    · rw [if_pos h4] at k
      rw [if_pos (decide_eq_true h4)]
      refine ⟨_, rfl, _, rfl, u, b.2, hv, hx, ?_⟩
      revert k
      cases ordV u b.2 <;> exact fun k => k
    rw [if_neg h4] at k
    rw [if_neg (by rw [decide_eq_false h4]; exact Bool.false_ne_true)]
    exact ⟨_, rfl, _, rfl, u, b.2, hv, hx, k⟩
theorem scKG : FnScope ["version", "group", "sign", "limit"] ["version", "group"] (defScope sKeepG) := ⟨rfl, rfl, rfl, by decide +kernel, rfl, by decide +kernel, by decide +kernel⟩
theorem all_bl {α : Type} (F : α → Bool) (l : List α) : (l.map fun x => V.bl (F x)) = (l.map F).map V.bl := by rw [List.map_map]; rfl
theorem all_map_id {α : Type} (F : α → Bool) : ∀ l : List α, (l.map F).all id = l.all F
  | [] => rfl
  | a :: l => by rw [List.map_cons, List.all_cons, List.all_cons, all_map_id F l]; rfl
theorem any_map_id {α : Type} (F : α → Bool) : ∀ l : List α, (l.map F).any id = l.any F
  | [] => rfl
  | a :: l => by rw [List.map_cons, List.any_cons, List.any_cons, any_map_id F l]; rfl
theorem ok_keepG (D : Def K mg "keeps_group" sKeepG ["version", "group"] f fd) (S : CDefs K mg) : FnOk P w K mg base CX0 2 f fd ["version", "group"] spKeepG := by
  have T := S.V.T
  obtain ⟨f1, fd1, D1⟩ := S.kb
  have G1 : FnOk P w K mg base CX0 1 f1 fd1 ["version", "sign", "limit"] spKeepB := ok_keepB D1
  refine D.F.ok scKG (fun vs H Q E h => ?_) (fun cdv A outer s H vs Q E hr h => ?_)
  · obtain ⟨v, x, u, g, N, rfl, _⟩ := h
    rfl
  · obtain ⟨v, x, u, g, N, rfl, hv, hx, hl, k⟩ := h
    refine ⟨_, pss_one (ps_ret (pe_callB (cr_all rfl) rfl T.all bt_all (pa_cons (pe_lc (own := [("sign", 2), ("limit", 3)]) (g := gTup K 2 (gCons (gName 2) (gCons (gName 3) gNil))) rfl scKG.nd (pi_list (pv 1)) (blkOk_by (by rfl))
      (fun _ _ _ _ _ => pg_tup rfl (pgs_cons (pg_name (i := 2) scKG.nd rfl (Or.inl rfl) (Or.inr rfl)) (pgs_cons (pg_name (i := 3) scKG.nd rfl (Or.inl rfl) (Or.inr rfl)) pgs_nil rfl) rfl) rfl rfl) (fun _ _ _ _ _ => pts_nil)
      (fun _ _ _ _ _ => pe_call G1 hr rfl D1.at_ D1.F.kp D1.b .nil pass0 (pa_cons (pv 0) (pa_cons (pv 2) (pa_cons (pv 3) pa_nil))))) pa_nil))), ?_⟩
    obtain ⟨p, vs, rfl, hN, hp, pr⟩ := hx
    refine ⟨_, rfl, p, rfl, ⟨_, SqL.of hp⟩, fun DD hD => lc_rel (fun x y _ => ∃ b, BdAt H x b ∧ y = V.bl (keepB u b)) hD (SqL.of hp) ?_ (fun _ _ _ _ _ _ _ h => h) (fun x H2 Q' zs hx s2 hz k2 => ?_) (fun ys H2 s2 hy pr2 => ?_)⟩
    · rw [paired_len pr]; exact small1000 hl
    · obtain ⟨b, hb, hxb⟩ := paired_of pr hx
      have hxb0 := hxb
      obtain ⟨a, y, rfl, h1, h2⟩ := hxb
      exact ⟨a, _, rfl, SqT.of (s2 _ _ h1), rfl, _, _, rfl, _, _, rfl, rfl, rfl, _, rfl, _, rfl, _, rfl, v, y, u, b, rfl, VerAt.same s2 hv, VerAt.same s2 h2, k2 _ H2 (Same.refl H2) ⟨b, hxb0, rfl⟩⟩
    · have ey := paired_via (A := BdAt H) (fun _ _ _ => BdAt.inj) pr2 pr
      rw [all_bl] at ey
      subst ey
      refine ⟨DD, _, rfl, SqL.of hy, ?_⟩
      rw [all_map_id]
      exact k H2 s2
theorem scHC : FnScope ["groups", "version", "group"] ["groups", "version"] (defScope sHoldsC) := ⟨rfl, rfl, rfl, by decide +kernel, rfl, by decide +kernel, by decide +kernel⟩
theorem ok_holdsC (D : Def K mg "condition_holds" sHoldsC ["groups", "version"] f fd) (S : CDefs K mg) : FnOk P w K mg base CX0 3 f fd ["groups", "version"] spHoldsC := by
  obtain ⟨f1, fd1, D1⟩ := S.kg
  have G1 : FnOk P w K mg base CX0 2 f1 fd1 ["version", "group"] spKeepG := ok_keepG D1 S
  refine D.F.ok scHC (fun vs H Q E h => ?_) (fun cdv A outer s H vs Q E hr h => ?_)
  · obtain ⟨v, x, u, g, N, rfl, _⟩ := h
    rfl
  · obtain ⟨v, x, u, gs, N, rfl, hv, hx, hl, hl2, k⟩ := h
    refine ⟨_, pss_one (ps_ret (pe_callB (cr_any rfl) rfl S.hany bt_any (pa_cons (pe_lc (own := [("group", 2)]) rfl scHC.nd (pi_list (pv 0)) (blkOk_by (by rfl))
      (fun _ _ _ _ _ => pg_name (i := 2) scHC.nd rfl (Or.inl rfl)) (fun _ _ _ _ _ => pts_nil)
      (fun _ _ _ _ _ => pe_call G1 hr rfl D1.at_ D1.F.kp D1.b .nil pass0 (pa_cons (pv 1) (pa_cons (pv 2) pa_nil)))) pa_nil))), ?_⟩
    obtain ⟨p, vs, rfl, hN, hp, pr⟩ := hx
    refine ⟨_, rfl, p, rfl, ⟨_, SqL.of hp⟩, fun DD hD => lc_rel (fun x y _ => ∃ g, GrpAt N H x g ∧ y = V.bl (keepG u g)) hD (SqL.of hp) ?_ (fun _ _ _ _ _ _ _ h => h) (fun x H2 Q' zs hx s2 hz k2 => ?_) (fun ys H2 s2 hy pr2 => ?_)⟩
    · rw [paired_len pr]; exact small1000 hl
    · obtain ⟨g, hg, hxg⟩ := paired_of pr hx
      exact ⟨rfl, _, rfl, _, rfl, v, x, u, g, N, rfl, VerAt.same s2 hv, GrpAt.keep (fun _ z => z) (Same.tp s2) (fun _ _ _ e => s2 _ _ e) hxg, hl2 g hg, fun H3 s3 => k2 _ H3 s3 ⟨g, hxg, rfl⟩⟩
    · have ey := paired_via (A := GrpAt N H) (fun _ _ _ => GrpAt.inj) pr2 pr
      rw [all_bl] at ey
      subst ey
      refine ⟨DD, _, rfl, SqL.of hy, ?_⟩
      rw [any_map_id]
      exact k H2 s2
end
end VP
namespace VM
open Rb19 VO
theorem textLess_trans : ∀ (x y z : B), textLess x y = true → textLess y z = true → textLess x z = true
  | [], [], _, h, _ => by cases h
  | [], _ :: _, [], _, h => by cases h
  | [], _ :: _, _ :: _, _, _ => rfl
  | _ :: _, [], _, h, _ => by cases h
  | _ :: _, _ :: _, [], _, h => by cases h
  | a :: x, b :: y, c :: z, h1, h2 => by
    simp only [textLess, Bool.or_eq_true, decide_eq_true_eq, Bool.and_eq_true, beq_iff_eq] at h1 h2 ⊢
    rcases h1 with h1 | ⟨h1, h1'⟩
    · rcases h2 with h2 | ⟨h2, h2'⟩
      · exact .inl (by omega)
      · exact .inl (by omega)
    · rcases h2 with h2 | ⟨h2, h2'⟩
      · exact .inl (by omega)
      · exact .inr ⟨by omega, textLess_trans x y z h1' h2'⟩
theorem wordLess_trans : ∀ (x y z : Word), wordLess x y = true → wordLess y z = true → wordLess x z = true
  | .num a, .num b, .num c, h1, h2 => by
    simp only [wordLess, decide_eq_true_eq] at h1 h2 ⊢
    omega
  | .num _, .num _, .text _, _, _ => rfl
  | .num _, .text _, .num _, _, h => by cases h
  | .num _, .text _, .text _, _, _ => rfl
  | .text _, .num _, _, h, _ => by cases h
  | .text _, .text _, .num _, _, h => by cases h
  | .text x, .text y, .text z, h1, h2 => textLess_trans x y z h1 h2
theorem wordsLess_trans : ∀ (x y z : List Word), wordsLess x y = true → wordsLess y z = true → wordsLess x z = true
  | [], [], _, h, _ => by cases h
  | [], _ :: _, [], _, h => by cases h
  | [], _ :: _, _ :: _, _, _ => rfl
  | _ :: _, [], _, h, _ => by cases h
  | _ :: _, _ :: _, [], _, h => by cases h
  | a :: x, b :: y, c :: z, h1, h2 => by
    simp only [wordsLess, Bool.or_eq_true, Bool.and_eq_true, beq_iff_eq] at h1 h2 ⊢
    rcases h1 with h1 | ⟨h1, h1'⟩
    · rcases h2 with h2 | ⟨h2, h2'⟩
      · exact .inl (wordLess_trans a b c h1 h2)
      · exact .inl (by rw [← h2]; exact h1)
    · rcases h2 with h2 | ⟨h2, h2'⟩
      · exact .inl (by rw [h1]; exact h2)
      · exact .inr ⟨h1.trans h2, wordsLess_trans x y z h1' h2'⟩
def preLess (x y : List Word) : Bool := match x, y with
  | [], _ => false
  | _ :: _, [] => true
  | x, y => wordsLess x y
theorem preLess_trans : ∀ (x y z : List Word), preLess x y = true → preLess y z = true → preLess x z = true
  | [], _, _, h, _ => by cases h
  | _ :: _, [], _, _, h => by cases h
  | _ :: _, _ :: _, [], _, _ => rfl
  | a :: x, b :: y, c :: z, h1, h2 => wordsLess_trans (a :: x) (b :: y) (c :: z) h1 h2
theorem less_iff (u v : Version) : less u v = true ↔ u.a < v.a ∨ (u.a = v.a ∧ (u.b < v.b ∨ (u.b = v.b ∧ (u.c < v.c ∨ (u.c = v.c ∧ preLess u.pre v.pre = true))))) := by
  have e : less u v = if u.a ≠ v.a then decide (u.a < v.a) else if u.b ≠ v.b then decide (u.b < v.b) else if u.c ≠ v.c then decide (u.c < v.c) else preLess u.pre v.pre := by
    unfold less preLess
    rfl
  rw [e]
  by_cases h1 : u.a = v.a
  · rw [if_neg (fun z => z h1)]
    by_cases h2 : u.b = v.b
    · rw [if_neg (fun z => z h2)]
      by_cases h3 : u.c = v.c
      · rw [if_neg (fun z => z h3)]
        constructor
        · exact fun h => .inr ⟨h1, .inr ⟨h2, .inr ⟨h3, h⟩⟩⟩
        · rintro (h | ⟨_, h | ⟨_, h | ⟨_, h⟩⟩⟩)
          · omega
          · omega
          · omega
          · exact h
      · rw [if_pos h3, decide_eq_true_eq]
        omega
    · rw [if_pos h2, decide_eq_true_eq]
      omega
  · rw [if_pos h1, decide_eq_true_eq]
    omega
theorem less_trans (u v w : Version) (h1 : less u v = true) (h2 : less v w = true) : less u w = true := by
  rw [less_iff] at h1 h2 ⊢
  rcases h1 with h1 | ⟨a1, h1 | ⟨b1, h1 | ⟨c1, h1⟩⟩⟩ <;> rcases h2 with h2 | ⟨a2, h2 | ⟨b2, h2 | ⟨c2, h2⟩⟩⟩
  all_goals first
    | exact .inr ⟨a1.trans a2, .inr ⟨b1.trans b2, .inr ⟨c1.trans c2, preLess_trans _ _ _ h1 h2⟩⟩⟩
    | omega
theorem less_asym (u v : Version) (h : less u v = true) : less v u = false := by
  rw [less_gt]
  rw [less_ord] at h
  cases e : ordV u v with
  | lt => rfl
  | eq => rfl
  | gt => rw [e] at h; cases h
theorem less_conn (u v : Version) (hn : u ≠ v) (h : less u v = false) : less v u = true := by
  rw [less_gt]
  rw [less_ord] at h
  cases e : ordV u v with
  | lt => rw [e] at h; cases h
  | eq => exact absurd ((ordV_eq u v).mp e) hn
  | gt => rfl
end VM
namespace VK
open PySem PySem.Spec PyProof.Rows
structure Kd (prog : Program) (w : World) (κ : Type) [DecidableEq κ] where
  is : Heap → κ → Value → Prop
  hash : κ → Int
  draws : κ → Nat
  lv : Nat
  inj : ∀ {h : Heap} {v : Value} {x y : κ}, is h x v → is h y v → x = y
  keeps : ∀ {h h' : Heap} {k : κ} {v : Value} {d : Addr} {o : Obj} {es ep}, is h k v → h.get? d = some o → o.data = .dict es ep → Heap.SameBut d h h' → is h' k v
  hashes : ∀ {A : Around} {E : Value → Shared → Prop} {s : Shared} {k : κ} {v : Value} {Q : Int → Shared → Prop}, A.units + lv < cLine → is s.heap k v → Q (hash k) { s with toks := s.toks + draws k } → wpAny (model prog w) A (pyHash v) Q E s
  equal : ∀ {A : Around} {s : Shared} {x y : κ} {u v : Value}, A.units + lv < cLine → is s.heap x u → is s.heap y v → SeqAt.EqAt A s u v (decide (x = y))
  quiet : ∀ {A : Around} {E : Value → Shared → Prop} {s : Shared} {k : κ} {v : Value} {Q : Bool → Shared → Prop} (n : Nat), lv ≤ n → is s.heap k v → Q true s → wpAny (model prog w) A (eqIsQuiet n v) Q E s
section
variable {prog : Program} {w : World}
theorem quiet_int (n : Nat) (i : Int) (t : Tok) : eqIsQuiet n (.int i t) = pure true := by
  unfold eqIsQuiet
  rfl
def intKd (prog : Program) (w : World) : Kd prog w Int where
  is := fun _ i v => ∃ t, v = .int i t
  hash := hashInt
  draws := fun _ => 1
  lv := 0
  inj := by
    rintro h v x y ⟨t, rfl⟩ ⟨u, e⟩
    injection e
  keeps := fun h _ _ _ => h
  hashes := by
    rintro A E s k v Q hu ⟨t, rfl⟩ h
    exact wpAny_pyHash_int h
  equal := by
    rintro A s x y u v hu ⟨t, rfl⟩ ⟨t', rfl⟩
    have e : (x == y) = decide (x = y) := by
      by_cases z : x = y
      · subst z; simp
      · simp [z]
    rw [← e]
    exact SeqAt.EqAt.int_int x t y t'
  quiet := by
    rintro A E s k v Q n hn ⟨t, rfl⟩ h
    rw [quiet_int]
    exact wpAny_pure h
variable {κ : Type} [DecidableEq κ]
def ItemsK (kd : Kd prog w κ) (h : Heap) : List κ → List Value → Prop := Paired (kd.is h)
def TupK (kd : Kd prog w κ) (h : Heap) (l : List κ) (v : Value) : Prop := ∃ a o items n, v = .ref a ∧ h.get? a = some o ∧ o.cls = .type "tuple" ∧ o.data = .seq items n ∧ ItemsK kd h l items.toList
theorem items_inj {kd : Kd prog w κ} {h : Heap} : ∀ {x y : List κ} {vs : List Value}, ItemsK kd h x vs → ItemsK kd h y vs → x = y
  | _, _, _, .nil, .nil => rfl
  | _, _, _, .cons r t, .cons r' t' => by rw [kd.inj r r', items_inj t t']
theorem items_eqs {kd : Kd prog w κ} {A : Around} {s : Shared} (hu : A.units + kd.lv < cLine) : ∀ {x y : List κ} {vs ws : List Value}, ItemsK kd s.heap x vs → ItemsK kd s.heap y ws →
    ∃ e : Nat → Bool, (∀ (j : Nat) (h1 : j < vs.length) (h2 : j < ws.length), SeqAt.EqAt A s vs[j] ws[j] (e j)) ∧ ((List.range (min vs.length ws.length)).all e && vs.length == ws.length) = decide (x = y)
  | _, _, _, _, .nil, .nil => ⟨fun _ => true, fun j h1 => absurd h1 (by simp), by simp⟩
  | _, _, _, _, .nil, .cons r t => ⟨fun _ => true, fun j h1 => absurd h1 (by simp), by simp⟩
  | _, _, _, _, .cons r t, .nil => ⟨fun _ => true, fun j _ h2 => absurd h2 (by simp), by simp⟩
  | a :: x, b :: y, u :: vs, v :: ws, .cons r t, .cons r' t' => by
    obtain ⟨e, h1, h2⟩ := items_eqs (kd := kd) hu t t'
    refine ⟨fun j => match j with | 0 => decide (a = b) | j + 1 => e j, fun j q1 q2 => ?_, ?_⟩
    · cases j with
      | zero => exact kd.equal hu r r'
      | succ j => exact h1 j (by simpa using q1) (by simpa using q2)
    · have em : min (u :: vs).length (v :: ws).length = min vs.length ws.length + 1 := by simp only [List.length_cons]; omega
      rw [em, List.range_succ_eq_map, List.all_cons, List.all_map]
      have el : ((u :: vs).length == (v :: ws).length) = (vs.length == ws.length) := by simp
      rw [el]
      show (decide (a = b) && (List.range (min vs.length ws.length)).all e && (vs.length == ws.length)) = _
      rw [Bool.and_assoc, h2]
      by_cases z : a = b
      · subst z
        by_cases z2 : x = y
        · subst z2; simp
        · simp [z2]
      · simp [z]
theorem tup_hash {kd : Kd prog w κ} {A : Around} {E : Value → Shared → Prop} {s : Shared} {l : List κ} {v : Value} {Q : Int → Shared → Prop} (hu : A.units + (kd.lv + 1) < cLine) (hk : TupK kd s.heap l v)
    (h : Q (reduceHash (Builtin.Tuple.tupleHashOf (l.map kd.hash))) { s with toks := s.toks + ((l.map kd.draws).sum + 1) }) : wpAny (model prog w) A (pyHash v) Q E s := by
  obtain ⟨a, o, items, n, rfl, ho, hc, hd, hi⟩ := hk
  have hT : s.TypeIs (.ref a) "tuple" := ⟨o, ho, hc⟩
  unfold pyHash
  first | unfold pyHashByItsType | skip
  have hu0 : A.units < cLine := by omega
  first | refine wpAny_bind (wpAny_cRoomFor_or (Or.inr hu0) ?_) | skip
  refine wpAny_bind (wpAny_specialOf hT PySem.F.slot_tuple_hash.lookup ?_)
  show wpAny (model prog w) A (if (some (Value.builtin "tuple.__hash__") == some Value.none) = true then _ else _) Q E s
  rw [if_neg (by rw [PySem.beq_builtin_none]; simp)]
  refine wpAny_bind (wpAny_specialOf hT PySem.F.slot_tuple_hash.lookup ?_)
  show wpAny (model prog w) A (callSpecialIfBoundUnlessNone? (.ref a) "__hash__" _ >>= _) Q E s
  refine wpAny_bind (wpAny_callSpecialIfBoundUnlessNone?_slot hT PySem.F.slot_tuple_hash (wpAny_call_entry PySem.F.slot_tuple_hash hT PySem.F.entry_tuple_hash ?_ (PySem.F.args_tuple_hash_1 _)))
  show wpAny (model prog w) A.in1 (Builtin.Tuple.tupleItemsOf (.ref a) >>= _) _ _ s
  refine wpAny_bind (wpAny_tupleItemsOf (M := model prog w) ho hd ?_)
  refine wpAny_bind ?_
  rw [← Array.forIn_toList]
  refine wpAny_forIn_list _ (fun rest (b : Array Int) s' => ∃ done left, l = done ++ left ∧ ItemsK kd s.heap left rest ∧ b.toList = done.map kd.hash ∧ s' = { s with toks := s.toks + (done.map kd.draws).sum }) _ ?_ ?_ _ _ ⟨[], l, rfl, hi, rfl, by simp⟩
  · rintro x rest b s' ⟨done, left, el, hl, hb, rfl⟩
    cases hl with
    | @cons k _ ks' _ h1 hl' =>
      refine wpAny_bind (kd.hashes (s := { s with toks := s.toks + (done.map kd.draws).sum }) (A := A.in1) (by show A.units + 1 + kd.lv < cLine; omega) h1 ?_)
      first
        | exact wpAny_pure ⟨done ++ [k], ks', by rw [el]; simp, hl', by simp [hb], by simp [Nat.add_assoc]⟩
        | exact wpAny_bind (wpAny_pure (wpAny_pure ⟨done ++ [k], ks', by rw [el]; simp, hl', by simp [hb], by simp [Nat.add_assoc]⟩))
  · rintro b s' ⟨done, left, el, hl, hb, rfl⟩
    cases hl
    rw [List.append_nil] at el
    subst el
    show wpAny (model prog w) A.in1 (retInt (Builtin.Tuple.tupleHashOf b.toList)) _ _ _
    rw [hb]
    refine wpAny_ret_mkInt ?_
    show wpAny (model prog w) A (if (decide (-(2 : Int) ^ 63 ≤ Builtin.Tuple.tupleHashOf (l.map kd.hash)) && decide (Builtin.Tuple.tupleHashOf (l.map kd.hash) < 2 ^ 63)) = true then _ else _) Q E _
    unfold reduceHash at h
    by_cases hr : (decide (-(2 : Int) ^ 63 ≤ Builtin.Tuple.tupleHashOf (l.map kd.hash)) && decide (Builtin.Tuple.tupleHashOf (l.map kd.hash) < 2 ^ 63)) = true
    · rw [if_pos hr] at h ⊢
      exact wpAny_pure (by simpa [Nat.add_assoc] using h)
    · rw [if_neg hr] at h ⊢
      exact wpAny_bind (wpAny_rule (wpAny_pure (by simpa [Nat.add_assoc] using h)))
theorem tup_quiet {kd : Kd prog w κ} {A : Around} {E : Value → Shared → Prop} {s : Shared} {l : List κ} {v : Value} {Q : Bool → Shared → Prop} (n : Nat) (hn : kd.lv + 1 ≤ n) (hk : TupK kd s.heap l v) (h : Q true s) : wpAny (model prog w) A (eqIsQuiet n v) Q E s := by
  obtain ⟨a, o, items, m, rfl, ho, hc, hd, hi⟩ := hk
  have hT : s.TypeIs (.ref a) "tuple" := ⟨o, ho, hc⟩
  obtain ⟨n', rfl⟩ : ∃ n', n = n' + 1 := ⟨n - 1, by omega⟩
  unfold eqIsQuiet
  refine wpAny_bind (wpAny_specialOf hT PySem.F.slot_tuple_eq.lookup ?_)
  show wpAny (model prog w) A (isInstance (.ref a) (.type "tuple") >>= _) Q E s
  refine wpAny_bind (wpAny_isInstance hT PySem.isSubtype_tuple_tuple ?_)
  simp only [Bool.not_true, Bool.false_eq_true, if_false]
  refine wpAny_bind (wpAny_seqItems (M := model prog w) ho hd ?_)
  refine wpAny_bind ?_
  show wpAny (model prog w) A (forIn items _ _) _ E s
  rw [← Array.forIn_toList]
  refine wpAny_forIn_list _ (fun rest r s' => r.1 = none ∧ s' = s ∧ ∃ left, ItemsK kd s.heap left rest) _ ?_ ?_ _ _ ⟨rfl, rfl, l, hi⟩
  · rintro x rest r s' ⟨hr, rfl, left, hl⟩
    cases hl with
    | cons h1 hl' =>
      refine wpAny_bind (kd.quiet n' (by omega) h1 ?_)
      simp only [Bool.not_true, Bool.false_eq_true, if_false]
      exact wpAny_pure ⟨rfl, rfl, _, hl'⟩
  · rintro ⟨r1, r2⟩ s' ⟨hr, rfl, _⟩
    simp only at hr
    subst hr
    exact wpAny_pure h
def tupKd (kd : Kd prog w κ) : Kd prog w (List κ) where
  is := TupK kd
  hash := fun l => reduceHash (Builtin.Tuple.tupleHashOf (l.map kd.hash))
  draws := fun l => (l.map kd.draws).sum + 1
  lv := kd.lv + 1
  inj := by
    rintro h v x y ⟨a, o, items, n, rfl, ho, hc, hd, hi⟩ ⟨a', o', items', n', e, ho', hc', hd', hi'⟩
    injection e with e
    subst e
    rw [ho] at ho'
    injection ho' with ho'
    subst ho'
    rw [hd] at hd'
    injection hd' with e1 _
    subst e1
    exact items_inj hi hi'
  keeps := by
    rintro h h' k v d od es ep ⟨a, o, items, n, rfl, ho, hc, hd, hi⟩ hod hdd hs
    have hne : a ≠ d := by
      rintro rfl
      rw [ho] at hod
      injection hod with e
      subst e
      rw [hd] at hdd
      cases hdd
    exact ⟨a, o, items, n, rfl, (hs.2 a hne).trans ho, hc, hd, L2.Paired.mapP hi fun _ _ q => kd.keeps q hod hdd hs⟩
  hashes := fun hu hk h => tup_hash hu hk h
  equal := by
    rintro A s x y u v hu ⟨a, o, items, n, rfl, ho, hc, hd, hi⟩ ⟨a', o', items', n', rfl, ho', hc', hd', hi'⟩
    by_cases e : a = a'
    · subst e
      rw [ho] at ho'
      injection ho' with ho'
      subst ho'
      rw [hd] at hd'
      injection hd' with e1 _
      subst e1
      have := items_inj hi hi'
      subst this
      rw [decide_eq_true rfl]
      exact SeqAt.EqAt.same _
    · obtain ⟨f, h1, h2⟩ := items_eqs (A := A.in1) (by show A.units + 1 + kd.lv < cLine; omega) hi hi'
      have em : min items.size items'.size = min items.toList.length items'.toList.length := by simp
      have e2 : ((List.range (min items.size items'.size)).all f && items.size == items'.size) = decide (x = y) := by rw [em, ← h2]; simp
      rw [← e2]
      exact SeqAt.EqAt.of_refs e (SeqAt.RcAt.tuples ⟨o, ho, hc, n, hd⟩ ⟨o', ho', hc', n', hd'⟩ (by omega) fun j q1 q2 => h1 j (by simpa using q1) (by simpa using q2))
  quiet := fun n hn hk h => tup_quiet n hn hk h
end
end VK
namespace VK
open PySem PySem.Spec PyProof.Rows
section
variable {prog : Program} {w : World} {κ : Type} [DecidableEq κ]
theorem tup_istup {kd : Kd prog w κ} {h : Heap} {l : List κ} {v : Value} (hk : TupK kd h l v) : ∃ a items, v = .ref a ∧ IsTup h a items := by
  obtain ⟨a, o, items, n, e, ho, hc, hd, _⟩ := hk
  exact ⟨a, items, e, o, ho, hc, n, hd⟩
def orKd (kd : Kd prog w κ) : Kd prog w (Int ⊕ List κ) where
  is := fun h x v => match x with
    | .inl i => ∃ t, v = .int i t
    | .inr l => TupK kd h l v
  hash := fun x => match x with
    | .inl i => hashInt i
    | .inr l => (tupKd kd).hash l
  draws := fun x => match x with
    | .inl _ => 1
    | .inr l => (tupKd kd).draws l
  lv := kd.lv + 1
  inj := by
    rintro h v (x | x) (y | y) hx hy
    · exact congrArg Sum.inl ((intKd prog w).inj (h := h) hx hy)
    · obtain ⟨t, rfl⟩ := hx
      obtain ⟨a, items, e, _⟩ := tup_istup hy
      cases e
    · obtain ⟨t, rfl⟩ := hy
      obtain ⟨a, items, e, _⟩ := tup_istup hx
      cases e
    · exact congrArg Sum.inr ((tupKd kd).inj hx hy)
  keeps := by
    rintro h h' (x | x) v d o es ep hx ho hd hs
    · exact hx
    · exact (tupKd kd).keeps hx ho hd hs
  hashes := by
    rintro A E s (x | x) v Q hu hx h
    · obtain ⟨t, rfl⟩ := hx
      exact wpAny_pyHash_int h
    · exact (tupKd kd).hashes hu hx h
  equal := by
    rintro A s (x | x) (y | y) u v hu hx hy
    · have := (intKd prog w).equal (A := A) (s := s) (x := x) (y := y) (by show A.units + 0 < cLine; omega) hx hy
      have e : decide ((Sum.inl x : Int ⊕ List κ) = Sum.inl y) = decide (x = y) := by simp
      rw [e]
      exact this
    · obtain ⟨t, rfl⟩ := hx
      obtain ⟨a, items, rfl, hi⟩ := tup_istup hy
      have e : decide ((Sum.inl x : Int ⊕ List κ) = Sum.inr y) = false := by simp
      rw [e]
      exact SeqAt.EqAt.int_tuple x t hi (by omega)
    · obtain ⟨t, rfl⟩ := hy
      obtain ⟨a, items, rfl, hi⟩ := tup_istup hx
      have e : decide ((Sum.inr x : Int ⊕ List κ) = Sum.inl y) = false := by simp
      rw [e]
      exact SeqAt.EqAt.tuple_int y t hi (by omega)
    · have := (tupKd kd).equal (A := A) (s := s) (x := x) (y := y) hu hx hy
      have e : decide ((Sum.inr x : Int ⊕ List κ) = Sum.inr y) = decide (x = y) := by simp
      rw [e]
      exact this
  quiet := by
    rintro A E s (x | x) v Q n hn hx h
    · obtain ⟨t, rfl⟩ := hx
      rw [quiet_int]
      exact wpAny_pure h
    · exact (tupKd kd).quiet n hn hx h
def asHeapKind (kd : Kd prog w κ) (h8 : kd.lv + 1 ≤ 8) : HeapKind prog w (List κ) where
  is := fun h k a => TupK kd h k (.ref a)
  hash := (tupKd kd).hash
  draws := (tupKd kd).draws
  room := fun A => A.units + (kd.lv + 1) < cLine
  inj := fun hx hy => (tupKd kd).inj hx hy
  keeps := fun x ho hd hs => (tupKd kd).keeps x ho hd hs
  pyHash := fun hu hk h => (tupKd kd).hashes hu hk h
  eqBool := fun hu hx hy h => (tupKd kd).equal hu hx hy _ _ _ _ h
  quiet := fun hk h => (tupKd kd).quiet 8 h8 hk h
end
abbrev KW := List (Int ⊕ List Int)
abbrev KVer := List (Int ⊕ List KW)
def verItem (prog : Program) (w : World) : Kd prog w (Int ⊕ List KW) := orKd (tupKd (orKd (intKd prog w)))
def verKind (prog : Program) (w : World) : HeapKind prog w KVer := asHeapKind (verItem prog w) (by show 0 + 1 + 1 + 1 + 1 ≤ 8; decide)
open Rb19 (Word Version)
def encW : Word → KW
  | .num n => [.inl 0, .inl (n : Int), .inr []]
  | .text l => [.inl 1, .inl 0, .inr (l.map fun (n : Nat) => (n : Int))]
def encV (u : Version) : KVer := [.inl (u.a : Int), .inl (u.b : Int), .inl (u.c : Int), .inl (VM.flag u), .inr (u.pre.map encW)]
theorem ints_inj : ∀ {x y : List Nat}, (x.map fun (n : Nat) => (n : Int)) = (y.map fun (n : Nat) => (n : Int)) → x = y
  | [], [], _ => rfl
  | [], _ :: _, h => by cases h
  | _ :: _, [], h => by cases h
  | a :: x, b :: y, h => by
    have h1 : (a : Int) = (b : Int) := (List.cons.inj h).1
    have h2 := ints_inj (List.cons.inj h).2
    have h1 : a = b := by omega
    rw [h1, h2]
theorem encW_inj : ∀ {x y : Word}, encW x = encW y → x = y
  | .num n, .num m, h => by
    have h1 := (List.cons.inj (List.cons.inj h).2).1
    injection h1 with h1
    have h1 : n = m := by omega
    rw [h1]
  | .num n, .text m, h => by
    have h1 := (List.cons.inj h).1
    injection h1 with h1
    omega
  | .text n, .num m, h => by
    have h1 := (List.cons.inj h).1
    injection h1 with h1
    omega
  | .text n, .text m, h => by
    have h1 := (List.cons.inj (List.cons.inj (List.cons.inj h).2).2).1
    injection h1 with h1
    rw [ints_inj h1]
theorem encWs_inj : ∀ {x y : List Word}, x.map encW = y.map encW → x = y
  | [], [], _ => rfl
  | [], _ :: _, h => by cases h
  | _ :: _, [], h => by cases h
  | a :: x, b :: y, h => by rw [encW_inj (List.cons.inj h).1, encWs_inj (List.cons.inj h).2]
theorem encV_inj {u v : Version} (h : encV u = encV v) : u = v := by
  have h1 := (List.cons.inj h).1
  have h2 := (List.cons.inj (List.cons.inj h).2).1
  have h3 := (List.cons.inj (List.cons.inj (List.cons.inj h).2).2).1
  have h5 := (List.cons.inj (List.cons.inj (List.cons.inj (List.cons.inj (List.cons.inj h).2).2).2).2).1
  injection h1 with h1
  injection h2 with h2
  injection h3 with h3
  injection h5 with h5
  have h5 := encWs_inj h5
  cases u; cases v
  simp only at *
  have z1 := Int.ofNat.inj h1
  have z2 := Int.ofNat.inj h2
  have z3 := Int.ofNat.inj h3
  subst z1 z2 z3 h5
  rfl
open L2 VP
section
variable {P : Program} {w : World} {H : Hp} {h : Heap}
theorem tup_of {κ : Type} [DecidableEq κ] {kd : Kd P w κ} {a : Addr} {xs : List V} {ks : List κ} (ok : HOk P w H h) (e : H a = some (.tup xs)) (r : ∀ us, Vals xs us → ItemsK kd h ks us) : TupK kd h ks (.ref a) := by
  obtain ⟨_, its, q, o, h1, h2, n, h3⟩ := (show ObjOk P w H h a (.tup xs) from ok a _ e)
  exact ⟨a, o, its.toArray, n, rfl, h1, h2, h3, by simpa using r its q⟩
theorem items_bs : ∀ {l : List Nat} {us : List Value}, Vals (bs l) us → ItemsK (intKd P w) h (l.map fun (n : Nat) => (n : Int)) us
  | [], _, .nil => .nil
  | a :: l, _, .cons r t => .cons r (items_bs (l := l) t)
theorem word_key (ok : HOk P w H h) {v : V} {u : Value} : ∀ {wd : Word}, WordAt H v wd → RelV v u → TupK (orKd (intKd P w)) h (encW wd) u
  | .num n, ⟨a, e, h0, h1, h2⟩, r => by
    subst h0
    cases r
    have he : TupK (intKd P w) h [] (.ref e) := tup_of ok h2 fun us q => by cases q; exact .nil
    refine tup_of ok h1 fun us q => ?_
    cases q with
    | cons q1 q =>
    cases q with
    | cons q2 q =>
    cases q with
    | cons q3 q =>
    cases q
    cases q3
    exact .cons q1 (.cons q2 (.cons he .nil))
  | .text l, ⟨a, e, h0, h1, h2⟩, r => by
    subst h0
    cases r
    have he : TupK (intKd P w) h (l.map fun (n : Nat) => (n : Int)) (.ref e) := tup_of ok h2 fun us q => items_bs q
    refine tup_of ok h1 fun us q => ?_
    cases q with
    | cons q1 q =>
    cases q with
    | cons q2 q =>
    cases q with
    | cons q3 q =>
    cases q
    cases q3
    exact .cons q1 (.cons q2 (.cons he .nil))
theorem words_key (ok : HOk P w H h) : ∀ {vs : List V} {us : List Value} {ws : List Word}, Paired (WordAt H) vs ws → Vals vs us → ItemsK (tupKd (orKd (intKd P w))) h (ws.map encW) us
  | _, _, _, .nil, .nil => .nil
  | _, _, _, .cons r t, .cons q p => .cons (word_key ok r q) (words_key ok t p)
theorem ver_key (ok : HOk P w H h) {a : Addr} {u : Version} (hv : VerAt H (.ref a) u) : (verKind P w).is h (encV u) a := by
  obtain ⟨a', e, vs, h0, h1, h2, h3⟩ := hv
  cases h0
  have he : TupK (tupKd (orKd (intKd P w))) h (u.pre.map encW) (.ref e) := tup_of ok h2 fun us q => words_key ok h3 q
  refine tup_of (kd := verItem P w) ok h1 fun us q => ?_
  cases q with
  | cons q1 q =>
  cases q with
  | cons q2 q =>
  cases q with
  | cons q3 q =>
  cases q with
  | cons q4 q =>
  cases q with
  | cons q5 q =>
  cases q
  cases q5
  exact .cons q1 (.cons q2 (.cons q3 (.cons q4 (.cons he .nil))))
end
end VK
namespace VP
open PySem PySem.Spec PyProof.Rows L2 VO VM VK
open Rb19 (B Word Version)
abbrev VX := Version × Addr × Nat
def KVX : List VX → List (KVer × Addr × Value) → Prop := Paired fun x y => y.1 = encV x.1 ∧ y.2.1 = x.2.1 ∧ ∃ t, y.2.2 = Value.int (x.2.2 : Int) t
def DV (P : Program) (w : World) (a : Addr) (xs : List VX) : HO :=
  .ext fun h => (a == sysModules) = false ∧ xs.length ≤ sizeLine ∧ ∃ ys, KVX xs ys ∧ (ys.map (·.1)).Nodup ∧ ∃ o es ep, h.get? a = some o ∧ o.ExactDict ∧ o.data = .dict es ep ∧ es.toList = ys.map (entryOfKey (verKind P w))
def valX (xs : List VX) (u : Version) : Option Nat := (xs.find? fun x => decide (x.1 = u)).map fun x => x.2.2
def Keys (H : Hp) (xs : List VX) : Prop := ∀ x ∈ xs, VerAt H (.ref x.2.1) x.1
section
variable {P : Program} {w : World} {H : Hp} {h : Heap} {a : Addr} {xs : List VX}
theorem KVX.all {xs : List VX} {ys : List (KVer × Addr × Value)} (r : KVX xs ys) (ok : HOk P w H h) (k : Keys H xs) : ∀ y ∈ ys, (verKind P w).is h y.1 y.2.1 := by
  induction r with
  | nil => intro y hy; exact nomatch hy
  | @cons p q ps qs hq t ih =>
    intro y hy
    rcases List.mem_cons.mp hy with e | hy
    · subst e
      rw [hq.1, hq.2.1]
      exact ver_key ok (k p (List.mem_cons_self ..))
    · exact ih (fun x hx => k x (List.mem_cons_of_mem _ hx)) y hy
theorem dv_of (ok : HOk P w H h) (e : H a = some (DV P w a xs)) (k : Keys H xs) : (a == sysModules) = false ∧ xs.length ≤ sizeLine ∧ ∃ ys, KVX xs ys ∧ h.DictOfH (verKind P w) a ys := by
  obtain ⟨⟨h1, h2, ys, r, nd, o, es, ep, q1, q2, q3, q4⟩, _⟩ := (show ObjOk P w H h a (DV P w a xs) from ok a _ e)
  exact ⟨h1, h2, ys, r, o, es, ep, q1, q2, q3, q4, KVX.all r ok k, nd⟩
theorem dv_new {H' : Hp} {h' : Heap} {ys : List (KVer × Addr × Value)} (h1 : (a == sysModules) = false) (h2 : xs.length ≤ sizeLine) (r : KVX xs ys) (dd : h'.DictOfH (verKind P w) a ys) : ObjOk P w H' h' a (DV P w a xs) := by
  obtain ⟨o, es, ep, q1, q2, q3, q4, _, q5⟩ := dd
  refine ⟨⟨h1, h2, ys, r, q5, o, es, ep, q1, q2, q3, q4⟩, ⟨o, q1⟩, ?_⟩
  rintro h1' h2' ⟨z1, z2, ys', r', n', o', es', ep', p1, p2, p3, p4⟩ st
  exact ⟨z1, z2, ys', r', n', o', es', ep', st o' p1, p2, p3, p4⟩
theorem KVX.at {xs : List VX} {ys : List (KVer × Addr × Value)} (r : KVX xs ys) (u : Version) : RelO ((valX xs u).map fun (n : Nat) => V.int (n : Int)) ((atKey ys (encV u)).map (·.2)) := by
  induction r with
  | nil => exact True.intro
  | @cons p q ps qs hq t ih =>
    obtain ⟨h1, h2, tt, h3⟩ := hq
    by_cases e : p.1 = u
    · have e' : q.1 = encV u := by rw [h1, e]
      have b : atKey (q :: qs) (encV u) = some q.2 := by simp [atKey, List.find?_cons, e']
      have c : valX (p :: ps) u = some p.2.2 := by simp [valX, List.find?_cons, e]
      rw [b, c]
      exact ⟨tt, h3⟩
    · have e' : ¬ q.1 = encV u := fun z => e (encV_inj (h1.symm.trans z))
      have b : atKey (q :: qs) (encV u) = atKey qs (encV u) := by simp [atKey, List.find?_cons, e']
      have c : valX (p :: ps) u = valX ps u := by simp [valX, List.find?_cons, e]
      rw [b, c]
      exact ih
theorem KVX.snoc {xs : List VX} {ys : List (KVer × Addr × Value)} (r : KVX xs ys) {u : Version} {b : Addr} {n : Nat} {t : Tok} : KVX (xs ++ [(u, b, n)]) (ys ++ [(encV u, b, .int (n : Int) t)]) := Paired.snoc r ⟨rfl, rfl, t, rfl⟩
end
theorem ver_room {P : Program} {w : World} {A : Around} (hu : A.units + 64 < cLine) : (verKind P w).room A.in1 := by
  show A.units + 1 + 4 < cLine
  omega
section
variable {X : Cx} {pins : List (Addr × Obj)} {σ : L2.St} {H : Hp} {s : Shared} {a b : Addr} {xs : List VX} {u : Version} {A : Around} {E : Value → Shared → Prop}
theorem v_in {Q : Value → Shared → Prop} (hu : A.units + 64 < cLine) (I : Inv X pins σ H s) (e : H a = some (DV X.prog X.w a xs)) (k : Keys H xs) (hb : VerAt H (.ref b) u) (h : ∀ s', Inv X pins σ H s' → Q (.bool (valX xs u).isSome) s') :
    wpAny (model X.prog X.w) A (compareOp .In (.ref b) (.ref a)) Q E s := by
  obtain ⟨hd, z, ys, rel, dd⟩ := dv_of I.hok e k
  refine wpAny_in_heap (ver_room hu) (ver_key I.hok hb) hd dd ?_
  have q := (rel.at u).isSome_eq
  rw [Option.isSome_map, Option.isSome_map] at q
  rw [← q]
  exact h _ (I.tok _)
theorem v_get1 {Q : Value → Shared → Prop} (hu : A.units + 64 < cLine) (I : Inv X pins σ H s) (e : H a = some (DV X.prog X.w a xs)) (k : Keys H xs) (hb : VerAt H (.ref b) u)
    (h : ∀ w' s', Inv X pins σ H s' → RelV (((valX xs u).map fun (n : Nat) => V.int (n : Int)).getD .non) w' → Q w' s') : wpAny (model X.prog X.w) A (call (.builtin "dict.get") [.ref a, .ref b]) Q E s := by
  obtain ⟨hd, z, ys, rel, dd⟩ := dv_of I.hok e k
  refine call_meetsIn PySem.F.slot_dict_get dd.typeIs PySem.F.entry_dict_get (PySem.F.args_dict_get_2 _ _) (meetsH_dict_get (verKind X.prog X.w) a b hd) ⟨ver_room hu, encV u, ys, ver_key I.hok hb, dd, h _ _ (I.tok _) ?_⟩
  exact (rel.at u).getD rfl
theorem v_set {n : Nat} {t : Tok} {Q : Unit → Shared → Prop} (hu : A.units + 64 < cLine) (I : Inv X pins σ H s) (e : H a = some (DV X.prog X.w a xs)) (k : Keys H xs) (hb : VerAt H (.ref b) u) (hn : valX xs u = none) (hl : xs.length < sizeLine)
    (h : ∀ s', Inv X pins σ (upd H a (DV X.prog X.w a (xs ++ [(u, b, n)]))) s' → Q () s') : wpAny (model X.prog X.w) A (setItem (.ref a) (.ref b) (.int (n : Int) t)) Q E s := by
  obtain ⟨hd, z, ys, rel, dd⟩ := dv_of I.hok e k
  have hz : ys.length ≤ sizeLine := by rw [← Paired.length rel]; exact z
  have q := rel.at u
  rw [hn] at q
  have q2 : atKey ys (encV u) = none := by
    cases e : atKey ys (encV u) with
    | none => rfl
    | some p => rw [e] at q; exact q.elim
  refine wpAny_setItem_heap (hsz := hz) (ver_room hu) (ver_key I.hok hb) dd fun h' dd' hs => h _ ?_
  rw [storedH_new q2] at dd'
  have he : ∃ q, h'.get? a = some q := let ⟨q, _, _, hq, _⟩ := dd'; ⟨q, hq⟩
  exact d_write I (by rw [e]; exact True.intro) hs he (dv_new hd (by rw [List.length_append]; show xs.length + 1 ≤ _; omega) rel.snoc dd')
end
def tVIn (P : Program) (w : World) (ty td : TE) : TE := fun σ H Q => ty σ H fun y H1 => td σ H1 fun x H2 => ∃ a b u xs, x = .ref a ∧ y = .ref b ∧ H2 a = some (DV P w a xs) ∧ Keys H2 xs ∧ VerAt H2 (.ref b) u ∧ Q (.bl (valX xs u).isSome) H2
def tVGet1 (P : Program) (w : World) (td ty : TE) : TE := fun σ H Q => td σ H fun x H1 => ∃ a xs1, x = .ref a ∧ H1 a = some (DV P w a xs1) ∧ Keys H1 xs1 ∧ ty σ H1 fun y H2 => ∃ b u xs, y = .ref b ∧ H2 a = some (DV P w a xs) ∧ Keys H2 xs ∧ VerAt H2 (.ref b) u ∧
  Q (((valX xs u).map fun (n : Nat) => V.int (n : Int)).getD .non) H2
def sVPut (P : Program) (w : World) (td ty tv : TE) : TS := fun D σ H => tv σ H fun v H1 => td σ H1 fun x H2 => ty σ H2 fun y H3 => ∃ a b u xs, ∃ n : Nat, x = .ref a ∧ y = .ref b ∧ v = .int (n : Int) ∧ H3 a = some (DV P w a xs) ∧ Keys H3 xs ∧ VerAt H3 (.ref b) u ∧
  valX xs u = none ∧ xs.length < sizeLine ∧ D.nx σ (upd H3 a (DV P w a (xs ++ [(u, b, n)])))
def tVNew (P : Program) (w : World) : TE := fun _ H Q => ∀ p, H p = none → Q (.ref p) (upd H p (DV P w p []))
section
variable {X : Cx} {o i e value : Expr} {pos pos' tpos apos cpos : Pos} {td ty tv : TE}
theorem pc_vin (hu : X.A.units + 64 < cLine) (hi : PE X i ty) (ho : PE X o td) : PC X .In i o (tVIn X.prog X.w ty td) := by
  intro pins s σ H Q I h
  refine thn (hi pins s σ H _ I h) fun iv s1 ⟨y, H1, I1, ry, q1⟩ => thn (ho pins s1 σ H1 _ I1 q1) fun u s2 ⟨x, H2, I2, rx, a, b, v, xs, ex, ey, e, k, hb, q2⟩ => ?_
  subst ex ey
  obtain rfl : u = Value.ref a := rx
  obtain rfl : iv = Value.ref b := ry
  exact v_in hu I2 e k hb fun s3 I3 => ⟨.bl (valX xs v).isSome, H2, I3, rfl, q2⟩
theorem pe_vget1 (hu : X.A.units + 64 < cLine) (ho : PE X o td) (he : PE X e ty) (m : M1 X o "get" apos e cpos) : PE X (.Call (.Attribute o "get" apos) [e] [] cpos) (tVGet1 X.prog X.w td ty) := by
  intro pins s σ H Q I h
  refine wpAny_Call_method m.base m.few m.line PySem.F.plainAttrs_dict PySem.F.slot_dict_get PySem.F.type_dict_get (thn (ho pins s σ H _ I h) fun u s1 ⟨x, H1, I1, rx, a, xs1, ex, e1, k1, q1⟩ => ?_)
  subst ex
  obtain rfl : u = Value.ref a := rx
  obtain ⟨hd, _, ys, _, dd⟩ := dv_of I1.hok e1 k1
  refine ⟨dd.typeIs, fun b q => ?_, ?_⟩
  · cases q
    obtain ⟨ob, _, _, h1, h2, _⟩ := dd
    exact ⟨ob, h1, h2.2.1⟩
  rw [m.trees]
  refine Calls.callWith_builtin rfl (Calls.evalArgs_plain (Calls.spliced_cons (thn (he pins s1 σ H1 _ I1 q1) fun iv s2 ⟨y, H2, I2, ry, b, v, xs, ey, e2, k2, hb, q2⟩ => Calls.spliced_nil ?_)))
  subst ey
  obtain rfl : iv = Value.ref b := ry
  exact v_get1 hu I2 e2 k2 hb fun w' s3 I3 rw' => ⟨_, H2, I3, rw', q2⟩
theorem ps_vput (hu : X.A.units + 64 < cLine) (ho : PE X o td) (hi : PE X i ty) (hv : PE X value tv) (hs : swapsWith value (some (.Subscript o i pos')) pos.line X.env = pure false) :
    PS X (.Assign [.Subscript o i pos'] value pos) (sVPut X.prog X.w td ty tv) := by
  intro pins s σ H D I h
  refine wpAny_Assign_Subscript (thn (hv pins s σ H _ I h) fun r s1 ⟨v, H1, I1, rv, q1⟩ => thn (ho pins s1 σ H1 _ I1 q1) fun u s2 ⟨x, H2, I2, rx, q2⟩ => thn (hi pins s2 σ H2 _ I2 q2) fun iv s3 ⟨y, H3, I3, ry, a, b, z, xs, n, ex, ey, ev, e, k, hb, hn, hl, q3⟩ => ?_) hs
  subst ex ey ev
  obtain rfl : u = Value.ref a := rx
  obtain rfl : iv = Value.ref b := ry
  obtain ⟨t, rfl⟩ := (show ∃ t, r = Value.int (n : Int) t from rv)
  exact v_set hu I3 e k hb hn hl fun s4 I4 => ⟨σ, _, I4, q3⟩
theorem pe_vnew : PE X (.Dict [] [] pos) (tVNew X.prog X.w) := fun pins s σ H Q I h =>
  wpAny_Dict_empty ⟨.ref s.heap.objs.size, _, I.laid (a := s.heap.objs.size) (o := DV X.prog X.w s.heap.objs.size []) (t' := s.toks) (fun _ _ q => Heap.get?_push_of_some _ q) (Nat.le_refl _)
    (dv_new (ys := []) (beq_eq_false_iff_ne.mpr (Ne.symm (Nat.ne_of_lt I.big))) (Nat.zero_le _) .nil ⟨_, #[], 0, Heap.get?_push_size _ rfl, ⟨rfl, rfl, rfl⟩, rfl, rfl, (fun _ hx => nomatch hx), List.nodup_nil⟩), rfl, h _ (I.hok.fresh (Nat.le_refl _))⟩
end
end VP
namespace VP
open PySem PySem.W PyProof.Rows
def Ok (lt : Nat → Nat → Bool) (n : Nat) {α : Type} : KasT α → (α → Prop) → Prop
  | .ret a, Q => Q a
  | .ask i j k, Q => i < n ∧ j < n ∧ Ok lt n (k (lt i j)) Q
section
variable {lt : Nat → Nat → Bool} {n : Nat}
theorem Ok.bind {α β : Type} {f : α → KasT β} {Q : β → Prop} : ∀ {t : KasT α}, Ok lt n t (fun a => Ok lt n (f a) Q) → Ok lt n (t.bind f) Q
  | .ret _, h => h
  | .ask _ _ _, ⟨h1, h2, h3⟩ => ⟨h1, h2, Ok.bind h3⟩
theorem Ok.imp {α : Type} {Q Q' : α → Prop} (f : ∀ a, Q a → Q' a) : ∀ {t : KasT α}, Ok lt n t Q → Ok lt n t Q'
  | .ret a, h => f a h
  | .ask _ _ _, ⟨h1, h2, h3⟩ => ⟨h1, h2, Ok.imp f h3⟩
theorem Ok.wp {α : Type} {cmp : Nat → Nat → (Bool → Shared → Prop) → Shared → Prop} {s : Shared} (hc : ∀ i j C, i < n → j < n → C (lt i j) s → cmp i j C s) {Q : α → Prop} : ∀ {t : KasT α}, Ok lt n t Q → t.kasWp cmp (fun a s' => s' = s ∧ Q a) s
  | .ret _, h => ⟨rfl, h⟩
  | .ask i j k, ⟨h1, h2, h3⟩ => hc i j _ h1 h2 (Ok.wp hc h3)
structure Total (lt : Nat → Nat → Bool) (n : Nat) : Prop where
  trans : ∀ i j k, lt i j = true → lt j k = true → lt i k = true
  conn : ∀ i j, i < n → j < n → i ≠ j → lt i j = false → lt j i = true
  asym : ∀ i j, lt i j = true → lt j i = false
abbrev q (p : Array Nat) (i : Nat) : Nat := p.getD i 0
theorem q_eq (p : Array Nat) (i : Nat) : q p i = (p[i]?).getD 0 := Array.getD_eq_getD_getElem? ..
structure Nums (n : Nat) (p : Array Nat) : Prop where
  size : p.size = n
  perm : p.toList.Perm (List.range n)
theorem Nums.blw {p : Array Nat} (o : Nums n p) {i : Nat} (hi : i < n) : q p i < n := by
  have h : i < p.size := by rw [o.size]; exact hi
  have hm : p[i] ∈ p.toList := by simp
  rw [q_eq, Array.getElem?_eq_getElem h]
  exact List.mem_range.mp (o.perm.mem_iff.mp hm)
theorem Nums.ne {p : Array Nat} (o : Nums n p) {i j : Nat} (hi : i < n) (hj : j < n) (hij : i ≠ j) : q p i ≠ q p j := by
  have h1 : i < p.size := by rw [o.size]; exact hi
  have h2 : j < p.size := by rw [o.size]; exact hj
  have nd : p.toList.Nodup := o.perm.nodup_iff.mpr List.nodup_range
  rw [q_eq, q_eq, Array.getElem?_eq_getElem h1, Array.getElem?_eq_getElem h2]
  show p[i] ≠ p[j]
  intro e
  apply hij
  have h1' : i < p.toList.length := by simpa using h1
  have h2' : j < p.toList.length := by simpa using h2
  exact (List.getElem_inj nd (h₀ := h1') (h₁ := h2')).mp (by simpa using e)
theorem Nums.of {p p' : Array Nat} (o : Nums n p) (h : p'.Perm p) : Nums n p' := ⟨by rw [h.size_eq]; exact o.size, (Array.perm_iff_toList_perm.mp h).trans o.perm⟩
def Up (lt : Nat → Nat → Bool) (p : Array Nat) (k : Nat) : Prop := ∀ i j, i < j → j < k → lt (q p i) (q p j) = true
def Dn (lt : Nat → Nat → Bool) (p : Array Nat) (k : Nat) : Prop := ∀ i j, i < j → j < k → lt (q p j) (q p i) = true
theorem Up.snoc {p : Array Nat} {k : Nat} (T : Total lt n) (u : Up lt p k) (hk : 1 ≤ k) (h : lt (q p (k - 1)) (q p k) = true) : Up lt p (k + 1) := fun i j hij hj => by
  by_cases e : j = k
  · subst e
    by_cases e2 : i = j - 1
    · rw [e2]; exact h
    · exact T.trans _ _ _ (u i (j - 1) (by omega) (by omega)) h
  · exact u i j hij (by omega)
theorem Dn.snoc {p : Array Nat} {k : Nat} (T : Total lt n) (u : Dn lt p k) (hk : 1 ≤ k) (h : lt (q p k) (q p (k - 1)) = true) : Dn lt p (k + 1) := fun i j hij hj => by
  by_cases e : j = k
  · subst e
    by_cases e2 : i = j - 1
    · rw [e2]; exact h
    · exact T.trans _ _ _ h (u i (j - 1) (by omega) (by omega))
  · exact u i j hij (by omega)
theorem asc_ok (T : Total lt n) {p : Array Nat} (o : Nums n p) : ∀ (f m : Nat), 1 ≤ m → m + f ≤ n → Up lt p m → Ok lt n (kas_asc p f m) fun r => m ≤ r ∧ r ≤ m + f ∧ Up lt p r ∧ (r = m + f ∨ lt (q p r) (q p (r - 1)) = true)
  | 0, m, h1, h2, u => ⟨Nat.le_refl _, Nat.le_refl _, u, .inl rfl⟩
  | f + 1, m, h1, h2, u => by
    refine ⟨o.blw (by omega), o.blw (by omega), ?_⟩
    cases c : lt (q p m) (q p (m - 1)) with
    | true => exact ⟨Nat.le_refl _, by omega, u, .inr c⟩
    | false =>
      show Ok lt n (kas_asc p f (m + 1)) _
      have h := T.conn _ _ (o.blw (by omega)) (o.blw (by omega)) (o.ne (i := m) (j := m - 1) (by omega) (by omega) (by omega)) c
      exact (asc_ok T o f (m + 1) (by omega) (by omega) (u.snoc T h1 h)).imp fun r ⟨a, b, c, d⟩ => ⟨by omega, by omega, c, d.imp (fun z => by omega) id⟩
theorem desc_ok (T : Total lt n) {p : Array Nat} (o : Nums n p) : ∀ (f m : Nat), 1 ≤ m → m + f ≤ n → Dn lt p m → Ok lt n (kas_desc f p m 0) fun r => r.1 = p ∧ r.2.2 = 0 ∧ m ≤ r.2.1 ∧ r.2.1 ≤ m + f ∧ Dn lt p r.2.1
  | 0, m, h1, h2, u => ⟨rfl, rfl, Nat.le_refl _, Nat.le_refl _, u⟩
  | f + 1, m, h1, h2, u => by
    refine ⟨o.blw (by omega), o.blw (by omega), ?_⟩
    cases c : lt (q p m) (q p (m - 1)) with
    | true =>
      show Ok lt n (kas_desc f p (m + 1) 0) _
      exact (desc_ok T o f (m + 1) (by omega) (by omega) (u.snoc T h1 c)).imp fun r ⟨a, b, c, d, e⟩ => ⟨a, b, by omega, by omega, e⟩
    | false =>
      have h := T.conn _ _ (o.blw (by omega)) (o.blw (by omega)) (o.ne (i := m) (j := m - 1) (by omega) (by omega) (by omega)) c
      refine ⟨o.blw (by omega), o.blw (by omega), ?_⟩
      have h' : lt (p.getD (m - 1) 0) (p.getD m 0) = true := h
      rw [h']
      exact ⟨rfl, rfl, Nat.le_refl _, Nat.le_add_right _ _, u⟩
theorem rev_up {p : Array Nat} (o : Nums n p) {m : Nat} (hm : m ≤ n) (u : Dn lt p m) : Up lt (kas_rev p 0 m) m := fun i j hij hj => by
  have e : ∀ k, k < m → q (kas_rev p 0 m) k = q p (m - 1 - k) := fun k hk => by
    rw [q_eq, q_eq]
    unfold kas_rev
    rw [getElem?_mirror_all (by rw [o.size]; exact hm), if_pos ⟨Nat.zero_le _, hk⟩, Nat.zero_add]
  rw [e i (by omega), e j hj]
  exact u (m - 1 - j) (m - 1 - i) (by omega) (by omega)
theorem count_ok (T : Total lt n) (h1 : 1 ≤ n) {p : Array Nat} (o : Nums n p) : Ok lt n (kas_count n p) fun r => Nums n r.2 ∧ 1 ≤ r.1 ∧ r.1 ≤ n ∧ Up lt r.2 r.1 := by
  unfold kas_count
  refine Ok.bind ((asc_ok T o (n - 1) 1 (Nat.le_refl _) (by omega) (fun i j _ _ => by omega)).imp fun m ⟨a, b, u, c⟩ => ?_)
  by_cases e : m = n
  · have e' : (m == n) = true := by simp [e]
    rw [if_pos e']
    exact ⟨o, a, by omega, u⟩
  · have e' : ¬ (m == n) = true := by simp [e]
    rw [if_neg e']
    by_cases hm : m > 1
    · rw [if_pos hm]
      refine ⟨o.blw (by omega), o.blw (by omega), ?_⟩
      have z : lt (p.getD 0 0) (p.getD (m - 1) 0) = true := u 0 (m - 1) (by omega) (by omega)
      rw [z]
      exact ⟨o, a, by omega, u⟩
    · rw [if_neg hm]
      have hm1 : m = 1 := by omega
      subst hm1
      have z : lt (q p 1) (q p 0) = true := by
        rcases c with c | c
        · omega
        · exact c
      unfold kas_descPart
      refine Ok.bind ((desc_ok T o (n - 2) 2 (by omega) (by omega) (fun i j hij hj => ?_)).imp fun r ⟨b1, b2, b3, b4, b5⟩ => ?_)
      · have : i = 0 := by omega
        have : j = 1 := by omega
        subst i j
        exact z
      · obtain ⟨r1, r2, r3⟩ := r
        simp only at b1 b2 b3 b4 b5 ⊢
        subst b1 b2
        rw [if_neg (by omega)]
        unfold kas_tail3
        have o2 : Nums n (kas_rev r1 0 r2) := o.of (mirror_perm _ _ _ _)
        exact Ok.bind ((asc_ok T o2 (n - r2) r2 (by omega) (by omega) (rev_up o (by omega) b5)).imp fun m' ⟨c1, c2, c3, _⟩ => ⟨o2, by show 1 ≤ m'; omega, by show m' ≤ n; omega, c3⟩)
theorem place_ok (T : Total lt n) {p : Array Nat} (o : Nums n p) {k : Nat} (hk : k < n) (u : Up lt p k) : ∀ (f l r : Nat), l ≤ r → r ≤ k → r ≤ l + f → (∀ i, i < l → lt (q p i) (q p k) = true) → (∀ i, r ≤ i → i < k → lt (q p k) (q p i) = true) →
    Ok lt n (kas_place p k f l r) fun l' => l' ≤ k ∧ (∀ i, i < l' → lt (q p i) (q p k) = true) ∧ ∀ i, l' ≤ i → i < k → lt (q p k) (q p i) = true
  | 0, l, r, h1, h2, h3, a, b => ⟨by omega, a, fun i hi hk => b i (by omega) hk⟩
  | f + 1, l, r, h1, h2, h3, a, b => by
    unfold kas_place
    by_cases e : l ≥ r
    · rw [if_pos e]
      exact ⟨by omega, a, fun i hi hk => b i (by omega) hk⟩
    · rw [if_neg e]
      have hm : (l + r) / 2 < r := by omega
      have hm2 : l ≤ (l + r) / 2 := by omega
      refine ⟨o.blw hk, o.blw (by omega), ?_⟩
      cases c : lt (q p k) (q p ((l + r) / 2)) with
      | true =>
        show Ok lt n (kas_place p k f l ((l + r) / 2)) _
        refine place_ok T o hk u f l _ hm2 (by omega) (by omega) a fun i hi hik => ?_
        by_cases e2 : i = (l + r) / 2
        · rw [e2]; exact c
        · exact T.trans _ _ _ c (u _ i (by omega) hik)
      | false =>
        show Ok lt n (kas_place p k f ((l + r) / 2 + 1) r) _
        have h := T.conn _ _ (o.blw hk) (o.blw (by omega)) (o.ne (i := k) (j := (l + r) / 2) (by omega) (by omega) (by omega)) c
        refine place_ok T o hk u f _ r (by omega) h2 (by omega) (fun i hi => ?_) b
        by_cases e2 : i = (l + r) / 2
        · rw [e2]; exact h
        · exact T.trans _ _ _ (u i _ (by omega) (by omega)) h
theorem bubble_up (T : Total lt n) {p : Array Nat} (o : Nums n p) {k l : Nat} (hk : k < n) (hl : l ≤ k) (u : Up lt p k) (a : ∀ i, i < l → lt (q p i) (q p k) = true) (b : ∀ i, l ≤ i → i < k → lt (q p k) (q p i) = true) : Up lt (bubble p k (k - l)) (k + 1) := fun i j hij hj => by
  have e : ∀ x, q (bubble p k (k - l)) x = if x = l then q p k else if l < x ∧ x ≤ k then q p (x - 1) else q p x := fun x => by
    rw [q_eq, getElem?_bubble (by rw [o.size]; exact hk) (k - l) (by omega), show k - (k - l) = l by omega]
    split
    · rw [q_eq]
    · split <;> rw [q_eq]
  rw [e i, e j]
  by_cases i1 : i = l
  · rw [if_pos i1, if_neg (by omega), if_pos (by omega)]
    exact b _ (by omega) (by omega)
  · rw [if_neg i1]
    by_cases i2 : l < i ∧ i ≤ k
    · rw [if_pos i2, if_neg (by omega), if_pos (by omega)]
      exact u _ _ (by omega) (by omega)
    · rw [if_neg i2]
      by_cases j1 : j = l
      · rw [if_pos j1]
        exact a _ (by omega)
      · rw [if_neg j1]
        by_cases j2 : l < j ∧ j ≤ k
        · rw [if_pos j2]
          exact u _ _ (by omega) (by omega)
        · rw [if_neg j2]
          exact u _ _ (by omega) (by omega)
theorem bin_ok (T : Total lt n) : ∀ (f : Nat) (p : Array Nat) (k : Nat), Nums n p → k + f = n → Up lt p k → Ok lt n (kas_bin f p k) fun p' => Nums n p' ∧ Up lt p' n
  | 0, p, k, o, h, u => ⟨o, by rw [← h]; exact u⟩
  | f + 1, p, k, o, h, u => by
    show Ok lt n ((kas_place p k k 0 k).bind fun l => kas_bin f (bubble p k (k - l)) (k + 1)) _
    refine Ok.bind ((place_ok T o (by omega) u k 0 k (Nat.zero_le _) (Nat.le_refl _) (by omega) (fun i hi => by omega) (fun i hi hk => by omega)).imp fun l ⟨a, b, c⟩ => ?_)
    exact bin_ok T f _ (k + 1) (o.of (bubble_perm _ _ _)) (by omega) (bubble_up T o (by omega) a u b c)
theorem sort_ok (T : Total lt n) (h1 : 1 ≤ n) : Ok lt n (kas_sort n) fun p => Nums n p ∧ Up lt p n := by
  unfold kas_sort
  have o : Nums n (List.toArray (List.range n)) := ⟨by simp, by simp⟩
  refine Ok.bind ((count_ok T h1 o).imp fun r ⟨a, b, c, d⟩ => ?_)
  by_cases e : r.1 < n
  · rw [if_pos e, show max r.1 1 = r.1 by omega]
    exact bin_ok T _ _ _ a (by omega) d
  · rw [if_neg e]
    have : r.1 = n := by omega
    rw [this] at d
    exact ⟨a, d⟩
end
end VP
namespace VP
open PySem PySem.Spec PyProof.Rows L2 VO VM PySem.W
open Rb19 (B Word Version)
section
variable {X : Cx} {pins : List (Addr × Obj)} {σ : L2.St} {H : Hp} {s : Shared} {A : Around} {E : Value → Shared → Prop}
theorem cmpz_ver (I : Inv X pins σ H s) (hu : A.units + 8 < cLine) {x y : Version} {e e' : Addr} {vs vs' : List V} {us us' : List Value} (h2 : H e = some (.tup vs)) (h3 : Paired (WordAt H) vs x.pre) (h2' : H e' = some (.tup vs')) (h3' : Paired (WordAt H) vs' y.pre)
    (r : Vals [.int (x.a : Int), .int (x.b : Int), .int (x.c : Int), .int (flag x), .ref e] us) (r' : Vals [.int (y.a : Int), .int (y.b : Int), .int (y.c : Int), .int (flag y), .ref e'] us') :
    CmpZ A s us us' [ordI x.a y.a, ordI x.b y.b, ordI x.c y.c, ordI (flag x) (flag y), lexL ordW x.pre y.pre] := by
  have ee : CmpA A s (.ref e) (.ref e') (lexL ordW x.pre y.pre) := by
    have k := cmp_tupV (A := A) (os := List.zipWith ordW x.pre y.pre) I h2 h2' (by omega) (fun us us' r r' => cmpZ_of (f := ordW) (R := WordAt H) (fun v n v' m u u' h1 h2 q1 q2 => cmp_word (A := A.in1) I (by show A.units + 1 + 4 < cLine; omega) _ _ _ _ _ _ h1 h2 q1 q2) h3 h3' r r') (fun z => by
      subst z
      rw [h2] at h2'
      injection h2' with h2'
      injection h2' with h2'
      subst h2'
      have e := paired_inj (R := WordAt H) (fun _ _ _ => WordAt.inj) h3 h3'
      rw [← e, paired_len h3]
      exact (lexL_eq ordW_eq _ _).mpr rfl)
    rw [paired_len h3, paired_len h3'] at k
    exact k
  cases r with
  | cons q1 r =>
  cases r with
  | cons q2 r =>
  cases r' with
  | cons q1' r' =>
  cases r' with
  | cons q2' r' =>
  exact .cons (cmpI _ _ _ _ q1 q1') (.cons (cmpI _ _ _ _ q2 q2') (cmp_int3 (cmpI _ _) (cmpI _ _) (cmpR ee) r r'))
def lexB : List Ordering → Bool → Bool
  | [], f => f
  | .eq :: os, f => lexB os f
  | .lt :: _, _ => true
  | .gt :: _, _ => false
theorem kat_rest {P : Program} {w : World} {fin : Bool} {Q : Bool → Shared → Prop} : ∀ {xs ys : List Value} {os : List Ordering} (i : Nat), 0 < i → CmpZ A s xs ys os → Q (lexB os fin) s → KatLex P w A true fin Q (xs.zip ys) i s
  | _, _, _, i, hi, .nl ys, h => by
    rw [List.zip_nil_left]
    exact kat_nil h
  | _, _, _, i, hi, .nr xs, h => by
    rw [List.zip_nil_right]
    exact kat_nil h
  | _, _, _, i, hi, .cons (o := o) c z, h => by
    rw [List.zip_cons_cons]
    refine kat_cons (c.eq P w _ _ ?_)
    have e0 : (true && i == 0) = false := by
      have : ¬ i = 0 := by omega
      simp [this]
    cases o with
    | eq => exact kat_yes (kat_rest (i + 1) (by omega) z h)
    | lt => exact kat_no (by rw [e0]; exact kat_one _ _ (c.rc .Lt (.inl rfl) P w _ _ h))
    | gt => exact kat_no (by rw [e0]; exact kat_one _ _ (c.rc .Lt (.inl rfl) P w _ _ h))
theorem lexB_lt : ∀ (os : List Ordering) (n m : Nat), lexB os (decide (n < m)) = (lexO os n m == .lt)
  | [], n, m => by
    unfold lexB lexO
    by_cases h : n < m
    · simp [h]
    · by_cases h2 : n = m <;> simp [h, h2]
  | .eq :: os, n, m => by
    show lexB os _ = (lexO os n m == .lt)
    exact lexB_lt os n m
  | .lt :: os, n, m => rfl
  | .gt :: os, n, m => rfl
theorem ver_lt (I : Inv X pins σ H s) (hu : A.units + 8 < cLine) {x y : Version} {a b : Addr} (h : VerAt H (.ref a) x) (h' : VerAt H (.ref b) y) {Q : Bool → Shared → Prop} (q : Q (Rb19.less x y) s) :
    wpAny (model X.prog X.w) A (keyLt' (tuples' true) (.ref a) (.ref b)) Q E s := by
  obtain ⟨a0, e, vs, e0, h1, h2, h3⟩ := h
  cases e0
  obtain ⟨b0, e', vs', e0', h1', h2', h3'⟩ := h'
  cases e0'
  obtain ⟨its, r, ⟨oa, ga, ca, na, da⟩, _⟩ := I.tuple (SqT.of (K := X.K) h1)
  obtain ⟨its', r', ⟨ob, gb, cb, nb, db⟩, _⟩ := I.tuple (SqT.of (K := X.K) h1')
  have z := cmpz_ver (A := A) I hu h2 h3 h2' h3' r r'
  have l1 : its.length = 5 := by rw [← r.length]; rfl
  have l2 : its'.length = 5 := by rw [← r'.length]; rfl
  refine kat_lt ga da gb db ?_
  have ef : decide (its.toArray.size < its'.toArray.size) = decide (5 < 5) := by simp [l1, l2]
  rw [ef]
  have eq : Rb19.less x y = lexB [ordI x.a y.a, ordI x.b y.b, ordI x.c y.c, ordI (flag x) (flag y), lexL ordW x.pre y.pre] (decide (5 < 5)) := by
    rw [lexB_lt, less_ord]
    rfl
  rw [eq] at q
  show KatLex _ _ _ _ _ _ (its.zip its') 0 s
  cases r with
  | cons q1 r =>
  cases r' with
  | cons q1' r' =>
  obtain ⟨t1, rfl⟩ := q1
  obtain ⟨t1', rfl⟩ := q1'
  cases z with
  | cons c z =>
  rw [List.zip_cons_cons]
  refine kat_cons (c.eq _ _ _ _ ?_)
  revert q c
  unfold ordI
  by_cases g1 : (x.a : Int) < y.a
  · rw [if_pos g1]
    intro q c
    exact kat_no (oneLt_int (by rw [decide_eq_true g1]; exact q))
  · rw [if_neg g1]
    by_cases g2 : (x.a : Int) = y.a
    · rw [if_pos g2]
      intro q c
      exact kat_yes (kat_rest 1 (by omega) z q)
    · rw [if_neg g2]
      intro q c
      exact kat_no (oneLt_int (by rw [decide_eq_false g1]; exact q))
end
abbrev Kp (h0 h : Heap) : Prop := ∀ b o, h0.get? b = some o → h.get? b = some o
def Turn1 (P : Program) (w : World) (A : Around) (s0 : Shared) (f : Value) (n : Nat) (tv : Nat → Addr) : Prop :=
  ∀ (j : Nat) (t : Tok) (h : Heap) (tk : Nat), j < n → Kp s0.heap h → wpAny (model P w) A (call f [.int (j : Int) t]) (fun v s' => v = .ref (tv j) ∧ ∃ h' tk', s' = { s0 with heap := h', toks := tk' } ∧ Kp h h') (fun _ _ => False) { s0 with heap := h, toks := tk }
structure Late (us : Nat → Version) (n : Nat) (ns : List Nat) : Prop where
  perm : ns.Perm (List.range n)
  desc : ns.Pairwise fun i j => Rb19.less (us j) (us i) = true
section
variable {X : Cx} {pins : List (Addr × Obj)} {σ : L2.St} {H : Hp} {s0 : Shared} {A : Around} {E : Value → Shared → Prop} {n : Nat} {tv : Nat → Addr} {us : Nat → Version} {vs : List Value} {P : PySem.Fin → Shared → Prop} {a kS : Addr}
theorem Kp.upd {h0 h : Heap} {a : Addr} {f : Obj → Obj} (k : Kp h0 h) (ha : h0.objs.size ≤ a) : Kp h0 (h.update a f) := fun b o e =>
  ((Heap.SameBut.update h a f).2 b (Nat.ne_of_lt (Nat.lt_of_lt_of_le (Heap.lt_size e) ha))).trans (k b o e)
theorem Kp.push {h0 h : Heap} (k : Kp h0 h) (o : Obj) : Kp h0 (h.push o) := fun b u e => Heap.get?_push_of_some _ (k b u e)
theorem Kp.refl (h : Heap) : Kp h h := fun _ _ e => e
theorem Kp.trans {h1 h2 h3 : Heap} (a : Kp h1 h2) (b : Kp h2 h3) : Kp h1 h3 := fun c o e => b c o (a c o e)
theorem vs_tail {st : SortSt} {h : Heap} {tk : Nat} {kA : Array Value} {e e1 : Nat} (hk : Kp s0.heap h) (gS : h.get? kS = some (seqObj "list" kA e)) (ga : h.get? a = some (seqObj "list" #[] e1)) (hka : kS ≠ a) (fS : s0.heap.objs.size ≤ kS) (fa : s0.heap.objs.size ≤ a)
    (z1 : kA.size ≤ 64) (z2 : (arrOf st).size ≤ 64) (hf : failedOf st = none)
    (fin : ∀ h' tk' c, Kp s0.heap h' → h'.get? a = some (seqObj "list" ((arrOf st).map (·.2)).reverse c) → P (.done (.ret .none)) { s0 with heap := h', toks := tk' }) :
    wpAny (model X.prog X.w) A (ksk_tail a true e1 (.ref kS) st) P E { s0 with heap := h, toks := tk } := by
  have big : 64 ≤ sizeLine := by decide
  have g1 : (h.update kS (Obj.mapSeq fun _ => (#[] : Array Value))).get? a = some (seqObj "list" #[] e1) := ((Heap.SameBut.update h kS _).2 a hka.symm).trans ga
  unfold ksk_tail
  refine wpAny_bind (listUpdate_at (o := seqObj "list" kA e) gS rfl ?_ (Nat.le_trans z1 big) (Nat.zero_le _))
  refine wpAny_bind (wpAny_letGo (wpAny_bind (seqEpoch_at (o := seqObj "list" #[] e1) g1 rfl ?_)))
  refine wpAny_bind (listUpdate_at (o := seqObj "list" #[] e1) g1 rfl ?_ (Nat.zero_le _) ?_)
  · rw [hf]
    simp only [bne_self_eq_false, Bool.false_eq_true, if_false, if_true]
    have g2 := get?_update_seq g1 fun _ => ((arrOf st).map (·.2)).reverse
    have k2 := (hk.upd (f := Obj.mapSeq fun _ => (#[] : Array Value)) fS).upd (f := Obj.mapSeq fun _ => ((arrOf st).map (·.2)).reverse) fa
    refine wpAny_pure ?_
    exact fin _ _ _ k2 g2
  · show ((arrOf st).map (·.2)).reverse.size ≤ _
    rw [Array.size_reverse, Array.size_map]
    omega
theorem vs_run (I : Inv X pins σ H s0) (hu : A.units + 8 < cLine) (hv : ∀ j, j < n → VerAt H (.ref (tv j)) (us j)) (hinj : ∀ i j, i < n → j < n → us i = us j → i = j) (hn : n < 64) (h2 : 2 ≤ n) {it : Array Keyed} (hit : it.size = n)
    (hki : ∀ i, i < n → (kas_item it i).1 = .ref (tv (n - 1 - i))) {h : Heap} {tk : Nat} (hk : Kp s0.heap h) {Q : Unit × SortSt → Shared → Prop}
    (fin : ∀ p st, Nums n p → (∀ i j, i < j → j < n → Rb19.less (us (n - 1 - q p i)) (us (n - 1 - q p j)) = true) → arrOf st = p.map (kas_item it) → failedOf st = none → Q ((), st) { s0 with heap := h, toks := tk }) :
    wpAny (model X.prog X.w) A (sortRuns'.run (SortSt.mk' (tuples' true) it #[] 7 none)) Q E { s0 with heap := h, toks := tk } := by
  have I2 : Inv X pins σ H { s0 with heap := h, toks := tk } := I.kept hk
  let lt : Nat → Nat → Bool := fun i j => Rb19.less (us (n - 1 - i)) (us (n - 1 - j))
  have T : Total lt n := by
    refine ⟨fun i j k => less_trans _ _ _, fun i j hi hj ne hl => ?_, fun i j hl => less_asym _ _ hl⟩
    refine less_conn _ _ (fun z => ?_) hl
    have := hinj _ _ (by omega) (by omega) z
    omega
  have w1 := Ok.wp (n := n) (lt := lt) (cmp := kas_cmp X.prog X.w A (tuples' true) it) (s := { s0 with heap := h, toks := tk }) (fun i j C hi hj hC => by
    show wpAny _ _ (keyLt' (tuples' true) (kas_item it i).1 (kas_item it j).1) C _ _
    rw [hki i hi, hki j hj]
    exact ver_lt I2 hu (hv _ (by omega)) (hv _ (by omega)) hC) (sort_ok T (by omega))
  have k := kas_runs (prog := X.prog) (w := X.w) (A := A) (E := E) (κ := tuples' true) (it := it) (n := n) (Q := fun u st s' => Q (u, st) s') (G := fun a s' => s' = { s0 with heap := h, toks := tk } ∧ Nums n a ∧ Up lt a n) (s := { s0 with heap := h, toks := tk }) h2 hn
    (fun p st s' hp ha hf ⟨e1, e2, e3⟩ => by subst e1; exact fin p st e2 e3 ha hf) w1
  have e : kas_st (tuples' true) it (List.toArray (List.range n)) = SortSt.mk' (tuples' true) it #[] 7 none := by
    unfold kas_st
    rw [← hit, kas_range]
  rw [e] at k
  unfold kasC at k
  exact wpAny_mono k (fun r s' h => h) fun _ _ z => z
end
end VP
namespace VP
open PySem PySem.Spec PyProof.Rows L2 VO VM PySem.W
open Rb19 (B Word Version)
section
variable {X : Cx} {pins : List (Addr × Obj)} {σ : L2.St} {H : Hp} {s0 : Shared} {A : Around} {E : Value → Shared → Prop} {n : Nat} {tv : Nat → Addr} {us : Nat → Version} {vs : List Value} {P : PySem.Fin → Shared → Prop} {a kS : Addr}
theorem kas_item_at {it : Array Keyed} {i : Nat} {p : Keyed} (h : it[i]? = some p) : kas_item it i = p := by
  unfold kas_item
  rw [Array.getD_eq_getD_getElem?, h]
  rfl
theorem pairs_at {keys : List Value} {n : Nat} (hk : keys = (List.range n).map fun j => Value.ref (tv j)) (hl : vs.length = n) {i : Nat} (hi : i < n) :
    (keys.toArray.zip vs.toArray).reverse[i]? = some (.ref (tv (n - 1 - i)), vs.getD (n - 1 - i) .none) := by
  have hz : (keys.toArray.zip vs.toArray).size = n := by
    rw [Array.size_zip, List.size_toArray, List.size_toArray, hk, List.length_map, List.length_range, hl, Nat.min_self]
  have e : (keys.toArray.zip vs.toArray).reverse[i]? = (keys.toArray.zip vs.toArray)[n - 1 - i]? := by
    rw [Array.getElem?_reverse (by rw [hz]; exact hi), hz]
  have e1 : (keys.toArray.zip vs.toArray)[n - 1 - i]? = (keys.zip vs)[n - 1 - i]? := by
    rw [← Array.getElem?_toList]
    simp
  rw [e, e1, List.getElem?_zip_eq_some]
  refine ⟨?_, ?_⟩
  · rw [hk, List.getElem?_map, List.getElem?_range (by omega)]
    rfl
  · rw [List.getD_eq_getElem?_getD, List.getElem?_eq_getElem (by omega)]
    rfl
def OutV (us : Nat → Version) (n : Nat) (vs : List Value) (out : Array Value) : Prop := ∃ ns : List Nat, Late us n ns ∧ out.toList = ns.map fun j => vs.getD j .none
theorem vs_end (I : Inv X pins σ H s0) (hu : A.units + 8 < cLine) (hv : ∀ j, j < n → VerAt H (.ref (tv j)) (us j)) (hinj : ∀ i j, i < n → j < n → us i = us j → i = j) (hn : n < 64) (hl : vs.length = n)
    {h : Heap} {tk : Nat} {kA : Array Value} {e e1 : Nat} (hk : Kp s0.heap h) (gS : h.get? kS = some (seqObj "list" kA e)) (ga : h.get? a = some (seqObj "list" #[] e1)) (hka : kS ≠ a) (fS : s0.heap.objs.size ≤ kS) (fa : s0.heap.objs.size ≤ a)
    (hA : kA.toList = (List.range n).map fun j => Value.ref (tv j))
    (fin : ∀ h' tk' c out, Kp s0.heap h' → h'.get? a = some (seqObj "list" out c) → OutV us n vs out → P (.done (.ret .none)) { s0 with heap := h', toks := tk' }) :
    wpAny (model X.prog X.w) A (ksk_end a true vs.toArray e1 (.ref kS) kA) P E { s0 with heap := h, toks := tk } := by
  have ekA : kA = ((List.range n).map fun j => Value.ref (tv j)).toArray := by rw [← hA]
  have hsz : kA.size = n := by rw [ekA]; simp
  have hit : (kA.zip vs.toArray).reverse.size = n := by
    rw [Array.size_reverse, Array.size_zip, hsz, List.size_toArray, hl, Nat.min_self]
  have at_ : ∀ i, i < n → kas_item (kA.zip vs.toArray).reverse i = (.ref (tv (n - 1 - i)), vs.getD (n - 1 - i) .none) := fun i hi => by
    refine kas_item_at ?_
    rw [ekA]
    exact pairs_at rfl hl hi
  unfold ksk_end
  simp only [if_true]
  refine wpAny_bind (wpAny_rule ?_)
  by_cases h2 : n < 2
  · have h2' : vs.toArray.size < 2 := by rw [List.size_toArray, hl]; exact h2
    rw [if_pos h2', if_pos h2']
    refine wpAny_bind (wpAny_pure ?_)
    rw [StateT.run_pure]
    refine wpAny_bind (wpAny_pure ?_)
    refine vs_tail (st := SortSt.mk' general' (kA.zip vs.toArray).reverse #[] 7 none) hk gS ga hka fS fa (by omega) (by show (kA.zip vs.toArray).reverse.size ≤ 64; omega) rfl fun h' tk' c k' g' => fin h' tk' c _ k' g' ⟨List.range n, ⟨List.Perm.refl _, ?_⟩, ?_⟩
    · rw [List.pairwise_iff_getElem]
      intro i j hi hj hij
      rw [List.length_range] at hi hj
      omega
    · show (((kA.zip vs.toArray).reverse.map (·.2)).reverse).toList = _
      refine List.ext_getElem? fun i => ?_
      rw [Array.getElem?_toList, List.getElem?_map]
      by_cases hi : i < n
      · have hi0 : i = 0 := by omega
        have hn1 : n = 1 := by omega
        subst hi0
        rw [Array.getElem?_reverse (by rw [Array.size_map, hit]; exact hi), Array.size_map, hit, Array.getElem?_map]
        have q := pairs_at (tv := tv) (vs := vs) (n := n) rfl hl (i := n - 1 - 0) (by omega)
        rw [ekA, q, List.getElem?_range hi]
        show some (vs.getD (n - 1 - (n - 1 - 0)) .none) = some (vs.getD 0 .none)
        rw [show n - 1 - (n - 1 - 0) = 0 by omega]
      · rw [Array.getElem?_eq_none (by rw [Array.size_reverse, Array.size_map, hit]; omega), List.getElem?_eq_none (by rw [List.length_range]; omega)]
        rfl
  · have h2' : ¬ vs.toArray.size < 2 := by rw [List.size_toArray, hl]; exact h2
    rw [if_neg h2', if_neg h2']
    have I2 : Inv X pins σ H { s0 with heap := h, toks := tk } := I.kept hk
    have tups : ∀ m, m ≤ n → ∃ fs : List Value, fs.length = m ∧ TupsOf h (fun _ => false) ((List.range' (n - m) m).map fun j => Value.ref (tv j)) fs := by
      intro m
      induction m with
      | zero => exact fun _ => ⟨[], rfl, .nil⟩
      | succ m ih =>
        intro hm
        obtain ⟨fs, l1, t1⟩ := ih (by omega)
        obtain ⟨a0, x0, ws, e0, g1, g2, g3⟩ := hv (n - (m + 1)) (by omega)
        injection e0 with e0
        obtain ⟨its, r, ⟨oa, q1, q2, q3, q4⟩, _⟩ := I2.tuple (SqT.of (K := X.K) g1)
        cases r with
        | cons r1 r =>
        obtain ⟨t, rfl⟩ := r1
        refine ⟨.int ((us (n - (m + 1))).a : Int) t :: fs, by rw [List.length_cons, l1], ?_⟩
        rw [List.range'_succ, List.map_cons, show n - (m + 1) + 1 = n - m by omega]
        exact .cons ⟨a0, oa, _, q3, by rw [e0], q1, q2, q4, rfl, fun _ => ⟨_, t, rfl⟩, fun z => (nomatch z)⟩ t1
    obtain ⟨fs, l1, t1⟩ := tups n (Nat.le_refl _)
    rw [Nat.sub_self, ← List.range_eq_range'] at t1
    refine wpAny_bind ?_
    rw [ekA]
    refine tup_kind (shape := fun _ => false) (fs := fs) (by omega) t1 ?_
    rw [← ekA]
    refine wpAny_bind (vs_run I hu hv hinj hn (by omega) hit (fun i hi => by rw [at_ i hi]) hk fun p st np up ha hf => ?_)
    refine vs_tail (st := st) hk gS ga hka fS fa (by omega) (by rw [ha, Array.size_map, np.size]; omega) hf fun h' tk' c k' g' => fin h' tk' c _ k' g' ⟨(p.toList.map fun i => n - 1 - i).reverse, ⟨?_, ?_⟩, ?_⟩
    · refine (List.reverse_perm _).trans ?_
      have q1 := np.perm.map fun i => n - 1 - i
      refine q1.trans ?_
      have q2 : ((List.range n).map fun i => n - 1 - i) = (List.range n).reverse := by
        refine List.ext_getElem (by simp) fun i h1 h2 => ?_
        rw [List.getElem_map, List.getElem_range, List.getElem_reverse, List.getElem_range, List.length_range]
      rw [q2]
      exact List.reverse_perm _
    · rw [List.pairwise_reverse, List.pairwise_map, List.pairwise_iff_getElem]
      intro i j hi hj hij
      have hi' : i < p.size := by simpa using hi
      have hj' : j < p.size := by simpa using hj
      have q1 := up i j hij (by rw [np.size] at hj'; exact hj')
      rw [q_eq, q_eq, Array.getElem?_eq_getElem hi', Array.getElem?_eq_getElem hj'] at q1
      simpa using q1
    · rw [ha, Array.toList_reverse, Array.toList_map, Array.toList_map, List.map_reverse, List.map_map, List.map_map]
      congr 1
      refine List.map_congr_left fun i hi => ?_
      have hi' : i < n := List.mem_range.mp (np.perm.mem_iff.mp hi)
      show (kas_item (kA.zip vs.toArray).reverse i).2 = vs.getD (n - 1 - i) .none
      rw [at_ i hi']
theorem vs_rest (I : Inv X pins σ H s0) (hu : A.units + 8 < cLine) (hv : ∀ j, j < n → VerAt H (.ref (tv j)) (us j)) (hinj : ∀ i j, i < n → j < n → us i = us j → i = j) (hn : n < 64) (hl : vs.length = n) (hvs : ∀ j, j < n → ∃ t, vs[j]? = some (.int (j : Int) t)) {f : Value} (turn : Turn1 X.prog X.w A s0 f n tv)
    {h : Heap} {tk : Nat} {e1 : Nat} (hk : Kp s0.heap h) (gS : h.get? kS = some (seqObj "list" #[] 0)) (ga : h.get? a = some (seqObj "list" #[] e1)) (hka : kS ≠ a) (fS : s0.heap.objs.size ≤ kS) (fa : s0.heap.objs.size ≤ a)
    (fin : ∀ h' tk' c out, Kp s0.heap h' → h'.get? a = some (seqObj "list" out c) → OutV us n vs out → P (.done (.ret .none)) { s0 with heap := h', toks := tk' }) :
    wpAny (model X.prog X.w) A (ksk_rest a f true vs.toArray e1 (.ref kS)) P E { s0 with heap := h, toks := tk } := by
  have big : 100 ≤ sizeLine := by decide
  unfold ksk_rest
  refine wpAny_bind (wpAny_rule ?_)
  rw [List.forIn_toArray]
  refine wpAny_bind (ksk_fold (fun i s' => ∃ h' tk' kA e, s' = { s0 with heap := h', toks := tk' } ∧ Kp s0.heap h' ∧ h'.get? kS = some (seqObj "list" kA e) ∧ h'.get? a = some (seqObj "list" #[] e1) ∧ kA.toList = (List.range i).map fun j => Value.ref (tv j)) vs 0 _
    ⟨h, tk, #[], 0, rfl, hk, gS, ga, rfl⟩ ?step ?done)
  case step =>
    rintro j x s' hx ⟨h', tk', kA, e, rfl, k', gS', ga', hA⟩
    have hj : j < n := by rw [← hl]; exact (List.getElem?_eq_some_iff.mp hx).1
    obtain ⟨t, ht⟩ := hvs j hj
    rw [ht] at hx
    cases hx
    rw [Nat.zero_add] at hA ⊢
    have zA : kA.size = j := by rw [← Array.length_toList, hA]; simp
    refine wpAny_bind (wpAny_attempt (wpAny_mono (turn j t h' tk' hj k') (fun v s'' he => ?_) fun _ _ hF => hF.elim))
    obtain ⟨rfl, h2, tk2, rfl, k2⟩ := he
    have gS2 := k2 _ _ gS'
    refine wpAny_bind (listUpdate_at (o := seqObj "list" kA e) gS2 rfl ?_ (by omega) (by rw [Array.size_push]; omega))
    refine wpAny_pure ⟨rfl, _, _, kA.push (.ref (tv j)), _, rfl, (k'.trans k2).upd fS, get?_update_seq gS2 (·.push (.ref (tv j))), ((Heap.SameBut.update h2 kS _).2 a hka.symm).trans (k2 _ _ ga'), ?_⟩
    rw [Array.toList_push, hA, List.range_succ, List.map_append]
    rfl
  case done =>
    rintro s' ⟨h', tk', kA, e, rfl, k', gS', ga', hA⟩
    rw [Nat.zero_add, hl] at hA
    refine wpAny_bind (listItems_at (o := seqObj "list" kA e) gS' rfl ?_)
    exact vs_end I hu hv hinj hn hl k' gS' ga' hka fS fa hA fin
theorem vs_tree (I : Inv X pins σ H s0) (hu : A.units + 8 < cLine) (hv : ∀ j, j < n → VerAt H (.ref (tv j)) (us j)) (hinj : ∀ i j, i < n → j < n → us i = us j → i = j) (hn : n < 64) (hl : vs.length = n) (hvs : ∀ j, j < n → ∃ t, vs[j]? = some (.int (j : Int) t)) {f : Value} (turn : Turn1 X.prog X.w A s0 f n tv)
    {h : Heap} {tk c : Nat} (hk : Kp s0.heap h) (ga : h.get? a = some (seqObj "list" vs.toArray c)) (fa : s0.heap.objs.size ≤ a)
    (fin : ∀ h' tk' c out, Kp s0.heap h' → h'.get? a = some (seqObj "list" out c) → OutV us n vs out → P (.done (.ret .none)) { s0 with heap := h', toks := tk' }) :
    wpAny (model X.prog X.w) A (ksk_tree a f true) P E { s0 with heap := h, toks := tk } := by
  have big : 100 ≤ sizeLine := by decide
  obtain ⟨e1, g1⟩ : ∃ e1, (h.update a (Obj.mapSeq fun _ => (#[] : Array Value))).get? a = some (seqObj "list" #[] e1) := ⟨_, get?_update_seq ga fun _ => #[]⟩
  have ha := Heap.lt_size ga
  unfold ksk_tree
  refine wpAny_bind (listItems_at (o := seqObj "list" vs.toArray c) ga rfl (wpAny_bind (listUpdate_at (o := seqObj "list" vs.toArray c) ga rfl ?_ (by rw [List.size_toArray, hl]; omega) (Nat.zero_le _))))
  refine wpAny_bind (seqEpoch_at (o := seqObj "list" #[] e1) g1 rfl (wpAny_bind (wpAny_newTuple ?_ (by show vs.length ≤ _; omega))))
  refine wpAny_bind (wpAny_newList (wpAny_holding ?_) (Nat.zero_le _))
  have hz : ((h.update a (Obj.mapSeq fun _ => (#[] : Array Value))).push { cls := .type "tuple", data := .seq vs.toArray.toList.toArray }).objs.size = h.objs.size + 1 := by rw [size_push', Heap.size_update]
  have hs0 : s0.heap.objs.size ≤ h.objs.size := Nat.le_trans fa (Nat.le_of_lt ha)
  refine vs_rest I hu hv hinj hn hl hvs turn (((hk.upd fa).push _).push _) (Heap.get?_push_size _ rfl) (Heap.get?_push_of_some _ (Heap.get?_push_of_some _ g1)) ?_ ?_ fa fin
  · show ((h.update a (Obj.mapSeq fun _ => (#[] : Array Value))).push { cls := .type "tuple", data := .seq vs.toArray.toList.toArray }).objs.size ≠ a
    rw [hz]
    exact Nat.ne_of_gt (Nat.lt_succ_of_lt ha)
  · show s0.heap.objs.size ≤ ((h.update a (Obj.mapSeq fun _ => (#[] : Array Value))).push { cls := .type "tuple", data := .seq vs.toArray.toList.toArray }).objs.size
    rw [hz]
    exact Nat.le_succ_of_le hs0
end
end VP
namespace VP
open PySem PySem.Spec PyProof.Rows L2 VO VM PySem.W
open Rb19 (B Word Version)
structure LamK (mg : Str → Option Value) (base : Heap) (c P : Addr) : Prop where
  C : CodeHd base c P
  B : base.BuiltinsAt mg P
  nP : mainGlobals ≠ P
def CodeO (c : Addr) (qual : Str) : HO := .ext fun h => h.CodeRec (.ref c) qual
def LamO (q : Addr) (qual : Str) (params : Arguments) (body : Expr) (scope : Scope) (cl : List (Str × Addr)) (c : Addr) : HO := .ext fun h => ∃ pm ctv, h.get? q = some (kla_obj "<lambda>" qual params body scope cl pm c ctv)
def TblAt (H : Hp) (P : Addr) (pos : Pos) (qual : Str) : Prop := H P = some (.tbl #[]) ∨ ∃ c, H P = some (.tbl #[rawInt pos.line, rawInt pos.col, .ref c]) ∧ H c = some (CodeO c qual)
section
variable {X : Cx} {pins : List (Addr × Obj)} {σ : L2.St} {H : Hp} {s : Shared}
theorem code_ok {P : Program} {w : World} {H : Hp} {h : Heap} {c : Addr} {q : Str} (x : h.CodeRec (.ref c) q) : ObjOk P w H h c (CodeO c q) := by
  obtain ⟨c', o, vs, t, e, g, r⟩ := x
  cases e
  refine ⟨⟨c, o, vs, t, rfl, g, r⟩, ⟨o, g⟩, ?_⟩
  rintro h1 h2 ⟨c', o', vs', t', e', g', r'⟩ st
  cases e'
  exact ⟨c, o', vs', t', rfl, st _ g', r'⟩
theorem lam_ok {P : Program} {w : World} {H : Hp} {h : Heap} {q c : Addr} {qual : Str} {params : Arguments} {body : Expr} {scope : Scope} {cl : List (Str × Addr)} {pm ctv : Value} (e : h.get? q = some (kla_obj "<lambda>" qual params body scope cl pm c ctv)) :
    ObjOk P w H h q (LamO q qual params body scope cl c) := by
  refine ⟨⟨pm, ctv, e⟩, ⟨_, e⟩, ?_⟩
  rintro h1 h2 ⟨pm', ctv', g⟩ st
  exact ⟨pm', ctv', st _ g⟩
theorem Inv.tab {h' : Heap} {t' : Nat} {P c q : Addr} {ps more : Array Value} {oc oq : HO} (I : Inv X pins σ H s) (hP : H P = some (.tbl ps)) (k : Heap.ExtBut P s.heap h') (gP : h'.get? P = some (tabObj (ps ++ more))) (fc : s.heap.objs.size ≤ c) (fq : s.heap.objs.size ≤ q) (hcq : c ≠ q)
    (kc : ObjOk X.prog X.w (L2.upd (L2.upd (L2.upd H P (.tbl (ps ++ more))) c oc) q oq) h' c oc) (kq : ObjOk X.prog X.w (L2.upd (L2.upd (L2.upd H P (.tbl (ps ++ more))) c oc) q oq) h' q oq) :
    Inv X pins σ (L2.upd (L2.upd (L2.upd H P (.tbl (ps ++ more))) c oc) q oq) { s with heap := h', toks := t' } := by
  have nc : H c = none := I.hok.fresh fc
  have nq : H q = none := I.hok.fresh fq
  have old : ∀ b u, H b = some u → b ≠ P → L2.upd (L2.upd (L2.upd H P (.tbl (ps ++ more))) c oc) q oq b = some u := fun b u e hb => by
    rw [upd_ne (ne_of_none e nq), upd_ne (ne_of_none e nc), upd_ne hb]; exact e
  have nP : ∀ b, H b = none → b ≠ P := fun b e z => by rw [z, hP] at e; cases e
  have fr : ∀ b o, s.heap.get? b = some o → H b = none → L2.upd (L2.upd (L2.upd H P (.tbl (ps ++ more))) c oc) q oq b = none := fun b o e n => by
    have hb := Heap.lt_size e
    rw [upd_ne (Nat.ne_of_lt (Nat.lt_of_lt_of_le hb fq)), upd_ne (Nat.ne_of_lt (Nat.lt_of_lt_of_le hb fc)), upd_ne (nP b n)]; exact n
  have PP : L2.upd (L2.upd (L2.upd H P (.tbl (ps ++ more))) c oc) q oq P = some (.tbl (ps ++ more)) := by
    rw [upd_ne (ne_of_none hP nq), upd_ne (ne_of_none hP nc), upd_same]
  refine I.un ⟨fun b o e n _ _ => k b o (nP b n) e, fun b o e n _ _ => ⟨o.slots, k b o (nP b n) e⟩, fun b o e n _ => fr b o e n, fun b o e _ => ?_, fun b xs e => old b _ e fun z => ?_, fun b o u e => old b _ e fun z => ?_, fun b qs e => ?_⟩ fun b u e => ?_
  · by_cases hb : b = P
    · subst hb; exact ⟨_, gP⟩
    · exact ⟨o, k b o hb e⟩
  · rw [z, hP] at e; cases e
  · rw [z, hP] at e; cases e
  · by_cases hb : b = P
    · subst hb
      rw [hP] at e
      cases e
      exact ⟨more, PP⟩
    · exact ⟨#[], by rw [old b _ e hb]; simp⟩
  · by_cases h1 : b = q
    · subst h1; rw [upd_same] at e; cases e; exact kq
    · by_cases h2 : b = c
      · subst h2; rw [upd_ne h1, upd_same] at e; cases e; exact kc
      · by_cases h3 : b = P
        · subst h3; rw [PP] at e; cases e; exact gP
        · rw [upd_ne h1, upd_ne h2, upd_ne h3] at e
          refine (I.hok b u e).stay (fun d v hd g => k d v ?_ g) (fun d g => old d _ g fun z => ?_) fun d xs g => old d _ g fun z => ?_
          · rcases hd with z | z
            · rw [z]; exact h3
            · intro y; rw [y, hP] at z; cases z
          · rw [z, hP] at g; cases g
          · rw [z, hP] at g; cases g
def tLam (P : Addr) (pos : Pos) (qual : Str) (params : Arguments) (body : Expr) (scope : Scope) (cl : List (Str × Addr)) : TE := fun _ H Q => TblAt H P pos qual ∧ ∀ (H1 : Hp) (c q : Addr), (∀ b o, H b = some o → b ≠ P → H1 b = some o) →
  H1 P = some (.tbl #[rawInt pos.line, rawInt pos.col, .ref c]) → H1 c = some (CodeO c qual) → (H c = none ∨ H P = some (.tbl #[rawInt pos.line, rawInt pos.col, .ref c])) → H1 q = none → H q = none → Q (.ref q) (L2.upd H1 q (LamO q qual params body scope cl c))
theorem pe_lam {c P : Addr} {params : Arguments} {body : Expr} {scope : Scope} {pos : Pos} {cl : List (Str × Addr)} (L : LamK X.mg X.base c P) (hcode : X.env.code = .ref c) (hdef : defaultsOf params X.env = ([], [])) (hcl : closureFor scope X.env = pure cl) :
    PE X (.Lambda params body scope pos) (tLam P pos (X.env.qual ++ "<lambda>") params body scope cl) := by
  intro pins s σ H Q I h
  obtain ⟨hT, h⟩ := h
  have bk := I.bk
  have hgs : s.heap.Ns mainGlobals X.mg := I.mod.glob.keeps bk
  have C2 : CodeHd s.heap c P := L.C.keeps bk
  have B2 : s.heap.BuiltinsAt X.mg P := by
    obtain ⟨bm, o, b1, b2, b3, b4, b5, b6⟩ := L.B
    exact ⟨bm, o, b1, b2, b3, b4, bk _ _ b5, b6⟩
  refine kla_eval hdef ?_
  rcases hT with hT | ⟨c', hT, hc'⟩
  · have gP : s.heap.get? P = some (tabObj #[]) := I.hok P _ hT
    refine kla_makeFunction (mg := X.mg) hcl I.ok.glob hgs hcode C2 gP True.intro rfl L.nP B2 fun c' ctv h' tk hx hge hlt hrec htb => ?_
    have ht2 : h'.get? P = some (tabObj (#[] ++ #[rawInt pos.line, rawInt pos.col, .ref c'])) := htb
    have gq : (h'.push (kla_obj "<lambda>" (X.env.qual ++ "<lambda>") params body scope cl ((X.mg "__name__").getD .none) c' ctv)).get? h'.objs.size = some (kla_obj "<lambda>" (X.env.qual ++ "<lambda>") params body scope cl ((X.mg "__name__").getD .none) c' ctv) := Heap.get?_push_size _ rfl
    have fq : s.heap.objs.size ≤ h'.objs.size := by omega
    have I2 := Inv.tab (t' := tk) (more := #[rawInt pos.line, rawInt pos.col, .ref c']) (oc := CodeO c' (X.env.qual ++ "<lambda>")) (oq := LamO h'.objs.size (X.env.qual ++ "<lambda>") params body scope cl c') I hT (fun b o hb e => Heap.get?_push_of_some _ (hx b o hb e)) (Heap.get?_push_of_some _ ht2) hge fq (Nat.ne_of_lt hlt) (code_ok (hrec.push _)) (lam_ok gq)
    have nc : H c' = none := I.hok.fresh hge
    have nq : H h'.objs.size = none := I.hok.fresh fq
    have npc : P ≠ c' := ne_of_none hT nc
    have npq : P ≠ h'.objs.size := ne_of_none hT nq
    refine ⟨.ref h'.objs.size, _, I2, rfl, h _ c' h'.objs.size (fun b o e hb => ?_) ?_ ?_ (.inl nc) ?_ nq⟩
    · rw [upd_ne (ne_of_none e nc), upd_ne hb]; exact e
    · rw [upd_ne npc, upd_same]; rfl
    · rw [upd_same]
    · rw [upd_ne (Nat.ne_of_gt hlt), upd_ne npq.symm]; exact nq
  · have gP : s.heap.get? P = some (tabObj #[rawInt pos.line, rawInt pos.col, .ref c']) := I.hok P _ hT
    have hrec : s.heap.CodeRec (.ref c') (X.env.qual ++ "<lambda>") := (show ObjOk X.prog X.w H s.heap c' (CodeO c' _) from I.hok c' _ hc').1
    refine kla_makeFunctionHit (mg := X.mg) (cv := .ref c') hcl I.ok.glob hgs hcode C2 gP True.intro (by simp [codeAmong, rawInt]) B2 fun ctv h' tk hk hsz => ?_
    have gq : (h'.push (kla_obj "<lambda>" (X.env.qual ++ "<lambda>") params body scope cl ((X.mg "__name__").getD .none) c' ctv)).get? h'.objs.size = some (kla_obj "<lambda>" (X.env.qual ++ "<lambda>") params body scope cl ((X.mg "__name__").getD .none) c' ctv) := Heap.get?_push_size _ rfl
    have nq : H h'.objs.size = none := I.hok.fresh hsz
    exact ⟨.ref h'.objs.size, _, I.laid (t' := tk) (fun b u e => Heap.get?_push_of_some _ (hk b u e)) hsz (lam_ok gq), rfl, h H c' _ (fun b o e _ => e) hT hc' (.inr hT) nq nq⟩
end
theorem cr_range {X : Cx} : CallR X (.type "range") (fun xs H Q => ∃ j : Int, xs = [.int j] ∧ ∀ p, H p = none → Q (.ref p) (L2.upd H p (.rng 0 j))) := by
  intro pins s σ H xs us Q I r h
  obtain ⟨j, rfl, q⟩ := h
  obtain ⟨u, rfl, ru⟩ := vals1 r
  obtain ⟨t, rfl⟩ := ru
  exact call_range_1 ⟨.ref s.heap.objs.size, _, I.laid (t' := s.toks + 1 + 1) (fun b u e => Heap.get?_push_of_some _ e) (Nat.le_refl _) (show ObjOk _ _ _ _ _ (.rng 0 j) from ⟨_, _, _, Heap.get?_push_size _ rfl⟩), rfl, q _ (I.hok.fresh (Nat.le_refl _))⟩
section
variable {X : Cx} {pins : List (Addr × Obj)} {σ : L2.St} {H : Hp} {s0 : Shared} {A : Around}
theorem lam_turn {i : Nat} {rl q c C : Addr} {as : List Addr} {tv : Nat → Addr} {qual : Str} {params : Arguments} {scope : Scope} {cA : Addr} {p1 p2 p3 p4 : Pos} (I : Inv X pins σ H s0) (hroom : A.depth < recursionLimit)
    (hN : X.N[i]? = some ("releases" : Str)) (hV : X.env.scope.names.lookup ("releases" : Str) = some .cell) (hcA : X.env.cells.lookup ("releases" : Str) = some cA) (hσ : σ[i]? = some (some (.ref rl)))
    (hq : H q = some (LamO q qual params (.Attribute (.Subscript (.Name "releases" p1) (.Name "number" p2) p3) "version" p4) scope [("releases", cA)] c)) (hc : H c = some (CodeO c qual))
    (s1 : scope.isCoroutine = false) (s2 : scope.isGenerator = false) (s3 : scope.kind = .function) (s4 : ∀ x ∈ scope.names, x.2 ≠ .cell) (s5 : scope.names.lookup ("number" : Str) = some .local) (s6 : scope.names.lookup ("releases" : Str) = some .free)
    (hb : ∀ (pm ctv : Value) (v : Value), bindArgs (kla_fn "<lambda>" qual params (.Attribute (.Subscript (.Name "releases" p1) (.Name "number" p2) p3) "version" p4) scope [("releases", cA)] pm (.ref c) ctv) ⟨[v], []⟩ = pure [(("number" : Str), v)])
    (hl : H rl = some (.lst (as.map V.ref))) (cl : Cls X.K C) (nv : NoAttr X.K C "version")
    (hv : ∀ (j : Nat) (a : Addr), as[j]? = some a → ∃ dx fs, H a = some (.ins C dx fs) ∧ fs.lookup ("version" : Str) = some (.ref (tv j))) : Turn1 X.prog X.w A s0 (.ref q) as.length tv := by
  intro j t h tk hj hk
  have I1 : Inv X pins σ H { s0 with heap := h, toks := tk } := I.kept hk
  obtain ⟨⟨pm, ctv, gq⟩, _⟩ := (show ObjOk X.prog X.w H h q (LamO q _ _ _ _ _ _) from I1.hok q _ hq)
  have hrec : h.CodeRec (.ref c) qual := (show ObjOk X.prog X.w H h c (CodeO c _) from I1.hok c _ hc).1
  have hcell : h.IsCell cA (some (.ref rl)) := by
    obtain ⟨m, _, hl2⟩ := I1.loc
    obtain ⟨u, ru, lk⟩ := hl2 i "releases" (.ref rl) hN hσ (.inr (.inl hV))
    cases ru
    rcases lk with ⟨z, _⟩ | ⟨_, c2, e2, z⟩
    · have z : X.env.scope.names.lookup ("releases" : Str) = some .local := z
      rw [hV] at z
      cases z
    · rw [hcA] at e2
      cases e2
      exact z
  refine wpAny_call (kla_callFunE (s := { s0 with heap := h, toks := tk }) hroom gq rfl s1 s2 rfl hrec ?_)
  rw [hb]
  refine wpAny_pure (wpAny_newFunctionEnv s4 (fun x hx => ?_) (fun h1 hns hsb => ⟨?_, ?_⟩) s3)
  · rw [List.mem_singleton.mp hx]
    exact s5
  · exact I1.nolimit.fresh _ hsb
  have k1 : Kp h h1 := fun b o e => hsb.extBut b o (Nat.ne_of_lt (Heap.lt_size e)) (Heap.get?_push_of_some _ e)
  have I2 : Inv X pins σ H { s0 with heap := h1, toks := tk + 1 } := I.kept (hk.trans k1)
  refine kla_codeExpr (attr_of rfl (Subscript_ ?_))
  obtain ⟨oc, go, gd⟩ := hcell
  have hcell2 : h1.IsCell cA (some (.ref rl)) := ⟨oc, k1 _ _ go, gd⟩
  refine wpAny_Name (wpAny_loadName_free s3 s6 (c := cA) rfl hcell2 ?_ (by decide)) (by decide)
  refine wpAny_Name (wpAny_loadName_local (v := .int (j : Int) t) s3 s5 hns rfl ?_) (by decide)
  obtain ⟨its, r, pl, hz⟩ := I2.list (SqL.of (K := X.K) hl)
  have ha : (as.map V.ref)[j]? = some (.ref as[j]) := by rw [List.getElem?_map, List.getElem?_eq_getElem hj]; rfl
  obtain ⟨w', ew, rw'⟩ := r.get ha
  cases rw'
  have l1 : its.length = as.length := by rw [← r.length, List.length_map]
  have hl0 := r.length
  have hn63 := line63
  rw [List.length_map] at hl0 hz
  refine item_listR pl.isList (by omega) (by omega) (by simpa using ew) ?_ rfl
  obtain ⟨dx, fs, g1, g2⟩ := hv j as[j] (List.getElem?_eq_getElem hj)
  obtain ⟨mA, O, rO, _, _, _⟩ := ins_get I2.hok g1
  obtain ⟨u, eu, ru⟩ := RelO.some_of (v := V.ref (tv j)) (o := mA "version") (by rw [← g2]; exact rO _)
  cases ru
  exact get_map I2.kIn O (cl.get _) cl.hd nv eu (handed_of (v := V.ref (tv j)) rfl) ⟨rfl, _, _, rfl, k1⟩
end
end VP
namespace VP
open PySem PySem.Spec PyProof.Rows L2 VO VM PySem.W
open Rb19 (B Word Version)
section
variable {prog : Program} {w : World} {A : Around} {E : Value → Shared → Prop} {s : Shared}
theorem collect_code {R : Result → Shared → Prop} {r : Addr} {n : Nat} {t u v : Tok} (hh : A.handled = none) (hr : s.heap.get? r = some { cls := .type "range", data := .fields #[.int 0 t, .int (n : Int) u, .int 1 v] }) (hn : n < 64)
    (h : ∀ (h' : Heap) (tk c : Nat) (acc : Array Value), (∀ b o, b ≠ s.heap.objs.size → s.heap.get? b = some o → h'.get? b = some o) → h'.get? s.heap.objs.size = some { cls := .type "list", dict := none, data := .seq acc c, slots := #[] } → ItemsOf (fun i v => ∃ t, v = .int (0 + i * 1) t) acc n →
      R (.ok (.ret (.ref s.heap.objs.size))) { s with heap := h', toks := tk }) : codeAny (model prog w) A (.builtin "proto.collect" ⟨[.ref r], []⟩) R s := by
  have hsz : Builtin.Range.rangeSize 0 (n : Int) 1 = (n : Int) := by
    rw [rangeSize_one]
    split <;> omega
  have sm : Builtin.Range.small 0 (n : Int) 1 = true := small_one (by omega) (by omega) (by omega) (by omega)
  have lt : n ≤ 2 ^ 24 := Nat.le_trans (Nat.le_of_lt hn) (by decide)
  refine codeAny_builtin (F.entry_proto_collect) ?_
  rw [Around.under_plainId (F.plain_proto_collect) _]
  change wpAny _ A.in1 (newList [] >>= fun z => again (.builtin "list.__iadd__" ⟨[z, .ref r], []⟩)) _ _ s
  refine wpAny_bind (wpAny_newObj_type (wpAny_pure (And.intro (plainId_quiet F.plain_list_iadd _) (codeAny_builtin F.entry_list_iadd ?_))))
  rw [Around.under_plainId (F.plain_list_iadd) _]
  change wpAny _ A.in1 (Builtin.List.listExtendWith (.ref s.heap.objs.size) (.ref r) (.ref s.heap.objs.size)) _ _ _
  have gS0 : (s.heap.push { cls := .type "list", data := .seq ([] : List Value).toArray }).get? s.heap.objs.size = some { cls := .type "list", data := .seq #[] 0 } := Heap.get?_push_size _ rfl
  exact wpAny_extend_range (A := A) (R := R) (s := { s with heap := s.heap.push { cls := .type "list", data := .seq ([] : List Value).toArray } }) hh (Heap.get?_push_of_some _ hr) sm hsz lt s.heap.objs.size (.ref s.heap.objs.size) 0 gS0 fun h' tk acc c hk hS hacc =>
    h h' tk c acc (fun b o hb e => hk b o hb (Heap.get?_push_of_some _ e)) hS hacc
theorem collect_rng {r : Addr} {n : Nat} {t u v : Tok} {Q : List Value → Shared → Prop} (hh : A.handled = none) (hr : s.heap.get? r = some { cls := .type "range", data := .fields #[.int 0 t, .int (n : Int) u, .int 1 v] }) (hn : n < 64)
    (h : ∀ (vs : List Value) (h' : Heap) (tk : Nat), vs.length = n → (∀ j, j < n → ∃ t, vs[j]? = some (.int (j : Int) t)) → Kp s.heap h' → s.heap.objs.size ≤ h'.objs.size → Q vs { s with heap := h', toks := tk }) : wpAny (model prog w) A (collect (.ref r)) Q E s := by
  unfold collect
  refine wpAny_bind (m := runValue _) (wpAny_runValue (collect_code hh hr hn fun h' tk c acc hk hS hacc => ?_))
  change wpAny _ A (load s.heap.objs.size >>= _) _ _ _
  refine wpAny_bind (wpAny_load hS (wpAny_pure (h acc.toList h' tk ?_ (fun j hj => ?_) (fun b o e => ?_) (Nat.le_of_lt (Heap.lt_size hS)))))
  · rw [Array.length_toList]
    exact hacc.1
  · have hx : acc[j]? = some (acc[j]'(by rw [hacc.1]; exact hj)) := Array.getElem?_eq_getElem _
    obtain ⟨t, e⟩ := hacc.2 j _ hx
    refine ⟨t, ?_⟩
    rw [Array.getElem?_toList, hx, e]
    simp
  · exact hk b o (Nat.ne_of_lt (Heap.lt_size e)) e
end
section
variable {X : Cx}
def tSortV (K : PySem.W.Frag) (i : Nat) (cA : Addr) (C : Addr) (qual : Str) (params : Arguments) (body : Expr) (scope : Scope) (ta tk : TA) : TE := fun σ H Q => ta σ H fun vs H1 => tk σ H1 fun zs H2 => ∃ (rg q c rl : Addr) (as : List Addr) (tv : Nat → Addr) (us : Nat → Version),
  vs = [.ref rg] ∧ zs = [.ref q, .bl true] ∧ H2 rg = some (.rng 0 ((as.length : Nat) : Int)) ∧ as.length < 64 ∧ H2 q = some (LamO q qual params body scope [("releases", cA)] c) ∧ H2 c = some (CodeO c qual) ∧ σ[i]? = some (some (.ref rl)) ∧ H2 rl = some (.lst (as.map V.ref)) ∧
  Cls K C ∧ NoAttr K C "version" ∧ (∀ (j : Nat) (a : Addr), as[j]? = some a → ∃ dx fs, H2 a = some (.ins C dx fs) ∧ fs.lookup ("version" : Str) = some (.ref (tv j))) ∧ (∀ j, j < as.length → VerAt H2 (.ref (tv j)) (us j)) ∧ (∀ i j, i < as.length → j < as.length → us i = us j → i = j) ∧
  ∀ (ns : List Nat) (p : Addr), Late us as.length ns → H2 p = none → Q (.ref p) (L2.upd H2 p (.lst (ns.map fun (j : Nat) => V.int (j : Int))))
theorem pe_sortV {i : Nat} {cA C : Addr} {qual : Str} {params : Arguments} {p1 p2 p3 p4 : Pos} {scope : Scope} {p pos : Pos} {e : Expr} {kws : List Keyword} {ta tk : TA} (hN : X.N[i]? = some ("releases" : Str)) (hV : X.env.scope.names.lookup ("releases" : Str) = some .cell) (hcA : X.env.cells.lookup ("releases" : Str) = some cA)
    (hu : X.A.units + 64 < cLine) (hdp : X.A.depth + 8 < recursionLimit) (hh : X.A.handled = none)
    (s1 : scope.isCoroutine = false) (s2 : scope.isGenerator = false) (s3 : scope.kind = .function) (s4 : ∀ x ∈ scope.names, x.2 ≠ .cell) (s5 : scope.names.lookup ("number" : Str) = some .local) (s6 : scope.names.lookup ("releases" : Str) = some .free)
    (hb : ∀ (c : Addr) (pm ctv : Value) (v : Value), bindArgs (kla_fn "<lambda>" qual params (.Attribute (.Subscript (.Name "releases" p1) (.Name "number" p2) p3) "version" p4) scope [("releases", cA)] pm (.ref c) ctv) ⟨[v], []⟩ = pure [(("number" : Str), v)])
    (hg : Gl X "sorted") (hm : X.mg "sorted" = none) (ha : PA X [e] ta) (hkw : PK X kws tk) (hall : (backToKw pos (keywordEach kws X.env)).all (·.1.isSome) = true) (hks : (backToKw pos (keywordEach kws X.env)).filterMap (·.1) = [("key" : Str), ("reverse" : Str)])
    (hnone : (backToKw pos (keywordEach kws X.env)).any (·.1.isNone) = false) (hst : starEach [e] X.env = [(false, eval e X.env)]) :
    PE X (.Call (.Name "sorted" p) [e] kws pos) (tSortV X.K i cA C qual params (.Attribute (.Subscript (.Name "releases" p1) (.Name "number" p2) p3) "version" p4) scope ta tk) := by
  intro pins s σ H Q I h
  refine wpAny_Call_Name_kw (ld_blt I hg hm boot_sorted ?_ (by decide) (by decide))
  have hst2 : backTo pos (starEach [e] X.env) = [(false, eval e X.env)] := by rw [hst]; rfl
  refine callWith_builtin_kwB (by rw [hst2]; rfl) hnone ?_
  have ha2 := fun Q h => ha pos pins s σ H Q I h
  rw [hst2] at ha2 ⊢
  refine evalArgs_kwB hall (thn (ha2 _ h) fun us1 s1' ⟨vs, H1, I1, r1, q1⟩ => thn (hkw pos pins s1' σ H1 _ I1 q1) fun ws s2' ⟨zs, H2, I2, r2, q2⟩ => ?_)
  obtain ⟨rg, q, c, rl, as, tv, us, rfl, rfl, h1, h2, h3, h4, h5, h6, h7, h8, h9, h10, h11, k⟩ := q2
  obtain ⟨u1, rfl, ru⟩ := vals1 r1
  cases ru
  cases r2 with
  | cons rq r2 =>
  cases r2 with
  | cons rb r2 =>
  cases r2
  cases rq
  cases rb
  rw [hks]
  obtain ⟨t, u, v, hr⟩ := (show ObjOk X.prog X.w H2 s2'.heap rg (.rng 0 _) from I2.hok rg _ h1)
  have trn : Turn1 X.prog X.w X.A.in1.in1 s2' (.ref q) as.length tv := lam_turn (cA := cA) I2 (by show X.A.depth < _; omega) hN hV hcA h5 h3 h4 s1 s2 s3 s4 s5 s6 (hb c) h6 h7 h8 h9
  refine (call_function_entry_kw kind_sorted plain_sorted entry_sorted (ksk_s2 _ _ _) ?_ : wpAny _ X.A (call (.builtin "sorted") [.ref rg] [(Str.ofString "key", .ref q), (Str.ofString "reverse", .bool true)]) _ _ _)
  unfold Builtin.«sorted»
  refine wpAny_bind (m := checkCount "sorted" 1 1 _) (wpAny_pure (wpAny_bind (collect_rng hh hr h2 fun items h' tk' li hi hk sz => ?_)))
  have big : 64 ≤ sizeLine := by decide
  refine wpAny_bind (wpAny_newList ?_ (by omega))
  have gl : (h'.push { cls := .type "list", data := .seq items.toArray }).get? h'.objs.size = some (seqObj "list" items.toArray 0) := Heap.get?_push_size _ rfl
  refine wpAny_bind (wpAny_holding (wpAny_call_entry_kw slot_list_sort ⟨_, gl, rfl⟩ entry_list_sort ?_ (ksk_l2 _ _ _)))
  show wpAny _ X.A.in1.in1 (Builtin.«list.sort» ⟨[.ref h'.objs.size], [(Str.ofString "key", .ref q), (Str.ofString "reverse", .bool true)]⟩) _ _ _
  rw [ksk_t2]
  refine vs_tree I2 (by show X.A.units + 1 + 1 + 8 < _; omega) h10 h11 h2 li hi trn (hk.push _) gl sz fun h3' tk3 c3 out k3 g3 ho => ⟨_, rfl, wpAny_pure ⟨_, rfl, ?_⟩⟩
  obtain ⟨ns, late, eo⟩ := ho
  have nn : H2 h'.objs.size = none := I2.hok.fresh sz
  have hlen : ns.length = as.length := by rw [late.perm.length_eq, List.length_range]
  refine ⟨.ref h'.objs.size, _, I2.laid (t' := tk3) k3 sz (show ObjOk _ _ _ _ _ (.lst (ns.map fun (j : Nat) => V.int (j : Int))) from ⟨by rw [List.length_map, hlen]; omega, out.toList, c3, ?_, by rw [g3]⟩), rfl, k ns _ late nn⟩
  rw [eo]
  have all : ∀ l : List Nat, (∀ j ∈ l, j < as.length) → Vals (l.map fun (j : Nat) => V.int (j : Int)) (l.map fun j => items.getD j .none) := by
    intro l
    induction l with
    | nil => exact fun _ => .nil
    | cons j l ih =>
      intro hj
      obtain ⟨t', e'⟩ := hi j (hj j (List.mem_cons_self ..))
      refine .cons ⟨t', ?_⟩ (ih fun x hx => hj x (List.mem_cons_of_mem _ hx))
      show items.getD j .none = _
      rw [List.getD_eq_getElem?_getD, e']
      rfl
  exact all ns fun j hj => List.mem_range.mp (late.perm.mem_iff.mp hj)
end
end VP
namespace VS
open Rb19 Rb19Neutral
theorem mem_dups {α : Type} [BEq α] [LawfulBEq α] (l : List α) (x : α) : x ∈ l.eraseDups ↔ x ∈ l := List.mem_eraseDups
theorem needed_up (k : Kept) (c : Choice) (n p : Nat) (h : p ∈ neededBy k c n) : p ∈ neededBy k c (n + 1) := by
  show p ∈ neededBy k c n ++ _
  exact List.mem_append_left _ h
theorem needed_mono (k : Kept) (c : Choice) {m n p : Nat} (hmn : m ≤ n) (h : p ∈ neededBy k c m) : p ∈ neededBy k c n := by
  induction hmn with
  | refl => exact h
  | step _ ih => exact needed_up k c _ p ih
theorem needed_step {k : Kept} {c : Choice} {n p : Nat} {x : Item} {a : Ask} (h : p ∈ neededBy k c n) (hx : chosen k c p = some x) (ha : a ∈ x.asks) : a.package ∈ neededBy k c (n + 1) := by
  show a.package ∈ neededBy k c n ++ _
  refine List.mem_append_right _ ((mem_dups _ _).mpr (List.mem_flatMap.mpr ⟨p, h, ?_⟩))
  rw [hx]
  exact List.mem_map.mpr ⟨a, ha, rfl⟩
theorem needed_out {k : Kept} {c : Choice} {a : Ask} (n : Nat) (ha : a ∈ k.asks) : a.package ∈ neededBy k c n := needed_mono k c (Nat.zero_le n) (List.mem_map.mpr ⟨a, ha, rfl⟩)
theorem needed_in {k : Kept} {c : Choice} {R : List Nat} (ho : ∀ a ∈ k.asks, a.package ∈ R) (hi : ∀ p ∈ R, ∀ x, chosen k c p = some x → ∀ a ∈ x.asks, a.package ∈ R) : ∀ n p, p ∈ neededBy k c n → p ∈ R
  | 0, p, h => by
    obtain ⟨a, ha, rfl⟩ := List.mem_map.mp h
    exact ho a ha
  | n + 1, p, h => by
    rcases List.mem_append.mp (show p ∈ neededBy k c n ++ _ from h) with h | h
    · exact needed_in ho hi n p h
    · obtain ⟨q, hq, h⟩ := List.mem_flatMap.mp ((mem_dups _ _).mp h)
      cases e : chosen k c q with
      | none => rw [e] at h; cases h
      | some x =>
        rw [e] at h
        obtain ⟨a, ha, rfl⟩ := List.mem_map.mp h
        exact hi q (needed_in ho hi n q hq) x e a ha
theorem sub_len {α : Type} [DecidableEq α] : ∀ {l m : List α}, l.Nodup → (∀ x ∈ l, x ∈ m) → l.length ≤ m.length
  | [], _, _, _ => Nat.zero_le _
  | a :: l, m, hn, hs => by
    have ha : a ∈ m := hs a (List.mem_cons_self ..)
    have h1 := sub_len (l := l) (m := m.erase a) (List.nodup_cons.mp hn).2 fun x hx => by
      refine (List.mem_erase_of_ne fun z => ?_).mpr (hs x (List.mem_cons_of_mem _ hx))
      rw [z] at hx
      exact (List.nodup_cons.mp hn).1 hx
    rw [List.length_erase_of_mem ha] at h1
    have := List.length_pos_of_mem ha
    rw [List.length_cons]
    omega
theorem sub_full {α : Type} [DecidableEq α] {l m : List α} (hn : l.Nodup) (hs : ∀ x ∈ l, x ∈ m) (hl : m.length ≤ l.length) {y : α} (hy : y ∈ m) : y ∈ l := by
  by_cases h : y ∈ l
  · exact h
  · have := sub_len (l := y :: l) (m := m) (List.nodup_cons.mpr ⟨h, hn⟩) fun x hx => by
      rcases List.mem_cons.mp hx with rfl | hx
      · exact hy
      · exact hs x hx
    rw [List.length_cons] at this
    omega
theorem chosen_some {k : Kept} {c : Choice} {p : Nat} {x : Item} (h : chosen k c p = some x) : ∃ i, c[p]? = some (some i) ∧ (items k p)[i]? = some x := by
  unfold chosen at h
  cases e : c[p]? with
  | none => rw [e] at h; cases h
  | some o =>
    rw [e] at h
    cases o with
    | none => cases h
    | some i => exact ⟨i, rfl, h⟩
theorem chosen_of {k : Kept} {c : Choice} {p i : Nat} {x : Item} (h : c[p]? = some (some i)) (hx : (items k p)[i]? = some x) : chosen k c p = some x := by
  unfold chosen
  rw [h]
  exact hx
theorem right_no_out {k : Kept} {c : Choice} {a : Ask} (ha : a ∈ k.asks) (hm : meets k c a = false) : isRight k c = false := by
  unfold isRight
  rw [Bool.and_eq_false_iff]
  right
  rw [Bool.eq_false_iff]
  intro h
  rw [List.all_eq_true.mp h a ha] at hm
  cases hm
theorem right_no_in {k : Kept} {c : Choice} {p : Nat} {x : Item} {a : Ask} (hl : c.length = k.packages.length) (hx : chosen k c p = some x) (ha : a ∈ x.asks) (hm : meets k c a = false) : isRight k c = false := by
  unfold isRight
  rw [Bool.and_eq_false_iff]
  left
  rw [Bool.eq_false_iff]
  intro h
  obtain ⟨i, hi, _⟩ := chosen_some hx
  have hp : p < k.packages.length := by rw [← hl]; exact (List.getElem?_eq_some_iff.mp hi).1
  have h1 := List.all_eq_true.mp h p (List.mem_range.mpr hp)
  simp only [hx] at h1
  rw [Bool.and_eq_true] at h1
  rw [List.all_eq_true.mp h1.2 a ha] at hm
  cases hm
def count (c : Choice) : Nat := (c.filter Option.isSome).length
def picks (c : Choice) : List Nat := (List.range c.length).filter fun p => ((c[p]?).getD none).isSome
theorem range_get (c : Choice) : (List.range c.length).map (fun p => (c[p]?).getD none) = c := by
  refine List.ext_getElem? fun i => ?_
  rw [List.getElem?_map]
  by_cases h : i < c.length
  · rw [List.getElem?_range h, List.getElem?_eq_getElem h]
    simp [List.getElem?_eq_getElem h]
  · rw [List.getElem?_eq_none (by simpa using h), List.getElem?_eq_none (by simpa using h)]
    rfl
theorem picks_len (c : Choice) : (picks c).length = count c := by
  have h : count c = (((List.range c.length).map (fun p => (c[p]?).getD none)).filter Option.isSome).length := by rw [range_get]; rfl
  rw [h, List.filter_map, List.length_map]
  rfl
theorem right_end {k : Kept} {c : Choice} {R : List Nat} (hl : c.length = k.packages.length) (hv : ∀ p i, c[p]? = some (some i) → i < (items k p).length) (hn : R.Nodup)
    (hR : ∀ p ∈ R, p ∈ neededBy k c k.packages.length ∧ ∃ x, chosen k c p = some x) (ho : ∀ a ∈ k.asks, meets k c a = true ∧ a.package ∈ R)
    (hi : ∀ p ∈ R, ∀ x, chosen k c p = some x → ∀ a ∈ x.asks, meets k c a = true ∧ a.package ∈ R) : isRight k c = decide (R.length = count c) := by
  have hsub : ∀ p ∈ R, p ∈ picks c := fun p hp => by
    obtain ⟨_, x, hx⟩ := hR p hp
    obtain ⟨i, hi, _⟩ := chosen_some hx
    exact List.mem_filter.mpr ⟨List.mem_range.mpr (List.getElem?_eq_some_iff.mp hi).1, by rw [hi]; rfl⟩
  have hclosed : ∀ p ∈ neededBy k c k.packages.length, p ∈ R := fun p h => needed_in (fun a ha => (ho a ha).2) (fun q hq x hx a ha => (hi q hq x hx a ha).2) _ p h
  have hle := sub_len hn hsub
  rw [picks_len] at hle
  by_cases hc : R.length = count c
  · rw [decide_eq_true hc]
    unfold isRight
    rw [Bool.and_eq_true]
    refine ⟨List.all_eq_true.mpr fun p hp => ?_, List.all_eq_true.mpr fun a ha => (ho a ha).1⟩
    cases e : chosen k c p with
    | none => rfl
    | some x =>
      obtain ⟨i, hi', _⟩ := chosen_some e
      have hpk : p ∈ picks c := List.mem_filter.mpr ⟨List.mem_range.mpr (List.getElem?_eq_some_iff.mp hi').1, by rw [hi']; rfl⟩
      have hpR : p ∈ R := sub_full hn hsub (by rw [picks_len]; omega) hpk
      rw [Bool.and_eq_true]
      exact ⟨List.contains_iff_mem.mpr ((mem_dups _ _).mpr (hR p hpR).1), List.all_eq_true.mpr fun a ha => (hi p hpR x e a ha).1⟩
  · rw [decide_eq_false hc, Bool.eq_false_iff]
    intro h
    apply hc
    refine Nat.le_antisymm hle ?_
    rw [← picks_len]
    unfold isRight at h
    rw [Bool.and_eq_true] at h
    have hpn : (picks c).Nodup := List.Pairwise.filter _ List.nodup_range
    refine sub_len hpn fun p hp => ?_
    obtain ⟨hp1, hp2⟩ := List.mem_filter.mp hp
    have hp1 := List.mem_range.mp hp1
    cases e : c[p]? with
    | none => rw [e] at hp2; cases hp2
    | some o =>
      rw [e] at hp2
      cases o with
      | none => cases hp2
      | some i =>
        have hx := chosen_of e (List.getElem?_eq_getElem (hv p i e))
        have h1 := List.all_eq_true.mp h.1 p (List.mem_range.mpr (by omega))
        simp only [hx] at h1
        rw [Bool.and_eq_true] at h1
        exact hclosed p ((mem_dups _ _).mp (List.contains_iff_mem.mp h1.1))
def prod {α : Type} : List (List α) → List (List α)
  | [] => [[]]
  | r :: rs => r.flatMap fun o => (prod rs).map fun c => o :: c
theorem choices_prod (k : Kept) : ∀ n, n ≤ k.packages.length → choices k n = prod ((List.range' (k.packages.length - n) n).map (options k))
  | 0, _ => rfl
  | n + 1, h => by
    show ((options k (k.packages.length - (n + 1))).flatMap fun o => (choices k n).map fun c => o :: c) = _
    rw [choices_prod k n (by omega), List.range'_succ, show k.packages.length - (n + 1) + 1 = k.packages.length - n by omega]
    rfl
theorem flat_get {α β : Type} (f : α → List β) (P : Nat) (hP : 0 < P) (hf : ∀ o, (f o).length = P) : ∀ (r : List α) (j : Nat), (r.flatMap f)[j]? = (r[j / P]?).bind fun o => (f o)[j % P]?
  | [], j => by simp
  | a :: r, j => by
    rw [List.flatMap_cons]
    by_cases h : j < P
    · rw [List.getElem?_append_left (by rw [hf]; exact h), Nat.div_eq_of_lt h, Nat.mod_eq_of_lt h]
      rfl
    · have h : P ≤ j := Nat.le_of_not_lt h
      rw [List.getElem?_append_right (by rw [hf]; exact h), hf, flat_get f P hP hf r (j - P), Nat.div_eq_sub_div hP h, Nat.mod_eq_sub_mod h]
      rfl
theorem prod_len {α : Type} (r : List α) (rs : List (List α)) : (prod (r :: rs)).length = r.length * (prod rs).length := by
  show (r.flatMap fun o => (prod rs).map fun c => o :: c).length = _
  rw [List.length_flatMap]
  simp [List.map_const', List.sum_replicate_nat]
theorem prod_step {α : Type} {r : List α} {rs : List (List α)} {q : Nat} {D : List α} {o : α} (hD : (prod rs)[q % (prod rs).length]? = some D) (ho : r[(q / (prod rs).length) % r.length]? = some o) :
    (prod (r :: rs))[q % (prod (r :: rs)).length]? = some (o :: D) := by
  have hP : 0 < (prod rs).length := by
    have := (List.getElem?_eq_some_iff.mp hD).1
    omega
  rw [prod_len]
  show (r.flatMap fun o => (prod rs).map fun c => o :: c)[_]? = _
  rw [flat_get _ (prod rs).length hP (fun o => List.length_map ..), Nat.mul_comm r.length, Nat.mod_mul_right_div_self, Nat.mod_mul_right_mod, ho]
  show ((prod rs).map fun c => o :: c)[q % (prod rs).length]? = _
  rw [List.getElem?_map, hD]
  rfl
theorem perm_uniq {α : Type} {R : α → α → Prop} (as : ∀ a b, R a b → R b a → False) : ∀ {l m : List α}, l.Perm m → l.Pairwise R → m.Pairwise R → l = m
  | [], m, h, _, _ => (List.Perm.nil_eq h)
  | a :: l, [], h, _, _ => (List.Perm.eq_nil h)
  | a :: l, b :: m, h, hl, hm => by
    have hl' := List.pairwise_cons.mp hl
    have hm' := List.pairwise_cons.mp hm
    have e : a = b := by
      have h1 : a ∈ b :: m := h.mem_iff.mp (List.mem_cons_self ..)
      have h2 : b ∈ a :: l := h.mem_iff.mpr (List.mem_cons_self ..)
      rcases List.mem_cons.mp h1 with h1 | h1
      · exact h1
      · rcases List.mem_cons.mp h2 with h2 | h2
        · exact h2.symm
        · exact (as a b (hl'.1 b h2) (hm'.1 a h1)).elim
    subst e
    rw [perm_uniq as ((List.perm_cons a).mp h) hl'.2 hm'.2]
abbrev II := Item × Nat
def put (x : II) (r : List II) : List II := (r.takeWhile fun (y : II) => less x.1.version y.1.version) ++ x :: (r.dropWhile fun (y : II) => less x.1.version y.1.version)
def desc (x y : II) : Prop := less y.1.version x.1.version = true
theorem put_perm (x : II) (r : List II) : (put x r).Perm (x :: r) := by
  unfold put
  have h : (r.takeWhile (fun (y : II) => less x.1.version y.1.version) ++ r.dropWhile (fun (y : II) => less x.1.version y.1.version)).Perm r := by rw [List.takeWhile_append_dropWhile]
  exact (List.perm_middle).trans (h.cons x)
structure Lt : Prop where
  trans : ∀ u v w, less u v = true → less v w = true → less u w = true
  conn : ∀ u v, u ≠ v → less u v = false → less v u = true
  asym : ∀ u v, less u v = true → less v u = true → False
theorem put_sorted (L : Lt) (x : II) : ∀ (r : List II), r.Pairwise desc → (∀ y ∈ r, y.1.version ≠ x.1.version) → (put x r).Pairwise desc
  | [], _, _ => List.pairwise_singleton ..
  | y :: r, hp, hn => by
    have hp' := List.pairwise_cons.mp hp
    cases e : less x.1.version y.1.version with
    | true =>
      have ep : put x (y :: r) = y :: put x r := by
        unfold put
        rw [List.takeWhile_cons, List.dropWhile_cons]
        simp [e]
      rw [ep]
      refine List.pairwise_cons.mpr ⟨fun z hz => ?_, put_sorted L x r hp'.2 fun z hz => hn z (List.mem_cons_of_mem _ hz)⟩
      rcases List.mem_cons.mp ((put_perm x r).mem_iff.mp hz) with rfl | hz
      · exact e
      · exact hp'.1 z hz
    | false =>
      have ep : put x (y :: r) = x :: y :: r := by
        unfold put
        rw [List.takeWhile_cons, List.dropWhile_cons]
        simp [e]
      rw [ep]
      have h1 : desc x y := L.conn _ _ (fun z => hn y (List.mem_cons_self ..) z.symm) e
      refine List.pairwise_cons.mpr ⟨fun z hz => ?_, hp⟩
      rcases List.mem_cons.mp hz with rfl | hz
      · exact h1
      · exact L.trans _ _ _ (hp'.1 z hz) h1
theorem fold_perm : ∀ l : List II, (l.foldr put []).Perm l
  | [] => List.Perm.refl _
  | x :: l => (put_perm x _).trans ((fold_perm l).cons x)
theorem fold_sorted (L : Lt) : ∀ l : List II, (l.map fun x => x.1.version).Nodup → (l.foldr put []).Pairwise desc
  | [], _ => List.Pairwise.nil
  | x :: l, h => by
    rw [List.map_cons] at h
    have h' := List.nodup_cons.mp h
    refine put_sorted L x _ (fold_sorted L l h'.2) fun y hy z => h'.1 ?_
    rw [← z]
    exact List.mem_map.mpr ⟨y, (fold_perm l).mem_iff.mp hy, rfl⟩
theorem options_is (k : Kept) (p : Nat) : options k p = none :: ((items k p).zipIdx.foldr put []).map fun x => some x.2 := rfl
theorem options_of (L : Lt) {k : Kept} {p : Nat} {ns : List Nat} (hv : ((items k p).map fun x => x.version).Nodup) (hp : ns.Perm (List.range (items k p).length))
    (hs : ns.Pairwise fun i j => ∀ x y, (items k p)[i]? = some x → (items k p)[j]? = some y → less y.version x.version = true) : options k p = none :: ns.map some := by
  rw [options_is]
  generalize items k p = it at hv hp hs
  have h1 := fold_perm it.zipIdx
  have h2 := fold_sorted L it.zipIdx (by
    have e : (it.zipIdx.map fun x => x.1.version) = (it.zipIdx.map Prod.fst).map fun x => x.version := by rw [List.map_map]; rfl
    rw [e, List.zipIdx_map_fst]
    exact hv)
  have hz : ∀ x : II, x ∈ it.zipIdx.foldr put [] → it[x.2]? = some x.1 := fun x hx => List.mem_zipIdx_iff_getElem?.mp (h1.mem_iff.mp hx)
  have e : ((it.zipIdx.foldr put []).map Prod.snd) = ns := by
    refine perm_uniq (R := fun i j => i < it.length ∧ j < it.length ∧ ∀ x y, it[i]? = some x → it[j]? = some y → less y.version x.version = true) ?_ ?_ ?_ ?_
    · rintro i j ⟨hi, hj, h⟩ ⟨_, _, h'⟩
      exact L.asym _ _ (h _ _ (List.getElem?_eq_getElem hi) (List.getElem?_eq_getElem hj)) (h' _ _ (List.getElem?_eq_getElem hj) (List.getElem?_eq_getElem hi))
    · have h3 := h1.map Prod.snd
      rw [List.zipIdx_map_snd] at h3
      rw [List.range_eq_range'] at hp
      exact h3.trans hp.symm
    · rw [List.pairwise_map]
      refine List.Pairwise.imp_of_mem (R := desc) (fun {x y} hx hy h => ?_) h2
      have hx := hz x hx
      have hy := hz y hy
      refine ⟨(List.getElem?_eq_some_iff.mp hx).1, (List.getElem?_eq_some_iff.mp hy).1, fun x' y' ex ey => ?_⟩
      rw [hx] at ex
      rw [hy] at ey
      cases ex
      cases ey
      exact h
    · refine List.Pairwise.imp_of_mem (fun {i j} hi hj h => ?_) hs
      exact ⟨List.mem_range.mp (hp.mem_iff.mp hi), List.mem_range.mp (hp.mem_iff.mp hj), h⟩
  rw [← e, List.map_map]
  rfl
theorem whole_id (c : List (List Int)) : PyRb19.whole c = c := by
  unfold PyRb19.whole
  split <;> rfl
theorem calls_some {l : List Int} {cs : List (List (List Int))} (h : PyRb19.calls l = some cs) : PyFlat.calls PyRb19.shape l.length l = some cs := by
  unfold PyRb19.calls at h
  split at h
  · cases h
  · next ds e =>
    rw [e]
    have h := Option.some.inj h
    rw [show ds.map PyRb19.whole = ds from by rw [show PyRb19.whole = id from funext whole_id, List.map_id]] at h
    rw [h]
end VS
namespace VP
open PySem PySem.Spec PyProof.Rows L2 VO VM
open Rb19 (B Word Version Span)
def fAsk (o g v : V) : List (Str × V) := putF "verdicts" v (putF "groups" g (putF "on" o []))
def fRel (v l : V) : List (Str × V) := putF "asks" l (putF "version" v [])
def fPack (r n : V) : List (Str × V) := putF "numbers" n (putF "releases" r [])
def fSes (p n w : V) : List (Str × V) := putF "wants" w (putF "numbers" n (putF "packages" p []))
theorem fAsk_on (o g v : V) : (fAsk o g v).lookup ("on" : Str) = some o := by
  unfold fAsk; rw [lookup_putF, if_neg (by decide +kernel), lookup_putF, if_neg (by decide +kernel), lookup_putF, if_pos rfl]
theorem fAsk_groups (o g v : V) : (fAsk o g v).lookup ("groups" : Str) = some g := by
  unfold fAsk; rw [lookup_putF, if_neg (by decide +kernel), lookup_putF, if_pos rfl]
theorem fAsk_verdicts (o g v : V) : (fAsk o g v).lookup ("verdicts" : Str) = some v := by
  unfold fAsk; rw [lookup_putF, if_pos rfl]
theorem fAsk_no (o g v : V) {m : Str} (h1 : ¬ m = "on") (h2 : ¬ m = "groups") (h3 : ¬ m = "verdicts") : (fAsk o g v).lookup m = none := by
  unfold fAsk; rw [lookup_putF, if_neg h3, lookup_putF, if_neg h2, lookup_putF, if_neg h1]; rfl
theorem fRel_version (v l : V) : (fRel v l).lookup ("version" : Str) = some v := by
  unfold fRel; rw [lookup_putF, if_neg (by decide +kernel), lookup_putF, if_pos rfl]
theorem fRel_asks (v l : V) : (fRel v l).lookup ("asks" : Str) = some l := by
  unfold fRel; rw [lookup_putF, if_pos rfl]
theorem fPack_releases (r n : V) : (fPack r n).lookup ("releases" : Str) = some r := by
  unfold fPack; rw [lookup_putF, if_neg (by decide +kernel), lookup_putF, if_pos rfl]
theorem fPack_numbers (r n : V) : (fPack r n).lookup ("numbers" : Str) = some n := by
  unfold fPack; rw [lookup_putF, if_pos rfl]
theorem fPack_no (r n : V) {m : Str} (h1 : ¬ m = "releases") (h2 : ¬ m = "numbers") : (fPack r n).lookup m = none := by
  unfold fPack; rw [lookup_putF, if_neg h2, lookup_putF, if_neg h1]; rfl
theorem fSes_packages (p n w : V) : (fSes p n w).lookup ("packages" : Str) = some p := by
  unfold fSes; rw [lookup_putF, if_neg (by decide +kernel), lookup_putF, if_neg (by decide +kernel), lookup_putF, if_pos rfl]
theorem fSes_numbers (p n w : V) : (fSes p n w).lookup ("numbers" : Str) = some n := by
  unfold fSes; rw [lookup_putF, if_neg (by decide +kernel), lookup_putF, if_pos rfl]
theorem fSes_wants (p n w : V) : (fSes p n w).lookup ("wants" : Str) = some w := by
  unfold fSes; rw [lookup_putF, if_pos rfl]
theorem fSes_no (p n w : V) {m : Str} (h1 : ¬ m = "packages") (h2 : ¬ m = "numbers") (h3 : ¬ m = "wants") : (fSes p n w).lookup m = none := by
  unfold fSes; rw [lookup_putF, if_neg h3, lookup_putF, if_neg h2, lookup_putF, if_neg h1]; rfl
structure AskS where
  a : Addr
  vd : Addr
  on : Nat
  gs : List (List Bd)
  cond : List (List Span)
structure RelS where
  a : Addr
  al : Addr
  u : Version
  asks : List AskS
structure PackS where
  a : Addr
  rl : Addr
  nd : Addr
  name : B
  rels : List RelS
structure SesS where
  a : Addr
  pl : Addr
  nd : Addr
  wl : Addr
  packs : List PackS
  wants : List AskS
def AskS.spec (x : AskS) : Rb19.Ask := ⟨x.on, x.cond⟩
def RelS.spec (r : RelS) : Rb19.Item := ⟨r.u, r.asks.map AskS.spec⟩
def PackS.spec (p : PackS) : B × List Rb19.Item := (p.name, p.rels.map RelS.spec)
def keptOf (S : SesS) : Rb19.Kept := ⟨S.packs.map PackS.spec, S.wants.map AskS.spec⟩
inductive Slot where
  | pl | wl
  | rl (p : Nat)
  | al (p i : Nat)
def relAt (S : SesS) (p i : Nat) : Option RelS := (S.packs[p]?).bind fun k => k.rels[i]?
def addr (S : SesS) : Slot → Option Addr
  | .pl => some S.pl
  | .wl => some S.wl
  | .rl p => (S.packs[p]?).map PackS.rl
  | .al p i => (relAt S p i).map RelS.al
inductive ASlot where
  | w (j : Nat)
  | r (p i j : Nat)
def askAt (S : SesS) : ASlot → Option AskS
  | .w j => S.wants[j]?
  | .r p i j => (relAt S p i).bind fun r => r.asks[j]?
def vers (S : SesS) (p : Nat) : List Version := ((S.packs[p]?).map fun k => k.rels.map RelS.u).getD []
structure Verd (kvs : List (Key × V)) (us : List Version) (gs : List (List Bd)) : Prop where
  nd : (kvs.map (·.1)).Nodup
  is : ∀ k v, (k, v) ∈ kvs → ∃ (j : Nat) (u : Version), k = .inl (j : Int) ∧ us[j]? = some u ∧ v = .bl (keepC u gs)
structure Cs where
  A : Addr
  R : Addr
  P : Addr
  S : Addr
structure AskAt (C : Cs) (N : Addr → Prop) (H : Hp) (us : List Version) (x : AskS) : Prop where
  ins : ∃ dx g, H x.a = some (.ins C.A dx (fAsk (.int (x.on : Int)) g (.ref x.vd))) ∧ CndAt N H g x.gs
  len : x.gs.length ≤ 1000 ∧ ∀ g ∈ x.gs, g.length ≤ 1000
  cond : ∀ v, Rb19.holds x.cond v = keepC v x.gs
  dict : ∃ kvs, H x.vd = some (.dK kvs) ∧ Verd kvs us x.gs
structure RelAt (C : Cs) (H : Hp) (r : RelS) : Prop where
  ins : ∃ dx b, H r.a = some (.ins C.R dx (fRel (.ref b) (.ref r.al))) ∧ VerAt H (.ref b) r.u
  lst : H r.al = some (.lst (r.asks.map fun x => .ref x.a))
  few : r.asks.length ≤ 16
def NumsAt (xs : List VX) (rs : List RelS) : Prop := xs.map (fun x => (x.1, x.2.2)) = (rs.map RelS.u).zipIdx
structure PackAt (P : Program) (w : World) (C : Cs) (H : Hp) (k : PackS) : Prop where
  ins : ∃ dx, H k.a = some (.ins C.P dx (fPack (.ref k.rl) (.ref k.nd)))
  lst : H k.rl = some (.lst (k.rels.map fun r => .ref r.a))
  dict : ∃ xs, H k.nd = some (DV P w k.nd xs) ∧ Keys H xs ∧ NumsAt xs k.rels
  few : k.rels.length ≤ 32
  diff : (k.rels.map RelS.u).Nodup
def nameK (l : B) : List Key := l.map fun (n : Nat) => (Sum.inl (n : Int) : Key)
def namesK (l : List B) : List (List Key × V) := l.zipIdx.map fun k => (nameK k.1, V.int ((k.2 : Nat) : Int))
structure At (P : Program) (w : World) (C : Cs) (H : Hp) (S : SesS) : Prop where
  ins : ∃ dx, H S.a = some (.ins C.S dx (fSes (.ref S.pl) (.ref S.nd) (.ref S.wl)))
  pl : H S.pl = some (.lst (S.packs.map fun k => .ref k.a))
  nd : H S.nd = some (.dT (namesK (S.packs.map PackS.name)))
  wl : H S.wl = some (.lst (S.wants.map fun x => .ref x.a))
  packs : ∀ (p : Nat) k, S.packs[p]? = some k → PackAt P w C H k
  rels : ∀ (p i : Nat) r, relAt S p i = some r → RelAt C H r
  asks : ∀ s x, askAt S s = some x → AskAt C (fun b => ∀ t, addr S t ≠ some b) H (vers S x.on) x
  on : ∀ s x, askAt S s = some x → x.on < S.packs.length
  few : S.packs.length ≤ 32 ∧ S.wants.length ≤ 16
  names : (S.packs.map PackS.name).Nodup
  inj : ∀ s t a, addr S s = some a → addr S t = some a → s = t
  injV : ∀ s t x y, askAt S s = some x → askAt S t = some y → x.vd = y.vd → s = t
  injN : ∀ (p q : Nat) k l, S.packs[p]? = some k → S.packs[q]? = some l → k.nd = l.nd → p = q
theorem CndAt.keep2 {N N' : Addr → Prop} {H H' : Hp} (s : ∀ b xs, H b = some (.tup xs) → H' b = some (.tup xs)) (sl : ∀ p vs, N p → H p = some (.lst vs) → N' p ∧ H' p = some (.lst vs)) {v : V} {g : List (List Bd)} : CndAt N H v g → CndAt N' H' v g :=
  fun ⟨p, vs, h0, h1, h2, h3⟩ => ⟨p, vs, h0, (sl p vs h1 h2).1, (sl p vs h1 h2).2, L2.Paired.mapP h3 fun _ _ ⟨p, vs, h0, h1, h2, h3⟩ => ⟨p, vs, h0, (sl p vs h1 h2).1, (sl p vs h1 h2).2, L2.Paired.mapP h3 fun _ _ q => BdAt.tups s q⟩⟩
def Fix (Z : Addr → Prop) (H H' : Hp) : Prop := ∀ b o, H b = some o → ¬ Z b → H' b = some o
theorem Same.fix {H H' : Hp} (s : Same H H') (Z : Addr → Prop) : Fix Z H H' := fun b o e _ => s b o e
theorem Fix.trans {Z : Addr → Prop} {H H1 H2 : Hp} (a : Fix Z H H1) (b : Fix Z H1 H2) : Fix Z H H2 := fun c o e h => b c o (a c o e h) h
theorem Fix.upd {Z : Addr → Prop} {H H1 : Hp} {a : Addr} {o : HO} (s : Fix Z H H1) (h : Z a ∨ H a = none) : Fix Z H (upd H1 a o) := fun b q e hz => by
  have hb : b ≠ a := by
    rcases h with h | h
    · intro z; rw [z] at hz; exact hz h
    · exact ne_of_none e h
  rw [upd_ne hb]
  exact s b q e hz
theorem Fix.refl (Z : Addr → Prop) (H : Hp) : Fix Z H H := fun _ _ e _ => e
theorem Fix.mono {Z Z' : Addr → Prop} {H H1 : Hp} (s : Fix Z H H1) (h : ∀ b, Z b → Z' b) : Fix Z' H H1 := fun b o e hz => s b o e fun z => hz (h b z)
theorem VerAt.fix {Z : Addr → Prop} {H H' : Hp} (s : Fix Z H H') (ht : ∀ b xs, H b = some (.tup xs) → ¬ Z b) {v : V} {u : Version} : VerAt H v u → VerAt H' v u := VerAt.tups fun b xs e => s b _ e (ht b xs e)
section
variable {P : Program} {w : World} {C : Cs} {H H' : Hp} {S : SesS}
theorem RelAt.fix {Z : Addr → Prop} (s : Fix Z H H') (ht : ∀ b xs, H b = some (.tup xs) → ¬ Z b) (hi : ∀ b c d fs, H b = some (.ins c d fs) → ¬ Z b) {r : RelS} (h : RelAt C H r) (hl : ¬ Z r.al) : RelAt C H' r := by
  obtain ⟨⟨dx, b, h1, h2⟩, h3, h4⟩ := h
  exact ⟨⟨dx, b, s _ _ h1 (hi _ _ _ _ h1), h2.fix s ht⟩, s _ _ h3 hl, h4⟩
theorem PackAt.fix {Z : Addr → Prop} (s : Fix Z H H') (ht : ∀ b xs, H b = some (.tup xs) → ¬ Z b) (hi : ∀ b c d fs, H b = some (.ins c d fs) → ¬ Z b) {k : PackS} (h : PackAt P w C H k) (hl : ¬ Z k.rl) (hn : ¬ Z k.nd) : PackAt P w C H' k := by
  obtain ⟨⟨dx, h1⟩, h2, ⟨xs, h3, h4, h5⟩, h6, h7⟩ := h
  exact ⟨⟨dx, s _ _ h1 (hi _ _ _ _ h1)⟩, s _ _ h2 hl, ⟨xs, s _ _ h3 hn, fun x hx => (h4 x hx).fix s ht, h5⟩, h6, h7⟩
theorem AskAt.fix {Z : Addr → Prop} {N N' : Addr → Prop} {us us' : List Version} (s : Fix Z H H') (ht : ∀ b xs, H b = some (.tup xs) → ¬ Z b) (hi : ∀ b c d fs, H b = some (.ins c d fs) → ¬ Z b) (hN : ∀ b vs, N b → H b = some (.lst vs) → N' b ∧ ¬ Z b) (hu : ∃ more, us' = us ++ more)
    {x : AskS} (h : AskAt C N H us x) (hl : ¬ Z x.vd) : AskAt C N' H' us' x := by
  obtain ⟨⟨dx, g, h1, h2⟩, h3, h4, kvs, h5, h6, h7⟩ := h
  refine ⟨⟨dx, g, s _ _ h1 (hi _ _ _ _ h1), h2.keep2 (fun b xs e => s b _ e (ht b xs e)) fun b vs hb e => ⟨(hN b vs hb e).1, s _ _ e (hN b vs hb e).2⟩⟩, h3, h4, kvs, s _ _ h5 hl, h6, fun k v hk => ?_⟩
  obtain ⟨j, u, e1, e2, e3⟩ := h7 k v hk
  obtain ⟨more, rfl⟩ := hu
  exact ⟨j, u, e1, by rw [List.getElem?_append_left (List.getElem?_eq_some_iff.mp e2).1]; exact e2, e3⟩
theorem At.same (s : Same H H') (h : At P w C H S) : At P w C H' S := by
  have s' : Fix (fun _ => False) H H' := Same.fix s _
  obtain ⟨dx, h1⟩ := h.ins
  exact ⟨⟨dx, s _ _ h1⟩, s _ _ h.pl, s _ _ h.nd, s _ _ h.wl, fun p k e => (h.packs p k e).fix s' (fun _ _ _ z => z) (fun _ _ _ _ _ z => z) id id, fun p i r e => (h.rels p i r e).fix s' (fun _ _ _ z => z) (fun _ _ _ _ _ z => z) id,
    fun t x e => (h.asks t x e).fix s' (fun _ _ _ z => z) (fun _ _ _ _ _ z => z) (fun _ _ n _ => ⟨n, id⟩) ⟨[], by simp⟩ id, h.on, h.few, h.names, h.inj, h.injV, h.injN⟩
def VD (S : SesS) : Addr → Prop := fun b => ∃ s x, askAt S s = some x ∧ x.vd = b
theorem At.verd {s : ASlot} {x : AskS} {kvs : List (Key × V)} (h : At P w C H S) (hx : askAt S s = some x) (sm : Fix (fun b => b = x.vd) H H') (hk : H' x.vd = some (.dK kvs)) (hv : Verd kvs (vers S x.on) x.gs) : At P w C H' S := by
  obtain ⟨k0, h0, _⟩ := (h.asks s x hx).dict
  have ht : ∀ b xs, H b = some (.tup xs) → ¬ b = x.vd := fun b xs e z => by rw [z, h0] at e; cases e
  have hi : ∀ b c d fs, H b = some (.ins c d fs) → ¬ b = x.vd := fun b c d fs e z => by rw [z, h0] at e; cases e
  have hl : ∀ b xs, H b = some (.lst xs) → ¬ b = x.vd := fun b xs e z => by rw [z, h0] at e; cases e
  obtain ⟨dx, h1⟩ := h.ins
  refine ⟨⟨dx, sm _ _ h1 (hi _ _ _ _ h1)⟩, sm _ _ h.pl (hl _ _ h.pl), sm _ _ h.nd (fun z => by have := h.nd; rw [z, h0] at this; cases this), sm _ _ h.wl (hl _ _ h.wl), fun p k e => ?_, fun p i r e => ?_, fun t y e => ?_, h.on, h.few, h.names, h.inj, h.injV, h.injN⟩
  · have q := h.packs p k e
    obtain ⟨xs, g1, _⟩ := q.dict
    exact q.fix sm ht hi (hl _ _ q.lst) fun z => by rw [z, h0] at g1; cases g1
  · have q := h.rels p i r e
    exact q.fix sm ht hi (hl _ _ q.lst)
  · have q := h.asks t y e
    by_cases hst : s = t
    · subst hst
      rw [hx] at e
      cases e
      obtain ⟨⟨dx', g, g1, g2⟩, g3, g4, _⟩ := q
      exact ⟨⟨dx', g, sm _ _ g1 (hi _ _ _ _ g1), g2.keep2 (fun b xs e => sm b _ e (ht b xs e)) fun b vs hb e => ⟨hb, sm _ _ e (hl _ _ e)⟩⟩, g3, g4, kvs, hk, hv⟩
    · exact q.fix sm ht hi (fun b vs n e => ⟨n, hl _ _ e⟩) ⟨[], by simp⟩ fun z => hst (h.injV s t x y hx e z.symm)
end
end VP
namespace VP
open PySem PySem.Spec PyProof.Rows L2 VO VM
open Rb19 (B Word Version Span)
theorem mod_get {α : Type} {l : List α} {p : Nat} {f : α → α} {q : Nat} {y : α} (h : (l.modify p f)[q]? = some y) : (p = q ∧ ∃ x, l[q]? = some x ∧ y = f x) ∨ (p ≠ q ∧ l[q]? = some y) := by
  rw [List.getElem?_modify] at h
  cases e : l[q]? with
  | none => rw [e] at h; cases h
  | some x =>
    rw [e] at h
    have h : (if p = q then f x else x) = y := Option.some.inj h
    by_cases hp : p = q
    · rw [if_pos hp] at h
      exact .inl ⟨hp, x, rfl, h.symm⟩
    · rw [if_neg hp] at h
      exact .inr ⟨hp, by rw [h]⟩
theorem mod_at {α : Type} {l : List α} {p : Nat} {f : α → α} {x : α} (h : l[p]? = some x) : (l.modify p f)[p]? = some (f x) := by
  rw [List.getElem?_modify, h]
  show some (if p = p then f x else x) = _
  rw [if_pos rfl]
theorem mod_ne {α : Type} {l : List α} {p q : Nat} {f : α → α} (h : p ≠ q) : (l.modify p f)[q]? = l[q]? := by
  rw [List.getElem?_modify]
  cases l[q]? with
  | none => rfl
  | some x =>
    show some (if p = q then f x else x) = _
    rw [if_neg h]
theorem mod_map {α β : Type} {l : List α} {p : Nat} {f : α → α} {g : α → β} (h : ∀ x, l[p]? = some x → g (f x) = g x) : (l.modify p f).map g = l.map g := by
  refine List.ext_getElem? fun q => ?_
  rw [List.getElem?_map, List.getElem?_map, List.getElem?_modify]
  cases e : l[q]? with
  | none => rfl
  | some x =>
    show some (g (if p = q then f x else x)) = some (g x)
    by_cases hp : p = q
    · subst hp
      rw [if_pos rfl, h x e]
    · rw [if_neg hp]
theorem map_mod {α β : Type} {l : List α} {p : Nat} {f : α → α} {g : α → β} {f' : β → β} (h : ∀ x, l[p]? = some x → g (f x) = f' (g x)) : (l.modify p f).map g = (l.map g).modify p f' := by
  refine List.ext_getElem? fun q => ?_
  rw [List.getElem?_map, List.getElem?_modify, List.getElem?_modify, List.getElem?_map]
  cases e : l[q]? with
  | none => rfl
  | some x =>
    show some (g (if p = q then f x else x)) = some (if p = q then f' (g x) else g x)
    by_cases hp : p = q
    · subst hp
      rw [if_pos rfl, if_pos rfl, h x e]
    · rw [if_neg hp, if_neg hp]
def MU (S : SesS) : Addr → Prop := fun b => (∃ s, addr S s = some b) ∨ VD S b ∨ b = S.nd ∨ ∃ (p : Nat) (k : PackS), S.packs[p]? = some k ∧ k.nd = b
section
variable {P : Program} {w : World} {C : Cs} {H H' : Hp} {S : SesS}
theorem At.addr_lst (h : At P w C H S) {s : Slot} {b : Addr} (e : addr S s = some b) : ∃ xs, H b = some (.lst xs) := by
  cases s with
  | pl => cases e; exact ⟨_, h.pl⟩
  | wl => cases e; exact ⟨_, h.wl⟩
  | rl p =>
    obtain ⟨k, hk, rfl⟩ := Option.map_eq_some_iff.mp e
    exact ⟨_, (h.packs p k hk).lst⟩
  | al p i =>
    obtain ⟨r, hr, rfl⟩ := Option.map_eq_some_iff.mp e
    exact ⟨_, (h.rels p i r hr).lst⟩
theorem At.mu_some (h : At P w C H S) {b : Addr} (e : MU S b) : ∃ o, H b = some o ∧ (∀ xs, o ≠ .tup xs) ∧ (∀ c d fs, o ≠ .ins c d fs) ∧ (∀ ps, o ≠ .tbl ps) := by
  rcases e with ⟨s, e⟩ | ⟨s, x, hx, rfl⟩ | rfl | ⟨p, k, hk, rfl⟩
  · obtain ⟨xs, g⟩ := h.addr_lst e
    exact ⟨_, g, (fun _ z => by cases z), (fun _ _ _ z => by cases z), (fun _ z => by cases z)⟩
  · obtain ⟨kvs, g, _⟩ := (h.asks s x hx).dict
    exact ⟨_, g, (fun _ z => by cases z), (fun _ _ _ z => by cases z), (fun _ z => by cases z)⟩
  · exact ⟨_, h.nd, (fun _ z => by cases z), (fun _ _ _ z => by cases z), (fun _ z => by cases z)⟩
  · obtain ⟨xs, g, _⟩ := (h.packs p k hk).dict
    exact ⟨_, g, (fun _ z => by cases z), (fun _ _ _ z => by cases z), (fun _ z => by cases z)⟩
structure Evo (P : Program) (w : World) (C : Cs) (H H' : Hp) (S S' : SesS) : Prop where
  at_ : At P w C H' S'
  self : S'.a = S.a
  fix : Fix (MU S) H H'
  grow : ∀ b, MU S' b → MU S b ∨ H b = none
theorem Evo.refl (h : At P w C H S) : Evo P w C H H S S := ⟨h, rfl, Fix.refl _ _, fun _ z => .inl z⟩
theorem Evo.same (s : Same H H') (h : At P w C H S) : Evo P w C H H' S S := ⟨h.same s, rfl, Same.fix s _, fun _ z => .inl z⟩
theorem Evo.trans {H1 H2 : Hp} {S1 S2 : SesS} (a : Evo P w C H H1 S S1) (b : Evo P w C H1 H2 S1 S2) : Evo P w C H H2 S S2 := by
  refine ⟨b.at_, b.self.trans a.self, fun c o e hz => b.fix c o (a.fix c o e hz) fun z => ?_, fun c hc => ?_⟩
  · rcases a.grow c z with z | z
    · exact hz z
    · rw [z] at e; cases e
  · rcases b.grow c hc with z | z
    · exact a.grow c z
    · cases e : H c with
      | none => exact .inr rfl
      | some o =>
        refine .inl (Classical.byContradiction fun n => ?_)
        rw [a.fix c o e n] at z
        cases z
def addR (k : PackS) (r : RelS) : PackS := { k with rels := k.rels ++ [r] }
def putR (S : SesS) (p : Nat) (r : RelS) : SesS := { S with packs := S.packs.modify p fun k => addR k r }
theorem putR_pack {p q : Nat} {r : RelS} {y : PackS} (h : (putR S p r).packs[q]? = some y) : (p = q ∧ ∃ k, S.packs[q]? = some k ∧ y = addR k r) ∨ (p ≠ q ∧ S.packs[q]? = some y) := mod_get h
theorem putR_rel {p : Nat} {k : PackS} {r : RelS} (hk : S.packs[p]? = some k) {q i : Nat} {y : RelS} (h : relAt (putR S p r) q i = some y) : (q = p ∧ i = k.rels.length ∧ y = r) ∨ relAt S q i = some y := by
  unfold relAt at h ⊢
  cases e : (putR S p r).packs[q]? with
  | none => rw [e] at h; cases h
  | some z =>
    rw [e] at h
    rcases putR_pack e with ⟨rfl, k', hk', rfl⟩ | ⟨_, hz⟩
    · rw [hk] at hk'
      cases hk'
      have h : (k.rels ++ [r])[i]? = some y := h
      by_cases hi : i < k.rels.length
      · rw [List.getElem?_append_left hi] at h
        exact .inr (by rw [hk]; exact h)
      · rw [List.getElem?_append_right (Nat.le_of_not_lt hi)] at h
        have h0 : i - k.rels.length < 1 := (List.getElem?_eq_some_iff.mp h).1
        have hi2 : i = k.rels.length := by omega
        rw [hi2, Nat.sub_self] at h
        exact .inl ⟨rfl, hi2, (Option.some.inj h).symm⟩
    · exact .inr (by rw [hz]; exact h)
theorem putR_relOld {p : Nat} {k : PackS} {r : RelS} (hk : S.packs[p]? = some k) {q i : Nat} {y : RelS} (h : relAt S q i = some y) : relAt (putR S p r) q i = some y := by
  unfold relAt at h ⊢
  cases e : S.packs[q]? with
  | none => rw [e] at h; cases h
  | some z =>
    rw [e] at h
    by_cases hp : p = q
    · subst hp
      show ((S.packs.modify p fun k => addR k r)[p]?).bind _ = _
      rw [mod_at e]
      show (z.rels ++ [r])[i]? = some y
      rw [List.getElem?_append_left (List.getElem?_eq_some_iff.mp h).1]
      exact h
    · show ((S.packs.modify p fun k => addR k r)[q]?).bind _ = _
      rw [mod_ne hp, e]
      exact h
theorem putR_ask {p : Nat} {k : PackS} {r : RelS} (hk : S.packs[p]? = some k) (hr : r.asks = []) {s : ASlot} {x : AskS} (h : askAt (putR S p r) s = some x) : askAt S s = some x := by
  cases s with
  | w j => exact h
  | r q i j =>
    obtain ⟨y, hy, h2⟩ := Option.bind_eq_some_iff.mp h
    rcases putR_rel hk hy with ⟨_, _, ey⟩ | hy
    · rw [ey, hr] at h2; cases h2
    · exact Option.bind_eq_some_iff.mpr ⟨y, hy, h2⟩
theorem putR_addr {p : Nat} {k : PackS} {r : RelS} (hk : S.packs[p]? = some k) {s : Slot} {b : Addr} (h : addr (putR S p r) s = some b) : (s = .al p k.rels.length ∧ b = r.al) ∨ addr S s = some b := by
  cases s with
  | pl => exact .inr h
  | wl => exact .inr h
  | rl q =>
    obtain ⟨y, hy, rfl⟩ := Option.map_eq_some_iff.mp h
    rcases putR_pack hy with ⟨rfl, k', hk', rfl⟩ | ⟨_, hy⟩
    · exact .inr (Option.map_eq_some_iff.mpr ⟨k', hk', rfl⟩)
    · exact .inr (Option.map_eq_some_iff.mpr ⟨y, hy, rfl⟩)
  | al q i =>
    obtain ⟨y, hy, rfl⟩ := Option.map_eq_some_iff.mp h
    rcases putR_rel hk hy with ⟨rfl, rfl, rfl⟩ | hy
    · exact .inl ⟨rfl, rfl⟩
    · exact .inr (Option.map_eq_some_iff.mpr ⟨y, hy, rfl⟩)
theorem putR_vers {p : Nat} {r : RelS} (q : Nat) : ∃ more, vers (putR S p r) q = vers S q ++ more := by
  unfold vers
  show ∃ more, (((S.packs.modify p fun k => addR k r)[q]?).map _).getD [] = _
  by_cases hp : p = q
  · subst hp
    cases e : S.packs[p]? with
    | none => exact ⟨[], by rw [List.getElem?_modify, e]; rfl⟩
    | some k =>
      rw [mod_at e]
      exact ⟨[r.u], by show (k.rels ++ [r]).map RelS.u = _; rw [List.map_append]; rfl⟩
  · rw [mod_ne hp]
    exact ⟨[], by simp⟩
theorem NumsAt.snoc {xs : List VX} {rs : List RelS} {u : Version} {b : Addr} {r : RelS} (h : NumsAt xs rs) (hu : r.u = u) : NumsAt (xs ++ [(u, b, rs.length)]) (rs ++ [r]) := by
  unfold NumsAt at h ⊢
  rw [List.map_append, List.map_append, List.zipIdx_append, h, List.length_map, ← hu, Nat.zero_add]
  rfl
theorem At.putR {H1 : Hp} {p : Nat} {k : PackS} {xs : List VX} {ra al b dx : Addr} {u : Version} (h : At P w C H S) (hk : S.packs[p]? = some k) (hx : H k.nd = some (DV P w k.nd xs)) (hxs : NumsAt xs k.rels) (hky : Keys H xs) (s1 : Same H H1) (na : H al = none)
    (g1 : H1 ra = some (.ins C.R dx (fRel (.ref b) (.ref al)))) (g2 : H1 al = some (.lst [])) (hb : VerAt H (.ref b) u) (hnew : u ∉ k.rels.map RelS.u) (hlen : k.rels.length < 32) :
    Evo P w C H (upd (upd H1 k.rl (.lst ((k.rels.map fun r => V.ref r.a) ++ [.ref ra]))) k.nd (DV P w k.nd (xs ++ [(u, b, k.rels.length)]))) S (putR S p ⟨ra, al, u, []⟩) := by
  have hP := h.packs p k hk
  have arl : addr S (.rl p) = some k.rl := Option.map_eq_some_iff.mpr ⟨k, hk, rfl⟩
  have Zrl : ∀ b o, H b = some o → (∀ xs, o ≠ .lst xs) → b ≠ k.rl := fun b o e ne z => by rw [z, hP.lst] at e; cases e; exact ne _ rfl
  have Znd : ∀ b o, H b = some o → o ≠ DV P w k.nd xs → b ≠ k.nd := fun b o e ne z => by rw [z, hx] at e; cases e; exact ne rfl
  have nrn : k.rl ≠ k.nd := fun z => by have := hP.lst; rw [z, hx] at this; cases this
  have nal : ∀ b o, H b = some o → b ≠ al := fun b o e => ne_of_none e na
  have fx : Fix (fun b => b = k.rl ∨ b = k.nd) H (upd (upd H1 k.rl (.lst ((k.rels.map fun r => V.ref r.a) ++ [.ref ra]))) k.nd (DV P w k.nd (xs ++ [(u, b, k.rels.length)]))) :=
    Fix.upd (Fix.upd (Same.fix s1 _) (.inl (.inl rfl))) (.inl (.inr rfl))
  have ht : ∀ b xs, H b = some (.tup xs) → ¬ (b = k.rl ∨ b = k.nd) := fun b xs e z => z.elim (Zrl b _ e fun _ z => by cases z) (Znd b _ e fun z => by cases z)
  have hi : ∀ b c d fs, H b = some (.ins c d fs) → ¬ (b = k.rl ∨ b = k.nd) := fun b c d fs e z => z.elim (Zrl b _ e fun _ z => by cases z) (Znd b _ e fun z => by cases z)
  have hl : ∀ s b, addr S s = some b → s ≠ .rl p → ¬ (b = k.rl ∨ b = k.nd) := fun s b e ne z => by
    rcases z with z | z
    · subst z; exact ne (h.inj _ _ _ e arl)
    · obtain ⟨ys, g⟩ := h.addr_lst e
      exact Znd b _ g (fun z => by cases z) z
  obtain ⟨dxs, hin⟩ := h.ins
  have nra : ra ≠ k.rl ∧ ra ≠ k.nd := ⟨(fun z => by rw [z, s1 _ _ hP.lst] at g1; cases g1), (fun z => by rw [z, s1 _ _ hx] at g1; cases g1)⟩
  have nal2 : al ≠ k.rl ∧ al ≠ k.nd := ⟨(nal _ _ hP.lst).symm, (nal _ _ hx).symm⟩
  have hv1 : VerAt (upd (upd H1 k.rl (.lst ((k.rels.map fun r => V.ref r.a) ++ [.ref ra]))) k.nd (DV P w k.nd (xs ++ [(u, b, k.rels.length)]))) (.ref b) u := hb.fix fx ht
  refine ⟨⟨⟨dxs, fx _ _ hin (hi _ _ _ _ hin)⟩, ?_, ?_, fx _ _ h.wl (hl .wl _ rfl fun z => by cases z), fun q y e => ?_, fun q i y e => ?_, fun s x e => ?_, fun s x e => ?_, ?_, ?_, fun s t a e1 e2 => ?_, fun s t x y e1 e2 => h.injV s t x y (putR_ask hk rfl e1) (putR_ask hk rfl e2), fun q q' y z e1 e2 e3 => ?_⟩, rfl, fx.mono fun b z => ?_, fun c hc => ?_⟩
  · have e : (VP.putR S p ⟨ra, al, u, []⟩).packs.map (fun k => V.ref k.a) = S.packs.map fun k => V.ref k.a := mod_map fun _ _ => rfl
    rw [e]
    exact fx _ _ h.pl (hl .pl _ rfl fun z => by cases z)
  · have e : (VP.putR S p ⟨ra, al, u, []⟩).packs.map PackS.name = S.packs.map PackS.name := mod_map fun _ _ => rfl
    rw [e]
    exact fx _ _ h.nd fun z => z.elim (Zrl _ _ h.nd fun _ z => by cases z) (Znd _ _ h.nd fun z => by cases z)
  · rcases putR_pack e with ⟨rfl, k', hk', rfl⟩ | ⟨hp, hy⟩
    · rw [hk] at hk'
      cases hk'
      obtain ⟨dx', g3⟩ := hP.ins
      refine ⟨⟨dx', fx _ _ g3 (hi _ _ _ _ g3)⟩, ?_, ⟨xs ++ [(u, b, k.rels.length)], upd_same, fun x hx' => ?_, hxs.snoc rfl⟩, ?_, ?_⟩
      · show upd (upd H1 k.rl _) k.nd _ k.rl = _
        rw [upd_ne nrn, upd_same]
        show some (HO.lst _) = some (HO.lst ((k.rels ++ [_]).map _))
        rw [List.map_append]
        rfl
      · rcases List.mem_append.mp hx' with hx' | hx'
        · exact (hky x hx').fix fx ht
        · have : x = (u, b, k.rels.length) := by simpa using hx'
          rw [this]
          exact hv1
      · show (k.rels ++ [_]).length ≤ 32
        rw [List.length_append]
        show k.rels.length + 1 ≤ 32
        omega
      · show ((k.rels ++ [_]).map RelS.u).Nodup
        rw [List.map_append, List.nodup_append]
        refine ⟨hP.diff, by simp, fun a ha c hc z => hnew ?_⟩
        have hc : c = u := by simpa using hc
        rw [← hc, ← z]
        exact ha
    · have q1 := h.packs q y hy
      obtain ⟨ys, g3, _⟩ := q1.dict
      refine q1.fix fx ht hi (hl (.rl q) _ (Option.map_eq_some_iff.mpr ⟨y, hy, rfl⟩) fun z => ?_) fun z => ?_
      · cases z; exact hp rfl
      · rcases z with z | z
        · have := hP.lst; rw [← z, g3] at this; cases this
        · exact hp (h.injN p q k y hk hy z.symm)
  · rcases putR_rel hk e with ⟨rfl, rfl, rfl⟩ | hy
    · refine ⟨⟨dx, b, ?_, hv1⟩, ?_, Nat.zero_le _⟩
      · show upd (upd H1 k.rl _) k.nd _ ra = _
        rw [upd_ne nra.2, upd_ne nra.1]
        exact g1
      · show upd (upd H1 k.rl _) k.nd _ al = _
        rw [upd_ne nal2.2, upd_ne nal2.1]
        exact g2
    · exact (h.rels q i y hy).fix fx ht hi (hl (.al q i) _ (Option.map_eq_some_iff.mpr ⟨y, hy, rfl⟩) fun z => by cases z)
  · have q1 := h.asks s x (putR_ask hk rfl e)
    obtain ⟨kvs, g3, _⟩ := q1.dict
    refine q1.fix fx ht hi (fun c vs hc e2 => ⟨fun t z => ?_, fun z => ?_⟩) (putR_vers _) fun z => ?_
    · rcases putR_addr hk z with ⟨_, rfl⟩ | z
      · rw [na] at e2; cases e2
      · exact hc t z
    · rcases z with z | z
      · exact hc (.rl p) (by rw [z]; exact arl)
      · exact Znd c _ e2 (fun z => by cases z) z
    · rcases z with z | z
      · exact Zrl _ _ g3 (fun _ z => by cases z) z
      · exact Znd _ _ g3 (fun z => by cases z) z
  · show x.on < (S.packs.modify p _).length
    rw [List.length_modify]
    exact h.on s x (putR_ask hk rfl e)
  · refine ⟨?_, h.few.2⟩
    show (S.packs.modify p _).length ≤ 32
    rw [List.length_modify]
    exact h.few.1
  · have e : (VP.putR S p ⟨ra, al, u, []⟩).packs.map PackS.name = S.packs.map PackS.name := mod_map fun _ _ => rfl
    rw [e]
    exact h.names
  · rcases putR_addr hk e1 with ⟨d1, d2⟩ | d1
    · rcases putR_addr hk e2 with ⟨c1, _⟩ | c1
      · rw [d1, c1]
      · obtain ⟨ys, g⟩ := h.addr_lst c1
        exact absurd d2 (nal _ _ g)
    · rcases putR_addr hk e2 with ⟨c1, c2⟩ | c1
      · obtain ⟨ys, g⟩ := h.addr_lst d1
        exact absurd c2 (nal _ _ g)
      · exact h.inj s t a d1 c1
  · have back : ∀ {q : Nat} {y : PackS}, (VP.putR S p ⟨ra, al, u, []⟩).packs[q]? = some y → ∃ y', S.packs[q]? = some y' ∧ y'.nd = y.nd := fun {q y} e => by
      rcases putR_pack e with ⟨rfl, k', hk', rfl⟩ | ⟨_, hy⟩
      · exact ⟨k', hk', rfl⟩
      · exact ⟨y, hy, rfl⟩
    obtain ⟨y', h1, h2⟩ := back e1
    obtain ⟨z', h3, h4⟩ := back e2
    exact h.injN q q' y' z' h1 h3 (by rw [h2, h4]; exact e3)
  · rcases z with rfl | rfl
    · exact .inl ⟨_, arl⟩
    · exact .inr (.inr (.inr ⟨p, k, hk, rfl⟩))
  · rcases hc with ⟨s, e⟩ | ⟨s, x, e, rfl⟩ | rfl | ⟨q, y, e, rfl⟩
    · rcases putR_addr hk e with ⟨_, rfl⟩ | e
      · exact .inr na
      · exact .inl (.inl ⟨s, e⟩)
    · exact .inl (.inr (.inl ⟨s, x, putR_ask hk rfl e, rfl⟩))
    · exact .inl (.inr (.inr (.inl rfl)))
    · rcases putR_pack e with ⟨rfl, k', hk', rfl⟩ | ⟨_, hy⟩
      · exact .inl (.inr (.inr (.inr ⟨p, k', hk', rfl⟩)))
      · exact .inl (.inr (.inr (.inr ⟨q, y, hy, rfl⟩)))
theorem putR_kept {p : Nat} {r : RelS} : keptOf (putR S p r) = Rb19.addItem (keptOf S) p r.spec := by
  unfold keptOf Rb19.addItem
  show Rb19.Kept.mk _ _ = Rb19.Kept.mk _ _
  congr 1
  refine map_mod fun k _ => ?_
  show (k.name, (k.rels ++ [r]).map RelS.spec) = (k.name, k.rels.map RelS.spec ++ [r.spec])
  rw [List.map_append]
  rfl
end
end VP
namespace VP
open PySem PySem.Spec PyProof.Rows L2 VO VM
open Rb19 (B Word Version Span)
structure ClsT (K : PySem.W.Frag) (mg : Str → Option Value) (x : Str) (C : Addr) : Prop where
  cl : Cls K C
  at_ : mg x = some (.ref C)
structure MDef (K : PySem.W.Frag) (C : Addr) (m qual : Str) (st : Stmt) (ps : List Str) (f : Addr) (fd : FuncData) : Prop where
  F : Fun K m qual st f fd
  b : Binds K fd ps []
  me : Meth K C m f
structure IDef (K : PySem.W.Frag) (C : Addr) (qual : Str) (st : Stmt) (ps : List Str) (f : Addr) (fd : FuncData) : Prop where
  F : Fun K "__init__" qual st f fd
  b : Binds K fd ps []
  mak : Mk K C f
structure SDefs (K : PySem.W.Frag) (mg : Str → Option Value) (C : Cs) : Prop where
  D : CDefs K mg
  rc : ∃ f fd, Def K mg "read_condition" sCond ["text"] f fd
  hc : ∃ f fd, Def K mg "condition_holds" sHoldsC ["groups", "version"] f fd
  cA : ClsT K mg "Ask" C.A
  cR : ClsT K mg "Release" C.R
  cP : ClsT K mg "Package" C.P
  cS : ClsT K mg "Session" C.S
  nOn : NoAttr K C.A "on"
  nGr : NoAttr K C.A "groups"
  nVd : NoAttr K C.A "verdicts"
  nVr : NoAttr K C.R "version"
  nAs : NoAttr K C.R "asks"
  nRl : NoAttr K C.P "releases"
  nNm : NoAttr K C.P "numbers"
  nPk : NoAttr K C.S "packages"
  nSn : NoAttr K C.S "numbers"
  nWt : NoAttr K C.S "wants"
  iA : ∃ f fd, IDef K C.A "Ask.__init__" mAsk_init ["self", "on", "groups"] f fd
  aA : ∃ f fd, MDef K C.A "accepts" "Ask.accepts" mAsk_accepts ["self", "number", "version"] f fd
  iR : ∃ f fd, IDef K C.R "Release.__init__" mRelease_init ["self", "version"] f fd
  iP : ∃ f fd, IDef K C.P "Package.__init__" mPackage_init ["self"] f fd
  pA : ∃ f fd, MDef K C.P "add_release" "Package.add_release" mPackage_add_release ["self", "version"] f fd
  pF : ∃ f fd, MDef K C.P "find_release" "Package.find_release" mPackage_find_release ["self", "version"] f fd
  iS : ∃ f fd, IDef K C.S "Session.__init__" mSession_init ["self"] f fd
  sB : ∃ f fd, MDef K C.S "begin" "Session.begin" mSession_begin ["self"] f fd
  sN : ∃ f fd, MDef K C.S "number_of" "Session.number_of" mSession_number_of ["self", "name"] f fd
  sR : ∃ f fd, MDef K C.S "release_of" "Session.release_of" mSession_release_of ["self", "name", "version"] f fd
  sA : ∃ f fd, MDef K C.S "add" "Session.add" mSession_add ["self", "name", "version"] f fd
  sK : ∃ f fd, MDef K C.S "ask" "Session.ask" mSession_ask ["self", "name", "version", "on", "condition"] f fd
  sW : ∃ f fd, MDef K C.S "want" "Session.want" mSession_want ["self", "on", "condition"] f fd
  sP : ∃ f fd, MDef K C.S "put_ask" "Session.put_ask" mSession_put_ask ["self", "asks", "on", "groups"] f fd
  sC : ∃ f fd, MDef K C.S "choose" "Session.choose" mSession_choose ["self"] f fd
  mP : ∃ t, mg "MOST_PACKAGES" = some (.int 32 t)
  mV : ∃ t, mg "MOST_VERSIONS" = some (.int 32 t)
  mA : ∃ t, mg "MOST_ASKS" = some (.int 16 t)
  mN : ∃ t, mg "MOST_NAME" = some (.int 32 t)
def spIA (C : Cs) : Sp := fun vs H Q _ => ∃ (p dx : Addr) (o g : V), vs = [.ref p, o, g] ∧ H p = some (.ins C.A dx []) ∧ ∀ (H' : Hp) (d : Addr), (∀ b q, H b = some q → b ≠ p → H' b = some q) → H d = none → H' p = some (.ins C.A dx (fAsk o g (.ref d))) → H' d = some (.dK []) → Q .non H'
def spIR (C : Cs) : Sp := fun vs H Q _ => ∃ (p dx : Addr) (v : V), vs = [.ref p, v] ∧ H p = some (.ins C.R dx []) ∧ ∀ (H' : Hp) (l : Addr), (∀ b q, H b = some q → b ≠ p → H' b = some q) → H l = none → H' p = some (.ins C.R dx (fRel v (.ref l))) → H' l = some (.lst []) → Q .non H'
def spIP (P : Program) (w : World) (C : Cs) : Sp := fun vs H Q _ => ∃ (p dx : Addr), vs = [.ref p] ∧ H p = some (.ins C.P dx []) ∧ ∀ (H' : Hp) (l n : Addr), (∀ b q, H b = some q → b ≠ p → H' b = some q) → H l = none → H n = none → H' p = some (.ins C.P dx (fPack (.ref l) (.ref n))) → H' l = some (.lst []) → H' n = some (DV P w n []) → Q .non H'
def spIS (C : Cs) : Sp := fun vs H Q _ => ∃ (p dx : Addr), vs = [.ref p] ∧ H p = some (.ins C.S dx []) ∧ ∀ (H' : Hp) (l n u : Addr), (∀ b q, H b = some q → b ≠ p → H' b = some q) → l ≠ u → H' p = some (.ins C.S dx (fSes (.ref l) (.ref n) (.ref u))) → H' l = some (.lst []) → H' n = some (.dT []) → H' u = some (.lst []) → Q .non H'
section
variable {P : Program} {w : World} {K : PySem.W.Frag} {mg : Str → Option Value} {base : Heap} {f : Addr} {fd : FuncData} {C : Cs}
theorem scIA : FnScope ["self", "on", "groups"] ["self", "on", "groups"] (defScope mAsk_init) := ⟨rfl, rfl, rfl, by decide +kernel, rfl, by decide +kernel, by decide +kernel⟩
theorem few1000 {n : Nat} (h : n ≤ 3) : n < 1000 := Nat.lt_of_le_of_lt h (by decide)
theorem ok_initA (D : IDef K C.A "Ask.__init__" mAsk_init ["self", "on", "groups"] f fd) (S : SDefs K mg C) : FnOk P w K mg base CX0 1 f fd ["self", "on", "groups"] (spIA C) := by
  refine D.F.ok scIA (fun vs H Q E h => ?_) (fun cdv A outer s H vs Q E hr h => ?_)
  · obtain ⟨p, dx, o, g, rfl, _⟩ := h
    rfl
  · obtain ⟨p, dx, o, g, rfl, hp, k⟩ := h
    refine ⟨_, pss_cons (ps_fld (pv 0) (pv 1) rfl) (pss_cons (ps_fld (pv 0) (pv 2) rfl) (pss_one (ps_fld (pv 0) pe_dnewK rfl))), ?_⟩
    refine ⟨_, rfl, _, rfl, p, C.A, dx, _, rfl, hp, S.cA.cl, S.nOn, few1000 (by decide), ?_⟩
    refine ⟨_, rfl, _, rfl, p, C.A, dx, _, rfl, upd_same, S.cA.cl, S.nGr, few1000 (by have := length_putF "on" o []; simp at this; omega), ?_⟩
    intro d hd
    have nd : d ≠ p := fun z => by rw [z, upd_same] at hd; cases hd
    have hd0 : H d = none := by rw [upd_ne nd, upd_ne nd] at hd; exact hd
    refine ⟨_, rfl, p, C.A, dx, _, rfl, by rw [upd_ne nd.symm]; exact upd_same, S.cA.cl, S.nVd, few1000 (by have h1 := length_putF "on" o []; have h2 := length_putF "groups" g (putF "on" o []); simp at h1; omega), ?_⟩
    refine k _ d (fun b q e hb => ?_) hd0 upd_same (by rw [upd_ne nd]; exact upd_same)
    rw [upd_ne hb, upd_ne (ne_of_none e hd0), upd_ne hb, upd_ne hb]
    exact e
theorem scIR : FnScope ["self", "version"] ["self", "version"] (defScope mRelease_init) := ⟨rfl, rfl, rfl, by decide +kernel, rfl, by decide +kernel, by decide +kernel⟩
theorem ok_initR (D : IDef K C.R "Release.__init__" mRelease_init ["self", "version"] f fd) (S : SDefs K mg C) : FnOk P w K mg base CX0 1 f fd ["self", "version"] (spIR C) := by
  refine D.F.ok scIR (fun vs H Q E h => ?_) (fun cdv A outer s H vs Q E hr h => ?_)
  · obtain ⟨p, dx, v, rfl, _⟩ := h
    rfl
  · obtain ⟨p, dx, v, rfl, hp, k⟩ := h
    refine ⟨_, pss_cons (ps_fld (pv 0) (pv 1) rfl) (pss_one (ps_fld (pv 0) (pe_lst pa_nil) rfl)), ?_⟩
    refine ⟨_, rfl, _, rfl, p, C.R, dx, _, rfl, hp, S.cR.cl, S.nVr, few1000 (by decide), ?_⟩
    refine ⟨Nat.zero_le _, fun d hd => ?_⟩
    have nd : d ≠ p := fun z => by rw [z, upd_same] at hd; cases hd
    have hd0 : H d = none := by rw [upd_ne nd] at hd; exact hd
    refine ⟨_, rfl, p, C.R, dx, _, rfl, by rw [upd_ne nd.symm]; exact upd_same, S.cR.cl, S.nAs, few1000 (by have h1 := length_putF "version" v []; simp at h1; omega), ?_⟩
    refine k _ d (fun b q e hb => ?_) hd0 upd_same (by rw [upd_ne nd]; exact upd_same)
    rw [upd_ne hb, upd_ne (ne_of_none e hd0), upd_ne hb]
    exact e
theorem scIP : FnScope ["self"] ["self"] (defScope mPackage_init) := ⟨rfl, rfl, rfl, by decide +kernel, rfl, by decide +kernel, by decide +kernel⟩
theorem ok_initP (D : IDef K C.P "Package.__init__" mPackage_init ["self"] f fd) (S : SDefs K mg C) : FnOk P w K mg base CX0 1 f fd ["self"] (spIP P w C) := by
  refine D.F.ok scIP (fun vs H Q E h => ?_) (fun cdv A outer s H vs Q E hr h => ?_)
  · obtain ⟨p, dx, rfl, _⟩ := h
    rfl
  · obtain ⟨p, dx, rfl, hp, k⟩ := h
    refine ⟨_, pss_cons (ps_fld (pv 0) (pe_lst pa_nil) rfl) (pss_one (ps_fld (pv 0) pe_vnew rfl)), ?_⟩
    refine ⟨Nat.zero_le _, fun l hl => ?_⟩
    have nl : l ≠ p := fun z => by rw [z, hp] at hl; cases hl
    refine ⟨_, rfl, p, C.P, dx, _, rfl, by rw [upd_ne nl.symm]; exact hp, S.cP.cl, S.nRl, few1000 (by decide), ?_⟩
    intro d hd
    have nd : d ≠ p := fun z => by rw [z, upd_same] at hd; cases hd
    have ndl : d ≠ l := fun z => by rw [z, upd_ne nl, upd_same] at hd; cases hd
    have hd0 : H d = none := by rw [upd_ne nd, upd_ne ndl] at hd; exact hd
    refine ⟨_, rfl, p, C.P, dx, _, rfl, by rw [upd_ne nd.symm]; exact upd_same, S.cP.cl, S.nNm, few1000 (by have h1 := length_putF "releases" (V.ref l) []; simp at h1; omega), ?_⟩
    refine k _ l d (fun b q e hb => ?_) hl hd0 upd_same (by rw [upd_ne nl, upd_ne ndl.symm, upd_ne nl]; exact upd_same) (by rw [upd_ne nd]; exact upd_same)
    rw [upd_ne hb, upd_ne (ne_of_none e hd0), upd_ne hb, upd_ne (ne_of_none e hl)]
    exact e
theorem scIS : FnScope ["self"] ["self"] (defScope mSession_init) := ⟨rfl, rfl, rfl, by decide +kernel, rfl, by decide +kernel, by decide +kernel⟩
theorem ok_initS (D : IDef K C.S "Session.__init__" mSession_init ["self"] f fd) (S : SDefs K mg C) : FnOk P w K mg base CX0 1 f fd ["self"] (spIS C) := by
  refine D.F.ok scIS (fun vs H Q E h => ?_) (fun cdv A outer s H vs Q E hr h => ?_)
  · obtain ⟨p, dx, rfl, _⟩ := h
    rfl
  · obtain ⟨p, dx, rfl, hp, k⟩ := h
    refine ⟨_, pss_cons (ps_fld (pv 0) (pe_lst pa_nil) rfl) (pss_cons (ps_fld (pv 0) pe_dnewT rfl) (pss_one (ps_fld (pv 0) (pe_lst pa_nil) rfl))), ?_⟩
    refine ⟨Nat.zero_le _, fun l hl => ?_⟩
    have nl : l ≠ p := fun z => by rw [z, hp] at hl; cases hl
    refine ⟨_, rfl, p, C.S, dx, _, rfl, by rw [upd_ne nl.symm]; exact hp, S.cS.cl, S.nPk, few1000 (by decide), ?_⟩
    intro d hd
    have nd : d ≠ p := fun z => by rw [z, upd_same] at hd; cases hd
    have ndl : d ≠ l := fun z => by rw [z, upd_ne nl, upd_same] at hd; cases hd
    have hd0 : H d = none := by rw [upd_ne nd, upd_ne ndl] at hd; exact hd
    refine ⟨_, rfl, p, C.S, dx, _, rfl, by rw [upd_ne nd.symm]; exact upd_same, S.cS.cl, S.nSn, few1000 (by have h1 := length_putF "packages" (V.ref l) []; simp at h1; omega), ?_⟩
    refine ⟨Nat.zero_le _, fun u hu => ?_⟩
    have nu : u ≠ p := fun z => by rw [z, upd_same] at hu; cases hu
    have nud : u ≠ d := fun z => by rw [z, upd_ne nd, upd_same] at hu; cases hu
    have nul : u ≠ l := fun z => by rw [z, upd_ne nl, upd_ne ndl.symm, upd_ne nl, upd_same] at hu; cases hu
    have hu0 : H u = none := by rw [upd_ne nu, upd_ne nud, upd_ne nu, upd_ne nul] at hu; exact hu
    refine ⟨_, rfl, p, C.S, dx, _, rfl, by rw [upd_ne nu.symm]; exact upd_same, S.cS.cl, S.nWt, few1000 (by have h1 := length_putF "packages" (V.ref l) []; have h2 := length_putF "numbers" (V.ref d) (putF "packages" (V.ref l) []); simp at h1; omega), ?_⟩
    refine k _ l d u (fun b q e hb => ?_) nul.symm upd_same (by rw [upd_ne nl, upd_ne nul.symm, upd_ne nl, upd_ne ndl.symm, upd_ne nl]; exact upd_same) (by rw [upd_ne nd, upd_ne nud.symm, upd_ne nd]; exact upd_same) (by rw [upd_ne nu]; exact upd_same)
    rw [upd_ne hb, upd_ne (ne_of_none e hu0), upd_ne hb, upd_ne (ne_of_none e hd0), upd_ne hb, upd_ne (ne_of_none e hl)]
    exact e
def spAcc (P : Program) (w : World) (C : Cs) : Sp := fun vs H Q _ => ∃ (S : SesS) (s : ASlot) (x : AskS) (j : Nat) (u : Version) (v : V), vs = [.ref x.a, .int (j : Int), v] ∧ At P w C H S ∧ askAt S s = some x ∧ (vers S x.on)[j]? = some u ∧ VerAt H v u ∧
  ∀ H', At P w C H' S → Fix (VD S) H H' → Q (.bl (keepC u x.gs)) H'
theorem vers_len {H : Hp} {S : SesS} (h : At P w C H S) (p : Nat) : (vers S p).length ≤ 32 := by
  unfold vers
  cases e : S.packs[p]? with
  | none => exact Nat.zero_le _
  | some k =>
    show (k.rels.map RelS.u).length ≤ 32
    rw [List.length_map]
    exact (h.packs p k e).few
theorem Verd.few {kvs : List (Key × V)} {us : List Version} {gs : List (List Bd)} (h : Verd kvs us gs) : kvs.length ≤ us.length := by
  have := VS.sub_len (l := kvs.map (·.1)) (m := (List.range us.length).map fun (j : Nat) => (Sum.inl (j : Int) : Key)) h.nd fun k hk => by
    obtain ⟨⟨k', v⟩, hm, rfl⟩ := List.mem_map.mp hk
    obtain ⟨j, u, e1, e2, _⟩ := h.is k' v hm
    exact List.mem_map.mpr ⟨j, List.mem_range.mpr (List.getElem?_eq_some_iff.mp e2).1, e1.symm⟩
  simpa using this
theorem valV_mem {kvs : List (Key × V)} {k : Key} {v : V} (h : valV kvs k = some v) : (k, v) ∈ kvs := by
  induction kvs with
  | nil => cases h
  | cons p r ih =>
    by_cases e : p.1 = k
    · rw [valV_pos e] at h
      cases h
      rw [← e]
      exact List.mem_cons_self ..
    · rw [valV_neg e] at h
      exact List.mem_cons_of_mem _ (ih h)
theorem valV_none {kvs : List (Key × V)} {k : Key} (h : valV kvs k = none) : ∀ v, (k, v) ∉ kvs := by
  induction kvs with
  | nil => exact fun v hv => nomatch hv
  | cons p r ih =>
    intro v hv
    by_cases e : p.1 = k
    · rw [valV_pos e] at h
      cases h
    · rw [valV_neg e] at h
      rcases List.mem_cons.mp hv with z | hv
      · exact e (by rw [← z])
      · exact ih h v hv
theorem putK_new {kvs : List (Key × V)} {k : Key} {v : V} (h : valV kvs k = none) : putK kvs k v = kvs ++ [(k, v)] := by
  unfold putK
  have e : (kvs.any fun kv => decide (kv.1 = k)) = false := by
    rw [valV_any, h]
    rfl
  rw [e]
  rfl
theorem valV_new {kvs : List (Key × V)} {k : Key} {v : V} (h : valV kvs k = none) : valV (kvs ++ [(k, v)]) k = some v := by
  induction kvs with
  | nil => exact valV_pos rfl
  | cons p r ih =>
    by_cases e : p.1 = k
    · rw [valV_pos e] at h
      cases h
    · rw [valV_neg e] at h
      show valV (p :: (r ++ [(k, v)])) k = _
      rw [valV_neg e]
      exact ih h
theorem scAcc : FnScope ["self", "number", "version"] ["self", "number", "version"] (defScope mAsk_accepts) := ⟨rfl, rfl, rfl, by decide +kernel, rfl, by decide +kernel, by decide +kernel⟩
theorem ok_acc (D : MDef K C.A "accepts" "Ask.accepts" mAsk_accepts ["self", "number", "version"] f fd) (S : SDefs K mg C) : FnOk P w K mg base CX0 4 f fd ["self", "number", "version"] (spAcc P w C) := by
  obtain ⟨f1, fd1, D1⟩ := S.hc
  have G1 : FnOk P w K mg base CX0 3 f1 fd1 ["groups", "version"] spHoldsC := ok_holdsC D1 S.D
  refine D.F.ok scAcc (fun vs H Q E h => ?_) (fun cdv A outer s H vs Q E hr h => ?_)
  · obtain ⟨S', s', x, j, u, v, rfl, _⟩ := h
    rfl
  · obtain ⟨Z, sl, x, j, u, v, rfl, hA, hx, hj, hv, k⟩ := h
    have hu := hu_of hr
    refine ⟨_, pss_cons (ps_if (pt_cmp (pc_dnotin hu (pv 1) (pe_fld (pv 0) rfl))) (pss_one (ps_dput hu (pe_fld (pv 0) rfl) (pv 1) (pe_call G1 hr rfl D1.at_ D1.F.kp D1.b .nil pass0 (pa_cons (pe_fld (pv 0) rfl) (pa_cons (pv 2) pa_nil))) rfl)) pss_nil)
      (pss_one (ps_ret (pe_dget hu (pe_fld (pv 0) rfl) (pv 1) (fun _ _ => rfl)))), ?_⟩
    have q := hA.asks sl x hx
    obtain ⟨dx, g, h1, h2⟩ := q.ins
    obtain ⟨kvs, h3, h4⟩ := q.dict
    refine ⟨_, rfl, _, rfl, x.a, C.A, dx, _, _, rfl, h1, S.cA.cl, S.nVd, fAsk_verdicts _ _ _, x.vd, _, rfl, DGet.k (k := Sum.inl (j : Int)) h3, _, rfl, ?_⟩
    cases e : valV kvs (Sum.inl (j : Int)) with
    | some z =>
      obtain ⟨j', u', e1, e2, e3⟩ := h4.is _ _ (valV_mem e)
      have ej : j' = j := by
        injection e1 with e1
        omega
      subst ej
      rw [hj] at e2
      cases e2
      subst e3
      exact ⟨_, rfl, x.a, C.A, dx, _, _, rfl, h1, S.cA.cl, S.nVd, fAsk_verdicts _ _ _, _, rfl, x.vd, _, rfl, (by rw [← e]; exact DGet.k (k := Sum.inl (j' : Int)) h3), k H hA (Fix.refl _ _)⟩
    | none =>
      have big := vers_len hA x.on
      have few := h4.few
      refine ⟨_, rfl, x.a, C.A, dx, _, _, rfl, h1, S.cA.cl, S.nGr, fAsk_groups _ _ _, _, rfl, v, g, u, x.gs, _, rfl, hv, h2, q.len.1, q.len.2, fun H1 s1 => ?_⟩
      have h3' := s1 _ _ h3
      refine ⟨_, rfl, x.a, C.A, dx, _, _, rfl, s1 _ _ h1, S.cA.cl, S.nVd, fAsk_verdicts _ _ _, _, rfl, x.vd, _, rfl, DPut.k (k := Sum.inl (j : Int)) h3' (small1000 (by omega)), ?_⟩
      rw [putK_new e]
      have nv : ∀ b o, H1 b = some o → (∀ kv, o ≠ .dK kv) → b ≠ x.vd := fun b o eb ne z => by rw [z, h3'] at eb; cases eb; exact ne _ rfl
      have F1 : Fix (fun b => b = x.vd) H (upd H1 x.vd (.dK (kvs ++ [(Sum.inl (j : Int), .bl (keepC u x.gs))]))) := Fix.upd (Same.fix s1 _) (.inl rfl)
      have V1 : Verd (kvs ++ [(Sum.inl (j : Int), .bl (keepC u x.gs))]) (vers Z x.on) x.gs := by
        refine ⟨?_, fun k' v' hm => ?_⟩
        · rw [List.map_append, List.nodup_append]
          refine ⟨h4.nd, by simp, fun a ha b hb => ?_⟩
          obtain ⟨⟨a1, a2⟩, ha2, rfl⟩ := List.mem_map.mp ha
          have hb : b = Sum.inl (j : Int) := by simpa using hb
          rw [hb]
          intro z
          have z : a1 = Sum.inl (j : Int) := z
          rw [z] at ha2
          exact valV_none e a2 ha2
        · rcases List.mem_append.mp hm with hm | hm
          · exact h4.is k' v' hm
          · have hm : (k', v') = (Sum.inl (j : Int), V.bl (keepC u x.gs)) := by simpa using hm
            cases hm
            exact ⟨j, u, rfl, hj, rfl⟩
      have A1 := hA.verd hx F1 upd_same V1
      have h5 : (upd H1 x.vd (.dK (kvs ++ [(Sum.inl (j : Int), .bl (keepC u x.gs))]))) x.a = some (.ins C.A dx (fAsk (.int (x.on : Int)) g (.ref x.vd))) := by
        rw [upd_ne (nv _ _ (s1 _ _ h1) fun kv z => by cases z)]
        exact s1 _ _ h1
      refine ⟨_, rfl, x.a, C.A, dx, _, _, rfl, h5, S.cA.cl, S.nVd, fAsk_verdicts _ _ _, _, rfl, x.vd, _, rfl, (by rw [← valV_new (v := V.bl (keepC u x.gs)) e]; exact DGet.k (k := Sum.inl (j : Int)) upd_same), k _ A1 (F1.mono fun b hb => ⟨sl, x, hx, hb.symm⟩)⟩
end
end VP
namespace VP
open PySem PySem.Spec PyProof.Rows L2 VO VM PySem.W
open Rb19 (B Word Version Span)
theorem lessLt : VS.Lt := ⟨less_trans, less_conn, fun u v h1 h2 => by rw [less_asym u v h1] at h2; cases h2⟩
def noPos : Pos := ⟨0, 0, 0, 0⟩
def lamE : Expr := match defBody sOptions with
  | [_, .Assign _ (.Call _ _ (⟨_, e, _⟩ :: _) _) _, _] => e
  | _ => .Name "" noPos
def lamParams : Arguments := match lamE with
  | .Lambda a _ _ _ => a
  | _ => defArgs sOptions
def lamScope : Scope := match lamE with
  | .Lambda _ _ s _ => s
  | _ => defScope sOptions
def lamBody : Expr := match lamE with
  | .Lambda _ b _ _ => b
  | _ => .Name "" noPos
def lamP (i : Nat) : Pos := match lamBody with
  | .Attribute (.Subscript (.Name _ p1) (.Name _ p2) p3) _ p4 => if i = 1 then p1 else if i = 2 then p2 else if i = 3 then p3 else p4
  | _ => noPos
def lamPos : Pos := match defBody sOptions with
  | [_, .Assign _ (.Call _ _ (⟨_, .Lambda _ _ _ pos, _⟩ :: _) _) _, _] => pos
  | _ => ⟨0, 0, 0, 0⟩
def lamQual : Str := "options" ++ ".<locals>." ++ "<lambda>"
def Tab (H : Hp) (S : SesS) (PT : Addr) : Prop := H PT = some (.tbl #[]) ∨ ∃ c, H PT = some (.tbl #[rawInt lamPos.line, rawInt lamPos.col, .ref c]) ∧ H c = some (CodeO c lamQual) ∧ ¬ MU S c
def optV : Option Nat → V
  | none => .int (-1)
  | some i => .int (i : Int)
structure ODef (K : PySem.W.Frag) (mg : Str → Option Value) (base : Heap) (f : Addr) (fd : FuncData) (PT : Addr) : Prop where
  ex : ∃ (oc : Value) (od : Option Addr) (kV doc pm : Value) (an : Option Addr) (c : Addr) (ct : Value) (osl : Array (Option Value)),
    fd = PySem.W.fnOf "options" "options" (defArgs sOptions) (defBody sOptions) (defScope sOptions) .none kV doc pm an (.ref c) ct ∧ K.lookup f = some ⟨oc, od, .func fd, osl⟩ ∧ PySem.W.codeIn K (.ref c) "options" = true ∧ LamK mg base c PT
  kp : PySem.W.keepIn K (.ref f) = true
  b : Binds K fd ["package"] []
  at_ : mg "options" = some (.ref f)
def spOpt (P : Program) (w : World) (C : Cs) (PT : Addr) : Sp := fun vs H Q _ => ∃ (S : SesS) (p : Nat) (k : PackS), vs = [.ref k.a] ∧ At P w C H S ∧ Tab H S PT ∧ S.packs[p]? = some k ∧
  ∀ (H' : Hp) (q : Addr), (∀ b o, H b = some o → b ≠ PT → H' b = some o) → Tab H' S PT → H q = none → H' q = some (.lst ((Rb19Neutral.options (keptOf S) p).map optV)) → Q (.ref q) H'
section
variable {P : Program} {w : World} {K : PySem.W.Frag} {mg : Str → Option Value} {base : Heap} {f PT : Addr} {fd : FuncData} {C : Cs}
theorem items_kept {S : SesS} {p : Nat} {k : PackS} (hk : S.packs[p]? = some k) : Rb19.items (keptOf S) p = k.rels.map RelS.spec := by
  unfold Rb19.items keptOf
  show (((S.packs.map PackS.spec)[p]?).map _).getD [] = _
  rw [List.getElem?_map, hk]
  rfl
theorem scOpt : FnScope ["package", "releases", "numbers"] ["package"] (defScope sOptions) := ⟨rfl, rfl, rfl, by decide +kernel, rfl, by decide +kernel, by decide +kernel⟩
theorem bt_range' : bootBuiltins "range" = some (.type "range") := by decide +kernel
theorem ok_options (D : ODef K mg base f fd PT) (S : SDefs K mg C) (hrg : mg "range" = none) (hso : mg "sorted" = none) : FnOk P w K mg base CX0 2 f fd ["package"] (spOpt P w C PT) := by
  have T := S.D.V.T
  obtain ⟨oc, od, kV, doc, pm, an, c0, ct, osl, rfl, lk, hcd, L⟩ := D.ex
  refine fn_of lk hcd scOpt (fun vs H Q E h => ?_) (fun A outer s H vs Q E hr h => ?_)
  · obtain ⟨Z, p, k, rfl, _⟩ := h
    rfl
  · obtain ⟨Z, p, k, rfl, hA, hT, hk, kk⟩ := h
    have hu := hr.units
    have hd8 : (A.deeper (envOfC "options" (defScope sOptions) s.heap.objs.size f (.ref c0))).depth + 8 < recursionLimit := by have hd := hr.dp; omega
    refine (fun h => let ⟨t, h1, h2⟩ := h; ⟨t, PSs.nox h1, h2⟩ : (∃ t, PSs (cxOf CX0 P w K mg base _ "options" (defScope sOptions) f (.ref c0) A outer s H E).nox (defBody sOptions) t ∧ t { nx := fun _ H' => Q .non H', rt := Q } (start _ [.ref k.a]) H) → _) ?_
    refine ⟨_, pss_cons (ps_set (i := 1) scOpt.nd rfl (Or.inr rfl) (pe_fld (pv 0) rfl))
      (pss_cons (ps_set (i := 2) scOpt.nd rfl (Or.inl rfl) (pe_sortV (i := 1) (cA := s.heap.objs.size + 1) (C := C.R) (qual := lamQual) (params := lamParams) (scope := lamScope) (p1 := lamP 1) (p2 := lamP 2) (p3 := lamP 3) (p4 := lamP 4) rfl rfl rfl hu hd8 hr.hd rfl rfl rfl (by decide +kernel) rfl rfl (fun _ _ _ _ => rfl) rfl hso
        (pa_cons (pe_callTy cr_range rfl hrg bt_range' (pa_cons (pe_callB call_len_seq rfl T.len PySem.boot_len (pa_cons (pv 1) pa_nil)) pa_nil)) pa_nil)
        (pk_cons (pe_lam (cl := [(("releases" : Str), s.heap.objs.size + 1)]) L rfl rfl rfl) (pk_cons pe_bl pk_nil)) rfl rfl rfl rfl))
      (pss_one (ps_ret (pe_op op_cat (pe_lst (pa_cons (pe_un un_neg pe_int) pa_nil)) (pv 2))))), ?_⟩
    have hP := hA.packs p k hk
    obtain ⟨dx, h1⟩ := hP.ins
    refine ⟨_, rfl, k.a, C.P, dx, _, _, rfl, h1, S.cP.cl, S.nRl, fPack_releases _ _, ?_⟩
    refine ⟨_, rfl, k.rl, _, rfl, .inl (SqL.of hP.lst), _, rfl, fun rg hrg' => ?_⟩
    have s1 : Same H (L2.upd H rg (.rng 0 ((k.rels.map fun r => V.ref r.a).length : Nat))) := same_upd hrg'
    have hT1 : TblAt (L2.upd H rg (.rng 0 ((k.rels.map fun r => V.ref r.a).length : Nat))) PT lamPos lamQual := by
      rcases hT with hT | ⟨c, hT, hc, _⟩
      · exact .inl (s1 _ _ hT)
      · exact .inr ⟨c, s1 _ _ hT, s1 _ _ hc⟩
    refine ⟨hT1, fun H2 c q k2 hP2 hc2 hcc hq2 hq1 => ?_⟩
    have nq : ∀ b o, H2 b = some o → b ≠ q := fun b o e => ne_of_none e hq2
    have nPT : ∀ b o, H b = some o → (∀ ps, o ≠ .tbl ps) → b ≠ PT := fun b o e ne z => by
      rcases hT with hT | ⟨_, hT, _⟩
      · rw [z, hT] at e; cases e; exact ne _ rfl
      · rw [z, hT] at e; cases e; exact ne _ rfl
    have npt : rg ≠ PT := fun z => by
      rcases hT with hT | ⟨_, hT, _⟩
      · rw [z, hT] at hrg'; cases hrg'
      · rw [z, hT] at hrg'; cases hrg'
    have up : ∀ (oL : HO) b o, H b = some o → b ≠ PT → L2.upd H2 q oL b = some o := fun oL b o e ne => by
      have e2 := k2 b o (s1 _ _ e) ne
      rw [upd_ne (nq _ _ e2)]
      exact e2
    have hr0 : ∀ j : Nat, ∃ b : Addr, ∀ r, k.rels[j]? = some r → ∃ dx, H r.a = some (.ins C.R dx (fRel (.ref b) (.ref r.al))) ∧ VerAt H (.ref b) r.u := fun j => by
      cases e : k.rels[j]? with
      | none => exact ⟨0, fun r z => by cases z⟩
      | some r =>
        obtain ⟨dx, b, g1, g2⟩ := (hA.rels p j r (by unfold relAt; rw [hk]; exact e)).ins
        exact ⟨b, fun r' z => by cases z; exact ⟨dx, g1, g2⟩⟩
    obtain ⟨tv, htv⟩ := Classical.axiomOfChoice hr0
    have uat : ∀ (j : Nat) (r : RelS), k.rels[j]? = some r → ((k.rels[j]?).map RelS.u).getD ⟨0, 0, 0, []⟩ = r.u := fun j r e => by rw [e]; rfl
    have few := hP.few
    have hlen : (k.rels.map RelS.a).length = k.rels.length := List.length_map ..
    have tups : ∀ (oL : HO) b xs, H b = some (.tup xs) → L2.upd H2 q oL b = some (.tup xs) := fun oL b xs e => up oL b _ e (nPT b _ e fun _ z => by cases z)
    have es : (k.rels.map RelS.a).map V.ref = k.rels.map fun r => V.ref r.a := by rw [List.map_map]; rfl
    refine ⟨rg, q, c, k.rl, k.rels.map RelS.a, tv, fun j => ((k.rels[j]?).map RelS.u).getD ⟨0, 0, 0, []⟩, rfl, rfl, ?_, by rw [hlen]; omega, upd_same, by rw [upd_ne (nq _ _ hc2)]; exact hc2, rfl, ?_, S.cR.cl, S.nVr, fun j a e => ?_, fun j hj => ?_, fun i j hi hj e => ?_, fun ns p0 late hp0 => ?_⟩
    · have e2 := k2 rg _ upd_same npt
      rw [upd_ne (nq _ _ e2), e2, hlen, List.length_map]
    · rw [es]
      exact up _ _ _ hP.lst (nPT _ _ hP.lst fun _ z => by cases z)
    · rw [List.getElem?_map] at e
      obtain ⟨r, er, rfl⟩ := Option.map_eq_some_iff.mp e
      obtain ⟨dx', g1, _⟩ := htv j r er
      exact ⟨dx', _, up _ _ _ g1 (nPT _ _ g1 fun _ z => by cases z), fRel_version _ _⟩
    · rw [hlen] at hj
      have er := List.getElem?_eq_getElem hj
      obtain ⟨dx', _, g2⟩ := htv j _ er
      show VerAt _ _ (((k.rels[j]?).map RelS.u).getD ⟨0, 0, 0, []⟩)
      rw [uat j _ er]
      exact VerAt.tups (tups _) g2
    · rw [hlen] at hi hj
      have ei := List.getElem?_eq_getElem hi
      have ej := List.getElem?_eq_getElem hj
      have e : ((k.rels[i]?).map RelS.u).getD ⟨0, 0, 0, []⟩ = ((k.rels[j]?).map RelS.u).getD ⟨0, 0, 0, []⟩ := e
      rw [uat i _ ei, uat j _ ej] at e
      exact (List.getElem_inj hP.diff (h₀ := by rw [List.length_map]; exact hi) (h₁ := by rw [List.length_map]; exact hj)).mp (by rw [List.getElem_map, List.getElem_map]; exact e)
    have eo : Rb19Neutral.options (keptOf Z) p = none :: ns.map some := by
      have ei := items_kept hk
      refine VS.options_of lessLt ?_ ?_ ?_
      · rw [ei, List.map_map]
        exact hP.diff
      · rw [ei, List.length_map]
        have := late.perm
        rw [hlen] at this
        exact this
      · rw [ei]
        refine List.Pairwise.imp (fun {i j} h x y e1 e2 => ?_) late.desc
        rw [List.getElem?_map] at e1 e2
        obtain ⟨r1, g1, rfl⟩ := Option.map_eq_some_iff.mp e1
        obtain ⟨r2, g2, rfl⟩ := Option.map_eq_some_iff.mp e2
        have h : Rb19.less (((k.rels[j]?).map RelS.u).getD ⟨0, 0, 0, []⟩) (((k.rels[i]?).map RelS.u).getD ⟨0, 0, 0, []⟩) = true := h
        rw [uat i _ g1, uat j _ g2] at h
        exact h
    have nslen : ns.length = k.rels.length := by rw [late.perm.length_eq, List.length_range, hlen]
    refine ⟨_, rfl, by show (1 : Nat) ≤ sizeLine; decide, fun l hl => ⟨_, rfl, l, p0, [V.int (-1)], ns.map fun (j : Nat) => V.int (j : Int), rfl, rfl, upd_same, ?_, ?_, fun z hz => ?_⟩⟩
    · rw [upd_ne (fun e => by rw [← e, upd_same] at hl; cases hl)]
      exact upd_same
    · show 1 + (ns.map fun (j : Nat) => V.int (j : Int)).length ≤ sizeLine
      rw [List.length_map]
      exact Nat.le_of_lt (small1000 (by omega))
    have s2 := same_new (o := .lst ([V.int (-1)] ++ ns.map fun (j : Nat) => V.int (j : Int))) (same_new (o := .lst [V.int (-1)]) (same_upd (o := .lst (ns.map fun (j : Nat) => V.int (j : Int))) hp0) hl) hz
    have c2 : ∀ oL, L2.upd H2 q oL c = some (CodeO c lamQual) := fun oL => by rw [upd_ne (nq _ _ hc2)]; exact hc2
    have p2 : ∀ oL, L2.upd H2 q oL PT = some (.tbl #[rawInt lamPos.line, rawInt lamPos.col, .ref c]) := fun oL => by rw [upd_ne (nq _ _ hP2)]; exact hP2
    refine kk _ z (fun b o e ne => s2 _ _ (up _ b o e ne)) (.inr ⟨c, s2 _ _ (p2 _), s2 _ _ (c2 _), fun m => ?_⟩) ?_ ?_
    · obtain ⟨o, eo, _⟩ := hA.mu_some m
      rcases hcc with z | z
      · have := s1 _ _ eo
        rw [z] at this
        cases this
      · rcases hT with hT | ⟨c', hT, _, nm⟩
        · rw [s1 _ _ hT] at z
          cases z
        · rw [s1 _ _ hT] at z
          have ec : c' = c := by
            have z := Option.some.inj z
            injection z with z
            have z2 := congrArg (fun a => a[2]?) z
            have z3 : (some (Value.ref c') : Option Value) = some (Value.ref c) := z2
            cases z3
            rfl
          subst ec
          exact nm m
    · cases e : H z with
      | none => rfl
      | some o =>
        by_cases hzp : z = PT
        · have e2 := same_new (o := .lst [V.int (-1)]) (same_upd (o := .lst (ns.map fun (j : Nat) => V.int (j : Int))) hp0) hl _ _ (p2 _)
          rw [hzp, e2] at hz
          cases hz
        · have e2 := same_new (o := .lst [V.int (-1)]) (same_upd (o := .lst (ns.map fun (j : Nat) => V.int (j : Int))) hp0) hl _ _ (up _ z o e hzp)
          rw [e2] at hz
          cases hz
    · rw [upd_same, eo]
      show some (HO.lst _) = some (HO.lst (V.int (-1) :: (ns.map some).map optV))
      rw [List.map_map]
      rfl
end
end VP
namespace VP
open PySem PySem.Spec PyProof.Rows L2 VO VM
open Rb19 (B Word Version Span)
structure KDefs (K : PySem.W.Frag) (mg : Str → Option Value) : Prop where
  ca : ∃ f fd, Def K mg "choice_at" sChoiceAt ["place", "rows"] f fd
  cc : ∃ f fd, Def K mg "count_chosen" sCount ["choice"] f fd
  im : ∃ f fd, Def K mg "is_met" sIsMet ["ask", "packages", "choice"] f fd
  ir : ∃ f fd, Def K mg "is_right" sIsRight ["packages", "wants", "choice"] f fd
  hrg : mg "range" = none
  hrv : mg "reversed" = none
  hso : mg "sorted" = none
theorem optV_ge (o : Option Nat) : ∃ i : Int, optV o = .int i ∧ decide ((0 : Int) ≤ i) = o.isSome := by
  cases o with
  | none => exact ⟨-1, rfl, rfl⟩
  | some n => exact ⟨(n : Int), rfl, decide_eq_true (by omega)⟩
def spCount : Sp := fun vs H Q _ => ∃ (a : Addr) (c : Rb19.Choice), vs = [.ref a] ∧ H a = some (.lst (c.map optV)) ∧ c.length ≤ 1000 ∧ ∀ H', Same H H' → Q (.int ((VS.count c : Nat) : Int)) H'
section
variable {P : Program} {w : World} {K : PySem.W.Frag} {mg : Str → Option Value} {base : Heap} {f : Addr} {fd : FuncData} {C : Cs}
theorem scCount : FnScope ["choice", "number"] ["choice"] (defScope sCount) := ⟨rfl, rfl, rfl, by decide +kernel, rfl, by decide +kernel, by decide +kernel⟩
theorem ok_count (D : Def K mg "count_chosen" sCount ["choice"] f fd) (T : Blt mg) : FnOk P w K mg base CX0 1 f fd ["choice"] spCount := by
  refine D.F.ok scCount (fun vs H Q E h => ?_) (fun cdv A outer s H vs Q E hr h => ?_)
  · obtain ⟨a, c, rfl, _⟩ := h
    rfl
  · obtain ⟨a, c, rfl, ha, hl, k⟩ := h
    refine ⟨_, pss_one (ps_ret (pe_callB call_len_seq rfl T.len PySem.boot_len (pa_cons (pe_lc (own := [("number", 1)]) rfl scCount.nd (pi_list (pv 0)) (blkOk_by (by rfl))
      (fun _ _ _ _ _ => pg_name (i := 1) scCount.nd rfl (Or.inl rfl)) (fun _ _ _ _ _ => pts_one (pt_cmpR op_ge (pv 1) pe_int (nomark _))) (fun _ _ _ _ _ => pv 1)) pa_nil))), ?_⟩
    refine ⟨_, rfl, a, rfl, ⟨_, SqL.of ha⟩, fun DD hD => lc_list (K := K) (a := a) (xs := c.map optV) (fun i H' => Same H H' ∧ H' DD = some (.lst (((c.take i).filter Option.isSome).map optV))) ⟨same_upd hD, upd_same⟩ (fun i H' _ h => SqL.of (h.1 _ _ ha)) (fun i x H' hx h => ?_) (fun H' h => ?_)⟩
    · obtain ⟨s1, h1⟩ := h
      rw [List.getElem?_map] at hx
      obtain ⟨o, ho, rfl⟩ := Option.map_eq_some_iff.mp hx
      obtain ⟨n, e1, e2⟩ := optV_ge o
      have et : c.take (i + 1) = c.take i ++ [o] := take_snoc ho
      refine ⟨rfl, _, rfl, n, _, e1, rfl, _, rfl, ?_⟩
      rw [e2]
      cases o with
      | none =>
        refine ⟨s1, ?_⟩
        rw [h1, et, List.filter_append]
        simp
      | some m =>
        refine ⟨_, rfl, _, h1, ?_, same_free s1 hD, ?_⟩
        · rw [List.length_map]
          refine small1000 (Nat.le_trans (List.length_filter_le _ _) ?_)
          rw [List.length_take]
          omega
        · rw [upd_same, et, List.filter_append, List.map_append]
          rfl
    · obtain ⟨s1, h1⟩ := h
      rw [List.length_map, List.take_length] at h1
      refine ⟨DD, _, rfl, .inl (SqL.of h1), ?_⟩
      rw [List.length_map]
      exact k H' s1
structure Val (S : SesS) (c : Rb19.Choice) : Prop where
  len : c.length = S.packs.length
  some : ∀ (p i : Nat) (k : PackS), c[p]? = some (some i) → S.packs[p]? = some k → i < k.rels.length
def spMet (P : Program) (w : World) (C : Cs) : Sp := fun vs H Q _ => ∃ (S : SesS) (s : ASlot) (x : AskS) (ch : Addr) (c : Rb19.Choice), vs = [.ref x.a, .ref S.pl, .ref ch] ∧ At P w C H S ∧ askAt S s = some x ∧ H ch = some (.lst (c.map optV)) ∧ Val S c ∧
  ∀ H', At P w C H' S → Fix (VD S) H H' → Q (.bl (Rb19.meets (keptOf S) c x.spec)) H'
theorem meets_none {S : SesS} {c : Rb19.Choice} {x : AskS} (h : c[x.on]? = some none) : Rb19.meets (keptOf S) c x.spec = false := by
  unfold Rb19.meets Rb19.chosen
  show (((((c[x.on]?).getD none).bind _).map _).getD false) = false
  rw [h]
  rfl
theorem chosen_rel {S : SesS} {c : Rb19.Choice} {p i : Nat} {k : PackS} {r : RelS} (h : c[p]? = some (some i)) (hk : S.packs[p]? = some k) (hr : k.rels[i]? = some r) : Rb19.chosen (keptOf S) c p = some r.spec := by
  refine VS.chosen_of h ?_
  rw [items_kept hk, List.getElem?_map, hr]
  rfl
theorem meets_some {S : SesS} {c : Rb19.Choice} {x : AskS} {i : Nat} {k : PackS} {r : RelS} (h : c[x.on]? = some (some i)) (hk : S.packs[x.on]? = some k) (hr : k.rels[i]? = some r) : Rb19.meets (keptOf S) c x.spec = Rb19.holds x.cond r.u := by
  unfold Rb19.meets
  show ((Rb19.chosen (keptOf S) c x.on).map _).getD false = _
  rw [chosen_rel h hk hr]
  rfl
theorem scMet : FnScope ["ask", "packages", "choice", "number"] ["ask", "packages", "choice"] (defScope sIsMet) := ⟨rfl, rfl, rfl, by decide +kernel, rfl, by decide +kernel, by decide +kernel⟩
theorem ok_met (D : Def K mg "is_met" sIsMet ["ask", "packages", "choice"] f fd) (S : SDefs K mg C) : FnOk P w K mg base CX0 5 f fd ["ask", "packages", "choice"] (spMet P w C) := by
  obtain ⟨f1, fd1, D1⟩ := S.aA
  have G1 : FnOk P w K mg base CX0 4 f1 fd1 ["self", "number", "version"] (spAcc P w C) := ok_acc D1 S
  refine D.F.ok scMet (fun vs H Q E h => ?_) (fun cdv A outer s H vs Q E hr h => ?_)
  · obtain ⟨Z, sl, x, ch, c, rfl, _⟩ := h
    rfl
  · obtain ⟨Z, sl, x, ch, c, rfl, hA, hx, hc, hv, k⟩ := h
    refine ⟨_, pss_cons (ps_set (i := 3) scMet.nd rfl (Or.inl rfl) (pe_ix ix_list (pv 2) (pe_fld (pv 0) rfl) (fun _ _ => rfl)))
      (pss_one (ps_ret (pe_and (pe_cmpR op_ge (pv 3) pe_int (nomark _)) (pe_one (pe_meth (pv 0) S.cA.cl D1.me G1 hr D1.b .nil pass0 (pa_cons (pv 3) (pa_cons (pe_fld (pe_ix ix_list (pe_fld (pe_ix ix_list (pv 1) (pe_fld (pv 0) rfl) (fun _ _ => rfl)) rfl) (pv 3) (fun _ _ => rfl)) rfl) pa_nil))))))), ?_⟩
    have q := hA.asks sl x hx
    obtain ⟨dx, g, h1, h2⟩ := q.ins
    have hon := hA.on sl x hx
    obtain ⟨kk, hk⟩ : ∃ kk, Z.packs[x.on]? = some kk := ⟨_, List.getElem?_eq_getElem hon⟩
    obtain ⟨o, ho⟩ : ∃ o, c[x.on]? = some o := ⟨_, List.getElem?_eq_getElem (by rw [hv.len]; exact hon)⟩
    have hoV : (c.map optV)[x.on]? = some (optV o) := by rw [List.getElem?_map, ho]; rfl
    refine ⟨_, rfl, _, rfl, x.a, C.A, dx, _, _, rfl, h1, S.cA.cl, S.nOn, fAsk_on _ _ _, ch, _, _, _, rfl, rfl, SqL.of hc, atI_nat hoV, ?_⟩
    obtain ⟨n, e1, e2⟩ := optV_ge o
    refine ⟨_, rfl, n, _, e1, rfl, _, rfl, ?_⟩
    rw [e2]
    cases o with
    | none =>
      rw [← meets_none (S := Z) ho]
      exact k H hA (Fix.refl _ _)
    | some i =>
      have hi := hv.some x.on i kk ho hk
      obtain ⟨r, hr0⟩ : ∃ r, kk.rels[i]? = some r := ⟨_, List.getElem?_eq_getElem hi⟩
      have hP := hA.packs _ _ hk
      obtain ⟨dp, p1⟩ := hP.ins
      have hR := hA.rels x.on i r (by unfold relAt; rw [hk]; exact hr0)
      obtain ⟨dr, b, r1, r2⟩ := hR.ins
      rw [meets_some ho hk hr0, q.cond] at k
      have gp : (Z.packs.map fun k => V.ref k.a)[x.on]? = some (.ref kk.a) := by rw [List.getElem?_map, hk]; rfl
      have gr : (kk.rels.map fun r => V.ref r.a)[i]? = some (.ref r.a) := by rw [List.getElem?_map, hr0]; rfl
      refine ⟨_, rfl, x.a, dx, _, rfl, h1, fAsk_no _ _ _ (by decide +kernel) (by decide +kernel) (by decide +kernel), _, rfl, _, rfl, _, rfl, x.a, C.A, dx, _, _, rfl, h1, S.cA.cl, S.nOn, fAsk_on _ _ _, Z.pl, _, _, _, rfl, rfl, SqL.of hA.pl, atI_nat gp,
        kk.a, C.P, dp, _, _, rfl, p1, S.cP.cl, S.nRl, fPack_releases _ _, _, rfl, kk.rl, _, _, _, rfl, rfl, SqL.of hP.lst, atI_nat gr, r.a, C.R, dr, _, _, rfl, r1, S.cR.cl, S.nVr, fRel_version _ _, ?_⟩
      refine ⟨Z, sl, x, i, r.u, .ref b, rfl, hA, hx, ?_, r2, k⟩
      unfold vers
      rw [hk]
      show (kk.rels.map RelS.u)[i]? = _
      rw [List.getElem?_map, hr0]
      rfl
end
end VP
namespace VP
open PySem PySem.Spec PyProof.Rows L2 VO VM
open Rb19 (B Word Version Span)
structure Jn (H0 H : Hp) (S : SesS) : Prop where
  fix : Fix (VD S) H0 H
  vd : ∀ s x, askAt S s = some x → ∃ kvs, H x.vd = some (.dK kvs) ∧ Verd kvs (vers S x.on) x.gs
section
variable {P : Program} {w : World} {C : Cs} {H0 H H' : Hp} {S : SesS}
theorem At.vd_dk (h : At P w C H S) {b : Addr} (v : VD S b) : ∃ kvs, H b = some (.dK kvs) := by
  obtain ⟨s, x, hx, rfl⟩ := v
  obtain ⟨kvs, g, _⟩ := (h.asks s x hx).dict
  exact ⟨kvs, g⟩
theorem At.not_vd (h : At P w C H S) {b : Addr} {o : HO} (e : H b = some o) (ne : ∀ kvs, o ≠ .dK kvs) : ¬ VD S b := fun v => by
  obtain ⟨kvs, g⟩ := h.vd_dk v
  rw [e] at g
  cases g
  exact ne _ rfl
theorem At.free_vd (h : At P w C H S) {b : Addr} (e : H b = none) : ¬ VD S b := fun v => by
  obtain ⟨kvs, g⟩ := h.vd_dk v
  rw [e] at g
  cases g
theorem Jn.refl (h : At P w C H0 S) : Jn H0 H0 S := ⟨Fix.refl _ _, fun s x e => (h.asks s x e).dict⟩
theorem Jn.at_ (h : At P w C H0 S) (j : Jn H0 H S) : At P w C H S := by
  obtain ⟨fx, vd⟩ := j
  have ht : ∀ b xs, H0 b = some (.tup xs) → ¬ VD S b := fun b xs e => h.not_vd e fun _ z => by cases z
  have hi : ∀ b c d fs, H0 b = some (.ins c d fs) → ¬ VD S b := fun b c d fs e => h.not_vd e fun _ z => by cases z
  have hl : ∀ b xs, H0 b = some (.lst xs) → ¬ VD S b := fun b xs e => h.not_vd e fun _ z => by cases z
  obtain ⟨dx, h1⟩ := h.ins
  refine ⟨⟨dx, fx _ _ h1 (hi _ _ _ _ h1)⟩, fx _ _ h.pl (hl _ _ h.pl), fx _ _ h.nd (h.not_vd h.nd fun _ z => by cases z), fx _ _ h.wl (hl _ _ h.wl), fun p k e => ?_, fun p i r e => ?_, fun t y e => ?_, h.on, h.few, h.names, h.inj, h.injV, h.injN⟩
  · have q := h.packs p k e
    obtain ⟨xs, g1, _⟩ := q.dict
    exact q.fix fx ht hi (hl _ _ q.lst) (h.not_vd g1 fun _ z => by cases z)
  · have q := h.rels p i r e
    exact q.fix fx ht hi (hl _ _ q.lst)
  · obtain ⟨⟨dx', g, g1, g2⟩, g3, g4, _⟩ := h.asks t y e
    exact ⟨⟨dx', g, fx _ _ g1 (hi _ _ _ _ g1), g2.keep2 (fun b xs e => fx b _ e (ht b xs e)) fun b vs hb e => ⟨hb, fx _ _ e (hl _ _ e)⟩⟩, g3, g4, vd t y e⟩
theorem Jn.step (j : Jn H0 H S) (h : At P w C H' S) (f : Fix (VD S) H H') : Jn H0 H' S := ⟨j.fix.trans f, fun s x e => (h.asks s x e).dict⟩
theorem Jn.upd (h : At P w C H0 S) (j : Jn H0 H S) {a : Addr} {o : HO} (ha : H0 a = none) : Jn H0 (upd H a o) S := by
  refine ⟨Fix.upd j.fix (.inr ha), fun s x e => ?_⟩
  obtain ⟨kvs, g, v⟩ := j.vd s x e
  refine ⟨kvs, ?_, v⟩
  rw [upd_ne fun z => h.free_vd ha ⟨s, x, e, z⟩]
  exact g
theorem Jn.same (j : Jn H0 H S) (s : Same H H') : Jn H0 H' S := ⟨j.fix.trans (Same.fix s _), fun t x e => by
  obtain ⟨kvs, g, v⟩ := j.vd t x e
  exact ⟨kvs, s _ _ g, v⟩⟩
end
def reachK (R : List Nat) : List (Key × V) := R.map fun (p : Nat) => ((Sum.inl (p : Int) : Key), V.bl true)
theorem reach_val : ∀ (R : List Nat) (p : Nat), (valV (reachK R) (Sum.inl (p : Int))).isSome = decide (p ∈ R)
  | [], p => by simp [reachK, valV]
  | a :: R, p => by
    show (valV ((Sum.inl (a : Int), V.bl true) :: reachK R) _).isSome = _
    by_cases e : a = p
    · subst e
      rw [valV_pos rfl]
      simp
    · have e' : ¬ (Sum.inl (a : Int) : Key) = Sum.inl (p : Int) := fun z => e (by injection z with z; omega)
      rw [valV_neg e', reach_val R p]
      have : ¬ p = a := fun z => e z.symm
      simp [this]
theorem list_end {α : Type} : ∀ (l : List α), l = [] ∨ ∃ m x, l = m ++ [x]
  | [] => .inl rfl
  | a :: l => by
    rcases list_end l with rfl | ⟨m, x, rfl⟩
    · exact .inr ⟨[], a, rfl⟩
    · exact .inr ⟨a :: m, x, rfl⟩
def Chos (S : SesS) (c : Rb19.Choice) (p : Nat) (r : RelS) : Prop := ∃ (i : Nat) (k : PackS), c[p]? = some (some i) ∧ S.packs[p]? = some k ∧ k.rels[i]? = some r
theorem Chos.spec {S : SesS} {c : Rb19.Choice} {p : Nat} {r : RelS} : Chos S c p r → Rb19.chosen (keptOf S) c p = some r.spec := fun ⟨_, _, h1, h2, h3⟩ => chosen_rel h1 h2 h3
theorem Chos.of {S : SesS} {c : Rb19.Choice} {p : Nat} {y : Rb19.Item} (h : Rb19.chosen (keptOf S) c p = some y) : ∃ r, Chos S c p r ∧ y = r.spec := by
  obtain ⟨i, h1, h2⟩ := VS.chosen_some h
  cases e : S.packs[p]? with
  | none =>
    unfold Rb19.items keptOf at h2
    simp [e] at h2
  | some k =>
    rw [items_kept e, List.getElem?_map] at h2
    obtain ⟨r, hr, rfl⟩ := Option.map_eq_some_iff.mp h2
    exact ⟨r, ⟨i, k, h1, e, hr⟩, rfl⟩
theorem Chos.inj {S : SesS} {c : Rb19.Choice} {p : Nat} {r r' : RelS} (h : Chos S c p r) (h' : Chos S c p r') : r = r' := by
  obtain ⟨i, k, h1, h2, h3⟩ := h
  obtain ⟨i', k', h1', h2', h3'⟩ := h'
  rw [h1] at h1'
  cases h1'
  rw [h2] at h2'
  cases h2'
  rw [h3] at h3'
  exact Option.some.inj h3'
theorem Chos.lt {S : SesS} {c : Rb19.Choice} {p : Nat} {r : RelS} (h : Chos S c p r) : p < S.packs.length := by
  obtain ⟨_, _, _, h2, _⟩ := h
  exact (List.getElem?_eq_some_iff.mp h2).1
structure Walk (S : SesS) (c : Rb19.Choice) (R : List Nat) (W : List AskS) : Prop where
  nd : R.Nodup
  need : ∀ p ∈ R, p ∈ Rb19Neutral.neededBy (keptOf S) c R.length
  cho : ∀ p ∈ R, ∃ r, Chos S c p r
  ask : ∀ x ∈ W, (∃ s, askAt S s = some x) ∧ x.on ∈ Rb19Neutral.neededBy (keptOf S) c R.length ∧ (x ∈ S.wants ∨ ∃ p r, Chos S c p r ∧ x ∈ r.asks)
  out : ∀ x ∈ S.wants, x ∈ W ∨ (Rb19.meets (keptOf S) c x.spec = true ∧ x.on ∈ R)
  ins : ∀ p ∈ R, ∀ r, Chos S c p r → ∀ x ∈ r.asks, x ∈ W ∨ (Rb19.meets (keptOf S) c x.spec = true ∧ x.on ∈ R)
section
variable {S : SesS} {c : Rb19.Choice} {R : List Nat} {W : List AskS} {x : AskS}
theorem Walk.len (h : Walk S c R W) : R.length ≤ S.packs.length := by
  have := VS.sub_len (m := List.range S.packs.length) h.nd fun p hp => by
    obtain ⟨r, hr⟩ := h.cho p hp
    exact List.mem_range.mpr hr.lt
  rwa [List.length_range] at this
theorem askAt_want {j : Nat} (h : S.wants[j]? = some x) : askAt S (.w j) = some x := h
theorem askAt_rel {p i j : Nat} {k : PackS} {r : RelS} (h1 : S.packs[p]? = some k) (h2 : k.rels[i]? = some r) (h3 : r.asks[j]? = some x) : askAt S (.r p i j) = some x := by
  show ((S.packs[p]?).bind fun k => k.rels[i]?).bind (fun r => r.asks[j]?) = _
  rw [h1]
  show (k.rels[i]?).bind _ = _
  rw [h2]
  exact h3
theorem Walk.start : Walk S c [] S.wants := by
  refine ⟨List.nodup_nil, (fun p hp => (nomatch hp)), (fun p hp => (nomatch hp)), (fun x hx => ⟨?_, ?_, .inl hx⟩), (fun x hx => .inl hx), (fun p hp => (nomatch hp))⟩
  · obtain ⟨j, hj⟩ := List.getElem?_of_mem hx
    exact ⟨.w j, hj⟩
  · exact VS.needed_out (a := x.spec) 0 (List.mem_map.mpr ⟨x, hx, rfl⟩)
theorem Walk.old (h : Walk S c R (W ++ [x])) (hm : Rb19.meets (keptOf S) c x.spec = true) (hx : x.on ∈ R) : Walk S c R W := by
  have pop : ∀ y, y ∈ W ++ [x] ∨ (Rb19.meets (keptOf S) c y.spec = true ∧ y.on ∈ R) → y ∈ W ∨ (Rb19.meets (keptOf S) c y.spec = true ∧ y.on ∈ R) := fun y hy => by
    rcases hy with hy | hy
    · rcases List.mem_append.mp hy with hy | hy
      · exact .inl hy
      · have : y = x := by simpa using hy
        subst this
        exact .inr ⟨hm, hx⟩
    · exact .inr hy
  exact ⟨h.nd, h.need, h.cho, fun y hy => h.ask y (List.mem_append_left _ hy), fun y hy => pop y (h.out y hy), fun p hp r hr y hy => pop y (h.ins p hp r hr y hy)⟩
theorem Walk.new (h : Walk S c R (W ++ [x])) (hm : Rb19.meets (keptOf S) c x.spec = true) (hx : x.on ∉ R) {r : RelS} (hr : Chos S c x.on r) : Walk S c (R ++ [x.on]) (W ++ r.asks) := by
  obtain ⟨i, k, h1, h2, h3⟩ := hr
  have ha := h.ask x (List.mem_append_right _ (by simp))
  have up : ∀ p, p ∈ Rb19Neutral.neededBy (keptOf S) c R.length → p ∈ Rb19Neutral.neededBy (keptOf S) c (R ++ [x.on]).length := fun p hp => VS.needed_mono _ _ (by rw [List.length_append]; omega) hp
  have pop : ∀ y, y ∈ W ++ [x] ∨ (Rb19.meets (keptOf S) c y.spec = true ∧ y.on ∈ R) → y ∈ W ++ r.asks ∨ (Rb19.meets (keptOf S) c y.spec = true ∧ y.on ∈ R ++ [x.on]) := fun y hy => by
    rcases hy with hy | hy
    · rcases List.mem_append.mp hy with hy | hy
      · exact .inl (List.mem_append_left _ hy)
      · have : y = x := by simpa using hy
        subst this
        exact .inr ⟨hm, List.mem_append_right _ (by simp)⟩
    · exact .inr ⟨hy.1, List.mem_append_left _ hy.2⟩
  refine ⟨?_, fun p hp => ?_, fun p hp => ?_, fun y hy => ?_, fun y hy => pop y (h.out y hy), fun p hp r' hr' y hy => ?_⟩
  · rw [List.nodup_append]
    refine ⟨h.nd, by simp, fun a ha b hb z => hx ?_⟩
    have hb : b = x.on := by simpa using hb
    rw [← hb, ← z]
    exact ha
  · rcases List.mem_append.mp hp with hp | hp
    · exact up p (h.need p hp)
    · have : p = x.on := by simpa using hp
      subst this
      exact up _ ha.2.1
  · rcases List.mem_append.mp hp with hp | hp
    · exact h.cho p hp
    · have : p = x.on := by simpa using hp
      subst this
      exact ⟨r, i, k, h1, h2, h3⟩
  · rcases List.mem_append.mp hy with hy | hy
    · obtain ⟨a1, a2, a3⟩ := h.ask y (List.mem_append_left _ hy)
      exact ⟨a1, up _ a2, a3⟩
    · obtain ⟨j, hj⟩ := List.getElem?_of_mem hy
      refine ⟨⟨.r x.on i j, askAt_rel h2 h3 hj⟩, ?_, .inr ⟨x.on, r, ⟨i, k, h1, h2, h3⟩, hy⟩⟩
      rw [List.length_append]
      exact VS.needed_step (a := y.spec) ha.2.1 (Chos.spec ⟨i, k, h1, h2, h3⟩) (List.mem_map.mpr ⟨y, hy, rfl⟩)
  · rcases List.mem_append.mp hp with hp | hp
    · exact pop y (h.ins p hp r' hr' y hy)
    · have : p = x.on := by simpa using hp
      subst this
      rw [Chos.inj hr' ⟨i, k, h1, h2, h3⟩] at hy
      exact .inl (List.mem_append_right _ hy)
theorem Walk.no (h : Walk S c R W) (hv : Val S c) (hx : x ∈ W) (hm : Rb19.meets (keptOf S) c x.spec = false) : Rb19Neutral.isRight (keptOf S) c = false := by
  rcases (h.ask x hx).2.2 with hw | ⟨p, r, hr, hy⟩
  · exact VS.right_no_out (a := x.spec) (List.mem_map.mpr ⟨x, hw, rfl⟩) hm
  · exact VS.right_no_in (a := x.spec) (by rw [hv.len]; unfold keptOf; simp) hr.spec (List.mem_map.mpr ⟨x, hy, rfl⟩) hm
theorem Walk.done (h : Walk S c R []) (hv : Val S c) : Rb19Neutral.isRight (keptOf S) c = decide (R.length = VS.count c) := by
  have el : (keptOf S).packages.length = S.packs.length := by unfold keptOf; simp
  refine VS.right_end (by rw [hv.len, el]) (fun p i e => ?_) h.nd (fun p hp => ⟨?_, ?_⟩) (fun a ha => ?_) (fun p hp y hy a ha => ?_)
  · have hp : p < S.packs.length := by rw [← hv.len]; exact (List.getElem?_eq_some_iff.mp e).1
    have hk := List.getElem?_eq_getElem hp
    rw [items_kept hk, List.length_map]
    exact hv.some p i _ e hk
  · rw [el]
    exact VS.needed_mono _ _ h.len (h.need p hp)
  · obtain ⟨r, hr⟩ := h.cho p hp
    exact ⟨_, hr.spec⟩
  · obtain ⟨x, hx, rfl⟩ := List.mem_map.mp ha
    rcases h.out x hx with z | z
    · cases z
    · exact z
  · obtain ⟨r, hr, rfl⟩ := Chos.of hy
    obtain ⟨x, hx, rfl⟩ := List.mem_map.mp ha
    rcases h.ins p hp r hr x hx with z | z
    · cases z
    · exact z
end
end VP
namespace VP
open PySem PySem.Spec PyProof.Rows L2 VO VM
open Rb19 (B Word Version Span)
def spRight (P : Program) (w : World) (C : Cs) : Sp := fun vs H Q _ => ∃ (S : SesS) (ch : Addr) (c : Rb19.Choice), vs = [.ref S.pl, .ref S.wl, .ref ch] ∧ At P w C H S ∧ H ch = some (.lst (c.map optV)) ∧ Val S c ∧
  ∀ H', Jn H H' S → Q (.bl (Rb19Neutral.isRight (keptOf S) c)) H'
section
variable {P : Program} {w : World} {K : PySem.W.Frag} {mg : Str → Option Value} {base : Heap} {f : Addr} {fd : FuncData} {C : Cs}
theorem scRight : FnScope ["packages", "wants", "choice", "reached", "waiting", "ask"] ["packages", "wants", "choice"] (defScope sIsRight) := ⟨rfl, rfl, rfl, by decide +kernel, rfl, by decide +kernel, by decide +kernel⟩
theorem dec_int (a b : Nat) : decide (V.int (a : Int) = V.int (b : Int)) = decide (a = b) := by
  by_cases h : a = b
  · subst h; simp
  · rw [decide_eq_false h]
    exact decide_eq_false fun z => h (by injection z with z; omega)
theorem ok_right (D : Def K mg "is_right" sIsRight ["packages", "wants", "choice"] f fd) (S : SDefs K mg C) (Z : KDefs K mg) : FnOk P w K mg base CX0 6 f fd ["packages", "wants", "choice"] (spRight P w C) := by
  have T := S.D.V.T
  obtain ⟨f1, fd1, D1⟩ := Z.im
  obtain ⟨f2, fd2, D2⟩ := Z.cc
  have G1 : FnOk P w K mg base CX0 5 f1 fd1 ["ask", "packages", "choice"] (spMet P w C) := ok_met D1 S
  have G2 : FnOk P w K mg base CX0 5 f2 fd2 ["choice"] spCount := (ok_count D2 T).mono (by decide)
  refine D.F.ok scRight (fun vs H Q E h => ?_) (fun cdv A outer s H vs Q E hr h => ?_)
  · obtain ⟨Z, ch, c, rfl, _⟩ := h
    rfl
  · obtain ⟨Z, ch, c, rfl, hA, hc, hv, k⟩ := h
    have hu := hu_of hr
    refine ⟨_, pss_cons (ps_set (i := 3) scRight.nd rfl (Or.inl rfl) pe_dnewK)
      (pss_cons (ps_set (i := 4) scRight.nd rfl (Or.inl rfl) (pe_callTy call_list_of rfl S.D.hli bt_list (pa_cons (pv 1) pa_nil)))
      (pss_cons (ps_while PassesOwn.never (pt_cmpR op_gt (pe_callB call_len_seq rfl T.len PySem.boot_len (pa_cons (pv 4) pa_nil)) pe_int (nomark _))
        (pss_cons (ps_set (i := 5) scRight.nd rfl (Or.inl rfl) (pe_bm0 PySem.F.plainAttrs_list PySem.F.slot_list_pop PySem.F.type_list_pop mt_pop (pv 4)))
        (pss_cons (ps_if (pt_not (pt_val (pe_call G1 hr rfl D1.at_ D1.F.kp D1.b .nil pass0 (pa_cons (pv 5) (pa_cons (pv 0) (pa_cons (pv 2) pa_nil)))))) (pss_one (ps_ret pe_bl)) pss_nil)
        (pss_one (ps_if (pt_cmp (pc_dnotin hu (pe_fld (pv 5) rfl) (pv 3)))
          (pss_cons (ps_dput hu (pv 3) (pe_fld (pv 5) rfl) pe_bl rfl)
          (pss_one (ps_expr (pe_bm PySem.F.plainAttrs_list PySem.F.slot_list_extend PySem.F.type_list_extend mt_extend (pv 4) (pa_cons (pe_fld (pe_ix ix_list (pe_fld (pe_ix ix_list (pv 0) (pe_fld (pv 5) rfl) (fun _ _ => rfl)) rfl) (pe_ix ix_list (pv 2) (pe_fld (pv 5) rfl) (fun _ _ => rfl)) (fun _ _ => rfl)) rfl) pa_nil))))) pss_nil)))))
      (pss_one (ps_ret (pe_cmpR op_eq (pe_callB call_lenD rfl T.len PySem.boot_len (pa_cons (pv 3) pa_nil)) (pe_call G2 hr rfl D2.at_ D2.F.kp D2.b .nil pass0 (pa_cons (pv 2) pa_nil)) (nomark _)))))), ?_⟩
    intro rd hrd
    have s1 : Same H (upd H rd (.dK [])) := same_upd hrd
    refine ⟨_, rfl, Z.wl, _, rfl, .inl (SqL.of (s1 _ _ hA.wl)), fun wt hwt => ?_⟩
    have hwt0 : H wt = none := s1.free hwt
    have nrw : rd ≠ wt := fun z => by rw [← z, upd_same] at hwt; cases hwt
    have few := hA.few.1
    refine ⟨fun m σ H' => ∃ (R : List Nat) (W : List AskS) (v5 : Option V), m = 17 * (Z.packs.length - R.length) + W.length ∧ σ = [some (.ref Z.pl), some (.ref Z.wl), some (.ref ch), some (.ref rd), some (.ref wt), v5] ∧ Jn H H' Z ∧ H' rd = some (.dK (reachK R)) ∧ H' wt = some (.lst (W.map fun x => V.ref x.a)) ∧ W.length ≤ 17 * 40 ∧ 17 * (Z.packs.length - R.length) + W.length ≤ 17 * 40 ∧ Walk Z c R W,
      ⟨_, [], Z.wants, none, rfl, rfl, ?_, ?_, upd_same, ?_, ?_, Walk.start⟩, ?_⟩
    · exact Jn.upd hA (Jn.upd hA (Jn.refl hA) hrd) hwt0
    · rw [upd_ne nrw]
      exact upd_same
    · have := hA.few.2
      omega
    · have := hA.few.2
      show 17 * (Z.packs.length - 0) + _ ≤ _
      omega
    rintro m σ H1 ⟨R, W, v5, rfl, rfl, J, hR, hW, lW, lM, wk⟩
    have hA1 := Jn.at_ hA J
    have hc1 : H1 ch = some (.lst (c.map optV)) := J.fix _ _ hc (hA.not_vd hc fun _ z => by cases z)
    refine ⟨_, rfl, wt, _, rfl, .inl (SqL.of hW), _, _, rfl, rfl, _, rfl, ?_⟩
    rcases list_end W with rfl | ⟨Vs, x, rfl⟩
    ·
      refine ⟨_, rfl, rd, _, rfl, hR, _, rfl, ch, c, rfl, hc1, by rw [hv.len]; omega, fun H2 s2 => ⟨rfl, ?_⟩⟩
      show Q (.bl (decide (V.int (((reachK R).length : Nat) : Int) = V.int ((VS.count c : Nat) : Int)))) H2
      rw [dec_int, show (reachK R).length = R.length from List.length_map .., ← wk.done hv]
      exact k H2 (J.same s2)
    · rw [if_pos (by
        refine decide_eq_true ?_
        rw [List.length_map, List.length_append]
        show (0 : Int) < ((Vs.length + 1 : Nat) : Int)
        omega)]
      refine ⟨fun σ' H' => ∃ m', m' < 17 * (Z.packs.length - R.length) + (Vs ++ [x]).length ∧ ∃ (R : List Nat) (W : List AskS) (v5 : Option V), m' = 17 * (Z.packs.length - R.length) + W.length ∧ σ' = [some (.ref Z.pl), some (.ref Z.wl), some (.ref ch), some (.ref rd), some (.ref wt), v5] ∧ Jn H H' Z ∧ H' rd = some (.dK (reachK R)) ∧ H' wt = some (.lst (W.map fun x => V.ref x.a)) ∧ W.length ≤ 17 * 40 ∧ 17 * (Z.packs.length - R.length) + W.length ≤ 17 * 40 ∧ Walk Z c R W, fun _ _ h => h, ?_⟩
      have eW : (Vs ++ [x]).map (fun x => V.ref x.a) = (Vs.map fun x => V.ref x.a) ++ [V.ref x.a] := by rw [List.map_append]; rfl
      have hlast : ((Vs ++ [x]).map fun x => V.ref x.a)[((Vs ++ [x]).map fun x => V.ref x.a).length - 1]? = some (.ref x.a) := by
        rw [eW, List.length_append]
        show (_ ++ [V.ref x.a])[(Vs.map fun x => V.ref x.a).length + 1 - 1]? = _
        rw [Nat.add_sub_cancel, List.getElem?_append_right (Nat.le_refl _), Nat.sub_self]
        rfl
      have hdrop : ((Vs ++ [x]).map fun x => V.ref x.a).dropLast = Vs.map fun x => V.ref x.a := by rw [eW, List.dropLast_concat]
      have lV : (Vs ++ [x]).length = Vs.length + 1 := by rw [List.length_append]; rfl
      rw [lV] at lW lM
      obtain ⟨⟨sl, hx⟩, _, _⟩ := wk.ask x (List.mem_append_right _ (by simp))
      refine ⟨_, rfl, .inl ⟨rfl, _, SqL.of hW⟩, wt, _, _, rfl, rfl, hW, hlast, ?_⟩
      rw [hdrop]
      have J2 : Jn H (upd H1 wt (.lst (Vs.map fun x => V.ref x.a))) Z := Jn.upd hA J hwt0
      have hA2 := Jn.at_ hA J2
      have hc2 : upd H1 wt (.lst (Vs.map fun x => V.ref x.a)) ch = some (.lst (c.map optV)) := J2.fix _ _ hc (hA.not_vd hc fun _ z => by cases z)
      have hR2 : upd H1 wt (.lst (Vs.map fun x => V.ref x.a)) rd = some (.dK (reachK R)) := by rw [upd_ne nrw]; exact hR
      refine ⟨_, rfl, _, rfl, _, rfl, Z, sl, x, ch, c, rfl, hA2, hx, hc2, hv, fun H3 hA3 fx3 => ⟨_, rfl, ?_⟩⟩
      have J3 := J2.step hA3 fx3
      have hR3 : H3 rd = some (.dK (reachK R)) := fx3 _ _ hR2 (hA.free_vd hrd)
      have hW3 : H3 wt = some (.lst (Vs.map fun x => V.ref x.a)) := fx3 _ _ upd_same (hA.free_vd hwt0)
      have hc3 : H3 ch = some (.lst (c.map optV)) := J3.fix _ _ hc (hA.not_vd hc fun _ z => by cases z)
      cases hm : Rb19.meets (keptOf Z) c x.spec with
      | false =>
        show Q (.bl false) H3
        rw [← wk.no hv (List.mem_append_right _ (by simp)) hm]
        exact k H3 J3
      | true =>
        obtain ⟨dx, g, h1, _⟩ := (hA3.asks sl x hx).ins
        refine ⟨_, rfl, x.a, C.A, dx, _, _, rfl, h1, S.cA.cl, S.nOn, fAsk_on _ _ _, _, rfl, rd, _, rfl, DGet.k (k := Sum.inl (x.on : Int)) hR3, _, rfl, ?_⟩
        rw [reach_val]
        by_cases hin : x.on ∈ R
        · rw [decide_eq_true hin]
          have wk2 := wk.old hm hin
          exact ⟨_, by rw [lV]; exact Nat.lt_succ_self _, R, Vs, _, rfl, rfl, J3, hR3, hW3, by omega, by omega, wk2⟩
        · rw [decide_eq_false hin]
          have hon := hA3.on sl x hx
          obtain ⟨kk, hk⟩ : ∃ kk, Z.packs[x.on]? = some kk := ⟨_, List.getElem?_eq_getElem hon⟩
          obtain ⟨o, ho⟩ : ∃ o, c[x.on]? = some o := ⟨_, List.getElem?_eq_getElem (by rw [hv.len]; exact hon)⟩
          cases o with
          | none => rw [meets_none ho] at hm; cases hm
          | some i =>
          have hi := hv.some x.on i kk ho hk
          obtain ⟨r, hr0⟩ : ∃ r, kk.rels[i]? = some r := ⟨_, List.getElem?_eq_getElem hi⟩
          have hoV : (c.map optV)[x.on]? = some (.int (i : Int)) := by rw [List.getElem?_map, ho]; rfl
          have gp : (Z.packs.map fun k => V.ref k.a)[x.on]? = some (.ref kk.a) := by rw [List.getElem?_map, hk]; rfl
          have gr : (kk.rels.map fun r => V.ref r.a)[i]? = some (.ref r.a) := by rw [List.getElem?_map, hr0]; rfl
          have wk2 := wk.new hm hin ⟨i, kk, ho, hk, hr0⟩
          have l2 := wk2.len
          rw [List.length_append] at l2
          have l2 : R.length + 1 ≤ Z.packs.length := l2
          have vn : valV (reachK R) (Sum.inl (x.on : Int)) = none := by
            have := reach_val R x.on
            rw [decide_eq_false hin] at this
            cases e : valV (reachK R) (Sum.inl (x.on : Int)) with
            | none => rfl
            | some z => rw [e] at this; cases this
          have eR : putK (reachK R) (Sum.inl (x.on : Int)) (V.bl true) = reachK (R ++ [x.on]) := by
            rw [putK_new vn]
            unfold reachK
            rw [List.map_append]
            rfl
          refine ⟨_, rfl, _, rfl, x.a, C.A, dx, _, _, rfl, h1, S.cA.cl, S.nOn, fAsk_on _ _ _, rd, _, rfl, DPut.k (k := Sum.inl (x.on : Int)) hR3 (small1000 (by show (reachK R).length ≤ 1000; rw [show (reachK R).length = R.length from List.length_map ..]; omega)), ?_⟩
          rw [eR]
          have J4 : Jn H (upd H3 rd (.dK (reachK (R ++ [x.on])))) Z := Jn.upd hA J3 hrd
          have hA4 := Jn.at_ hA J4
          have hW4 : upd H3 rd (.dK (reachK (R ++ [x.on]))) wt = some (.lst (Vs.map fun x => V.ref x.a)) := by rw [upd_ne nrw.symm]; exact hW3
          have hc4 : upd H3 rd (.dK (reachK (R ++ [x.on]))) ch = some (.lst (c.map optV)) := J4.fix _ _ hc (hA.not_vd hc fun _ z => by cases z)
          obtain ⟨dx4, g4, h4, _⟩ := (hA4.asks sl x hx).ins
          have hP := hA4.packs _ _ hk
          obtain ⟨dp, p1⟩ := hP.ins
          have hRl := hA4.rels x.on i r (by unfold relAt; rw [hk]; exact hr0)
          obtain ⟨dr, b, r1, r2⟩ := hRl.ins
          have fewR := hRl.few
          refine ⟨_, rfl, .inl ⟨rfl, _, SqL.of hW4⟩, _, rfl, _, rfl, x.a, C.A, dx4, _, _, rfl, h4, S.cA.cl, S.nOn, fAsk_on _ _ _, Z.pl, _, _, _, rfl, rfl, SqL.of hA4.pl, atI_nat gp, kk.a, C.P, dp, _, _, rfl, p1, S.cP.cl, S.nRl, fPack_releases _ _,
            _, rfl, _, rfl, x.a, C.A, dx4, _, _, rfl, h4, S.cA.cl, S.nOn, fAsk_on _ _ _, ch, _, _, _, rfl, rfl, SqL.of hc4, atI_nat hoV, kk.rl, _, _, _, rfl, rfl, SqL.of hP.lst, atI_nat gr, r.a, C.R, dr, _, _, rfl, r1, S.cR.cl, S.nAs, fRel_asks _ _,
            wt, r.al, _, _, rfl, rfl, hW4, hRl.lst, ?_, ?_⟩
          · rw [List.length_map, List.length_map]
            exact Nat.le_of_lt (small1000 (by omega))
          · refine ⟨17 * (Z.packs.length - (R ++ [x.on]).length) + (Vs ++ r.asks).length, ?_, R ++ [x.on], Vs ++ r.asks, _, rfl, rfl, Jn.upd hA J4 hwt0, ?_, ?_, ?_, ?_, wk2⟩
            · rw [lV, List.length_append, List.length_append]
              show 17 * (Z.packs.length - (R.length + 1)) + _ < _
              omega
            · rw [upd_ne nrw]
              exact upd_same
            · rw [upd_same, List.map_append]
            · rw [List.length_append]
              omega
            · rw [List.length_append, List.length_append]
              show 17 * (Z.packs.length - (R.length + 1)) + _ ≤ _
              omega
end
end VP
namespace VP
open PySem PySem.Spec PyProof.Rows L2 VO VM
open Rb19 (B Word Version Span)
theorem for_rev {K : PySem.W.Frag} {a : Addr} {xs : List V} {g : TG} {tb : TS} {D : Ends} {σ : L2.St} {H : Hp} (Pv : Nat → L2.St → Hp → Prop) (h0 : Pv 0 σ H) (hl : ∀ i σ H, i ≤ xs.length → Pv i σ H → SqL K H a xs)
    (hs : ∀ i x σ H, i < xs.length → xs[xs.length - 1 - i]? = some x → Pv i σ H → g x σ H fun σ2 H2 => tb { D with nx := Pv (i + 1), ct := Pv (i + 1), bk := D.nx } σ2 H2) (hd : ∀ σ H, Pv xs.length σ H → D.nx σ H) :
    ∃ W : Nat → Nat → L2.St → Hp → Prop, (∃ m, W 0 m σ H) ∧ ∀ i m σ H, W i m σ H →
      ((Itv K a xs.length).stop i H ∧ D.nx σ H) ∨ ((Itv K a xs.length).go i H ∧ ∃ N : L2.St → Hp → Prop, (∀ σ' H', N σ' H' → ∃ m', m' < m ∧ W (i + 1) m' σ' H') ∧ ∀ x H', (Itv K a xs.length).yld i H x H' → g x σ H' fun σ2 H2 => tb { D with nx := N, ct := N, bk := D.nx } σ2 H2) := by
  refine ⟨fun i m σ H => m = xs.length - i ∧ i ≤ xs.length ∧ Pv i σ H, ⟨_, rfl, Nat.zero_le _, h0⟩, ?_⟩
  rintro i m σ H ⟨rfl, hi, p⟩
  have sq := hl i σ H hi p
  by_cases hlt : i < xs.length
  · have hx : xs[xs.length - 1 - i]? = some (xs[xs.length - 1 - i]'(by omega)) := List.getElem?_eq_getElem _
    refine .inr ⟨⟨hlt, xs, _, sq, hx⟩, Pv (i + 1), fun σ' H' p' => ⟨xs.length - (i + 1), by omega, rfl, hlt, p'⟩, fun x H' y => ?_⟩
    obtain ⟨e, y⟩ := y
    subst e
    exact hs i x σ _ hlt (y xs sq) p
  · have e : i = xs.length := by omega
    subst e
    exact .inl ⟨Nat.le_refl _, hd σ H p⟩
def RowsAt (H : Hp) (as : List Addr) (os : List (List (Option Nat))) : Prop := Paired (fun a o => H a = some (.lst (o.map optV))) as os
def spChoice : Sp := fun vs H Q _ => ∃ (q : Nat) (rw_ : Addr) (as : List Addr) (os : List (List (Option Nat))), vs = [.int (q : Int), .ref rw_] ∧ H rw_ = some (.lst (as.map V.ref)) ∧ RowsAt H as os ∧ (∀ o ∈ os, 0 < o.length ∧ o.length ≤ 1000) ∧ os.length ≤ 100 ∧ q < 2 ^ 60 ∧
  ∀ (H' : Hp) (p : Addr) (D : List (Option Nat)), Same H H' → H p = none → H' p = some (.lst (D.map optV)) → (VS.prod os)[q % (VS.prod os).length]? = some D → Q (.ref p) H'
section
variable {P : Program} {w : World} {K : PySem.W.Frag} {mg : Str → Option Value} {base : Heap} {f : Addr} {fd : FuncData} {C : Cs}
theorem scChoice : FnScope ["place", "rows", "choice", "rest", "row"] ["place", "rows"] (defScope sChoiceAt) := ⟨rfl, rfl, rfl, by decide +kernel, rfl, by decide +kernel, by decide +kernel⟩
theorem paired_at {α β : Type} {R : α → β → Prop} : ∀ {xs : List α} {ys : List β} {i : Nat} {x : α}, Paired R xs ys → xs[i]? = some x → ∃ y, ys[i]? = some y ∧ R x y
  | _, _, 0, _, .cons r _, h => by
    cases h
    exact ⟨_, rfl, r⟩
  | _, _, i + 1, _, .cons _ t, h => paired_at (i := i) t h
  | _, _, _, _, .nil, h => by cases h
theorem ok_choice (D : Def K mg "choice_at" sChoiceAt ["place", "rows"] f fd) (S : SDefs K mg C) (Z : KDefs K mg) : FnOk P w K mg base CX0 1 f fd ["place", "rows"] spChoice := by
  have T := S.D.V.T
  refine D.F.ok scChoice (fun vs H Q E h => ?_) (fun cdv A outer s H vs Q E hr h => ?_)
  · obtain ⟨q, rw_, as, os, rfl, _⟩ := h
    rfl
  · obtain ⟨q, rw_, as, os, rfl, hw, hro, hpos, hlen, hq, k⟩ := h
    refine ⟨_, pss_cons (ps_set (i := 2) scChoice.nd rfl (Or.inl rfl) (pe_lst pa_nil))
      (pss_cons (ps_set (i := 3) scChoice.nd rfl (Or.inl rfl) (pv 0))
      (pss_cons (ps_for PassesOwn.never rfl (pi_reversed rfl Z.hrv (pa_cons (pv 1) pa_nil)) (pg_name (i := 4) scChoice.nd rfl (Or.inl rfl))
        (pss_cons (ps_expr (pe_bm PySem.F.plainAttrs_list PySem.F.slot_list_append PySem.F.type_list_append mt_append (pv 2) (pa_cons (pe_ix ix_list (pv 4) (pe_op op_mod (pv 3) (pe_callB call_len_seq rfl T.len PySem.boot_len (pa_cons (pv 4) pa_nil))) (fun _ _ => rfl)) pa_nil)))
        (pss_one (ps_set (i := 3) scChoice.nd rfl (Or.inl rfl) (pe_op op_fdiv (pv 3) (pe_callB call_len_seq rfl T.len PySem.boot_len (pa_cons (pv 4) pa_nil)))))))
      (pss_cons (ps_expr (pe_bm0 PySem.F.plainAttrs_list PySem.F.slot_list_reverse PySem.F.type_list_reverse mt_reverse (pv 2)))
      (pss_one (ps_ret (pv 2)))))), ?_⟩
    refine ⟨Nat.zero_le _, fun ch hch => ?_⟩
    have s1 : Same H (upd H ch (.lst [])) := same_upd hch
    have hal := paired_len hro
    refine ⟨_, rfl, _, rfl, rw_, _, rfl, SqL.of (s1 _ _ hw), for_rev (K := K) (a := rw_) (xs := as.map V.ref) (fun i σ H' => ∃ (v4 : Option V) (D : List (Option Nat)), σ = [some (.int (q : Int)), some (.ref rw_), some (.ref ch), some (.int ((q / (VS.prod (os.drop (os.length - i))).length : Nat) : Int)), v4] ∧
        (∀ b o, H b = some o → H' b = some o) ∧ H' ch = some (.lst (D.reverse.map optV)) ∧ (VS.prod (os.drop (os.length - i)))[q % (VS.prod (os.drop (os.length - i))).length]? = some D ∧ D.length ≤ i)
      ⟨none, [], ?_, s1, upd_same, ?_, Nat.le_refl _⟩ (fun i σ H' _ ⟨_, _, _, s2, _⟩ => SqL.of (s2 _ _ hw)) ?_ ?_⟩
    · rw [Nat.sub_zero, List.drop_length]
      show [_, _, _, some (V.int (q : Int)), _] = [_, _, _, some (V.int ((q / 1 : Nat) : Int)), _]
      rw [Nat.div_one]
    · rw [Nat.sub_zero, List.drop_length]
      show [[]][q % 1]? = _
      rw [Nat.mod_one]
      rfl
    · rintro i y σ H' hi hy ⟨v4, D, rfl, s2, hc, hD, hDl⟩
      rw [List.length_map] at hi hy
      rw [List.getElem?_map] at hy
      obtain ⟨a, ha, rfl⟩ := Option.map_eq_some_iff.mp hy
      obtain ⟨o, ho, hao⟩ := paired_at hro ha
      have hio : i < os.length := by omega
      have hidx : os.length - (i + 1) = as.length - 1 - i := by omega
      have hdrop : os.drop (os.length - (i + 1)) = o :: os.drop (os.length - i) := by
        rw [hidx, List.drop_eq_getElem_cons (by omega), (List.getElem?_eq_some_iff.mp ho).2, show as.length - 1 - i + 1 = os.length - i by omega]
      have hop := hpos o (List.mem_of_getElem? ho)
      have hj : (q / (VS.prod (os.drop (os.length - i))).length) % o.length < o.length := Nat.mod_lt _ hop.1
      obtain ⟨z, hz⟩ : ∃ z, o[(q / (VS.prod (os.drop (os.length - i))).length) % o.length]? = some z := ⟨_, List.getElem?_eq_getElem hj⟩
      have hzV : (o.map optV)[(q / (VS.prod (os.drop (os.length - i))).length) % o.length]? = some (optV z) := by rw [List.getElem?_map, hz]; rfl
      have st := VS.prod_step hD hz
      rw [← hdrop] at st
      have hPl : (VS.prod (os.drop (os.length - (i + 1)))).length = o.length * (VS.prod (os.drop (os.length - i))).length := by rw [hdrop, VS.prod_len]
      have hsq : SqL K H' a (o.map optV) := SqL.of (s2 _ _ hao)
      have el : ((o.map optV).length : Int) = (o.length : Int) := by rw [List.length_map]
      have hqd : q / (VS.prod (os.drop (os.length - i))).length ≤ q := Nat.div_le_self _ _
      refine ⟨_, rfl, .inl ⟨rfl, _, SqL.of hc⟩, _, rfl, _, rfl, _, rfl, a, _, rfl, .inl hsq, _, _, rfl, rfl, ?_, a, _, _, optV z, rfl, rfl, hsq, ?_, ch, _, optV z, rfl, rfl, hc, ?_, ?_⟩
      · show (0 : Int) < ((o.map optV).length : Int)
        rw [el]
        omega
      · show atI _ (((q / (VS.prod (os.drop (os.length - i))).length : Nat) : Int) % ((o.map optV).length : Int)) = some (optV z)
        rw [el, ← Int.natCast_emod]
        exact atI_nat hzV
      · rw [List.length_map, List.length_reverse]
        exact small1000 (by omega)
      refine ⟨_, rfl, _, rfl, a, o.map optV, rfl, .inl (SqL.of ?_), _, _, rfl, rfl, ?_, ?_⟩
      · rw [upd_ne (ne_of_none hao hch)]
        exact s2 _ _ hao
      · show (0 : Int) < ((o.map optV).length : Int) ∧ ((o.map optV).length : Int) < 1073741824
        rw [el]
        omega
      · refine ⟨some (.ref a), z :: D, ?_, fun b o' e => ?_, ?_, st, by rw [List.length_cons]; omega⟩
        · show [_, _, _, some (V.int (((q / (VS.prod (os.drop (os.length - i))).length : Nat) : Int) / ((o.map optV).length : Int))), _] = [_, _, _, some (V.int ((q / (VS.prod (os.drop (os.length - (i + 1)))).length : Nat) : Int)), _]
          rw [el, ← Int.natCast_ediv, Nat.div_div_eq_div_mul, hPl, Nat.mul_comm]
        · rw [upd_ne (ne_of_none e hch)]
          exact s2 _ _ e
        · rw [upd_same, List.reverse_cons, List.map_append]
          rfl
    · rintro σ H' ⟨v4, D, rfl, s2, hc, hD, hDl⟩
      rw [List.length_map, hal, Nat.sub_self, List.drop_zero] at hD
      refine ⟨_, rfl, .inl ⟨rfl, _, SqL.of hc⟩, ch, _, rfl, rfl, hc, _, rfl, k _ ch D (same_free s2 hch) hch ?_ hD⟩
      rw [upd_same, List.map_reverse, List.reverse_reverse]
end
end VP
namespace VP
open PySem PySem.Spec PyProof.Rows L2 VO VM
open Rb19 (B Word Version Span)
def optsOf (k : Rb19.Kept) : List (List (Option Nat)) := (List.range k.packages.length).map (Rb19Neutral.options k)
theorem choices_are (k : Rb19.Kept) : Rb19Neutral.choices k k.packages.length = VS.prod (optsOf k) := by
  rw [VS.choices_prod k _ (Nat.le_refl _), Nat.sub_self, ← List.range_eq_range']
  rfl
theorem opts_len (k : Rb19.Kept) (p : Nat) : (Rb19Neutral.options k p).length = (Rb19.items k p).length + 1 := by
  rw [VS.options_is, List.length_cons, List.length_map, (VS.fold_perm _).length_eq, List.length_zipIdx]
theorem opts_mem {k : Rb19.Kept} {p i : Nat} (h : some i ∈ Rb19Neutral.options k p) : i < (Rb19.items k p).length := by
  rw [VS.options_is] at h
  rcases List.mem_cons.mp h with h | h
  · cases h
  · obtain ⟨x, hx, e⟩ := List.mem_map.mp h
    have hx := (VS.fold_perm _).mem_iff.mp hx
    have := List.mem_zipIdx_iff_getElem?.mp hx
    cases e
    exact (List.getElem?_eq_some_iff.mp this).1
def mulL (l : List Nat) : Nat := l.foldl (· * ·) 1
theorem foldl_mul : ∀ (l : List Nat) (a : Nat), l.foldl (· * ·) a = a * mulL l
  | [], a => by simp [mulL]
  | b :: l, a => by
    show l.foldl (· * ·) (a * b) = a * l.foldl (· * ·) (1 * b)
    rw [foldl_mul l (a * b), foldl_mul l (1 * b), Nat.one_mul, Nat.mul_assoc]
theorem mulL_cons (a : Nat) (l : List Nat) : mulL (a :: l) = a * mulL l := by
  show l.foldl (· * ·) (1 * a) = _
  rw [foldl_mul, Nat.one_mul]
theorem mulL_snoc (l : List Nat) (a : Nat) : mulL (l ++ [a]) = mulL l * a := by
  unfold mulL
  rw [List.foldl_append]
  rfl
theorem mulL_pos : ∀ {l : List Nat}, (∀ a ∈ l, 0 < a) → 0 < mulL l
  | [], _ => by decide
  | a :: l, h => by
    rw [mulL_cons]
    exact Nat.mul_pos (h a (List.mem_cons_self ..)) (mulL_pos fun b hb => h b (List.mem_cons_of_mem _ hb))
theorem mulL_append (l m : List Nat) : mulL (l ++ m) = mulL l * mulL m := by
  unfold mulL
  rw [List.foldl_append, foldl_mul]
  rfl
theorem mulL_take {l : List Nat} (h : ∀ a ∈ l, 0 < a) (i : Nat) : mulL (l.take i) ≤ mulL l := by
  have e : mulL l = mulL (l.take i) * mulL (l.drop i) := by rw [← mulL_append, List.take_append_drop]
  rw [e]
  exact Nat.le_mul_of_pos_right _ (mulL_pos fun a ha => h a (List.mem_of_mem_drop ha))
theorem prod_size {α : Type} : ∀ os : List (List α), (VS.prod os).length = mulL (os.map List.length)
  | [] => rfl
  | o :: os => by rw [VS.prod_len, List.map_cons, mulL_cons, prod_size os]
theorem many_is (k : Rb19.Kept) : Rb19Neutral.many k = mulL ((optsOf k).map List.length) := by
  unfold Rb19Neutral.many mulL optsOf
  rw [List.map_map]
  congr 1
  refine List.map_congr_left fun p _ => ?_
  exact (opts_len k p).symm
theorem prod_mem {α : Type} : ∀ {os : List (List α)} {D : List α}, D ∈ VS.prod os → Paired (fun d o => d ∈ o) D os
  | [], D, h => by
    have : D = [] := by simpa [VS.prod] using h
    subst this
    exact .nil
  | o :: os, D, h => by
    obtain ⟨d, hd, h⟩ := List.mem_flatMap.mp h
    obtain ⟨E, hE, rfl⟩ := List.mem_map.mp h
    exact .cons hd (prod_mem hE)
theorem val_of {S : SesS} {D : List (Option Nat)} (h : D ∈ VS.prod (optsOf (keptOf S))) : Val S D := by
  have pr := prod_mem h
  have el : (keptOf S).packages.length = S.packs.length := by unfold keptOf; simp
  refine ⟨?_, fun p i k e1 e2 => ?_⟩
  · have := paired_len pr
    unfold optsOf at this
    rw [List.length_map, List.length_range, el] at this
    exact this
  · obtain ⟨o, ho, hm⟩ := paired_at pr e1
    unfold optsOf at ho
    rw [List.getElem?_map] at ho
    obtain ⟨p', hp', rfl⟩ := Option.map_eq_some_iff.mp ho
    have hpp : p' = p := by
      have := (List.getElem?_eq_some_iff.mp hp').2
      rw [List.getElem_range] at this
      exact this.symm
    subst hpp
    have := opts_mem hm
    rw [items_kept e2, List.length_map] at this
    exact this
theorem best_some {k : Rb19.Kept} {i : Nat} {D : List (Option Nat)} (h : (VS.prod (optsOf k))[i]? = some D) (hn : ∀ j E, j < i → (VS.prod (optsOf k))[j]? = some E → Rb19Neutral.isRight k E = false) (hy : Rb19Neutral.isRight k D = true) : Rb19Neutral.best k = some D := by
  unfold Rb19Neutral.best
  rw [choices_are]
  refine find_first h (fun y hy => ?_) hy
  obtain ⟨j, hj⟩ := List.getElem?_of_mem hy
  rw [List.getElem?_take] at hj
  split at hj
  · next hlt => exact hn j y hlt hj
  · cases hj
theorem best_no {k : Rb19.Kept} (hn : ∀ j E, j < (VS.prod (optsOf k)).length → (VS.prod (optsOf k))[j]? = some E → Rb19Neutral.isRight k E = false) : Rb19Neutral.best k = none := by
  unfold Rb19Neutral.best
  rw [choices_are]
  rw [List.find?_eq_none]
  intro y hy
  obtain ⟨j, hj⟩ := List.getElem?_of_mem hy
  rw [hn j y (List.getElem?_eq_some_iff.mp hj).1 hj]
  decide
section
variable {P : Program} {w : World} {C : Cs} {H H' : Hp} {S : SesS} {PT : Addr}
theorem Tab.tbl (t : Tab H S PT) : ∃ ps, H PT = some (.tbl ps) := by
  rcases t with t | ⟨c, t, _⟩
  · exact ⟨_, t⟩
  · exact ⟨_, t⟩
theorem At.tab (h : At P w C H S) (t : Tab H S PT) (fx : ∀ b o, H b = some o → b ≠ PT → H' b = some o) : At P w C H' S := by
  obtain ⟨ps, hT⟩ := t.tbl
  have fx' : Fix (fun b => b = PT) H H' := fx
  have no : ∀ b o, H b = some o → (∀ qs, o ≠ .tbl qs) → ¬ b = PT := fun b o e ne z => by rw [z, hT] at e; cases e; exact ne _ rfl
  have ht : ∀ b xs, H b = some (.tup xs) → ¬ b = PT := fun b xs e => no _ _ e fun _ z => by cases z
  have hi : ∀ b c d fs, H b = some (.ins c d fs) → ¬ b = PT := fun b c d fs e => no _ _ e fun _ z => by cases z
  have hl : ∀ b xs, H b = some (.lst xs) → ¬ b = PT := fun b xs e => no _ _ e fun _ z => by cases z
  obtain ⟨dx, h1⟩ := h.ins
  refine ⟨⟨dx, fx _ _ h1 (hi _ _ _ _ h1)⟩, fx _ _ h.pl (hl _ _ h.pl), fx _ _ h.nd (no _ _ h.nd fun _ z => by cases z), fx _ _ h.wl (hl _ _ h.wl), fun p k e => ?_, fun p i r e => ?_, fun u y e => ?_, h.on, h.few, h.names, h.inj, h.injV, h.injN⟩
  · have q := h.packs p k e
    obtain ⟨xs, g1, _⟩ := q.dict
    exact q.fix fx' ht hi (hl _ _ q.lst) (no _ _ g1 fun _ z => by cases z)
  · have q := h.rels p i r e
    exact q.fix fx' ht hi (hl _ _ q.lst)
  · have q := h.asks u y e
    obtain ⟨kvs, g, _⟩ := q.dict
    exact q.fix fx' ht hi (fun b vs n e => ⟨n, hl _ _ e⟩) ⟨[], by simp⟩ (no _ _ g fun _ z => by cases z)
theorem Tab.jn (t : Tab H S PT) (h : At P w C H S) (j : Jn H H' S) : Tab H' S PT := by
  rcases t with t | ⟨c, t, hc, nm⟩
  · exact .inl (j.fix _ _ t (h.not_vd t fun _ z => by cases z))
  · exact .inr ⟨c, j.fix _ _ t (h.not_vd t fun _ z => by cases z), j.fix _ _ hc fun v => nm (.inr (.inl v)), nm⟩
theorem Tab.same (t : Tab H S PT) (s : Same H H') : Tab H' S PT := by
  rcases t with t | ⟨c, t, hc, nm⟩
  · exact .inl (s _ _ t)
  · exact .inr ⟨c, s _ _ t, s _ _ hc, nm⟩
end
end VP
namespace VP
open PySem PySem.Spec PyProof.Rows L2 VO VM
open Rb19 (B Word Version Span)
structure JT (PT : Addr) (H H' : Hp) (S : SesS) : Prop where
  fix : Fix (fun b => VD S b ∨ b = PT) H H'
  tab : Tab H' S PT
def spBest (P : Program) (w : World) (C : Cs) (PT : Addr) : Sp := fun vs H Q _ => ∃ S : SesS, vs = [.ref S.pl, .ref S.wl] ∧ At P w C H S ∧ Tab H S PT ∧ Rb19Neutral.many (keptOf S) ≤ 400 ∧
  ∀ H' v, JT PT H H' S → At P w C H' S → (match Rb19Neutral.best (keptOf S) with
    | none => v = .non
    | some c => ∃ p, v = .ref p ∧ H p = none ∧ H' p = some (.lst (c.map optV)) ∧ c.length = S.packs.length) → Q v H'
section
variable {P : Program} {w : World} {K : PySem.W.Frag} {mg : Str → Option Value} {base : Heap} {f : Addr} {fd : FuncData} {C : Cs} {PT : Addr}
theorem scBest : FnScope ["packages", "wants", "rows", "package", "places", "row", "place", "choice"] ["packages", "wants"] (defScope sBest) := ⟨rfl, rfl, rfl, by decide +kernel, rfl, by decide +kernel, by decide +kernel⟩
theorem paired_mapM {α β : Type} {F G : α → β → Prop} : ∀ {xs : List α} {ys : List β}, Paired F xs ys → (∀ a b, a ∈ xs → F a b → G a b) → Paired G xs ys
  | _, _, .nil, _ => .nil
  | _, _, .cons r t, f => .cons (f _ _ (List.mem_cons_self ..) r) (paired_mapM t fun a b ha => f a b (List.mem_cons_of_mem _ ha))
theorem opts_get {S : SesS} {i : Nat} (hi : i < S.packs.length) : (optsOf (keptOf S))[i]? = some (Rb19Neutral.options (keptOf S) i) := by
  unfold optsOf
  rw [List.getElem?_map, List.getElem?_range (by unfold keptOf; simpa using hi)]
  rfl
theorem opts_length (S : SesS) : (optsOf (keptOf S)).length = S.packs.length := by
  unfold optsOf keptOf
  simp
theorem ok_best {fo : Addr} {fdo : FuncData} (D : Def K mg "best_choice" sBest ["packages", "wants"] f fd) (DO : ODef K mg base fo fdo PT) (S : SDefs K mg C) (Z : KDefs K mg) : FnOk P w K mg base CX0 7 f fd ["packages", "wants"] (spBest P w C PT) := by
  have T := S.D.V.T
  obtain ⟨f1, fd1, D1⟩ := Z.ca
  obtain ⟨f2, fd2, D2⟩ := Z.ir
  have G0 : FnOk P w K mg base CX0 6 fo fdo ["package"] (spOpt P w C PT) := (ok_options DO S Z.hrg Z.hso).mono (by decide)
  have G1 : FnOk P w K mg base CX0 6 f1 fd1 ["place", "rows"] spChoice := (ok_choice D1 S Z).mono (by decide)
  have G2 : FnOk P w K mg base CX0 6 f2 fd2 ["packages", "wants", "choice"] (spRight P w C) := ok_right D2 S Z
  refine D.F.ok scBest (fun vs H Q E h => ?_) (fun cdv A outer s H vs Q E hr h => ?_)
  · obtain ⟨Y, rfl, _⟩ := h
    rfl
  · obtain ⟨Y, rfl, hA, hT, hmany, k⟩ := h
    refine ⟨_, pss_cons (ps_setLc (i := 2) (own := [("package", 3)]) rfl scBest.nd rfl rfl (sw_true rfl rfl rfl rfl) (pi_list (pv 0)) (blkOk_by (by rfl)) (fun _ _ _ _ _ => pg_name (i := 3) scBest.nd rfl (Or.inl rfl)) (fun _ _ _ _ _ => pts_nil)
        (fun _ _ _ _ _ => pe_call G0 hr rfl DO.at_ DO.kp DO.b .nil pass0 (pa_cons (pv 3) pa_nil)))
      (pss_cons (ps_set (i := 4) scBest.nd rfl (Or.inl rfl) pe_int)
      (pss_cons (ps_for PassesOwn.never rfl (pi_list (pv 2)) (pg_name (i := 5) scBest.nd rfl (Or.inl rfl)) (pss_one (ps_set (i := 4) scBest.nd rfl (Or.inl rfl) (pe_op op_mul (pv 4) (pe_callB call_len_seq rfl T.len PySem.boot_len (pa_cons (pv 5) pa_nil))))))
      (pss_cons (ps_for PassesOwn.never rfl (pi_range1 rfl Z.hrg (pa_cons (pv 4) pa_nil)) (pg_name (i := 6) scBest.nd rfl (Or.inl rfl))
        (pss_cons (ps_set (i := 7) scBest.nd rfl (Or.inl rfl) (pe_call G1 hr rfl D1.at_ D1.F.kp D1.b .nil pass0 (pa_cons (pv 6) (pa_cons (pv 2) pa_nil))))
        (pss_one (ps_if (pt_val (pe_call G2 hr rfl D2.at_ D2.F.kp D2.b .nil pass0 (pa_cons (pv 0) (pa_cons (pv 1) (pa_cons (pv 7) pa_nil))))) (pss_one (ps_ret (pv 7))) pss_nil))))
      (pss_one (ps_ret pe_non))))), ?_⟩
    obtain ⟨ps0, hPT⟩ := hT.tbl
    have few := hA.few.1
    have noPT : ∀ b o, H b = some o → (∀ qs, o ≠ .tbl qs) → b ≠ PT := fun b o e ne z => by rw [z, hPT] at e; cases e; exact ne _ rfl
    have oslen := opts_length Y
    refine ⟨_, rfl, Y.pl, rfl, ⟨_, SqL.of hA.pl⟩, fun DD hD => lc_list (K := K) (a := Y.pl) (xs := Y.packs.map fun k => V.ref k.a) (fun i H' => (∀ b o, H b = some o → b ≠ PT → H' b = some o) ∧ Tab H' Y PT ∧ ∃ as : List Addr, H' DD = some (.lst (as.map V.ref)) ∧ RowsAt H' as ((optsOf (keptOf Y)).take i) ∧ ∀ a ∈ as, a ≠ DD)
      ⟨fun b o e _ => same_upd hD _ _ e, hT.same (same_upd hD), [], upd_same, by rw [List.take_zero]; exact .nil, fun a ha => nomatch ha⟩ (fun i H' _ h => SqL.of (h.1 _ _ hA.pl (noPT _ _ hA.pl fun _ z => by cases z))) (fun i x H' hx h => ?_) (fun H' h => ?_)⟩
    · obtain ⟨fx, tb, as, h1, h2, h3⟩ := h
      rw [List.getElem?_map] at hx
      obtain ⟨kk, hk, rfl⟩ := Option.map_eq_some_iff.mp hx
      have hi := (List.getElem?_eq_some_iff.mp hk).1
      obtain ⟨ps1, hPT1⟩ := tb.tbl
      have nD : DD ≠ PT := fun z => by rw [z, hPT] at hD; cases hD
      refine ⟨rfl, _, rfl, Y, i, kk, rfl, hA.tab hT fx, tb, hk, fun H4 q f4 t4 n4 e4 => ?_⟩
      have h1' := f4 _ _ h1 nD
      have nqD : q ≠ DD := fun z => by rw [z, h1] at n4; cases n4
      have las := paired_len h2
      rw [List.length_take, oslen] at las
      refine ⟨_, h1', ?_, fun b o e ne => ?_, ?_, as ++ [q], ?_, ?_, ?_⟩
      · rw [List.length_map]
        exact small1000 (by omega)
      · rw [upd_ne (ne_of_none e hD)]
        exact f4 _ _ (fx _ _ e ne) ne
      · rcases t4 with t4 | ⟨c, t4, hc, nm⟩
        · exact .inl (by rw [upd_ne nD.symm]; exact t4)
        · refine .inr ⟨c, by rw [upd_ne nD.symm]; exact t4, ?_, nm⟩
          rw [upd_ne fun z => by rw [z, h1'] at hc; cases hc]
          exact hc
      · rw [upd_same, List.map_append]
        rfl
      · rw [take_snoc (opts_get hi)]
        refine paired_app (paired_mapM h2 fun a o ha e => ?_) (.cons ?_ .nil)
        · rw [upd_ne (h3 a ha)]
          exact f4 _ _ e fun z => by rw [z, hPT1] at e; cases e
        · rw [upd_ne nqD]
          exact e4
      · intro a ha
        rcases List.mem_append.mp ha with ha | ha
        · exact h3 a ha
        · have : a = q := by simpa using ha
          rw [this]
          exact nqD
    · obtain ⟨fx, tb, as, h1, h2, h3⟩ := h
      rw [List.length_map, ← oslen, List.take_length] at h2
      have hA5 := hA.tab hT fx
      have las := paired_len h2
      have pos : ∀ o ∈ optsOf (keptOf Y), 0 < o.length ∧ o.length ≤ 1000 := fun o ho => by
        obtain ⟨p, hp, rfl⟩ := List.mem_map.mp ho
        have hp := List.mem_range.mp hp
        have hp : p < Y.packs.length := by unfold keptOf at hp; simpa using hp
        have hk := List.getElem?_eq_getElem hp
        rw [opts_len, items_kept hk, List.length_map]
        have := (hA.packs p _ hk).few
        omega
      have posL : ∀ a ∈ (optsOf (keptOf Y)).map List.length, 0 < a := fun a ha => by
        obtain ⟨o, ho, rfl⟩ := List.mem_map.mp ha
        exact (pos o ho).1
      have tot : mulL ((optsOf (keptOf Y)).map List.length) ≤ 400 := by rw [← many_is]; exact hmany
      have szP := prod_size (optsOf (keptOf Y))
      refine ⟨_, rfl, DD, rfl, ⟨_, SqL.of h1⟩, for_list (K := K) (a := DD) (xs := as.map V.ref) (fun i σ H2 => H2 = H' ∧ ∃ v3 v5 : Option V, σ = [some (.ref Y.pl), some (.ref Y.wl), some (.ref DD), v3, some (.int ((mulL (((optsOf (keptOf Y)).map List.length).take i) : Nat) : Int)), v5, none, none])
        ⟨rfl, _, _, rfl⟩ (fun i σ H2 _ h => by rw [h.1]; exact SqL.of h1) ?_ ?_⟩
      · rintro i y σ H2 hi ⟨rfl, v3, v5, rfl⟩
        rw [List.getElem?_map] at hi
        obtain ⟨a, ha, rfl⟩ := Option.map_eq_some_iff.mp hi
        obtain ⟨o, ho, hao⟩ := paired_at h2 ha
        have hol : ((optsOf (keptOf Y)).map List.length)[i]? = some o.length := by rw [List.getElem?_map, ho]; rfl
        have le1 := Nat.le_trans (mulL_take posL i) tot
        refine ⟨_, rfl, _, rfl, a, _, rfl, .inl (SqL.of hao), _, _, rfl, rfl, .inl ⟨by omega, by omega⟩, rfl, v3, some (.ref a), ?_⟩
        show [_, _, _, _, some (V.int (((mulL (((optsOf (keptOf Y)).map List.length).take i) : Nat) : Int) * ((o.map optV).length : Int))), _, _, _] = _
        rw [take_snoc hol, mulL_snoc, List.length_map, Int.natCast_mul]
      · rintro σ H2 ⟨rfl, v3, v5, rfl⟩
        rw [List.length_map, las, ← List.length_map (f := List.length), List.take_length]
        refine ⟨_, rfl, _, rfl, by omega, by omega, for_range (n := mulL ((optsOf (keptOf Y)).map List.length)) (fun i σ H3 => Jn H2 H3 Y ∧ (∃ v3 v5 v6 v7 : Option V, σ = [some (.ref Y.pl), some (.ref Y.wl), some (.ref DD), v3, some (.int ((mulL ((optsOf (keptOf Y)).map List.length) : Nat) : Int)), v5, v6, v7]) ∧
            ∀ j E, j < i → (VS.prod (optsOf (keptOf Y)))[j]? = some E → Rb19Neutral.isRight (keptOf Y) E = false) ⟨Jn.refl hA5, ⟨_, _, _, _, rfl⟩, fun j E hj => by omega⟩ ?_ ?_⟩
        · rintro i σ H3 hi ⟨J, ⟨v3, v5, v6, v7, rfl⟩, hno⟩
          rw [Int.zero_add]
          have notVD : ∀ {b : Addr} {xs : List V}, H2 b = some (.lst xs) → ¬ VD Y b := fun e => hA5.not_vd e fun _ z => by cases z
          have h13 : H3 DD = some (.lst (as.map V.ref)) := J.fix _ _ h1 (notVD h1)
          have h23 : RowsAt H3 as (optsOf (keptOf Y)) := L2.Paired.mapP h2 fun a o e => J.fix _ _ e (notVD e)
          refine ⟨_, rfl, _, rfl, i, DD, as, optsOf (keptOf Y), rfl, h13, h23, pos, by rw [oslen]; omega, Nat.lt_of_lt_of_le (show i < 400 by omega) (by decide), fun H4 p E s4 np e4 hE => ?_⟩
          rw [szP, Nat.mod_eq_of_lt hi] at hE
          have J4 := J.same s4
          have hA4 := Jn.at_ hA5 J4
          have hv := val_of (List.mem_of_getElem? hE)
          refine ⟨_, rfl, _, rfl, _, rfl, Y, p, E, rfl, hA4, e4, hv, fun H5 J5 => ⟨_, rfl, ?_⟩⟩
          have hA6 := Jn.at_ hA4 J5
          have J6 : Jn H2 H5 Y := ⟨J4.fix.trans J5.fix, J5.vd⟩
          cases hright : Rb19Neutral.isRight (keptOf Y) E with
          | true =>
            refine ⟨_, rfl, k H5 _ ⟨fun b o e hz => J6.fix _ _ (fx _ _ e fun z => hz (.inr z)) fun z => hz (.inl z), tb.jn hA5 J6⟩ hA6 ?_⟩
            rw [best_some hE hno hright]
            refine ⟨p, rfl, ?_, J5.fix _ _ e4 (hA4.not_vd e4 fun _ z => by cases z), hv.len⟩
            cases e : H p with
            | none => rfl
            | some o =>
              by_cases hp : p = PT
              · obtain ⟨ps9, h9⟩ := (tb.jn hA5 J).tbl
                rw [hp, h9] at np
                cases np
              · cases e9 : H3 p with
                | none =>
                  by_cases vp : VD Y p
                  · obtain ⟨sl, x, hx, rfl⟩ := vp
                    obtain ⟨kvs, g, _⟩ := J.vd sl x hx
                    rw [g] at np
                    cases np
                  · rw [J.fix _ _ (fx _ _ e hp) vp] at np
                    cases np
                | some _ => rw [e9] at np; cases np
          | false =>
            refine ⟨J6, ⟨_, _, _, _, rfl⟩, fun j F hj hF => ?_⟩
            by_cases hji : j < i
            · exact hno j F hji hF
            · have : j = i := by omega
              subst this
              rw [hE] at hF
              cases hF
              exact hright
        · rintro σ H3 ⟨J, ⟨v3, v5, v6, v7, rfl⟩, hno⟩
          refine k H3 .non ⟨fun b o e hz => J.fix _ _ (fx _ _ e fun z => hz (.inr z)) fun z => hz (.inl z), tb.jn hA5 J⟩ (Jn.at_ hA5 J) ?_
          rw [best_no fun j E hj hE => hno j E (by rw [← szP]; exact hj) hE]
end
end VP
namespace VP
open PySem PySem.Spec PyProof.Rows L2 VO VM
open Rb19 (B Word Version Span)
section
variable {P : Program} {w : World} {C : Cs} {H H' : Hp} {S : SesS}
def clearS (S : SesS) : SesS := { S with packs := [], wants := [] }
theorem clear_ask {s : ASlot} {x : AskS} (h : askAt (clearS S) s = some x) : False := by
  cases s with
  | w j =>
    have h : ([] : List AskS)[j]? = some x := h
    simp at h
  | r p i j =>
    have h : ((([] : List PackS)[p]?).bind fun k => k.rels[i]?).bind (fun r => r.asks[j]?) = some x := h
    simp at h
theorem clear_addr {s : Slot} {b : Addr} (h : addr (clearS S) s = some b) : (s = .pl ∧ b = S.pl) ∨ (s = .wl ∧ b = S.wl) := by
  cases s with
  | pl => exact .inl ⟨rfl, (Option.some.inj h).symm⟩
  | wl => exact .inr ⟨rfl, (Option.some.inj h).symm⟩
  | rl p =>
    have h : (([] : List PackS)[p]?).map PackS.rl = some b := h
    simp at h
  | al p i =>
    have h : ((([] : List PackS)[p]?).bind fun k => k.rels[i]?).map RelS.al = some b := h
    simp at h
theorem At.clear (h : At P w C H S) (fx : Fix (fun b => b = S.pl ∨ b = S.nd ∨ b = S.wl) H H') (h1 : H' S.pl = some (.lst [])) (h2 : H' S.nd = some (.dT [])) (h3 : H' S.wl = some (.lst [])) : Evo P w C H H' S (clearS S) := by
  obtain ⟨dx, hin⟩ := h.ins
  have nin : ¬ (S.a = S.pl ∨ S.a = S.nd ∨ S.a = S.wl) := fun z => by
    rcases z with z | z | z
    · have := h.pl; rw [← z, hin] at this; cases this
    · have := h.nd; rw [← z, hin] at this; cases this
    · have := h.wl; rw [← z, hin] at this; cases this
  refine ⟨⟨⟨dx, fx _ _ hin nin⟩, h1, h2, h3, fun p k e => ?_, fun p i r e => ?_, fun s x e => (clear_ask e).elim, fun s x e => (clear_ask e).elim, ⟨Nat.zero_le _, Nat.zero_le _⟩, List.nodup_nil, fun s t a e1 e2 => ?_, fun s t x y e1 _ _ => (clear_ask e1).elim, fun p q k l e _ _ => ?_⟩, rfl, fx.mono fun b z => ?_, fun b hb => ?_⟩
  · have e : ([] : List PackS)[p]? = some k := e
    simp at e
  · have e : (([] : List PackS)[p]?).bind (fun k => k.rels[i]?) = some r := e
    simp at e
  · have npw : S.pl ≠ S.wl := fun z => by
      have := h.inj .pl .wl S.pl rfl (by rw [z]; rfl)
      cases this
    rcases clear_addr e1 with ⟨rfl, d1⟩ | ⟨rfl, d1⟩
    · rcases clear_addr e2 with ⟨rfl, _⟩ | ⟨rfl, d2⟩
      · rfl
      · exact absurd (d1.symm.trans d2) npw
    · rcases clear_addr e2 with ⟨rfl, d2⟩ | ⟨rfl, _⟩
      · exact absurd (d2.symm.trans d1) npw
      · rfl
  · have e : ([] : List PackS)[p]? = some k := e
    simp at e
  · rcases z with rfl | rfl | rfl
    · exact .inl ⟨.pl, rfl⟩
    · exact .inr (.inr (.inl rfl))
    · exact .inl ⟨.wl, rfl⟩
  · rcases hb with ⟨s, e⟩ | ⟨s, x, e, _⟩ | rfl | ⟨p, k, e, _⟩
    · rcases clear_addr e with ⟨_, rfl⟩ | ⟨_, rfl⟩
      · exact .inl (.inl ⟨.pl, rfl⟩)
      · exact .inl (.inl ⟨.wl, rfl⟩)
    · exact (clear_ask e).elim
    · exact .inl (.inr (.inr (.inl rfl)))
    · have e : ([] : List PackS)[p]? = some k := e
      simp at e
def putP (S : SesS) (k : PackS) : SesS := { S with packs := S.packs ++ [k] }
theorem snoc_get {α : Type} {l : List α} {x y : α} {i : Nat} (h : (l ++ [x])[i]? = some y) : (i = l.length ∧ y = x) ∨ l[i]? = some y := by
  by_cases hi : i < l.length
  · rw [List.getElem?_append_left hi] at h
    exact .inr h
  · rw [List.getElem?_append_right (Nat.le_of_not_lt hi)] at h
    have h0 : i - l.length < 1 := (List.getElem?_eq_some_iff.mp h).1
    have hi2 : i = l.length := by omega
    rw [hi2, Nat.sub_self] at h
    exact .inl ⟨hi2, (Option.some.inj h).symm⟩
theorem snoc_old {α : Type} {l : List α} {x y : α} {i : Nat} (h : l[i]? = some y) : (l ++ [x])[i]? = some y := by
  rw [List.getElem?_append_left (List.getElem?_eq_some_iff.mp h).1]
  exact h
theorem putP_rel {k : PackS} (hk : k.rels = []) {q i : Nat} {y : RelS} (h : relAt (putP S k) q i = some y) : relAt S q i = some y := by
  obtain ⟨z, hz, h2⟩ := Option.bind_eq_some_iff.mp h
  rcases snoc_get (l := S.packs) hz with ⟨_, ez⟩ | hz
  · rw [ez, hk] at h2; cases h2
  · exact Option.bind_eq_some_iff.mpr ⟨z, hz, h2⟩
theorem putP_ask {k : PackS} (hk : k.rels = []) {s : ASlot} {x : AskS} (h : askAt (putP S k) s = some x) : askAt S s = some x := by
  cases s with
  | w j => exact h
  | r q i j =>
    obtain ⟨y, hy, h2⟩ := Option.bind_eq_some_iff.mp h
    exact Option.bind_eq_some_iff.mpr ⟨y, putP_rel hk hy, h2⟩
theorem putP_addr {k : PackS} (hk : k.rels = []) {s : Slot} {b : Addr} (h : addr (putP S k) s = some b) : (s = .rl S.packs.length ∧ b = k.rl) ∨ addr S s = some b := by
  cases s with
  | pl => exact .inr h
  | wl => exact .inr h
  | rl q =>
    obtain ⟨y, hy, rfl⟩ := Option.map_eq_some_iff.mp h
    rcases snoc_get (l := S.packs) hy with ⟨rfl, rfl⟩ | hy
    · exact .inl ⟨rfl, rfl⟩
    · exact .inr (Option.map_eq_some_iff.mpr ⟨y, hy, rfl⟩)
  | al q i =>
    obtain ⟨y, hy, rfl⟩ := Option.map_eq_some_iff.mp h
    exact .inr (Option.map_eq_some_iff.mpr ⟨y, putP_rel hk hy, rfl⟩)
theorem putP_vers {k : PackS} {q : Nat} (hq : q < S.packs.length) : vers (putP S k) q = vers S q := by
  unfold vers
  show (((S.packs ++ [k])[q]?).map _).getD [] = _
  rw [List.getElem?_append_left hq]
theorem namesK_snoc (l : List B) (n : B) : namesK (l ++ [n]) = namesK l ++ [(nameK n, V.int ((l.length : Nat) : Int))] := by
  unfold namesK
  rw [List.zipIdx_append, List.map_append, Nat.zero_add]
  rfl
theorem At.putP {k : PackS} (h : At P w C H S) (hk : k.rels = []) (hn : k.name ∉ S.packs.map PackS.name) (hlen : S.packs.length < 32) (fx : Fix (fun b => b = S.pl ∨ b = S.nd) H H') (fl : H k.rl = none) (fn : H k.nd = none)
    (h1 : H' S.pl = some (.lst ((S.packs.map fun k => V.ref k.a) ++ [.ref k.a]))) (h2 : H' S.nd = some (.dT (namesK (S.packs.map PackS.name) ++ [(nameK k.name, V.int ((S.packs.length : Nat) : Int))])))
    (g1 : ∃ dx, H' k.a = some (.ins C.P dx (fPack (.ref k.rl) (.ref k.nd)))) (g2 : H' k.rl = some (.lst [])) (g3 : H' k.nd = some (DV P w k.nd [])) : Evo P w C H H' S (putP S k) := by
  have Zpl : ∀ b o, H b = some o → (∀ xs, o ≠ .lst xs) → b ≠ S.pl := fun b o e ne z => by have := h.pl; rw [← z, e] at this; cases this; exact ne _ rfl
  have Znd : ∀ b o, H b = some o → (∀ kvs, o ≠ .dT kvs) → b ≠ S.nd := fun b o e ne z => by have := h.nd; rw [← z, e] at this; cases this; exact ne _ rfl
  have ht : ∀ b xs, H b = some (.tup xs) → ¬ (b = S.pl ∨ b = S.nd) := fun b xs e z => z.elim (Zpl b _ e fun _ z => by cases z) (Znd b _ e fun _ z => by cases z)
  have hi : ∀ b c d fs, H b = some (.ins c d fs) → ¬ (b = S.pl ∨ b = S.nd) := fun b c d fs e z => z.elim (Zpl b _ e fun _ z => by cases z) (Znd b _ e fun _ z => by cases z)
  have hl : ∀ s b, addr S s = some b → s ≠ .pl → ¬ (b = S.pl ∨ b = S.nd) := fun s b e ne z => by
    rcases z with z | z
    · subst z; exact ne (h.inj _ _ _ e rfl)
    · obtain ⟨ys, g⟩ := h.addr_lst e
      exact Znd b _ g (fun _ z => by cases z) z
  have nrl : ∀ b o, H b = some o → b ≠ k.rl := fun b o e => ne_of_none e fl
  obtain ⟨dxs, hin⟩ := h.ins
  refine ⟨⟨⟨dxs, fx _ _ hin (hi _ _ _ _ hin)⟩, ?_, ?_, fx _ _ h.wl (hl .wl _ rfl fun z => by cases z), fun q y e => ?_, fun q i y e => ?_, fun s x e => ?_, fun s x e => ?_, ?_, ?_, fun s t a e1 e2 => ?_, fun s t x y e1 e2 => h.injV s t x y (putP_ask hk e1) (putP_ask hk e2), fun q q' y z e1 e2 e3 => ?_⟩, rfl, fx.mono fun b z => ?_, fun c hc => ?_⟩
  · show H' S.pl = some (.lst ((S.packs ++ [k]).map _))
    rw [List.map_append]
    exact h1
  · show H' S.nd = some (.dT (namesK ((S.packs ++ [k]).map _)))
    rw [List.map_append, show [k].map PackS.name = [k.name] from rfl, namesK_snoc, List.length_map]
    exact h2
  · rcases snoc_get (l := S.packs) e with ⟨rfl, rfl⟩ | hy
    · exact ⟨g1, by rw [hk]; exact g2, ⟨[], g3, (fun x hx => (nomatch hx)), by rw [hk]; rfl⟩, by rw [hk]; exact Nat.zero_le _, by rw [hk]; exact List.nodup_nil⟩
    · have q1 := h.packs q y hy
      obtain ⟨ys, g, _⟩ := q1.dict
      exact q1.fix fx ht hi (hl (.rl q) _ (Option.map_eq_some_iff.mpr ⟨y, hy, rfl⟩) fun z => by cases z) fun z => z.elim (Zpl _ _ g fun _ z => by cases z) (Znd _ _ g fun _ z => by cases z)
  · exact (h.rels q i y (putP_rel hk e)).fix fx ht hi (hl (.al q i) _ (Option.map_eq_some_iff.mpr ⟨y, putP_rel hk e, rfl⟩) fun z => by cases z)
  · have ex := putP_ask hk e
    have q1 := h.asks s x ex
    obtain ⟨kvs, g, _⟩ := q1.dict
    refine q1.fix fx ht hi (fun c vs hc e2 => ⟨fun t z => ?_, fun z => ?_⟩) ⟨[], by rw [putP_vers (h.on s x ex)]; simp⟩ fun z => z.elim (Zpl _ _ g fun _ z => by cases z) (Znd _ _ g fun _ z => by cases z)
    · rcases putP_addr hk z with ⟨_, rfl⟩ | z
      · rw [fl] at e2; cases e2
      · exact hc t z
    · rcases z with z | z
      · exact hc .pl (by rw [z]; rfl)
      · exact Znd c _ e2 (fun _ z => by cases z) z
  · show x.on < (S.packs ++ [k]).length
    rw [List.length_append]
    have := h.on s x (putP_ask hk e)
    omega
  · refine ⟨?_, h.few.2⟩
    show (S.packs ++ [k]).length ≤ 32
    rw [List.length_append]
    show S.packs.length + 1 ≤ 32
    omega
  · show ((S.packs ++ [k]).map PackS.name).Nodup
    rw [List.map_append, List.nodup_append]
    refine ⟨h.names, by simp, fun a ha c hc z => hn ?_⟩
    have hc : c = k.name := by simpa using hc
    rw [← hc, ← z]
    exact ha
  · rcases putP_addr hk e1 with ⟨d1, d2⟩ | d1
    · rcases putP_addr hk e2 with ⟨c1, _⟩ | c1
      · rw [d1, c1]
      · obtain ⟨ys, g⟩ := h.addr_lst c1
        exact absurd d2 (nrl _ _ g)
    · rcases putP_addr hk e2 with ⟨c1, c2⟩ | c1
      · obtain ⟨ys, g⟩ := h.addr_lst d1
        exact absurd c2 (nrl _ _ g)
      · exact h.inj s t a d1 c1
  · rcases snoc_get (l := S.packs) e1 with ⟨d1, d2⟩ | d1
    · rcases snoc_get (l := S.packs) e2 with ⟨c1, _⟩ | c1
      · rw [d1, c1]
      · obtain ⟨ys, g, _⟩ := (h.packs q' z c1).dict
        rw [← e3, d2, fn] at g
        cases g
    · rcases snoc_get (l := S.packs) e2 with ⟨c1, c2⟩ | c1
      · obtain ⟨ys, g, _⟩ := (h.packs q y d1).dict
        rw [e3, c2, fn] at g
        cases g
      · exact h.injN q q' y z d1 c1 e3
  · rcases z with rfl | rfl
    · exact .inl ⟨.pl, rfl⟩
    · exact .inr (.inr (.inl rfl))
  · rcases hc with ⟨s, e⟩ | ⟨s, x, e, rfl⟩ | rfl | ⟨q, y, e, rfl⟩
    · rcases putP_addr hk e with ⟨_, rfl⟩ | e
      · exact .inr fl
      · exact .inl (.inl ⟨s, e⟩)
    · exact .inl (.inr (.inl ⟨s, x, putP_ask hk e, rfl⟩))
    · exact .inl (.inr (.inr (.inl rfl)))
    · rcases snoc_get (l := S.packs) e with ⟨_, rfl⟩ | hy
      · exact .inr fn
      · exact .inl (.inr (.inr (.inr ⟨q, y, hy, rfl⟩)))
def putW (S : SesS) (x : AskS) : SesS := { S with wants := S.wants ++ [x] }
theorem putW_ask {x y : AskS} {s : ASlot} (h : askAt (putW S x) s = some y) : (s = .w S.wants.length ∧ y = x) ∨ askAt S s = some y := by
  cases s with
  | w j =>
    rcases snoc_get (l := S.wants) h with ⟨rfl, rfl⟩ | h
    · exact .inl ⟨rfl, rfl⟩
    · exact .inr h
  | r q i j => exact .inr h
theorem At.putW {x : AskS} (h : At P w C H S) (hlen : S.wants.length < 16) (fx : Fix (fun b => b = S.wl) H H') (fv : H x.vd = none) (hon : x.on < S.packs.length)
    (h1 : H' S.wl = some (.lst ((S.wants.map fun x => V.ref x.a) ++ [.ref x.a]))) (hx : AskAt C (fun b => ∀ t, addr S t ≠ some b) H' (vers S x.on) x) : Evo P w C H H' S (putW S x) := by
  have Zwl : ∀ b o, H b = some o → (∀ xs, o ≠ .lst xs) → b ≠ S.wl := fun b o e ne z => by have := h.wl; rw [← z, e] at this; cases this; exact ne _ rfl
  have ht : ∀ b xs, H b = some (.tup xs) → ¬ b = S.wl := fun b xs e => Zwl b _ e fun _ z => by cases z
  have hi : ∀ b c d fs, H b = some (.ins c d fs) → ¬ b = S.wl := fun b c d fs e => Zwl b _ e fun _ z => by cases z
  have hl : ∀ s b, addr S s = some b → s ≠ .wl → ¬ b = S.wl := fun s b e ne z => by subst z; exact ne (h.inj _ _ _ e rfl)
  have nv : ∀ s y, askAt S s = some y → y.vd ≠ x.vd := fun s y e z => by
    obtain ⟨kvs, g, _⟩ := (h.asks s y e).dict
    rw [z, fv] at g
    cases g
  obtain ⟨dxs, hin⟩ := h.ins
  refine ⟨⟨⟨dxs, fx _ _ hin (hi _ _ _ _ hin)⟩, fx _ _ h.pl (hl .pl _ rfl fun z => by cases z), fx _ _ h.nd (Zwl _ _ h.nd fun _ z => by cases z), ?_, fun q y e => ?_, fun q i y e => ?_, fun s y e => ?_, fun s y e => ?_, ⟨h.few.1, ?_⟩, h.names, h.inj, fun s t y z e1 e2 e3 => ?_, h.injN⟩, rfl, fx.mono fun b z => .inl ⟨.wl, by rw [z]; rfl⟩, fun c hc => ?_⟩
  · show H' S.wl = some (.lst ((S.wants ++ [x]).map _))
    rw [List.map_append]
    exact h1
  · have q1 := h.packs q y e
    obtain ⟨ys, g, _⟩ := q1.dict
    exact q1.fix fx ht hi (hl (.rl q) _ (Option.map_eq_some_iff.mpr ⟨y, e, rfl⟩) fun z => by cases z) (Zwl _ _ g fun _ z => by cases z)
  · exact (h.rels q i y e).fix fx ht hi (hl (.al q i) _ (Option.map_eq_some_iff.mpr ⟨y, e, rfl⟩) fun z => by cases z)
  · rcases putW_ask e with ⟨_, rfl⟩ | e
    · exact hx
    · have q1 := h.asks s y e
      obtain ⟨kvs, g, _⟩ := q1.dict
      exact q1.fix fx ht hi (fun c vs hc e2 => ⟨hc, fun z => hc .wl (by rw [z]; rfl)⟩) ⟨[], by simp; rfl⟩ (Zwl _ _ g fun _ z => by cases z)
  · rcases putW_ask e with ⟨_, rfl⟩ | e
    · exact hon
    · exact h.on s y e
  · show (S.wants ++ [x]).length ≤ 16
    rw [List.length_append]
    show S.wants.length + 1 ≤ 16
    omega
  · rcases putW_ask e1 with ⟨d1, d2⟩ | d1
    · rcases putW_ask e2 with ⟨c1, _⟩ | c1
      · rw [d1, c1]
      · exact absurd (by rw [← e3, d2]) (nv _ _ c1)
    · rcases putW_ask e2 with ⟨c1, c2⟩ | c1
      · exact absurd (by rw [e3, c2]) (nv _ _ d1)
      · exact h.injV s t y z d1 c1 e3
  · rcases hc with ⟨s, e⟩ | ⟨s, y, e, rfl⟩ | rfl | ⟨q, y, e, rfl⟩
    · exact .inl (.inl ⟨s, e⟩)
    · rcases putW_ask e with ⟨_, rfl⟩ | e
      · exact .inr fv
      · exact .inl (.inr (.inl ⟨s, y, e, rfl⟩))
    · exact .inl (.inr (.inr (.inl rfl)))
    · exact .inl (.inr (.inr (.inr ⟨q, y, e, rfl⟩)))
theorem putW_kept {x : AskS} : keptOf (putW S x) = { keptOf S with asks := (keptOf S).asks ++ [x.spec] } := by
  unfold keptOf
  show Rb19.Kept.mk _ _ = Rb19.Kept.mk _ _
  congr 1
  show (S.wants ++ [x]).map AskS.spec = _
  rw [List.map_append]
  rfl
theorem putP_kept {k : PackS} : keptOf (putP S k) = { keptOf S with packages := (keptOf S).packages ++ [k.spec] } := by
  unfold keptOf
  show Rb19.Kept.mk _ _ = Rb19.Kept.mk _ _
  congr 1
  show (S.packs ++ [k]).map PackS.spec = _
  rw [List.map_append]
  rfl
end
end VP
namespace VP
open PySem PySem.Spec PyProof.Rows L2 VO VM
open Rb19 (B Word Version Span)
def addA (r : RelS) (x : AskS) : RelS := { r with asks := r.asks ++ [x] }
def modR (k : PackS) (i : Nat) (x : AskS) : PackS := { k with rels := k.rels.modify i fun r => addA r x }
def putA (S : SesS) (p i : Nat) (x : AskS) : SesS := { S with packs := S.packs.modify p fun k => modR k i x }
section
variable {P : Program} {w : World} {C : Cs} {H H' : Hp} {S : SesS} {p i : Nat} {x : AskS}
theorem modR_a (k : PackS) : (modR k i x).rels.map (fun r => V.ref r.a) = k.rels.map fun r => V.ref r.a := mod_map fun _ _ => rfl
theorem modR_u (k : PackS) : (modR k i x).rels.map RelS.u = k.rels.map RelS.u := mod_map fun _ _ => rfl
theorem putA_pack {q : Nat} {y : PackS} (h : (putA S p i x).packs[q]? = some y) : ∃ k, S.packs[q]? = some k ∧ ((p = q ∧ y = modR k i x) ∨ (p ≠ q ∧ y = k)) := by
  rcases mod_get h with ⟨e, k, hk, rfl⟩ | ⟨e, h⟩
  · exact ⟨k, hk, .inl ⟨e, rfl⟩⟩
  · exact ⟨y, h, .inr ⟨e, rfl⟩⟩
theorem putA_rel {q j : Nat} {y : RelS} (h : relAt (putA S p i x) q j = some y) : ∃ r, relAt S q j = some r ∧ ((q = p ∧ j = i ∧ y = addA r x) ∨ (¬ (q = p ∧ j = i) ∧ y = r)) := by
  obtain ⟨z, hz, h2⟩ := Option.bind_eq_some_iff.mp h
  obtain ⟨k, hk, ⟨e, rfl⟩ | ⟨e, rfl⟩⟩ := putA_pack hz
  · rcases mod_get h2 with ⟨ei, r, hr, rfl⟩ | ⟨ei, hr⟩
    · exact ⟨r, Option.bind_eq_some_iff.mpr ⟨k, hk, hr⟩, .inl ⟨e.symm, ei.symm, rfl⟩⟩
    · exact ⟨y, Option.bind_eq_some_iff.mpr ⟨k, hk, hr⟩, .inr ⟨fun z => ei z.2.symm, rfl⟩⟩
  · exact ⟨y, Option.bind_eq_some_iff.mpr ⟨z, hk, h2⟩, .inr ⟨fun z => e z.1.symm, rfl⟩⟩
theorem putA_ask {r : RelS} (hr : relAt S p i = some r) {s : ASlot} {y : AskS} (h : askAt (putA S p i x) s = some y) : (s = .r p i r.asks.length ∧ y = x) ∨ askAt S s = some y := by
  cases s with
  | w j => exact .inr h
  | r q j m =>
    obtain ⟨z, hz, h2⟩ := Option.bind_eq_some_iff.mp h
    obtain ⟨r', hr', ⟨rfl, rfl, rfl⟩ | ⟨_, rfl⟩⟩ := putA_rel hz
    · rw [hr] at hr'
      cases hr'
      rcases snoc_get (l := r.asks) h2 with ⟨rfl, rfl⟩ | h3
      · exact .inl ⟨rfl, rfl⟩
      · exact .inr (Option.bind_eq_some_iff.mpr ⟨r, hr, h3⟩)
    · exact .inr (Option.bind_eq_some_iff.mpr ⟨z, hr', h2⟩)
theorem putA_addr {s : Slot} {b : Addr} (h : addr (putA S p i x) s = some b) : addr S s = some b := by
  cases s with
  | pl => exact h
  | wl => exact h
  | rl q =>
    obtain ⟨y, hy, rfl⟩ := Option.map_eq_some_iff.mp h
    obtain ⟨k, hk, ⟨_, rfl⟩ | ⟨_, rfl⟩⟩ := putA_pack hy
    · exact Option.map_eq_some_iff.mpr ⟨k, hk, rfl⟩
    · exact Option.map_eq_some_iff.mpr ⟨y, hk, rfl⟩
  | al q j =>
    obtain ⟨y, hy, rfl⟩ := Option.map_eq_some_iff.mp h
    obtain ⟨r, hr, ⟨_, _, rfl⟩ | ⟨_, rfl⟩⟩ := putA_rel hy
    · exact Option.map_eq_some_iff.mpr ⟨r, hr, rfl⟩
    · exact Option.map_eq_some_iff.mpr ⟨y, hr, rfl⟩
theorem putA_vers (q : Nat) : vers (putA S p i x) q = vers S q := by
  unfold vers
  show (((S.packs.modify p fun k => modR k i x)[q]?).map _).getD [] = _
  by_cases hp : p = q
  · subst hp
    cases e : S.packs[p]? with
    | none =>
      rw [List.getElem?_modify, e]
      rfl
    | some k =>
      rw [mod_at e]
      exact modR_u k
  · rw [mod_ne hp]
theorem At.putA {r : RelS} (h : At P w C H S) (hr : relAt S p i = some r) (hlen : r.asks.length < 16) (fx : Fix (fun b => b = r.al) H H') (fv : H x.vd = none) (hon : x.on < S.packs.length)
    (h1 : H' r.al = some (.lst ((r.asks.map fun x => V.ref x.a) ++ [.ref x.a]))) (hx : AskAt C (fun b => ∀ t, addr S t ≠ some b) H' (vers S x.on) x) : Evo P w C H H' S (putA S p i x) := by
  have hR := h.rels p i r hr
  have aal : addr S (.al p i) = some r.al := Option.map_eq_some_iff.mpr ⟨r, hr, rfl⟩
  have Zal : ∀ b o, H b = some o → (∀ xs, o ≠ .lst xs) → b ≠ r.al := fun b o e ne z => by have := hR.lst; rw [← z, e] at this; cases this; exact ne _ rfl
  have ht : ∀ b xs, H b = some (.tup xs) → ¬ b = r.al := fun b xs e => Zal b _ e fun _ z => by cases z
  have hi : ∀ b c d fs, H b = some (.ins c d fs) → ¬ b = r.al := fun b c d fs e => Zal b _ e fun _ z => by cases z
  have hl : ∀ s b, addr S s = some b → s ≠ .al p i → ¬ b = r.al := fun s b e ne z => by subst z; exact ne (h.inj _ _ _ e aal)
  have nv : ∀ s y, askAt S s = some y → y.vd ≠ x.vd := fun s y e z => by
    obtain ⟨kvs, g, _⟩ := (h.asks s y e).dict
    rw [z, fv] at g
    cases g
  obtain ⟨dxs, hin⟩ := h.ins
  have packF : ∀ (q : Nat) (k : PackS), S.packs[q]? = some k → PackAt P w C H' k := fun q k e => by
    have q1 := h.packs q k e
    obtain ⟨ys, g, _⟩ := q1.dict
    exact q1.fix fx ht hi (hl (.rl q) _ (Option.map_eq_some_iff.mpr ⟨k, e, rfl⟩) fun z => by cases z) (Zal _ _ g fun _ z => by cases z)
  refine ⟨⟨⟨dxs, fx _ _ hin (hi _ _ _ _ hin)⟩, ?_, ?_, fx _ _ h.wl (hl .wl _ rfl fun z => by cases z), fun q y e => ?_, fun q j y e => ?_, fun s y e => ?_, fun s y e => ?_, ⟨?_, h.few.2⟩, ?_, fun s t a e1 e2 => h.inj s t a (putA_addr e1) (putA_addr e2), fun s t y z e1 e2 e3 => ?_, fun q q' y z e1 e2 e3 => ?_⟩, rfl, fx.mono fun b z => .inl ⟨.al p i, by rw [z]; exact aal⟩, fun c hc => ?_⟩
  · have e : (VP.putA S p i x).packs.map (fun k => V.ref k.a) = S.packs.map fun k => V.ref k.a := mod_map fun _ _ => rfl
    rw [e]
    exact fx _ _ h.pl (hl .pl _ rfl fun z => by cases z)
  · have e : (VP.putA S p i x).packs.map PackS.name = S.packs.map PackS.name := mod_map fun _ _ => rfl
    rw [e]
    exact fx _ _ h.nd (Zal _ _ h.nd fun _ z => by cases z)
  · obtain ⟨k, hk, ⟨_, rfl⟩ | ⟨_, rfl⟩⟩ := putA_pack e
    · obtain ⟨a1, a2, ⟨xs, a3, a4, a5⟩, a6, a7⟩ := packF q k hk
      refine ⟨a1, by rw [modR_a]; exact a2, ⟨xs, a3, a4, ?_⟩, ?_, by rw [modR_u]; exact a7⟩
      · unfold NumsAt at a5 ⊢
        rw [modR_u]
        exact a5
      · show (k.rels.modify i _).length ≤ 32
        rw [List.length_modify]
        exact a6
    · exact packF q y hk
  · obtain ⟨r', hr', ⟨rfl, rfl, rfl⟩ | ⟨ne, rfl⟩⟩ := putA_rel e
    · rw [hr] at hr'
      cases hr'
      obtain ⟨⟨dx, b, g1, g2⟩, _, _⟩ := hR
      refine ⟨⟨dx, b, fx _ _ g1 (hi _ _ _ _ g1), g2.fix fx ht⟩, ?_, ?_⟩
      · show H' r.al = some (.lst ((r.asks ++ [x]).map _))
        rw [List.map_append]
        exact h1
      · show (r.asks ++ [x]).length ≤ 16
        rw [List.length_append]
        show r.asks.length + 1 ≤ 16
        omega
    · exact (h.rels q j y hr').fix fx ht hi (hl (.al q j) _ (Option.map_eq_some_iff.mpr ⟨y, hr', rfl⟩) fun z => by cases z; exact ne ⟨rfl, rfl⟩)
  · have q0 : ∀ b, (∀ t, addr S t ≠ some b) → ∀ t, addr (VP.putA S p i x) t ≠ some b := fun b hb t z => hb t (putA_addr z)
    rw [putA_vers]
    rcases putA_ask hr e with ⟨_, rfl⟩ | e
    · obtain ⟨⟨dx, g, g1, g2⟩, g3, g4, g5⟩ := hx
      exact ⟨⟨dx, g, g1, g2.keep2 (fun _ _ e => e) fun b vs hb e => ⟨q0 b hb, e⟩⟩, g3, g4, g5⟩
    · have q1 := h.asks s y e
      obtain ⟨kvs, g, _⟩ := q1.dict
      exact q1.fix fx ht hi (fun c vs hc e2 => ⟨q0 c hc, fun z => hc (.al p i) (by rw [z]; exact aal)⟩) ⟨[], by simp⟩ (Zal _ _ g fun _ z => by cases z)
  · show y.on < (S.packs.modify p _).length
    rw [List.length_modify]
    rcases putA_ask hr e with ⟨_, rfl⟩ | e
    · exact hon
    · exact h.on s y e
  · show (S.packs.modify p _).length ≤ 32
    rw [List.length_modify]
    exact h.few.1
  · have e : (VP.putA S p i x).packs.map PackS.name = S.packs.map PackS.name := mod_map fun _ _ => rfl
    rw [e]
    exact h.names
  · rcases putA_ask hr e1 with ⟨d1, d2⟩ | d1
    · rcases putA_ask hr e2 with ⟨c1, _⟩ | c1
      · rw [d1, c1]
      · exact absurd (by rw [← e3, d2]) (nv _ _ c1)
    · rcases putA_ask hr e2 with ⟨c1, c2⟩ | c1
      · exact absurd (by rw [e3, c2]) (nv _ _ d1)
      · exact h.injV s t y z d1 c1 e3
  · have back : ∀ {q : Nat} {y : PackS}, (VP.putA S p i x).packs[q]? = some y → ∃ y', S.packs[q]? = some y' ∧ y'.nd = y.nd := fun {q y} e => by
      obtain ⟨k, hk, ⟨_, rfl⟩ | ⟨_, rfl⟩⟩ := putA_pack e
      · exact ⟨k, hk, rfl⟩
      · exact ⟨y, hk, rfl⟩
    obtain ⟨y', b1, b2⟩ := back e1
    obtain ⟨z', b3, b4⟩ := back e2
    exact h.injN q q' y' z' b1 b3 (by rw [b2, b4]; exact e3)
  · rcases hc with ⟨s, e⟩ | ⟨s, y, e, rfl⟩ | rfl | ⟨q, y, e, rfl⟩
    · exact .inl (.inl ⟨s, putA_addr e⟩)
    · rcases putA_ask hr e with ⟨_, rfl⟩ | e
      · exact .inr fv
      · exact .inl (.inr (.inl ⟨s, y, e, rfl⟩))
    · exact .inl (.inr (.inr (.inl rfl)))
    · obtain ⟨k, hk, ⟨_, rfl⟩ | ⟨_, rfl⟩⟩ := putA_pack e
      · exact .inl (.inr (.inr (.inr ⟨q, k, hk, rfl⟩)))
      · exact .inl (.inr (.inr (.inr ⟨q, y, hk, rfl⟩)))
theorem putA_kept : keptOf (putA S p i x) = Rb19.addAsk (keptOf S) p i x.spec := by
  unfold keptOf Rb19.addAsk
  show Rb19.Kept.mk _ _ = Rb19.Kept.mk _ _
  congr 1
  refine map_mod fun k _ => ?_
  show (k.name, (k.rels.modify i fun r => addA r x).map RelS.spec) = (k.name, (k.rels.map RelS.spec).modify i _)
  congr 1
  refine map_mod fun r _ => ?_
  show Rb19.Item.mk r.u ((r.asks ++ [x]).map AskS.spec) = Rb19.Item.mk r.u (r.asks.map AskS.spec ++ [x.spec])
  rw [List.map_append]
  rfl
end
end VP
namespace VP
open PySem PySem.Spec PyProof.Rows L2 VO VM
open Rb19 (B Word Version)
theorem allB_len : ∀ {cs : List B} {g : List Bd}, allB cs = some g → g.length ≤ 2 * cs.length
  | [], g, h => by cases h; exact Nat.le_refl _
  | c :: cs, g, h => by
    rw [allB_cons] at h
    cases hb : bounds c with
    | none => rw [hb] at h; cases h
    | some b =>
      rw [hb] at h
      cases hr : allB cs with
      | none => rw [hr] at h; cases h
      | some r =>
        rw [hr] at h
        have h : b ++ r = g := Option.some.inj h
        subst h
        have h1 := bnds_len c hb
        have h2 := allB_len hr
        rw [List.length_append, List.length_cons]
        omega
theorem condB_len {l : B} {gs : List (List Bd)} (hl : l.length ≤ 256) (h : VM.condB l = some gs) : gs.length ≤ 1000 ∧ ∀ g ∈ gs, g.length ≤ 1000 := by
  unfold VM.condB at h
  split at h
  · have h := Option.some.inj h
    subst h
    have hcl : (Rb19.cut 124 l).length ≤ 257 := Nat.le_trans (cut_len _ _) (by omega)
    constructor
    · refine Nat.le_trans (List.length_filterMap_le _ _) ?_
      rw [List.length_map]
      omega
    · intro g hg
      obtain ⟨o, ho, e⟩ := List.mem_filterMap.mp hg
      obtain ⟨c, hc, rfl⟩ := List.mem_map.mp ho
      have h1 := allB_len (cs := Rb19.cut 32 c) (g := g) e
      have h2 : c.length ≤ 256 := cut_small hl c hc
      have h3 : (Rb19.cut 32 c).length ≤ 257 := Nat.le_trans (cut_len _ _) (by omega)
      omega
  · cases h
end VP
namespace VP
open PySem PySem.Spec PyProof.Rows L2 VO VM
open Rb19 (B Word Version Span)
structure NDefs (K : PySem.W.Frag) (mg : Str → Option Value) : Prop where
  nb : ∃ f fd, Def K mg "is_name_byte" sIsNameB ["byte"] f fd
  nm : ∃ f fd, Def K mg "is_name" sIsName ["text"] f fd
def nameB (c : Nat) : Bool := Rb19.digit c || ((decide (97 ≤ c) && decide (c ≤ 122)) || c == 45)
section
variable {P : Program} {w : World} {K : PySem.W.Frag} {mg : Str → Option Value} {base : Heap} {f : Addr} {fd : FuncData}
theorem scNameB : FnScope ["byte"] ["byte"] (defScope sIsNameB) := ⟨rfl, rfl, rfl, by decide +kernel, rfl, by decide +kernel, by decide +kernel⟩
theorem or3 {a b d : Bool} {Q : Bool → Prop} (q : Q (b || (a || d))) : if a = true then Q true else if b = true then Q true else Q d := by
  cases a <;> cases b <;> exact q
theorem ok_nameB {f1 f2 : Addr} {fd1 fd2 : FuncData} (D : Def K mg "is_name_byte" sIsNameB ["byte"] f fd) (T : Blt mg) (D1 : Def K mg "is_digit" sIsDigit ["byte"] f1 fd1) (D2 : Def K mg "is_small_letter" sIsSmall ["byte"] f2 fd2) : FnOk P w K mg base CX0 2 f fd ["byte"] (spB nameB) := by
  have G1 : FnOk P w K mg base CX0 1 f1 fd1 ["byte"] (spB Rb19.digit) := ok_isDigit D1 T
  have G2 : FnOk P w K mg base CX0 1 f2 fd2 ["byte"] (spB small) := ok_isSmall D2 T
  refine D.F.ok scNameB (fun vs H Q E h => ?_) (fun cdv A outer s H vs Q E hr h => ?_)
  · obtain ⟨n, rfl, _⟩ := h
    rfl
  · obtain ⟨n, rfl, q⟩ := h
    refine ⟨_, pss_one (ps_ret (pe_or (pe_call G2 hr rfl D2.at_ D2.F.kp D2.b .nil pass0 (pa_cons (pv 0) pa_nil)) (pe_or (pe_call G1 hr rfl D1.at_ D1.F.kp D1.b .nil pass0 (pa_cons (pv 0) pa_nil))
      (pe_one (pe_cmpR op_eq (pv 0) (pe_callB call_ord rfl T.ord bt_ord (pa_cons pe_str pa_nil)) (nomark _)))))), ?_⟩
    refine ⟨_, rfl, n, rfl, _, rfl, ?_⟩
    have k := or3 (a := small n) (b := Rb19.digit n) (d := n == 45) (Q := fun b => Q (.bl b) H) q
    revert k
    cases small n with
    | true => exact fun k => k
    | false =>
      intro k
      refine ⟨_, rfl, n, rfl, _, rfl, ?_⟩
      revert k
      cases Rb19.digit n with
      | true => exact fun k => k
      | false =>
        intro k
        refine ⟨_, rfl, _, rfl, rfl, rfl, ?_⟩
        have e := dec_nat n 45
        have k : Q (.bl (n == 45)) H := k
        rw [← e] at k
        exact k
theorem scName : FnScope ["text", "byte"] ["text"] (defScope sIsName) := ⟨rfl, rfl, rfl, by decide +kernel, rfl, by decide +kernel, by decide +kernel⟩
theorem ok_name (D : Def K mg "is_name" sIsName ["text"] f fd) (S : VDefs K mg) (N : NDefs K mg) (hM : ∃ t, mg "MOST_NAME" = some (.int 32 t)) : FnOk P w K mg base CX0 3 f fd ["text"] (spT K fun l => .bl (Rb19.nameOk l)) := by
  have T := S.T
  obtain ⟨f0, fd0, D0⟩ := N.nb
  obtain ⟨f1, fd1, D1⟩ := S.dg
  obtain ⟨f2, fd2, D2⟩ := S.sm
  obtain ⟨t9, M⟩ := hM
  have G0 : FnOk P w K mg base CX0 2 f0 fd0 ["byte"] (spB nameB) := ok_nameB D0 T D1 D2
  refine D.F.ok scName (fun vs H Q E h => ?_) (fun cdv A outer s H vs Q E hr h => ?_)
  · obtain ⟨a, l, rfl, _⟩ := h
    rfl
  · obtain ⟨a, l, rfl, hS, hl, k⟩ := h
    refine ⟨_, pss_one (ps_ret (pe_and (pe_chain op_le op_le pe_int (pe_callB call_len_seq rfl T.len PySem.boot_len (pa_cons (pv 0) pa_nil)) (pe_glob (v := .int 32) rfl M ⟨t9, rfl⟩)) (pe_one (pe_callB (cr_all rfl) rfl T.all bt_all (pa_cons (pe_lc (own := [("byte", 1)]) rfl scName.nd (pi_list (pv 0)) (blkOk_by (by rfl))
      (fun _ _ _ _ _ => pg_name (i := 1) scName.nd rfl (Or.inl rfl)) (fun _ _ _ _ _ => pts_nil) (fun _ _ _ _ _ => pe_call G0 hr rfl D0.at_ D0.F.kp D0.b .nil pass0 (pa_cons (pv 1) pa_nil))) pa_nil))))), ?_⟩
    have ek : Rb19.nameOk l = ((decide (1 ≤ l.length) && decide (l.length ≤ 32)) && l.all nameB) := by
      unfold Rb19.nameOk nameB
      rw [Bool.and_assoc]
    have k : ∀ H', Same H H' → Q (.bl (Rb19.nameOk l)) H' := k
    rw [ek] at k
    refine ⟨_, rfl, a, _, rfl, .inl hS, _, _, rfl, rfl, _, rfl, ?_⟩
    rw [bs_len]
    by_cases h1 : 1 ≤ l.length
    · rw [if_pos (decide_eq_true (by omega))]
      refine ⟨_, _, rfl, rfl, _, rfl, ?_⟩
      by_cases h2 : l.length ≤ 32
      · rw [if_pos (decide_eq_true (by omega))]
        rw [decide_eq_true h1, decide_eq_true h2] at k
        refine ⟨_, rfl, a, rfl, ⟨_, hS⟩, fun DD hD => lc_map (onB nameB) hD hS (by rw [bs_len]; exact len256 hl) (fun x H2 Q' zs hx s2 hz k2 => ?_) (fun H' s2 hy => ?_)⟩
        · obtain ⟨n, _, rfl⟩ := mem_bs hx
          exact ⟨rfl, _, rfl, n, rfl, k2 H2 (Same.refl H2)⟩
        · rw [map_bs nameB _ (onB_nat _)] at hy
          refine ⟨DD, _, rfl, SqL.of hy, ?_⟩
          rw [all_id]
          exact k H' s2
      · rw [if_neg (by rw [decide_eq_true_eq]; omega)]
        rw [decide_eq_true h1, decide_eq_false h2] at k
        exact k H (Same.refl H)
    · rw [if_neg (by rw [decide_eq_true_eq]; omega)]
      rw [decide_eq_false h1] at k
      exact ⟨_, rfl, k H (Same.refl H)⟩
end
end VP
namespace VP
open PySem PySem.Spec PyProof.Rows L2 VO VM
open Rb19 (B Word Version Span)
theorem dec_nn (a b : Nat) : decide (V.int (a : Int) = V.int (b : Int)) = decide (a = b) := by
  by_cases h : a = b
  · subst h; simp
  · rw [decide_eq_false h]
    exact decide_eq_false fun z => h (by injection z with z; omega)
theorem valX_some {xs : List VX} {rs : List RelS} {u : Version} {n : Nat} (hn : NumsAt xs rs) (h : valX xs u = some n) : ∃ r, rs[n]? = some r ∧ r.u = u := by
  unfold valX at h
  obtain ⟨x, hx, e⟩ := Option.map_eq_some_iff.mp h
  have h1 := List.find?_some hx
  have h2 := List.mem_of_find?_eq_some hx
  have h1 : x.1 = u := of_decide_eq_true h1
  have h3 : (u, n) ∈ xs.map fun x => (x.1, x.2.2) := List.mem_map.mpr ⟨x, h2, by rw [h1, e]⟩
  unfold NumsAt at hn
  rw [hn] at h3
  have h4 := List.mem_zipIdx_iff_getElem?.mp h3
  rw [List.getElem?_map] at h4
  obtain ⟨r, hr, hu⟩ := Option.map_eq_some_iff.mp h4
  exact ⟨r, hr, hu⟩
theorem valX_none {xs : List VX} {rs : List RelS} {u : Version} (hn : NumsAt xs rs) (h : valX xs u = none) : u ∉ rs.map RelS.u := fun hm => by
  obtain ⟨n, hi⟩ := List.getElem?_of_mem hm
  have h3 : (u, n) ∈ (rs.map RelS.u).zipIdx := List.mem_zipIdx_iff_getElem?.mpr hi
  unfold NumsAt at hn
  rw [← hn] at h3
  obtain ⟨x, hx, e⟩ := List.mem_map.mp h3
  unfold valX at h
  rw [Option.map_eq_none_iff, List.find?_eq_none] at h
  have e1 : x.1 = u := congrArg Prod.fst e
  exact h x hx (decide_eq_true e1)
theorem numsLen {xs : List VX} {rs : List RelS} (hn : NumsAt xs rs) : xs.length = rs.length := by
  have := congrArg List.length hn
  rw [List.length_map, List.length_zipIdx, List.length_map] at this
  exact this
theorem nameK_kV (l : B) : (nameK l).map kV = bs l := by
  unfold nameK bs
  rw [List.map_map]
  rfl
theorem nameK_inj {a b : B} (h : nameK a = nameK b) : a = b := bs_inj (by rw [← nameK_kV, ← nameK_kV, h])
theorem names_some {l : List B} {n : B} {v : V} (h : valV (namesK l) (nameK n) = some v) : ∃ p : Nat, l[p]? = some n ∧ v = .int ((p : Nat) : Int) := by
  have all : ∀ (l : List B) (s : Nat), valV ((l.zipIdx s).map fun k => (nameK k.1, V.int ((k.2 : Nat) : Int))) (nameK n) = some v → ∃ p : Nat, l[p]? = some n ∧ v = .int ((s + p : Nat) : Int) := by
    intro l
    induction l with
    | nil => intro s h; cases h
    | cons a l ih =>
      intro s h
      rw [List.zipIdx_cons, List.map_cons] at h
      by_cases e : nameK a = nameK n
      · rw [valV_pos e] at h
        exact ⟨0, by rw [← nameK_inj e]; rfl, (Option.some.inj h).symm⟩
      · rw [valV_neg e] at h
        obtain ⟨p, h1, h2⟩ := ih (s + 1) h
        exact ⟨p + 1, h1, by rw [h2]; congr 2; omega⟩
  obtain ⟨p, h1, h2⟩ := all l 0 h
  exact ⟨p, h1, by rw [h2, Nat.zero_add]⟩
theorem names_none {l : List B} {n : B} (h : valV (namesK l) (nameK n) = none) : n ∉ l := by
  have all : ∀ (l : List B) (s : Nat), valV ((l.zipIdx s).map fun k => (nameK k.1, V.int ((k.2 : Nat) : Int))) (nameK n) = none → n ∉ l := by
    intro l
    induction l with
    | nil => intro s h hm; cases hm
    | cons a l ih =>
      intro s h hm
      rw [List.zipIdx_cons, List.map_cons] at h
      by_cases e : nameK a = nameK n
      · rw [valV_pos e] at h
        cases h
      · rw [valV_neg e] at h
        rcases List.mem_cons.mp hm with z | hm
        · exact e (by rw [z])
        · exact ih (s + 1) h hm
  exact all l 0 h
def spFind (P : Program) (w : World) (C : Cs) : Sp := fun vs H Q _ => ∃ (S : SesS) (p : Nat) (k : PackS) (b : Addr) (u : Version), vs = [.ref k.a, .ref b] ∧ At P w C H S ∧ S.packs[p]? = some k ∧ VerAt H (.ref b) u ∧
  (∀ (i : Nat) r, k.rels[i]? = some r → r.u = u → Q (.ref r.a) H) ∧ (u ∉ k.rels.map RelS.u → Q .non H)
def spAddR (P : Program) (w : World) (C : Cs) : Sp := fun vs H Q _ => ∃ (S : SesS) (p : Nat) (k : PackS) (b : Addr) (u : Version), vs = [.ref k.a, .ref b] ∧ At P w C H S ∧ S.packs[p]? = some k ∧ VerAt H (.ref b) u ∧
  (u ∈ k.rels.map RelS.u → Q (.int (-1)) H) ∧ (u ∉ k.rels.map RelS.u → k.rels.length = 32 → Q (.int (-3)) H) ∧
  (u ∉ k.rels.map RelS.u → k.rels.length < 32 → ∀ H' r, r.u = u → r.asks = [] → Evo P w C H H' S (putR S p r) → Q (.int ((k.rels.length : Nat) : Int)) H')
def spNum (P : Program) (w : World) (C : Cs) (K : PySem.W.Frag) : Sp := fun vs H Q _ => ∃ (S : SesS) (a : Addr) (n : B), vs = [.ref S.a, .ref a] ∧ At P w C H S ∧ SqL K H a (bs n) ∧ n.length ≤ 256 ∧
  (∀ (p : Nat) k, S.packs[p]? = some k → k.name = n → ∀ H', Same H H' → Q (.int (p : Int)) H') ∧ (n ∉ S.packs.map PackS.name → ∀ H', Same H H' → Q .non H')
def spRelOf (P : Program) (w : World) (C : Cs) (K : PySem.W.Frag) : Sp := fun vs H Q _ => ∃ (S : SesS) (a : Addr) (n : B) (b : Addr) (u : Version), vs = [.ref S.a, .ref a, .ref b] ∧ At P w C H S ∧ SqL K H a (bs n) ∧ n.length ≤ 256 ∧ VerAt H (.ref b) u ∧
  (∀ (p i : Nat) k r, S.packs[p]? = some k → k.name = n → k.rels[i]? = some r → r.u = u → ∀ H', Same H H' → Q (.ref r.a) H') ∧
  ((n ∉ S.packs.map PackS.name ∨ ∃ (p : Nat) (k : PackS), S.packs[p]? = some k ∧ k.name = n ∧ u ∉ k.rels.map RelS.u) → ∀ H', Same H H' → Q .non H')
section
variable {P : Program} {w : World} {K : PySem.W.Frag} {mg : Str → Option Value} {base : Heap} {f : Addr} {fd : FuncData} {C : Cs}
theorem scFind : FnScope ["self", "version", "number"] ["self", "version"] (defScope mPackage_find_release) := ⟨rfl, rfl, rfl, by decide +kernel, rfl, by decide +kernel, by decide +kernel⟩
theorem ok_find (D : MDef K C.P "find_release" "Package.find_release" mPackage_find_release ["self", "version"] f fd) (S : SDefs K mg C) : FnOk P w K mg base CX0 1 f fd ["self", "version"] (spFind P w C) := by
  refine D.F.ok scFind (fun vs H Q E h => ?_) (fun cdv A outer s H vs Q E hr h => ?_)
  · obtain ⟨Z, p, k, b, u, rfl, _⟩ := h
    rfl
  · obtain ⟨Z, p, k, b, u, rfl, hA, hk, hb, k1, k2⟩ := h
    have hu := hr.units
    refine ⟨_, pss_cons (ps_set (i := 2) scFind.nd rfl (Or.inl rfl) (pe_vget1 hu (pe_fld (pv 0) rfl) (pv 1) ⟨rfl, rfl, rfl, rfl⟩))
      (pss_one (ps_ret (pe_ifExp (pt_cmp (pc_isN (pv 2))) pe_non (pe_ix ix_list (pe_fld (pv 0) rfl) (pv 2) (fun _ _ => rfl))))), ?_⟩
    have hP := hA.packs p k hk
    obtain ⟨dx, h1⟩ := hP.ins
    obtain ⟨xs, h2, h3, h4⟩ := hP.dict
    refine ⟨_, rfl, k.a, C.P, dx, _, _, rfl, h1, S.cP.cl, S.nNm, fPack_numbers _ _, k.nd, xs, rfl, h2, h3, _, rfl, b, u, xs, rfl, h2, h3, hb, ?_⟩
    refine ⟨_, rfl, _, rfl, ?_⟩
    cases e : valX xs u with
    | none => exact k2 (valX_none h4 e)
    | some n =>
      obtain ⟨r, hr0, hru⟩ := valX_some h4 e
      have gr : (k.rels.map fun r => V.ref r.a)[n]? = some (.ref r.a) := by rw [List.getElem?_map, hr0]; rfl
      exact ⟨_, rfl, k.a, C.P, dx, _, _, rfl, h1, S.cP.cl, S.nRl, fPack_releases _ _, _, rfl, k.rl, _, _, _, rfl, rfl, SqL.of hP.lst, atI_nat gr, k1 n r hr0 hru⟩
theorem scAddR : FnScope ["self", "version", "number"] ["self", "version"] (defScope mPackage_add_release) := ⟨rfl, rfl, rfl, by decide +kernel, rfl, by decide +kernel, by decide +kernel⟩
theorem ok_addR (D : MDef K C.P "add_release" "Package.add_release" mPackage_add_release ["self", "version"] f fd) (S : SDefs K mg C) : FnOk P w K mg base CX0 3 f fd ["self", "version"] (spAddR P w C) := by
  have T := S.D.V.T
  obtain ⟨f1, fd1, D1⟩ := S.iR
  obtain ⟨t32, M⟩ := S.mV
  have G1 : FnOk P w K mg base CX0 1 f1 fd1 ["self", "version"] (spIR C) := ok_initR D1 S
  refine D.F.ok scAddR (fun vs H Q E h => ?_) (fun cdv A outer s H vs Q E hr h => ?_)
  · obtain ⟨Z, p, k, b, u, rfl, _⟩ := h
    rfl
  · obtain ⟨Z, p, k, b, u, rfl, hA, hk, hb, k1, k2, k3⟩ := h
    have hu := hr.units
    refine ⟨_, pss_cons (ps_if (pt_cmp (pc_vin hu (pv 1) (pe_fld (pv 0) rfl))) (pss_one (ps_ret (pe_un un_neg pe_int))) pss_nil)
      (pss_cons (ps_set (i := 2) scAddR.nd rfl (Or.inl rfl) (pe_callB call_len_seq rfl T.len PySem.boot_len (pa_cons (pe_fld (pv 0) rfl) pa_nil)))
      (pss_cons (ps_if (pt_cmpR op_eq (pv 2) (pe_glob (v := .int 32) rfl M ⟨t32, rfl⟩) (nomark _)) (pss_one (ps_ret (pe_un un_neg pe_int))) pss_nil)
      (pss_cons (ps_expr (pe_bm PySem.F.plainAttrs_list PySem.F.slot_list_append PySem.F.type_list_append mt_append (pe_fld (pv 0) rfl) (pa_cons (pe_make D1.mak G1 hr rfl S.cR.at_ D1.b .nil pass0 (pa_cons (pv 1) pa_nil)) pa_nil)))
      (pss_cons (ps_vput hu (pe_fld (pv 0) rfl) (pv 1) (pv 2) rfl)
      (pss_one (ps_ret (pv 2))))))), ?_⟩
    have hP := hA.packs p k hk
    obtain ⟨dx, h1⟩ := hP.ins
    obtain ⟨xs, h2, h3, h4⟩ := hP.dict
    have few := hP.few
    have lxs := numsLen h4
    refine ⟨_, rfl, _, rfl, k.a, C.P, dx, _, _, rfl, h1, S.cP.cl, S.nNm, fPack_numbers _ _, k.nd, b, u, xs, rfl, rfl, h2, h3, hb, _, rfl, ?_⟩
    cases e : valX xs u with
    | some n =>
      obtain ⟨r, hr0, hru⟩ := valX_some h4 e
      exact ⟨_, rfl, k1 (List.mem_map.mpr ⟨r, List.mem_of_getElem? hr0, hru⟩)⟩
    | none =>
      have hnew := valX_none h4 e
      refine ⟨_, rfl, k.a, C.P, dx, _, _, rfl, h1, S.cP.cl, S.nRl, fPack_releases _ _, k.rl, _, rfl, .inl (SqL.of hP.lst), ?_⟩
      rw [List.length_map]
      refine ⟨_, rfl, rfl, _, rfl, ?_⟩
      show if decide (V.int ((k.rels.length : Nat) : Int) = V.int ((32 : Nat) : Int)) = true then _ else _
      rw [dec_nn]
      by_cases h32 : k.rels.length = 32
      · rw [if_pos (decide_eq_true h32)]
        exact ⟨_, rfl, k2 hnew h32⟩
      · rw [if_neg (by rw [decide_eq_true_eq]; exact h32)]
        refine ⟨_, rfl, k.a, C.P, dx, _, _, rfl, h1, S.cP.cl, S.nRl, fPack_releases _ _, .inl ⟨rfl, _, SqL.of hP.lst⟩, _, rfl, ?_⟩
        intro ra dr nra ndr ndx
        refine ⟨ra, dr, .ref b, rfl, upd_same, fun H1 al kp nal g1 g2 => ⟨rfl, ?_⟩⟩
        have s1 : Same H H1 := Same.made nra ndr kp
        have nal0 : H al = none := by
          have n1 : al ≠ ra := fun z => by rw [z, upd_same] at nal; cases nal
          have n2 : al ≠ dr := fun z => by rw [z, upd_ne ndx, upd_same] at nal; cases nal
          rw [upd_ne n1, upd_ne n2] at nal
          exact nal
        refine ⟨k.rl, _, _, rfl, rfl, s1 _ _ hP.lst, by rw [List.length_map]; exact small1000 (by omega), ?_⟩
        have nrn : k.nd ≠ k.rl := fun z => by have := hP.lst; rw [← z, h2] at this; cases this
        have nak : ∀ b' o, H1 b' = some o → (∀ ys, o ≠ .lst ys) → b' ≠ k.rl := fun b' o e' ne z => by rw [z, s1 _ _ hP.lst] at e'; cases e'; exact ne _ rfl
        have ev := hA.putR (H1 := H1) (al := al) (ra := ra) (b := b) (u := u) hk h2 h4 h3 s1 nal0 g1 g2 hb hnew (by omega)
        have hk1 : upd H1 k.rl (.lst ((k.rels.map fun r => V.ref r.a) ++ [.ref ra])) k.a = some (.ins C.P dx (fPack (.ref k.rl) (.ref k.nd))) := by
          rw [upd_ne (nak _ _ (s1 _ _ h1) fun _ z => by cases z)]
          exact s1 _ _ h1
        have tp : ∀ b' ys, H b' = some (.tup ys) → upd H1 k.rl (.lst ((k.rels.map fun r => V.ref r.a) ++ [.ref ra])) b' = some (.tup ys) := fun b' ys e' => by
          rw [upd_ne (nak _ _ (s1 _ _ e') fun _ z => by cases z)]
          exact s1 _ _ e'
        refine ⟨_, rfl, _, rfl, k.a, C.P, dx, _, _, rfl, hk1, S.cP.cl, S.nNm, fPack_numbers _ _, _, rfl, k.nd, b, u, xs, k.rels.length, rfl, rfl, rfl, by rw [upd_ne nrn]; exact s1 _ _ h2, fun x hx => VerAt.tups tp (h3 x hx), VerAt.tups tp hb, e, small1000 (by omega), ?_⟩
        exact ⟨_, rfl, k3 hnew (by omega) _ ⟨ra, al, u, []⟩ rfl rfl ev⟩
theorem scNum : FnScope ["self", "name"] ["self", "name"] (defScope mSession_number_of) := ⟨rfl, rfl, rfl, by decide +kernel, rfl, by decide +kernel, by decide +kernel⟩
theorem ok_num (D : MDef K C.S "number_of" "Session.number_of" mSession_number_of ["self", "name"] f fd) (S : SDefs K mg C) : FnOk P w K mg base CX0 1 f fd ["self", "name"] (spNum P w C K) := by
  have T := S.D.V.T
  refine D.F.ok scNum (fun vs H Q E h => ?_) (fun cdv A outer s H vs Q E hr h => ?_)
  · obtain ⟨Z, a, n, rfl, _⟩ := h
    rfl
  · obtain ⟨Z, a, n, rfl, hA, hn, hl, k1, k2⟩ := h
    have hu := hu_of hr
    refine ⟨_, pss_one (ps_ret (pe_dget1 hu (pe_fld (pv 0) rfl) (pe_callTy call_tuple_of rfl T.tuple bt_tuple (pa_cons (pv 1) pa_nil)) ⟨rfl, rfl, rfl, rfl⟩)), ?_⟩
    obtain ⟨dx, h1⟩ := hA.ins
    refine ⟨_, rfl, Z.a, C.S, dx, _, _, rfl, h1, S.cS.cl, S.nSn, fSes_numbers _ _ _, Z.nd, rfl, .inr ⟨_, .inl hA.nd⟩, _, rfl, a, _, rfl, .inl ⟨hn, fun t ht => ?_⟩⟩
    have s1 : Same H (upd H t (.tup (bs n))) := same_upd ht
    refine ⟨_, DGet.t (k := nameK n) (s1 _ _ hA.nd) (by rw [nameK_kV]; exact upd_same), ?_⟩
    cases e : valV (namesK (Z.packs.map PackS.name)) (nameK n) with
    | none => exact k2 (names_none e) _ s1
    | some v =>
      obtain ⟨p, h2, rfl⟩ := names_some e
      rw [List.getElem?_map] at h2
      obtain ⟨kk, hk, hkn⟩ := Option.map_eq_some_iff.mp h2
      exact k1 p kk hk hkn _ s1
theorem scRelOf : FnScope ["self", "name", "version", "number"] ["self", "name", "version"] (defScope mSession_release_of) := ⟨rfl, rfl, rfl, by decide +kernel, rfl, by decide +kernel, by decide +kernel⟩
theorem ok_relOf (D : MDef K C.S "release_of" "Session.release_of" mSession_release_of ["self", "name", "version"] f fd) (S : SDefs K mg C) : FnOk P w K mg base CX0 2 f fd ["self", "name", "version"] (spRelOf P w C K) := by
  obtain ⟨f1, fd1, D1⟩ := S.sN
  obtain ⟨f2, fd2, D2⟩ := S.pF
  have G1 : FnOk P w K mg base CX0 1 f1 fd1 ["self", "name"] (spNum P w C K) := ok_num D1 S
  have G2 : FnOk P w K mg base CX0 1 f2 fd2 ["self", "version"] (spFind P w C) := ok_find D2 S
  refine D.F.ok scRelOf (fun vs H Q E h => ?_) (fun cdv A outer s H vs Q E hr h => ?_)
  · obtain ⟨Z, a, n, b, u, rfl, _⟩ := h
    rfl
  · obtain ⟨Z, a, n, b, u, rfl, hA, hn, hl, hb, k1, k2⟩ := h
    refine ⟨_, pss_cons (ps_set (i := 3) scRelOf.nd rfl (Or.inl rfl) (pe_meth (pv 0) S.cS.cl D1.me G1 hr D1.b .nil pass0 (pa_cons (pv 1) pa_nil)))
      (pss_one (ps_ret (pe_ifExp (pt_cmp (pc_isN (pv 3))) pe_non (pe_meth (pe_ix ix_list (pe_fld (pv 0) rfl) (pv 3) (fun _ _ => rfl)) S.cP.cl D2.me G2 hr D2.b .nil pass0 (pa_cons (pv 2) pa_nil))))), ?_⟩
    obtain ⟨dx, h1⟩ := hA.ins
    refine ⟨_, rfl, Z.a, dx, _, rfl, h1, fSes_no _ _ _ (by decide +kernel) (by decide +kernel) (by decide +kernel), _, rfl, Z, a, n, rfl, hA, hn, hl, fun p kk hk hkn H1 s1 => ?_, fun hno H1 s1 => ?_⟩
    · refine ⟨_, rfl, _, rfl, ?_⟩
      have hA1 := hA.same s1
      have hP := hA1.packs p kk hk
      obtain ⟨dp, p1⟩ := hP.ins
      have gp : (Z.packs.map fun k => V.ref k.a)[p]? = some (.ref kk.a) := by rw [List.getElem?_map, hk]; rfl
      exact ⟨_, rfl, Z.a, C.S, dx, _, _, rfl, s1 _ _ h1, S.cS.cl, S.nPk, fSes_packages _ _ _, _, rfl, Z.pl, _, _, _, rfl, rfl, SqL.of hA1.pl, atI_nat gp, kk.a, dp, _, rfl, p1, fPack_no _ _ (by decide +kernel) (by decide +kernel), _, rfl,
        Z, p, kk, b, u, rfl, hA1, hk, VerAt.same s1 hb, fun i r hr0 hru => k1 p i kk r hk hkn hr0 hru H1 s1, fun hnu => k2 (.inr ⟨p, kk, hk, hkn, hnu⟩) H1 s1⟩
    · exact ⟨_, rfl, _, rfl, k2 (.inl hno) H1 s1⟩
end
end VP
namespace VP
open PySem PySem.Spec PyProof.Rows L2 VO VM
open Rb19 (B Word Version Span)
section
variable {S : SesS}
theorem find_yes (hd : (S.packs.map PackS.name).Nodup) {p : Nat} {k : PackS} {n : B} (hk : S.packs[p]? = some k) (hn : k.name = n) : Rb19.find (keptOf S) n = some p := by
  unfold Rb19.find keptOf
  show (S.packs.map PackS.spec).findIdx? _ = _
  rw [List.findIdx?_map, List.findIdx?_eq_some_iff_getElem]
  have hp := (List.getElem?_eq_some_iff.mp hk).1
  refine ⟨hp, ?_, fun j hj z => ?_⟩
  · show ((S.packs[p]).name == n) = true
    rw [(List.getElem?_eq_some_iff.mp hk).2, hn]
    exact beq_self_eq_true n
  · have z : ((S.packs[j]'(by omega)).name == n) = true := z
    have z := eq_of_beq z
    have e : (S.packs.map PackS.name)[j]'(by rw [List.length_map]; omega) = (S.packs.map PackS.name)[p]'(by rw [List.length_map]; exact hp) := by
      rw [List.getElem_map, List.getElem_map, z, (List.getElem?_eq_some_iff.mp hk).2, hn]
    have := (List.getElem_inj hd).mp e
    omega
theorem find_no {n : B} (hn : n ∉ S.packs.map PackS.name) : Rb19.find (keptOf S) n = none := by
  unfold Rb19.find keptOf
  show (S.packs.map PackS.spec).findIdx? _ = _
  rw [List.findIdx?_eq_none_iff]
  intro x hx
  obtain ⟨k, hk, rfl⟩ := List.mem_map.mp hx
  show (k.name == n) = false
  rw [beq_eq_false_iff_ne]
  intro z
  exact hn (List.mem_map.mpr ⟨k, hk, z⟩)
theorem items_at {p : Nat} {k : PackS} (hk : S.packs[p]? = some k) : Rb19.items (keptOf S) p = k.rels.map RelS.spec := by
  unfold Rb19.items keptOf
  show (((S.packs.map PackS.spec)[p]?).map _).getD [] = _
  rw [List.getElem?_map, hk]
  rfl
theorem ver_yes {k : PackS} (hd : (k.rels.map RelS.u).Nodup) {i : Nat} {r : RelS} {u : Version} (hr : k.rels[i]? = some r) (hu : r.u = u) : (k.rels.map RelS.spec).findIdx? (fun x => x.version == u) = some i := by
  rw [List.findIdx?_map, List.findIdx?_eq_some_iff_getElem]
  have hp := (List.getElem?_eq_some_iff.mp hr).1
  refine ⟨hp, ?_, fun j hj z => ?_⟩
  · show ((k.rels[i]).u == u) = true
    rw [(List.getElem?_eq_some_iff.mp hr).2, hu]
    exact beq_self_eq_true u
  · have z : ((k.rels[j]'(by omega)).u == u) = true := z
    have z := eq_of_beq z
    have e : (k.rels.map RelS.u)[j]'(by rw [List.length_map]; omega) = (k.rels.map RelS.u)[i]'(by rw [List.length_map]; exact hp) := by
      rw [List.getElem_map, List.getElem_map, z, (List.getElem?_eq_some_iff.mp hr).2, hu]
    have := (List.getElem_inj hd).mp e
    omega
theorem ver_no {k : PackS} {u : Version} (h : u ∉ k.rels.map RelS.u) : (k.rels.map RelS.spec).findIdx? (fun x => x.version == u) = none := by
  rw [List.findIdx?_eq_none_iff]
  intro x hx
  obtain ⟨r, hr, rfl⟩ := List.mem_map.mp hx
  show (r.u == u) = false
  rw [beq_eq_false_iff_ne]
  intro z
  exact h (List.mem_map.mpr ⟨r, hr, z⟩)
end
def Does (P : Program) (w : World) (C : Cs) (H : Hp) (S : SesS) (c : Rb19.Call) (Q : VK) : Prop := ∀ (H' : Hp) (S' : SesS) (a : Int), Rb19.change (keptOf S) c = some (a, keptOf S') → Evo P w C H H' S S' → Q (.int a) H'
def spBegin (P : Program) (w : World) (C : Cs) : Sp := fun vs H Q _ => ∃ S : SesS, vs = [.ref S.a] ∧ At P w C H S ∧ Does P w C H S .begin_ Q
def spPut (P : Program) (w : World) (C : Cs) (K : PySem.W.Frag) : Sp := fun vs H Q _ => ∃ (S : SesS) (al a : Addr) (g : V) (n : B) (xs : List V), vs = [.ref S.a, .ref al, .ref a, g] ∧ At P w C H S ∧ SqL K H a (bs n) ∧ n.length ≤ 256 ∧ H al = some (.lst xs) ∧ xs.length ≤ 16 ∧
  (n ∉ S.packs.map PackS.name → ∀ H', Same H H' → Q (.int (-1)) H') ∧
  ∀ (p : Nat) k, S.packs[p]? = some k → k.name = n → (xs.length = 16 → ∀ H', Same H H' → Q (.int (-3)) H') ∧
    (xs.length < 16 → ∀ (H' : Hp) (xa vd dx : Addr), Fix (fun b => b = al) H H' → H vd = none → H' xa = some (.ins C.A dx (fAsk (.int (p : Int)) g (.ref vd))) → H' vd = some (.dK []) → H' al = some (.lst (xs ++ [.ref xa])) → Q (.int 0) H')
section
variable {P : Program} {w : World} {K : PySem.W.Frag} {mg : Str → Option Value} {base : Heap} {f : Addr} {fd : FuncData} {C : Cs}
theorem scBegin : FnScope ["self"] ["self"] (defScope mSession_begin) := ⟨rfl, rfl, rfl, by decide +kernel, rfl, by decide +kernel, by decide +kernel⟩
theorem scPut : FnScope ["self", "asks", "on", "groups", "number"] ["self", "asks", "on", "groups"] (defScope mSession_put_ask) := ⟨rfl, rfl, rfl, by decide +kernel, rfl, by decide +kernel, by decide +kernel⟩
theorem ok_put (D : MDef K C.S "put_ask" "Session.put_ask" mSession_put_ask ["self", "asks", "on", "groups"] f fd) (S : SDefs K mg C) : FnOk P w K mg base CX0 3 f fd ["self", "asks", "on", "groups"] (spPut P w C K) := by
  have T := S.D.V.T
  obtain ⟨f1, fd1, D1⟩ := S.sN
  obtain ⟨f2, fd2, D2⟩ := S.iA
  obtain ⟨t16, M⟩ := S.mA
  have G1 : FnOk P w K mg base CX0 2 f1 fd1 ["self", "name"] (spNum P w C K) := (ok_num D1 S).mono (by decide)
  have G2 : FnOk P w K mg base CX0 1 f2 fd2 ["self", "on", "groups"] (spIA C) := ok_initA D2 S
  refine D.F.ok scPut (fun vs H Q E h => ?_) (fun cdv A outer s H vs Q E hr h => ?_)
  · obtain ⟨Z, al, a, g, n, xs, rfl, _⟩ := h
    rfl
  · obtain ⟨Z, al, a, g, n, xs, rfl, hA, hn, hl, hal, h16, k1, k2⟩ := h
    refine ⟨_, pss_cons (ps_set (i := 4) scPut.nd rfl (Or.inl rfl) (pe_meth (pv 0) S.cS.cl D1.me G1 hr D1.b .nil pass0 (pa_cons (pv 2) pa_nil)))
      (pss_cons (ps_if (pt_cmp (pc_isN (pv 4))) (pss_one (ps_ret (pe_un un_neg pe_int))) pss_nil)
      (pss_cons (ps_if (pt_cmpR op_eq (pe_callB call_len_seq rfl T.len PySem.boot_len (pa_cons (pv 1) pa_nil)) (pe_glob (v := .int 16) rfl M ⟨t16, rfl⟩) (nomark _)) (pss_one (ps_ret (pe_un un_neg pe_int))) pss_nil)
      (pss_cons (ps_expr (pe_bm PySem.F.plainAttrs_list PySem.F.slot_list_append PySem.F.type_list_append mt_append (pv 1) (pa_cons (pe_make D2.mak G2 hr rfl S.cA.at_ D2.b .nil pass0 (pa_cons (pv 4) (pa_cons (pv 3) pa_nil))) pa_nil)))
      (pss_one (ps_ret pe_int))))), ?_⟩
    obtain ⟨dx, h1⟩ := hA.ins
    refine ⟨_, rfl, Z.a, dx, _, rfl, h1, fSes_no _ _ _ (by decide +kernel) (by decide +kernel) (by decide +kernel), _, rfl, Z, a, n, rfl, hA, hn, hl, fun p kk hk hkn H1 s1 => ?_, fun hno H1 s1 => ?_⟩
    · obtain ⟨k3, k4⟩ := k2 p kk hk hkn
      refine ⟨_, rfl, _, rfl, ?_⟩
      have hal1 := s1 _ _ hal
      refine ⟨_, rfl, al, _, rfl, .inl (SqL.of hal1), rfl, _, rfl, ?_⟩
      show if decide (V.int ((xs.length : Nat) : Int) = V.int ((16 : Nat) : Int)) = true then _ else _
      rw [dec_nn]
      by_cases h16' : xs.length = 16
      · rw [if_pos (decide_eq_true h16')]
        exact ⟨_, rfl, k3 h16' H1 s1⟩
      · rw [if_neg (by rw [decide_eq_true_eq]; exact h16')]
        refine ⟨_, rfl, .inl ⟨rfl, _, SqL.of hal1⟩, _, rfl, _, rfl, ?_⟩
        intro xa da nxa nda ndx
        refine ⟨xa, da, _, _, rfl, upd_same, fun H2 vd kp nvd g1 g2 => ⟨rfl, ?_⟩⟩
        have s2 : Same H1 H2 := Same.made nxa nda kp
        have nvd0 : H1 vd = none := by
          have n1 : vd ≠ xa := fun z => by rw [z, upd_same] at nvd; cases nvd
          have n2 : vd ≠ da := fun z => by rw [z, upd_ne ndx, upd_same] at nvd; cases nvd
          rw [upd_ne n1, upd_ne n2] at nvd
          exact nvd
        have hal2 := s2 _ _ hal1
        refine ⟨al, xs, _, rfl, rfl, hal2, small1000 (by omega), ?_⟩
        have n3 : xa ≠ al := fun z => by rw [z, hal2] at g1; cases g1
        have n4 : vd ≠ al := fun z => by rw [z, hal2] at g2; cases g2
        exact k4 (by omega) _ xa vd da (Fix.upd (Same.fix (s1.trans s2) _) (.inl rfl)) (s1.free nvd0) (by rw [upd_ne n3]; exact g1) (by rw [upd_ne n4]; exact g2) upd_same
    · exact ⟨_, rfl, _, rfl, _, rfl, k1 hno H1 s1⟩
end
end VP
namespace VP
open PySem PySem.Spec PyProof.Rows L2 VO VM
open Rb19 (B Word Version Span)
section
variable {prog : Program} {w : World}
theorem meets_clearT {d : Addr} : MeetsIn prog w (Builtin.«dict.clear» ⟨[.ref d], []⟩) (fun _ R s => ∃ o es ep, s.heap.get? d = some o ∧ o.ExactDict ∧ o.data = .dict es ep ∧ es.size ≤ sizeLine ∧
      ∀ (h' : Heap) (o' : Obj), h'.get? d = some o' → o'.ExactDict → o'.data = .dict #[] (ep + 1) → Heap.SameBut d s.heap h' → R (.ok (.ret .none)) { s with heap := h' }) :=
  .of_wp fun A R s ⟨o, es, ep, ho, hc, hdat, hes, h⟩ => by
    have tp : s.TypeIs (.ref d) "dict" := ⟨o, ho, hc.1⟩
    unfold Builtin.«dict.clear» Builtin.Dict.noArgs
    refine wpAny_bind (wpAny_bind (wpAny_notOrdered_dict tp ?_))
    refine (wpAny_pure ?_ : wpAny _ _ (pure d) _ _ s)
    refine wpAny_bind (wpAny_dictEntries ho hdat (wpAny_bind ?_))
    unfold bearsInstanceDictMark
    refine wpAny_bind (wpAny_load ho (wpAny_pure (wpAny_bind (wpAny_updateDictKeys (hz := hes) ho hdat ?_))))
    have g1 := Heap.get?_update_self (Obj.mapDictKeys fun _ => (#[] : Array DictEntry)) ho (Obj.isFreed_of_dict (Obj.data_mapDictKeys hdat _))
    have fin : R (.ok (.ret .none)) { s with heap := s.heap.update d (Obj.mapDictKeys fun _ => #[]) } := h _ _ g1 (hc.mapDictKeys _) (Obj.data_mapDictKeys hdat _) (Heap.SameBut.update ..)
    split
    · exact wpAny_bind (wpAny_letGo (wpAny_pure ⟨.none, rfl, fin⟩))
    · exact wpAny_bind (wpAny_pure (wpAny_pure ⟨.none, rfl, fin⟩))
end
def rClearT : V → List V → Hp → VK → Prop := fun x vs H Q => ∃ d kvs, x = .ref d ∧ vs = [] ∧ H d = some (.dT kvs) ∧ Q .non (upd H d (.dT []))
theorem mt_clearT {X : Cx} : MtR X "dict.clear" rClearT := by
  intro pins s σ H x xs v us Q I rx rv h
  obtain ⟨d, kvs, rfl, rfl, hd, q⟩ := h
  cases rx
  cases rv
  obtain ⟨z, y, ys, r, o, es, ep, g1, g2, g3, g4, g5⟩ := (show ObjOk X.prog X.w H s.heap d (.dT kvs) from I.hok d _ hd)
  have hes : es.size ≤ sizeLine := by
    have e1 := congrArg List.length g4
    rw [Array.length_toList, List.length_map, ← Paired.length r] at e1
    omega
  refine call_meetsIn PySem.F.slot_dict_clear ⟨o, g1, g2.1⟩ PySem.F.entry_dict_clear (PySem.F.args_dict_clear_1 _) meets_clearT ⟨o, es, ep, g1, g2, g3, hes, fun h' o' a1 a2 a3 hs => ?_⟩
  exact ⟨.non, _, d_write (t' := s.toks) I (by rw [hd]; exact True.intro) hs ⟨o', a1⟩ (show ObjOk X.prog X.w _ h' d (.dT []) from ⟨Nat.zero_le _, y, [], .nil, o', #[], ep + 1, a1, a2, a3, rfl, List.nodup_nil⟩), rfl, q⟩
def spWant (P : Program) (w : World) (C : Cs) (K : PySem.W.Frag) : Sp := fun vs H Q _ => ∃ (S : SesS) (a b : Addr) (n c : B), vs = [.ref S.a, .ref a, .ref b] ∧ At P w C H S ∧ SqL K H a (bs n) ∧ n.length ≤ 256 ∧ SqL K H b (bs c) ∧ c.length ≤ 256 ∧ Does P w C H S (.want n c) Q
def spAsk (P : Program) (w : World) (C : Cs) (K : PySem.W.Frag) : Sp := fun vs H Q _ => ∃ (S : SesS) (a v o b : Addr) (n u m c : B), vs = [.ref S.a, .ref a, .ref v, .ref o, .ref b] ∧ At P w C H S ∧ SqL K H a (bs n) ∧ n.length ≤ 256 ∧ SqL K H v (bs u) ∧ u.length ≤ 256 ∧
  SqL K H o (bs m) ∧ m.length ≤ 256 ∧ SqL K H b (bs c) ∧ c.length ≤ 256 ∧ Does P w C H S (.ask n u m c) Q
section
variable {P : Program} {w : World} {K : PySem.W.Frag} {mg : Str → Option Value} {base : Heap} {f : Addr} {fd : FuncData} {C : Cs}
theorem ok_begin (D : MDef K C.S "begin" "Session.begin" mSession_begin ["self"] f fd) (S : SDefs K mg C) : FnOk P w K mg base CX0 1 f fd ["self"] (spBegin P w C) := by
  refine D.F.ok scBegin (fun vs H Q E h => ?_) (fun cdv A outer s H vs Q E hr h => ?_)
  · obtain ⟨Z, rfl, _⟩ := h
    rfl
  · obtain ⟨Z, rfl, hA, k⟩ := h
    refine ⟨_, pss_cons (ps_expr (pe_bm0 PySem.F.plainAttrs_list PySem.F.slot_list_clear PySem.F.type_list_clear mt_clear (pe_fld (pv 0) rfl)))
      (pss_cons (ps_expr (pe_bm0 PySem.F.plainAttrs_dict PySem.F.slot_dict_clear PySem.F.type_dict_clear mt_clearT (pe_fld (pv 0) rfl)))
      (pss_cons (ps_expr (pe_bm0 PySem.F.plainAttrs_list PySem.F.slot_list_clear PySem.F.type_list_clear mt_clear (pe_fld (pv 0) rfl)))
      (pss_one (ps_ret pe_int)))), ?_⟩
    obtain ⟨dx, h1⟩ := hA.ins
    have nap : Z.a ≠ Z.pl := fun z => by have := hA.pl; rw [← z, h1] at this; cases this
    have nan : Z.a ≠ Z.nd := fun z => by have := hA.nd; rw [← z, h1] at this; cases this
    have npn : Z.pl ≠ Z.nd := fun z => by have := hA.nd; rw [← z, hA.pl] at this; cases this
    have nwn : Z.wl ≠ Z.nd := fun z => by have := hA.nd; rw [← z, hA.wl] at this; cases this
    have npw : Z.pl ≠ Z.wl := fun z => by
      have := hA.inj .pl .wl Z.pl rfl (by rw [z]; rfl)
      cases this
    refine ⟨_, rfl, Z.a, C.S, dx, _, _, rfl, h1, S.cS.cl, S.nPk, fSes_packages _ _ _, .inl ⟨rfl, _, SqL.of hA.pl⟩, Z.pl, _, rfl, rfl, hA.pl, ?_⟩
    have g1 : upd H Z.pl (.lst []) Z.nd = _ := (upd_ne npn.symm).trans hA.nd
    have i1 : upd H Z.pl (.lst []) Z.a = _ := (upd_ne nap).trans h1
    refine ⟨_, rfl, Z.a, C.S, dx, _, _, rfl, i1, S.cS.cl, S.nSn, fSes_numbers _ _ _, .inr (.inr (.inl ⟨rfl, .inr ⟨_, g1⟩⟩)), Z.nd, _, rfl, rfl, g1, ?_⟩
    have g2 : upd (upd H Z.pl (.lst [])) Z.nd (.dT []) Z.wl = _ := (upd_ne nwn).trans ((upd_ne npw.symm).trans hA.wl)
    have i2 : upd (upd H Z.pl (.lst [])) Z.nd (.dT []) Z.a = _ := (upd_ne nan).trans i1
    refine ⟨_, rfl, Z.a, C.S, dx, _, _, rfl, i2, S.cS.cl, S.nWt, fSes_wants _ _ _, .inl ⟨rfl, _, SqL.of g2⟩, Z.wl, _, rfl, rfl, g2, ?_⟩
    refine k _ (clearS Z) 0 rfl (hA.clear (Fix.upd (Fix.upd (Fix.upd (Fix.refl _ _) (.inl (.inl rfl))) (.inl (.inr (.inl rfl)))) (.inl (.inr (.inr rfl)))) ?_ ?_ upd_same)
    · rw [upd_ne npw, upd_ne npn, upd_same]
    · rw [upd_ne nwn.symm, upd_same]
theorem ask_new {H H1 H' : Hp} {Z : SesS} {g : V} {gs : List (List Bd)} {cs : List (List Span)} {l : B} {xa vd dx al : Addr} {p : Nat} (hA : At P w C H Z) (hg : CndAt (New H) H1 g gs) (s1 : Same H H1) (hl : l.length ≤ 256) (eb : VM.condB l = some gs) (eh : ∀ v, Rb19.holds cs v = keepC v gs)
    (fx : Fix (fun b => b = al) H1 H') (hal : ∃ t, addr Z t = some al) (h1 : H' xa = some (.ins C.A dx (fAsk (.int (p : Int)) g (.ref vd)))) (h2 : H' vd = some (.dK [])) : AskAt C (fun b => ∀ t, addr Z t ≠ some b) H' (vers Z p) ⟨xa, vd, p, gs, cs⟩ := by
  obtain ⟨t, ht⟩ := hal
  obtain ⟨ys, gal⟩ := hA.addr_lst ht
  have gal1 := s1 _ _ gal
  refine ⟨⟨dx, g, h1, hg.keep2 (fun b xs e => fx _ _ e fun z => ?_) fun b vs nb e => ⟨fun t' z => ?_, fx _ _ e fun z => ?_⟩⟩, condB_len hl eb, eh, [], h2, List.nodup_nil, fun k v hm => (nomatch hm)⟩
  · rw [z, gal1] at e; cases e
  · obtain ⟨zs, q⟩ := hA.addr_lst z
    rw [show H b = none from nb] at q
    cases q
  · have nb : H b = none := nb
    rw [z, gal] at nb
    cases nb
theorem scWant : FnScope ["self", "on", "condition", "groups"] ["self", "on", "condition"] (defScope mSession_want) := ⟨rfl, rfl, rfl, by decide +kernel, rfl, by decide +kernel, by decide +kernel⟩
theorem ok_want (D : MDef K C.S "want" "Session.want" mSession_want ["self", "on", "condition"] f fd) (S : SDefs K mg C) : FnOk P w K mg base CX0 9 f fd ["self", "on", "condition"] (spWant P w C K) := by
  obtain ⟨f1, fd1, D1⟩ := S.rc
  obtain ⟨f2, fd2, D2⟩ := S.sP
  have G1 : FnOk P w K mg base CX0 8 f1 fd1 ["text"] (spCnd K) := ok_cond D1 S.D
  have G2 : FnOk P w K mg base CX0 8 f2 fd2 ["self", "asks", "on", "groups"] (spPut P w C K) := (ok_put D2 S).mono (by decide)
  refine D.F.ok scWant (fun vs H Q E h => ?_) (fun cdv A outer s H vs Q E hr h => ?_)
  · obtain ⟨Z, a, b, n, c, rfl, _⟩ := h
    rfl
  · obtain ⟨Z, a, b, n, c, rfl, hA, hn, ln, hc, lc, k⟩ := h
    refine ⟨_, pss_cons (ps_set (i := 3) scWant.nd rfl (Or.inl rfl) (pe_call G1 hr rfl D1.at_ D1.F.kp D1.b .nil pass0 (pa_cons (pv 2) pa_nil)))
      (pss_cons (ps_if (pt_cmp (pc_isN (pv 3))) (pss_one (ps_ret (pe_un un_neg pe_int))) pss_nil)
      (pss_one (ps_ret (pe_meth (pv 0) S.cS.cl D2.me G2 hr D2.b .nil pass0 (pa_cons (pe_fld (pv 0) rfl) (pa_cons (pv 1) (pa_cons (pv 3) pa_nil))))))), ?_⟩
    refine ⟨_, rfl, b, c, rfl, hc, lc, fun H1 v1 s1 h1 => ?_⟩
    have hA1 := hA.same s1
    refine ⟨_, rfl, _, rfl, ?_⟩
    rcases VM.cond_link c with ⟨ec, eb⟩ | ⟨cs, gs, ec, eb, eh⟩
    · rw [eb] at h1
      have h1 : v1 = .non := h1
      subst h1
      exact ⟨_, rfl, k H1 Z (-2) (by show some _ = _; rw [ec]) (Evo.same s1 hA)⟩
    · rw [eb] at h1
      have h1 : CndAt (New H) H1 v1 gs := h1
      have n1 : ¬ v1 = .non := fun z => by obtain ⟨p, vs, h0, _⟩ := h1; rw [z] at h0; cases h0
      rw [decide_eq_false n1]
      obtain ⟨dx, i1⟩ := hA1.ins
      have few := hA.few.2
      have fxs := fSes_no (.ref Z.pl) (.ref Z.nd) (.ref Z.wl) (m := "put_ask") (by decide +kernel) (by decide +kernel) (by decide +kernel)
      refine ⟨_, rfl, Z.a, dx, _, rfl, i1, fxs, _, rfl, Z.a, C.S, dx, _, _, rfl, i1, S.cS.cl, S.nWt, fSes_wants _ _ _, _, rfl, _, rfl, Z, Z.wl, a, v1, n, _, rfl, hA1, s1.seq hn, ln, hA1.wl, by rw [List.length_map]; exact few, fun hno H2 s2 => ?_, fun p kk hk hkn => ⟨fun h16 H2 s2 => ?_, fun h16 H2 xa vd da fx nvd e1 e2 e3 => ?_⟩⟩
      · exact k H2 Z (-1) (by show some _ = _; rw [ec]; show some _ = _; rw [find_no hno]) (Evo.same (s1.trans s2) hA)
      · rw [List.length_map] at h16
        refine k H2 Z (-3) ?_ (Evo.same (s1.trans s2) hA)
        show some _ = _
        rw [ec]
        show some _ = _
        rw [find_yes hA.names hk hkn]
        show some (if 16 ≤ (Z.wants.map AskS.spec).length then _ else _) = _
        rw [List.length_map, if_pos (by omega)]
      · rw [List.length_map] at h16
        have hask := ask_new hA h1 s1 lc eb eh fx ⟨.wl, rfl⟩ e1 e2
        have fxH : Fix (fun b => b = Z.wl) H H2 := (Same.fix s1 _).trans fx
        have ev := hA.putW (x := ⟨xa, vd, p, gs, cs⟩) h16 fxH (s1.free nvd) (List.getElem?_eq_some_iff.mp hk).1 e3 hask
        refine k H2 _ 0 ?_ ev
        rw [putW_kept]
        show some _ = _
        rw [ec]
        show some _ = _
        rw [find_yes hA.names hk hkn]
        show some (if 16 ≤ (Z.wants.map AskS.spec).length then _ else _) = _
        rw [List.length_map, if_neg (by omega)]
        rfl
end
end VP
namespace VP
open PySem PySem.Spec PyProof.Rows L2 VO VM
open Rb19 (B Word Version Span)
theorem verNo {H : Hp} {v : V} {u : Version} (h : VerAt H v u) : ¬ v = .non := fun z => by
  obtain ⟨a, e, vs, h0, _⟩ := h
  rw [z] at h0
  cases h0
theorem verRef {H : Hp} {v : V} {u : Version} (h : VerAt H v u) : ∃ b, v = .ref b := by
  obtain ⟨a, e, vs, h0, _⟩ := h
  exact ⟨a, h0⟩
def spAddS (P : Program) (w : World) (C : Cs) (K : PySem.W.Frag) : Sp := fun vs H Q _ => ∃ (S : SesS) (a v : Addr) (n u : B), vs = [.ref S.a, .ref a, .ref v] ∧ At P w C H S ∧ SqL K H a (bs n) ∧ n.length ≤ 256 ∧ SqL K H v (bs u) ∧ u.length ≤ 256 ∧ Does P w C H S (.add n u) Q
theorem addItem_last (k : Rb19.Kept) (n : B) (x : Rb19.Item) : Rb19.addItem { k with packages := k.packages ++ [(n, [])] } k.packages.length x = { k with packages := k.packages ++ [(n, [x])] } := by
  unfold Rb19.addItem
  show Rb19.Kept.mk _ _ = Rb19.Kept.mk _ _
  congr 1
  refine List.ext_getElem? fun q => ?_
  rw [List.getElem?_modify]
  by_cases hq : q < k.packages.length
  · rw [List.getElem?_append_left hq, List.getElem?_append_left hq]
    cases k.packages[q]? with
    | none => rfl
    | some y =>
      show some (if _ then _ else y) = some y
      rw [if_neg (by omega)]
  · rw [List.getElem?_append_right (by omega), List.getElem?_append_right (by omega)]
    by_cases hq2 : q = k.packages.length
    · subst hq2
      rw [Nat.sub_self]
      show some (if _ then _ else _) = some _
      rw [if_pos rfl]
      rfl
    · rw [List.getElem?_eq_none (by show 1 ≤ _; omega), List.getElem?_eq_none (by show 1 ≤ _; omega)]
      rfl
section
variable {P : Program} {w : World} {K : PySem.W.Frag} {mg : Str → Option Value} {base : Heap} {f : Addr} {fd : FuncData} {C : Cs}
theorem change_ask {k : Rb19.Kept} {n u m c : B} {v : Version} {cs : List (List Span)} (h1 : Rb19.version u = some v) (h2 : Rb19.conditions c = some cs) : Rb19.change k (.ask n u m c) = some (match Rb19.find k n, Rb19.find k m with
      | some p, some q => (match (Rb19.items k p).findIdx? (fun x => x.version == v) with
        | some i => if Rb19.ASKS ≤ (((Rb19.items k p)[i]?.map fun x => x.asks).getD []).length then (-3, k) else (0, Rb19.addAsk k p i ⟨q, cs⟩)
        | none => (-1, k))
      | _, _ => (-1, k)) := by
  show some _ = some _
  rw [h1, h2]
  rfl
theorem scAsk : FnScope ["self", "name", "version", "on", "condition", "read", "groups", "release"] ["self", "name", "version", "on", "condition"] (defScope mSession_ask) := ⟨rfl, rfl, rfl, by decide +kernel, rfl, by decide +kernel, by decide +kernel⟩
theorem ok_ask (D : MDef K C.S "ask" "Session.ask" mSession_ask ["self", "name", "version", "on", "condition"] f fd) (S : SDefs K mg C) : FnOk P w K mg base CX0 9 f fd ["self", "name", "version", "on", "condition"] (spAsk P w C K) := by
  obtain ⟨f0, fd0, D0⟩ := S.D.rv
  obtain ⟨f1, fd1, D1⟩ := S.rc
  obtain ⟨f2, fd2, D2⟩ := S.sP
  obtain ⟨f3, fd3, D3⟩ := S.sR
  have G0 : FnOk P w K mg base CX0 8 f0 fd0 ["text"] (spVer K) := (ok_readVersion D0 S.D.V).mono (by decide)
  have G1 : FnOk P w K mg base CX0 8 f1 fd1 ["text"] (spCnd K) := ok_cond D1 S.D
  have G2 : FnOk P w K mg base CX0 8 f2 fd2 ["self", "asks", "on", "groups"] (spPut P w C K) := (ok_put D2 S).mono (by decide)
  have G3 : FnOk P w K mg base CX0 8 f3 fd3 ["self", "name", "version"] (spRelOf P w C K) := (ok_relOf D3 S).mono (by decide)
  refine D.F.ok scAsk (fun vs H Q E h => ?_) (fun cdv A outer s H vs Q E hr h => ?_)
  · obtain ⟨Z, a, v, o, b, n, u, m, c, rfl, _⟩ := h
    rfl
  · obtain ⟨Z, a, v, o, b, n, u, m, c, rfl, hA, hn, ln, hv, lv, ho, lo, hc, lc, k⟩ := h
    refine ⟨_, pss_cons (ps_set (i := 5) scAsk.nd rfl (Or.inl rfl) (pe_call G0 hr rfl D0.at_ D0.F.kp D0.b .nil pass0 (pa_cons (pv 2) pa_nil)))
      (pss_cons (ps_set (i := 6) scAsk.nd rfl (Or.inl rfl) (pe_call G1 hr rfl D1.at_ D1.F.kp D1.b .nil pass0 (pa_cons (pv 4) pa_nil)))
      (pss_cons (ps_if (PW.pt (pw_or (pt_cmp (pc_isN (pv 5))) (pw_or1 (pt_cmp (pc_isN (pv 6)))))) (pss_one (ps_ret (pe_un un_neg pe_int))) pss_nil)
      (pss_cons (ps_set (i := 7) scAsk.nd rfl (Or.inl rfl) (pe_meth (pv 0) S.cS.cl D3.me G3 hr D3.b .nil pass0 (pa_cons (pv 1) (pa_cons (pv 5) pa_nil))))
      (pss_cons (ps_if (pt_cmp (pc_isN (pv 7))) (pss_one (ps_ret (pe_un un_neg pe_int))) pss_nil)
      (pss_one (ps_ret (pe_meth (pv 0) S.cS.cl D2.me G2 hr D2.b .nil pass0 (pa_cons (pe_fld (pv 7) rfl) (pa_cons (pv 3) (pa_cons (pv 6) pa_nil)))))))))), ?_⟩
    refine ⟨_, rfl, v, u, rfl, hv, lv, fun H0 v0 s0 h0 => ?_⟩
    refine ⟨_, rfl, b, c, rfl, s0.seq hc, lc, fun H1 v1 s1 h1 => ?_⟩
    have s01 := s0.trans s1
    have hA0 := hA.same s0
    have hA1 := hA.same s01
    refine ⟨_, rfl, _, rfl, ?_⟩
    cases ev : Rb19.version u with
    | none =>
      rw [ev] at h0
      have h0 : v0 = .non := h0
      subst h0
      exact ⟨_, rfl, k H1 Z (-2) (by show some _ = _; rw [ev]) (Evo.same s01 hA)⟩
    | some uv =>
    rw [ev] at h0
    have h0 : VerAt H0 v0 uv := h0
    have h01 : VerAt H1 v0 uv := VerAt.same s1 h0
    obtain ⟨vb, rfl⟩ := verRef h0
    rw [decide_eq_false (verNo h0)]
    refine ⟨_, rfl, _, rfl, ?_⟩
    rcases VM.cond_link c with ⟨ec, eb⟩ | ⟨cs, gs, ec, eb, eh⟩
    · rw [eb] at h1
      have h1 : v1 = .non := h1
      subst h1
      exact ⟨_, rfl, k H1 Z (-2) (by show some _ = _; rw [ev, ec]) (Evo.same s01 hA)⟩
    rw [eb] at h1
    have h1 : CndAt (New H0) H1 v1 gs := h1
    have n1 : ¬ v1 = .non := fun z => by obtain ⟨p, vs, h0, _⟩ := h1; rw [z] at h0; cases h0
    rw [decide_eq_false n1]
    have ech := change_ask (k := keptOf Z) (n := n) (m := m) ev ec
    obtain ⟨dx, i1⟩ := hA1.ins
    have fxs := fSes_no (.ref Z.pl) (.ref Z.nd) (.ref Z.wl) (m := "put_ask") (by decide +kernel) (by decide +kernel) (by decide +kernel)
    have fxr := fSes_no (.ref Z.pl) (.ref Z.nd) (.ref Z.wl) (m := "release_of") (by decide +kernel) (by decide +kernel) (by decide +kernel)
    refine ⟨_, rfl, Z.a, dx, _, rfl, i1, fxr, _, rfl, _, rfl, Z, a, n, vb, uv, rfl, hA1, s01.seq hn, ln, h01, fun p i kk r hk hkn hr0 hru H2 s2 => ?_, fun hno H2 s2 => ?_⟩
    · have s02 := s01.trans s2
      have hA2 := hA.same s02
      refine ⟨_, rfl, _, rfl, ?_⟩
      obtain ⟨dx2, i2⟩ := hA2.ins
      have hrel : relAt Z p i = some r := by unfold relAt; rw [hk]; exact hr0
      have hR := hA2.rels p i r hrel
      obtain ⟨dr, rb, r1, r2⟩ := hR.ins
      have hidx := ver_yes (hA.packs p kk hk).diff hr0 hru
      have hitems := items_at hk
      have hasks : (((Rb19.items (keptOf Z) p)[i]?.map fun x => x.asks).getD []).length = r.asks.length := by
        rw [hitems, List.getElem?_map, hr0]
        show (r.asks.map AskS.spec).length = _
        rw [List.length_map]
      rw [find_yes hA.names hk hkn] at ech
      refine ⟨_, rfl, Z.a, dx2, _, rfl, i2, fxs, _, rfl, r.a, C.R, dr, _, _, rfl, r1, S.cR.cl, S.nAs, fRel_asks _ _, _, rfl, _, rfl, Z, r.al, o, v1, m, _, rfl, hA2, s02.seq ho, lo, hR.lst, by rw [List.length_map]; exact hR.few, fun hno H3 s3 => ?_, fun q kq hq hqn => ⟨fun h16 H3 s3 => ?_, fun h16 H3 xa vd da fx nvd e1 e2 e3 => ?_⟩⟩
      · rw [find_no hno] at ech
        exact k H3 Z (-1) ech (Evo.same (s02.trans s3) hA)
      · rw [List.length_map] at h16
        rw [find_yes hA.names hq hqn] at ech
        simp only [hitems, hidx] at ech
        rw [hitems] at hasks
        rw [hasks, if_pos (by show 16 ≤ _; omega)] at ech
        exact k H3 Z (-3) ech (Evo.same (s02.trans s3) hA)
      · rw [List.length_map] at h16
        rw [find_yes hA.names hq hqn] at ech
        simp only [hitems, hidx] at ech
        rw [hitems] at hasks
        rw [hasks, if_neg (by show ¬ 16 ≤ _; omega)] at ech
        have h12 : CndAt (New H0) H2 v1 gs := CndAt.keep (fun _ z => z) (Same.tp s2) (fun _ _ _ e => s2 _ _ e) h1
        have aal : addr Z (.al p i) = some r.al := Option.map_eq_some_iff.mpr ⟨r, hrel, rfl⟩
        have hask := ask_new hA0 h12 (s1.trans s2) lc eb eh fx ⟨.al p i, aal⟩ e1 e2
        have fxH : Fix (fun b => b = r.al) H H3 := (Same.fix s02 _).trans fx
        have ev2 := hA.putA (x := ⟨xa, vd, q, gs, cs⟩) hrel (by omega) fxH (s02.free nvd) (List.getElem?_eq_some_iff.mp hq).1 e3 hask
        refine k H3 _ 0 ?_ ev2
        rw [putA_kept]
        exact ech
    · have s02 := s01.trans s2
      refine ⟨_, rfl, _, rfl, _, rfl, k H2 Z (-1) ?_ (Evo.same s02 hA)⟩
      rw [ech]
      rcases hno with hno | ⟨p, kk, hk, hkn, hnu⟩
      · rw [find_no hno]
      · rw [find_yes hA.names hk hkn]
        cases Rb19.find (keptOf Z) m with
        | none => rfl
        | some q =>
          simp only [items_at hk, ver_no hnu]
end
end VP
namespace VP
open PySem PySem.Spec PyProof.Rows L2 VO VM
open Rb19 (B Word Version Span)
section
variable {P : Program} {w : World} {K : PySem.W.Frag} {mg : Str → Option Value} {base : Heap} {f : Addr} {fd : FuncData} {C : Cs}
theorem change_add {k : Rb19.Kept} {n u : B} {v : Version} (h0 : Rb19.nameOk n = true) (h1 : Rb19.version u = some v) : Rb19.change k (.add n u) = some (match Rb19.find k n with
      | none => if Rb19.PACKAGES ≤ k.packages.length then (-3, k) else (0, { k with packages := k.packages ++ [(n, [⟨v, []⟩])] })
      | some p => if (Rb19.items k p).any (fun x => x.version == v) = true then (-1, k) else if Rb19.VERSIONS ≤ (Rb19.items k p).length then (-3, k) else ((Rb19.items k p).length, Rb19.addItem k p ⟨v, []⟩)) := by
  show some _ = some _
  rw [h0, h1]
  rfl
theorem change_addNo {k : Rb19.Kept} {n u : B} (h : Rb19.nameOk n = false ∨ Rb19.version u = none) : Rb19.change k (.add n u) = some (-2, k) := by
  show some _ = some _
  cases e : Rb19.nameOk n with
  | false => rfl
  | true =>
    rcases h with h | h
    · rw [e] at h; cases h
    · rw [h]
      rfl
theorem any_ver {kk : PackS} {u : Version} : (kk.rels.map RelS.spec).any (fun x => x.version == u) = decide (u ∈ kk.rels.map RelS.u) := by
  by_cases h : u ∈ kk.rels.map RelS.u
  · rw [decide_eq_true h, List.any_eq_true]
    obtain ⟨r, hr, rfl⟩ := List.mem_map.mp h
    exact ⟨r.spec, List.mem_map.mpr ⟨r, hr, rfl⟩, beq_self_eq_true _⟩
  · rw [decide_eq_false h, List.any_eq_false]
    intro x hx z
    obtain ⟨r, hr, rfl⟩ := List.mem_map.mp hx
    exact h (List.mem_map.mpr ⟨r, hr, eq_of_beq z⟩)
theorem scAddS : FnScope ["self", "name", "version", "read", "number"] ["self", "name", "version"] (defScope mSession_add) := ⟨rfl, rfl, rfl, by decide +kernel, rfl, by decide +kernel, by decide +kernel⟩
theorem ok_addS (D : MDef K C.S "add" "Session.add" mSession_add ["self", "name", "version"] f fd) (S : SDefs K mg C) (N : NDefs K mg) : FnOk P w K mg base CX0 6 f fd ["self", "name", "version"] (spAddS P w C K) := by
  have T := S.D.V.T
  obtain ⟨f0, fd0, D0⟩ := S.D.rv
  obtain ⟨f1, fd1, D1⟩ := N.nm
  obtain ⟨f2, fd2, D2⟩ := S.sN
  obtain ⟨f3, fd3, D3⟩ := S.pA
  obtain ⟨f4, fd4, D4⟩ := S.iP
  obtain ⟨t32, M⟩ := S.mP
  have G0 : FnOk P w K mg base CX0 5 f0 fd0 ["text"] (spVer K) := ok_readVersion D0 S.D.V
  have G1 : FnOk P w K mg base CX0 5 f1 fd1 ["text"] (spT K fun l => .bl (Rb19.nameOk l)) := (ok_name D1 S.D.V N S.mN).mono (by decide)
  have G2 : FnOk P w K mg base CX0 5 f2 fd2 ["self", "name"] (spNum P w C K) := (ok_num D2 S).mono (by decide)
  have G3 : FnOk P w K mg base CX0 5 f3 fd3 ["self", "version"] (spAddR P w C) := (ok_addR D3 S).mono (by decide)
  have G4 : FnOk P w K mg base CX0 4 f4 fd4 ["self"] (spIP P w C) := (ok_initP D4 S).mono (by decide)
  refine D.F.ok scAddS (fun vs H Q E h => ?_) (fun cdv A outer s H vs Q E hr h => ?_)
  · obtain ⟨Z, a, v, n, u, rfl, _⟩ := h
    rfl
  · obtain ⟨Z, a, v, n, u, rfl, hA, hn, ln, hv, lv, k⟩ := h
    have hu := hu_of hr
    refine ⟨_, pss_cons (ps_set (i := 3) scAddS.nd rfl (Or.inl rfl) (pe_call G0 hr rfl D0.at_ D0.F.kp D0.b .nil pass0 (pa_cons (pv 2) pa_nil)))
      (pss_cons (ps_if (PW.pt (pw_or (pt_cmp (pc_isN (pv 3))) (pw_or1 (pt_not (pt_val (pe_call G1 hr rfl D1.at_ D1.F.kp D1.b .nil pass0 (pa_cons (pv 1) pa_nil))))))) (pss_one (ps_ret (pe_un un_neg pe_int))) pss_nil)
      (pss_cons (ps_set (i := 4) scAddS.nd rfl (Or.inl rfl) (pe_meth (pv 0) S.cS.cl D2.me G2 hr D2.b .nil pass0 (pa_cons (pv 1) pa_nil)))
      (pss_cons (ps_if (pt_cmp (pc_notN (pv 4))) (pss_one (ps_ret (pe_meth (pe_ix ix_list (pe_fld (pv 0) rfl) (pv 4) (fun _ _ => rfl)) S.cP.cl D3.me G3 hr D3.b .nil pass0 (pa_cons (pv 3) pa_nil)))) pss_nil)
      (pss_cons (ps_if (pt_cmpR op_eq (pe_callB call_len_seq rfl T.len PySem.boot_len (pa_cons (pe_fld (pv 0) rfl) pa_nil)) (pe_glob (v := .int 32) rfl M ⟨t32, rfl⟩) (nomark _)) (pss_one (ps_ret (pe_un un_neg pe_int))) pss_nil)
      (pss_cons (ps_dput hu (pe_fld (pv 0) rfl) (pe_callTy call_tuple_of rfl T.tuple bt_tuple (pa_cons (pv 1) pa_nil)) (pe_callB call_len_seq rfl T.len PySem.boot_len (pa_cons (pe_fld (pv 0) rfl) pa_nil)) rfl)
      (pss_cons (ps_expr (pe_bm PySem.F.plainAttrs_list PySem.F.slot_list_append PySem.F.type_list_append mt_append (pe_fld (pv 0) rfl) (pa_cons (pe_make0 D4.mak G4 hr rfl S.cP.at_ D4.b .nil pass0) pa_nil)))
      (pss_one (ps_ret (pe_meth (pe_ix ix_list (pe_fld (pv 0) rfl) (pe_un un_neg pe_int) (fun _ _ => rfl)) S.cP.cl D3.me G3 hr D3.b .nil pass0 (pa_cons (pv 3) pa_nil)))))))))), ?_⟩
    refine ⟨_, rfl, v, u, rfl, hv, lv, fun H0 v0 s0 h0 => ?_⟩
    refine ⟨_, rfl, _, rfl, ?_⟩
    cases ev : Rb19.version u with
    | none =>
      rw [ev] at h0
      have h0 : v0 = .non := h0
      subst h0
      exact ⟨_, rfl, k H0 Z (-2) (change_addNo (.inr ev)) (Evo.same s0 hA)⟩
    | some uv =>
    rw [ev] at h0
    have h0 : VerAt H0 v0 uv := h0
    obtain ⟨vb, rfl⟩ := verRef h0
    rw [decide_eq_false (verNo h0)]
    refine ⟨_, rfl, a, n, rfl, s0.seq hn, ln, fun H1 s1 => ⟨_, rfl, ?_⟩⟩
    have s01 := s0.trans s1
    have hA1 := hA.same s01
    cases eN : Rb19.nameOk n with
    | false => exact ⟨_, rfl, k H1 Z (-2) (change_addNo (.inl eN)) (Evo.same s01 hA)⟩
    | true =>
    have ech := change_add (k := keptOf Z) eN ev
    obtain ⟨dx, i1⟩ := hA1.ins
    have fxn := fSes_no (.ref Z.pl) (.ref Z.nd) (.ref Z.wl) (m := "number_of") (by decide +kernel) (by decide +kernel) (by decide +kernel)
    refine ⟨_, rfl, Z.a, dx, _, rfl, i1, fxn, _, rfl, Z, a, n, rfl, hA1, s01.seq hn, ln, fun p kk hk hkn H2 s2 => ?_, fun hno H2 s2 => ?_⟩
    ·
      have s02 := s01.trans s2
      have hA2 := hA.same s02
      obtain ⟨dx2, i2⟩ := hA2.ins
      have hP := hA2.packs p kk hk
      obtain ⟨dp, p1⟩ := hP.ins
      have gp : (Z.packs.map fun k => V.ref k.a)[p]? = some (.ref kk.a) := by rw [List.getElem?_map, hk]; rfl
      rw [find_yes hA.names hk hkn] at ech
      simp only [items_at hk, any_ver, List.length_map] at ech
      refine ⟨_, rfl, _, rfl, ?_⟩
      refine ⟨_, rfl, Z.a, C.S, dx2, _, _, rfl, i2, S.cS.cl, S.nPk, fSes_packages _ _ _, _, rfl, Z.pl, _, _, _, rfl, rfl, SqL.of hA2.pl, atI_nat gp, kk.a, dp, _, rfl, p1, fPack_no _ _ (by decide +kernel) (by decide +kernel), _, rfl,
        Z, p, kk, vb, uv, rfl, hA2, hk, VerAt.same (s1.trans s2) h0, fun hin => ?_, fun hnew h32 => ?_, fun hnew h32 H3 r hru hra ev3 => ?_⟩
      · rw [if_pos (decide_eq_true hin)] at ech
        exact k H2 Z (-1) ech (Evo.same s02 hA)
      · rw [if_neg (by rw [decide_eq_true_eq]; exact hnew), if_pos (by show 32 ≤ _; omega)] at ech
        exact k H2 Z (-3) ech (Evo.same s02 hA)
      · rw [if_neg (by rw [decide_eq_true_eq]; exact hnew), if_neg (by show ¬ 32 ≤ _; omega)] at ech
        refine k H3 _ _ ?_ ((Evo.same s02 hA).trans ev3)
        rw [putR_kept, ech]
        have er : r.spec = ⟨uv, []⟩ := by
          unfold RelS.spec
          rw [hru, hra]
          rfl
        rw [er]
    ·
      have s02 := s01.trans s2
      have hA2 := hA.same s02
      obtain ⟨dx2, i2⟩ := hA2.ins
      have few := hA.few.1
      rw [find_no hno] at ech
      have epl : (keptOf Z).packages.length = Z.packs.length := by unfold keptOf; simp
      refine ⟨_, rfl, _, rfl, ?_⟩
      refine ⟨_, rfl, Z.a, C.S, dx2, _, _, rfl, i2, S.cS.cl, S.nPk, fSes_packages _ _ _, Z.pl, _, rfl, .inl (SqL.of hA2.pl), rfl, _, rfl, ?_⟩
      rw [List.length_map]
      show if decide (V.int ((Z.packs.length : Nat) : Int) = V.int ((32 : Nat) : Int)) = true then _ else _
      rw [dec_nn]
      by_cases h32 : Z.packs.length = 32
      · rw [if_pos (decide_eq_true h32)]
        simp only [epl] at ech
        rw [if_pos (by show 32 ≤ _; omega)] at ech
        exact ⟨_, rfl, k H2 Z (-3) ech (Evo.same s02 hA)⟩
      · rw [if_neg (by rw [decide_eq_true_eq]; exact h32)]
        simp only [epl] at ech
        rw [if_neg (by show ¬ 32 ≤ _; omega)] at ech
        refine ⟨_, rfl, Z.a, C.S, dx2, _, _, rfl, i2, S.cS.cl, S.nPk, fSes_packages _ _ _, Z.pl, _, rfl, .inl (SqL.of hA2.pl), _, rfl, Z.a, C.S, dx2, _, _, rfl, i2, S.cS.cl, S.nSn, fSes_numbers _ _ _, _, rfl, a, _, rfl, .inl ⟨s02.seq hn, fun t ht => ?_⟩⟩
        rw [List.length_map]
        have s3 : Same H2 (upd H2 t (.tup (bs n))) := same_upd ht
        have hA3 := hA2.same s3
        obtain ⟨dx3, i3⟩ := hA3.ins
        have vn : valV (namesK (Z.packs.map PackS.name)) (nameK n) = none := by
          cases e : valV (namesK (Z.packs.map PackS.name)) (nameK n) with
          | none => rfl
          | some z =>
            obtain ⟨p, h2, _⟩ := names_some e
            exact absurd (List.mem_of_getElem? h2) hno
        have ek : putK (namesK (Z.packs.map PackS.name)) (nameK n) (V.int ((Z.packs.length : Nat) : Int)) = namesK (Z.packs.map PackS.name) ++ [(nameK n, V.int ((Z.packs.length : Nat) : Int))] := by
          unfold putK
          rw [valV_any, vn]
          rfl
        have lk : (namesK (Z.packs.map PackS.name)).length < sizeLine := by
          unfold namesK
          rw [List.length_map, List.length_zipIdx, List.length_map]
          exact small1000 (by omega)
        refine ⟨Z.nd, _, rfl, DPut.t (k := nameK n) hA3.nd (by rw [nameK_kV]; exact upd_same) lk, ?_⟩
        rw [ek]
        have npn : Z.pl ≠ Z.nd := fun z => by have := hA3.nd; rw [← z, hA3.pl] at this; cases this
        have nan : Z.a ≠ Z.nd := fun z => by have := hA3.nd; rw [← z, i3] at this; cases this
        have i4 : upd (upd H2 t (.tup (bs n))) Z.nd (.dT (namesK (Z.packs.map PackS.name) ++ [(nameK n, V.int ((Z.packs.length : Nat) : Int))])) Z.a = _ := (upd_ne nan).trans i3
        have p4 : upd (upd H2 t (.tup (bs n))) Z.nd (.dT (namesK (Z.packs.map PackS.name) ++ [(nameK n, V.int ((Z.packs.length : Nat) : Int))])) Z.pl = _ := (upd_ne npn).trans hA3.pl
        refine ⟨_, rfl, Z.a, C.S, dx3, _, _, rfl, i4, S.cS.cl, S.nPk, fSes_packages _ _ _, .inl ⟨rfl, _, SqL.of p4⟩, ?_⟩
        intro ka dk nka ndk ndx
        refine ⟨ka, dk, rfl, upd_same, fun H5 l nd kp nl nn g1 g2 g3 => ⟨rfl, ?_⟩⟩
        have s5 : Same (upd (upd H2 t (.tup (bs n))) Z.nd (.dT (namesK (Z.packs.map PackS.name) ++ [(nameK n, V.int ((Z.packs.length : Nat) : Int))]))) H5 := Same.made nka ndk kp
        have back : ∀ z, upd (upd (upd (upd H2 t (.tup (bs n))) Z.nd (.dT (namesK (Z.packs.map PackS.name) ++ [(nameK n, V.int ((Z.packs.length : Nat) : Int))]))) dk (.own ka)) ka (.ins C.P dk []) z = none → H z = none := fun z hz => by
          have n1 : z ≠ ka := fun y => by rw [y, upd_same] at hz; cases hz
          have n2 : z ≠ dk := fun y => by rw [y, upd_ne ndx, upd_same] at hz; cases hz
          rw [upd_ne n1, upd_ne n2] at hz
          have n3 : z ≠ Z.nd := fun y => by rw [y, upd_same] at hz; cases hz
          have n4 : z ≠ t := fun y => by rw [y, upd_ne (fun q => by rw [q, hA2.nd] at ht; cases ht), upd_same] at hz; cases hz
          rw [upd_ne n3, upd_ne n4] at hz
          exact s02.free hz
        have p5 := s5 _ _ p4
        have i5 := s5 _ _ i4
        have d5 : H5 Z.nd = _ := s5 _ _ upd_same
        refine ⟨Z.pl, _, _, rfl, rfl, p5, by rw [List.length_map]; exact small1000 (by omega), ?_⟩
        have nap : Z.a ≠ Z.pl := fun z => by rw [z, p5] at i5; cases i5
        have nkp : ka ≠ Z.pl := fun z => by rw [z, p5] at g1; cases g1
        have nlp : l ≠ Z.pl := fun z => by have := hA.pl; rw [← z, back l nl] at this; cases this
        have nnp : nd ≠ Z.pl := fun z => by have := hA.pl; rw [← z, back nd nn] at this; cases this
        have fxH : Fix (fun b => b = Z.pl ∨ b = Z.nd) H (upd H5 Z.pl (.lst ((Z.packs.map fun k => V.ref k.a) ++ [.ref ka]))) := by
          refine Fix.upd (fun b o e hz => s5 _ _ ?_) (.inl (.inl rfl))
          rw [upd_ne fun y => hz (.inr y)]
          exact s3 _ _ (s02 _ _ e)
        have ev5 := hA.putP (k := ⟨ka, l, nd, n, []⟩) rfl hno (by omega) fxH (back l nl) (back nd nn) upd_same (by rw [upd_ne npn.symm]; exact d5) ⟨dk, by rw [upd_ne nkp]; exact g1⟩ (by rw [upd_ne nlp]; exact g2) (by rw [upd_ne nnp]; exact g3)
        have hA5 := ev5.at_
        have hk5 : (putP Z ⟨ka, l, nd, n, []⟩).packs[Z.packs.length]? = some ⟨ka, l, nd, n, []⟩ := by
          show (Z.packs ++ [_])[Z.packs.length]? = _
          rw [List.getElem?_append_right (Nat.le_refl _), Nat.sub_self]
          rfl
        have tp : ∀ b xs, H0 b = some (.tup xs) → upd H5 Z.pl (.lst ((Z.packs.map fun k => V.ref k.a) ++ [.ref ka])) b = some (.tup xs) := fun b xs e => by
          have e2 := (s1.trans s2) _ _ e
          have e3 := s3 _ _ e2
          have n1 : b ≠ Z.nd := fun y => by have := hA3.nd; rw [← y, e3] at this; cases this
          have e4 : H5 b = some (.tup xs) := s5 _ _ (by rw [upd_ne n1]; exact e3)
          rw [upd_ne fun y => by rw [y, p5] at e4; cases e4]
          exact e4
        have i6 : upd H5 Z.pl (.lst ((Z.packs.map fun k => V.ref k.a) ++ [.ref ka])) Z.a = _ := (upd_ne nap).trans i5
        have g6 : upd H5 Z.pl (.lst ((Z.packs.map fun k => V.ref k.a) ++ [.ref ka])) ka = _ := (upd_ne nkp).trans g1
        refine ⟨_, rfl, Z.a, C.S, dx3, _, _, rfl, i6, S.cS.cl, S.nPk, fSes_packages _ _ _, _, rfl, Z.pl, _, _, _, rfl, rfl, SqL.of upd_same, atI_last _ _, ka, dk, _, rfl, g6, fPack_no _ _ (by decide +kernel) (by decide +kernel), _, rfl,
          putP Z ⟨ka, l, nd, n, []⟩, Z.packs.length, ⟨ka, l, nd, n, []⟩, vb, uv, rfl, hA5, hk5, VerAt.tups tp h0, fun hin => ?_, fun _ h32' => ?_, fun _ _ H7 r hru hra ev7 => ?_⟩
        · cases hin
        · cases h32'
        · refine k H7 _ _ ?_ (ev5.trans ev7)
          rw [putR_kept, putP_kept, ech]
          have er : r.spec = ⟨uv, []⟩ := by
            unfold RelS.spec
            rw [hru, hra]
            rfl
          rw [er, ← epl]
          show some _ = some _
          rw [show PackS.spec ⟨ka, l, nd, n, []⟩ = (n, []) from rfl, addItem_last]
          rfl
end
end VP
namespace VP
open PySem PySem.Spec PyProof.Rows L2 VO VM
open Rb19 (B Word Version Span)
def choA (k : Rb19.Kept) : List Int := match Rb19Neutral.best k with
  | some d => ((d.filter Option.isSome).length : Int) :: Rb19.told d
  | none => [-1]
def spChoose (P : Program) (w : World) (C : Cs) (PT : Addr) : Sp := fun vs H Q _ => ∃ S : SesS, vs = [.ref S.a] ∧ At P w C H S ∧ Tab H S PT ∧ Rb19Neutral.many (keptOf S) ≤ 400 ∧
  ∀ (H' : Hp) (p : Addr), JT PT H H' S → At P w C H' S → H p = none → H' p = some (.lst ((choA (keptOf S)).map V.int)) → Q (.ref p) H'
theorem optV_int (c : Rb19.Choice) : c.map optV = (c.map fun x => match x with
  | some i => ((i : Nat) : Int)
  | none => -1).map V.int := by
  rw [List.map_map]
  refine List.map_congr_left fun o _ => ?_
  cases o <;> rfl
theorem rep_flat {α : Type} (x : α) : ∀ n, (List.replicate n [x]).flatten = List.replicate n x
  | 0 => rfl
  | n + 1 => by
    rw [List.replicate_succ, List.flatten_cons, rep_flat x n]
    rfl
section
variable {P : Program} {w : World} {K : PySem.W.Frag} {mg : Str → Option Value} {base : Heap} {f : Addr} {fd : FuncData} {C : Cs} {PT : Addr}
theorem JT.same {H H1 H2 : Hp} {S : SesS} (j : JT PT H H1 S) (s : Same H1 H2) : JT PT H H2 S := ⟨j.fix.trans (Same.fix s _), j.tab.same s⟩
theorem JT.free {H H1 : Hp} {S : SesS} (j : JT PT H H1 S) (h : At P w C H1 S) {p : Addr} (np : H1 p = none) : H p = none := by
  cases e : H p with
  | none => rfl
  | some o =>
    by_cases hp : p = PT
    · obtain ⟨ps, g⟩ := j.tab.tbl
      rw [hp, g] at np
      cases np
    · by_cases hv : VD S p
      · obtain ⟨kvs, g⟩ := h.vd_dk hv
        rw [g] at np
        cases np
      · rw [j.fix _ _ e fun z => z.elim hv hp] at np
        cases np
theorem scChoose : FnScope ["self", "choice"] ["self"] (defScope mSession_choose) := ⟨rfl, rfl, rfl, by decide +kernel, rfl, by decide +kernel, by decide +kernel⟩
theorem ok_choose {fo fb : Addr} {fdo fdb : FuncData} (D : MDef K C.S "choose" "Session.choose" mSession_choose ["self"] f fd) (DO : ODef K mg base fo fdo PT) (DB : Def K mg "best_choice" sBest ["packages", "wants"] fb fdb) (S : SDefs K mg C) (Z : KDefs K mg) : FnOk P w K mg base CX0 8 f fd ["self"] (spChoose P w C PT) := by
  have T := S.D.V.T
  obtain ⟨f1, fd1, D1⟩ := Z.cc
  obtain ⟨t32, M⟩ := S.mP
  have G0 : FnOk P w K mg base CX0 7 fb fdb ["packages", "wants"] (spBest P w C PT) := ok_best DB DO S Z
  have G1 : FnOk P w K mg base CX0 7 f1 fd1 ["choice"] spCount := (ok_count D1 T).mono (by decide)
  refine D.F.ok scChoose (fun vs H Q E h => ?_) (fun cdv A outer s H vs Q E hr h => ?_)
  · obtain ⟨Y, rfl, _⟩ := h
    rfl
  · obtain ⟨Y, rfl, hA, hT, hm, k⟩ := h
    refine ⟨_, pss_cons (ps_set (i := 1) scChoose.nd rfl (Or.inl rfl) (pe_call G0 hr rfl DB.at_ DB.F.kp DB.b .nil pass0 (pa_cons (pe_fld (pv 0) rfl) (pa_cons (pe_fld (pv 0) rfl) pa_nil))))
      (pss_cons (ps_if (pt_cmp (pc_isN (pv 1))) (pss_one (ps_ret (pe_lst (pa_cons (pe_un un_neg pe_int) pa_nil)))) pss_nil)
      (pss_one (ps_ret (pe_op op_cat (pe_op op_cat (pe_lst (pa_cons (pe_call G1 hr rfl D1.at_ D1.F.kp D1.b .nil pass0 (pa_cons (pv 1) pa_nil)) pa_nil)) (pv 1))
        (pe_op op_rep (pe_lst (pa_cons (pe_un un_neg pe_int) pa_nil)) (pe_op op_sub (pe_glob (v := .int 32) rfl M ⟨t32, rfl⟩) (pe_callB call_len_seq rfl T.len PySem.boot_len (pa_cons (pv 1) pa_nil)))))))), ?_⟩
    obtain ⟨dx, h1⟩ := hA.ins
    refine ⟨_, rfl, Y.a, C.S, dx, _, _, rfl, h1, S.cS.cl, S.nPk, fSes_packages _ _ _, _, rfl, Y.a, C.S, dx, _, _, rfl, h1, S.cS.cl, S.nWt, fSes_wants _ _ _, Y, rfl, hA, hT, hm, fun H1 v j1 hA1 hb => ?_⟩
    have one : (1 : Nat) ≤ sizeLine := by decide
    refine ⟨_, rfl, _, rfl, ?_⟩
    cases eb : Rb19Neutral.best (keptOf Y) with
    | none =>
      rw [eb] at hb
      have hb : v = .non := hb
      subst hb
      refine ⟨_, rfl, one, fun p hp => ?_⟩
      have s2 := same_upd (o := .lst [V.int (-1)]) hp
      refine k _ p (j1.same s2) (hA1.same s2) (j1.free hA1 hp) ?_
      have e : choA (keptOf Y) = [-1] := by
        unfold choA
        rw [eb]
      rw [e]
      exact upd_same
    | some c =>
      rw [eb] at hb
      obtain ⟨q, rfl, nq, hq, lc⟩ := hb
      have few := hA.few.1
      rw [decide_eq_false (by intro z; cases z)]
      refine ⟨_, rfl, q, c, rfl, hq, by omega, fun H2 s2 => ?_⟩
      have hq2 := s2 _ _ hq
      refine ⟨one, fun l1 hl1 => ⟨_, rfl, l1, q, [V.int ((VS.count c : Nat) : Int)], c.map optV, rfl, rfl, upd_same, ?_, ?_, fun l2 hl2 => ?_⟩⟩
      · rw [upd_ne (ne_of_none hq2 hl1)]
        exact hq2
      · rw [List.length_map]
        show 1 + c.length ≤ sizeLine
        exact Nat.le_of_lt (small1000 (by omega))
      have s3 : Same H2 (upd H2 l1 (.lst [V.int ((VS.count c : Nat) : Int)])) := same_upd hl1
      have s4 := same_new (o := .lst ([V.int ((VS.count c : Nat) : Int)] ++ c.map optV)) s3 hl2
      refine ⟨_, rfl, one, fun l3 hl3 => ?_⟩
      have s5 := same_new (o := .lst [V.int (-1)]) s4 hl3
      have hq5 := s5 _ _ hq2
      refine ⟨_, rfl, q, _, rfl, .inl (SqL.of hq5), _, _, rfl, rfl, l3, _, [V.int (-1)], rfl, rfl, upd_same, ?_, ?_, ?_, fun l4 hl4 => ?_⟩
      · rw [List.length_map]
        omega
      · rw [List.length_map]
        omega
      · show 1 * (((32 : Int) - ((c.map optV).length : Nat)).toNat) ≤ sizeLine
        rw [List.length_map]
        exact Nat.le_of_lt (small1000 (by omega))
      have s6 := same_new (o := .lst (List.replicate ((32 : Int) - ((c.map optV).length : Nat)).toNat [V.int (-1)]).flatten) s5 hl4
      have n42 : l2 ≠ l3 := fun z => by rw [← z, upd_same] at hl3; cases hl3
      have n43 : l2 ≠ l4 := fun z => by rw [← z, upd_ne n42, upd_same] at hl4; cases hl4
      refine ⟨l2, l4, [V.int ((VS.count c : Nat) : Int)] ++ c.map optV, (List.replicate ((32 : Int) - ((c.map optV).length : Nat)).toNat [V.int (-1)]).flatten, rfl, rfl, ?_, upd_same, ?_, fun l5 hl5 => ?_⟩
      · rw [upd_ne n43, upd_ne n42, upd_same]
      · rw [rep_flat, List.length_append, List.length_replicate, List.length_map]
        show 1 + c.length + _ ≤ sizeLine
        exact Nat.le_of_lt (small1000 (by omega))
      have s7 := same_new (o := .lst (([V.int ((VS.count c : Nat) : Int)] ++ c.map optV) ++ (List.replicate ((32 : Int) - ((c.map optV).length : Nat)).toNat [V.int (-1)]).flatten)) s6 hl5
      have s27 := s2.trans s7
      have fin : H1 l5 = none := by
        cases e : H1 l5 with
        | none => rfl
        | some o =>
          rw [s6 _ _ (s2 _ _ e)] at hl5
          cases hl5
      refine k _ l5 (j1.same s27) (hA1.same s27) (j1.free hA1 fin) ?_
      have e : choA (keptOf Y) = ((c.filter Option.isSome).length : Int) :: Rb19.told c := by
        unfold choA
        rw [eb]
      have et : ((32 : Int) - ((c.map optV).length : Nat)).toNat = Rb19.PACKAGES - c.length := by
        rw [List.length_map]
        show _ = 32 - c.length
        omega
      rw [upd_same, e, et, rep_flat, optV_int c, List.map_cons]
      unfold Rb19.told
      rw [List.map_append, List.map_replicate]
      rfl
end
end VP
namespace VP
open PySem PySem.Spec PyProof.Rows L2 VO VM
open Rb19 (B Word Version Span)
structure RowsK (K : PySem.W.Frag) (mg : Str → Option Value) : Prop where
  ex : ∃ (a : Addr) (o : Obj) (ep : Nat) (t1 t2 t3 t4 t5 u1 u2 u3 u4 u5 : Tok), mg "ROWS" = some (.ref a) ∧ K.lookup a = some o ∧ o.ExactDict ∧
    o.data = .dict #[⟨hashInt 1, .int 1 t1, .int 2 u1⟩, ⟨hashInt 2, .int 2 t2, .int 4 u2⟩, ⟨hashInt 3, .int 3 t3, .int 2 u3⟩, ⟨hashInt 4, .int 4 t4, .int 0 u4⟩, ⟨hashInt 5, .int 5 t5, .int 0 u5⟩] ep
theorem shape_cases {n : Int} {c : Nat} (h : PyRb19.shape n = some (0, c)) : (n = 1 ∧ c = 2) ∨ (n = 2 ∧ c = 4) ∨ (n = 3 ∧ c = 2) ∨ (n = 4 ∧ c = 0) ∨ (n = 5 ∧ c = 0) := by
  unfold PyRb19.shape at h
  split at h
  · next e => cases h; exact .inl ⟨e, rfl⟩
  · split at h
    · next e => cases h; exact .inr (.inl ⟨e, rfl⟩)
    · split at h
      · next e => cases h; exact .inr (.inr (.inl ⟨e, rfl⟩))
      · split at h
        · next e => cases h; exact .inr (.inr (.inr (.inl ⟨e, rfl⟩)))
        · split at h
          · next e => cases h; exact .inr (.inr (.inr (.inr ⟨e, rfl⟩)))
          · cases h
theorem shape_zero {n : Int} {a c : Nat} (h : PyRb19.shape n = some (a, c)) : a = 0 := by
  unfold PyRb19.shape at h
  split at h
  · cases h; rfl
  · split at h
    · cases h; rfl
    · split at h
      · cases h; rfl
      · split at h
        · cases h; rfl
        · split at h
          · cases h; rfl
          · cases h
def tRows (ti : TE) : TE := fun σ H Q => ti σ H fun y H1 => ∃ (n : Int) (c : Nat), y = .int n ∧ PyRb19.shape n = some (0, c) ∧ Q (.int ((c : Nat) : Int)) H1
section
variable {X : Cx} {i : Expr} {p pos : Pos} {ti : TE}
theorem pe_rows (R : RowsK X.K X.mg) (hg : Gl X "ROWS") (hi : PE X i ti) (hs : NoSl i) : PE X (.Subscript (.Name "ROWS" p) i pos) (tRows ti) := by
  intro pins s σ H Q I h
  obtain ⟨a, o, ep, t1, t2, t3, t4, t5, u1, u2, u3, u4, u5, hm, hl, hx, hd⟩ := R.ex
  have hp : PE X (.Name "ROWS" p) (tC (.ref a)) := pe_glob hg hm rfl
  refine subD_of PySem.F.slot_dict_getitem.lookup hs (thn (hp pins s σ H (fun x H1 => x = .ref a ∧ tRows ti σ H1 Q) I ⟨rfl, h⟩) fun u s1 ⟨x, H1, I1, rx, ex, q1⟩ => thn (hi pins s1 σ H1 _ I1 q1) fun iv s2 ⟨y, H2, I2, ry, n, c, ey, hsh, q2⟩ => ?_)
  subst ex ey
  obtain rfl : u = Value.ref a := rx
  have hk : ∀ (j : Nat) (t : Tok), (mixKind X.prog X.w).is (Sum.inl (j : Int)) (.int (j : Int) t) = true := fun j t => kV_is (k := Sum.inl (j : Int)) ⟨t, rfl⟩
  have dd : s2.heap.DictOf (mixKind X.prog X.w) a [(Sum.inl 1, .int 2 u1), (Sum.inl 2, .int 4 u2), (Sum.inl 3, .int 2 u3), (Sum.inl 4, .int 0 u4), (Sum.inl 5, .int 0 u5)] := by
    refine ⟨o, _, ep, I2.kIn a o hl, hx, hd, fun e he => ?_, .cons (hk 1 t1) rfl (.cons (hk 2 t2) rfl (.cons (hk 3 t3) rfl (.cons (hk 4 t4) rfl (.cons (hk 5 t5) rfl .nil)))), (show ([Sum.inl 1, Sum.inl 2, Sum.inl 3, Sum.inl 4, Sum.inl 5] : List Key).Nodup by decide)⟩
    simp only [List.mem_toArray, List.mem_cons, List.not_mem_nil, or_false] at he
    rcases he with rfl | rfl | rfl | rfl | rfl
    · exact ⟨Sum.inl 1, hk 1 t1, rfl⟩
    · exact ⟨Sum.inl 2, hk 2 t2, rfl⟩
    · exact ⟨Sum.inl 3, hk 3 t3, rfl⟩
    · exact ⟨Sum.inl 4, hk 4 t4, rfl⟩
    · exact ⟨Sum.inl 5, hk 5 t5, rfl⟩
  refine ⟨dd.typeIs, ?_⟩
  rcases shape_cases hsh with ⟨rfl, rfl⟩ | ⟨rfl, rfl⟩ | ⟨rfl, rfl⟩ | ⟨rfl, rfl⟩ | ⟨rfl, rfl⟩
  · exact wpAny_getItem_of (kV_is (k := Sum.inl 1) ry) dd.mapOf (v := .int 2 u1) rfl ⟨.int 2, H2, I2.tok _, ⟨u1, rfl⟩, q2⟩
  · exact wpAny_getItem_of (kV_is (k := Sum.inl 2) ry) dd.mapOf (v := .int 4 u2) rfl ⟨.int 4, H2, I2.tok _, ⟨u2, rfl⟩, q2⟩
  · exact wpAny_getItem_of (kV_is (k := Sum.inl 3) ry) dd.mapOf (v := .int 2 u3) rfl ⟨.int 2, H2, I2.tok _, ⟨u3, rfl⟩, q2⟩
  · exact wpAny_getItem_of (kV_is (k := Sum.inl 4) ry) dd.mapOf (v := .int 0 u4) rfl ⟨.int 0, H2, I2.tok _, ⟨u4, rfl⟩, q2⟩
  · exact wpAny_getItem_of (kV_is (k := Sum.inl 5) ry) dd.mapOf (v := .int 0 u5) rfl ⟨.int 0, H2, I2.tok _, ⟨u5, rfl⟩, q2⟩
end
theorem calls_cons {f : Nat} {p : Int} {r : List Int} {cs : List (List (List Int))} (h : PyFlat.calls PyRb19.shape f (p :: r) = some cs) :
    ∃ (g k : Nat) (xs : List (List Int)) (t : List Int) (ds : List (List (List Int))), PyRb19.shape p = some (0, k) ∧ PyFlat.rows k r = some (xs, t) ∧ PyFlat.calls PyRb19.shape g t = some ds ∧ cs = ([p] :: xs) :: ds := by
  cases f with
  | zero => cases h
  | succ g =>
    unfold PyFlat.calls at h
    split at h
    · cases h
    · next c t hc =>
      split at h
      · cases h
      · next ds hds =>
        cases h
        cases hs : PyRb19.shape p with
        | none =>
          simp only [PyFlat.call, hs] at hc
          cases hc
        | some nk =>
          obtain ⟨n, k⟩ := nk
          have hn := shape_zero hs
          subst hn
          simp only [PyFlat.call, hs, Nat.not_lt_zero, if_false, List.drop_zero, List.take_zero] at hc
          cases hr : PyFlat.rows k r with
          | none =>
            rw [hr] at hc
            cases hc
          | some y =>
            obtain ⟨xs, t'⟩ := y
            rw [hr] at hc
            cases hc
            exact ⟨g, k, xs, t, ds, rfl, hr, hds, rfl⟩
theorem rows_succ {m : Nat} {r : List Int} {xs : List (List Int)} {t : List Int} (h : PyFlat.rows (m + 1) r = some (xs, t)) :
    ∃ (n : Nat) (r' : List Int) (ys : List (List Int)), r = (n : Int) :: r' ∧ n ≤ r'.length ∧ PyFlat.rows m (r'.drop n) = some (ys, t) ∧ xs = r'.take n :: ys := by
  unfold PyFlat.rows at h
  split at h
  · cases h
  · next x s hx =>
    split at h
    · cases h
    · next ys t' hr =>
      cases h
      cases r with
      | nil => cases hx
      | cons z r' =>
        simp only [PyFlat.row] at hx
        by_cases hz : 0 ≤ z ∧ z.toNat ≤ r'.length
        · rw [if_pos hz] at hx
          cases hx
          exact ⟨z.toNat, r', ys, by rw [Int.toNat_of_nonneg hz.1], hz.2, hr, rfl⟩
        · rw [if_neg hz] at hx
          cases hx
end VP
namespace VP
open PySem PySem.Spec PyProof.Rows L2 VO VM
open Rb19 (B Word Version Span)
def RowAt (N : Addr → Prop) (H : Hp) (a : Addr) (x : List Int) : Prop := N a ∧ H a = some (.lst (x.map V.int))
def CallAt (N : Addr → Prop) (H : Hp) (t : Addr) (c : List (List Int)) : Prop := ∃ (p : Int) (xs : List (List Int)) (rl : Addr) (as : List Addr), c = [p] :: xs ∧ H t = some (.tup [.int p, .ref rl]) ∧ N rl ∧ H rl = some (.lst (as.map V.ref)) ∧ Paired (RowAt N H) as xs
theorem CallAt.keep {N : Addr → Prop} {H H' : Hp} (ht : ∀ b xs, H b = some (.tup xs) → H' b = some (.tup xs)) (hl : ∀ b xs, N b → H b = some (.lst xs) → H' b = some (.lst xs)) {t : Addr} {c : List (List Int)} : CallAt N H t c → CallAt N H' t c :=
  fun ⟨p, xs, rl, as, h1, h2, h3, h4, h5⟩ => ⟨p, xs, rl, as, h1, ht _ _ h2, h3, hl _ _ h3 h4, L2.Paired.mapP h5 fun a x q => ⟨q.1, hl _ _ q.1 q.2⟩⟩
def spSplit (K : PySem.W.Frag) : Sp := fun vs H Q _ => ∃ (a : Addr) (ns : List Int) (cs : List (List (List Int))), vs = [.ref a] ∧ SqL K H a (ns.map V.int) ∧ PyFlat.calls PyRb19.shape ns.length ns = some cs ∧ cs.length ≤ 150 ∧ ns.length ≤ 100000 ∧
  ∀ (H' : Hp) (q : Addr) (ts : List Addr), Same H H' → H q = none → H' q = some (.lst (ts.map V.ref)) → Paired (CallAt (fun b => H b = none ∧ b ≠ q) H') ts cs → Q (.ref q) H'
theorem cut_mid (xs : List V) (i j : Nat) (hi : i ≤ j) (hj : j ≤ xs.length) : cutV xs (some (i : Int)) (some (j : Int)) = (xs.drop i).take (j - i) := by
  unfold cutV
  rw [HT.sIx_nat, HT.sIx_nat, Nat.min_eq_left hj, Nat.min_eq_left (Nat.le_trans hi hj)]
theorem rows_len : ∀ {k : Nat} {r : List Int} {xs : List (List Int)} {t : List Int}, PyFlat.rows k r = some (xs, t) → xs.length = k
  | 0, r, xs, t, h => by cases h; rfl
  | k + 1, r, xs, t, h => by
    obtain ⟨n, r', ys, _, _, h2, rfl⟩ := rows_succ h
    rw [List.length_cons, rows_len h2]
theorem drop_at {α : Type} {l : List α} {i : Nat} {x : α} {r : List α} (h : l.drop i = x :: r) : l[i]? = some x ∧ l.drop (i + 1) = r ∧ i < l.length := by
  have hi : i < l.length := by
    rcases Nat.lt_or_ge i l.length with h1 | h1
    · exact h1
    · rw [List.drop_eq_nil_of_le h1] at h
      cases h
  rw [List.drop_eq_getElem_cons hi] at h
  cases h
  exact ⟨List.getElem?_eq_getElem hi, rfl, hi⟩
section
variable {P : Program} {w : World} {K : PySem.W.Frag} {mg : Str → Option Value} {base : Heap} {f : Addr} {fd : FuncData}
theorem scSplit : FnScope ["calls", "found", "place", "number", "rows", "end"] ["calls"] (defScope sSplit) := ⟨rfl, rfl, rfl, by decide +kernel, rfl, by decide +kernel, by decide +kernel⟩
theorem ok_split (D : Def K mg "split_calls" sSplit ["calls"] f fd) (T : Blt mg) (R : RowsK K mg) : FnOk P w K mg base CX0 1 f fd ["calls"] (spSplit K) := by
  refine D.F.ok scSplit (fun vs H Q E h => ?_) (fun cdv A outer s H vs Q E hr h => ?_)
  · obtain ⟨a, ns, cs, rfl, _⟩ := h
    rfl
  · obtain ⟨a, ns, cs, rfl, hS, hcs, hlen, hns, k⟩ := h
    refine ⟨_, pss_cons (ps_set (i := 1) scSplit.nd rfl (Or.inl rfl) (pe_lst pa_nil))
      (pss_cons (ps_set (i := 2) scSplit.nd rfl (Or.inl rfl) pe_int)
      (pss_cons (ps_while PassesOwn.never (pt_cmpR op_lt (pv 2) (pe_callB call_len_seq rfl T.len PySem.boot_len (pa_cons (pv 0) pa_nil)) (nomark _))
        (pss_cons (ps_set (i := 3) scSplit.nd rfl (Or.inl rfl) (pe_ix ix_list (pv 0) (pv 2) (fun _ _ => rfl)))
        (pss_cons (ps_set (i := 2) scSplit.nd rfl (Or.inl rfl) (pe_op op_add (pv 2) pe_int))
        (pss_cons (ps_set (i := 4) scSplit.nd rfl (Or.inl rfl) (pe_lst pa_nil))
        (pss_cons (ps_while PassesOwn.never (pt_cmpR op_lt (pe_callB call_len_seq rfl T.len PySem.boot_len (pa_cons (pv 4) pa_nil)) (pe_rows R rfl (pv 3) (fun _ _ => rfl)) (nomark _))
          (pss_cons (ps_set (i := 5) scSplit.nd rfl (Or.inl rfl) (pe_op op_add (pe_op op_add (pv 2) pe_int) (pe_ix ix_list (pv 0) (pv 2) (fun _ _ => rfl))))
          (pss_cons (ps_expr (pe_bm PySem.F.plainAttrs_list PySem.F.slot_list_append PySem.F.type_list_append mt_append (pv 4) (pa_cons (pe_slice sl_list (pv 0) (po_some (pe_op op_add (pv 2) pe_int)) (po_some (pv 5))) pa_nil)))
          (pss_one (ps_set (i := 2) scSplit.nd rfl (Or.inl rfl) (pv 5))))))
        (pss_one (ps_expr (pe_bm PySem.F.plainAttrs_list PySem.F.slot_list_append PySem.F.type_list_append mt_append (pv 1) (pa_cons (pe_tup (pa_cons (pv 3) (pa_cons (pv 4) pa_nil))) pa_nil)))))))))
      (pss_one (ps_ret (pv 1))))), ?_⟩
    refine ⟨Nat.zero_le _, fun fo hfo => ?_⟩
    have s1 : Same H (upd H fo (.lst [])) := same_upd hfo
    let N : Addr → Prop := fun b => H b = none ∧ b ≠ fo
    refine ⟨fun m σ H' => ∃ (pl g : Nat) (done rest : List (List (List Int))) (ts : List Addr) (v3 v4 v5 : Option V), m = ns.length - pl ∧ σ = [some (.ref a), some (.ref fo), some (.int (pl : Int)), v3, v4, v5] ∧ pl ≤ ns.length ∧ cs = done ++ rest ∧ PyFlat.calls PyRb19.shape g (ns.drop pl) = some rest ∧
        Same H H' ∧ H' fo = some (.lst (ts.map V.ref)) ∧ Paired (CallAt N H') ts done,
      ⟨_, 0, ns.length, [], cs, [], none, none, none, rfl, rfl, Nat.zero_le _, rfl, hcs, s1, upd_same, .nil⟩, ?_⟩
    rintro m σ H1 ⟨pl, g, done, rest, ts, v3, v4, v5, rfl, rfl, hpl, hdr, hrest, sH, hfd, hts⟩
    refine ⟨_, rfl, _, rfl, a, _, rfl, .inl (sH.seq hS), _, _, rfl, rfl, _, rfl, ?_⟩
    rw [List.length_map]
    show if decide ((pl : Int) < ((ns.length : Nat) : Int)) = true then _ else _
    by_cases hlt : pl < ns.length
    · rw [if_pos (decide_eq_true (by omega))]
      refine ⟨fun σ' H' => ∃ m', m' < ns.length - pl ∧ ∃ (pl g : Nat) (done rest : List (List (List Int))) (ts : List Addr) (v3 v4 v5 : Option V), m' = ns.length - pl ∧ σ' = [some (.ref a), some (.ref fo), some (.int (pl : Int)), v3, v4, v5] ∧ pl ≤ ns.length ∧ cs = done ++ rest ∧ PyFlat.calls PyRb19.shape g (ns.drop pl) = some rest ∧
        Same H H' ∧ H' fo = some (.lst (ts.map V.ref)) ∧ Paired (CallAt N H') ts done, fun _ _ h => h, ?_⟩
      cases hd : ns.drop pl with
      | nil =>
        have := List.drop_eq_nil_iff.mp hd
        omega
      | cons p r =>
      obtain ⟨hp, hr1, _⟩ := drop_at hd
      rw [hd] at hrest
      obtain ⟨g', kk, xs, t, ds, hsh, hrows, hds, rfl⟩ := calls_cons hrest
      have hpV : (ns.map V.int)[pl]? = some (.int p) := by rw [List.getElem?_map, hp]; rfl
      refine ⟨_, rfl, _, rfl, a, _, _, _, rfl, rfl, sH.seq hS, atI_nat hpV, _, rfl, _, _, rfl, rfl, Nat.zero_le _, fun rl hrl => ?_⟩
      have hrl0 : H rl = none := sH.free hrl
      have nrf : rl ≠ fo := fun z => by rw [z, hfd] at hrl; cases hrl
      have s2 : Same H1 (upd H1 rl (.lst [])) := same_upd hrl
      have xsl := rows_len hrows
      refine ⟨fun m σ H' => ∃ (q : Nat) (got left : List (List Int)) (as : List Addr) (v5 : Option V), m = left.length ∧ σ = [some (.ref a), some (.ref fo), some (.int (q : Int)), some (.int p), some (.ref rl), v5] ∧ pl < q ∧ q ≤ ns.length ∧ xs = got ++ left ∧ PyFlat.rows left.length (ns.drop q) = some (left, t) ∧
          Same H1 H' ∧ H' rl = some (.lst (as.map V.ref)) ∧ Paired (RowAt (fun b => N b ∧ b ≠ rl) H') as got,
        ⟨_, pl + 1, [], xs, [], v5, rfl, ?_, Nat.lt_succ_self _, hlt, rfl, ?_, s2, upd_same, .nil⟩, ?_⟩
      · show [_, _, some (V.int ((pl : Int) + 1)), _, _, _] = [_, _, some (V.int ((pl + 1 : Nat) : Int)), _, _, _]
        rw [Int.natCast_add]
        rfl
      · rw [xsl, hr1]
        exact hrows
      rintro m σ H2 ⟨q, got, left, as, v5', rfl, rfl, hq1, hq2, hxs, hleft, s12, hrl2, hgot⟩
      have sH2 := sH.trans s12
      have lg := paired_len hgot
      have lx : got.length + left.length = kk := by rw [← xsl, hxs, List.length_append]
      have k4 : kk ≤ 4 := by rcases shape_cases hsh with ⟨_, e⟩ | ⟨_, e⟩ | ⟨_, e⟩ | ⟨_, e⟩ | ⟨_, e⟩ <;> omega
      refine ⟨_, rfl, rl, _, rfl, .inl (SqL.of hrl2), _, rfl, p, kk, rfl, hsh, _, _, rfl, rfl, _, rfl, ?_⟩
      rw [List.length_map]
      cases left with
      | nil =>
        rw [if_neg (by rw [decide_eq_true_eq]; simp only [List.length_nil] at lx; omega)]
        cases hleft
        have hfd2 := s12 _ _ hfd
        have lts := paired_len hts
        have ldn : done.length < cs.length := by rw [hdr, List.length_append, List.length_cons]; omega
        refine ⟨_, rfl, .inl ⟨rfl, _, SqL.of hfd2⟩, _, rfl, _, rfl, (by show 2 ≤ sizeLine; decide), fun tt htt => ?_⟩
        have s3 : Same H2 (upd H2 tt (.tup [.int p, .ref rl])) := same_upd htt
        have hfd3 := s3 _ _ hfd2
        refine ⟨fo, _, _, rfl, rfl, hfd3, by rw [List.length_map]; exact small1000 (by omega), ns.length - q, by omega, q, g', done ++ [[p] :: xs], ds, ts ++ [tt], _, _, _, rfl, rfl, hq2, ?_, hds, same_free (sH2.trans s3) hfo, ?_, ?_⟩
        · rw [hdr, List.append_assoc]
          rfl
        · rw [upd_same, List.map_append]
          rfl
        · have nt : ∀ b o, (upd H2 tt (.tup [.int p, .ref rl])) b = some o → (∀ ys, o ≠ .lst ys) → b ≠ fo := fun b o e ne z => by rw [z, hfd3] at e; cases e; exact ne _ rfl
          refine paired_snoc (L2.Paired.mapP hts fun t' c' q' => ?_) ?_
          · refine CallAt.keep (fun b ys e => ?_) (fun b ys nb e => ?_) q'
            · have e2 := s3 _ _ (s12 _ _ e)
              rw [upd_ne (nt _ _ e2 fun _ z => by cases z)]
              exact e2
            · rw [upd_ne nb.2]
              exact s3 _ _ (s12 _ _ e)
          · refine ⟨p, xs, rl, as, rfl, ?_, ⟨hrl0, nrf⟩, ?_, ?_⟩
            · rw [upd_ne (nt _ _ upd_same fun _ z => by cases z)]
              exact upd_same
            · rw [upd_ne nrf]
              exact s3 _ _ hrl2
            · rw [hxs, List.append_nil]
              exact L2.Paired.mapP hgot fun b y e => ⟨e.1.1, by rw [upd_ne e.1.1.2]; exact s3 _ _ e.2⟩
      | cons x left' =>
        rw [if_pos (decide_eq_true (by simp only [List.length_cons] at lx; omega))]
        refine ⟨fun σ' H' => ∃ m', m' < (x :: left').length ∧ ∃ (q : Nat) (got left : List (List Int)) (as : List Addr) (v5 : Option V), m' = left.length ∧ σ' = [some (.ref a), some (.ref fo), some (.int (q : Int)), some (.int p), some (.ref rl), v5] ∧ pl < q ∧ q ≤ ns.length ∧ xs = got ++ left ∧ PyFlat.rows left.length (ns.drop q) = some (left, t) ∧
          Same H1 H' ∧ H' rl = some (.lst (as.map V.ref)) ∧ Paired (RowAt (fun b => N b ∧ b ≠ rl) H') as got, fun _ _ h => h, ?_⟩
        obtain ⟨n, r', ys, hdq, hn, hrest2, hx⟩ := rows_succ (m := left'.length) hleft
        cases hx
        obtain ⟨hqn, hq3, hq4⟩ := drop_at hdq
        have hqV : (ns.map V.int)[q]? = some (.int (n : Int)) := by rw [List.getElem?_map, hqn]; rfl
        have lr : r'.length = ns.length - (q + 1) := by rw [← hq3, List.length_drop]
        have eEnd : (q : Int) + 1 + (n : Int) = ((q + 1 + n : Nat) : Int) := by omega
        refine ⟨_, rfl, _, _, rfl, rfl, _, rfl, _, rfl, a, _, _, _, rfl, rfl, sH2.seq hS, atI_nat hqV, _, _, rfl, rfl, ?_⟩
        refine ⟨_, rfl, .inl ⟨rfl, _, SqL.of hrl2⟩, _, rfl, _, rfl, _, _, rfl, rfl, _, rfl, _, rfl, _, rfl, a, _, rfl, sH2.seq hS, fun z hz => ?_⟩
        have ecut : cutV (ns.map V.int) (some ((q : Int) + 1)) (some ((q : Int) + 1 + (n : Int))) = (r'.take n).map V.int := by
          rw [eEnd, show ((q : Int) + 1) = ((q + 1 : Nat) : Int) by omega, cut_mid _ _ _ (by omega) (by rw [List.length_map]; omega), ← List.map_drop, hq3, ← List.map_take, show q + 1 + n - (q + 1) = n by omega]
        rw [ecut]
        have s3 : Same H2 (upd H2 z (.lst ((r'.take n).map V.int))) := same_upd hz
        have hrl3 := s3 _ _ hrl2
        have nzr : z ≠ rl := fun y => by rw [y, hrl2] at hz; cases hz
        have nzf : z ≠ fo := fun y => by rw [y, s12 _ _ hfd] at hz; cases hz
        refine ⟨rl, _, _, rfl, rfl, hrl3, by rw [List.length_map]; exact small1000 (by omega), _, rfl, left'.length, by rw [List.length_cons]; omega, q + 1 + n, got ++ [r'.take n], left', as ++ [z], some (.int ((q : Int) + 1 + (n : Int))), rfl, ?_, by omega, by omega, ?_, ?_, ?_, ?_, ?_⟩
        · show [_, _, some (V.int ((q : Int) + 1 + (n : Int))), _, _, _] = [_, _, some (V.int ((q + 1 + n : Nat) : Int)), _, _, _]
          rw [← eEnd]
        · rw [hxs, List.append_assoc]
          rfl
        · rw [← hrest2, ← hq3, List.drop_drop]
        · exact same_free (s12.trans s3) hrl
        · rw [upd_same, List.map_append]
          rfl
        · refine paired_snoc (L2.Paired.mapP hgot fun b y e => ⟨e.1, by rw [upd_ne e.1.2]; exact s3 _ _ e.2⟩) ⟨⟨⟨sH2.free hz, nzf⟩, nzr⟩, ?_⟩
          rw [upd_ne nzr]
          exact upd_same
    · rw [if_neg (by rw [decide_eq_true_eq]; omega)]
      have epl : pl = ns.length := by omega
      have er : rest = [] := by
        rw [epl, List.drop_length] at hrest
        cases g with
        | zero => cases hrest; rfl
        | succ g => cases hrest; rfl
      rw [er, List.append_nil] at hdr
      rw [← hdr] at hts
      exact ⟨_, rfl, k H1 fo ts sH hfo hfd hts⟩
end
end VP
namespace VP
open PySem PySem.Spec PyProof.Rows L2 VO VM
open Rb19 (B Word Version Span)
theorem intsBs : ∀ (ns : List Int), (∀ x ∈ ns, 0 ≤ x) → ns.map V.int = bs (Rb19Neutral.nats ns)
  | [], _ => rfl
  | n :: r, h => by
    have h0 := h n (List.mem_cons_self ..)
    rw [List.map_cons, intsBs r fun x hx => h x (List.mem_cons_of_mem _ hx)]
    show V.int n :: _ = V.int ((n.toNat : Nat) : Int) :: _
    rw [Int.toNat_of_nonneg h0]
    rfl
theorem text_is {x : List Int} (h : Rb19Neutral.text x = true) : x.map V.int = bs (Rb19Neutral.nats x) ∧ (Rb19Neutral.nats x).length ≤ 256 := by
  unfold Rb19Neutral.text at h
  rw [Bool.and_eq_true] at h
  refine ⟨intsBs x fun z hz => ?_, ?_⟩
  · have := List.all_eq_true.mp h.1 z hz
    rw [Bool.and_eq_true] at this
    exact of_decide_eq_true this.1
  · unfold Rb19Neutral.nats
    rw [List.length_map]
    exact of_decide_eq_true h.2
theorem asked_cases {p : Int} {xs : List (List Int)} (h : Rb19Neutral.asked1 ([p] :: xs) = true) (h6 : p ≠ 6) (h7 : p ≠ 7) :
    (p = 1 ∧ ∃ a b, xs = [a, b] ∧ Rb19Neutral.text a = true ∧ Rb19Neutral.text b = true) ∨
    (p = 2 ∧ ∃ a b c d, xs = [a, b, c, d] ∧ Rb19Neutral.text a = true ∧ Rb19Neutral.text b = true ∧ Rb19Neutral.text c = true ∧ Rb19Neutral.text d = true) ∨
    (p = 3 ∧ ∃ a b, xs = [a, b] ∧ Rb19Neutral.text a = true ∧ Rb19Neutral.text b = true) ∨ (p = 4 ∧ xs = []) ∨ (p = 5 ∧ xs = []) := by
  unfold Rb19Neutral.asked1 at h
  split at h
  · next a b e => cases e; rw [Bool.and_eq_true] at h; exact .inl ⟨rfl, a, b, rfl, h⟩
  · next a b c d e => cases e; simp only [Bool.and_eq_true] at h; exact .inr (.inl ⟨rfl, a, b, c, d, rfl, h⟩)
  · next a b e => cases e; rw [Bool.and_eq_true] at h; exact .inr (.inr (.inl ⟨rfl, a, b, rfl, h⟩))
  · next e => cases e; exact .inr (.inr (.inr (.inl ⟨rfl, rfl⟩)))
  · next e => cases e; exact .inr (.inr (.inr (.inr ⟨rfl, rfl⟩)))
  · next e => cases e; exact absurd rfl h6
  · next e => cases e; exact absurd rfl h7
  · cases h
theorem step_of {k k' : Rb19.Kept} {c : List (List Int)} {x : Rb19.Call} {a : Int} (hc : Rb19Neutral.callOf c = some x) (h : Rb19.change k x = some (a, k')) : Rb19Neutral.step k c = (k', [a]) := by
  unfold Rb19Neutral.step
  split
  · cases hc
  · cases hc
  · rw [hc]
    show (match Rb19.change k x with
      | some y => (y.2, [y.1])
      | none => _) = _
    rw [h]
theorem step_choose {k : Rb19.Kept} (h : Rb19Neutral.many k ≤ 400) : Rb19Neutral.step k [[4]] = (k, choA k) := by
  show (k, if 2000 < Rb19Neutral.many k then [] else _) = _
  rw [if_neg (by omega)]
  rfl
structure Did (P : Program) (w : World) (C : Cs) (PT : Addr) (H H' : Hp) (S S' : SesS) : Prop where
  at_ : At P w C H' S'
  self : S'.a = S.a
  fix : Fix (fun b => MU S b ∨ b = PT) H H'
  grow : ∀ b, MU S' b → MU S b ∨ H b = none
  tab : Tab H' S' PT
section
variable {P : Program} {w : World} {C : Cs} {PT : Addr} {H H' H1 H2 : Hp} {S S' : SesS}
theorem Evo.did (e : Evo P w C H H' S S') (h : At P w C H S) (t : Tab H S PT) : Did P w C PT H H' S S' := by
  have key : ∀ ps, H PT = some (.tbl ps) → H' PT = some (.tbl ps) := fun ps g => e.fix _ _ g fun m => by
    obtain ⟨o, g', _, _, n⟩ := h.mu_some m
    rw [g] at g'
    cases g'
    exact n _ rfl
  refine ⟨e.at_, e.self, e.fix.mono fun b z => .inl z, e.grow, ?_⟩
  rcases t with t | ⟨c, t, hc, nm⟩
  · exact .inl (key _ t)
  · exact .inr ⟨c, key _ t, e.fix _ _ hc nm, fun m => (e.grow c m).elim nm fun z => by rw [hc] at z; cases z⟩
theorem JT.did (j : JT PT H H' S) (h : At P w C H' S) : Did P w C PT H H' S S := ⟨h, rfl, j.fix.mono fun b z => z.elim (fun z => .inl (.inr (.inl z))) .inr, fun _ z => .inl z, j.tab⟩
theorem Did.same (d : Did P w C PT H H1 S S') (s : Same H1 H2) : Did P w C PT H H2 S S' :=
  ⟨d.at_.same s, d.self, d.fix.trans (Same.fix s _), d.grow, d.tab.same s⟩
theorem Did.new (d : Did P w C PT H H1 S S') {q : Addr} (hq : H1 q = none) {o : HO} (e : H q = some o) : MU S q ∨ q = PT := Classical.byContradiction fun n => by
  rw [d.fix _ _ e n] at hq
  cases hq
end
def spAnswer (P : Program) (w : World) (C : Cs) (PT : Addr) : Sp := fun vs H Q _ => ∃ (S : SesS) (p : Int) (xs : List (List Int)) (rl : Addr) (as : List Addr), vs = [.ref S.a, .int p, .ref rl] ∧ At P w C H S ∧ Tab H S PT ∧ H rl = some (.lst (as.map V.ref)) ∧ Paired (fun a x => H a = some (.lst (x.map V.int))) as xs ∧
  Rb19Neutral.asked1 ([p] :: xs) = true ∧ p ≠ 6 ∧ p ≠ 7 ∧ (p = 4 → Rb19Neutral.many (keptOf S) ≤ 400) ∧
  ∀ (H' : Hp) (S' : SesS) (q : Addr) (l : List Int), Rb19Neutral.step (keptOf S) ([p] :: xs) = (keptOf S', l) → 1 ≤ l.length → l.length ≤ 33 → Did P w C PT H H' S S' → (∀ o, H q = some o → MU S q ∨ q = PT) → H' q = some (.lst (l.map V.int)) → Q (.ref q) H'
structure ADefs (K : PySem.W.Frag) (mg : Str → Option Value) : Prop where
  n1 : ∃ t, mg "ADD" = some (.int 1 t)
  n2 : ∃ t, mg "ASK" = some (.int 2 t)
  n3 : ∃ t, mg "WANT" = some (.int 3 t)
  n4 : ∃ t, mg "CHOOSE" = some (.int 4 t)
  bc : ∃ f fd, Def K mg "best_choice" sBest ["packages", "wants"] f fd
  sp : ∃ f fd, Def K mg "split_calls" sSplit ["calls"] f fd
  an : ∃ f fd, Def K mg "answer" sAnswer ["session", "number", "rows"] f fd
  R : RowsK K mg
theorem choices_len {k : Rb19.Kept} : ∀ (n : Nat) (c : Rb19.Choice), c ∈ Rb19Neutral.choices k n → c.length = n
  | 0, c, h => by
    have h : c ∈ [[]] := h
    rw [List.mem_singleton.mp h]
    rfl
  | n + 1, c, h => by
    unfold Rb19Neutral.choices at h
    obtain ⟨o, _, h⟩ := List.mem_flatMap.mp h
    obtain ⟨d, hd, rfl⟩ := List.mem_map.mp h
    rw [List.length_cons, choices_len n d hd]
theorem choA_len {k : Rb19.Kept} (h : k.packages.length ≤ 32) : 1 ≤ (choA k).length ∧ (choA k).length ≤ 33 := by
  unfold choA
  cases e : Rb19Neutral.best k with
  | none => exact ⟨Nat.le_refl _, by decide⟩
  | some d =>
    have hd : d.length = k.packages.length := choices_len _ _ (List.mem_of_find?_eq_some e)
    refine ⟨by rw [List.length_cons]; omega, ?_⟩
    show (_ :: Rb19.told d).length ≤ 33
    unfold Rb19.told
    rw [List.length_cons, List.length_append, List.length_map, List.length_replicate]
    show d.length + (32 - d.length) + 1 ≤ 33
    omega
theorem if_ne {a b : Int} (h : a ≠ b) : (decide (V.int a = V.int b)) = false := decide_eq_false fun z => h (V.int.inj z)
section
variable {P : Program} {w : World} {K : PySem.W.Frag} {mg : Str → Option Value} {base : Heap} {f : Addr} {fd : FuncData} {C : Cs} {PT : Addr}
theorem scAnswer : FnScope ["session", "number", "rows"] ["session", "number", "rows"] (defScope sAnswer) := ⟨rfl, rfl, rfl, by decide +kernel, rfl, by decide +kernel, by decide +kernel⟩
theorem ok_answer {fo : Addr} {fdo : FuncData} (D : Def K mg "answer" sAnswer ["session", "number", "rows"] f fd) (DO : ODef K mg base fo fdo PT) (S : SDefs K mg C) (Z : KDefs K mg) (N : NDefs K mg) (A' : ADefs K mg) : FnOk P w K mg base CX0 10 f fd ["session", "number", "rows"] (spAnswer P w C PT) := by
  have T := S.D.V.T
  obtain ⟨f1, fd1, D1⟩ := S.sA
  obtain ⟨f2, fd2, D2⟩ := S.sK
  obtain ⟨f3, fd3, D3⟩ := S.sW
  obtain ⟨f4, fd4, D4⟩ := S.sC
  obtain ⟨f5, fd5, D5⟩ := S.sB
  obtain ⟨f6, fd6, D6⟩ := A'.bc
  obtain ⟨t1, M1⟩ := A'.n1
  obtain ⟨t2, M2⟩ := A'.n2
  obtain ⟨t3, M3⟩ := A'.n3
  obtain ⟨t4, M4⟩ := A'.n4
  have G1 : FnOk P w K mg base CX0 9 f1 fd1 ["self", "name", "version"] (spAddS P w C K) := (ok_addS D1 S N).mono (by decide)
  have G2 : FnOk P w K mg base CX0 9 f2 fd2 ["self", "name", "version", "on", "condition"] (spAsk P w C K) := ok_ask D2 S
  have G3 : FnOk P w K mg base CX0 9 f3 fd3 ["self", "on", "condition"] (spWant P w C K) := ok_want D3 S
  have G4 : FnOk P w K mg base CX0 9 f4 fd4 ["self"] (spChoose P w C PT) := (ok_choose D4 DO D6 S Z).mono (by decide)
  have G5 : FnOk P w K mg base CX0 9 f5 fd5 ["self"] (spBegin P w C) := (ok_begin D5 S).mono (by decide)
  refine D.F.ok scAnswer (fun vs H Q E h => ?_) (fun cdv A outer s H vs Q E hr h => ?_)
  · obtain ⟨Y, p, xs, rl, as, rfl, _⟩ := h
    rfl
  · obtain ⟨Y, p, xs, rl, as, rfl, hA, hT, hrl, has, hask, n6, n7, hmany, k⟩ := h
    refine ⟨_, pss_cons (ps_if (pt_cmpR op_eq (pv 1) (pe_glob (v := .int 1) rfl M1 ⟨t1, rfl⟩) (nomark _)) (pss_one (ps_ret (pe_lst (pa_cons (pe_meth (pv 0) S.cS.cl D1.me G1 hr D1.b .nil pass0 (pa_cons (pe_ix ix_list (pv 2) pe_int (fun _ _ => rfl)) (pa_cons (pe_ix ix_list (pv 2) pe_int (fun _ _ => rfl)) pa_nil))) pa_nil)))) pss_nil)
      (pss_cons (ps_if (pt_cmpR op_eq (pv 1) (pe_glob (v := .int 2) rfl M2 ⟨t2, rfl⟩) (nomark _)) (pss_one (ps_ret (pe_lst (pa_cons (pe_meth (pv 0) S.cS.cl D2.me G2 hr D2.b .nil pass0 (pa_cons (pe_ix ix_list (pv 2) pe_int (fun _ _ => rfl)) (pa_cons (pe_ix ix_list (pv 2) pe_int (fun _ _ => rfl)) (pa_cons (pe_ix ix_list (pv 2) pe_int (fun _ _ => rfl)) (pa_cons (pe_ix ix_list (pv 2) pe_int (fun _ _ => rfl)) pa_nil))))) pa_nil)))) pss_nil)
      (pss_cons (ps_if (pt_cmpR op_eq (pv 1) (pe_glob (v := .int 3) rfl M3 ⟨t3, rfl⟩) (nomark _)) (pss_one (ps_ret (pe_lst (pa_cons (pe_meth (pv 0) S.cS.cl D3.me G3 hr D3.b .nil pass0 (pa_cons (pe_ix ix_list (pv 2) pe_int (fun _ _ => rfl)) (pa_cons (pe_ix ix_list (pv 2) pe_int (fun _ _ => rfl)) pa_nil))) pa_nil)))) pss_nil)
      (pss_cons (ps_if (pt_cmpR op_eq (pv 1) (pe_glob (v := .int 4) rfl M4 ⟨t4, rfl⟩) (nomark _)) (pss_one (ps_ret (pe_meth0 (pv 0) S.cS.cl D4.me G4 hr D4.b .nil pass0))) pss_nil)
      (pss_one (ps_ret (pe_lst (pa_cons (pe_meth0 (pv 0) S.cS.cl D5.me G5 hr D5.b .nil pass0) pa_nil))))))), ?_⟩
    obtain ⟨dx, i1⟩ := hA.ins
    have no : ∀ {m : Str}, ¬ m = "packages" → ¬ m = "numbers" → ¬ m = "wants" → _ := fun {m} => fSes_no (.ref Y.pl) (.ref Y.nd) (.ref Y.wl) (m := m)
    have one : (1 : Nat) ≤ sizeLine := by decide
    have key : ∀ {x : Rb19.Call}, Rb19Neutral.callOf ([p] :: xs) = some x → Does P w C H Y x fun v H' => (1 : Nat) ≤ sizeLine ∧ ∀ q, H' q = none → Q (.ref q) (upd H' q (.lst [v])) := fun {x} hc H' S' a hch ev => ⟨one, fun q hq => by
      have d := ev.did hA hT
      exact k _ S' q [a] (step_of hc hch) (Nat.le_refl _) (by show 1 ≤ 33; decide) (d.same (same_upd hq)) (fun o e => d.new hq e) upd_same⟩
    have i1 : H Y.a = some (.ins C.S dx (fSes (.ref Y.pl) (.ref Y.nd) (.ref Y.wl))) := i1
    rcases asked_cases hask n6 n7 with ⟨rfl, a, b, rfl, ta, tb⟩ | ⟨rfl, a, b, c, d, rfl, ta, tb, tc, td⟩ | ⟨rfl, a, b, rfl, ta, tb⟩ | ⟨rfl, rfl⟩ | ⟨rfl, rfl⟩
    · obtain ⟨a1, a2, rfl, h1, h2⟩ : ∃ a1 a2, as = [a1, a2] ∧ H a1 = some (.lst (a.map V.int)) ∧ H a2 = some (.lst (b.map V.int)) := by
        cases has with | cons h1 has => cases has with | cons h2 has => cases has; exact ⟨_, _, rfl, h1, h2⟩
      rw [(text_is ta).1] at h1
      rw [(text_is tb).1] at h2
      refine ⟨_, rfl, rfl, _, rfl, ?_⟩
      rw [decide_eq_true rfl]
      exact ⟨_, rfl, Y.a, dx, _, rfl, i1, no (by decide +kernel) (by decide +kernel) (by decide +kernel), _, rfl, rl, _, _, _, rfl, rfl, SqL.of hrl, rfl, _, rfl, rl, _, _, _, rfl, rfl, SqL.of hrl, rfl,
        Y, a1, a2, _, _, rfl, hA, SqL.of h1, (text_is ta).2, SqL.of h2, (text_is tb).2, key rfl⟩
    · obtain ⟨a1, a2, a3, a4, rfl, h1, h2, h3, h4⟩ : ∃ a1 a2 a3 a4, as = [a1, a2, a3, a4] ∧ H a1 = some (.lst (a.map V.int)) ∧ H a2 = some (.lst (b.map V.int)) ∧ H a3 = some (.lst (c.map V.int)) ∧ H a4 = some (.lst (d.map V.int)) := by
        cases has with | cons h1 has => cases has with | cons h2 has => cases has with | cons h3 has => cases has with | cons h4 has => cases has; exact ⟨_, _, _, _, rfl, h1, h2, h3, h4⟩
      rw [(text_is ta).1] at h1
      rw [(text_is tb).1] at h2
      rw [(text_is tc).1] at h3
      rw [(text_is td).1] at h4
      refine ⟨_, rfl, rfl, _, rfl, ?_⟩
      rw [if_ne (by decide)]
      refine ⟨_, rfl, rfl, _, rfl, ?_⟩
      rw [decide_eq_true rfl]
      exact ⟨_, rfl, Y.a, dx, _, rfl, i1, no (by decide +kernel) (by decide +kernel) (by decide +kernel), _, rfl, rl, _, _, _, rfl, rfl, SqL.of hrl, rfl, _, rfl, rl, _, _, _, rfl, rfl, SqL.of hrl, rfl,
        _, rfl, rl, _, _, _, rfl, rfl, SqL.of hrl, rfl, _, rfl, rl, _, _, _, rfl, rfl, SqL.of hrl, rfl,
        Y, a1, a2, a3, a4, _, _, _, _, rfl, hA, SqL.of h1, (text_is ta).2, SqL.of h2, (text_is tb).2, SqL.of h3, (text_is tc).2, SqL.of h4, (text_is td).2, key rfl⟩
    · obtain ⟨a1, a2, rfl, h1, h2⟩ : ∃ a1 a2, as = [a1, a2] ∧ H a1 = some (.lst (a.map V.int)) ∧ H a2 = some (.lst (b.map V.int)) := by
        cases has with | cons h1 has => cases has with | cons h2 has => cases has; exact ⟨_, _, rfl, h1, h2⟩
      rw [(text_is ta).1] at h1
      rw [(text_is tb).1] at h2
      refine ⟨_, rfl, rfl, _, rfl, ?_⟩
      rw [if_ne (by decide)]
      refine ⟨_, rfl, rfl, _, rfl, ?_⟩
      rw [if_ne (by decide)]
      refine ⟨_, rfl, rfl, _, rfl, ?_⟩
      rw [decide_eq_true rfl]
      exact ⟨_, rfl, Y.a, dx, _, rfl, i1, no (by decide +kernel) (by decide +kernel) (by decide +kernel), _, rfl, rl, _, _, _, rfl, rfl, SqL.of hrl, rfl, _, rfl, rl, _, _, _, rfl, rfl, SqL.of hrl, rfl,
        Y, a1, a2, _, _, rfl, hA, SqL.of h1, (text_is ta).2, SqL.of h2, (text_is tb).2, key rfl⟩
    · refine ⟨_, rfl, rfl, _, rfl, ?_⟩
      rw [if_ne (by decide)]
      refine ⟨_, rfl, rfl, _, rfl, ?_⟩
      rw [if_ne (by decide)]
      refine ⟨_, rfl, rfl, _, rfl, ?_⟩
      rw [if_ne (by decide)]
      refine ⟨_, rfl, rfl, _, rfl, ?_⟩
      rw [decide_eq_true rfl]
      have hm := hmany rfl
      have hc := choA_len (k := keptOf Y) (by unfold keptOf; rw [List.length_map]; exact hA.few.1)
      exact ⟨_, rfl, Y.a, dx, _, rfl, i1, no (by decide +kernel) (by decide +kernel) (by decide +kernel), Y, rfl, hA, hT, hm, fun H' q j hA' nq hq => k H' Y q _ (step_choose hm) hc.1 hc.2 (j.did hA') (fun o e => by rw [nq] at e; cases e) hq⟩
    · refine ⟨_, rfl, rfl, _, rfl, ?_⟩
      rw [if_ne (by decide)]
      refine ⟨_, rfl, rfl, _, rfl, ?_⟩
      rw [if_ne (by decide)]
      refine ⟨_, rfl, rfl, _, rfl, ?_⟩
      rw [if_ne (by decide)]
      refine ⟨_, rfl, rfl, _, rfl, ?_⟩
      rw [if_ne (by decide)]
      exact ⟨_, rfl, Y.a, dx, _, rfl, i1, no (by decide +kernel) (by decide +kernel) (by decide +kernel), Y, rfl, hA, key rfl⟩
end
end VP
namespace VP
open PySem PySem.Spec PyProof.Rows L2 VO VM
open Rb19 (B Word Version Span)
abbrev CallR := List (List Int)
def aft (s : Rb19.Kept) (cs : List CallR) : Rb19.Kept := cs.foldl (fun s c => (Rb19Neutral.step s c).1) s
theorem played_snoc : ∀ (cs : List CallR) (s : Rb19.Kept) (c : CallR), PyFlat.played Rb19Neutral.step s (cs ++ [c]) = PyFlat.played Rb19Neutral.step s cs ++ [(Rb19Neutral.step (aft s cs) c).2]
  | [], s, c => rfl
  | d :: cs, s, c => by
    show _ :: PyFlat.played Rb19Neutral.step (Rb19Neutral.step s d).1 (cs ++ [c]) = _
    rw [played_snoc cs]
    rfl
theorem told_snoc (l : List (List Int)) (x : List Int) : PyFlat.told (l ++ [x]) = PyFlat.told l ++ ((x.length : Int) :: x) := by
  unfold PyFlat.told
  rw [List.flatMap_append]
  show _ ++ (((x.length : Int) :: x) ++ []) = _
  rw [List.append_nil]
theorem aft_snoc (s : Rb19.Kept) (cs : List CallR) (c : CallR) : aft s (cs ++ [c]) = (Rb19Neutral.step (aft s cs) c).1 := by
  unfold aft
  rw [List.foldl_append]
  rfl
def givenAt (cs : List CallR) (i : Nat) : List Int := PyFlat.told (PyFlat.played Rb19Neutral.step Rb19Neutral.start (cs.take i))
theorem takeSnoc {α : Type} {l : List α} {i : Nat} {x : α} (h : l[i]? = some x) : l.take (i + 1) = l.take i ++ [x] := by
  rw [List.take_add_one, h]
  rfl
theorem right_cons {s : Rb19.Kept} {p : Int} {xs : List (List Int)} {r : List CallR} (h : Rb19Neutral.right s (([p] :: xs) :: r) = true) (ha : Rb19Neutral.asked1 ([p] :: xs) = true) : (p = 4 → Rb19Neutral.many s ≤ 400) ∧ Rb19Neutral.right (Rb19Neutral.step s ([p] :: xs)).1 r = true := by
  have h : ((match ([p] :: xs : CallR) with
    | [[4]] => decide (Rb19Neutral.many s ≤ 400)
    | _ => true) && Rb19Neutral.right (Rb19Neutral.step s ([p] :: xs)).1 r) = true := h
  rw [Bool.and_eq_true] at h
  refine ⟨fun e => ?_, h.2⟩
  subst e
  rcases asked_cases ha (by decide) (by decide) with ⟨z, _⟩ | ⟨z, _⟩ | ⟨z, _⟩ | ⟨_, rfl⟩ | ⟨z, _⟩
  · cases z
  · cases z
  · cases z
  · exact of_decide_eq_true h.1
  · cases z
section
variable {P : Program} {w : World} {C : Cs} {PT : Addr} {H H' : Hp} {S : SesS}
theorem At.other {g : Addr} {od : Obj} {u : HO} (h : At P w C H S) (hg : H g = some (.frz od u)) (o : HO) : At P w C (upd H g o) S := by
  have fx : Fix (fun b => b = g) H (upd H g o) := Fix.upd (Fix.refl _ _) (.inl rfl)
  have ht : ∀ b xs, H b = some (.tup xs) → ¬ b = g := fun b xs e z => by rw [z, hg] at e; cases e
  have hi : ∀ b c d fs, H b = some (.ins c d fs) → ¬ b = g := fun b c d fs e z => by rw [z, hg] at e; cases e
  have hl : ∀ b xs, H b = some (.lst xs) → ¬ b = g := fun b xs e z => by rw [z, hg] at e; cases e
  obtain ⟨dx, h1⟩ := h.ins
  refine ⟨⟨dx, fx _ _ h1 (hi _ _ _ _ h1)⟩, fx _ _ h.pl (hl _ _ h.pl), fx _ _ h.nd (fun z => by have := h.nd; rw [z, hg] at this; cases this), fx _ _ h.wl (hl _ _ h.wl), fun p k e => ?_, fun p i r e => ?_, fun t y e => ?_, h.on, h.few, h.names, h.inj, h.injV, h.injN⟩
  · have q := h.packs p k e
    obtain ⟨xs, g1, _⟩ := q.dict
    exact q.fix fx ht hi (hl _ _ q.lst) fun z => by rw [z, hg] at g1; cases g1
  · have q := h.rels p i r e
    exact q.fix fx ht hi (hl _ _ q.lst)
  · have q := h.asks t y e
    obtain ⟨kvs, g1, _⟩ := q.dict
    exact q.fix fx ht hi (fun b vs n e => ⟨n, hl _ _ e⟩) ⟨[], by simp⟩ fun z => by rw [z, hg] at g1; cases g1
theorem Tab.other {g : Addr} {o u : HO} (h : Tab H S PT) (hg : H g = some u) (n1 : ∀ ps, u ≠ .tbl ps) (n2 : ∀ φ, u ≠ .ext φ) : Tab (upd H g o) S PT := by
  have e : ∀ b v, H b = some v → u ≠ v → upd H g o b = some v := fun b v e ne => by
    rw [upd_ne fun z => by rw [z, hg] at e; cases e; exact ne rfl]
    exact e
  rcases h with h | ⟨c, h, hc, nm⟩
  · exact .inl (e _ _ h (n1 _))
  · exact .inr ⟨c, e _ _ h (n1 _), e _ _ hc (n2 _), nm⟩
theorem At.start {p l n u dx : Addr} (h1 : H p = some (.ins C.S dx (fSes (.ref l) (.ref n) (.ref u)))) (h2 : H l = some (.lst [])) (h3 : H n = some (.dT [])) (h4 : H u = some (.lst [])) (ne : l ≠ u) : At P w C H ⟨p, l, n, u, [], []⟩ := by
  have na : ∀ (s : ASlot) (x : AskS), askAt ⟨p, l, n, u, [], []⟩ s = some x → False := fun s x e => by
    cases s with
    | w j => cases e
    | r p i j => cases e
  refine ⟨⟨dx, h1⟩, h2, h3, h4, (fun q k e => by cases e), (fun q i r e => by cases e), (fun s x e => (na s x e).elim), (fun s x e => (na s x e).elim), ⟨Nat.zero_le _, Nat.zero_le _⟩, List.nodup_nil, (fun s t a e1 e2 => ?_), (fun s t x y e _ => (na s x e).elim), (fun q r k l e => by cases e)⟩
  cases s with
  | pl =>
    cases t with
    | pl => rfl
    | wl => cases e1; cases e2; exact absurd rfl ne
    | rl q => cases e2
    | al q i => cases e2
  | wl =>
    cases t with
    | wl => rfl
    | pl => cases e1; cases e2; exact absurd rfl ne
    | rl q => cases e2
    | al q i => cases e2
  | rl q => cases e1
  | al q i => cases e1
theorem MU.start {p l n u b : Addr} (h : MU ⟨p, l, n, u, [], []⟩ b) : b = l ∨ b = n ∨ b = u := by
  rcases h with ⟨s, e⟩ | ⟨s, x, hx, _⟩ | h | ⟨q, k, e, _⟩
  · cases s with
    | pl => cases e; exact .inl rfl
    | wl => cases e; exact .inr (.inr rfl)
    | rl q => cases e
    | al q i => cases e
  · cases s with
    | w j => cases hx
    | r p i j => cases hx
  · exact .inr (.inl h)
  · cases e
end
def spAnswers (P : Program) (w : World) (C : Cs) (PT : Addr) (K : PySem.W.Frag) : Sp := fun vs H Q _ => ∃ (a : Addr) (ns : List Int) (cs : List CallR), vs = [.ref a] ∧ SqL K H a (ns.map V.int) ∧ H PT = some (.tbl #[]) ∧ PyFlat.calls PyRb19.shape ns.length ns = some cs ∧ cs.length ≤ 150 ∧ ns.length ≤ 100000 ∧
  (∀ c ∈ cs, Rb19Neutral.asked1 c = true ∧ (c.headD []).headD 0 ≠ 6 ∧ (c.headD []).headD 0 ≠ 7) ∧ Rb19Neutral.right Rb19Neutral.start cs = true ∧
  ∀ (H' : Hp) (q : Addr), H' q = some (.lst ((PyFlat.told (PyFlat.played Rb19Neutral.step Rb19Neutral.start cs)).map V.int)) → Q (.ref q) H'
section
variable {P : Program} {w : World} {K : PySem.W.Frag} {mg : Str → Option Value} {base : Heap} {f : Addr} {fd : FuncData} {C : Cs} {PT : Addr}
theorem scAnswers : FnScope ["calls", "session", "given", "number", "rows", "one"] ["calls"] (defScope sAnswers) := ⟨rfl, rfl, rfl, by decide +kernel, rfl, by decide +kernel, by decide +kernel⟩
theorem ok_answers {fo : Addr} {fdo : FuncData} (D : Def K mg "answers" sAnswers ["calls"] f fd) (DO : ODef K mg base fo fdo PT) (S : SDefs K mg C) (Z : KDefs K mg) (N : NDefs K mg) (A' : ADefs K mg) : FnOk P w K mg base CX0 11 f fd ["calls"] (spAnswers P w C PT K) := by
  have T := S.D.V.T
  obtain ⟨f1, fd1, D1⟩ := S.iS
  obtain ⟨f2, fd2, D2⟩ := A'.sp
  obtain ⟨f3, fd3, D3⟩ := A'.an
  have G1 : FnOk P w K mg base CX0 9 f1 fd1 ["self"] (spIS C) := (ok_initS D1 S).mono (by decide)
  have G2 : FnOk P w K mg base CX0 10 f2 fd2 ["calls"] (spSplit K) := (ok_split D2 T A'.R).mono (by decide)
  have G3 : FnOk P w K mg base CX0 10 f3 fd3 ["session", "number", "rows"] (spAnswer P w C PT) := ok_answer D3 DO S Z N A'
  refine D.F.ok scAnswers (fun vs H Q E h => ?_) (fun cdv A outer s H vs Q E hr h => ?_)
  · obtain ⟨a, ns, cs, rfl, _⟩ := h
    rfl
  · obtain ⟨a, ns, cs, rfl, hS, hPT, hcs, hlen, hns, hask, hright, k⟩ := h
    refine ⟨_, pss_cons (ps_set (i := 1) scAnswers.nd rfl (Or.inl rfl) (pe_make0 D1.mak G1 hr rfl S.cS.at_ D1.b .nil pass0))
      (pss_cons (ps_set (i := 2) scAnswers.nd rfl (Or.inl rfl) (pe_lst pa_nil))
      (pss_cons (ps_for PassesOwn.never rfl (pi_list (pe_call G2 hr rfl D2.at_ D2.F.kp D2.b .nil pass0 (pa_cons (pv 0) pa_nil))) (pg_tup rfl (pgs_cons (pg_name (i := 3) scAnswers.nd rfl (Or.inl rfl)) (pgs_cons (pg_name (i := 4) scAnswers.nd rfl (Or.inl rfl)) pgs_nil)))
        (pss_cons (ps_set (i := 5) scAnswers.nd rfl (Or.inl rfl) (pe_lock (pe_call G3 hr rfl D3.at_ D3.F.kp D3.b .nil pass0 (pa_cons (pv 1) (pa_cons (pv 3) (pa_cons (pv 4) pa_nil))))))
        (pss_cons (ps_expr (pe_bm PySem.F.plainAttrs_list PySem.F.slot_list_append PySem.F.type_list_append mt_append (pv 2) (pa_cons (pe_callB call_len_seq rfl T.len PySem.boot_len (pa_cons (pv 5) pa_nil)) pa_nil)))
        (pss_one (ps_expr (pe_bm PySem.F.plainAttrs_list PySem.F.slot_list_extend PySem.F.type_list_extend mt_extend (pv 2) (pa_cons (pv 5) pa_nil)))))))
      (pss_one (ps_ret (pv 2))))), ?_⟩
    intro sa dk nsa ndk ndx
    refine ⟨sa, dk, rfl, upd_same, fun H1 l n u kp nlu g1 g2 g3 g4 => ⟨rfl, ?_⟩⟩
    have s1 : Same H H1 := Same.made nsa ndk kp
    have hA1 : At P w C H1 ⟨sa, l, n, u, [], []⟩ := At.start g1 g2 g3 g4 nlu
    refine ⟨Nat.zero_le _, fun g hg => ?_⟩
    have s2 : Same H1 (upd H1 g (.lst [])) := same_upd hg
    have s12 := s1.trans s2
    refine ⟨_, rfl, a, ns, cs, rfl, s12.seq hS, hcs, hlen, hns, fun H3 q ts s3 nq hq hts => ?_⟩
    have ngM : ¬ MU ⟨sa, l, n, u, [], []⟩ g := fun z => by
      rcases MU.start z with z | z | z
      · rw [z, g2] at hg; cases hg
      · rw [z, g3] at hg; cases hg
      · rw [z, g4] at hg; cases hg
    have new : ∀ b, upd H1 g (.lst []) b = none → ¬ MU ⟨sa, l, n, u, [], []⟩ b ∧ b ≠ g := by
      intro b e
      constructor
      · intro z
        rcases MU.start z with z | z | z
        · rw [z, s2 _ _ g2] at e; cases e
        · rw [z, s2 _ _ g3] at e; cases e
        · rw [z, s2 _ _ g4] at e; cases e
      · intro z
        rw [z, upd_same] at e
        cases e
    have hgq : H3 g = some (.lst []) := s3 _ _ upd_same
    have lts := paired_len hts
    refine ⟨q, rfl, ⟨_, SqL.of hq⟩, for_list (K := K) (a := q) (xs := ts.map V.ref) (fun i σ H' => ∃ (S : SesS) (v3 v4 v5 : Option V), σ = [some (.ref a), some (.ref sa), some (.ref g), v3, v4, v5] ∧ S.a = sa ∧ (∀ o, At P w C (upd H' g o) S) ∧ Tab H' S PT ∧ keptOf S = aft Rb19Neutral.start (cs.take i) ∧
        H' g = some (.lst ((givenAt cs i).map V.int)) ∧ ¬ MU S g ∧ (givenAt cs i).length ≤ 34 * i ∧ H' q = some (.lst (ts.map V.ref)) ∧ ¬ MU S q ∧ q ≠ g ∧ Paired (CallAt (fun b => ¬ MU S b ∧ b ≠ g) H') ts cs ∧ Rb19Neutral.right (keptOf S) (cs.drop i) = true)
      ⟨_, none, none, none, rfl, rfl, fun o => ?_, ?_, rfl, hgq, ngM, Nat.zero_le _, hq, (new q nq).1, (new q nq).2, L2.Paired.mapP hts fun t c h => ?_, hright⟩ (fun i σ H' _ h => ?_) ?_ ?_⟩
    · have e : Same H1 (upd H3 g o) := fun b v e => by
        rw [upd_ne (ne_of_none e hg)]
        exact s3 _ _ (s2 _ _ e)
      exact hA1.same e
    · exact .inl (s3 _ _ (s12 _ _ hPT))
    · obtain ⟨p, xs, rl, as, h1, h2, h3, h4, h5⟩ := h
      exact ⟨p, xs, rl, as, h1, h2, new rl h3.1, h4, L2.Paired.mapP h5 fun b x h => ⟨new b h.1.1, h.2⟩⟩
    · obtain ⟨S, v3, v4, v5, _, _, _, _, _, _, _, _, h, _⟩ := h
      exact SqL.of h
    · rintro i x σ H4 hi ⟨Y, v3, v4, v5, rfl, hYa, hA, hT, hk, hgl, ngY, hgn, hq4, nqY, nqg, hP, hR⟩
      rw [List.getElem?_map] at hi
      obtain ⟨t, ht, rfl⟩ := Option.map_eq_some_iff.mp hi
      obtain ⟨c, hc, hct⟩ := paired_at hP ht
      obtain ⟨p, xs, rl, as, rfl, ht1, nrl, hrl, has⟩ := hct
      have hic : i < cs.length := (List.getElem?_eq_some_iff.mp hc).1
      obtain ⟨ha1, ha6, ha7⟩ := hask _ (List.mem_of_getElem? hc)
      have hdrop : cs.drop i = ([p] :: xs) :: cs.drop (i + 1) := by
        rw [List.drop_eq_getElem_cons hic]
        congr 1
        exact (List.getElem?_eq_some_iff.mp hc).2
      rw [hdrop] at hR
      obtain ⟨hR4, hR⟩ := right_cons hR ha1
      refine ⟨t, _, rfl, SqT.of ht1, rfl, _, _, rfl, _, _, rfl, rfl, ?_⟩
      refine ⟨g, _, hgl, True.intro, fun od => ?_⟩
      have hAl := hA (.frz od (.lst ((givenAt cs i).map V.int)))
      have hTl : Tab (upd H4 g (.frz od (.lst ((givenAt cs i).map V.int)))) Y PT := hT.other hgl (fun _ z => by cases z) (fun _ z => by cases z)
      obtain ⟨psT, hPT4⟩ := hT.tbl
      have ngP : g ≠ PT := fun z => by rw [z, hPT4] at hgl; cases hgl
      refine ⟨_, rfl, _, rfl, _, rfl, Y, p, xs, rl, as, by rw [hYa]; rfl, hAl, hTl, by rw [upd_ne nrl.2]; exact hrl, L2.Paired.mapP has fun b y e => by rw [upd_ne e.1.2]; exact e.2, ha1, ha6, ha7, hR4, fun H5 Y' one l hstep l1 l33 did new5 h5 => ?_⟩
      have hg5 : H5 g = some (.frz od (.lst ((givenAt cs i).map V.int))) := did.fix _ _ upd_same fun z => z.elim ngY ngP
      refine ⟨hg5, ?_⟩
      have n5g : one ≠ g := fun z => by
        subst z
        exact (new5 _ upd_same).elim ngY ngP
      have h5' : upd H5 g (.lst ((givenAt cs i).map V.int)) one = some (.lst (l.map V.int)) := by rw [upd_ne n5g]; exact h5
      refine ⟨_, rfl, .inl ⟨rfl, _, SqL.of upd_same⟩, _, rfl, one, _, rfl, .inl (SqL.of h5'), g, _, _, rfl, rfl, upd_same, ?_, ?_⟩
      · rw [List.length_map]
        exact Nat.lt_of_le_of_lt hgn (Nat.lt_of_lt_of_le (show 34 * i < 6000 by omega) (by decide))
      refine ⟨_, rfl, .inl ⟨rfl, _, SqL.of upd_same⟩, _, rfl, g, one, _, _, rfl, rfl, upd_same, by rw [upd_ne n5g]; exact h5', ?_, ?_⟩
      · rw [List.length_append, List.length_map, List.length_map]
        show _ + 1 + _ ≤ _
        exact Nat.le_trans (show (givenAt cs i).length + 1 + l.length ≤ 6000 by omega) (by decide)
      rw [upd_upd, upd_upd, List.length_map]
      have etk := takeSnoc hc
      have est : Rb19Neutral.step (aft Rb19Neutral.start (cs.take i)) ([p] :: xs) = (keptOf Y', l) := by rw [← hk]; exact hstep
      have egv : givenAt cs (i + 1) = givenAt cs i ++ ((l.length : Int) :: l) := by
        unfold givenAt
        rw [etk, played_snoc, told_snoc, est]
      have egl : (givenAt cs i).map V.int ++ [V.int ((l.length : Nat) : Int)] ++ l.map V.int = (givenAt cs (i + 1)).map V.int := by
        rw [egv, List.map_append, List.append_assoc]
        rfl
      rw [egl]
      have ngY' : ¬ MU Y' g := fun z => (did.grow g z).elim ngY fun e => by rw [upd_same] at e; cases e
      have keepL : ∀ b o, H4 b = some o → (∀ ps, o ≠ .tbl ps) → ¬ MU Y b → b ≠ g → upd H5 g (.lst ((givenAt cs (i + 1)).map V.int)) b = some o := fun b o e no nm nb => by
        rw [upd_ne nb]
        refine did.fix _ _ (by rw [upd_ne nb]; exact e) fun z => z.elim nm fun z => ?_
        rw [z, hPT4] at e
        cases e
        exact no _ rfl
      have nmu : ∀ b o, H4 b = some o → ¬ MU Y b → ¬ MU Y' b := fun b o e nm z => (did.grow b z).elim nm fun z => by
        by_cases hb : b = g
        · rw [hb, upd_same] at z; cases z
        · rw [upd_ne hb, e] at z; cases z
      refine ⟨Y', _, _, _, rfl, did.self.trans hYa, fun o => ?_, did.tab.other hg5 (fun _ z => by cases z) (fun _ z => by cases z), ?_, upd_same, ngY', ?_, ?_, nmu _ _ hq4 nqY, nqg, L2.Paired.mapP hP fun t' c' h => ?_, ?_⟩
      · rw [upd_upd]
        exact did.at_.other hg5 o
      · rw [etk, aft_snoc, est]
      · rw [egv, List.length_append, List.length_cons]
        omega
      · exact keepL _ _ hq4 (fun _ z => by cases z) nqY nqg
      · obtain ⟨p', xs', rl', as', e1, e2, e3, e4, e5⟩ := h
        have tM : ¬ MU Y t' := fun z => by
          by_cases hb : t' = g
          · rw [hb, hgl] at e2; cases e2
          · obtain ⟨o, e, no, _⟩ := hAl.mu_some z
            rw [upd_ne hb, e2] at e
            cases e
            exact no _ rfl
        refine ⟨p', xs', rl', as', e1, keepL _ _ e2 (fun _ z => by cases z) tM (fun z => by rw [z, hgl] at e2; cases e2), ⟨nmu _ _ e4 e3.1, e3.2⟩, keepL _ _ e4 (fun _ z => by cases z) e3.1 e3.2, L2.Paired.mapP e5 fun b y e => ⟨⟨nmu _ _ e.2 e.1.1, e.1.2⟩, keepL _ _ e.2 (fun _ z => by cases z) e.1.1 e.1.2⟩⟩
      · rw [hstep] at hR
        exact hR
    · rintro σ H4 ⟨Y, v3, v4, v5, rfl, _, _, _, _, hgl, _⟩
      rw [List.length_map, lts] at hgl
      refine ⟨_, rfl, k H4 g ?_⟩
      rw [hgl]
      unfold givenAt
      rw [List.take_length]
end
end VP
namespace VP
open PySem PySem.Spec PyProof.Rows L2 PySem.W
section
variable {P : Program} {w : World} {K : PySem.W.Frag}
theorem argH_seq {h : Heap} {A : List Addr} (ar : ∀ a ∈ A, ArgOb h A a) {b : Addr} {o : Obj} (e : h.get? b = some o) (d : ∀ vs n, o.data ≠ .seq vs n) : argH K h A b = none := by
  cases q : argH K h A b with
  | none => rfl
  | some u =>
    obtain ⟨_, vs, _, _, ⟨e2, _⟩ | ⟨e2, _⟩⟩ := argH_is ar q
    · rw [e2] at e
      cases e
      exact absurd rfl (d _ _)
    · rw [e2] at e
      cases e
      exact absurd rfl (d _ _)
theorem specT_call {mg mb : Str → Option Value} {k : Nat} {fa c PT : Addr} {fd : FuncData} {ps : List Str} {sp : Sp} {s1 : Shared} {vals : List Value} {ds : List WData} {R : PySem.W.WRecords} {cl : Str → Option Addr} {d0 : WData}
    (KX : K.In s1.heap) (hns : s1.heap.Ns mainGlobals mg) (hb : s1.heap.Ns builtinsNs mb) (hbb : ∀ x : Str, x ≠ "__name__" → mb x = bootBuiltins x) (hlim : s1.heap.NoLimit) (hg : s1.gens = #[])
    (hwl : WellAll w.params s1.heap vals ds) (hpl : plWs ds = true) (hwt : ∀ d ∈ ds, d.weight ≤ 1048576) (hr : Room k callerA)
    (hC : CodeHd s1.heap c PT) (hT : s1.heap.get? PT = some (tabObj #[])) (hnt : noTabs K = true)
    (hbm : ∃ bm ob, mg "__builtins__" = some (.ref bm) ∧ bm ≠ builtinsNs ∧ s1.heap.get? bm = some ob ∧ ob.cls = .type "module" ∧ ob.dict = some builtinsNs ∧ ob.data = .plain)
    (F : ∀ base : Heap, K.In base → base.Ns mainGlobals mg → LamK mg base c PT → FnOk P w K mg base CX0 k fa fd ps sp) (hbind : ∀ (s : Shared) (us : List Value), us.length = ps.length → BindsTo s fd ⟨us, []⟩ (ps.zip us)) (hlen : ds.length = ps.length)
    (hsp : ∀ (H0 H : Hp) (xs : List V), DwAll K H0 xs ds → Same H0 H → H PT = some (.tbl #[]) → sp xs H (fun v H' => Dw K H' v d0) fun _ _ _ => False) :
    codeAny (model P w) callerA (.call (.ref fa) ⟨vals, []⟩) (fun r s' => ∃ u as, r = .ok (.ret u) ∧ ReadsW R cl s'.heap u d0 as ∧ OldK s1.heap s'.heap ∧ s'.os = s1.os ∧ AllBare s'.gens) s1 := by
  obtain ⟨A, ho, ar⟩ := area_all ds vals hwl hpl hwt
  have hO0 : OnlyF (argH K s1.heap A) := argH_only ar
  have hok0 : HOk P w (argH K s1.heap A) s1.heap := argH_ok ar
  have hS := dw_all KX ar ds vals hwl hpl ho
  have hV := vals_toV ho
  have hK0 : ∀ b u, argH K s1.heap A b = some u → K.lookup b = none := fun b u q => (argH_is ar q).1
  have noA0 : ∀ {b : Addr} {o : Obj}, s1.heap.get? b = some o → (∀ vs n, o.data ≠ .seq vs n) → argH K s1.heap A b = none := fun e d => argH_seq ar e d
  have hP0 : argH K s1.heap A PT = none := noA0 hT fun vs n z => by cases z
  generalize argH K s1.heap A = H0 at hO0 hok0 hS hK0 noA0 hP0
  have sm : Same H0 (upd H0 PT (.tbl #[])) := fun b o e => by rw [upd_ne (ne_of_none e hP0)]; exact e
  have hH : ∀ b, b ≠ PT → upd H0 PT (.tbl #[]) b = H0 b := fun b n => upd_ne n
  have hHP : upd H0 PT (.tbl #[]) PT = some (.tbl #[]) := upd_same
  have hok : HOk P w (upd H0 PT (.tbl #[])) s1.heap := fun b o e => by
    by_cases hb : b = PT
    · subst hb
      rw [upd_same] at e
      cases e
      exact hT
    · rw [upd_ne hb] at e
      exact (hok0 b o e).stay (fun _ _ _ q => q) (fun _ q => sm _ _ q) fun _ _ q => sm _ _ q
  generalize upd H0 PT (.tbl #[]) = H at sm hH hHP hok
  have base_of : ∀ {b : Addr} {o : Obj}, s1.heap.get? b = some o → H b = none → (hidT s1.heap H).get? b = some o := fun e n => hidT_get e n
  have noA : ∀ {b : Addr} {o : Obj}, s1.heap.get? b = some o → (∀ vs n, o.data ≠ .seq vs n) → o ≠ tabObj #[] → H b = none := fun {b o} e d n => by
    rw [hH b fun z => by rw [z, hT] at e; cases e; exact n rfl]
    exact noA0 e d
  have nsK : ∀ {b : Addr} {m : Str → Option Value}, s1.heap.Ns b m → (hidT s1.heap H).Ns b m := fun {b m} ⟨o, es, ep, e, d, r⟩ => ⟨o, es, ep, base_of e (noA e (fun vs n z => by rw [d] at z; cases z) fun z => by rw [z] at d; cases d), d, r⟩
  have nKT : ∀ b o, K.lookup b = some o → b ≠ PT := fun b o e z => by
    have e2 := KX b o e
    rw [z, hT] at e2
    cases e2
    have h2 := List.all_eq_true.mp hnt (b, tabObj #[]) (mem_of_lookupK e)
    exact absurd (show false = true from h2) Bool.false_ne_true
  have nK : ∀ b o, K.lookup b = some o → H b = none := fun b o e => by
    rw [hH b (nKT b o e)]
    cases q : H0 b with
    | none => rfl
    | some u =>
      rw [hK0 b u q] at e
      cases e
  have hKb : K.In (hidT s1.heap H) := fun b o e => base_of (KX b o e) (nK b o e)
  have hM : Mod K mg (hidT s1.heap H) := ⟨hKb, nsK hns, ⟨mb, nsK hb, hbb⟩, let ⟨mc, h1, h2⟩ := hlim; ⟨mc, nsK h1, h2⟩⟩
  have e0 : Env0 P w K mg (hidT s1.heap H) callerA [] s1 H := ⟨rfl, hM, fun b o e => of_hidT e, Nat.le_of_eq (hidT_size _ _), trivial, fun b hb => absurd (show b ∈ ([] : List Addr) from hb) (by simp), hok, .of_eq hg⟩
  have hl : vals.length = ps.length := by rw [wellAll_len hwl]; exact hlen
  have hL : LamK mg (hidT s1.heap H) c PT := by
    refine ⟨?_, ?_, ?_⟩
    · obtain ⟨o, vs, file, tf, flags, tg, inF, text, tt, e1, r1, r2, r⟩ := hC
      exact ⟨o, vs, file, tf, flags, tg, inF, text, tt, base_of e1 (noA e1 (fun vs' n z => by rw [r2] at z; cases z) fun z => by rw [z] at r1; cases r1), r1, r2, r⟩
    · obtain ⟨bm, ob, b1, b2, b3, b4, b5, b6⟩ := hbm
      refine ⟨bm, ob, b1, b2, fun z => ?_, fun z => ?_, base_of b3 (noA b3 (fun vs n z => by rw [b6] at z; cases z) fun z => by rw [z] at b4; cases b4), b4, b5, b6⟩
      · obtain ⟨o, es, ep, e, d, _⟩ := hns
        rw [z, e] at b3
        cases b3
        rw [d] at b6
        cases b6
      · rw [z, hT] at b3
        cases b3
        cases b4
    · intro z
      obtain ⟨o, es, ep, e, d, _⟩ := hns
      rw [z, hT] at e
      cases e
      cases d
  refine codeAny_mono ((F _ hKb (nsK hns) hL).run callerA [] s1 H ⟨vals, []⟩ vals (vals.map toV) _ _ hr e0 (hbind s1 vals hl) hV (hsp H0 H _ hS sm hHP)) fun r s' x => ?_
  cases r with
  | error e => exact False.elim x
  | ok fl =>
    cases fl with
    | next => exact False.elim x
    | brk => exact False.elim x
    | cont => exact False.elim x
    | ret u =>
      obtain ⟨v, H', os, bare, un, hok', r', q⟩ := x
      have kept : ∀ b o, b ≠ PT → s1.heap.get? b = some o → s'.heap.get? b = some o := fun b o nb e => by
        cases q2 : H b with
        | none => exact un.keep b o e q2 (by intro z; exact absurd (show b ∈ ([] : List Addr) from z) (by simp)) (by simp)
        | some u2 =>
          have q3 := q2
          rw [hH b nb] at q3
          rcases hO0 b with z | ⟨ob, u3, z⟩
          · rw [q3] at z
            cases z
          · rw [z] at q3
            cases q3
            have z2 := un.frzs b ob _ q2
            obtain ⟨e1, _⟩ := hok b _ q2
            obtain ⟨e2, _⟩ := hok' b _ z2
            rw [e] at e1
            cases e1
            exact e2
      obtain ⟨more, hm⟩ := un.tbls PT #[] hHP
      have hT' : s'.heap.get? PT = some (tabObj (#[] ++ more)) := hok' PT _ hm
      have KX' : K.In s'.heap := fun b o e => kept b o (nKT b o e) (KX b o e)
      obtain ⟨as, hrd⟩ := Dw.reads (R := R) (cl := cl) hok' KX' d0 v u q r'
      refine ⟨u, as, rfl, hrd, ⟨fun b o e => ?_, fun b o e => ?_⟩, os, bare⟩
      · by_cases hb : b = PT
        · subst hb
          rw [hT] at e
          cases e
          exact .inr (.inl ⟨(hC.tab hT).isCodeTable, rfl, #[], more, rfl, hT'⟩)
        · exact .inl (kept b o hb e)
      · by_cases hb : b = PT
        · subst hb
          exact ⟨_, hT'⟩
        · exact ⟨o, kept b o hb e⟩
end
theorem walk_specT {r : OpenSpec} {k : Nat} {q : Program} {loose : List Str} {XP : (Str → Option Value) → Heap → Prop} {YP : World → Heap → Prop} {d dx : DefRec} {K : Params → PySem.W.Frag} {ps : List Str} {x : Str}
    (hwell : r.wellSaid = true) (hdf : d.params.defaults = []) (hlen : r.args.length = ps.length) (hr : Room k callerA)
    (hY : ∀ (w : World) (h : Heap), YP w h → (K w.params).In h) (hdx : (recsOf q).find? (fun e => e.name == x) = some dx)
    (F : ∀ (w : World) (mg : Str → Option Value) (fa : Addr) (h : Heap), YP w h → (K w.params).In h → h.Ns mainGlobals mg → mg d.name = some (.ref fa) →
      ∃ (fd : FuncData) (c PT : Addr) (sp : Sp), noTabs (K w.params) = true ∧ tabIn (K w.params) x = some (c, PT) ∧ (∀ (s : Shared) (us : List Value), us.length = ps.length → BindsTo s fd ⟨us, []⟩ (ps.zip us)) ∧
        (∀ base : Heap, (K w.params).In base → base.Ns mainGlobals mg → LamK mg base c PT → FnOk r.prog w (K w.params) mg base CX0 k fa fd ps sp) ∧
        ∀ (H0 H : Hp) (xs : List V) (a : Codec.denoteAll r.args), Codec.withinAll r.args a = true → Codec.app r.args r.asked a = true → DwAll (K w.params) H0 xs (Codec.encAll r.args a) → Same H0 H → H PT = some (.tbl #[]) →
          sp xs H (fun v H' => Dw (K w.params) H' v (r.ret.enc (Codec.app r.args r.f a))) fun _ _ _ => False) :
    PySem.W.WalkOS q loose XP YP r d [] (fun f vs => PySem.call f vs) := by
  intro w s_0 s1 mg mb G Y fa o pm cd doc dV kV ho hd hcd hD hmg hg args vals as hpre hlay hrd hwl hlo
  obtain ⟨a, e1, e2⟩ := PySem.W.os_pre_some hpre
  obtain ⟨e3, hwi⟩ := Codec.encAll_of_decAll r.args args a e1
  subst e3
  have KX := hY w _ Y
  obtain ⟨fd, c, PT, sp, hnt, hti, hb, hF, hsp⟩ := F w mg fa _ Y KX G.T.g hmg
  obtain ⟨hC, hT⟩ := tab_of G.T KX hdx hti
  refine PySem.W.enter_call (codeAny_mono (specT_call (R := []) (cl := classAt s_0.heap) (d0 := r.ret.enc (Codec.app r.args r.f a)) KX G.T.g G.T.b G.T.builtins G.T.nolimit hg hwl (pl_encAll _ _) (layable_weight hlay) hr hC hT hnt G.T.bmain hF hb (by rw [encAll_len]; exact hlen)
    fun H0 H xs h1 h2 h3 => hsp H0 H xs a hwi e2 h1 h2 h3) fun r' s' hq => ?_)
  obtain ⟨u, as', rfl, h1, h2, h3, h4⟩ := hq
  exact ⟨.inl ⟨u, _, as', rfl, fun _ => rfl, h1, (OpenSpec.post_iff hwell hwi _ _).mpr rfl, fun z => Bool.noConfusion (show false = true from z)⟩, h2, h3, h4⟩
end VP
namespace VP
open PySem PySem.Spec PyProof.Rows L2 VO VM
open PySem.W (Codec)
theorem asked_is {l : List Int} (h : PyRb19.answers_asked l = true) : ∃ cs, PyFlat.calls PyRb19.shape l.length l = some cs ∧ PyRb19.answers l = PyFlat.told (PyFlat.played Rb19Neutral.step Rb19Neutral.start cs) ∧ cs.length ≤ 150 ∧
    (∀ c ∈ cs, Rb19Neutral.asked1 c = true ∧ (c.headD []).headD 0 ≠ 6 ∧ (c.headD []).headD 0 ≠ 7) ∧ Rb19Neutral.right Rb19Neutral.start cs = true := by
  unfold PyRb19.answers_asked at h
  cases e : PyRb19.calls l with
  | none => rw [e] at h; cases h
  | some cs =>
    rw [e] at h
    have h : (PyFlat.atMost 150 cs && Rb19Neutral.asked cs) = true := h
    rw [Bool.and_eq_true] at h
    have hc := VS.calls_some e
    refine ⟨cs, hc, by unfold PyRb19.answers; rw [e], of_decide_eq_true h.1, ?_⟩
    have no : ∀ (p : Int) (xs : List (List Int)) (ds : List CallR), PyRb19.shape p = none → cs ≠ ([p] :: xs) :: ds := fun p xs ds hs z => by
      cases l with
      | nil => cases hc; cases z
      | cons a r =>
        obtain ⟨g, k, ys, t, es, h1, _, _, h2⟩ := calls_cons hc
        rw [h2] at z
        cases z
        rw [hs] at h1
        cases h1
    have h2 := h.2
    unfold Rb19Neutral.asked at h2
    split at h2
    · exact absurd rfl (no 6 _ _ rfl)
    · exact absurd rfl (no 7 _ _ rfl)
    · simp only [Bool.and_eq_true] at h2
      refine ⟨fun c hcc => ⟨List.all_eq_true.mp h2.1 c hcc, ?_⟩, h2.2.2.2.2⟩
      have h3 := h2.2.1
      rw [Bool.not_eq_true', List.any_eq_false] at h3
      have h4 := h3 c hcc
      simp only [Bool.or_eq_true, not_or] at h4
      exact ⟨fun z => h4.1 (beq_iff_eq.mpr z), fun z => h4.2 (beq_iff_eq.mpr z)⟩
section
variable {P : Program} {w : World} {K : PySem.W.Frag} {h : Heap} {mg : Str → Option Value} {x qual : Str} {st : Stmt} {ps : List Str} {f C : Addr} {oc : Value} {od an : Option Addr} {osl : Array (Option Value)} {kV doc pm cdv ct : Value}
theorem mk_def (X : K.In h) (G : h.Ns mainGlobals mg)
    (a : PySem.W.nsIn K mainGlobals x = some (some (.ref f))) (l : K.lookup f = some ⟨oc, od, .func (PySem.W.fnOf x x (defArgs st) (defBody st) (defScope st) .none kV doc pm an cdv ct), osl⟩)
    (c : PySem.W.codeIn K cdv x = true) (k : PySem.W.keepIn K (.ref f) = true)
    (b : ∀ (kV doc pm : Value) (an : Option Addr) (cdv ct : Value) (us : List Value), us.length = ps.length → bindArgs (PySem.W.fnOf x x (defArgs st) (defBody st) (defScope st) .none kV doc pm an cdv ct) ⟨us, []⟩ = pure (ps.zip us)) :
    ∃ f fd, Def K mg x st ps f fd := ⟨_, _, fun_mk l c k, (fun_mk l c k).binds b, PySem.W.mg_of X G a⟩
theorem mk_met (a : PySem.W.findIn K (.ref C) x = some (some (.ref f))) (n : PySem.W.isFn K (.ref f) = true) (l : K.lookup f = some ⟨oc, od, .func (PySem.W.fnOf x qual (defArgs st) (defBody st) (defScope st) .none kV doc pm an cdv ct), osl⟩)
    (c : PySem.W.codeIn K cdv qual = true) (k : PySem.W.keepIn K (.ref f) = true)
    (b : ∀ (kV doc pm : Value) (an : Option Addr) (cdv ct : Value) (us : List Value), us.length = ps.length → bindArgs (PySem.W.fnOf x qual (defArgs st) (defBody st) (defScope st) .none kV doc pm an cdv ct) ⟨us, []⟩ = pure (ps.zip us)) :
    ∃ f fd, MDef K C x qual st ps f fd := ⟨_, _, fun_mk l c k, (fun_mk l c k).binds b, a, n, k⟩
theorem mk_ini (a : PySem.W.findIn K (.ref C) "__init__" = some (some (.ref f))) (n : PySem.W.isFn K (.ref f) = true) (l : K.lookup f = some ⟨oc, od, .func (PySem.W.fnOf "__init__" qual (defArgs st) (defBody st) (defScope st) .none kV doc pm an cdv ct), osl⟩)
    (c : PySem.W.codeIn K cdv qual = true) (k : PySem.W.keepIn K (.ref f) = true) (m : PySem.W.makesIn K C = true) (kc : PySem.W.keepIn K (.ref C) = true)
    (b : ∀ (kV doc pm : Value) (an : Option Addr) (cdv ct : Value) (us : List Value), us.length = ps.length → bindArgs (PySem.W.fnOf "__init__" qual (defArgs st) (defBody st) (defScope st) .none kV doc pm an cdv ct) ⟨us, []⟩ = pure (ps.zip us)) :
    ∃ f fd, IDef K C qual st ps f fd := ⟨_, _, fun_mk l c k, (fun_mk l c k).binds b, m, a, n, kc⟩
theorem bnd1 {F : Value → Value → Value → Option Addr → Value → Value → FuncData} {a : Str} (b : ∀ kV doc pm an cdv ct u, bindArgs (F kV doc pm an cdv ct) ⟨[u], []⟩ = pure [(a, u)]) : ∀ kV doc pm an cdv ct (us : List Value), us.length = [a].length → bindArgs (F kV doc pm an cdv ct) ⟨us, []⟩ = pure ([a].zip us)
  | _, _, _, _, _, _, [_], _ => b _ _ _ _ _ _ _
theorem bnd2 {F : Value → Value → Value → Option Addr → Value → Value → FuncData} {a b : Str} (k : ∀ kV doc pm an cdv ct u v, bindArgs (F kV doc pm an cdv ct) ⟨[u, v], []⟩ = pure [(a, u), (b, v)]) : ∀ kV doc pm an cdv ct (us : List Value), us.length = [a, b].length → bindArgs (F kV doc pm an cdv ct) ⟨us, []⟩ = pure ([a, b].zip us)
  | _, _, _, _, _, _, [_, _], _ => k _ _ _ _ _ _ _ _
theorem bnd3 {F : Value → Value → Value → Option Addr → Value → Value → FuncData} {a b c : Str} (k : ∀ kV doc pm an cdv ct u v x, bindArgs (F kV doc pm an cdv ct) ⟨[u, v, x], []⟩ = pure [(a, u), (b, v), (c, x)]) : ∀ kV doc pm an cdv ct (us : List Value), us.length = [a, b, c].length → bindArgs (F kV doc pm an cdv ct) ⟨us, []⟩ = pure ([a, b, c].zip us)
  | _, _, _, _, _, _, [_, _, _], _ => k _ _ _ _ _ _ _ _ _
theorem bnd4 {F : Value → Value → Value → Option Addr → Value → Value → FuncData} {a b c d : Str} (k : ∀ kV doc pm an cdv ct u v x y, bindArgs (F kV doc pm an cdv ct) ⟨[u, v, x, y], []⟩ = pure [(a, u), (b, v), (c, x), (d, y)]) : ∀ kV doc pm an cdv ct (us : List Value), us.length = [a, b, c, d].length → bindArgs (F kV doc pm an cdv ct) ⟨us, []⟩ = pure ([a, b, c, d].zip us)
  | _, _, _, _, _, _, [_, _, _, _], _ => k _ _ _ _ _ _ _ _ _ _
theorem bnd5 {F : Value → Value → Value → Option Addr → Value → Value → FuncData} {a b c d e : Str} (k : ∀ kV doc pm an cdv ct u v x y z, bindArgs (F kV doc pm an cdv ct) ⟨[u, v, x, y, z], []⟩ = pure [(a, u), (b, v), (c, x), (d, y), (e, z)]) : ∀ kV doc pm an cdv ct (us : List Value), us.length = [a, b, c, d, e].length → bindArgs (F kV doc pm an cdv ct) ⟨us, []⟩ = pure ([a, b, c, d, e].zip us)
  | _, _, _, _, _, _, [_, _, _, _, _], _ => k _ _ _ _ _ _ _ _ _ _ _
structure OMk (K : PySem.W.Frag) (mg : Str → Option Value) (c PT : Addr) : Prop where
  ti : PySem.W.tabIn K "options" = some (c, PT)
  od : ∀ base : Heap, LamK mg base c PT → ∃ f fd, ODef K mg base f fd PT
theorem mk_opt {c PT : Addr} {oc2 : Value} {od2 : Option Addr} {vs : Array Value} {sl2 : Array (Option Value)} (X : K.In h) (G : h.Ns mainGlobals mg)
    (a : PySem.W.nsIn K mainGlobals "options" = some (some (.ref f))) (l : K.lookup f = some ⟨oc, od, .func (PySem.W.fnOf "options" "options" (defArgs sOptions) (defBody sOptions) (defScope sOptions) .none kV doc pm an (.ref c) ct), osl⟩)
    (cd : PySem.W.codeIn K (.ref c) "options" = true) (k : PySem.W.keepIn K (.ref f) = true) (lc : K.lookup c = some ⟨oc2, od2, .fields vs, sl2⟩) (v : vs[11]? = some (.ref PT)) : OMk K mg c PT := by
  refine ⟨?_, fun base L => ⟨f, _, ⟨oc, od, kV, doc, pm, an, c, ct, osl, rfl, l, cd, L⟩, k, ?_, PySem.W.mg_of X G a⟩⟩
  · unfold PySem.W.tabIn
    rw [a]
    show (match K.lookup f with
      | some ⟨_, _, .func fd, _⟩ => _
      | _ => none) = _
    rw [l]
    show (match K.lookup c with
      | some ⟨_, _, .fields vs, _⟩ => _
      | _ => none) = _
    rw [lc]
    show (match (vs[11]? : Option Value) with
      | some (.ref P) => some (c, P)
      | _ => none) = _
    rw [v]
  · exact (fun_mk l cd k).binds fun _ _ _ _ _ _ us hl => match us, hl with | [_], _ => rfl
theorem mk_rows {aR : Addr} {ep : Nat} {h1 h2 h3 h4 h5 : Int} {t1 t2 t3 t4 t5 u1 u2 u3 u4 u5 : Tok} (X : K.In h) (G : h.Ns mainGlobals mg) (a : PySem.W.nsIn K mainGlobals "ROWS" = some (some (.ref aR)))
    (l : K.lookup aR = some ⟨.type "dict", none, .dict #[⟨h1, .int 1 t1, .int 2 u1⟩, ⟨h2, .int 2 t2, .int 4 u2⟩, ⟨h3, .int 3 t3, .int 2 u3⟩, ⟨h4, .int 4 t4, .int 0 u4⟩, ⟨h5, .int 5 t5, .int 0 u5⟩] ep, #[]⟩)
    (e : h1 = hashInt 1 ∧ h2 = hashInt 2 ∧ h3 = hashInt 3 ∧ h4 = hashInt 4 ∧ h5 = hashInt 5) : RowsK K mg := by
  obtain ⟨rfl, rfl, rfl, rfl, rfl⟩ := e
  exact ⟨aR, _, ep, t1, t2, t3, t4, t5, u1, u2, u3, u4, u5, PySem.W.mg_of X G a, l, ⟨rfl, rfl, rfl⟩, rfl⟩
theorem mk_int {n : Int} {t : Tok} (X : K.In h) (G : h.Ns mainGlobals mg) (a : PySem.W.nsIn K mainGlobals x = some (some (.int n t))) : ∃ t, mg x = some (.int n t) := ⟨t, PySem.W.mg_of X G a⟩
theorem mk_signs {gA : Addr} {gd : Option Addr} {g1 g2 g3 g4 g5 g6 g7 : Tok} {gn : Nat} {gs : Array (Option Value)} (X : K.In h) (G : h.Ns mainGlobals mg) (a : PySem.W.nsIn K mainGlobals "SIGNS" = some (some (.ref gA)))
    (l : K.lookup gA = some ⟨.type "tuple", gd, .seq #[.str ">=" g1, .str ">" g2, .str "<=" g3, .str "<" g4, .str "=" g5, .str "~" g6, .str "^" g7] gn, gs⟩) : Signs K mg :=
  ⟨gA, PySem.W.mg_of X G a, fun H => .inr ⟨_, _, gn, l, rfl, rfl, by show 7 ≤ sizeLine; decide, .cons ⟨g1, rfl⟩ (.cons ⟨g2, rfl⟩ (.cons ⟨g3, rfl⟩ (.cons ⟨g4, rfl⟩ (.cons ⟨g5, rfl⟩ (.cons ⟨g6, rfl⟩ (.cons ⟨g7, rfl⟩ .nil))))))⟩⟩
end
theorem all_mk1 {P : Program} {w : World} {K : PySem.W.Frag} {h : Heap} {mg : Str → Option Value} {fa c PT cA cR cP cS : Addr} (X : K.In h) (G : h.Ns mainGlobals mg) (hfa : mg "answers" = some (.ref fa)) (nt : PySem.W.noTabs K = true) (O : OMk K mg c PT)
    (D1 : ∃ f fd, Def K mg "is_digit" sIsDigit ["byte"] f fd)
    (D2 : ∃ f fd, Def K mg "is_small_letter" sIsSmall ["byte"] f fd)
    (D3 : ∃ f fd, Def K mg "is_large_letter" sIsLarge ["byte"] f fd)
    (D4 : ∃ f fd, Def K mg "is_word_byte" sIsWord ["byte"] f fd)
    (D5 : ∃ f fd, Def K mg "all_digits" sAllDigits ["text"] f fd)
    (D6 : ∃ f fd, Def K mg "pieces" sPieces ["text", "mark"] f fd)
    (D7 : ∃ f fd, Def K mg "read_number" sReadNumber ["text"] f fd)
    (D8 : ∃ f fd, Def K mg "read_word" sReadWord ["text"] f fd)
    (D9 : ∃ f fd, Def K mg "read_version" sReadVersion ["text"] f fd)
    (D10 : ∃ f fd, Def K mg "first_of_next" sFirstNext ["version", "place"] f fd)
    (D11 : ∃ f fd, Def K mg "caret_place" sCaret ["version"] f fd)
    (D12 : ∃ f fd, Def K mg "sign_in_front" sSign ["text"] f fd)
    (D13 : ∃ f fd, Def K mg "read_bounds" sBounds ["text"] f fd)
    (D14 : ∃ f fd, Def K mg "read_group" sGroup ["text"] f fd)
    (D15 : ∃ f fd, Def K mg "read_condition" sCond ["text"] f fd)
    (D16 : ∃ f fd, Def K mg "keeps_bound" sKeepB ["version", "sign", "limit"] f fd)
    (D17 : ∃ f fd, Def K mg "keeps_group" sKeepG ["version", "group"] f fd)
    (D18 : ∃ f fd, Def K mg "condition_holds" sHoldsC ["groups", "version"] f fd)
    (D19 : ∃ f fd, Def K mg "choice_at" sChoiceAt ["place", "rows"] f fd)
    (D20 : ∃ f fd, Def K mg "count_chosen" sCount ["choice"] f fd)
    (D21 : ∃ f fd, Def K mg "is_met" sIsMet ["ask", "packages", "choice"] f fd)
    (D22 : ∃ f fd, Def K mg "is_right" sIsRight ["packages", "wants", "choice"] f fd)
    (D23 : ∃ f fd, Def K mg "best_choice" sBest ["packages", "wants"] f fd)
    (D24 : ∃ f fd, Def K mg "is_name_byte" sIsNameB ["byte"] f fd)
    (D25 : ∃ f fd, Def K mg "is_name" sIsName ["text"] f fd)
    (D26 : ∃ f fd, Def K mg "split_calls" sSplit ["calls"] f fd)
    (D27 : ∃ f fd, Def K mg "answer" sAnswer ["session", "number", "rows"] f fd)
    (D28 : ∃ f fd, Def K mg "answers" sAnswers ["calls"] f fd)
    (kA : PySem.W.nsIn K mainGlobals "Ask" = some (some (.ref cA))) (cA' : Cls K cA)    (kR : PySem.W.nsIn K mainGlobals "Release" = some (some (.ref cR))) (cR' : Cls K cR)    (kP : PySem.W.nsIn K mainGlobals "Package" = some (some (.ref cP))) (cP' : Cls K cP)    (kS : PySem.W.nsIn K mainGlobals "Session" = some (some (.ref cS))) (cS' : Cls K cS)
    (nOn : NoAttr K cA "on")    (nGr : NoAttr K cA "groups")    (nVd : NoAttr K cA "verdicts")    (nVr : NoAttr K cR "version")    (nAs : NoAttr K cR "asks")    (nRl : NoAttr K cP "releases")    (nNm : NoAttr K cP "numbers")    (nPk : NoAttr K cS "packages")    (nSn : NoAttr K cS "numbers")    (nWt : NoAttr K cS "wants")
    (iA : ∃ f fd, IDef K cA "Ask.__init__" mAsk_init ["self", "on", "groups"] f fd)
    (aA : ∃ f fd, MDef K cA "accepts" "Ask.accepts" mAsk_accepts ["self", "number", "version"] f fd)
    (iR : ∃ f fd, IDef K cR "Release.__init__" mRelease_init ["self", "version"] f fd)
    (iP : ∃ f fd, IDef K cP "Package.__init__" mPackage_init ["self"] f fd)
    (pA : ∃ f fd, MDef K cP "add_release" "Package.add_release" mPackage_add_release ["self", "version"] f fd)
    (pF : ∃ f fd, MDef K cP "find_release" "Package.find_release" mPackage_find_release ["self", "version"] f fd)
    (iS : ∃ f fd, IDef K cS "Session.__init__" mSession_init ["self"] f fd)
    (sB : ∃ f fd, MDef K cS "begin" "Session.begin" mSession_begin ["self"] f fd)
    (sN : ∃ f fd, MDef K cS "number_of" "Session.number_of" mSession_number_of ["self", "name"] f fd)
    (sR : ∃ f fd, MDef K cS "release_of" "Session.release_of" mSession_release_of ["self", "name", "version"] f fd)
    (sA : ∃ f fd, MDef K cS "add" "Session.add" mSession_add ["self", "name", "version"] f fd)
    (sK : ∃ f fd, MDef K cS "ask" "Session.ask" mSession_ask ["self", "name", "version", "on", "condition"] f fd)
    (sW : ∃ f fd, MDef K cS "want" "Session.want" mSession_want ["self", "on", "condition"] f fd)
    (sP : ∃ f fd, MDef K cS "put_ask" "Session.put_ask" mSession_put_ask ["self", "asks", "on", "groups"] f fd)
    (sC : ∃ f fd, MDef K cS "choose" "Session.choose" mSession_choose ["self"] f fd)
    (z1 : PySem.W.nsIn K mainGlobals "ord" = some none)    (z2 : PySem.W.nsIn K mainGlobals "len" = some none)    (z3 : PySem.W.nsIn K mainGlobals "all" = some none)    (z4 : PySem.W.nsIn K mainGlobals "tuple" = some none)    (z5 : PySem.W.nsIn K mainGlobals "list" = some none)    (z6 : PySem.W.nsIn K mainGlobals "any" = some none)    (z7 : PySem.W.nsIn K mainGlobals "range" = some none)    (z8 : PySem.W.nsIn K mainGlobals "reversed" = some none)    (z9 : PySem.W.nsIn K mainGlobals "sorted" = some none)
    (i9 : ∃ t, mg "MOST_DIGITS" = some (.int 9 t))    (mP : ∃ t, mg "MOST_PACKAGES" = some (.int 32 t))    (mV : ∃ t, mg "MOST_VERSIONS" = some (.int 32 t))    (mA : ∃ t, mg "MOST_ASKS" = some (.int 16 t))    (mN : ∃ t, mg "MOST_NAME" = some (.int 32 t))    (n1 : ∃ t, mg "ADD" = some (.int 1 t))    (n2 : ∃ t, mg "ASK" = some (.int 2 t))    (n3 : ∃ t, mg "WANT" = some (.int 3 t))    (n4 : ∃ t, mg "CHOOSE" = some (.int 4 t))
    (Z : Signs K mg) (Rw : RowsK K mg) :
    ∃ (fd : FuncData) (c PT : Addr) (C : Cs), PySem.W.noTabs K = true ∧ PySem.W.tabIn K "options" = some (c, PT) ∧ (∀ (s : Shared) (us : List Value), us.length = (["calls"] : List Str).length → BindsTo s fd ⟨us, []⟩ ((["calls"] : List Str).zip us)) ∧
      ∀ base : Heap, K.In base → base.Ns mainGlobals mg → LamK mg base c PT → FnOk P w K mg base CX0 11 fa fd ["calls"] (spAnswers P w C PT K) := by
  obtain ⟨f9, fd9, E⟩ := D28
  have e := hfa.symm.trans E.at_
  cases e
  have N := fun {x : Str} (a : PySem.W.nsIn K mainGlobals x = some none) => PySem.W.mg_none_of X G a
  have V : VDefs K mg := ⟨⟨N z1, N z2, N z3, N z4⟩, (let ⟨t, e⟩ := i9; ⟨t, e⟩), D1, D2, D3, D4, D5, D6, D7, D8⟩
  have B : CDefs K mg := ⟨V, Z, N z5, N z6, D9, D10, D11, D12, D13, D14, D16, D17⟩
  have S : SDefs K mg ⟨cA, cR, cP, cS⟩ := ⟨B, D15, D18, ⟨cA', PySem.W.mg_of X G kA⟩, ⟨cR', PySem.W.mg_of X G kR⟩, ⟨cP', PySem.W.mg_of X G kP⟩, ⟨cS', PySem.W.mg_of X G kS⟩, nOn, nGr, nVd, nVr, nAs, nRl, nNm, nPk, nSn, nWt, iA, aA, iR, iP, pA, pF, iS, sB, sN, sR, sA, sK, sW, sP, sC, mP, mV, mA, mN⟩
  have Q : KDefs K mg := ⟨D19, D20, D21, D22, N z7, N z8, N z9⟩
  have M : NDefs K mg := ⟨D24, D25⟩
  have A : ADefs K mg := ⟨n1, n2, n3, n4, D23, D26, D27, Rw⟩
  obtain ⟨oc, od, kV, doc, pm, an, cdv, ct, osl, rfl, lk, hcd⟩ := E.F.ex
  refine ⟨PySem.W.fnOf "answers" "answers" (defArgs sAnswers) (defBody sAnswers) (defScope sAnswers) .none kV doc pm an cdv ct, c, PT, ⟨cA, cR, cP, cS⟩, nt, O.ti, fun s us hu => match us, hu with | [_], _ => .of_eq rfl, fun base _ _ L => ?_⟩
  obtain ⟨fo, fdo, DO⟩ := O.od base L
  exact ok_answers E DO S Q M A
theorem fin {P : Program} {w : World} {K : PySem.W.Frag} {mg : Str → Option Value} {fa : Addr} {Rr : Addr → Sp → Prop}
    (key : ∃ (fd : FuncData) (c PT : Addr) (C : Cs), PySem.W.noTabs K = true ∧ PySem.W.tabIn K "options" = some (c, PT) ∧ (∀ (s : Shared) (us : List Value), us.length = (["calls"] : List Str).length → BindsTo s fd ⟨us, []⟩ ((["calls"] : List Str).zip us)) ∧
      ∀ base : Heap, K.In base → base.Ns mainGlobals mg → LamK mg base c PT → FnOk P w K mg base CX0 11 fa fd ["calls"] (spAnswers P w C PT K)) (hR : ∀ C PT, Rr PT (spAnswers P w C PT K)) :
    ∃ (fd : FuncData) (c PT : Addr) (sp : Sp), PySem.W.noTabs K = true ∧ PySem.W.tabIn K "options" = some (c, PT) ∧ (∀ (s : Shared) (us : List Value), us.length = (["calls"] : List Str).length → BindsTo s fd ⟨us, []⟩ ((["calls"] : List Str).zip us)) ∧
      (∀ base : Heap, K.In base → base.Ns mainGlobals mg → LamK mg base c PT → FnOk P w K mg base CX0 11 fa fd ["calls"] sp) ∧ Rr PT sp :=
  let ⟨fd, c, PT, C, h1, h2, h3, h4⟩ := key
  ⟨fd, c, PT, spAnswers P w C PT K, h1, h2, h3, h4, hR C PT⟩
end VP
def PySem.W.Fast.tw9821554570551362059 : Nat := 0
def PySem.W.Fast.tw17563377236902689450 : Nat := 0
def PySem.W.Fast.tw7176406486804511028 : Nat := 0
def PySem.W.Fast.tw3399743255235559619 : Nat := 0
def PySem.W.Fast.tw1376488178183439420 : Nat := 0
def PySem.W.Fast.tw2139153747625170905 : Nat := 0
def PySem.W.Fast.tw9042671983003463943 : Nat := 0
def PySem.W.Fast.tw9411750088388553926 : Nat := 0
def PySem.W.Fast.tw7138047272107239647 : Nat := 0
def PySem.W.Fast.tw12825239375583386157 : Nat := 0
def PySem.W.Fast.tw17484515302667615960 : Nat := 0
def PySem.W.Fast.tw5851694384067214272 : Nat := 0
def PySem.W.Fast.tw9329303486144687797 : Nat := 0
def PySem.W.Fast.tw12160303774089095534 : Nat := 0
def PySem.W.Fast.tw12440656361128616998 : Nat := 0
def PySem.W.Fast.tw5545918473057084690 : Nat := 0
def PySem.W.Fast.tw8738604482800258016 : Nat := 0
def PySem.W.Fast.tw15735197175412723442 : Nat := 0
def PySem.W.Fast.tw1312575630356333900 : Nat := 0
def PySem.W.Fast.tw3295268235537594213 : Nat := 0
def PySem.W.Fast.tw11003422735020207774 : Nat := 0
def PySem.W.Fast.tw8435417787430224094 : Nat := 0
open PySem PySem.W PyProof.Rows
set_option maxRecDepth 100000 in
set_option maxHeartbeats 0 in
theorem PySem.Challenge.cw_versionpick_s01_answers_holds : PySem.Challenge.rw_versionpick_s01_answers.Holds := by
  w_on; k_headS; (case hw => exact ⟨[.list [.int 4]], by decide +kernel, by decide +kernel⟩)
  k_fillS
  refine VP.walk_specT (r := PySem.Challenge.rw_versionpick_s01_answers) (k := 11) (ps := ["calls"]) (x := "options") (by decide +kernel) rfl rfl ⟨rfl, by decide, by decide⟩ (fun w h Y => PySem.W.kIn_of Y) rfl ?F
  case F =>
    intro w mg fa h Y KX G hmg
    refine VP.fin ?key ?S
    case S =>
      intro C PT H0 H xs a hwi hask hx sm hT
      cases hx with
      | cons h1 hx =>
      cases hx
      cases h1 with
      | lst hs1 ha1 =>
      have e1 := L2.ints_dw a.1 _ ha1
      subst e1
      have q : ((Codec.inLen 0 100000 a.1 && a.1.all (Codec.inInt 0 256)) && true) = true := hwi
      simp only [Bool.and_eq_true, Bool.and_true] at q
      obtain ⟨cs, k1, k2, k3, k4, k5⟩ := VP.asked_is (l := a.1) hask
      refine ⟨_, a.1, cs, rfl, L2.Same.seq sm hs1, hT, k1, k3, (Codec.inNat_iff.mp q.1).2, k4, k5, fun H' p hp => ?_⟩
      have k2 : Codec.app PySem.Challenge.rw_versionpick_s01_answers.args PySem.Challenge.rw_versionpick_s01_answers.f a = _ := k2
      rw [k2]
      exact .lst (L2.SqL.of hp) (L2.dw_ints _)
    case key =>
    refine' VP.all_mk1 KX G hmg ?nt ?O ?D1 ?D2 ?D3 ?D4 ?D5 ?D6 ?D7 ?D8 ?D9 ?D10 ?D11 ?D12 ?D13 ?D14 ?D15 ?D16 ?D17 ?D18 ?D19 ?D20 ?D21 ?D22 ?D23 ?D24 ?D25 ?D26 ?D27 ?D28 ?kA ?cA' ?kR ?cR' ?kP ?cP' ?kS ?cS' ?nOn ?nGr ?nVd ?nVr ?nAs ?nRl ?nNm ?nPk ?nSn ?nWt ?iA ?aA ?iR ?iP ?pA ?pF ?iS ?sB ?sN ?sR ?sA ?sK ?sW ?sP ?sC ?z1 ?z2 ?z3 ?z4 ?z5 ?z6 ?z7 ?z8 ?z9 ?i9 ?mP ?mV ?mA ?mN ?n1 ?n2 ?n3 ?n4 ?Z ?Rw
    (case nt => kernel_rfl)
    (case O => refine' VP.mk_opt KX G ?u1 ?u2 ?u3 ?u4 ?u5 ?u6; (case u1 => k_is); (case u2 => k_is); (case u3 => k_is); (case u4 => k_is); (case u5 => k_is); (case u6 => exact rfl))
    (case D1 => refine' VP.mk_def KX G ?u1 ?u2 ?u3 ?u4 (VP.bnd1 fun _ _ _ _ _ _ _  => rfl); (case u1 => k_is); (case u2 => k_is); (case u3 => k_is); (case u4 => k_is))
    (case D2 => refine' VP.mk_def KX G ?u1 ?u2 ?u3 ?u4 (VP.bnd1 fun _ _ _ _ _ _ _  => rfl); (case u1 => k_is); (case u2 => k_is); (case u3 => k_is); (case u4 => k_is))
    (case D3 => refine' VP.mk_def KX G ?u1 ?u2 ?u3 ?u4 (VP.bnd1 fun _ _ _ _ _ _ _  => rfl); (case u1 => k_is); (case u2 => k_is); (case u3 => k_is); (case u4 => k_is))
    (case D4 => refine' VP.mk_def KX G ?u1 ?u2 ?u3 ?u4 (VP.bnd1 fun _ _ _ _ _ _ _  => rfl); (case u1 => k_is); (case u2 => k_is); (case u3 => k_is); (case u4 => k_is))
    (case D5 => refine' VP.mk_def KX G ?u1 ?u2 ?u3 ?u4 (VP.bnd1 fun _ _ _ _ _ _ _  => rfl); (case u1 => k_is); (case u2 => k_is); (case u3 => k_is); (case u4 => k_is))
    (case D6 => refine' VP.mk_def KX G ?u1 ?u2 ?u3 ?u4 (VP.bnd2 fun _ _ _ _ _ _ _ _  => rfl); (case u1 => k_is); (case u2 => k_is); (case u3 => k_is); (case u4 => k_is))
    (case D7 => refine' VP.mk_def KX G ?u1 ?u2 ?u3 ?u4 (VP.bnd1 fun _ _ _ _ _ _ _  => rfl); (case u1 => k_is); (case u2 => k_is); (case u3 => k_is); (case u4 => k_is))
    (case D8 => refine' VP.mk_def KX G ?u1 ?u2 ?u3 ?u4 (VP.bnd1 fun _ _ _ _ _ _ _  => rfl); (case u1 => k_is); (case u2 => k_is); (case u3 => k_is); (case u4 => k_is))
    (case D9 => refine' VP.mk_def KX G ?u1 ?u2 ?u3 ?u4 (VP.bnd1 fun _ _ _ _ _ _ _  => rfl); (case u1 => k_is); (case u2 => k_is); (case u3 => k_is); (case u4 => k_is))
    (case D10 => refine' VP.mk_def KX G ?u1 ?u2 ?u3 ?u4 (VP.bnd2 fun _ _ _ _ _ _ _ _  => rfl); (case u1 => k_is); (case u2 => k_is); (case u3 => k_is); (case u4 => k_is))
    (case D11 => refine' VP.mk_def KX G ?u1 ?u2 ?u3 ?u4 (VP.bnd1 fun _ _ _ _ _ _ _  => rfl); (case u1 => k_is); (case u2 => k_is); (case u3 => k_is); (case u4 => k_is))
    (case D12 => refine' VP.mk_def KX G ?u1 ?u2 ?u3 ?u4 (VP.bnd1 fun _ _ _ _ _ _ _  => rfl); (case u1 => k_is); (case u2 => k_is); (case u3 => k_is); (case u4 => k_is))
    (case D13 => refine' VP.mk_def KX G ?u1 ?u2 ?u3 ?u4 (VP.bnd1 fun _ _ _ _ _ _ _  => rfl); (case u1 => k_is); (case u2 => k_is); (case u3 => k_is); (case u4 => k_is))
    (case D14 => refine' VP.mk_def KX G ?u1 ?u2 ?u3 ?u4 (VP.bnd1 fun _ _ _ _ _ _ _  => rfl); (case u1 => k_is); (case u2 => k_is); (case u3 => k_is); (case u4 => k_is))
    (case D15 => refine' VP.mk_def KX G ?u1 ?u2 ?u3 ?u4 (VP.bnd1 fun _ _ _ _ _ _ _  => rfl); (case u1 => k_is); (case u2 => k_is); (case u3 => k_is); (case u4 => k_is))
    (case D16 => refine' VP.mk_def KX G ?u1 ?u2 ?u3 ?u4 (VP.bnd3 fun _ _ _ _ _ _ _ _ _  => rfl); (case u1 => k_is); (case u2 => k_is); (case u3 => k_is); (case u4 => k_is))
    (case D17 => refine' VP.mk_def KX G ?u1 ?u2 ?u3 ?u4 (VP.bnd2 fun _ _ _ _ _ _ _ _  => rfl); (case u1 => k_is); (case u2 => k_is); (case u3 => k_is); (case u4 => k_is))
    (case D18 => refine' VP.mk_def KX G ?u1 ?u2 ?u3 ?u4 (VP.bnd2 fun _ _ _ _ _ _ _ _  => rfl); (case u1 => k_is); (case u2 => k_is); (case u3 => k_is); (case u4 => k_is))
    (case D19 => refine' VP.mk_def KX G ?u1 ?u2 ?u3 ?u4 (VP.bnd2 fun _ _ _ _ _ _ _ _  => rfl); (case u1 => k_is); (case u2 => k_is); (case u3 => k_is); (case u4 => k_is))
    (case D20 => refine' VP.mk_def KX G ?u1 ?u2 ?u3 ?u4 (VP.bnd1 fun _ _ _ _ _ _ _  => rfl); (case u1 => k_is); (case u2 => k_is); (case u3 => k_is); (case u4 => k_is))
    (case D21 => refine' VP.mk_def KX G ?u1 ?u2 ?u3 ?u4 (VP.bnd3 fun _ _ _ _ _ _ _ _ _  => rfl); (case u1 => k_is); (case u2 => k_is); (case u3 => k_is); (case u4 => k_is))
    (case D22 => refine' VP.mk_def KX G ?u1 ?u2 ?u3 ?u4 (VP.bnd3 fun _ _ _ _ _ _ _ _ _  => rfl); (case u1 => k_is); (case u2 => k_is); (case u3 => k_is); (case u4 => k_is))
    (case D23 => refine' VP.mk_def KX G ?u1 ?u2 ?u3 ?u4 (VP.bnd2 fun _ _ _ _ _ _ _ _  => rfl); (case u1 => k_is); (case u2 => k_is); (case u3 => k_is); (case u4 => k_is))
    (case D24 => refine' VP.mk_def KX G ?u1 ?u2 ?u3 ?u4 (VP.bnd1 fun _ _ _ _ _ _ _  => rfl); (case u1 => k_is); (case u2 => k_is); (case u3 => k_is); (case u4 => k_is))
    (case D25 => refine' VP.mk_def KX G ?u1 ?u2 ?u3 ?u4 (VP.bnd1 fun _ _ _ _ _ _ _  => rfl); (case u1 => k_is); (case u2 => k_is); (case u3 => k_is); (case u4 => k_is))
    (case D26 => refine' VP.mk_def KX G ?u1 ?u2 ?u3 ?u4 (VP.bnd1 fun _ _ _ _ _ _ _  => rfl); (case u1 => k_is); (case u2 => k_is); (case u3 => k_is); (case u4 => k_is))
    (case D27 => refine' VP.mk_def KX G ?u1 ?u2 ?u3 ?u4 (VP.bnd3 fun _ _ _ _ _ _ _ _ _  => rfl); (case u1 => k_is); (case u2 => k_is); (case u3 => k_is); (case u4 => k_is))
    (case D28 => refine' VP.mk_def KX G ?u1 ?u2 ?u3 ?u4 (VP.bnd1 fun _ _ _ _ _ _ _  => rfl); (case u1 => k_is); (case u2 => k_is); (case u3 => k_is); (case u4 => k_is))
    (case kA => k_is)
    (case cA' => refine' ⟨?u1, ?u2, ?u3, ?u4⟩; (case u1 => k_is); (case u2 => k_is); (case u3 => k_is); (case u4 => k_is))
    (case kR => k_is)
    (case cR' => refine' ⟨?u1, ?u2, ?u3, ?u4⟩; (case u1 => k_is); (case u2 => k_is); (case u3 => k_is); (case u4 => k_is))
    (case kP => k_is)
    (case cP' => refine' ⟨?u1, ?u2, ?u3, ?u4⟩; (case u1 => k_is); (case u2 => k_is); (case u3 => k_is); (case u4 => k_is))
    (case kS => k_is)
    (case cS' => refine' ⟨?u1, ?u2, ?u3, ?u4⟩; (case u1 => k_is); (case u2 => k_is); (case u3 => k_is); (case u4 => k_is))
    (case nOn => show PySem.W.findIn _ _ _ = _; k_is)
    (case nGr => show PySem.W.findIn _ _ _ = _; k_is)
    (case nVd => show PySem.W.findIn _ _ _ = _; k_is)
    (case nVr => show PySem.W.findIn _ _ _ = _; k_is)
    (case nAs => show PySem.W.findIn _ _ _ = _; k_is)
    (case nRl => show PySem.W.findIn _ _ _ = _; k_is)
    (case nNm => show PySem.W.findIn _ _ _ = _; k_is)
    (case nPk => show PySem.W.findIn _ _ _ = _; k_is)
    (case nSn => show PySem.W.findIn _ _ _ = _; k_is)
    (case nWt => show PySem.W.findIn _ _ _ = _; k_is)
    (case iA => refine' VP.mk_ini ?u1 ?u2 ?u3 ?u4 ?u5 ?u6 ?u7 (VP.bnd3 fun _ _ _ _ _ _ _ _ _  => rfl); (case u1 => k_is); (case u2 => k_is); (case u3 => k_is); (case u4 => k_is); (case u5 => k_is); (case u6 => k_is); (case u7 => k_is))
    (case aA => refine' VP.mk_met ?u1 ?u2 ?u3 ?u4 ?u5 (VP.bnd3 fun _ _ _ _ _ _ _ _ _  => rfl); (case u1 => k_is); (case u2 => k_is); (case u3 => k_is); (case u4 => k_is); (case u5 => k_is))
    (case iR => refine' VP.mk_ini ?u1 ?u2 ?u3 ?u4 ?u5 ?u6 ?u7 (VP.bnd2 fun _ _ _ _ _ _ _ _  => rfl); (case u1 => k_is); (case u2 => k_is); (case u3 => k_is); (case u4 => k_is); (case u5 => k_is); (case u6 => k_is); (case u7 => k_is))
    (case iP => refine' VP.mk_ini ?u1 ?u2 ?u3 ?u4 ?u5 ?u6 ?u7 (VP.bnd1 fun _ _ _ _ _ _ _  => rfl); (case u1 => k_is); (case u2 => k_is); (case u3 => k_is); (case u4 => k_is); (case u5 => k_is); (case u6 => k_is); (case u7 => k_is))
    (case pA => refine' VP.mk_met ?u1 ?u2 ?u3 ?u4 ?u5 (VP.bnd2 fun _ _ _ _ _ _ _ _  => rfl); (case u1 => k_is); (case u2 => k_is); (case u3 => k_is); (case u4 => k_is); (case u5 => k_is))
    (case pF => refine' VP.mk_met ?u1 ?u2 ?u3 ?u4 ?u5 (VP.bnd2 fun _ _ _ _ _ _ _ _  => rfl); (case u1 => k_is); (case u2 => k_is); (case u3 => k_is); (case u4 => k_is); (case u5 => k_is))
    (case iS => refine' VP.mk_ini ?u1 ?u2 ?u3 ?u4 ?u5 ?u6 ?u7 (VP.bnd1 fun _ _ _ _ _ _ _  => rfl); (case u1 => k_is); (case u2 => k_is); (case u3 => k_is); (case u4 => k_is); (case u5 => k_is); (case u6 => k_is); (case u7 => k_is))
    (case sB => refine' VP.mk_met ?u1 ?u2 ?u3 ?u4 ?u5 (VP.bnd1 fun _ _ _ _ _ _ _  => rfl); (case u1 => k_is); (case u2 => k_is); (case u3 => k_is); (case u4 => k_is); (case u5 => k_is))
    (case sN => refine' VP.mk_met ?u1 ?u2 ?u3 ?u4 ?u5 (VP.bnd2 fun _ _ _ _ _ _ _ _  => rfl); (case u1 => k_is); (case u2 => k_is); (case u3 => k_is); (case u4 => k_is); (case u5 => k_is))
    (case sR => refine' VP.mk_met ?u1 ?u2 ?u3 ?u4 ?u5 (VP.bnd3 fun _ _ _ _ _ _ _ _ _  => rfl); (case u1 => k_is); (case u2 => k_is); (case u3 => k_is); (case u4 => k_is); (case u5 => k_is))
    (case sA => refine' VP.mk_met ?u1 ?u2 ?u3 ?u4 ?u5 (VP.bnd3 fun _ _ _ _ _ _ _ _ _  => rfl); (case u1 => k_is); (case u2 => k_is); (case u3 => k_is); (case u4 => k_is); (case u5 => k_is))
    (case sK => refine' VP.mk_met ?u1 ?u2 ?u3 ?u4 ?u5 (VP.bnd5 fun _ _ _ _ _ _ _ _ _ _ _  => rfl); (case u1 => k_is); (case u2 => k_is); (case u3 => k_is); (case u4 => k_is); (case u5 => k_is))
    (case sW => refine' VP.mk_met ?u1 ?u2 ?u3 ?u4 ?u5 (VP.bnd3 fun _ _ _ _ _ _ _ _ _  => rfl); (case u1 => k_is); (case u2 => k_is); (case u3 => k_is); (case u4 => k_is); (case u5 => k_is))
    (case sP => refine' VP.mk_met ?u1 ?u2 ?u3 ?u4 ?u5 (VP.bnd4 fun _ _ _ _ _ _ _ _ _ _  => rfl); (case u1 => k_is); (case u2 => k_is); (case u3 => k_is); (case u4 => k_is); (case u5 => k_is))
    (case sC => refine' VP.mk_met ?u1 ?u2 ?u3 ?u4 ?u5 (VP.bnd1 fun _ _ _ _ _ _ _  => rfl); (case u1 => k_is); (case u2 => k_is); (case u3 => k_is); (case u4 => k_is); (case u5 => k_is))
    (case z1 => k_is)
    (case z2 => k_is)
    (case z3 => k_is)
    (case z4 => k_is)
    (case z5 => k_is)
    (case z6 => k_is)
    (case z7 => k_is)
    (case z8 => k_is)
    (case z9 => k_is)
    (case i9 => refine' VP.mk_int KX G ?u1; (case u1 => k_is))
    (case mP => refine' VP.mk_int KX G ?u1; (case u1 => k_is))
    (case mV => refine' VP.mk_int KX G ?u1; (case u1 => k_is))
    (case mA => refine' VP.mk_int KX G ?u1; (case u1 => k_is))
    (case mN => refine' VP.mk_int KX G ?u1; (case u1 => k_is))
    (case n1 => refine' VP.mk_int KX G ?u1; (case u1 => k_is))
    (case n2 => refine' VP.mk_int KX G ?u1; (case u1 => k_is))
    (case n3 => refine' VP.mk_int KX G ?u1; (case u1 => k_is))
    (case n4 => refine' VP.mk_int KX G ?u1; (case u1 => k_is))
    (case Z => refine' VP.mk_signs KX G ?u1 ?u2; (case u1 => k_is); (case u2 => k_is))
    (case Rw => refine' VP.mk_rows KX G ?u1 ?u2 ?u3; (case u1 => k_is); (case u2 => k_is); (case u3 => decide))
