import PyProof.Rows.All
import Wide.All
import OpenK.AllK
import Wide.FinOn
import Lean
import PyProof.EqAt
import PyProof.EqKinds
import PyProof.TupleCall
import PyProof.ExcClass2
import PyProof.StationsW
import PyProof.RulesAs
import PyProof.ExcArgs
import PyProof.InstStoreFacts
import PyProof.ExcStrCall
import PyProof.ExcBaseAll.ValueError
import PyProof.StrWalks
import PyProof.ConsumeWalk
import PyProof.StrLawsIn
import KE.KTab
import PyProof.CompFree
import PyProof.NeKinds
import PyProof.CompMap
import KE.KDictOf
import KE.KRevIter
import PyProof.WalksEnum
import PyProof.ListRange
import PyProof.ZipIter
import PyProof.Rows.Range3
import PyProof.CompUse
import PyProof.Draws
import KE.KDictList
import PySem.Challenge.RW_plainspeak_k13_whole_kinds_told
def PySem.W.Fast.tw4403193092675718245 : Nat := 0
def PySem.W.Fast.tw11305758261637551433 : Nat := 0
def PySem.W.Fast.tw15420358931516794970 : Nat := 0
def PySem.W.Fast.tw6303291818869432164 : Nat := 0
def PySem.W.Fast.tw12919275001295498543 : Nat := 0
def PySem.W.Fast.tw5559105920587594885 : Nat := 0
def PySem.W.Fast.tw813556261931007358 : Nat := 0
def PySem.W.Fast.tw2632772263670791642 : Nat := 0
def PySem.W.Fast.tw9510945796609591586 : Nat := 0
def PySem.W.Fast.tw13518901137112867550 : Nat := 0
def PySem.W.Fast.tw9101184869309514196 : Nat := 0
def PySem.W.Fast.tw16954083583683460737 : Nat := 0
def PySem.W.Fast.tw2766222918551506718 : Nat := 0
def PySem.W.Fast.tw10348147079517601793 : Nat := 0
def PySem.W.Fast.tw7263010214302663187 : Nat := 0

set_option Elab.async false
set_option linter.all false
set_option maxRecDepth 100000
namespace L2
open PySem PySem.Spec PyProof.Rows
abbrev Key := Sum Int Str
def keyIs : Key → Value → Bool
  | .inl k, v => Value.isInt k v
  | .inr x, v => Value.isStrOf x v
def keyH (w : World) : Key → Int
  | .inl k => hashInt k
  | .inr x => hashStr w x
theorem keyIs_shape : ∀ {k : Key} {v : Value}, keyIs k v = true → (∃ i t, k = Sum.inl i ∧ v = Value.int i t) ∨ (∃ x t, k = Sum.inr x ∧ v = Value.str x t)
  | .inl i, v, h => by
    obtain ⟨t, e⟩ := Value.isInt_shape (k := i) (v := v) h
    exact .inl ⟨i, t, rfl, e⟩
  | .inr x, v, h => by
    obtain ⟨t, e⟩ := Value.isStrOf_shape (x := x) (v := v) h
    exact .inr ⟨x, t, rfl, e⟩
theorem keyIs_int (i : Int) (t : Tok) : keyIs (.inl i) (.int i t) = true := by simp [keyIs, Value.isInt]
theorem keyIs_str (x : Str) (t : Tok) : keyIs (.inr x) (.str x t) = true := by simp [keyIs, Value.isStrOf]
theorem key_ll (a b : Int) : decide ((Sum.inl a : Key) = Sum.inl b) = (a == b) := by
  by_cases e : a = b
  · subst e; simp
  · have h : ¬ (Sum.inl a : Key) = Sum.inl b := fun q => e (Sum.inl.inj q)
    rw [decide_eq_false h]
    exact (beq_eq_false_iff_ne.mpr e).symm
theorem key_rr (a b : Str) : decide ((Sum.inr a : Key) = Sum.inr b) = decide (a = b) := by
  by_cases e : a = b
  · subst e; simp
  · have h : ¬ (Sum.inr a : Key) = Sum.inr b := fun q => e (Sum.inr.inj q)
    rw [decide_eq_false h, decide_eq_false e]
theorem key_lr (a : Int) (b : Str) : decide ((Sum.inl a : Key) = Sum.inr b) = false := decide_eq_false (fun q => nomatch q)
theorem key_rl (a : Str) (b : Int) : decide ((Sum.inr a : Key) = Sum.inl b) = false := decide_eq_false (fun q => nomatch q)
def mixKind (prog : Program) (w : World) : PySem.KeyKind prog w Key where
  is := keyIs
  hash := keyH w
  inj := fun v a b ha hb => by
    rcases keyIs_shape ha with ⟨i, t, rfl, rfl⟩ | ⟨x, t, rfl, rfl⟩
    · rcases keyIs_shape hb with ⟨j, u, rfl, e⟩ | ⟨y, u, rfl, e⟩
      · injection e with e1 _; rw [e1]
      · exact nomatch e
    · rcases keyIs_shape hb with ⟨j, u, rfl, e⟩ | ⟨y, u, rfl, e⟩
      · exact nomatch e
      · injection e with e1 _; rw [e1]
  byValue := fun k v h => by
    rcases keyIs_shape h with ⟨i, t, rfl, rfl⟩ | ⟨x, t, rfl, rfl⟩ <;> rfl
  pyHash := fun hv h => by
    rcases keyIs_shape hv with ⟨i, t, rfl, rfl⟩ | ⟨x, t, rfl, rfl⟩
    · exact wpAny_pyHash_int h
    · exact wpAny_pyHash_str h
  eqBool := fun hu hv h => by
    rcases keyIs_shape hu with ⟨i, t, rfl, rfl⟩ | ⟨x, t, rfl, rfl⟩
    · rcases keyIs_shape hv with ⟨j, u, rfl, rfl⟩ | ⟨y, u, rfl, rfl⟩
      · rw [key_ll] at h; exact wpAny_eqBool_int h
      · rw [key_lr] at h; exact SeqAt.EqAt.int_str i t y u _ _ _ _ h
    · rcases keyIs_shape hv with ⟨j, u, rfl, rfl⟩ | ⟨y, u, rfl, rfl⟩
      · rw [key_rl] at h; exact SeqAt.EqAt.str_int x t j u _ _ _ _ h
      · rw [key_rr] at h; exact wpAny_eqBool_str h
  «strs» := fun k x t v h => by
    rcases keyIs_shape h with ⟨i, u, rfl, e⟩ | ⟨y, u, rfl, e⟩
    · exact nomatch e
    · injection e with e1 _
      subst e1
      cases v <;> rfl
theorem mixKind_is (prog : Program) (w : World) (k : Key) (v : Value) : (mixKind prog w).is k v = keyIs k v := rfl
theorem mixKind_int (prog : Program) (w : World) (i : Int) (t : Tok) : (mixKind prog w).is (.inl i) (.int i t) = true := keyIs_int i t
theorem mixKind_str (prog : Program) (w : World) (x : Str) (t : Tok) : (mixKind prog w).is (.inr x) (.str x t) = true := keyIs_str x t
end L2
namespace L2
open PySem PySem.Spec PyProof.Rows
inductive V where
  | non | bl (b : Bool) | int (i : Int) | str (x : Str) | byt (b : Array UInt8) | flt (b : UInt64) | ref (a : Addr) | ty (n : String)
  deriving DecidableEq
def RelV : V → Value → Prop
  | .non, u => u = Value.none
  | .bl b, u => u = Value.bool b
  | .int i, u => ∃ t, u = Value.int i t
  | .str x, u => ∃ t, u = Value.str x t
  | .byt b, u => ∃ t, u = Value.bytes b t
  | .flt b, u => ∃ t, u = Value.float b t
  | .ref a, u => u = Value.ref a
  | .ty n, u => u = Value.type n
abbrev Vals : List V → List Value → Prop := Paired RelV
theorem Vals.length {xs : List V} {us : List Value} (r : Vals xs us) : xs.length = us.length := Paired.length r
theorem Vals.get : ∀ {xs : List V} {us : List Value} {i : Nat} {x : V}, Vals xs us → xs[i]? = some x → ∃ u, us[i]? = some u ∧ RelV x u
  | _, _, _, _, .nil, e => by simp at e
  | _, _, 0, _, .cons r _, e => by simp at e; subst e; exact ⟨_, rfl, r⟩
  | _, _, i + 1, x, .cons _ t, e => by
    obtain ⟨u, h1, h2⟩ := Vals.get (i := i) (x := x) t (by simpa using e)
    exact ⟨u, by simpa using h1, h2⟩
theorem Vals.append : ∀ {xs ys : List V} {us ws : List Value}, Vals xs us → Vals ys ws → Vals (xs ++ ys) (us ++ ws)
  | _, _, _, _, .nil, s => s
  | _, _, _, _, .cons r t, s => .cons r (Vals.append t s)
theorem Vals.take : ∀ {xs : List V} {us : List Value} (n : Nat), Vals xs us → Vals (xs.take n) (us.take n)
  | _, _, 0, _ => .nil
  | _, _, _ + 1, .nil => .nil
  | _, _, n + 1, .cons r t => .cons r (Vals.take n t)
theorem Vals.drop : ∀ {xs : List V} {us : List Value} (n : Nat), Vals xs us → Vals (xs.drop n) (us.drop n)
  | _, _, 0, r => r
  | _, _, _ + 1, .nil => .nil
  | _, _, n + 1, .cons _ t => Vals.drop n t
def RelO : Option V → Option Value → Prop
  | some v, some u => RelV v u
  | none, none => True
  | _, _ => False
def KV {κ : Type} : List (κ × V) → List (κ × Value) → Prop := Paired fun (p : κ × V) (q : κ × Value) => p.1 = q.1 ∧ RelV p.2 q.2
def kV : Key → V
  | .inl i => .int i
  | .inr x => .str x
inductive HO where
  | lst (xs : List V)
  | tup (xs : List V)
  | dK (kvs : List (Key × V)) | dT (kvs : List (List Key × V))
  | set (S : Int → Bool) (n : Nat)
  | ins (C dx : Addr) (fs : List (Str × V))
  | own (x : Addr)
  | xd (fs : List (Str × V))
  | met (f x : Addr)
  | rng (lo hi : Int)
  | frz (o : Obj) (u : HO)
  | tbl (ps : Array Value)
  | ext (φ : Heap → Prop)
abbrev Hp := Addr → Option HO
def upd (H : Hp) (a : Addr) (o : HO) : Hp := fun b => if b = a then some o else H b
theorem upd_same {H : Hp} {a : Addr} {o : HO} : upd H a o a = some o := by unfold upd; rw [if_pos rfl]
theorem upd_ne {H : Hp} {a b : Addr} {o : HO} (h : b ≠ a) : upd H a o b = H b := by unfold upd; rw [if_neg h]
theorem upd_upd {H : Hp} {a : Addr} {o u : HO} : upd (upd H a o) a u = upd H a u := by
  funext b; unfold upd; split <;> rfl
theorem ne_of {H : Hp} {a b : Addr} {o u : HO} (h : H a = some o) (h' : H b = some u) (d : o ≠ u) : a ≠ b := by
  intro e; subst e; rw [h] at h'; exact d (Option.some.inj h')
theorem ne_of_none {H : Hp} {a b : Addr} {o : HO} (h : H a = some o) (h' : H b = none) : a ≠ b := by
  intro e; subst e; rw [h] at h'; cases h'
section
variable (P : Program) (w : World)
def ObjOk (H : Hp) (h : Heap) (a : Addr) : HO → Prop
  | .lst xs => xs.length ≤ sizeLine ∧ ∃ (its : List Value) (n : Nat), Vals xs its ∧ h.get? a = some { cls := .type "list", data := .seq its.toArray n }
  | .tup xs => xs.length ≤ sizeLine ∧ ∃ its : List Value, Vals xs its ∧ IsTup h a its.toArray
  | .dK kvs => kvs.length ≤ sizeLine ∧ (a == sysModules) = false ∧ ∃ vs, KV kvs vs ∧ h.DictOf (mixKind P w) a vs
  | .dT kvs => kvs.length ≤ sizeLine ∧ (a == sysModules) = false ∧ ∃ xs : List (List Key × Addr × Value),
      Paired (fun (p : List Key × V) (q : List Key × Addr × Value) => p.1 = q.1 ∧ H q.2.1 = some (.tup (p.1.map kV)) ∧ RelV p.2 q.2.2) kvs xs ∧
      ∃ o es ep, h.get? a = some o ∧ o.ExactDict ∧ o.data = .dict es ep ∧ es.toList = xs.map (entryOfKey (tupleKind (mixKind P w))) ∧ (xs.map (·.1)).Nodup
  | .set S n => h.SetOf (intKind P w) a S n
  | .ins C dx fs => H dx = some (.own a) ∧ fs.length ≤ 1000 ∧ dx ≠ a ∧ h.get? a = some (PySem.W.instObj C dx) ∧
      ∃ mA, h.Ns1 dx mA ∧ (∀ f, RelO (fs.lookup f) (mA f)) ∧ PySem.Within mA (fs.map (·.1))
  | .own _ => ∃ o, h.get? a = some o
  | .xd fs => ∃ mA, h.Ns1 a mA ∧ ∀ f, RelO (fs.lookup f) (mA f)
  | .rng lo hi => ∃ t u v, h.get? a = some { cls := .type "range", data := .fields #[.int lo t, .int hi u, .int 1 v] }
  | .frz o u => h.get? a = some o ∧ ObjOk H h a u
  | .tbl ps => h.get? a = some { cls := .none, data := .fields ps }
  | .met f x => h.get? a = some (PySem.W.methodObj (.ref f) (.ref x))
  | .ext φ => φ h ∧ (∃ o, h.get? a = some o) ∧ ∀ h1 h2 : Heap, φ h1 → (∀ o, h1.get? a = some o → h2.get? a = some o) → φ h2
def HOk (H : Hp) (h : Heap) : Prop := ∀ a o, H a = some o → ObjOk P w H h a o
end
section
variable {P : Program} {w : World} {H H' : Hp} {h h' : Heap} {a : Addr} {o : HO}
theorem ObjOk.lt (x : ObjOk P w H h a o) : a < h.objs.size := by
  cases o with
  | lst xs => obtain ⟨_, _, _, _, e⟩ := x; exact Heap.lt_size e
  | tup xs => obtain ⟨_, _, _, p⟩ := x; exact p.lt
  | dK kvs => obtain ⟨_, _, _, _, o, _, _, e, _⟩ := x; exact Heap.lt_size e
  | dT kvs => obtain ⟨_, _, _, _, o, _, _, e, _⟩ := x; exact Heap.lt_size e
  | set S n => obtain ⟨o, _, _, _, e, _⟩ := x; exact Heap.lt_size e
  | ins C dx fs => obtain ⟨_, _, _, e, _⟩ := x; exact Heap.lt_size e
  | own y => obtain ⟨_, e⟩ := x; exact Heap.lt_size e
  | xd fs => obtain ⟨_, ⟨_, _, _, e, _⟩, _⟩ := x; exact Heap.lt_size e
  | rng lo hi => obtain ⟨_, _, _, e⟩ := x; exact Heap.lt_size e
  | frz ob u => obtain ⟨e, _⟩ := x; exact Heap.lt_size e
  | tbl ps => exact Heap.lt_size (show h.get? a = some _ from x)
  | met f y => exact Heap.lt_size (show h.get? a = some _ from x)
  | ext φ => obtain ⟨_, ⟨_, e⟩, _⟩ := x; exact Heap.lt_size e
theorem Paired.mapP {α β : Type} {F G : α → β → Prop} : ∀ {l₁ : List α} {l₂ : List β}, Paired F l₁ l₂ → (∀ a b, F a b → G a b) → Paired G l₁ l₂
  | _, _, .nil, _ => .nil
  | _, _, .cons r t, f => .cons (f _ _ r) (Paired.mapP t f)
theorem ObjOk.stay (x : ObjOk P w H h a o) (k : ∀ b u, (b = a ∨ H b = some (.own a)) → h.get? b = some u → h'.get? b = some u)
    (ho : ∀ b, H b = some (.own a) → H' b = some (.own a)) (ht : ∀ b xs, H b = some (.tup xs) → H' b = some (.tup xs)) : ObjOk P w H' h' a o := by
  induction o with
  | lst xs => obtain ⟨z, its, n, r, e⟩ := x; exact ⟨z, its, n, r, k _ _ (.inl rfl) e⟩
  | tup xs => obtain ⟨z, its, r, ob, e, c⟩ := x; exact ⟨z, its, r, ob, k _ _ (.inl rfl) e, c⟩
  | dK kvs => obtain ⟨z, y, vs, r, ob, es, ep, e, c⟩ := x; exact ⟨z, y, vs, r, ob, es, ep, k _ _ (.inl rfl) e, c⟩
  | dT kvs =>
    obtain ⟨z, y, xs, r, ob, es, ep, e, c⟩ := x
    exact ⟨z, y, xs, Paired.mapP r fun p q z => ⟨z.1, ht _ _ z.2.1, z.2.2⟩, ob, es, ep, k _ _ (.inl rfl) e, c⟩
  | set S n => obtain ⟨ob, es, ep, t, e, c⟩ := x; exact ⟨ob, es, ep, t, k _ _ (.inl rfl) e, c⟩
  | ins C dx fs =>
    obtain ⟨d, z, ne, e, mA, ⟨od, es, ep, e2, c⟩, r⟩ := x
    exact ⟨ho _ d, z, ne, k _ _ (.inl rfl) e, mA, ⟨od, es, ep, k _ _ (.inr d) e2, c⟩, r⟩
  | own y => obtain ⟨ob, e⟩ := x; exact ⟨ob, k _ _ (.inl rfl) e⟩
  | xd fs => obtain ⟨mA, ⟨od, es, ep, e, c⟩, r⟩ := x; exact ⟨mA, ⟨od, es, ep, k _ _ (.inl rfl) e, c⟩, r⟩
  | rng lo hi => obtain ⟨t, u, v, e⟩ := x; exact ⟨t, u, v, k _ _ (.inl rfl) e⟩
  | frz ob u ih => obtain ⟨e, q⟩ := x; exact ⟨k _ _ (.inl rfl) e, ih q⟩
  | tbl ps =>
    have e : h.get? a = some { cls := .none, data := .fields ps } := x
    show h'.get? a = some { cls := .none, data := .fields ps }
    exact k a _ (.inl rfl) e
  | met f y =>
    have e : h.get? a = some (PySem.W.methodObj (.ref f) (.ref y)) := x
    show h'.get? a = some (PySem.W.methodObj (.ref f) (.ref y))
    exact k a _ (.inl rfl) e
  | ext φ => obtain ⟨p, ⟨o, e⟩, st⟩ := x; exact ⟨st _ _ p fun o q => k _ _ (.inl rfl) q, ⟨o, k _ _ (.inl rfl) e⟩, st⟩
theorem HOk.lt (x : HOk P w H h) (e : H a = some o) : a < h.objs.size := (x a o e).lt
theorem HOk.fresh (x : HOk P w H h) (e : h.objs.size ≤ a) : H a = none := by
  cases q : H a with
  | none => rfl
  | some u => exact absurd (Nat.lt_of_lt_of_le (x.lt q) e) (Nat.lt_irrefl _)
theorem HOk.kept (x : HOk P w H h) (k : ∀ b u, h.get? b = some u → h'.get? b = some u) : HOk P w H h' := fun a o e =>
  (x a o e).stay (fun b u _ q => k b u q) (fun _ q => q) fun _ _ q => q
theorem HOk.laid (x : HOk P w H h) (k : ∀ b u, h.get? b = some u → h'.get? b = some u) (hp : h.objs.size ≤ a) (new : ObjOk P w (upd H a o) h' a o) : HOk P w (upd H a o) h' := fun b u e => by
  have hn := x.fresh hp
  by_cases hb : b = a
  · subst hb; rw [upd_same] at e; cases e; exact new
  · rw [upd_ne hb] at e
    exact (x b u e).stay (fun c v _ q => k c v q) (fun c q => by rw [upd_ne (ne_of_none q hn)]; exact q) fun c xs q => by rw [upd_ne (ne_of_none q hn)]; exact q
end
def Rd (H : Hp) (a : Addr) (u : HO) : Prop := H a = some u ∨ ∃ o, H a = some (.frz o u)
theorem Rd.ok {P : Program} {w : World} {H : Hp} {h : Heap} {a : Addr} {u : HO} (r : Rd H a u) (x : HOk P w H h) : ObjOk P w H h a u := by
  rcases r with r | ⟨o, r⟩
  · exact x a u r
  · obtain ⟨_, q⟩ := x a _ r
    exact q
def Mut : Option HO → Prop
  | some (.lst _) => True
  | some (.dK _) => True
  | some (.dT _) => True
  | some (.set _ _) => True
  | some (.ins _ _ _) => True
  | some (.ext _) => True
  | _ => False
section
variable {P : Program} {w : World} {H : Hp} {h h' : Heap} {x e : Addr} {o' : HO}
theorem HOk.write (ok : HOk P w H h) (mu : Mut (H x)) (he : e = x ∨ H e = some (.own x)) (k : ∀ b u, b ≠ e → h.get? b = some u → h'.get? b = some u) (heo : ∃ u, h'.get? e = some u)
    (new : ObjOk P w (upd H x o') h' x o') : HOk P w (upd H x o') h' := fun b u q => by
  have nown : ∀ c y, H c = some (.own y) → c ≠ x := fun c y r z => by subst z; rw [r] at mu; exact mu
  have ntup : ∀ c xs, H c = some (.tup xs) → c ≠ x := fun c xs r z => by subst z; rw [r] at mu; exact mu
  by_cases hb : b = x
  · subst hb; rw [upd_same] at q; cases q; exact new
  · rw [upd_ne hb] at q
    by_cases hbe : b = e
    · have q' : H b = some (.own x) := by
        rcases he with z | z
        · exact absurd (hbe.trans z) hb
        · rw [hbe]; exact z
      rw [q] at q'; cases q'
      obtain ⟨v, hv⟩ := heo
      exact ⟨v, by rw [hbe]; exact hv⟩
    · refine (ok b u q).stay (fun c v hc r => k c v ?_ r) (fun c r => by rw [upd_ne (nown c b r)]; exact r) fun c xs r => by rw [upd_ne (ntup c xs r)]; exact r
      rcases hc with rfl | hc
      · exact hbe
      · rintro rfl
        rcases he with z | z
        · exact nown c b hc z
        · rw [hc] at z; cases z; exact hb rfl
end
structure Un (fs ex : List Addr) (H H' : Hp) (h h' : Heap) : Prop where
  keep : ∀ b o, h.get? b = some o → H b = none → b ∉ fs → b ∉ ex → h'.get? b = some o
  slot : ∀ b o, h.get? b = some o → H b = none → b ∈ fs → b ∉ ex → ∃ sl, h'.get? b = some { o with slots := sl }
  free : ∀ b o, h.get? b = some o → H b = none → b ∉ ex → H' b = none
  there : ∀ b o, h.get? b = some o → b ∉ ex → ∃ o', h'.get? b = some o'
  tups : ∀ b xs, H b = some (.tup xs) → H' b = some (.tup xs)
  frzs : ∀ b o u, H b = some (.frz o u) → H' b = some (.frz o u)
  tbls : ∀ b ps, H b = some (.tbl ps) → ∃ more, H' b = some (.tbl (ps ++ more))
section
variable {fs fs' ex ex' : List Addr} {H H1 H2 : Hp} {h h1 h2 h' : Heap} {a x e : Addr} {o : HO}
theorem Un.any (u : Un fs ex H H1 h h1) {b : Addr} {ob : Obj} (q : h.get? b = some ob) (n : H b = none) (hx : b ∉ ex) : ∃ sl, h1.get? b = some { ob with slots := sl } := by
  by_cases hb : b ∈ fs
  · exact u.slot b ob q n hb hx
  · exact ⟨ob.slots, u.keep b ob q n hb hx⟩
theorem Un.kept (k : ∀ b u, h.get? b = some u → h'.get? b = some u) : Un fs ex H H h h' :=
  ⟨fun b ob q _ _ _ => k b ob q, fun b ob q _ _ _ => ⟨ob.slots, k b ob q⟩, fun _ _ _ n _ => n, fun b ob q _ => ⟨ob, k b ob q⟩, fun _ _ q => q, fun _ _ _ q => q, fun _ ps q => ⟨#[], by rw [q]; simp⟩⟩
theorem Un.refl : Un fs ex H H h h := Un.kept fun _ _ q => q
theorem Un.laid (k : ∀ b u, h.get? b = some u → h'.get? b = some u) (hp : h.objs.size ≤ a) (hn : H a = none) : Un fs ex H (upd H a o) h h' where
  keep := fun b u q _ _ _ => k b u q
  slot := fun b u q _ _ _ => ⟨u.slots, k b u q⟩
  free := fun b u q n _ => by rw [upd_ne (Nat.ne_of_lt (Nat.lt_of_lt_of_le (Heap.lt_size q) hp))]; exact n
  there := fun b u q _ => ⟨u, k b u q⟩
  tups := fun b xs q => by rw [upd_ne (ne_of_none q hn)]; exact q
  frzs := fun b u xs q => by rw [upd_ne (ne_of_none q hn)]; exact q
  tbls := fun b ps q => ⟨#[], by rw [upd_ne (ne_of_none q hn), q]; simp⟩
theorem Un.write (mu : Mut (H x)) (he : e = x ∨ H e = some (.own x)) (k : ∀ b u, b ≠ e → h.get? b = some u → h'.get? b = some u) (heo : ∃ u, h'.get? e = some u) : Un fs ex H (upd H x o) h h' := by
  have hx : ∀ b, H b = none → b ≠ x := fun b n z => by subst z; rw [n] at mu; exact mu
  have hb : ∀ b, H b = none → b ≠ e := fun b n z => by
    subst z
    rcases he with r | r
    · exact hx b n r
    · rw [n] at r; cases r
  have hm : ∀ b u, H b = some u → ¬ Mut (some u) → b ≠ x := fun b u q nm z => by subst z; rw [q] at mu; exact nm mu
  refine ⟨fun b u q n _ _ => k b u (hb b n) q, fun b u q n _ _ => ⟨u.slots, k b u (hb b n) q⟩, fun b u q n _ => by rw [upd_ne (hx b n)]; exact n, fun b u q _ => ?_,
    fun b xs q => by rw [upd_ne (hm b _ q fun z => z)]; exact q, fun b u xs q => by rw [upd_ne (hm b _ q fun z => z)]; exact q, fun b ps q => ⟨#[], by rw [upd_ne (hm b _ q fun z => z), q]; simp⟩⟩
  by_cases hbe : b = e
  · subst hbe; exact heo
  · exact ⟨u, k b u hbe q⟩
end
def trk (h : Heap) (H : Hp) : List Addr := (List.range h.objs.size).filter fun a => (H a).isSome
def hidT (h : Heap) (H : Hp) : Heap := PySem.W.hideAll h (trk h H)
theorem hidT_size (h : Heap) (H : Hp) : (hidT h H).objs.size = h.objs.size := PySem.W.hideAll_size _ _
theorem hidT_get {h : Heap} {H : Hp} {b : Addr} {o : Obj} (e : h.get? b = some o) (n : H b = none) : (hidT h H).get? b = some o :=
  PySem.W.hideAll_get _ e fun hm => by
    have q : (H b).isSome = true := (List.mem_filter.mp hm).2
    rw [n] at q; simp at q
theorem of_hidT {h : Heap} {H : Hp} {b : Addr} {o : Obj} (e : (hidT h H).get? b = some o) : h.get? b = some o ∧ H b = none := by
  have e' : h.get? b = some o := PySem.W.of_hideAll (trk h H) e
  refine ⟨e', ?_⟩
  cases q : H b with
  | none => rfl
  | some x =>
    have hm : b ∈ trk h H := List.mem_filter.mpr ⟨List.mem_range.mpr (Heap.lt_size e'), by simp [q]⟩
    have z : (hidT h H).get? b = none := PySem.W.hideAll_none (trk h H) hm
    rw [z] at e; cases e
def allNews (g h : Heap) (L : Addr) : List (Addr × Obj) := (List.range h.objs.size).filterMap fun a => if a = L ∨ (g.get? a).isSome = true then none else (h.get? a).map fun o => (a, o)
def rest (g h : Heap) (L d : Addr) : List (Addr × Obj) := (allNews g h L).filter fun p => decide (p.1 ≠ d)
end L2
namespace L2
open PySem PySem.Spec PyProof.Rows
structure Mod (K : PySem.W.Frag) (mg : Str → Option Value) (base : Heap) : Prop where
  kin : K.In base
  glob : base.Ns mainGlobals mg
  blt : ∃ mb, base.Ns builtinsNs mb ∧ ∀ x : Str, x ≠ "__name__" → mb x = bootBuiltins x
  nolimit : base.NoLimit
structure Cx where
  prog : Program
  w : World
  K : PySem.W.Frag
  mg : Str → Option Value
  base : Heap
  A : Around
  N : List Str
  s₀ : Shared
  H₀ : Hp
  env : Env
  outer : List Env
  stack : List Env
  ex : List Addr
  fn : Str → Bool
  calm : Bool
  pn : List (Addr × Obj)
  xe : Value → Shared → Prop
def frs (l : List Env) : List Addr := l.filterMap (·.frame)
abbrev Cx.fs (X : Cx) : List Addr := frs X.outer
def Vis (sc : Scope) (x : Str) : Prop := sc.names.lookup x = some .local ∨ sc.names.lookup x = some .cell ∨ sc.names.lookup x = some .free
def Loc (sc : Scope) (x : Str) : Prop := sc.names.lookup x = some .local ∨ sc.names.lookup x = some .cell
def Look (env : Env) (h : Heap) (m : Str → Option Value) (x : Str) (u : Value) : Prop :=
  (env.kindOf x = some .local ∧ m x = some u) ∨ ((env.kindOf x = some .cell ∨ env.kindOf x = some .free) ∧ ∃ c, env.cells.lookup x = some c ∧ h.IsCell c (some u))
structure Cx.Ok (X : Cx) : Prop where
  mod : Mod X.K X.mg X.base
  kind : X.env.scope.kind = .function
  glob : X.env.globals = mainGlobals
  blt : X.env.builtins = builtinsNs
  above : X.s₀.heap.objs.size ≤ X.env.locals
  inj : ∀ x y c, X.env.cells.lookup x = some c → X.env.cells.lookup y = some c → x = y
  has : ∀ x, (X.env.kindOf x = some .cell ∨ X.env.kindOf x = some .free) → ∃ c, X.env.cells.lookup x = some c
  cab : ∀ x c, X.fn x = true → X.env.cells.lookup x = some c → X.s₀.heap.objs.size ≤ c
  hd : X.calm = true → X.A.handled = none
  frames : X.A.frames = some X.stack
  stk : X.stack = X.outer ∨ (X.stack = X.env :: X.outer ∧ X.env.frame = some X.env.locals)
  exf : ∀ b ∈ X.ex, b ≠ X.env.locals ∧ ∀ x c, X.env.cells.lookup x = some c → c ≠ b
  bs : ∀ b o, X.base.get? b = some o → X.s₀.heap.get? b = some o ∧ X.H₀ b = none
  bsz : X.base.objs.size ≤ X.s₀.heap.objs.size
  noex : ∀ b o, X.base.get? b = some o → b ∉ X.ex
  exfs : ∀ b ∈ X.ex, b ∉ X.fs
  funs : X.s₀.heap.FunFrames X.base X.outer
  frf : ∀ b ∈ X.fs, X.H₀ b = none
structure Inv (X : Cx) (pins : List (Addr × Obj)) (σ : List (Option V)) (H : Hp) (s : Shared) : Prop where
  ok : X.Ok
  os : s.os = X.s₀.os
  bare : AllBare s.gens
  base : Un X.fs X.ex X.H₀ H X.s₀.heap s.heap
  loc : ∃ m, s.heap.Ns X.env.locals m ∧ ∀ (i : Nat) (x : Str) (v : V), X.N[i]? = some x → σ[i]? = some (some v) → Vis X.env.scope x → ∃ u, RelV v u ∧ Look X.env s.heap m x u
  cell : ∀ x c, X.env.cells.lookup x = some c → ∃ v, s.heap.IsCell c v
  free : H X.env.locals = none
  freeC : ∀ x c, X.env.cells.lookup x = some c → H c = none
  pin : ∀ p ∈ X.pn ++ pins, s.heap.get? p.1 = some p.2 ∧ H p.1 = none ∧ p.1 ≠ X.env.locals ∧ p.1 ∉ X.fs ∧ ∀ v, p.2.data ≠ .cell v
  hok : HOk X.prog X.w H s.heap
  len : σ.length = X.N.length
section
variable {X : Cx} {pins : List (Addr × Obj)} {σ : List (Option V)} {H H' : Hp} {s : Shared} {h' : Heap}
theorem Cx.Ok.nofr (ok : X.Ok) {b : Addr} {o : Obj} (e : X.base.get? b = some o) : b ∉ X.fs := fun hb => by
  have := (ok.funs.mem hb).1
  rw [e] at this; cases this
theorem Inv.bs (I : Inv X pins σ H s) : ∀ b o, X.base.get? b = some o → s.heap.get? b = some o ∧ H b = none := fun b o e =>
  ⟨I.base.keep b o (I.ok.bs b o e).1 (I.ok.bs b o e).2 (I.ok.nofr e) (I.ok.noex b o e), I.base.free b o (I.ok.bs b o e).1 (I.ok.bs b o e).2 (I.ok.noex b o e)⟩
theorem Inv.bk (I : Inv X pins σ H s) : ∀ b o, X.base.get? b = some o → s.heap.get? b = some o := fun b o e => (I.bs b o e).1
theorem Inv.mod (I : Inv X pins σ H s) : Mod X.K X.mg X.base := I.ok.mod
theorem Inv.kIn (I : Inv X pins σ H s) : X.K.In s.heap := I.ok.mod.kin.keeps I.bk
theorem Inv.lt (I : Inv X pins σ H s) : X.env.locals < s.heap.objs.size := let ⟨_, hn, _⟩ := I.loc; hn.lt
theorem Inv.sz (I : Inv X pins σ H s) : X.s₀.heap.objs.size ≤ s.heap.objs.size := Nat.le_trans I.ok.above (Nat.le_of_lt I.lt)
theorem Inv.nofs (I : Inv X pins σ H s) {a : Addr} (h : s.heap.objs.size ≤ a) : a ∉ X.fs := fun hb => by
  obtain ⟨_, o, ho, _⟩ := I.ok.funs.mem hb
  exact absurd (Nat.lt_of_lt_of_le (Heap.lt_size ho) (Nat.le_trans I.sz h)) (Nat.lt_irrefl _)
theorem Inv.cne (I : Inv X pins σ H s) : ∀ x c, X.env.cells.lookup x = some c → c ≠ X.env.locals := fun x c e z => by
  obtain ⟨v, o, ho, hd⟩ := I.cell x c e
  obtain ⟨m, ⟨o', es, ep, ho', hd', _⟩, _⟩ := I.loc
  rw [z, ho'] at ho; cases ho; rw [hd'] at hd; cases hd
theorem Inv.funs (I : Inv X pins σ H s) : s.heap.FunFrames X.base X.outer := by
  have all : ∀ (l : List Env), (∀ b ∈ frs l, b ∈ X.fs) → X.s₀.heap.FunFrames X.base l → s.heap.FunFrames X.base l := by
    intro l
    induction l with
    | nil => intro _ _; trivial
    | cons env r ih =>
      intro hs hl
      obtain ⟨hk, ⟨L, o, hf, hn, ho, hd⟩, hr⟩ := hl
      have hL : L ∈ X.fs := hs L (by unfold frs; rw [List.filterMap_cons, hf]; exact List.mem_cons_self)
      obtain ⟨sl, e⟩ := I.base.slot L o ho (I.ok.frf L hL) hL fun z => I.ok.exfs L z hL
      exact ⟨hk, ⟨L, _, hf, hn, e, hd⟩, ih (fun b hb => hs b (by unfold frs; rw [List.filterMap_cons, hf]; exact List.mem_cons_of_mem _ hb)) hr⟩
  exact all X.outer (fun _ hb => hb) I.ok.funs
theorem Inv.stack (I : Inv X pins σ H s) : s.heap.FunFrames X.base X.stack := by
  rcases I.ok.stk with e | ⟨e, hf⟩
  · rw [e]; exact I.funs
  · rw [e]
    obtain ⟨m, hn, _⟩ := I.loc
    refine .cons (by rw [I.ok.kind]; decide) hf hn ?_ I.funs
    exact Heap.get?_none_of_le (Nat.le_trans I.ok.bsz I.ok.above)
theorem Inv.stkSub (I : Inv X pins σ H s) : ∀ b ∈ frs X.stack, b ∈ X.env.locals :: X.fs := fun b hb => by
  rcases I.ok.stk with e | ⟨e, hf⟩
  · rw [e] at hb; exact List.mem_cons_of_mem _ hb
  · rw [e] at hb
    unfold frs at hb
    rw [List.filterMap_cons, hf] at hb
    exact hb
theorem Inv.stkFree (I : Inv X pins σ H s) : ∀ b ∈ frs X.stack, H b = none := fun b hb => by
  rcases List.mem_cons.mp (I.stkSub b hb) with e | hb
  · rw [e]; exact I.free
  · obtain ⟨_, o, ho, _⟩ := I.ok.funs.mem hb
    exact I.base.free b o ho (I.ok.frf b hb) fun z => I.ok.exfs b z hb
theorem Inv.step {g' : Array GenState} {t' : Nat} {d' : Drawn} {ch : List Addr} (I : Inv X pins σ H s)
    (hch : ∀ b ∈ ch, (b ∈ X.ex ∨ X.s₀.heap.objs.size ≤ b) ∧ b ≠ X.env.locals ∧ (∀ x c, X.env.cells.lookup x = some c → c ≠ b) ∧ ∀ p ∈ X.pn ++ pins, p.1 ≠ b)
    (keep : ∀ b o, b ≠ X.env.locals → b ∉ X.fs → b ∉ ch → s.heap.get? b = some o → H b = none → h'.get? b = some o)
    (slot : ∀ b o, b ≠ X.env.locals → b ∈ X.fs → b ∉ ch → s.heap.get? b = some o → H b = none → ∃ sl, h'.get? b = some { o with slots := sl }) (free : ∀ b o, b ∉ ch → s.heap.get? b = some o → H b = none → H' b = none)
    (there : ∀ b o, b ∉ ch → s.heap.get? b = some o → ∃ o', h'.get? b = some o')
    (tups : ∀ b xs, H b = some (.tup xs) → H' b = some (.tup xs)) (frzs : ∀ b o u, H b = some (.frz o u) → H' b = some (.frz o u)) (tbls : ∀ b ps, H b = some (.tbl ps) → ∃ more, H' b = some (.tbl (ps ++ more)))
    (ns : ∀ m, s.heap.Ns X.env.locals m → h'.Ns X.env.locals m) (hok : HOk X.prog X.w H' h') (hg : AllBare g') :
    Inv X pins σ H' { s with heap := h', gens := g', drawn := d', toks := t' } := by
  have neL : ∀ b o, X.s₀.heap.get? b = some o → b ≠ X.env.locals := fun b o e => Nat.ne_of_lt (Nat.lt_of_lt_of_le (Heap.lt_size e) I.ok.above)
  have neC : ∀ b o, X.s₀.heap.get? b = some o → b ∉ X.ex → b ∉ ch := fun b o e hx hb => by
    rcases (hch b hb).1 with z | z
    · exact hx z
    · exact absurd (Nat.lt_of_lt_of_le (Heap.lt_size e) z) (Nat.lt_irrefl _)
  have cellK : ∀ x c, X.env.cells.lookup x = some c → ∀ v, s.heap.IsCell c v → h'.IsCell c v := fun x c e v ⟨o, ho, hd⟩ => by
    have nch : c ∉ ch := fun z => (hch c z).2.2.1 x c e rfl
    by_cases hc : c ∈ X.fs
    · obtain ⟨sl, q⟩ := slot c o (I.cne x c e) hc nch ho (I.freeC x c e)
      exact ⟨_, q, hd⟩
    · exact ⟨o, keep c o (I.cne x c e) hc nch ho (I.freeC x c e), hd⟩
  refine ⟨I.ok, I.os, hg, ⟨fun b o e n hb hx => ?_, fun b o e n hb hx => ?_, fun b o e n hx => ?_, fun b o e hx => ?_, fun b xs e => tups b xs (I.base.tups b xs e), fun b o xs e => frzs b o xs (I.base.frzs b o xs e), fun b ps e => ?_⟩, ?_, fun x c e => ?_, ?_, fun x c e => ?_, fun p hp => ?_, hok, I.len⟩
  · exact keep b o (neL b o e) hb (neC b o e hx) (I.base.keep b o e n hb hx) (I.base.free b o e n hx)
  · obtain ⟨sl, e1⟩ := I.base.slot b o e n hb hx
    obtain ⟨sl', e2⟩ := slot b _ (neL b o e) hb (neC b o e hx) e1 (I.base.free b o e n hx)
    exact ⟨sl', e2⟩
  · obtain ⟨o', e1⟩ := I.base.there b o e hx
    exact free b o' (neC b o e hx) e1 (I.base.free b o e n hx)
  · obtain ⟨o', e1⟩ := I.base.there b o e hx
    exact there b o' (neC b o e hx) e1
  · obtain ⟨m1, e1⟩ := I.base.tbls b ps e
    obtain ⟨m2, e2⟩ := tbls b _ e1
    exact ⟨m1 ++ m2, by rw [e2, Array.append_assoc]⟩
  · obtain ⟨m, hn, hl⟩ := I.loc
    refine ⟨m, ns m hn, fun i x v e1 e2 e3 => ?_⟩
    obtain ⟨u, r, l⟩ := hl i x v e1 e2 e3
    refine ⟨u, r, ?_⟩
    rcases l with l | ⟨k, c, e, z⟩
    · exact .inl l
    · exact .inr ⟨k, c, e, cellK x c e _ z⟩
  · obtain ⟨v, z⟩ := I.cell x c e
    exact ⟨v, cellK x c e v z⟩
  · obtain ⟨m, ⟨o, _, _, ho, _⟩, _⟩ := I.loc
    exact free _ o (fun z => (hch _ z).2.1 rfl) ho I.free
  · obtain ⟨v, o, ho, hd⟩ := I.cell x c e
    exact free c o (fun z => (hch c z).2.2.1 x c e rfl) ho (I.freeC x c e)
  · obtain ⟨e, n, ne, nf, d⟩ := I.pin p hp
    have nch : p.1 ∉ ch := fun z => (hch p.1 z).2.2.2 p hp rfl
    exact ⟨keep p.1 p.2 ne nf nch e n, free p.1 p.2 nch e n, ne, nf, d⟩
theorem Inv.un {t' : Nat} (I : Inv X pins σ H s) (u : Un X.fs [] H H' s.heap h') (hok : HOk X.prog X.w H' h') : Inv X pins σ H' { s with heap := h', toks := t' } := by
  obtain ⟨m, ⟨o, es, ep, ho, r⟩, _⟩ := id I.loc
  obtain ⟨sl, hL⟩ := u.any ho I.free (by simp)
  exact I.step (g' := s.gens) (d' := s.drawn) (ch := []) (fun _ z => nomatch z) (fun b o _ hb _ e n => u.keep b o e n hb (by simp)) (fun b o _ hb _ e n => u.slot b o e n hb (by simp)) (fun b o _ e n => u.free b o e n (by simp)) (fun b o _ e => u.there b o e (by simp)) u.tups u.frzs u.tbls (fun m' hm => by
    obtain ⟨o', es', ep', ho', r'⟩ := hm
    rw [ho] at ho'; cases ho'
    exact ⟨_, es', ep', hL, r'⟩) hok I.bare
theorem Inv.call {g' : Array GenState} {t' : Nat} {d' : Drawn} {ch : List Addr} (I : Inv X pins σ H s) (u : Un (frs X.stack) ch H H' s.heap h') (hok : HOk X.prog X.w H' h') (hg : AllBare g')
    (hch : ∀ b ∈ ch, (b ∈ X.ex ∨ X.s₀.heap.objs.size ≤ b) ∧ b ≠ X.env.locals ∧ (∀ x c, X.env.cells.lookup x = some c → c ≠ b) ∧ ∀ p ∈ X.pn ++ pins, p.1 ≠ b) :
    Inv X pins σ H' { s with heap := h', gens := g', drawn := d', toks := t' } := by
  obtain ⟨m, ⟨o, es, ep, ho, r⟩, _⟩ := id I.loc
  obtain ⟨sl, hL⟩ := u.any ho I.free fun z => (hch _ z).2.1 rfl
  exact I.step (ch := ch) hch (fun b o hL hb hc e n => u.keep b o e n (fun z => (List.mem_cons.mp (I.stkSub b z)).elim hL hb) hc) (fun b o _ _ hc e n => u.any e n hc) (fun b o hc e n => u.free b o e n hc) (fun b o hc e => u.there b o e hc) u.tups u.frzs u.tbls (fun m' hm => by
    obtain ⟨o', es', ep', ho', r'⟩ := hm
    rw [ho] at ho'; cases ho'
    exact ⟨_, es', ep', hL, r'⟩) hok hg
theorem Inv.turned {t' : Nat} {it : Addr} (I : Inv X pins σ H s) (k : ∀ b o, b ≠ it → s.heap.get? b = some o → h'.get? b = some o) (hn : H it = none) (hL : it ≠ X.env.locals)
    (h1 : it ∈ X.ex ∨ X.s₀.heap.objs.size ≤ it) (h2 : ∀ x c, X.env.cells.lookup x = some c → c ≠ it) (h3 : ∀ p ∈ X.pn ++ pins, p.1 ≠ it) : Inv X pins σ H { s with heap := h', toks := t' } := by
  have nit : ∀ b u, H b = some u → b ≠ it := fun b u e z => by rw [z, hn] at e; cases e
  refine I.step (g' := s.gens) (d' := s.drawn) (ch := [it]) (fun b hb => ?_) (fun b o _ _ hc e _ => k b o (fun z => hc (by simp [z])) e) (fun b o _ _ hc e _ => ⟨o.slots, k b o (fun z => hc (by simp [z])) e⟩) (fun _ _ _ _ n => n)
    (fun b o hc e => ⟨o, k b o (fun z => hc (by simp [z])) e⟩) (fun _ _ e => e) (fun _ _ _ e => e) (fun b ps e => ⟨#[], by rw [e]; simp⟩) (fun m hm => ?_) (fun b u e => ?_) I.bare
  · have e : b = it := by simpa using hb
    subst e
    exact ⟨h1, hL, h2, h3⟩
  · obtain ⟨o, es, ep, ho, r⟩ := hm
    exact ⟨o, es, ep, k _ o (Ne.symm hL) ho, r⟩
  · refine (I.hok b u e).stay (fun c v hc q => k c v ?_ q) (fun _ q => q) fun _ _ q => q
    rcases hc with z | z
    · rw [z]; exact nit b u e
    · exact nit c _ z
theorem Inv.tok (I : Inv X pins σ H s) (t : Nat) : Inv X pins σ H { s with toks := t } := I.un (h' := s.heap) (t' := t) Un.refl I.hok
theorem Inv.kept {t' : Nat} (I : Inv X pins σ H s) (k : ∀ b u, s.heap.get? b = some u → h'.get? b = some u) : Inv X pins σ H { s with heap := h', toks := t' } := I.un (Un.kept k) (I.hok.kept k)
theorem Inv.laid {a : Addr} {o : HO} {t' : Nat} (I : Inv X pins σ H s) (k : ∀ b u, s.heap.get? b = some u → h'.get? b = some u) (hp : s.heap.objs.size ≤ a) (new : ObjOk X.prog X.w (upd H a o) h' a o) :
    Inv X pins σ (upd H a o) { s with heap := h', toks := t' } := I.un (Un.laid k hp (I.hok.fresh hp)) (I.hok.laid k hp new)
theorem Inv.write {x e : Addr} {o : HO} {t' : Nat} (I : Inv X pins σ H s) (mu : Mut (H x)) (he : e = x ∨ H e = some (.own x)) (k : ∀ b u, b ≠ e → s.heap.get? b = some u → h'.get? b = some u) (heo : ∃ u, h'.get? e = some u)
    (new : ObjOk X.prog X.w (upd H x o) h' x o) : Inv X pins σ (upd H x o) { s with heap := h', toks := t' } := I.un (Un.write mu he k heo) (I.hok.write mu he k heo new)
theorem Inv.pins_of {pins' : List (Addr × Obj)} (I : Inv X pins σ H s) (h : ∀ p ∈ pins', s.heap.get? p.1 = some p.2 ∧ H p.1 = none ∧ p.1 ≠ X.env.locals ∧ p.1 ∉ X.fs ∧ ∀ v, p.2.data ≠ .cell v) : Inv X pins' σ H s :=
  ⟨I.ok, I.os, I.bare, I.base, I.loc, I.cell, I.free, I.freeC, fun p hp => (List.mem_append.mp hp).elim (fun z => I.pin p (List.mem_append_left _ z)) (h p), I.hok, I.len⟩
theorem nodup_ix {N : List Str} (hN : N.Nodup) {i j : Nat} {x : Str} (a : N[i]? = some x) (b : N[j]? = some x) : i = j := by
  obtain ⟨h1, e1⟩ := List.getElem?_eq_some_iff.mp a
  obtain ⟨h2, e2⟩ := List.getElem?_eq_some_iff.mp b
  exact (List.getElem_inj hN).mp (e1.trans e2.symm)
theorem store_ok2 {M : Model} {A : Around} {E : Value → Shared → Prop} {i : Nat} {x : Str} {v : V} {u : Value} {Q : Unit → Shared → Prop} (I : Inv X pins σ H s) (hN : X.N.Nodup) (hi : X.N[i]? = some x) (hx : Loc X.env.scope x) (r : RelV v u)
    (h : ∀ s', Inv X pins (σ.set i (some v)) H s' → (∃ a, Heap.SameBut a s.heap s'.heap ∧ (a = X.env.locals ∨ X.env.cells.lookup x = some a)) → Q () s') (hf : X.fn x = true ∨ X.env.scope.names.lookup x = some .local := by first | exact .inl rfl | exact .inr rfl | assumption) : wpAny M A (storeName X.env x u) Q E s := by
  obtain ⟨m, hn, hl⟩ := id I.loc
  have hcls : (X.env.scope.kind == .class || (X.env.scope.kind == .module && X.env.locals != X.env.globals)) = false := by rw [I.ok.kind]; rfl
  have hiσ : i < σ.length := by rw [I.len]; exact (List.getElem?_eq_some_iff.mp hi).1
  have cne := I.cne
  have tracked : ∀ {a : Addr} {h' : Heap}, (∃ o, s.heap.get? a = some o ∧ H a = none) → Heap.SameBut a s.heap h' → HOk X.prog X.w H h' := fun {a h'} ha hs b ob e => by
    obtain ⟨_, _, hfree⟩ := ha
    refine (I.hok b ob e).stay (fun c w' hc q => (hs.2 c ?_).trans q) (fun _ q => q) fun _ _ q => q
    rintro rfl
    rcases hc with rfl | hc
    · rw [hfree] at e; cases e
    · rw [hfree] at hc; cases hc
  rcases hx with hk | hk
  · refine wpAny_storeName_local hk hn (fun h' hn' hs => ?_) hcls
    obtain ⟨oL, _, _, hoL, _⟩ := id hn
    refine h _ ⟨I.ok, I.os, I.bare, ⟨fun b o e n hb hx => ?_, fun b o e n hb hx => ?_, I.base.free, fun b o e hx => ?_, I.base.tups, I.base.frzs, I.base.tbls⟩, ⟨_, hn', fun j y v' e1 e2 e3 => ?_⟩, fun y c e => ?_, I.free, I.freeC, fun p hp => ?_, tracked ⟨oL, hoL, I.free⟩ hs, by simpa using I.len⟩ ⟨_, hs, .inl rfl⟩
    · exact (hs.2 b (Nat.ne_of_lt (Nat.lt_of_lt_of_le (Heap.lt_size e) I.ok.above))).trans (I.base.keep b o e n hb hx)
    · obtain ⟨sl, e1⟩ := I.base.slot b o e n hb hx
      exact ⟨sl, (hs.2 b (Nat.ne_of_lt (Nat.lt_of_lt_of_le (Heap.lt_size e) I.ok.above))).trans e1⟩
    · obtain ⟨o', e1⟩ := I.base.there b o e hx
      exact ⟨o', (hs.2 b (Nat.ne_of_lt (Nat.lt_of_lt_of_le (Heap.lt_size e) I.ok.above))).trans e1⟩
    · by_cases hj : j = i
      · subst hj
        rw [hi] at e1; cases e1
        rw [List.getElem?_set_self hiσ] at e2
        cases e2
        exact ⟨u, r, .inl ⟨hk, by simp⟩⟩
      · rw [List.getElem?_set_ne (Ne.symm hj)] at e2
        obtain ⟨u', r', q⟩ := hl j y v' e1 e2 e3
        refine ⟨u', r', ?_⟩
        rcases q with ⟨k, e⟩ | ⟨k, c, e, z⟩
        · refine .inl ⟨k, ?_⟩
          have : y ≠ x := fun e => hj (nodup_ix hN e1 (e ▸ hi))
          simp [this, e]
        · exact .inr ⟨k, c, e, z.sameBut hs (cne y c e)⟩
    · obtain ⟨w', z⟩ := I.cell y c e
      exact ⟨w', z.sameBut hs (cne y c e)⟩
    · obtain ⟨e, n, ne, nf, d⟩ := I.pin p hp
      exact ⟨(hs.2 p.1 ne).trans e, n, ne, nf, d⟩
  · have hfn : X.fn x = true := by
      rcases hf with z | z
      · exact z
      · rw [z] at hk; cases hk
    obtain ⟨c, hc⟩ := I.ok.has x (.inl hk)
    obtain ⟨w', z⟩ := I.cell x c hc
    refine wpAny_storeName_cell I.ok.kind hk hc z (fun h' hc' hs => ?_)
    obtain ⟨oc, hoc, hocd⟩ := id z
    refine h { s with heap := h' } ⟨I.ok, I.os, I.bare, ⟨fun b o e n hb hx => ?_, fun b o e n hb hx => ?_, I.base.free, fun b o e hx => ?_, I.base.tups, I.base.frzs, I.base.tbls⟩, ⟨m, hn.sameBut hs (Ne.symm (cne x c hc)), fun j y v' e1 e2 e3 => ?_⟩, fun y c' e => ?_, I.free, I.freeC, fun p hp => ?_, tracked ⟨oc, hoc, I.freeC x c hc⟩ hs, by simpa using I.len⟩ ⟨c, hs, .inr hc⟩
    · exact (hs.2 b (Nat.ne_of_lt (Nat.lt_of_lt_of_le (Heap.lt_size e) (I.ok.cab x c hfn hc)))).trans (I.base.keep b o e n hb hx)
    · obtain ⟨sl, e1⟩ := I.base.slot b o e n hb hx
      exact ⟨sl, (hs.2 b (Nat.ne_of_lt (Nat.lt_of_lt_of_le (Heap.lt_size e) (I.ok.cab x c hfn hc)))).trans e1⟩
    · obtain ⟨o', e1⟩ := I.base.there b o e hx
      exact ⟨o', (hs.2 b (Nat.ne_of_lt (Nat.lt_of_lt_of_le (Heap.lt_size e) (I.ok.cab x c hfn hc)))).trans e1⟩
    · by_cases hj : j = i
      · subst hj
        rw [hi] at e1; cases e1
        rw [List.getElem?_set_self hiσ] at e2
        cases e2
        exact ⟨u, r, .inr ⟨.inl hk, c, hc, hc'⟩⟩
      · rw [List.getElem?_set_ne (Ne.symm hj)] at e2
        obtain ⟨u', r', q⟩ := hl j y v' e1 e2 e3
        refine ⟨u', r', ?_⟩
        rcases q with q | ⟨k, c', e, z'⟩
        · exact .inl q
        · refine .inr ⟨k, c', e, z'.sameBut hs ?_⟩
          rintro rfl
          exact hj (nodup_ix hN e1 (I.ok.inj _ _ _ e hc ▸ hi))
    · by_cases hcc : c' = c
      · subst hcc; exact ⟨_, hc'⟩
      · obtain ⟨w2, z2⟩ := I.cell y c' e
        exact ⟨w2, z2.sameBut hs hcc⟩
    · obtain ⟨e, n, ne, nf, d⟩ := I.pin p hp
      refine ⟨(hs.2 p.1 ?_).trans e, n, ne, nf, d⟩
      intro q
      rw [q, hoc] at e
      have q' : oc = p.2 := Option.some.inj e
      exact d w' (by rw [← q']; exact hocd)
theorem store_ok {M : Model} {A : Around} {E : Value → Shared → Prop} {i : Nat} {x : Str} {v : V} {u : Value} {Q : Unit → Shared → Prop} (I : Inv X pins σ H s) (hN : X.N.Nodup) (hi : X.N[i]? = some x) (hx : Loc X.env.scope x) (r : RelV v u)
    (h : ∀ s', Inv X pins (σ.set i (some v)) H s' → Q () s') (hf : X.fn x = true ∨ X.env.scope.names.lookup x = some .local := by first | exact .inl rfl | exact .inr rfl | assumption) : wpAny M A (storeName X.env x u) Q E s :=
  store_ok2 I hN hi hx r (fun s' I' _ => h s' I') hf
theorem Inv.call' {s' : Shared} {ch : List Addr} (I : Inv X pins σ H s) (ho : s'.os = s.os) (u : Un (frs X.stack) ch H H' s.heap s'.heap) (hok : HOk X.prog X.w H' s'.heap) (hg : AllBare s'.gens)
    (hch : ∀ b ∈ ch, (b ∈ X.ex ∨ X.s₀.heap.objs.size ≤ b) ∧ b ≠ X.env.locals ∧ (∀ x c, X.env.cells.lookup x = some c → c ≠ b) ∧ ∀ p ∈ X.pn ++ pins, p.1 ≠ b) : Inv X pins σ H' s' := by
  obtain ⟨h', g', d', t', o'⟩ := s'
  have e : o' = s.os := ho
  subst e
  exact I.call (g' := g') (t' := t') (d' := d') u hok hg hch
end
abbrev XK := Value → Option Addr → Hp → Prop
abbrev St := List (Option V)
abbrev VK := V → Hp → Prop
abbrev TE := St → Hp → VK → Prop
abbrev TT := St → Hp → (Bool → Hp → Prop) → Prop
abbrev TA := St → Hp → (List V → Hp → Prop) → Prop
structure Ends where
  nx : St → Hp → Prop
  rt : VK
  bk : St → Hp → Prop := fun _ _ => False
  ct : St → Hp → Prop := fun _ _ => False
abbrev TS := Ends → St → Hp → Prop
def EP (X : Cx) (pins : List (Addr × Obj)) (σ : St) (Q : VK) (u : Value) (s' : Shared) : Prop := ∃ v H', Inv X pins σ H' s' ∧ RelV v u ∧ Q v H'
def TP (X : Cx) (pins : List (Addr × Obj)) (σ : St) (Q : Bool → Hp → Prop) (b : Bool) (s' : Shared) : Prop := ∃ H', Inv X pins σ H' s' ∧ Q b H'
def AP (X : Cx) (pins : List (Addr × Obj)) (σ : St) (Q : List V → Hp → Prop) (us : List Value) (s' : Shared) : Prop := ∃ vs H', Inv X pins σ H' s' ∧ Vals vs us ∧ Q vs H'
def SP (X : Cx) (pins : List (Addr × Obj)) (D : Ends) (f : Flow) (s' : Shared) : Prop :=
  match f with
  | .next => ∃ σ' H', Inv X pins σ' H' s' ∧ D.nx σ' H'
  | .brk => ∃ σ' H', Inv X pins σ' H' s' ∧ D.bk σ' H'
  | .cont => ∃ σ' H', Inv X pins σ' H' s' ∧ D.ct σ' H'
  | .ret u => ∃ v σ' H', Inv X pins σ' H' s' ∧ RelV v u ∧ D.rt v H'
def PE (X : Cx) (e : Expr) (t : TE) : Prop :=
  ∀ (pins : List (Addr × Obj)) (s : Shared) (σ : St) (H : Hp) (Q : VK), Inv X pins σ H s → t σ H Q → wpAny (model X.prog X.w) X.A (eval e X.env) (EP X pins σ Q) X.xe s
def PT (X : Cx) (e : Expr) (t : TT) : Prop :=
  ∀ (pins : List (Addr × Obj)) (s : Shared) (σ : St) (H : Hp) (Q : Bool → Hp → Prop), Inv X pins σ H s → t σ H Q → wpAny (model X.prog X.w) X.A (isTrue e X.env (eval e X.env)) (TP X pins σ Q) X.xe s
def PW (X : Cx) (e : Expr) (t : TT) : Prop :=
  ∀ (whole : Sem Value) (pins : List (Addr × Obj)) (s : Shared) (σ : St) (H : Hp) (Q : Bool → Hp → Prop), Inv X pins σ H s → t σ H Q → wpAny (model X.prog X.w) X.A (isTrue e X.env whole) (TP X pins σ Q) X.xe s
theorem PW.pt {X : Cx} {e : Expr} {t : TT} (h : PW X e t) : PT X e t := h _
def PA (X : Cx) (es : List Expr) (t : TA) : Prop :=
  ∀ (pos : Pos) (pins : List (Addr × Obj)) (s : Shared) (σ : St) (H : Hp) (Q : List V → Hp → Prop), Inv X pins σ H s → t σ H Q → wpAny (model X.prog X.w) X.A (spliced (backTo pos (starEach es X.env))) (AP X pins σ Q) X.xe s
def PS (X : Cx) (st : Stmt) (t : TS) : Prop :=
  ∀ (pins : List (Addr × Obj)) (s : Shared) (σ : St) (H : Hp) (D : Ends), Inv X pins σ H s → t D σ H → wpAny (model X.prog X.w) X.A (exec st X.env) (SP X pins D) X.xe s
def PSs (X : Cx) (st : List Stmt) (t : TS) : Prop :=
  ∀ (pins : List (Addr × Obj)) (s : Shared) (σ : St) (H : Hp) (D : Ends), Inv X pins σ H s → t D σ H → wpAny (model X.prog X.w) X.A (execs st X.env) (SP X pins D) X.xe s
theorem thn {α : Type} {t : Sem α} {Q Q' : α → Shared → Prop} {M : Model} {A : Around} {E : Value → Shared → Prop} {s : Shared} (h : wpAny M A t Q E s) (hQ : ∀ a s, Q a s → Q' a s) : wpAny M A t Q' E s := wpAny_mono h hQ fun _ _ x => x
end L2
namespace L2
open PySem PySem.Spec PyProof.Rows
section
variable {X : Cx}
theorem bin {a b : Expr} {ta tb : TE} (ha : PE X a ta) (hb : PE X b tb) {pins : List (Addr × Obj)} {s : Shared} {σ : St} {H : Hp} {R : V → V → Hp → Prop} (I : Inv X pins σ H s) (h : ta σ H fun x H1 => tb σ H1 fun y H2 => R x y H2)
    {α : Type} {Q : α → Shared → Prop} {f : Value → Value → Sem α}
    (hf : ∀ v u s2 x y H2, Inv X pins σ H2 s2 → RelV x v → RelV y u → R x y H2 → wpAny (model X.prog X.w) X.A (f v u) Q X.xe s2) :
    wpAny (model X.prog X.w) X.A (eval a X.env) (fun v s₁ => wpAny (model X.prog X.w) X.A (eval b X.env) (fun u s₂ => wpAny (model X.prog X.w) X.A (f v u) Q X.xe s₂) X.xe s₁) X.xe s := by
  refine thn (ha pins s σ H _ I h) fun v s1 ⟨x, H1, I1, r1, q1⟩ => ?_
  refine thn (hb pins s1 σ H1 _ I1 q1) fun u s2 ⟨y, H2, I2, r2, q2⟩ => ?_
  exact hf v u s2 x y H2 I2 r1 r2 q2
def tVar (i : Nat) : TE := fun σ H Q => ∃ v, σ[i]? = some (some v) ∧ Q v H
def tC (v : V) : TE := fun _ H Q => Q v H
theorem pe_var {i : Nat} {x : Str} {pos : Pos} (hN : X.N[i]? = some x) (hv : Vis X.env.scope x) (hd : (x == ("__debug__" : Str)) = false := by decide) (hcd : (x == ("__classdict__" : Str)) = false := by decide) : PE X (.Name x pos) (tVar i) := by
  intro pins s σ H Q I h
  obtain ⟨v, e, h⟩ := h
  obtain ⟨m, hn, hl⟩ := I.loc
  obtain ⟨u, r, l⟩ := hl i x v hN e hv
  have fin : EP X pins σ Q u s := ⟨v, H, I, r, h⟩
  rcases l with ⟨hk, hm⟩ | ⟨hk, c, hc, hcell⟩
  · exact wpAny_Name (wpAny_loadName_local I.ok.kind hk hn hm fin) hd
  · rcases hk with hk | hk
    · exact wpAny_Name (wpAny_loadName_cell I.ok.kind hk hc hcell fin) hd
    · exact wpAny_Name (wpAny_loadName_free I.ok.kind hk hc hcell fin hcd) hd
theorem pe_int {i j pos} : PE X (.Constant (.int i) j pos) (tC (.int i)) := fun _ _ _ H _ I h => wpAny_Constant_int ⟨.int i, H, I.tok _, ⟨_, rfl⟩, h⟩
theorem pe_bl {b j pos} : PE X (.Constant (.bool b) j pos) (tC (.bl b)) := fun _ _ _ H _ I h => Constant_bool ⟨.bl b, H, I, rfl, h⟩
theorem pe_non {j pos} : PE X (.Constant .none j pos) (tC .non) := fun _ _ _ H _ I h => Constant_none ⟨.non, H, I, rfl, h⟩
theorem pe_str {x j pos} : PE X (.Constant (.str x) j pos) (tC (.str x)) := fun _ _ _ H _ I h => Calls.Constant_str ⟨.str x, H, I.tok _, ⟨_, rfl⟩, h⟩
def Gl (X : Cx) (x : Str) : Prop := X.env.kindOf x = some .globalImplicit
theorem ld_glob {E : Value → Shared → Prop} {pins : List (Addr × Obj)} {s : Shared} {σ : St} {H : Hp} {x : Str} {u : Value} {pos : Pos} {Q : Value → Shared → Prop} (I : Inv X pins σ H s) (hg : Gl X x) (hm : X.mg x = some u) (h : Q u s)
    (hd : (x == ("__debug__" : Str)) = false := by decide) : wpAny (model X.prog X.w) X.A (eval (.Name x pos) X.env) Q E s :=
  Calls.Name_function_global I.ok.kind hg (Calls.loadGlobal_global (by rw [I.ok.glob]; exact I.mod.glob.keeps I.bk) hm h) hd
theorem ld_blt {E : Value → Shared → Prop} {pins : List (Addr × Obj)} {s : Shared} {σ : St} {H : Hp} {x : Str} {u : Value} {pos : Pos} {Q : Value → Shared → Prop} (I : Inv X pins σ H s) (hg : Gl X x) (hm : X.mg x = none) (hv : bootBuiltins x = some u) (h : Q u s)
    (hn : x ≠ "__name__" := by decide) (hd : (x == ("__debug__" : Str)) = false := by decide) : wpAny (model X.prog X.w) X.A (eval (.Name x pos) X.env) Q E s := by
  obtain ⟨mb, h1, h2⟩ := I.mod.blt
  exact Calls.Name_function_global I.ok.kind hg (Calls.loadGlobal_builtin (by rw [I.ok.glob]; exact I.mod.glob.keeps I.bk) hm (by rw [I.ok.blt]; exact h1.keeps I.bk) ((h2 x hn).trans hv) h) hd
theorem pe_glob {x : Str} {v : V} {u : Value} {pos : Pos} (hg : Gl X x) (hm : X.mg x = some u) (r : RelV v u) (hd : (x == ("__debug__" : Str)) = false := by decide) : PE X (.Name x pos) (tC v) :=
  fun _ _ _ H _ I h => ld_glob I hg hm ⟨v, H, I, r, h⟩ hd
theorem pe_bltn {x : Str} {v : V} {u : Value} {pos : Pos} (hg : Gl X x) (hm : X.mg x = none) (hv : bootBuiltins x = some u) (r : RelV v u) (hn : x ≠ "__name__" := by decide) (hd : (x == ("__debug__" : Str)) = false := by decide) : PE X (.Name x pos) (tC v) :=
  fun _ _ _ H _ I h => ld_blt I hg hm hv ⟨v, H, I, r, h⟩ hn hd
variable {a b : Expr} {ta tb : TE} {pos : Pos}
def PC (X : Cx) (op : CmpOp) (a b : Expr) (t : TE) : Prop :=
  ∀ (pins : List (Addr × Obj)) (s : Shared) (σ : St) (H : Hp) (Q : VK), Inv X pins σ H s → t σ H Q →
    wpAny (model X.prog X.w) X.A (eval a X.env) (fun v s₁ => wpAny (model X.prog X.w) X.A (eval b X.env) (fun u s₂ => wpAny (model X.prog X.w) X.A (compareOp op v u) (EP X pins σ Q) X.xe s₂) X.xe s₁) X.xe s
def tB (t : TE) : TT := fun σ H Q => t σ H fun x H1 => ∃ c, x = .bl c ∧ Q c H1
theorem pt_cmp {op : CmpOp} {t : TE} (h : PC X op a b t) (h1 : behindInMarks op b = false := by first | exact nobehind _ (by decide) (by decide) | rfl) : PT X (.Compare a [op] [b] pos) (tB t) := by
  intro pins s σ H Q I hw
  refine wpAny_isTrue_Compare1 (thn (h pins s σ H _ I hw) fun v s1 h1 => thn h1 fun u s2 h2 => thn h2 fun c s3 ⟨x, H1, I1, r1, q1⟩ => ?_) h1
  obtain ⟨d, rfl, q⟩ := q1
  cases r1
  exact wpAny_truthy_bool ⟨H1, I1, q⟩
theorem pt_val {e : Expr} {t : TE} (h : PE X e t) (he : ∀ whole, isTrue e X.env whole = (do let v ← whole; standAt e.pos; holding [v] (truthy v)) := by intro _; rfl) : PT X e (tB t) := by
  intro pins s σ H Q I hw
  refine isTrue_plain (thn (h pins s σ H _ I hw) fun v s1 ⟨x, H1, I1, r1, q1⟩ => ?_) (he _)
  obtain ⟨d, rfl, q⟩ := q1
  cases r1
  exact wpAny_truthy_bool ⟨H1, I1, q⟩
variable {tA tB' : TT} {rest : List Expr}
def tAnd (t u : TT) : TT := fun σ H Q => t σ H fun c H1 => if c = true then u σ H1 Q else Q false H1
def tOr (t u : TT) : TT := fun σ H Q => t σ H fun c H1 => if c = true then Q true H1 else u σ H1 Q
def tNot (t : TT) : TT := fun σ H Q => t σ H fun c H1 => Q (!c) H1
theorem pw_and1 (ha : PT X a tA) : PW X (.BoolOp .And [a] pos) tA := by
  intro wh pins s σ H Q I h
  refine isTrue_and (thn (ha pins s σ H Q I h) fun c s1 e => ?_)
  cases c with
  | true => exact isTrue_and_nil e
  | false => exact e
theorem pw_or1 (ha : PT X a tA) : PW X (.BoolOp .Or [a] pos) tA := by
  intro wh pins s σ H Q I h
  refine isTrue_or (thn (ha pins s σ H Q I h) fun c s1 e => ?_)
  cases c with
  | false => exact isTrue_or_nil e
  | true => exact e
theorem pw_and (ha : PT X a tA) (hb : PW X (.BoolOp .And (b :: rest) pos) tB') : PW X (.BoolOp .And (a :: b :: rest) pos) (tAnd tA tB') := by
  intro wh pins s σ H Q I h
  refine isTrue_and (thn (ha pins s σ H _ I h) fun c s1 ⟨H1, I1, q1⟩ => ?_)
  cases c with
  | true => exact hb wh pins s1 σ H1 Q I1 q1
  | false => exact ⟨H1, I1, q1⟩
theorem pw_or (ha : PT X a tA) (hb : PW X (.BoolOp .Or (b :: rest) pos) tB') : PW X (.BoolOp .Or (a :: b :: rest) pos) (tOr tA tB') := by
  intro wh pins s σ H Q I h
  refine isTrue_or (thn (ha pins s σ H _ I h) fun c s1 ⟨H1, I1, q1⟩ => ?_)
  cases c with
  | true => exact ⟨H1, I1, q1⟩
  | false => exact hb wh pins s1 σ H1 Q I1 q1
theorem pt_not (ha : PT X a tA) : PT X (.UnaryOp .Not a pos) (tNot tA) := by
  intro pins s σ H Q I h
  exact isTrue_not (ha pins s σ H (fun c H1 => Q (!c) H1) I h)
def tAndV (ta tb : TE) : TE := fun σ H Q => ta σ H fun x H1 => ∃ c, x = .bl c ∧ if c = true then tb σ H1 Q else Q (.bl false) H1
theorem pe_one {op} {t : TE} (h : PE X a t) : PE X (.BoolOp op [a] pos) t := fun pins s σ H Q I hw => BoolOp_one (h pins s σ H Q I hw)
theorem pe_and (ha : PE X a ta) (hb : PE X (.BoolOp .And (b :: rest) pos) tb) : PE X (.BoolOp .And (a :: b :: rest) pos) (tAndV ta tb) := by
  intro pins s σ H Q I h
  refine BoolOp_and (thn (ha pins s σ H _ I h) fun v s1 ⟨x, H1, I1, r1, q1⟩ => ?_)
  obtain ⟨c, rfl, q1⟩ := q1
  cases r1
  refine wpAny_truthy_bool ?_
  cases c with
  | true => exact hb pins s1 σ H1 Q I1 q1
  | false => exact ⟨.bl false, H1, I1, rfl, q1⟩
def tIf (t : TT) (ta tb : TE) : TE := fun σ H Q => t σ H fun c H1 => if c = true then ta σ H1 Q else tb σ H1 Q
theorem pe_ifExp {c : Expr} (hc : PT X c tA) (ha : PE X a ta) (hb : PE X b tb) : PE X (.IfExp c a b pos) (tIf tA ta tb) := by
  intro pins s σ H Q I h
  refine wpAny_IfExp (thn (hc pins s σ H _ I h) fun d s1 ⟨H1, I1, q1⟩ => ?_)
  cases d with
  | true => exact ha pins s1 σ H1 Q I1 q1
  | false => exact hb pins s1 σ H1 Q I1 q1
end
end L2
namespace L2
open PySem PySem.Spec PyProof.Rows
def SqL (K : PySem.W.Frag) (H : Hp) (a : Addr) (xs : List V) : Prop :=
  Rd H a (.lst xs) ∨
    ∃ (o : Obj) (its : Array Value) (n : Nat), K.lookup a = some o ∧ o.cls = .type "list" ∧ o.dict = none ∧ o.data = .seq its n ∧ its.size ≤ sizeLine ∧ Vals xs its.toList
def SqT (K : PySem.W.Frag) (H : Hp) (a : Addr) (xs : List V) : Prop :=
  Rd H a (.tup xs) ∨
    ∃ (o : Obj) (its : Array Value) (n : Nat), K.lookup a = some o ∧ o.cls = .type "tuple" ∧ o.data = .seq its n ∧ its.size ≤ sizeLine ∧ Vals xs its.toList
def absV : Value → Option V
  | .none => some .non
  | .bool b => some (.bl b)
  | .int i _ => some (.int i)
  | .str x _ => some (.str x)
  | .bytes b _ => some (.byt b)
  | .float b _ => some (.flt b)
  | .ref a => some (.ref a)
  | .type n => some (.ty n)
  | _ => none
theorem RelV.abs {x : V} {u : Value} (r : RelV x u) : absV u = some x := by
  cases x with
  | non => cases r; rfl
  | bl _ => cases r; rfl
  | int _ => obtain ⟨t, rfl⟩ := r; rfl
  | str _ => obtain ⟨t, rfl⟩ := r; rfl
  | byt _ => obtain ⟨t, rfl⟩ := r; rfl
  | flt _ => obtain ⟨t, rfl⟩ := r; rfl
  | ref _ => cases r; rfl
  | ty _ => cases r; rfl
theorem RelV.inj {x y : V} {u : Value} (r : RelV x u) (q : RelV y u) : x = y := Option.some.inj (r.abs.symm.trans q.abs)
theorem Vals.inj : ∀ {xs ys : List V} {us : List Value}, Vals xs us → Vals ys us → xs = ys
  | _, _, _, .nil, .nil => rfl
  | _, _, _, .cons r t, .cons r' t' => by rw [r.inj r', Vals.inj t t']
section
variable {X : Cx} {pins : List (Addr × Obj)} {σ : St} {H : Hp} {s : Shared} {a : Addr} {xs ys : List V}
theorem SqL.of {K : PySem.W.Frag} (h : H a = some (.lst xs)) : SqL K H a xs := .inl (.inl h)
theorem SqT.of {K : PySem.W.Frag} (h : H a = some (.tup xs)) : SqT K H a xs := .inl (.inl h)
theorem Inv.list (I : Inv X pins σ H s) (h : SqL X.K H a xs) : ∃ its : List Value, Vals xs its ∧ PlainL s.heap a its.toArray ∧ xs.length ≤ sizeLine := by
  rcases h with h | ⟨o, its, n, hk, hc, hd, hs, hz, r⟩
  · obtain ⟨z, its, n, r, e⟩ := h.ok I.hok
    exact ⟨its, r, ⟨_, n, e, rfl, rfl, rfl⟩, z⟩
  · refine ⟨its.toList, r, ⟨o, n, I.kIn a o hk, hc, hd, by simpa using hs⟩, ?_⟩
    have e := r.length
    simp only [Array.length_toList] at e
    omega
theorem Inv.tuple (I : Inv X pins σ H s) (h : SqT X.K H a xs) : ∃ its : List Value, Vals xs its ∧ IsTup s.heap a its.toArray ∧ xs.length ≤ sizeLine := by
  rcases h with h | ⟨o, its, n, hk, hc, hs, hz, r⟩
  · obtain ⟨z, its, r, p⟩ := h.ok I.hok
    exact ⟨its, r, p, z⟩
  · refine ⟨its.toList, r, ⟨o, I.kIn a o hk, hc, n, by simpa using hs⟩, ?_⟩
    have e := r.length
    simp only [Array.length_toList] at e
    omega
theorem Inv.list_inj (I : Inv X pins σ H s) (h : SqL X.K H a xs) (h' : SqL X.K H a ys) : xs = ys := by
  obtain ⟨its, r, ⟨o, n, e, _, _, d⟩, _⟩ := I.list h
  obtain ⟨its', r', ⟨o', n', e', _, _, d'⟩, _⟩ := I.list h'
  rw [e] at e'; cases e'
  rw [d] at d'
  injection d' with d1 _
  have : its = its' := by simpa using congrArg Array.toList d1
  subst this
  exact r.inj r'
theorem Inv.tuple_inj (I : Inv X pins σ H s) (h : SqT X.K H a xs) (h' : SqT X.K H a ys) : xs = ys := by
  obtain ⟨its, r, ⟨o, e, _, n, d⟩, _⟩ := I.tuple h
  obtain ⟨its', r', ⟨o', e', _, n', d'⟩, _⟩ := I.tuple h'
  rw [e] at e'; cases e'
  rw [d] at d'
  injection d' with d1 _
  have : its = its' := by simpa using congrArg Array.toList d1
  subst this
  exact r.inj r'
end
abbrev Cx.wish (X : Cx) (E : Value → Shared → Prop) : Cx := { X with xe := E }
abbrev Cx.nox (X : Cx) : Cx := X.wish fun _ _ => False
theorem Cx.Ok.wish {X : Cx} (ok : X.Ok) (E : Value → Shared → Prop) : (X.wish E).Ok :=
  ⟨ok.mod, ok.kind, ok.glob, ok.blt, ok.above, ok.inj, ok.has, ok.cab, ok.hd, ok.frames, ok.stk, ok.exf, ok.bs, ok.bsz, ok.noex, ok.exfs, ok.funs, ok.frf⟩
theorem Cx.Ok.unwish {X : Cx} {E : Value → Shared → Prop} (ok : (X.wish E).Ok) : X.Ok :=
  ⟨ok.mod, ok.kind, ok.glob, ok.blt, ok.above, ok.inj, ok.has, ok.cab, ok.hd, ok.frames, ok.stk, ok.exf, ok.bs, ok.bsz, ok.noex, ok.exfs, ok.funs, ok.frf⟩
section
variable {X : Cx} {pins : List (Addr × Obj)} {σ : St} {H : Hp} {s : Shared} {E : Value → Shared → Prop}
theorem Inv.wish (I : Inv X pins σ H s) (E : Value → Shared → Prop) : Inv (X.wish E) pins σ H s := ⟨I.ok.wish E, I.os, I.bare, I.base, I.loc, I.cell, I.free, I.freeC, I.pin, I.hok, I.len⟩
theorem Inv.unwish (I : Inv (X.wish E) pins σ H s) : Inv X pins σ H s := ⟨I.ok.unwish, I.os, I.bare, I.base, I.loc, I.cell, I.free, I.freeC, I.pin, I.hok, I.len⟩
theorem SP.unwish {D : Ends} {f : Flow} {s' : Shared} (h : SP (X.wish E) pins D f s') : SP X pins D f s' := by
  cases f with
  | next => obtain ⟨σ', H', I, q⟩ := h; exact ⟨σ', H', I.unwish, q⟩
  | brk => obtain ⟨σ', H', I, q⟩ := h; exact ⟨σ', H', I.unwish, q⟩
  | cont => obtain ⟨σ', H', I, q⟩ := h; exact ⟨σ', H', I.unwish, q⟩
  | ret u => obtain ⟨v, σ', H', I, r, q⟩ := h; exact ⟨v, σ', H', I.unwish, r, q⟩
theorem PSs.nox {st : List Stmt} {t : TS} (h : PSs X.nox st t) : PSs X st t := fun pins s σ H D I hw =>
  wpAny_mono (h pins s σ H D (I.wish _) hw) (fun _ _ q => q.unwish) fun _ _ z => False.elim z
end
section
variable {X : Cx} {st : Stmt} {rest : List Stmt} {t u : TS} {e : Expr} {te : TE} {pos : Pos}
def tNext : TS := fun D σ H => D.nx σ H
def tSeq (t u : TS) : TS := fun D σ H => t { D with nx := u D } σ H
theorem pss_nil : PSs X [] tNext := fun _ _ σ H _ I h => wpAny_execs_nil ⟨σ, H, I, h⟩
theorem pss_cons (h1 : PS X st t) (h2 : PSs X rest u) : PSs X (st :: rest) (tSeq t u) := by
  intro pins s σ H D I h
  refine wpAny_execs_cons (thn (h1 pins s σ H { D with nx := u D } I h) fun f s1 q => ?_)
  cases f with
  | next =>
    obtain ⟨σ', H', I', q⟩ := q
    exact h2 pins s1 σ' H' D I' q
  | ret v => exact q
  | brk => exact q
  | cont => exact q
theorem pss_one (h1 : PS X st t) : PSs X [st] t := by
  intro pins s σ H D I h
  refine wpAny_execs_cons (thn (h1 pins s σ H D I h) fun f s1 q => ?_)
  cases f with
  | next => exact wpAny_execs_nil q
  | ret v => exact q
  | brk => exact q
  | cont => exact q
theorem Inv.quiet {pins : List (Addr × Obj)} {σ : St} {H : Hp} {s : Shared} (I : Inv X pins σ H s) : interactive X.env = false := by simp [interactive, I.ok.kind]
def tDrop (te : TE) : TS := fun D σ H => te σ H fun _ H1 => D.nx σ H1
theorem ps_expr (he : PE X e te) (hs : swapsWith e none pos.line X.env = pure false := by rfl) : PS X (.Expr e pos) (tDrop te) := by
  intro pins s σ H D I h
  exact wpAny_Expr_any (thn (he pins s σ H _ I h) fun v s1 ⟨x, H1, I1, r1, q1⟩ => ⟨σ, H1, I1, q1⟩) I.quiet hs
def tRet (te : TE) : TS := fun D σ H => te σ H D.rt
theorem ps_ret (he : PE X e te) : PS X (.Return (some e) pos) (tRet te) := by
  intro pins s σ H D I h
  exact wpAny_Return_some (thn (he pins s σ H _ I h) fun v s1 ⟨x, H1, I1, r1, q1⟩ => ⟨x, σ, H1, I1, r1, q1⟩)
def tIfS (c : TT) (t u : TS) : TS := fun D σ H => c σ H fun b H1 => if b = true then t D σ H1 else u D σ H1
theorem ps_if {c : Expr} {a b : List Stmt} {tc : TT} (hc : PT X c tc) (ha : PSs X a t) (hb : PSs X b u) : PS X (.If c a b pos) (tIfS tc t u) := by
  intro pins s σ H D I h
  refine wpAny_If (thn (hc pins s σ H _ I h) fun d s1 ⟨H1, I1, q1⟩ => ?_)
  cases d with
  | true => exact ha pins s1 σ H1 D I1 q1
  | false => exact hb pins s1 σ H1 D I1 q1
def tNever : TS := fun _ _ _ => False
theorem pss_never {sts : List Stmt} : PSs X sts tNever := fun _ _ _ _ _ _ h => h.elim
end
abbrev TG := V → St → Hp → (St → Hp → Prop) → Prop
abbrev TGs := List V → St → Hp → (St → Hp → Prop) → Prop
def PG (X : Cx) (target : Expr) (t : TG) : Prop :=
  ∀ (pins : List (Addr × Obj)) (s : Shared) (σ : St) (H : Hp) (v : V) (u : Value) (Q : St → Hp → Prop), Inv X pins σ H s → RelV v u → t v σ H Q →
    wpAny (model X.prog X.w) X.A (assign target X.env u) (fun _ s' => ∃ σ' H', Inv X pins σ' H' s' ∧ Q σ' H') X.xe s
def PGs (X : Cx) (ts : List Expr) (t : TGs) : Prop :=
  ∀ (pins : List (Addr × Obj)) (s : Shared) (σ : St) (H : Hp) (vs : List V) (us : List Value) (Q : St → Hp → Prop), Inv X pins σ H s → Vals vs us → t vs σ H Q →
    wpAny (model X.prog X.w) X.A (assignInOrder ((assignEach ts X.env).map (·.2)) us) (fun _ s' => ∃ σ' H', Inv X pins σ' H' s' ∧ Q σ' H') X.xe s
section
variable {X : Cx} {pos : Pos}
def gName (i : Nat) : TG := fun v σ H Q => Q (σ.set i (some v)) H
theorem pg_name {i : Nat} {x : Str} (hN : X.N.Nodup) (hi : X.N[i]? = some x) (hx : Loc X.env.scope x) (hf : X.fn x = true ∨ X.env.scope.names.lookup x = some .local := by first | exact .inl rfl | exact .inr rfl | assumption) : PG X (.Name x pos) (gName i) := by
  intro pins s σ H v u Q I r h
  exact wpAny_assign_Name (store_ok I hN hi hx r (fun s' I' => ⟨_, H, I', h⟩) hf)
def gNil : TGs := fun vs σ H Q => vs = [] ∧ Q σ H
def gCons (t : TG) (u : TGs) : TGs := fun vs σ H Q => ∃ v r, vs = v :: r ∧ t v σ H fun σ' H' => u r σ' H' Q
theorem pgs_nil : PGs X [] gNil := by
  intro pins s σ H vs us Q I r h
  obtain ⟨e, h⟩ := h
  subst e
  cases r
  exact assignInOrder_nil ⟨σ, H, I, h⟩
theorem pgs_cons {e : Expr} {es : List Expr} {t : TG} {u : TGs} (h1 : PG X e t) (h2 : PGs X es u)
    (hs : (assignEach (e :: es) X.env).map (·.2) = assign e X.env :: (assignEach es X.env).map (·.2) := by rfl) : PGs X (e :: es) (gCons t u) := by
  intro pins s σ H vs us Q I r h
  obtain ⟨v, vr, e1, h⟩ := h
  subst e1
  cases r with
  | cons r rr =>
    rw [hs]
    refine assignInOrder_cons (thn (h1 pins s σ H _ _ _ I r h) fun _ s1 ⟨σ1, H1, I1, q1⟩ => ?_)
    exact h2 pins s1 σ1 H1 _ _ Q I1 rr q1
def gTup (K : PySem.W.Frag) (n : Nat) (t : TGs) : TG := fun v σ H Q => ∃ a xs, v = .ref a ∧ SqT K H a xs ∧ xs.length = n ∧ t xs σ H Q
theorem pg_tup {es : List Expr} {k : Nat} {t : TGs} {n : Nat} (hc : X.calm = true) (h : PGs X es t)
    (hn : (assignEach es X.env).length = n := by rfl) (hst : (assignEach es X.env).findIdx? (·.1) = none := by rfl) : PG X (.Tuple es k pos) (gTup X.K n t) := by
  intro pins s σ H v u Q I r hw
  obtain ⟨a, xs, e1, hq, hl, hw⟩ := hw
  subst e1
  cases r
  obtain ⟨its, rv, ht, hz⟩ := I.tuple hq
  refine assign_Tuple_tuple (I.ok.hd hc) ht (by simp [hn, ← hl, rv.length]) hst fun h' hx => ?_
  have I1 : Inv X pins σ H { s with heap := h' } := I.kept (t' := s.toks) fun b o e => hx b o (Nat.ne_of_lt (Heap.lt_size e)) e
  exact h pins _ σ H xs _ Q I1 (by simpa using rv) hw
def tAsg (te : TE) (g : TG) : TS := fun D σ H => te σ H fun x H1 => g x σ H1 D.nx
theorem ps_set {i : Nat} {x : Str} {e : Expr} {te : TE} {pos' : Pos} (hN : X.N.Nodup) (hi : X.N[i]? = some x) (hx : Loc X.env.scope x) (he : PE X e te) (hs : swapsWith e (some (.Name x pos')) pos.line X.env = pure false := by rfl) (hf : X.fn x = true ∨ X.env.scope.names.lookup x = some .local := by first | exact .inl rfl | exact .inr rfl | assumption) :
    PS X (.Assign [.Name x pos'] e pos) (tAsg te (gName i)) := by
  intro pins s σ H D I h
  refine wpAny_Assign_Name (thn (he pins s σ H _ I h) fun v s1 ⟨y, H1, I1, r1, q1⟩ => ?_) hs
  exact store_ok I1 hN hi hx r1 (fun s2 I2 => ⟨_, H1, I2, q1⟩) hf
end
section
variable {X : Cx} {pos : Pos}
end
structure It where
  go : Nat → Hp → Prop
  yld : Nat → Hp → V → Hp → Prop
  stop : Nat → Hp → Prop
def FpOk (X : Cx) (pins : List (Addr × Obj)) (H : Hp) (b : Addr) : Prop :=
  H b = none ∧ b ≠ X.env.locals ∧ b ∉ X.fs ∧ (b ∈ X.ex ∨ X.s₀.heap.objs.size ≤ b) ∧ (∀ x c, X.env.cells.lookup x = some c → c ≠ b) ∧ ∀ p ∈ X.pn ++ pins, p.1 ≠ b
theorem Inv.fpOk {X : Cx} {pins : List (Addr × Obj)} {σ : St} {H H' : Hp} {s : Shared} {b : Addr} (I : Inv X pins σ H s) (hb : s.heap.objs.size ≤ b) (hn : H' b = none) : FpOk X pins H' b := by
  refine ⟨hn, Nat.ne_of_gt (Nat.lt_of_lt_of_le I.lt hb), I.nofs hb, .inr (Nat.le_trans I.sz hb), fun x c e z => ?_, fun p hp z => ?_⟩
  · obtain ⟨v, q⟩ := I.cell x c e
    exact absurd (Nat.lt_of_lt_of_le q.lt (by rw [z]; exact hb)) (Nat.lt_irrefl _)
  · exact absurd (Nat.lt_of_lt_of_le (Heap.lt_size (I.pin p hp).1) (by rw [z]; exact hb)) (Nat.lt_irrefl _)
structure Turn (P : Program) (w : World) (K : PySem.W.Frag) (tg : Expr) (J : It) (fp : List Addr) (it : Addr) (tn : Nat → Heap → Prop) : Prop where
  mem : it ∈ fp
  obj : ∀ i h, tn i h → ∀ b ∈ fp, ∃ o, h.get? b = some o ∧ ∀ v, o.data ≠ .cell v
  keep : ∀ i h h', tn i h → (∀ b ∈ fp, ∀ o, h.get? b = some o → h'.get? b = some o) → tn i h'
  item : ∀ (X : Cx), X.prog = P → X.w = w → X.K = K → X.calm = true → ∀ (i : Nat) (pins : List (Addr × Obj)) (s : Shared) (σ : St) (H : Hp) (E : Value → Shared → Prop), Inv X pins σ H s → (∀ b ∈ fp, FpOk X pins H b) → tn i s.heap → J.go i H →
    wpAny (model P w) X.A (pyNext (.ref it)) (fun r s1 => ∃ u, r = some u ∧
      wpAny (model P w) X.A (letOwnedTupleGo tg (.ref it) u) (fun _ s2 => ∃ x H', Inv X pins σ H' s2 ∧ RelV x u ∧ J.yld i H x H' ∧ tn (i + 1) s2.heap ∧ ∀ b ∈ fp, H' b = none) E s1) E s
  done : ∀ (X : Cx), X.prog = P → X.w = w → X.K = K → X.calm = true → ∀ (i : Nat) (pins : List (Addr × Obj)) (s : Shared) (σ : St) (H : Hp) (E : Value → Shared → Prop), Inv X pins σ H s → (∀ b ∈ fp, FpOk X pins H b) → tn i s.heap → J.stop i H →
    wpAny (model P w) X.A (pyNext (.ref it)) (fun r s1 => r = none ∧ Inv X pins σ H s1) E s
  self : ∀ (A : Around) (i : Nat) (s : Shared) (Q : Value → Shared → Prop) (E : Value → Shared → Prop), tn i s.heap → Q (.ref it) s → wpAny (model P w) A (pyIter (.ref it)) Q E s
abbrev TI := St → Hp → (It → Hp → Prop) → Prop
def PIE (X : Cx) (pins : List (Addr × Obj)) (σ : St) (tg : Expr) (R : It → Hp → Prop) (itv : Value) (s2 : Shared) : Prop :=
  ∃ (it : Addr) (fp : List Addr) (tn : Nat → Heap → Prop) (J : It) (H' : Hp), itv = .ref it ∧ Inv X pins σ H' s2 ∧ Turn X.prog X.w X.K tg J fp it tn ∧ tn 0 s2.heap ∧ (∀ b ∈ fp, FpOk X pins H' b) ∧ R J H'
def PI (X : Cx) (tg iter : Expr) (wi : TI) : Prop :=
  ∀ (pins : List (Addr × Obj)) (s : Shared) (σ : St) (H : Hp) (R : It → Hp → Prop), Inv X pins σ H s → wi σ H R →
    wpAny (model X.prog X.w) X.A (eval iter X.env) (fun v s1 => wpAny (model X.prog X.w) X.A (pyIter v) (PIE X pins σ tg R) X.xe s1) X.xe s
theorem go_of {M : Model} {A : Around} {E : Value → Shared → Prop} {s : Shared} {tg : Expr} {it : Addr} {u : Value} {o : Obj} {n : String} {vs : Array Value} {Q : Unit → Shared → Prop} (ho : s.heap.get? it = some o) (hc : o.cls = .type n) (hd : o.data = .fields vs)
    (hn : ["enumerate", "zip", "dict_itemiterator", "dict_reverseitemiterator", "odict_iterator", "itertools.zip_longest", "itertools.pairwise"].contains n = false) (hQ : Q () s) : wpAny M A (letOwnedTupleGo tg (.ref it) u) Q E s := by
  unfold letOwnedTupleGo
  cases tg <;> first
    | exact wpAny_pure hQ
    | (cases u <;> first
        | exact wpAny_pure hQ
        | (refine wpAny_bind (wpAny_load ho ?_)
           rw [hc, hd]
           show wpAny M A (if (["enumerate", "zip", "dict_itemiterator", "dict_reverseitemiterator", "odict_iterator", "itertools.zip_longest", "itertools.pairwise"].contains n && vs[0]? == some (rawInt _)) = true then _ else _) Q E s
           rw [if_neg (by intro h; rw [hn, Bool.false_and] at h; cases h)]
           exact wpAny_pure hQ))
def Itl (K : PySem.W.Frag) (a : Addr) : It :=
  ⟨fun i H => ∃ xs x, SqL K H a xs ∧ xs[i]? = some x, fun i H x H' => H' = H ∧ ∀ xs, SqL K H a xs → xs[i]? = some x, fun i H => ∃ xs, SqL K H a xs ∧ xs.length ≤ i⟩
def Itt (K : PySem.W.Frag) (a : Addr) : It :=
  ⟨fun i H => ∃ xs x, SqT K H a xs ∧ xs[i]? = some x, fun i H x H' => H' = H ∧ ∀ xs, SqT K H a xs → xs[i]? = some x, fun i H => ∃ xs, SqT K H a xs ∧ xs.length ≤ i⟩
def Itr (lo : Int) (n : Nat) : It := ⟨fun i _ => i < n, fun i H x H' => H' = H ∧ x = .int (lo + i), fun i _ => n ≤ i⟩
theorem turn_list {P : Program} {w : World} {K : PySem.W.Frag} {tg : Expr} (a it : Addr) : Turn P w K tg (Itl K a) [it] it (fun i h => h.IsListIter it a i) where
  mem := by simp
  obj := fun i h st b hb => by
    have e : b = it := by simpa using hb
    subst e
    obtain ⟨o, e, c, d⟩ := st
    exact ⟨o, e, fun v z => by rw [d] at z; cases z⟩
  keep := fun i h h' st k => st.at fun o e => k it (by simp) o e
  item := by
    intro X hP hw hK hc i pins s σ H E I hf st hg
    subst hP hw hK
    obtain ⟨xs, x, hq, hx⟩ := hg
    obtain ⟨its, rv, p, hz⟩ := I.list hq
    obtain ⟨u, hu, ru⟩ := rv.get hx
    obtain ⟨f0, f1, f2, f3, f4, f5⟩ := hf it (by simp)
    refine wpAny_pyNext_list_item st p.isList (x := u) (by simpa using hu) fun h' st' sb => ?_
    have I1 : Inv X pins σ H { s with heap := h' } := I.turned (t' := s.toks) (fun b o hb e => (sb.2 b hb).trans e) f0 f1 f3 f4 f5
    obtain ⟨o, e, c, d⟩ := id st'
    exact ⟨u, rfl, go_of (s := { s with heap := h' }) e c d (by decide) ⟨x, H, I1, ru, ⟨rfl, fun ys hy => by rw [I.list_inj hy hq]; exact hx⟩, st', fun b hb => (hf b hb).1⟩⟩
  done := by
    intro X hP hw hK hc i pins s σ H E I hf st hg
    subst hP hw hK
    obtain ⟨xs, hq, hx⟩ := hg
    obtain ⟨its, rv, p, hz⟩ := I.list hq
    obtain ⟨f0, f1, f2, f3, f4, f5⟩ := hf it (by simp)
    have hl := rv.length
    exact wpAny_pyNext_list_end (I.ok.hd hc) st p.isList (by simp; omega) fun h' eb => ⟨rfl, I.turned (t' := s.toks) (fun b o hb e => eb b o hb e) f0 f1 f3 f4 f5⟩
  self := fun _ _ _ _ _ st h => wpAny_pyIter_listiter st h
theorem turn_tuple {P : Program} {w : World} {K : PySem.W.Frag} {tg : Expr} (a it : Addr) : Turn P w K tg (Itt K a) [it] it (fun i h => h.IsTupleIter it a i) where
  mem := by simp
  obj := fun i h st b hb => by
    have e : b = it := by simpa using hb
    subst e
    obtain ⟨o, e, c, d⟩ := st
    exact ⟨o, e, fun v z => by rw [d] at z; cases z⟩
  keep := fun i h h' st k => st.at fun o e => k it (by simp) o e
  item := by
    intro X hP hw hK hc i pins s σ H E I hf st hg
    subst hP hw hK
    obtain ⟨xs, x, hq, hx⟩ := hg
    obtain ⟨its, rv, p, hz⟩ := I.tuple hq
    obtain ⟨u, hu, ru⟩ := rv.get hx
    obtain ⟨f0, f1, f2, f3, f4, f5⟩ := hf it (by simp)
    refine wpAny_pyNext_tuple_item st (show s.heap.IsTuple a its.toArray from p) (x := u) (by simpa using hu) fun h' st' sb => ?_
    have I1 : Inv X pins σ H { s with heap := h' } := I.turned (t' := s.toks) (fun b o hb e => (sb.2 b hb).trans e) f0 f1 f3 f4 f5
    obtain ⟨o, e, c, d⟩ := id st'
    exact ⟨u, rfl, go_of (s := { s with heap := h' }) e c d (by decide) ⟨x, H, I1, ru, ⟨rfl, fun ys hy => by rw [I.tuple_inj hy hq]; exact hx⟩, st', fun b hb => (hf b hb).1⟩⟩
  done := by
    intro X hP hw hK hc i pins s σ H E I hf st hg
    subst hP hw hK
    obtain ⟨xs, hq, hx⟩ := hg
    obtain ⟨its, rv, p, hz⟩ := I.tuple hq
    obtain ⟨f0, f1, f2, f3, f4, f5⟩ := hf it (by simp)
    have hl := rv.length
    exact wpAny_pyNext_tuple_end (I.ok.hd hc) st (show s.heap.IsTuple a its.toArray from p) (by simp; omega) fun h' eb => ⟨rfl, I.turned (t' := s.toks) (fun b o hb e => eb b o hb e) f0 f1 f3 f4 f5⟩
  self := fun _ _ _ _ _ st h => wpAny_pyIter_tupleiter st h
theorem turn_range {P : Program} {w : World} {K : PySem.W.Frag} {tg : Expr} (it : Addr) (lo : Int) (n : Nat) : Turn P w K tg (Itr lo n) [it] it (fun i h => IsRangeIter h it (lo + (i : Nat) * 1) ((n : Int) - (i : Nat)) 1) where
  mem := by simp
  obj := fun i h st b hb => by
    have e : b = it := by simpa using hb
    subst e
    exact ⟨_, st, fun v z => by
      have z' : Data.fields _ = Data.cell v := z
      cases z'⟩
  keep := fun i h h' st k => k it (by simp) _ st
  item := by
    intro X hP hw hK hc i pins s σ H E I hf st hg
    subst hP hw hK
    obtain ⟨f0, f1, f2, f3, f4, f5⟩ := hf it (by simp)
    have W := Walks.range (prog := X.prog) (w := X.w) (I.ok.hd hc) it lo 1 n
    refine W.item i s _ _ hg st fun v h' tk hv st' kk => ?_
    obtain ⟨t, rfl⟩ := hv
    have I1 : Inv X pins σ H { s with heap := h', toks := tk } := I.turned (fun b o hb e => kk b o (by simpa using hb) e) f0 f1 f3 f4 f5
    refine ⟨_, rfl, go_of (s := { s with heap := h', toks := tk }) (n := "range_iterator") st' rfl rfl (by decide) ⟨.int (lo + i), H, I1, ⟨t, ?_⟩, ⟨rfl, rfl⟩, st', fun b hb => (hf b hb).1⟩⟩
    rw [Int.mul_one]
  done := by
    intro X hP hw hK hc i pins s σ H E I hf st hg
    subst hP hw hK
    obtain ⟨f0, f1, f2, f3, f4, f5⟩ := hf it (by simp)
    exact wpAny_pyNext_range_end (I.ok.hd hc) st (by have : n ≤ i := hg; omega) fun h' eb => ⟨rfl, I.turned (t' := s.toks) (fun b o hb e => eb b o hb e) f0 f1 f3 f4 f5⟩
  self := fun _ _ _ _ _ st h => wpAny_pyIter_rangeiter st h
end L2
namespace L2
open PySem PySem.Spec PyProof.Rows
section
variable {X : Cx} {tg : Expr}
def iList (K : PySem.W.Frag) (tl : TE) : TI := fun σ H R => tl σ H fun x H1 => ∃ a, x = .ref a ∧ (∃ xs, SqL K H1 a xs) ∧ R (Itl K a) H1
def iTup (K : PySem.W.Frag) (tl : TE) : TI := fun σ H R => tl σ H fun x H1 => ∃ a, x = .ref a ∧ (∃ xs, SqT K H1 a xs) ∧ R (Itt K a) H1
theorem pi_list {l : Expr} {tl : TE} (hl : PE X l tl) : PI X tg l (iList X.K tl) := by
  intro pins s σ H R I h
  refine thn (hl pins s σ H _ I h) fun v s1 ⟨x, H1, I1, r1, q1⟩ => ?_
  obtain ⟨a, e, ⟨xs, hq⟩, q⟩ := q1
  subst e
  cases r1
  obtain ⟨its, rv, p, hz⟩ := I1.list hq
  refine wpAny_pyIter_list p.isList ?_
  refine ⟨s1.heap.objs.size, [s1.heap.objs.size], _, _, H1, rfl, I1.kept (t' := s1.toks) fun b o e => Heap.get?_push_of_some _ e, turn_list a _, ⟨_, Heap.get?_push_size _ rfl, rfl, rfl⟩, fun b hb => ?_, q⟩
  have e : b = s1.heap.objs.size := by simpa using hb
  subst e
  exact I1.fpOk (Nat.le_refl _) (I1.hok.fresh (Nat.le_refl _))
theorem pi_tup {l : Expr} {tl : TE} (hl : PE X l tl) : PI X tg l (iTup X.K tl) := by
  intro pins s σ H R I h
  refine thn (hl pins s σ H _ I h) fun v s1 ⟨x, H1, I1, r1, q1⟩ => ?_
  obtain ⟨a, e, ⟨xs, hq⟩, q⟩ := q1
  subst e
  cases r1
  obtain ⟨its, rv, p, hz⟩ := I1.tuple hq
  refine wpAny_pyIter_tuple (show s1.heap.IsTuple a its.toArray from p) ?_
  refine ⟨s1.heap.objs.size, [s1.heap.objs.size], _, _, H1, rfl, I1.kept (t' := s1.toks) fun b o e => Heap.get?_push_of_some _ e, turn_tuple a _, ⟨_, Heap.get?_push_size _ rfl, rfl, rfl⟩, fun b hb => ?_, q⟩
  have e : b = s1.heap.objs.size := by simpa using hb
  subst e
  exact I1.fpOk (Nat.le_refl _) (I1.hok.fresh (Nat.le_refl _))
theorem range_it {pins : List (Addr × Obj)} {σ : St} {H : Hp} {s : Shared} {R : It → Hp → Prop} {E : Value → Shared → Prop} {lo hi : Int} {t u v : Tok} {tk : Nat} (I : Inv X pins σ H s) (h1 : -(2 ^ 62) ≤ lo) (h2 : lo < 2 ^ 62) (h3 : -(2 ^ 62) ≤ hi) (h4 : hi < 2 ^ 62)
    (q : R (Itr lo (hi - lo).toNat) H) : wpAny (model X.prog X.w) X.A (pyIter (.ref s.heap.objs.size)) (PIE X pins σ tg R) E { s with heap := s.heap.push { cls := .type "range", data := .fields #[.int lo t, .int hi u, .int 1 v] }, toks := tk } := by
  refine wpAny_pyIter_range (IsRange.new ..) (small_one h1 h2 h3 h4) ?_
  have I1 : Inv X pins σ H { s with heap := s.heap.push { cls := .type "range", data := .fields #[.int lo t, .int hi u, .int 1 v] }, toks := tk } := I.kept fun b o e => Heap.get?_push_of_some _ e
  refine ⟨(s.heap.push { cls := .type "range", data := .fields #[.int lo t, .int hi u, .int 1 v] }).objs.size, [(s.heap.push { cls := .type "range", data := .fields #[.int lo t, .int hi u, .int 1 v] }).objs.size], _, _, H, rfl,
    I1.kept (t' := tk) fun b o e => Heap.get?_push_of_some _ e, turn_range _ lo (hi - lo).toNat, ?_, fun b hb => ?_, q⟩
  · have e1 : lo + ((0 : Nat) : Int) * 1 = lo := by simp
    have e2 : (((hi - lo).toNat : Nat) : Int) - ((0 : Nat) : Int) = Builtin.Range.rangeSize lo hi 1 := by rw [rangeSize_one]; split <;> omega
    show IsRangeIter _ _ (lo + ((0 : Nat) : Int) * 1) ((((hi - lo).toNat : Nat) : Int) - ((0 : Nat) : Int)) 1
    rw [e1, e2]
    exact Heap.get?_push_size _ rfl
  · have e : b = (s.heap.push { cls := .type "range", data := .fields #[.int lo t, .int hi u, .int 1 v] }).objs.size := by simpa using hb
    subst e
    exact I1.fpOk (Nat.le_refl _) (I1.hok.fresh (Nat.le_refl _))
def iRng1 (ta : TA) : TI := fun σ H R => ta σ H fun vs H1 => ∃ j : Int, vs = [.int j] ∧ -(2 ^ 62) ≤ j ∧ j < 2 ^ 62 ∧ R (Itr 0 j.toNat) H1
theorem pi_range1 {a : Expr} {ta : TA} {p pos : Pos} (hg : Gl X "range") (hm : X.mg "range" = none) (ha : PA X [a] ta) (hs : starEach [a] X.env = [(false, eval a X.env)] := by rfl) : PI X tg (.Call (.Name "range" p) [a] [] pos) (iRng1 ta) := by
  intro pins s σ H R I h
  refine Call_ (ld_blt I hg hm boot_range (PyProof.Rows.callWith_type1 (thn (ha pos pins s σ H _ I h) fun us s1 ⟨vs, H1, I1, r1, q1⟩ => ?_) hs rfl))
  obtain ⟨j, e, q1, q2, q⟩ := q1
  subst e
  cases r1 with
  | cons r rr =>
    cases rr
    obtain ⟨t, rfl⟩ := r
    exact call_range_1 (range_it I1 (by omega) (by omega) q1 q2 (by simpa using q))
def tFor (wi : TI) (g : TG) (tb : TS) : TS := fun D σ H => wi σ H fun J H1 => ∃ W : Nat → Nat → St → Hp → Prop, (∃ m, W 0 m σ H1) ∧ ∀ i m σ H, W i m σ H →
  (J.stop i H ∧ D.nx σ H) ∨ (J.go i H ∧ ∃ N : St → Hp → Prop, (∀ σ' H', N σ' H' → ∃ m', m' < m ∧ W (i + 1) m' σ' H') ∧ ∀ x H', J.yld i H x H' → g x σ H' fun σ2 H2 => tb { D with nx := N, ct := N, bk := D.nx } σ2 H2)
def pinsAt (fp : List Addr) (h : Heap) : List (Addr × Obj) := fp.filterMap fun b => (h.get? b).map fun o => (b, o)
theorem mem_pinsAt {fp : List Addr} {h : Heap} {b : Addr} {o : Obj} (hb : b ∈ fp) (e : h.get? b = some o) : (b, o) ∈ pinsAt fp h := List.mem_filterMap.mpr ⟨b, hb, by rw [e]; rfl⟩
theorem of_pinsAt {fp : List Addr} {h : Heap} {p : Addr × Obj} (hp : p ∈ pinsAt fp h) : p.1 ∈ fp ∧ h.get? p.1 = some p.2 := by
  obtain ⟨b, hb, e⟩ := List.mem_filterMap.mp hp
  cases q : h.get? b with
  | none => rw [q] at e; cases e
  | some o =>
    rw [q] at e
    have e' : (b, o) = p := Option.some.inj e
    subst e'
    exact ⟨hb, q⟩
theorem Inv.pinned {pins : List (Addr × Obj)} {σ : St} {H : Hp} {s : Shared} {fp : List Addr} (I : Inv X pins σ H s) (hf : ∀ b ∈ fp, FpOk X pins H b) (ho : ∀ b ∈ fp, ∃ o, s.heap.get? b = some o ∧ ∀ v, o.data ≠ .cell v) : Inv X (pins ++ pinsAt fp s.heap) σ H s :=
  I.pins_of fun p hp => (List.mem_append.mp hp).elim (fun z => I.pin p (List.mem_append_right _ z)) fun z => by
    obtain ⟨hb, e⟩ := of_pinsAt z
    obtain ⟨f0, f1, f2, _⟩ := hf p.1 hb
    obtain ⟨o, e', d⟩ := ho p.1 hb
    rw [e] at e'; cases e'
    exact ⟨e, f0, f1, f2, d⟩
theorem Inv.unpinned {pins pl : List (Addr × Obj)} {σ : St} {H : Hp} {s : Shared} (I : Inv X (pins ++ pl) σ H s) : Inv X pins σ H s := I.pins_of fun p hp => I.pin p (List.mem_append_right _ (List.mem_append_left _ hp))
theorem ps_for {iter : Expr} {body : List Stmt} {wi : TI} {g : TG} {tb : TS} {pos : Pos} (hp : PassesOwn (model X.prog X.w) X.A X.env X.xe) (hc : X.calm = true) (hi : PI X tg iter wi) (hg : PG X tg g) (hb : PSs X body tb)
    (hs : ∀ x, foldedSetIterable iter X.env x = pure x := by intro _; rfl) : PS X (.For tg iter body [] pos) (tFor wi g tb) := by
  intro pins s σ H D I h
  refine wpAny_For (thn (hi pins s σ H _ I h) fun v s1 h1 => thn h1 fun itv s2 h2 => ?_) hs
  obtain ⟨it, fp, tn, J, H2, e, I2, T, st2, f2, W, ⟨m0, w0⟩, turn⟩ := h2
  subst e
  have stat : ∀ {H' : Hp}, (∀ b ∈ fp, H' b = none) → ∀ b ∈ fp, FpOk X pins H' b := fun hn b hb => ⟨hn b hb, (f2 b hb).2⟩
  refine codeAny_forLoop_any (fun n s' => ∃ i σ' H', Inv X pins σ' H' s' ∧ tn i s'.heap ∧ (∀ b ∈ fp, H' b = none) ∧ W i n σ' H') ?_ m0 ⟨0, σ, H2, I2, st2, fun b hb => (f2 b hb).1, w0⟩
  rintro n s3 ⟨i, σ3, H3, I3, st3, fr3, w3⟩
  rcases turn i n σ3 H3 w3 with ⟨stop, qn⟩ | ⟨go, N, hN, step⟩
  · refine wpAny_passesOwn hp (thn (T.done X rfl rfl rfl hc i pins s3 σ3 H3 X.xe I3 (stat fr3) st3 stop) fun r s4 ⟨hr, I4⟩ => ?_)
    subst hr
    exact wpAny_execs_nil ⟨σ3, H3, I4, qn⟩
  · refine wpAny_passesOwn hp (thn (T.item X rfl rfl rfl hc i pins s3 σ3 H3 X.xe I3 (stat fr3) st3 go) fun r s4 ⟨u, hr, h4⟩ => ?_)
    subst hr
    refine wpAny_passesOwn hp (thn h4 fun _ s5 ⟨x, H5, I5, r5, y5, st5, fr5⟩ => ?_)
    have I5' := I5.pinned (stat fr5) (T.obj _ _ st5)
    refine wpAny_passesOwn hp (thn (hg _ s5 σ3 H5 x u _ I5' r5 (step x H5 y5)) fun _ s6 ⟨σ6, H6, I6, q6⟩ => ?_)
    refine wpAny_passesOwn hp (thn (hb _ s6 σ6 H6 _ I6 q6) fun f s7 q7 => ?_)
    have again : ∀ {σ7 : St} {H7 : Hp}, Inv X (pins ++ pinsAt fp s5.heap) σ7 H7 s7 → N σ7 H7 → ∃ m, m < n ∧ ∃ i σ' H', Inv X pins σ' H' s7 ∧ tn i s7.heap ∧ (∀ b ∈ fp, H' b = none) ∧ W i m σ' H' := fun {σ7 H7} I7 n7 => by
      obtain ⟨m', hm, w7⟩ := hN σ7 H7 n7
      refine ⟨m', hm, i + 1, σ7, H7, I7.unpinned, T.keep _ _ _ st5 fun b hb o e => (I7.pin (b, o) (List.mem_append_right _ (List.mem_append_right _ (mem_pinsAt hb e)))).1, fun b hb => ?_, w7⟩
      obtain ⟨o, e, d⟩ := T.obj _ _ st5 b hb
      exact (I7.pin (b, o) (List.mem_append_right _ (List.mem_append_right _ (mem_pinsAt hb e)))).2.1
    cases f with
    | next => obtain ⟨σ7, H7, I7, n7⟩ := q7; exact again I7 n7
    | cont => obtain ⟨σ7, H7, I7, n7⟩ := q7; exact again I7 n7
    | brk => obtain ⟨σ7, H7, I7, q7⟩ := q7; exact ⟨σ7, H7, I7.unpinned, q7⟩
    | ret v => obtain ⟨x7, σ7, H7, I7, r7, q7⟩ := q7; exact ⟨x7, σ7, H7, I7.unpinned, r7, q7⟩
end
theorem for_list {K : PySem.W.Frag} {a : Addr} {xs : List V} {g : TG} {tb : TS} {D : Ends} {σ : St} {H : Hp} (Pv : Nat → St → Hp → Prop) (h0 : Pv 0 σ H) (hl : ∀ i σ H, i ≤ xs.length → Pv i σ H → SqL K H a xs)
    (hs : ∀ i x σ H, xs[i]? = some x → Pv i σ H → g x σ H fun σ2 H2 => tb { D with nx := Pv (i + 1), ct := Pv (i + 1), bk := D.nx } σ2 H2) (hd : ∀ σ H, Pv xs.length σ H → D.nx σ H) :
    ∃ W : Nat → Nat → St → Hp → Prop, (∃ m, W 0 m σ H) ∧ ∀ i m σ H, W i m σ H →
      ((Itl K a).stop i H ∧ D.nx σ H) ∨ ((Itl K a).go i H ∧ ∃ N : St → Hp → Prop, (∀ σ' H', N σ' H' → ∃ m', m' < m ∧ W (i + 1) m' σ' H') ∧ ∀ x H', (Itl K a).yld i H x H' → g x σ H' fun σ2 H2 => tb { D with nx := N, ct := N, bk := D.nx } σ2 H2) := by
  refine ⟨fun i m σ H => m = xs.length - i ∧ i ≤ xs.length ∧ Pv i σ H, ⟨xs.length, by simp, Nat.zero_le _, h0⟩, ?_⟩
  rintro i m σ H ⟨rfl, hi, p⟩
  have q := hl i σ H hi p
  by_cases hlt : i < xs.length
  · refine .inr ⟨⟨xs, xs[i], q, by simp [hlt]⟩, Pv (i + 1), fun σ' H' p' => ⟨xs.length - (i + 1), by omega, rfl, hlt, p'⟩, fun x H' y => ?_⟩
    obtain ⟨e, y⟩ := y
    subst e
    exact hs i x σ _ (y xs q) p
  · have e : i = xs.length := by omega
    subst e
    exact .inl ⟨⟨xs, q, Nat.le_refl _⟩, hd σ H p⟩
theorem for_range {lo : Int} {n : Nat} {g : TG} {tb : TS} {D : Ends} {σ : St} {H : Hp} (Pv : Nat → St → Hp → Prop) (h0 : Pv 0 σ H)
    (hs : ∀ i σ H, i < n → Pv i σ H → g (.int (lo + i)) σ H fun σ2 H2 => tb { D with nx := Pv (i + 1), ct := Pv (i + 1), bk := D.nx } σ2 H2) (hd : ∀ σ H, Pv n σ H → D.nx σ H) :
    ∃ W : Nat → Nat → St → Hp → Prop, (∃ m, W 0 m σ H) ∧ ∀ i m σ H, W i m σ H →
      ((Itr lo n).stop i H ∧ D.nx σ H) ∨ ((Itr lo n).go i H ∧ ∃ N : St → Hp → Prop, (∀ σ' H', N σ' H' → ∃ m', m' < m ∧ W (i + 1) m' σ' H') ∧ ∀ x H', (Itr lo n).yld i H x H' → g x σ H' fun σ2 H2 => tb { D with nx := N, ct := N, bk := D.nx } σ2 H2) := by
  refine ⟨fun i m σ H => m = n - i ∧ i ≤ n ∧ Pv i σ H, ⟨n, by simp, Nat.zero_le _, h0⟩, ?_⟩
  rintro i m σ H ⟨rfl, hi, p⟩
  by_cases hlt : i < n
  · refine .inr ⟨hlt, Pv (i + 1), fun σ' H' p' => ⟨n - (i + 1), by omega, rfl, hlt, p'⟩, fun x H' y => ?_⟩
    obtain ⟨e, y⟩ := y
    subst e y
    exact hs i σ _ hlt p
  · have e : i = n := by omega
    subst e
    exact .inl ⟨Nat.le_refl _, hd σ H p⟩
end L2
namespace L2
open PySem PySem.Spec PyProof.Rows
abbrev R2 := V → V → Hp → VK → Prop
def OpR (X : Cx) (f : Value → Value → Sem Value) (r : R2) : Prop :=
  ∀ (pins : List (Addr × Obj)) (s : Shared) (σ : St) (H : Hp) (x y : V) (v u : Value) (Q : VK), Inv X pins σ H s → RelV x v → RelV y u → r x y H Q →
    wpAny (model X.prog X.w) X.A (f v u) (EP X pins σ Q) X.xe s
def UnR (X : Cx) (f : Value → Sem Value) (r : V → Hp → VK → Prop) : Prop :=
  ∀ (pins : List (Addr × Obj)) (s : Shared) (σ : St) (H : Hp) (x : V) (v : Value) (Q : VK), Inv X pins σ H s → RelV x v → r x H Q →
    wpAny (model X.prog X.w) X.A (f v) (EP X pins σ Q) X.xe s
def CallR (X : Cx) (f : Value) (r : List V → Hp → VK → Prop) : Prop :=
  ∀ (pins : List (Addr × Obj)) (s : Shared) (σ : St) (H : Hp) (xs : List V) (us : List Value) (Q : VK), Inv X pins σ H s → Vals xs us → r xs H Q →
    wpAny (model X.prog X.w) X.A (call f us) (EP X pins σ Q) X.xe s
def tOp (r : R2) (ta tb : TE) : TE := fun σ H Q => ta σ H fun x H1 => tb σ H1 fun y H2 => r x y H2 Q
def tUn (r : V → Hp → VK → Prop) (ta : TE) : TE := fun σ H Q => ta σ H fun x H1 => r x H1 Q
def rI (C : Int → Int → Prop) (g : Int → Int → V) : R2 := fun x y H Q => ∃ i j, x = .int i ∧ y = .int j ∧ C i j ∧ Q (g i j) H
def rI0 (g : Int → Int → V) : R2 := fun x y H Q => ∃ i j, x = .int i ∧ y = .int j ∧ Q (g i j) H
def rU (g : Int → V) : V → Hp → VK → Prop := fun x H Q => ∃ i, x = .int i ∧ Q (g i) H
section
variable {X : Cx} {a b c : Expr} {ta tb tc : TE} {pos : Pos}
theorem binT (ha : PE X a ta) (hb : PE X b tb) {pins : List (Addr × Obj)} {s : Shared} {σ : St} {H : Hp} {R : V → V → Hp → Prop} (I : Inv X pins σ H s)
    (h : ta σ H fun x H1 => tb σ H1 fun y H2 => R x y H2) {Q : Value → Shared → Prop} {f : Value → Value → Sem Value}
    (hf : ∀ v u s2 x y H2, Inv X pins σ H2 s2 → RelV x v → RelV y u → R x y H2 → wpAny (model X.prog X.w) X.A (f v u) Q X.xe s2) :
    wpAny (model X.prog X.w) X.A (eval a X.env) (fun v s₁ => wpAny (model X.prog X.w) X.A (eval b X.env) (fun u s₂ => wpAny (model X.prog X.w) X.A (f v u) Q X.xe s₂) X.xe s₁) X.xe s := by
  refine thn (ha pins s σ H _ I h) fun v s1 ⟨x, H1, I1, r1, q1⟩ => ?_
  refine thn (hb pins s1 σ H1 _ I1 q1) fun u s2 ⟨y, H2, I2, r2, q2⟩ => ?_
  exact hf v u s2 x y H2 I2 r1 r2 q2
theorem pe_op {op : Operator} {r : R2} (ho : OpR X (binaryOp op) r) (ha : PE X a ta) (hb : PE X b tb) : PE X (.BinOp a op b pos) (tOp r ta tb) := by
  intro pins s σ H Q I h
  exact wpAny_BinOp (binT ha hb I h fun v u s2 x y H2 I2 rx ry q => ho pins s2 σ H2 x y v u Q I2 rx ry q)
theorem pe_un {op : UnaryOp} {r : V → Hp → VK → Prop} (ho : UnR X (unaryOp op) r) (ha : PE X a ta) : PE X (.UnaryOp op a pos) (tUn r ta) := by
  intro pins s σ H Q I h
  exact UnaryOp_ (thn (ha pins s σ H _ I h) fun v s1 ⟨x, H1, I1, r1, q1⟩ => ho pins s1 σ H1 x v Q I1 r1 q1)
theorem opI {f : Value → Value → Sem Value} {C : Int → Int → Prop} {g : Int → Int → Int}
    (rule : ∀ (i j : Int) (t u : Tok) (s : Shared) (Q : Value → Shared → Prop) (E : Value → Shared → Prop), C i j → Q (.int (g i j) s.toks) { s with toks := s.toks + 1 } → wpAny (model X.prog X.w) X.A (f (.int i t) (.int j u)) Q E s) :
    OpR X f (rI C fun i j => .int (g i j)) := by
  intro pins s σ H x y v u Q I rx ry h
  obtain ⟨i, j, rfl, rfl, hc, q⟩ := h
  obtain ⟨t, rfl⟩ := rx
  obtain ⟨t', rfl⟩ := ry
  exact rule i j t t' s _ _ hc ⟨.int (g i j), H, I.tok _, ⟨_, rfl⟩, q⟩
theorem opI0 {f : Value → Value → Sem Value} {g : Int → Int → Int}
    (rule : ∀ (i j : Int) (t u : Tok) (s : Shared) (Q : Value → Shared → Prop) (E : Value → Shared → Prop), Q (.int (g i j) s.toks) { s with toks := s.toks + 1 } → wpAny (model X.prog X.w) X.A (f (.int i t) (.int j u)) Q E s) :
    OpR X f (rI0 fun i j => .int (g i j)) := by
  intro pins s σ H x y v u Q I rx ry h
  obtain ⟨i, j, rfl, rfl, q⟩ := h
  obtain ⟨t, rfl⟩ := rx
  obtain ⟨t', rfl⟩ := ry
  exact rule i j t t' s _ _ ⟨.int (g i j), H, I.tok _, ⟨_, rfl⟩, q⟩
theorem opB0 {f : Value → Value → Sem Value} {g : Int → Int → Bool}
    (rule : ∀ (i j : Int) (t u : Tok) (s : Shared) (Q : Value → Shared → Prop) (E : Value → Shared → Prop), Q (.bool (g i j)) s → wpAny (model X.prog X.w) X.A (f (.int i t) (.int j u)) Q E s) :
    OpR X f (rI0 fun i j => .bl (g i j)) := by
  intro pins s σ H x y v u Q I rx ry h
  obtain ⟨i, j, rfl, rfl, q⟩ := h
  obtain ⟨t, rfl⟩ := rx
  obtain ⟨t', rfl⟩ := ry
  exact rule i j t t' s _ _ ⟨.bl (g i j), H, I, rfl, q⟩
def CDiv (i j : Int) : Prop := 0 < j ∧ j < 1073741824
def CMul (i j : Int) : Prop := (-(2 ^ 64) < i ∧ i < 2 ^ 64) ∨ (-(2 ^ 64) < j ∧ j < 2 ^ 64)
theorem CMul.ok {i j : Int} (h : CMul i j) : IntMulOk i j := by
  rcases h with ⟨h1, h2⟩ | ⟨h1, h2⟩
  · exact .of_left (intBits_le_64 h1 h2)
  · exact .of_right (intBits_le_64 h1 h2)
theorem op_add : OpR X (binaryOp .Add) (rI0 fun i j => .int (i + j)) := opI0 fun _ _ _ _ _ _ _ q => add_int q
theorem op_sub : OpR X (binaryOp .Sub) (rI0 fun i j => .int (i - j)) := opI0 fun _ _ _ _ _ _ _ q => sub_int q
theorem op_mul : OpR X (binaryOp .Mult) (rI CMul fun i j => .int (i * j)) := opI fun _ _ _ _ _ _ _ hc q => mul_int q hc.ok
theorem op_fdiv : OpR X (binaryOp .FloorDiv) (rI CDiv fun i j => .int (i / j)) := opI fun i j _ _ _ _ _ hc q => by
  have h1 : (0 : Int) < j := hc.1
  have h2 : j < 1073741824 := hc.2
  exact floordiv_int (by omega) (by rw [Int.fdiv_eq_ediv_of_nonneg i (by omega)]; exact q) (.inl (PyProof.noPylong_small (by omega)))
theorem op_mod : OpR X (binaryOp .Mod) (rI (fun _ j => 0 < j) fun i j => .int (i % j)) := opI fun i j _ _ _ _ _ hc q => by
  have h1 : (0 : Int) < j := hc
  exact mod_int' (by omega) (by rw [Int.fmod_eq_emod_of_nonneg i (by omega)]; exact q)
theorem unI {f : Value → Sem Value} {g : Int → Int}
    (rule : ∀ (i : Int) (t : Tok) (s : Shared) (Q : Value → Shared → Prop) (E : Value → Shared → Prop), Q (.int (g i) s.toks) { s with toks := s.toks + 1 } → wpAny (model X.prog X.w) X.A (f (.int i t)) Q E s) :
    UnR X f (rU fun i => .int (g i)) := by
  intro pins s σ H x v Q I rx h
  obtain ⟨i, rfl, q⟩ := h
  obtain ⟨t, rfl⟩ := rx
  exact rule i t s _ _ ⟨.int (g i), H, I.tok _, ⟨_, rfl⟩, q⟩
theorem un_neg : UnR X (unaryOp .USub) (rU fun i => .int (-i)) := unI fun _ _ _ _ _ q => neg_int q
end
def scal : V → V → Bool
  | .non, .non => true | .non, .int _ => true | .int _, .non => true | .non, .bl _ => true | .bl _, .non => true | .non, .str _ => true | .str _, .non => true
  | .int _, .int _ => true | .bl _, .bl _ => true | .str _, .str _ => true | .byt _, .byt _ => true
  | .int _, .str _ => true | .str _, .int _ => true | .bl _, .str _ => true | .str _, .bl _ => true
  | _, _ => false
def rEq : R2 := fun x y H Q => scal x y = true ∧ Q (.bl (decide (x = y))) H
def rNe : R2 := fun x y H Q => scal x y = true ∧ Q (.bl (!decide (x = y))) H
theorem dec_int {i j : Int} : decide (V.int i = V.int j) = (i == j) := by
  rw [Bool.eq_iff_iff]
  simp
theorem dec_bl {i j : Bool} : decide (V.bl i = V.bl j) = (i == j) := by
  rw [Bool.eq_iff_iff]
  simp
theorem dec_str {i j : Str} : decide (V.str i = V.str j) = (i == j) := by
  rw [Bool.eq_iff_iff]
  simp
theorem dec_byt {i j : Array UInt8} : decide (V.byt i = V.byt j) = (i.toList == j.toList) := by
  rw [Bool.eq_iff_iff]
  cases i
  cases j
  simp
section
variable {X : Cx} {a b c : Expr} {ta tb tc : TE} {pos : Pos}
theorem fin_bl {pins : List (Addr × Obj)} {σ : St} {H : Hp} {s : Shared} {Q : VK} {k k' : Bool} (I : Inv X pins σ H s) (q : Q (.bl k) H) (e : k = k') : EP X pins σ Q (.bool k') s := by
  subst e
  exact ⟨.bl k, H, I, rfl, q⟩
theorem op_eq : OpR X (compareOp .Eq) rEq := by
  intro pins s σ H x y v u Q I rx ry h
  obtain ⟨hs, q⟩ := h
  cases x with
  | non =>
    cases rx
    cases y with
    | non => cases ry; exact PySem.EqNone.eq_none_none (fin_bl I q (by simp))
    | bl j => cases ry; exact PySem.EqNone.eq_none_bool (fin_bl I q (by simp))
    | int j => obtain ⟨t', rfl⟩ := ry; exact PySem.EqNone.eq_none_int (fin_bl I q (by simp))
    | str j => obtain ⟨t', rfl⟩ := ry; exact PySem.EqNone.eq_none_str (fin_bl I q (by simp))
    | _ => exact absurd (show false = true from hs) Bool.false_ne_true
  | bl i =>
    cases rx
    cases y with
    | non => cases ry; exact PySem.EqNone.eq_bool_none (fin_bl I q (by simp))
    | bl j => cases ry; exact eq_bool (fin_bl I q dec_bl)
    | str j => obtain ⟨t', rfl⟩ := ry; exact PySem.EqMixed.eq_bool_str (fin_bl I q (by simp))
    | _ => exact absurd (show false = true from hs) Bool.false_ne_true
  | int i =>
    obtain ⟨t, rfl⟩ := rx
    cases y with
    | non => cases ry; exact PySem.EqNone.eq_int_none (fin_bl I q (by simp))
    | int j => obtain ⟨t', rfl⟩ := ry; exact eq_int (fin_bl I q dec_int)
    | str j => obtain ⟨t', rfl⟩ := ry; exact PySem.EqMixed.eq_int_str (fin_bl I q (by simp))
    | _ => exact absurd (show false = true from hs) Bool.false_ne_true
  | str i =>
    obtain ⟨t, rfl⟩ := rx
    cases y with
    | non => cases ry; exact PySem.EqNone.eq_str_none (fin_bl I q (by simp))
    | bl j => cases ry; exact PySem.EqMixed.eq_str_bool (fin_bl I q (by simp))
    | int j => obtain ⟨t', rfl⟩ := ry; exact PySem.EqMixed.eq_str_int (fin_bl I q (by simp))
    | str j => obtain ⟨t', rfl⟩ := ry; exact eq_str (fin_bl I q dec_str)
    | _ => exact absurd (show false = true from hs) Bool.false_ne_true
  | byt i =>
    obtain ⟨t, rfl⟩ := rx
    cases y with
    | byt j => obtain ⟨t', rfl⟩ := ry; exact PySem.W.eq_bytes (fin_bl I q dec_byt)
    | _ => exact absurd (show false = true from hs) Bool.false_ne_true
  | _ => cases y <;> exact absurd (show false = true from hs) Bool.false_ne_true
theorem op_ne : OpR X (compareOp .NotEq) rNe := by
  intro pins s σ H x y v u Q I rx ry h
  obtain ⟨hs, q⟩ := h
  cases x with
  | non =>
    cases rx
    cases y with
    | non => cases ry; exact PySem.EqNone.ne_none_none (fin_bl I q (by simp))
    | bl j => cases ry; exact PySem.EqNone.ne_none_bool (fin_bl I q (by simp))
    | int j => obtain ⟨t', rfl⟩ := ry; exact PySem.EqNone.ne_none_int (fin_bl I q (by simp))
    | str j => obtain ⟨t', rfl⟩ := ry; exact PySem.EqNone.ne_none_str (fin_bl I q (by simp))
    | _ => exact absurd (show false = true from hs) Bool.false_ne_true
  | bl i =>
    cases rx
    cases y with
    | non => cases ry; exact PySem.EqNone.ne_bool_none (fin_bl I q (by simp))
    | bl j => cases ry; exact ne_bool (fin_bl I q (congrArg not dec_bl))
    | str j => obtain ⟨t', rfl⟩ := ry; exact PySem.EqMixed.ne_bool_str (fin_bl I q (by simp))
    | _ => exact absurd (show false = true from hs) Bool.false_ne_true
  | int i =>
    obtain ⟨t, rfl⟩ := rx
    cases y with
    | non => cases ry; exact PySem.EqNone.ne_int_none (fin_bl I q (by simp))
    | int j => obtain ⟨t', rfl⟩ := ry; exact ne_int (fin_bl I q (congrArg not dec_int))
    | str j => obtain ⟨t', rfl⟩ := ry; exact PySem.EqMixed.ne_int_str (fin_bl I q (by simp))
    | _ => exact absurd (show false = true from hs) Bool.false_ne_true
  | str i =>
    obtain ⟨t, rfl⟩ := rx
    cases y with
    | non => cases ry; exact PySem.EqNone.ne_str_none (fin_bl I q (by simp))
    | bl j => cases ry; exact PySem.EqMixed.ne_str_bool (fin_bl I q (by simp))
    | int j => obtain ⟨t', rfl⟩ := ry; exact PySem.EqMixed.ne_str_int (fin_bl I q (by simp))
    | str j => obtain ⟨t', rfl⟩ := ry; exact ne_str (fin_bl I q (congrArg not dec_str))
    | _ => exact absurd (show false = true from hs) Bool.false_ne_true
  | byt i =>
    obtain ⟨t, rfl⟩ := rx
    cases y with
    | byt j => obtain ⟨t', rfl⟩ := ry; exact PySem.W.ne_bytes (fin_bl I q (congrArg not dec_byt))
    | _ => exact absurd (show false = true from hs) Bool.false_ne_true
  | _ => cases y <;> exact absurd (show false = true from hs) Bool.false_ne_true
theorem op_lt : OpR X (compareOp .Lt) (rI0 fun i j => .bl (decide (i < j))) := opB0 fun _ _ _ _ _ _ _ q => lt_int q
theorem op_gt : OpR X (compareOp .Gt) (rI0 fun i j => .bl (decide (j < i))) := opB0 fun _ _ _ _ _ _ _ q => gt_int q
theorem nomark (b : Expr) {op : CmpOp} (h : op ≠ .In := by decide) (h2 : op ≠ .NotIn := by decide) : behindInMarks op b = false := by
  have e1 : (op == CmpOp.In) = false := by cases op <;> first | rfl | exact absurd rfl h
  have e2 : (op == CmpOp.NotIn) = false := by cases op <;> first | rfl | exact absurd rfl h2
  cases b <;> simp [behindInMarks, e1, e2]
theorem pe_cmpR {op : CmpOp} {r : R2} (ho : OpR X (compareOp op) r) (ha : PE X a ta) (hb : PE X b tb) (hm : behindInMarks op b = false) : PE X (.Compare a [op] [b] pos) (tOp r ta tb) := by
  intro pins s σ H Q I h
  exact wpAny_Compare1 (binT ha hb I h fun v u s2 x y H2 I2 rx ry q => ho pins s2 σ H2 x y v u Q I2 rx ry q) hm
def tTest (t : TE) : TT := fun σ H Q => t σ H fun x H' => ∃ k, x = .bl k ∧ Q k H'
theorem pt_cmpR {op : CmpOp} {r : R2} (ho : OpR X (compareOp op) r) (ha : PE X a ta) (hb : PE X b tb) (hm : behindInMarks op b = false) : PT X (.Compare a [op] [b] pos) (tTest (tOp r ta tb)) := by
  intro pins s σ H Q I h
  refine wpAny_isTrue_Compare1 (thn (ha pins s σ H _ I h) fun v s1 ⟨x, H1, I1, r1, q1⟩ => thn (hb pins s1 σ H1 _ I1 q1) fun u s2 ⟨y, H2, I2, r2, q2⟩ =>
    thn (ho pins s2 σ H2 x y v u _ I2 r1 r2 q2) fun c s3 ⟨z, H3, I3, r3, k, e, q3⟩ => ?_) hm
  subst e
  cases r3
  exact wpAny_truthy_bool ⟨H3, I3, q3⟩
theorem line63 : (sizeLine : Nat) < 2 ^ 63 := by rw [sizeLine_eq]; decide
theorem op_add_str : OpR X (binaryOp .Add) (fun x y H Q => ∃ i j, x = .str i ∧ y = .str j ∧ i.length + j.length ≤ sizeLine ∧ Q (.str (i ++ j)) H) := by
  intro pins s σ H x y v u Q I rx ry h
  obtain ⟨i, j, rfl, rfl, hz, q⟩ := h
  obtain ⟨t, rfl⟩ := rx
  obtain ⟨t', rfl⟩ := ry
  exact add_str (fun t' tk => ⟨.str (i ++ j), H, I.tok _, ⟨_, rfl⟩, q⟩) hz
theorem vals1 {x : V} {us : List Value} (r : Vals [x] us) : ∃ u, us = [u] ∧ RelV x u := by
  cases r with
  | cons r1 r2 => cases r2; exact ⟨_, rfl, r1⟩
theorem vals2 {x y : V} {us : List Value} (r : Vals [x, y] us) : ∃ u w', us = [u, w'] ∧ RelV x u ∧ RelV y w' := by
  cases r with
  | cons r1 r2 =>
    cases r2 with
    | cons r3 r4 => cases r4; exact ⟨_, _, rfl, r1, r3⟩
theorem call_max2 (hc : X.calm = true) : CallR X (.builtin "max") (fun xs H Q => ∃ i j, xs = [.int i, .int j] ∧ Q (.int (if j > i then j else i)) H) := by
  intro pins s σ H xs us Q I r h
  obtain ⟨i, j, rfl, q⟩ := h
  obtain ⟨u, w', rfl, ⟨t, rfl⟩, ⟨t', rfl⟩⟩ := vals2 r
  refine max_two_ints (I.ok.hd hc) fun h' tk k => ⟨_, H, I.kept k, ?_, q⟩
  by_cases hj : j > i
  · rw [if_pos hj, if_pos hj]; exact ⟨_, rfl⟩
  · rw [if_neg hj, if_neg hj]; exact ⟨_, rfl⟩
theorem call_min2 (hc : X.calm = true) : CallR X (.builtin "min") (fun xs H Q => ∃ i j, xs = [.int i, .int j] ∧ Q (.int (if j < i then j else i)) H) := by
  intro pins s σ H xs us Q I r h
  obtain ⟨i, j, rfl, q⟩ := h
  obtain ⟨u, w', rfl, ⟨t, rfl⟩, ⟨t', rfl⟩⟩ := vals2 r
  refine min_two_ints (I.ok.hd hc) fun h' tk k => ⟨_, H, I.kept k, ?_, q⟩
  by_cases hj : j < i
  · rw [if_pos hj, if_pos hj]; exact ⟨_, rfl⟩
  · rw [if_neg hj, if_neg hj]; exact ⟨_, rfl⟩
theorem call_int1 : CallR X (.type "int") (fun xs H Q => (∃ i, xs = [.int i] ∧ Q (.int i) H) ∨ ∃ k, xs = [.bl k] ∧ Q (.int (if k then 1 else 0)) H) := by
  intro pins s σ H xs us Q I r h
  rcases h with ⟨i, rfl, q⟩ | ⟨k, rfl, q⟩
  · obtain ⟨u, rfl, t, rfl⟩ := vals1 r
    exact call_int_int ⟨.int i, H, I, ⟨_, rfl⟩, q⟩
  · obtain ⟨u, rfl, r1⟩ := vals1 r
    cases r1
    exact call_int_bool ⟨.int (if k then 1 else 0), H, I.tok _, ⟨_, rfl⟩, q⟩
end
end L2
namespace L2
open PySem PySem.Spec PyProof.Rows
section
variable {prog : Program} {w : World} {A : Around} {E : Value → Shared → Prop} {s : Shared} {K : PySem.W.Frag} {x dx C f : Addr} {mA : Str → Option Value} {name : Str} {v : Value}
end
theorem RelO.some_of {v : V} {o : Option Value} (r : RelO (some v) o) : ∃ u, o = some u ∧ RelV v u := by
  cases o with
  | none => exact (show False from r).elim
  | some u => exact ⟨u, rfl, r⟩
section
variable {P : Program} {w : World} {H H' : Hp} {h h' : Heap} {a C dx : Addr} {fs fs' : List (Str × V)}
end
section
variable {X : Cx} {pins : List (Addr × Obj)} {σ : St} {H : Hp} {s : Shared} {a C dx : Addr} {fs : List (Str × V)} {f : Str} {v : V} {A : Around} {E : Value → Shared → Prop}
end
section
variable {X : Cx} {o e value : Expr} {f : Str} {pos pos' tpos : Pos} {ta tv : TE}
end
section
variable {X : Cx} {pins : List (Addr × Obj)} {σ : St} {H : Hp} {s : Shared} {A : Around} {E : Value → Shared → Prop} {Q : Value → Shared → Prop} {c : Value} {b : Bool}
end
end L2
namespace L2
open PySem PySem.Spec PyProof.Rows
structure Room (k : Nat) (A : Around) : Prop where
  hd : A.handled = none
  dp : A.depth + 3 * k + 5 < recursionLimit
  un : A.units + 16 * k + 200 < cLine
theorem Room.mono {j k : Nat} {A : Around} (r : Room k A) (h : j ≤ k) : Room j A := ⟨r.hd, by have := r.dp; omega, by have := r.un; omega⟩
theorem Room.deeper {k : Nat} {A : Around} (r : Room (k + 1) A) (env : Env) : Room k (A.deeper env) :=
  ⟨r.hd, by have := r.dp; show A.depth + 1 + 3 * k + 5 < _; omega, by have := r.un; show A.units + 3 + 16 * k + 200 < _; omega⟩
theorem Room.depth {k : Nat} {A : Around} (r : Room k A) : A.depth < recursionLimit := by have := r.dp; omega
theorem Room.units0 {k : Nat} {A : Around} (r : Room k A) : A.units < cLine := by have := r.un; omega
def tNil : TA := fun _ H Q => Q [] H
def tCons (ta : TE) (tr : TA) : TA := fun σ H Q => ta σ H fun x H1 => tr σ H1 fun xs H2 => Q (x :: xs) H2
section
variable {X : Cx} {e : Expr} {es : List Expr} {te : TE} {t : TA} {pos : Pos}
theorem pa_nil : PA X [] tNil := fun _ _ _ _ H Q I h => Calls.spliced_nil ⟨[], H, I, .nil, h⟩
theorem pa_cons (ha : PE X e te) (hr : PA X es t) (hs : starEach (e :: es) X.env = (false, eval e X.env) :: starEach es X.env := by rfl) : PA X (e :: es) (tCons te t) := by
  intro pos pins s σ H Q I h
  rw [hs]
  show wpAny _ _ (spliced ((false, eval e X.env) :: backTo pos (starEach es X.env))) _ _ s
  refine Calls.spliced_cons (thn (ha pins s σ H _ I h) fun u s1 ⟨x, H1, I1, r1, q1⟩ => ?_)
  exact thn (hr pos pins s1 σ H1 _ I1 q1) fun us s2 ⟨xs, H2, I2, r2, q2⟩ => ⟨x :: xs, H2, I2, .cons r1 r2, q2⟩
def tTup (t : TA) : TE := fun σ H Q => t σ H fun xs H1 => xs.length ≤ sizeLine ∧ ∀ p, H1 p = none → Q (.ref p) (upd H1 p (.tup xs))
def tLst (t : TA) : TE := fun σ H Q => t σ H fun xs H1 => xs.length ≤ sizeLine ∧ ∀ p, H1 p = none → Q (.ref p) (upd H1 p (.lst xs))
theorem pe_tup {x1} (h : PA X es t) : PE X (.Tuple es x1 pos) (tTup t) := by
  intro pins s σ H Q I hq
  refine wpAny_Tuple_spliced (thn (h pos pins s σ H _ I hq) fun us s1 ⟨xs, H1, I1, r, z, q⟩ => ⟨by rw [← r.length]; exact z, ?_⟩)
  have hf : H1 s1.heap.objs.size = none := I1.hok.fresh (Nat.le_refl _)
  refine ⟨.ref s1.heap.objs.size, upd H1 s1.heap.objs.size (.tup xs), I1.laid (t' := s1.toks) (fun b u e => Heap.get?_push_of_some _ e) (Nat.le_refl _) ?_, rfl, q _ hf⟩
  exact ⟨z, us, r, ⟨_, Heap.get?_push_size _ rfl, rfl, _, rfl⟩⟩
theorem pe_lst (h : PA X es t) : PE X (.List es pos) (tLst t) := by
  intro pins s σ H Q I hq
  refine wpAny_List_spliced (thn (h pos pins s σ H _ I hq) fun us s1 ⟨xs, H1, I1, r, z, q⟩ => ⟨by rw [← r.length]; exact z, ?_⟩)
  have hf : H1 s1.heap.objs.size = none := I1.hok.fresh (Nat.le_refl _)
  refine ⟨.ref s1.heap.objs.size, upd H1 s1.heap.objs.size (.lst xs), I1.laid (t' := s1.toks) (fun b u e => Heap.get?_push_of_some _ e) (Nat.le_refl _) ?_, rfl, q _ hf⟩
  exact ⟨z, us, 0, r, Heap.get?_push_size _ rfl⟩
end
abbrev Sp := List V → Hp → VK → XK → Prop
abbrev CXT := List Env → Hp → Shared → XK → Value → Shared → Prop
structure Env0 (P : Program) (w : World) (K : PySem.W.Frag) (mg : Str → Option Value) (base : Heap) (A : Around) (outer : List Env) (s : Shared) (H : Hp) : Prop where
  frames : A.frames = some outer
  mod : Mod K mg base
  bs : ∀ b o, base.get? b = some o → s.heap.get? b = some o ∧ H b = none
  bsz : base.objs.size ≤ s.heap.objs.size
  funs : s.heap.FunFrames base outer
  frf : ∀ b ∈ frs outer, H b = none
  hok : HOk P w H s.heap
  bare : AllBare s.gens
def CE (outer : List Env) (P : Program) (w : World) (H : Hp) (s : Shared) (Q : VK) (u : Value) (s' : Shared) : Prop :=
  ∃ v H', s'.os = s.os ∧ AllBare s'.gens ∧ Un (frs outer) [] H H' s.heap s'.heap ∧ HOk P w H' s'.heap ∧ RelV v u ∧ Q v H'
def CR (CX : CXT) (outer : List Env) (P : Program) (w : World) (H : Hp) (s : Shared) (Q : VK) (E : XK) (r : Result) (s' : Shared) : Prop :=
  match r with
  | .ok (.ret u) => CE outer P w H s Q u s'
  | .ok _ => False
  | .error e => CX outer H s E e s'
structure FnOk (P : Program) (w : World) (K : PySem.W.Frag) (mg : Str → Option Value) (base : Heap) (CX : CXT) (k : Nat) (f : Addr) (fd : FuncData) (ps : List Str) (sp : Sp) : Prop where
  len : ∀ vs H Q E, sp vs H Q E → vs.length = ps.length
  run : ∀ (A : Around) (outer : List Env) (s : Shared) (H : Hp) (args : Args) (us : List Value) (vs : List V) (Q : VK) (E : XK), Room k A → Env0 P w K mg base A outer s H → BindsTo s fd args (ps.zip us) → Vals vs us → sp vs H Q E →
    codeAny (model P w) A (.call (.ref f) args) (CR CX outer P w H s Q E) s
section
variable {X : Cx} {pins : List (Addr × Obj)} {σ : St} {H : Hp} {s s' : Shared}
theorem Inv.env0 (I : Inv X pins σ H s) : Env0 X.prog X.w X.K X.mg X.base X.A X.stack s H :=
  ⟨I.ok.frames, I.ok.mod, I.bs, Nat.le_trans I.ok.bsz I.sz, I.stack, I.stkFree, I.hok, I.bare⟩
theorem Inv.after {Q : VK} {u : Value} (I : Inv X pins σ H s) (h : CE X.stack X.prog X.w H s Q u s') : EP X pins σ Q u s' := by
  obtain ⟨v, H', os, bare, un, hok, r, q⟩ := h
  obtain ⟨hh, g, d, t, os'⟩ := s'
  obtain rfl : os' = s.os := os
  exact ⟨v, H', I.call (h' := hh) (g' := g) (d' := d) (t' := t) (ch := []) un hok bare (fun b z => absurd z (by simp)), r, q⟩
end
def tCall (sp : Sp) (dvs : List V) (E : XK) (t : TA) : TE := fun σ H Q => t σ H fun vs H1 => sp (vs ++ dvs) H1 Q E
def Binds (K : PySem.W.Frag) (fd : FuncData) (ps : List Str) (ds : List Value) : Prop :=
  ∀ (s : Shared) (us : List Value), K.In s.heap → (us ++ ds).length = ps.length → BindsTo s fd ⟨us, []⟩ (ps.zip (us ++ ds))
def Passes (CX : CXT) (X : Cx) (E : XK) : Prop := ∀ (pins : List (Addr × Obj)) (σ : St) (H : Hp) (s : Shared) (e : Value) (s' : Shared), Inv X pins σ H s → CX X.stack H s E e s' → X.xe e s'
section
variable {X : Cx} {CX : CXT} {k : Nat} {f C : Addr} {fd : FuncData} {ps : List Str} {sp : Sp} {dvs : List V} {ds : List Value} {E : XK} {x m : Str} {p pos apos : Pos} {e o : Expr} {es : List Expr} {ta : TE} {t : TA}
theorem run_fn {pins : List (Addr × Obj)} {σ : St} {H : Hp} {s : Shared} {Q : VK} {us : List Value} {vs : List V} (F : FnOk X.prog X.w X.K X.mg X.base CX k f fd ps sp) (hr : Room k X.A) (hb : Binds X.K fd ps ds) (hd : Vals dvs ds) (hx : Passes CX X E)
    (I : Inv X pins σ H s) (r : Vals vs us) (h : sp (vs ++ dvs) H Q E) : wpAny (model X.prog X.w) X.A (call (.ref f) us) (EP X pins σ Q) X.xe s := by
  have r2 : Vals (vs ++ dvs) (us ++ ds) := r.append hd
  have hl : (us ++ ds).length = ps.length := by rw [← r2.length]; exact F.len _ _ _ _ h
  refine wpAny_call (codeAny_mono (F.run X.A X.stack s H ⟨us, []⟩ (us ++ ds) (vs ++ dvs) Q E hr I.env0 (hb s us I.kIn hl) r2 h) fun r s' hq => ?_)
  cases r with
  | error e => exact hx pins σ H s e s' I hq
  | ok fl =>
    cases fl with
    | ret u => exact I.after hq
    | next => exact False.elim hq
    | brk => exact False.elim hq
    | cont => exact False.elim hq
theorem pe_call (F : FnOk X.prog X.w X.K X.mg X.base CX k f fd ps sp) (hr : Room k X.A) (hg : Gl X x) (hm : X.mg x = some (.ref f)) (hk : PySem.W.keepIn X.K (.ref f) = true) (hb : Binds X.K fd ps ds) (hd : Vals dvs ds) (hx : Passes CX X E)
    (ha : PA X (e :: es) t) (hdb : (x == ("__debug__" : Str)) = false := by decide) (he : starEach (e :: es) X.env = (false, eval e X.env) :: starEach es X.env := by rfl) (hpl : (backTo pos (starEach es X.env)).any (·.1) = false := by rfl) :
    PE X (.Call (.Name x p) (e :: es) [] pos) (tCall sp dvs E t) := by
  intro pins s σ H Q I h
  refine wpAny_Call_Name_kw (ld_glob I hg hm ?_ hdb)
  refine PySem.W.callWith_K (h₀ := X.base) I.ok.mod.kin hk (thn (ha pos pins s σ H _ I h) fun us s1 ⟨vs, H1, I1, r, q⟩ => ⟨I1.kIn, ?_⟩) he hpl
  exact run_fn F hr hb hd hx I1 r q
end
section
variable {X : Cx} {CX : CXT} {k : Nat} {f C : Addr} {fd : FuncData} {ps ks : List Str} {sp : Sp} {E : XK} {x m : Str} {p pos apos kpos : Pos} {e o : Expr} {es : List Expr} {kws : List Keyword} {te ta : TE} {t tk : TA} {nm : Option Str}
variable {g : List Value → List Value → List Value} {gV : List V → List V → List V}
end
structure FnScope (N P : List Str) (sc : Scope) : Prop where
  kind : sc.kind = .function
  co : sc.isCoroutine = false
  gen : sc.isGenerator = false
  nd : N.Nodup
  pre : N.take P.length = P
  par : ∀ x ∈ P, sc.names.lookup x = some .local ∨ sc.names.lookup x = some .cell
  nofree : ∀ y ∈ sc.names, y.2 ≠ .free
theorem bindL_out {kindOf : Str → Option NameKind} {x : Str} : ∀ {binds : List (Str × Value)} {m : Str → Option Value}, (∀ v, (x, v) ∉ binds) → bindL kindOf binds m x = m x
  | [], _, _ => rfl
  | (n, v) :: r, m, h => by
    unfold bindL
    rw [bindL_out fun w hw => h w (List.mem_cons_of_mem _ hw)]
    split
    · have : x ≠ n := by rintro rfl; exact h v List.mem_cons_self
      simp [this]
    · rfl
theorem bindC_out {kindOf : Str → Option NameKind} {x : Str} : ∀ {binds : List (Str × Value)} {m : Str → Option Value}, (∀ v, (x, v) ∉ binds) → bindC kindOf binds m x = m x
  | [], _, _ => rfl
  | (n, v) :: r, m, h => by
    unfold bindC
    rw [bindC_out fun w hw => h w (List.mem_cons_of_mem _ hw)]
    split
    · rfl
    · have : x ≠ n := by rintro rfl; exact h v List.mem_cons_self
      simp [this]
theorem bindL_get {kindOf : Str → Option NameKind} {x : Str} {v : Value} : ∀ {P : List Str} {vs : List Value} {i : Nat} {m : Str → Option Value}, P.Nodup → P[i]? = some x → vs[i]? = some v → kindOf x = some .local →
    bindL kindOf (P.zip vs) m x = some v
  | [], _, _, _, _, h, _, _ => by simp at h
  | _ :: _, [], _, _, _, _, h, _ => by simp at h
  | p :: P, w :: vs, 0, m, nd, h1, h2, hk => by
    simp at h1 h2; subst h1; subst h2
    show bindL kindOf ((p, w) :: P.zip vs) m p = _
    unfold bindL
    rw [bindL_out fun v hv => (List.nodup_cons.mp nd).1 (List.of_mem_zip hv).1, if_pos hk]
    simp
  | p :: P, w :: vs, i + 1, m, nd, h1, h2, hk => by
    show bindL kindOf ((p, w) :: P.zip vs) m x = _
    unfold bindL
    exact bindL_get (i := i) (List.nodup_cons.mp nd).2 (by simpa using h1) (by simpa using h2) hk
theorem bindC_get {kindOf : Str → Option NameKind} {x : Str} {v : Value} : ∀ {P : List Str} {vs : List Value} {i : Nat} {m : Str → Option Value}, P.Nodup → P[i]? = some x → vs[i]? = some v → kindOf x ≠ some .local →
    bindC kindOf (P.zip vs) m x = some v
  | [], _, _, _, _, h, _, _ => by simp at h
  | _ :: _, [], _, _, _, _, h, _ => by simp at h
  | p :: P, w :: vs, 0, m, nd, h1, h2, hk => by
    simp at h1 h2; subst h1; subst h2
    show bindC kindOf ((p, w) :: P.zip vs) m p = _
    unfold bindC
    rw [bindC_out fun v hv => (List.nodup_cons.mp nd).1 (List.of_mem_zip hv).1, if_neg hk]
    simp
  | p :: P, w :: vs, i + 1, m, nd, h1, h2, hk => by
    show bindC kindOf ((p, w) :: P.zip vs) m x = _
    unfold bindC
    exact bindC_get (i := i) (List.nodup_cons.mp nd).2 (by simpa using h1) (by simpa using h2) hk
def start (N : List Str) (vs : List V) : St := vs.map some ++ List.replicate (N.length - vs.length) none
def cxOf (CX : CXT) (P : Program) (w : World) (K : PySem.W.Frag) (mg : Str → Option Value) (base : Heap) (N : List Str) (qual : Str) (scope : Scope) (f : Addr) (cd : Value) (A : Around) (outer : List Env) (s : Shared) (H : Hp) (E : XK) : Cx where
  prog := P
  w := w
  K := K
  mg := mg
  base := base
  A := A.deeper (envOfC qual scope s.heap.objs.size f cd)
  N := N
  s₀ := s
  H₀ := H
  env := envOfC qual scope s.heap.objs.size f cd
  outer := outer
  stack := envOfC qual scope s.heap.objs.size f cd :: outer
  ex := []
  calm := true
  fn := fun _ => true
  pn := []
  xe := fun e s' => wpAny (model P w) (A.deeper (envOfC qual scope s.heap.objs.size f cd)) (leaving (envOfC qual scope s.heap.objs.size f cd) e) (fun _ s'' => CX outer H s E e s'') (fun e' s'' => CX outer H s E e' s'') s'
theorem cell_has {sc : Scope} {n : Nat} {x : Str} (h : sc.names.lookup x = some .cell) : ∃ c, (cellsFrom n sc.names []).lookup x = some c := by
  have q := PySem.W.cellsFrom_some sc.names n [] (.inl h)
  exact Option.isSome_iff_exists.mp q
theorem inv_start {CX : CXT} {P : Program} {w : World} {K : PySem.W.Frag} {mg : Str → Option Value} {base : Heap} {N ps : List Str} {qual : Str} {scope : Scope} {f : Addr} {cd : Value} {A : Around} {outer : List Env} {s s1 : Shared} {H : Hp} {E : XK} {us : List Value} {vs : List V}
    (S : FnScope N ps scope) (hd : A.handled = none) (e0 : Env0 P w K mg base A outer s H) (hl : vs.length = ps.length) (r : Vals vs us)
    (x : InCallC s s.heap.objs.size (bindL (envOfC qual scope s.heap.objs.size f cd).kindOf (ps.zip us) fun _ => none) (cellsFrom (s.heap.objs.size + 1) scope.names []) (bindC (envOfC qual scope s.heap.objs.size f cd).kindOf (ps.zip us) fun _ => none) s1) :
    Inv (cxOf CX P w K mg base N qual scope f cd A outer s H E) [] (start N vs) H s1 := by
  have hpl : ps.length ≤ N.length := by have := congrArg List.length S.pre; rw [List.length_take] at this; omega
  obtain ⟨h1, tk, rfl, hk⟩ := x.done
  have noA : ∀ b : Addr, b ∉ (cxOf CX P w K mg base N qual scope f cd A outer s H E).ex := fun b z => absurd (show b ∈ ([] : List Addr) from z) (by simp)
  refine ⟨⟨e0.mod, S.kind, rfl, rfl, Nat.le_refl _, fun y z c h1 h2 => ?_, fun y hy => ?_, fun y c _ h => ?_, fun _ => hd, Around.frames_deeper e0.frames, .inr ⟨rfl, rfl⟩, fun b z => absurd z (noA b), e0.bs, e0.bsz, fun b _ _ => noA b, fun b z => absurd z (noA b), e0.funs, e0.frf⟩,
    rfl, e0.bare, Un.kept hk, ⟨_, x.toInCall.ns, fun i y v h1 h2 h3 => ?_⟩, fun y c h => ⟨_, x.cell y c h⟩, e0.hok.fresh (Nat.le_refl _), fun y c h => ?_, fun p hp => absurd (show p ∈ ([] : List (Addr × Obj)) from hp) (by simp), e0.hok.kept hk, ?_⟩
  · exact name_of_addr x.apart (PySem.mem_of_lookup h1) (PySem.mem_of_lookup h2)
  · have hy : scope.names.lookup y = some .cell ∨ scope.names.lookup y = some .free := hy
    rcases hy with hy | hy
    · exact cell_has hy
    · exact absurd rfl (S.nofree _ (PySem.mem_of_lookup hy))
  · exact Nat.le_of_lt (x.above y c (PySem.mem_of_lookup h))
  · have hi : i < vs.length := by
      unfold start at h2
      by_cases hi : i < vs.length
      · exact hi
      · rw [List.getElem?_append_right (by simpa using hi)] at h2
        rw [List.getElem?_replicate] at h2
        split at h2 <;> cases h2
    have ha : vs[i]? = some v := by
      unfold start at h2
      rw [List.getElem?_append_left (by simpa using hi), List.getElem?_map] at h2
      cases e : vs[i]? with
      | none => rw [e] at h2; cases h2
      | some a => rw [e] at h2; cases h2; rfl
    obtain ⟨u, hu, rv⟩ := r.get ha
    have hp : ps[i]? = some y := by
      rw [← S.pre, List.getElem?_take_of_lt (by omega)]; exact h1
    have ndP : ps.Nodup := by rw [← S.pre]; exact S.nd.sublist (List.take_sublist _ _)
    refine ⟨u, rv, ?_⟩
    rcases S.par y (List.mem_of_getElem? hp) with k | k
    · exact .inl ⟨k, bindL_get ndP hp hu k⟩
    · obtain ⟨c, e⟩ := cell_has (n := s.heap.objs.size + 1) k
      refine .inr ⟨.inl k, c, e, ?_⟩
      have q := x.cell y c e
      rw [bindC_get ndP hp hu (by show scope.names.lookup y ≠ _; rw [k]; decide)] at q
      exact q
  · exact e0.hok.fresh (Nat.le_of_lt (x.above y c (PySem.mem_of_lookup h)))
  · unfold start
    show _ = N.length
    rw [List.length_append, List.length_map, List.length_replicate]
    omega
theorem fn_of {CX : CXT} {P : Program} {w : World} {K : PySem.W.Frag} {mg : Str → Option Value} {base : Heap} {k : Nat} {f : Addr} {name qual : Str} {params : Arguments} {body : List Stmt} {scope : Scope} {dV kV doc pm cdv ct oc : Value} {an od : Option Addr}
    {osl : Array (Option Value)} {N ps : List Str} {sp : Sp} (lk : K.lookup f = some ⟨oc, od, .func (PySem.W.fnOf name qual params body scope dV kV doc pm an cdv ct), osl⟩) (hcd : PySem.W.codeIn K cdv qual = true) (S : FnScope N ps scope)
    (len : ∀ vs H Q E, sp vs H Q E → vs.length = ps.length)
    (hbody : ∀ (A : Around) (outer : List Env) (s : Shared) (H : Hp) (vs : List V) (Q : VK) (E : XK), Room k (A.deeper (envOfC qual scope s.heap.objs.size f cdv)) → sp vs H Q E →
      ∃ t, PSs (cxOf CX P w K mg base N qual scope f cdv A outer s H E) body t ∧ t { nx := fun _ H' => Q .non H', rt := Q } (start N vs) H) :
    FnOk P w K mg base CX (k + 1) f (PySem.W.fnOf name qual params body scope dV kV doc pm an cdv ct) ps sp := by
  refine ⟨len, fun A outer s H args us vs Q E hr e0 hb r hsp => ?_⟩
  have hl := len _ _ _ _ hsp
  have KX : K.In s.heap := e0.mod.kin.keeps fun b o e => (e0.bs b o e).1
  have lim : s.heap.NoLimit := e0.mod.nolimit.keeps fun b o e => (e0.bs b o e).1
  have hkind : ∀ y ∈ ps.zip us, scope.names.lookup y.1 = some .local ∨ (scope.names.lookup y.1 = some .cell ∧ ((cellsFrom (s.heap.objs.size + 1) scope.names []).lookup y.1).isSome = true) := fun ⟨n, v⟩ hy => by
    rcases S.par n (List.of_mem_zip hy).1 with q | q
    · exact .inl q
    · exact .inr ⟨q, PySem.W.cellsFrom_some _ _ _ (.inl q)⟩
  refine codeAny_call_function hr.depth (KX _ _ lk) rfl S.co S.gen rfl (PySem.W.codeRec_of KX hcd) (hb _ _ _ _ ?_)
  refine wpAny_newFunctionEnv_cells S.kind hkind fun env he s1 x => ?_
  subst he
  refine ⟨lim.keeps x.toInCall.keep, codeAny_func ?_⟩
  obtain ⟨t, ht, hq⟩ := hbody A outer s H vs Q E (hr.deeper _) hsp
  have I : Inv (cxOf CX P w K mg base N qual scope f cdv A outer s H E) [] (start N vs) H s1 := inv_start S hr.hd e0 hl r x
  refine wpAny_mono (ht [] s1 (start N vs) H _ I hq) (fun fl s' hs => ?_) fun e s' hs => hs
  have fin : ∀ {σ' : St} {H' : Hp} {v : V} {u : Value}, Inv (cxOf CX P w K mg base N qual scope f cdv A outer s H E) [] σ' H' s' → RelV v u → Q v H' → CE outer P w H s Q u s' :=
    fun {σ' H' v u} J rv q => ⟨v, H', J.os, J.bare, J.base, J.hok, rv, q⟩
  cases fl with
  | ret u =>
    obtain ⟨v, σ', H', J, rv, q⟩ := hs
    exact fin J rv q
  | next =>
    obtain ⟨σ', H', J, q⟩ := hs
    exact fin (v := V.non) (u := Value.none) J rfl q
  | brk =>
    obtain ⟨_, _, _, q⟩ := hs
    exact False.elim q
  | cont =>
    obtain ⟨_, _, _, q⟩ := hs
    exact False.elim q
end L2
namespace L2
open PySem PySem.Spec PyProof.Rows
section
variable {X : Cx} {x : Str} {p pos : Pos} {e : Expr} {es : List Expr} {t : TA} {id T : String} {r : List V → Hp → VK → Prop}
def tCB (r : List V → Hp → VK → Prop) (t : TA) : TE := fun σ H Q => t σ H fun vs H1 => r vs H1 Q
theorem pe_callB (hc : CallR X (.builtin id) r) (hg : Gl X x) (hm : X.mg x = none) (hv : bootBuiltins x = some (.builtin id)) (ha : PA X (e :: es) t) (hn : x ≠ "__name__" := by decide) (hdb : (x == ("__debug__" : Str)) = false := by decide)
    (he : starEach (e :: es) X.env = (false, eval e X.env) :: starEach es X.env := by rfl) (hpl : (backTo pos (starEach es X.env)).any (·.1) = false := by rfl) : PE X (.Call (.Name x p) (e :: es) [] pos) (tCB r t) := by
  intro pins s σ H Q I h
  refine wpAny_Call_Name_kw (ld_blt I hg hm hv ?_ hn hdb)
  exact PyProof.Rows.callWith_builtin1 (thn (ha pos pins s σ H _ I h) fun us s1 ⟨vs, H1, I1, r1, q1⟩ => hc pins s1 σ H1 vs us Q I1 r1 q1) he hpl
theorem pe_callTy (hc : CallR X (.type T) r) (hg : Gl X x) (hm : X.mg x = none) (hv : bootBuiltins x = some (.type T)) (ha : PA X (e :: es) t) (hn : x ≠ "__name__" := by decide) (hdb : (x == ("__debug__" : Str)) = false := by decide)
    (he : starEach (e :: es) X.env = (false, eval e X.env) :: starEach es X.env := by rfl) (hpl : (backTo pos (starEach es X.env)).any (·.1) = false := by rfl) : PE X (.Call (.Name x p) (e :: es) [] pos) (tCB r t) := by
  intro pins s σ H Q I h
  refine wpAny_Call_Name_kw (ld_blt I hg hm hv ?_ hn hdb)
  exact PyProof.Rows.callWith_type1 (thn (ha pos pins s σ H _ I h) fun us s1 ⟨vs, H1, I1, r1, q1⟩ => hc pins s1 σ H1 vs us Q I1 r1 q1) he hpl
end
end L2
namespace HT
open PySem PyProof.Rows
section
open PySem.SeqAt
open PySem.AutoSeq1 (wpAny_loadPart')
open PySem.MeetsSeq PySem.MeetsSeq2 PySem.MeetsSeq3
end
section
variable {prog : Program} {w : World} {A : Around} {E : Value → Shared → Prop} {s : Shared}
theorem cat_tup {t b : Addr} {vs ws : List Value} {Q : Value → Shared → Prop} (ht : IsTup s.heap t vs.toArray) (hb : IsTup s.heap b ws.toArray) (hv : vs ≠ [])
    (h1 : ws = [] → Q (.ref t) s) (h2 : ws ≠ [] → Q (.ref s.heap.objs.size) { s with heap := s.heap.push { cls := .type "tuple", data := .seq (vs ++ ws).toArray } })
    (hsz : vs.length + ws.length ≤ sizeLine) : wpAny (model prog w) A (binaryOp .Add (.ref t) (.ref b)) Q E s := by
  obtain ⟨⟨cls, dd, data, sl⟩, ho, hc, n, hd⟩ := id ht
  obtain ⟨⟨cls2, dd2, data2, sl2⟩, ho2, hc2, n2, hd2⟩ := id hb
  simp only at hc hd hc2 hd2
  subst hc hd hc2 hd2
  have e : vs.toArray ++ ws.toArray = (vs ++ ws).toArray := by simp
  by_cases hw : ws = []
  · exact concat_meets ⟨_, ho, rfl⟩ ⟨_, ho2, rfl⟩ noFill_tuple_add seq_tuple_add PySem.F.slot_tuple_add PySem.F.entry_tuple_add (PySem.F.args_tuple_add_2 _ _)
      (tuple_addW1 t b vs.toArray ws.toArray n n2 dd dd2 sl sl2 (by simpa using hv) (by simp [hw])) ⟨ho, ho2, h1 hw⟩
  · refine concat_meets ⟨_, ho, rfl⟩ ⟨_, ho2, rfl⟩ noFill_tuple_add seq_tuple_add PySem.F.slot_tuple_add PySem.F.entry_tuple_add (PySem.F.args_tuple_add_2 _ _)
      (tuple_addW2 t b vs.toArray ws.toArray n n2 dd dd2 sl sl2 (by simpa using hv) (by simpa using hw) (by rw [List.size_toArray, List.size_toArray]; exact hsz)) ⟨ho, ho2, ?_⟩
    rw [e]
    exact h2 hw
def sIx (n d : Nat) : Option Int → Nat
  | none => d
  | some v => if v < 0 then (v + (n : Int)).toNat else min v.toNat n
theorem sIx_none (n d : Nat) : sIx n d none = d := rfl
theorem sIx_le (n d : Nat) (hd : d ≤ n) (o : Option Int) : sIx n d o ≤ n := by
  cases o with
  | none => exact hd
  | some v =>
    show (if v < 0 then (v + (n : Int)).toNat else min v.toNat n) ≤ n
    by_cases hv : v < 0
    · rw [if_pos hv]; omega
    · rw [if_neg hv]; exact Nat.min_le_right _ _
theorem clip_eq (v : Int) (n d : Nat) : (if v < 0 then max (v + (n : Int)) 0 else min v (n : Int)) = ((sIx n d (some v) : Nat) : Int) := by
  show (if v < 0 then max (v + (n : Int)) 0 else min v (n : Int)) = (((if v < 0 then (v + (n : Int)).toNat else min v.toNat n) : Nat) : Int)
  by_cases hv : v < 0
  · simp only [if_pos hv]; omega
  · simp only [if_neg hv]; omega
theorem adjust_gen (lo hi : Option Int) (n : Nat) : Builtin.Slice.sliceAdjust lo hi 1 (n : Int) = (((sIx n 0 lo : Nat) : Int), ((sIx n n hi : Nat) : Int)) := by
  have h1 : ¬ ((1 : Int) < 0) := by omega
  unfold Builtin.Slice.sliceAdjust
  simp only [h1, if_false]
  refine Prod.ext ?_ ?_
  · cases lo with
    | none => rfl
    | some v => exact clip_eq v n 0
  · cases hi with
    | none => rfl
    | some v => exact clip_eq v n n
theorem places_gen (i j : Nat) : Builtin.Slice.slicePlaces (i : Int) (j : Int) 1 = j - i := by
  unfold Builtin.Slice.slicePlaces
  have h1 : (1 : Int) > 0 := by omega
  simp only [h1, if_true, Int.ediv_one]
  split <;> omega
theorem slicePart_ {v : Value} {o : Option Int} {Q : Option Int → Shared → Prop} (p : IsPart v o) (h : Q o s) : wpAny (model prog w) A (Builtin.Slice.slicePartIndex v) Q E s := by
  cases p with
  | none => exact slicePart_none h
  | int i t => exact slicePart_int h
theorem sliceApplied_gen {sl : Addr} {vl vu : Value} {lo hi : Option Int} {n : Nat} {Q : Int × Int × Nat → Shared → Prop} (hs : s.heap.IsSliceOf sl vl vu .none) (pl : IsPart vl lo) (pu : IsPart vu hi)
    (h : Q (((sIx n 0 lo : Nat) : Int), 1, sIx n n hi - sIx n 0 lo) s) : wpAny (model prog w) A (Builtin.Slice.sliceApplied (.ref sl) (pure (n : Int))) Q E s := by
  obtain ⟨os, hos, hcs, hds⟩ := id hs
  unfold Builtin.Slice.sliceApplied Builtin.Slice.sliceFields
  refine wpAny_bind (wpAny_bind (wpAny_field hos hds (x := vl) rfl (wpAny_bind (wpAny_field hos hds (x := vu) rfl (wpAny_bind (wpAny_field hos hds (x := .none) rfl (wpAny_pure ?_)))))))
  refine wpAny_bind (slicePart_none ?_)
  show wpAny _ _ (if ((1 : Int) == 0) = true then _ else _) _ _ s
  rw [if_neg (by decide)]
  refine wpAny_bind (slicePart_ pl (wpAny_bind (slicePart_ pu (wpAny_bind (wpAny_pure ?_)))))
  show wpAny _ _ (match Builtin.Slice.sliceAdjust lo hi 1 (n : Int) with | (lo, hi) => pure (lo, (1 : Int), Builtin.Slice.slicePlaces lo hi 1)) _ _ s
  rw [adjust_gen lo hi n]
  show wpAny _ _ (pure (((sIx n 0 lo : Nat) : Int), (1 : Int), Builtin.Slice.slicePlaces ((sIx n 0 lo : Nat) : Int) ((sIx n n hi : Nat) : Int) 1)) _ _ s
  rw [places_gen]
  exact wpAny_pure h
theorem pick_gen (xs : Array Value) (i k : Nat) : ((List.range k).filterMap fun (m : Nat) => xs[((i : Int) + (m : Int) * 1).toNat]?).toArray = ((xs.toList.drop i).take k).toArray := by
  have e : (fun (m : Nat) => xs[((i : Int) + (m : Int) * 1).toNat]?) = fun m => xs[i + m]? := by
    funext m
    have : ((i : Int) + (m : Int) * 1).toNat = i + m := by omega
    rw [this]
  rw [e]
  have := pick_run xs i k
  rw [List.filterMap_map] at this
  have e2 : ((fun x => xs[x]?) ∘ fun x => i + x) = fun m => xs[i + m]? := rfl
  rw [e2] at this
  rw [this]
theorem getItem_tuple_cut {t sl : Addr} {items : Array Value} {vl vu : Value} {lo hi : Option Int} {Q : Value → Shared → Prop} (ht : IsTup s.heap t items) (hs : s.heap.IsSliceOf sl vl vu .none) (pl : IsPart vl lo) (pu : IsPart vu hi)
    (hw : ¬ (sIx items.size 0 lo = 0 ∧ sIx items.size items.size hi = items.size))
    (h : Q (.ref s.heap.objs.size) { s with heap := s.heap.push { cls := .type "tuple", data := .seq ((items.toList.drop (sIx items.size 0 lo)).take (sIx items.size items.size hi - sIx items.size 0 lo)).toArray } })
    (hsz : items.size ≤ sizeLine) : wpAny (model prog w) A (getItem (.ref t) (.ref sl)) Q E s := by
  have htake : sizeOk (.seq ((items.toList.drop (sIx items.size 0 lo)).take (sIx items.size items.size hi - sIx items.size 0 lo)).toArray) := by
    show ((items.toList.drop (sIx items.size 0 lo)).take (sIx items.size items.size hi - sIx items.size 0 lo)).toArray.size ≤ sizeLine
    rw [List.size_toArray, List.length_take, List.length_drop, Array.length_toList]
    omega
  have hj : sIx items.size items.size hi ≤ items.size := sIx_le _ _ (Nat.le_refl _) hi
  obtain ⟨os, hos, hcs, hds⟩ := id hs
  have hTs : s.TypeIs (.ref sl) "slice" := ⟨os, hos, hcs⟩
  unfold getItem
  try with_reducible refine wpAny_holding ?_
  first | refine wpAny_bind (wpAny_pure ?_) | skip
  refine wpAny_bind (wpAny_sequenceKey ht.typeIs (by decide) ?_)
  refine wpAny_bind (wpAny_callSpecial?_slot (name := Str.ofString "__getitem__") ht.typeIs PyProof.Rows.slot_tuple_getitem
    (wpAny_call_entry PyProof.Rows.slot_tuple_getitem ht.typeIs entry_tuple_getitem ?_ (args_tuple_getitem _ _)))
  show wpAny _ _ (Builtin.Tuple.tupleItemsOf (.ref t) >>= _) _ _ s
  refine wpAny_bind (tupleItemsOf_ ht ?_)
  refine wpAny_bind (wpAny_typeOf hTs ?_)
  rw [if_pos (by decide)]
  refine wpAny_bind (sliceApplied_gen hs pl pu ?_)
  have hno : ¬ ((((sIx items.size 0 lo : Nat) : Int) == 0 && (1 : Int) == 1 && (sIx items.size items.size hi - sIx items.size 0 lo) == items.size) = true) := by
    intro q
    rw [Bool.and_eq_true, Bool.and_eq_true] at q
    have q1 : ((sIx items.size 0 lo : Nat) : Int) = 0 := eq_of_beq q.1.1
    have q2 : sIx items.size items.size hi - sIx items.size 0 lo = items.size := eq_of_beq q.2
    exact hw ⟨by omega, by omega⟩
  show wpAny _ _ (if (((sIx items.size 0 lo : Nat) : Int) == 0 && (1 : Int) == 1 && (sIx items.size items.size hi - sIx items.size 0 lo) == items.size) = true then _ else _) _ _ s
  rw [if_neg hno, pick_gen]
  first
    | exact wpAny_bind (m := Builtin.Tuple.tupleExact _) (wpAny_newObj_type (wpAny_pure ⟨_, rfl, wpAny_pure h⟩) htake)
    | exact wpAny_bind (m := Builtin.Tuple.tupleExact _) (wpAny_newObj_type (wpAny_bind (wpAny_pure (wpAny_pure ⟨_, rfl, wpAny_pure h⟩))) htake)
    | exact wpAny_bind (wpAny_bind (m := Builtin.Tuple.tupleExact _) (wpAny_newObj_type (wpAny_pure (wpAny_pure ⟨_, rfl, wpAny_pure h⟩)) htake))
    | exact wpAny_bind (wpAny_bind (m := Builtin.Tuple.tupleExact _) (wpAny_newObj_type (wpAny_pure ⟨_, rfl, wpAny_pure h⟩) htake))
end
end HT
namespace L2
open PySem PySem.Spec PyProof.Rows
abbrev TO := St → Hp → (Option Int → Hp → Prop) → Prop
def PO (X : Cx) (e : Option Expr) (t : TO) : Prop :=
  ∀ (pins : List (Addr × Obj)) (s : Shared) (σ : St) (H : Hp) (Q : Option Int → Hp → Prop), Inv X pins σ H s → t σ H Q →
    wpAny (model X.prog X.w) X.A (evalPart e X.env) (fun u s' => ∃ o H', Inv X pins σ H' s' ∧ IsPart u o ∧ Q o H') X.xe s
def tNoPart : TO := fun _ H Q => Q none H
def tPart (t : TE) : TO := fun σ H Q => t σ H fun x H1 => ∃ i, x = .int i ∧ Q (some i) H1
section
variable {X : Cx} {e : Expr} {te : TE} {lo hi : Option Expr} {tl th : TO} {pos p2 : Pos}
theorem po_none : PO X none tNoPart := by
  intro pins s σ H Q I h
  rw [evalPart_none]
  exact wpAny_pure ⟨none, H, I, .none, h⟩
theorem po_some (h : PE X e te) : PO X (some e) (tPart te) := by
  intro pins s σ H Q I hw
  rw [evalPart_some]
  refine thn (h pins s σ H _ I hw) fun u s1 ⟨x, H1, I1, r1, q1⟩ => ?_
  obtain ⟨i, rfl, q⟩ := q1
  obtain ⟨t, rfl⟩ := r1
  exact ⟨some i, H1, I1, .int i t, q⟩
def SlR (X : Cx) (r : V → Option Int → Option Int → Hp → VK → Prop) : Prop :=
  ∀ (pins : List (Addr × Obj)) (s : Shared) (σ : St) (H : Hp) (x : V) (v vl vu : Value) (lo hi : Option Int) (sl : Addr) (Q : VK), Inv X pins σ H s → RelV x v → s.heap.IsSliceOf sl vl vu .none → IsPart vl lo → IsPart vu hi → r x lo hi H Q →
    ∃ T id, typeLookup (.type T) "__getitem__" = pure (some (.builtin id)) ∧ s.TypeIs v T ∧ wpAny (model X.prog X.w) X.A (getItem v (.ref sl)) (EP X pins σ Q) X.xe s
def tSl (r : V → Option Int → Option Int → Hp → VK → Prop) (te : TE) (tl th : TO) : TE := fun σ H Q => te σ H fun x H1 => tl σ H1 fun l H2 => th σ H2 fun u H3 => r x l u H3 Q
theorem pe_slice {r : V → Option Int → Option Int → Hp → VK → Prop} (hr : SlR X r) (he : PE X e te) (hl : PO X lo tl) (hu : PO X hi th) : PE X (.Subscript e (.Slice lo hi none p2) pos) (tSl r te tl th) := by
  intro pins s σ H Q I h
  refine Subscript_ (thn (he pins s σ H _ I h) fun v s1 ⟨x, H1, I1, r1, q1⟩ => ?_)
  refine wpAny_Slice (thn (hl pins s1 σ H1 _ I1 q1) fun vl s2 ⟨l, H2, I2, pl, q2⟩ => thn (hu pins s2 σ H2 _ I2 q2) fun vu s3 ⟨u, H3, I3, pu, q3⟩ => ?_)
  rw [evalPart_none]
  refine wpAny_pure ?_
  have I4 : Inv X pins σ H3 { s3 with heap := s3.heap.push { cls := .type "slice", data := .fields #[vl, vu, .none] } } := I3.kept (t' := s3.toks) fun b ob q => Heap.get?_push_of_some _ q
  obtain ⟨T, id, hT, ht, hg⟩ := hr pins { s3 with heap := s3.heap.push { cls := .type "slice", data := .fields #[vl, vu, .none] } } σ H3 x v vl vu l u s3.heap.objs.size Q I4 r1 (Heap.IsSliceOf.new ..) pl pu q3
  show wpAny (model X.prog X.w) X.A (subscriptTail e (.Slice lo hi none p2) v (.ref s3.heap.objs.size)) (EP X pins σ Q) X.xe { s3 with heap := s3.heap.push { cls := .type "slice", data := .fields #[vl, vu, .none] } }
  exact tail_any (ops := [.ref s3.heap.objs.size, v]) ht hT hg (by with_unfolding_all rfl)
def cutV (xs : List V) (lo hi : Option Int) : List V := (xs.drop (HT.sIx xs.length 0 lo)).take (HT.sIx xs.length xs.length hi - HT.sIx xs.length 0 lo)
theorem cutV_length (xs : List V) (lo hi : Option Int) : (cutV xs lo hi).length ≤ xs.length := by
  unfold cutV
  rw [List.length_take, List.length_drop]
  omega
def rSlT (K : PySem.W.Frag) : V → Option Int → Option Int → Hp → VK → Prop := fun x lo hi H Q => ∃ a xs, x = .ref a ∧ SqT K H a xs ∧
  ¬ (HT.sIx xs.length 0 lo = 0 ∧ HT.sIx xs.length xs.length hi = xs.length) ∧ ∀ p, H p = none → Q (.ref p) (upd H p (.tup (cutV xs lo hi)))
theorem sl_tup : SlR X (rSlT X.K) := by
  intro pins s σ H x v vl vu lo hi sl Q I rx hs pl pu h
  obtain ⟨a, xs, rfl, hx, hw, q⟩ := h
  cases rx
  obtain ⟨its, r, ht, hz⟩ := I.tuple hx
  have hlen : its.toArray.size = xs.length := by rw [List.size_toArray]; exact r.length.symm
  refine ⟨"tuple", _, PyProof.Rows.slot_tuple_getitem.lookup, ht.typeIs, ?_⟩
  refine HT.getItem_tuple_cut ht hs pl pu (by rw [hlen]; exact hw) ?_ (by rw [hlen]; exact hz)
  rw [hlen]
  refine ⟨.ref s.heap.objs.size, _, I.laid (t' := s.toks) (o := .tup (cutV xs lo hi)) (fun b ob q => Heap.get?_push_of_some _ q) (Nat.le_refl _) ?_, rfl, q _ (I.hok.fresh (Nat.le_refl _))⟩
  exact ⟨Nat.le_trans (cutV_length xs lo hi) hz, _, (r.drop (HT.sIx xs.length 0 lo)).take (HT.sIx xs.length xs.length hi - HT.sIx xs.length 0 lo), IsTup.new _ _⟩
def rCatT (K : PySem.W.Frag) : R2 := fun x y H Q => ∃ a b xs ys, x = .ref a ∧ y = .ref b ∧ SqT K H a xs ∧ SqT K H b ys ∧ xs ≠ [] ∧ xs.length + ys.length ≤ sizeLine ∧
  (ys = [] → Q (.ref a) H) ∧ (ys ≠ [] → ∀ p, H p = none → Q (.ref p) (upd H p (.tup (xs ++ ys))))
theorem Vals.nil_iff {xs : List V} {us : List Value} (r : Vals xs us) : us = [] ↔ xs = [] := by
  cases r with
  | nil => simp
  | cons _ _ => simp
theorem op_catT : OpR X (binaryOp .Add) (rCatT X.K) := by
  intro pins s σ H x y v u Q I rx ry h
  obtain ⟨a, b, xs, ys, rfl, rfl, ha, hb, hx, hz, q1, q2⟩ := h
  cases rx
  cases ry
  obtain ⟨its, r1, p1, _⟩ := I.tuple ha
  obtain ⟨its2, r2, p2, _⟩ := I.tuple hb
  refine HT.cat_tup p1 p2 (fun z => hx (r1.nil_iff.mp z)) (fun z => ⟨.ref a, H, I, rfl, q1 (r2.nil_iff.mp z)⟩) (fun z => ?_) (by rw [← r1.length, ← r2.length]; exact hz)
  refine ⟨.ref s.heap.objs.size, _, I.laid (t' := s.toks) (o := .tup (xs ++ ys)) (fun b ob q => Heap.get?_push_of_some _ q) (Nat.le_refl _) ?_, rfl, q2 (fun w => z (r2.nil_iff.mpr w)) _ (I.hok.fresh (Nat.le_refl _))⟩
  exact ⟨by rw [List.length_append]; exact hz, _, r1.append r2, IsTup.new _ _⟩
end
end L2
namespace L2
open PySem PySem.Spec PyProof.Rows
def ixN (n : Nat) (i : Int) : Option Nat := if 0 ≤ i then (if i < n then some i.toNat else none) else if -(n : Int) ≤ i then some (i + n).toNat else none
def atI {α : Type} (xs : List α) (i : Int) : Option α := (ixN xs.length i).bind fun j => xs[j]?
theorem ixN_seq {n : Nat} {i : Int} {j : Nat} (h : ixN n i = some j) : seqIndex? i n = some j ∧ j < n ∧ -(n : Int) ≤ i ∧ i < n := by
  unfold ixN at h
  by_cases h0 : 0 ≤ i
  · rw [if_pos h0] at h
    by_cases h1 : i < n
    · rw [if_pos h1] at h
      have e : i.toNat = j := Option.some.inj h
      exact ⟨by rw [seqIndex_of h0 h1, e], by omega, by omega, h1⟩
    · rw [if_neg h1] at h; cases h
  · rw [if_neg h0] at h
    by_cases h1 : -(n : Int) ≤ i
    · rw [if_pos h1] at h
      have e : (i + n).toNat = j := Option.some.inj h
      exact ⟨by rw [seqIndex_neg (by omega) h1, e], by omega, h1, by omega⟩
    · rw [if_neg h1] at h; cases h
theorem atI_get {α : Type} {xs : List α} {i : Int} {v : α} (h : atI xs i = some v) : ∃ j, seqIndex? i xs.length = some j ∧ xs[j]? = some v ∧ j < xs.length ∧ -(xs.length : Int) ≤ i ∧ i < xs.length := by
  unfold atI at h
  cases e : ixN xs.length i with
  | none => rw [e] at h; cases h
  | some j =>
    rw [e] at h
    obtain ⟨h1, h2, h3, h4⟩ := ixN_seq e
    exact ⟨j, h1, h, h2, h3, h4⟩
theorem atI_nat {α : Type} {xs : List α} {j : Nat} {v : α} (h : xs[j]? = some v) : atI xs (j : Int) = some v := by
  have hj : j < xs.length := (List.getElem?_eq_some_iff.mp h).1
  have e : ixN xs.length (j : Int) = some j := by
    unfold ixN
    rw [if_pos (by omega), if_pos (by omega)]; simp
  unfold atI; rw [e]; exact h
theorem atI_last {α : Type} (xs : List α) (v : α) : atI (xs ++ [v]) (-1) = some v := by
  have hl : (xs ++ [v]).length = xs.length + 1 := by simp
  have e : ixN (xs ++ [v]).length (-1) = some xs.length := by
    unfold ixN
    rw [hl, if_neg (by decide), if_pos (by omega)]
    congr 1
    omega
  unfold atI
  rw [e]
  show (xs ++ [v])[xs.length]? = some v
  simp
def PlainIx (b : Expr) : Prop := ∀ o i, subscripted b false o i = operate [o, i] (getItem o i)
def IxR (X : Cx) (r : R2) : Prop :=
  ∀ (value slice : Expr) (pins : List (Addr × Obj)) (s : Shared) (σ : St) (H : Hp) (x y : V) (v u : Value) (Q : VK), Inv X pins σ H s → RelV x v → RelV y u → r x y H Q →
    subscripted slice false v u = operate [v, u] (getItem v u) → wpAny (model X.prog X.w) X.A (subscriptTail value slice v u) (EP X pins σ Q) X.xe s
def MtR (X : Cx) (id : String) (r : V → List V → Hp → VK → Prop) : Prop :=
  ∀ (pins : List (Addr × Obj)) (s : Shared) (σ : St) (H : Hp) (x : V) (xs : List V) (v : Value) (us : List Value) (Q : VK), Inv X pins σ H s → RelV x v → Vals xs us → r x xs H Q →
    wpAny (model X.prog X.w) X.A (call (.builtin id) (v :: us)) (EP X pins σ Q) X.xe s
section
variable {X : Cx} {a b : Expr} {ta tb : TE} {pos : Pos}
theorem pe_ix {r : R2} (hr : IxR X r) (ha : PE X a ta) (hb : PE X b tb) (hs : PlainIx b) : PE X (.Subscript a b pos) (tOp r ta tb) := by
  intro pins s σ H Q I h
  exact Subscript_ (binT ha hb I h fun v u s2 x y H2 I2 rx ry q => hr a b pins s2 σ H2 x y v u Q I2 rx ry q (hs _ _))
def rIxL (K : PySem.W.Frag) : R2 := fun x y H Q => ∃ p xs i v, x = .ref p ∧ y = .int i ∧ SqL K H p xs ∧ atI xs i = some v ∧ Q v H
def rIxT (K : PySem.W.Frag) : R2 := fun x y H Q => ∃ p xs i v, x = .ref p ∧ y = .int i ∧ SqT K H p xs ∧ atI xs i = some v ∧ Q v H
theorem ix_list : IxR X (rIxL X.K) := by
  intro value slice pins s σ H x y v u Q I rx ry h hs
  obtain ⟨p, xs, i, z, rfl, rfl, hq, he, q⟩ := h
  cases rx
  obtain ⟨t, rfl⟩ := ry
  obtain ⟨its, r, pl, hz⟩ := I.list hq
  obtain ⟨j, h1, h2, h3, h4, h5⟩ := atI_get he
  obtain ⟨w, ew, rw'⟩ := r.get h2
  have hl := r.length
  have hn := line63
  have fin : EP X pins σ Q w s := ⟨z, H, I, rw', q⟩
  by_cases h0 : 0 ≤ i
  · have hj : i.toNat = j := by
      rw [seqIndex_of h0 h5] at h1
      exact Option.some.inj h1
    exact item_listR pl.isList h0 (by omega) (by rw [hj]; simpa using ew) fin hs
  · have hj : (i + (its.toArray.size : Int)).toNat = j := by
      rw [seqIndex_neg (by omega) h4] at h1
      rw [List.size_toArray, ← hl]
      exact Option.some.inj h1
    exact subscriptTail_builtinR (x := w) pl.isList.typeIs slot_list_getitem.lookup
      (wpAny_getItem_list_neg (Q := fun r s' => r = w ∧ EP X pins σ Q r s') pl.isList (by omega) (by rw [List.size_toArray] <;> omega) (by omega) (by rw [hj]; simpa using ew) ⟨rfl, fin⟩) hs
theorem ix_tup : IxR X (rIxT X.K) := by
  intro value slice pins s σ H x y v u Q I rx ry h hs
  obtain ⟨p, xs, i, z, rfl, rfl, hq, he, q⟩ := h
  cases rx
  obtain ⟨t, rfl⟩ := ry
  obtain ⟨its, r, pl, hz⟩ := I.tuple hq
  obtain ⟨j, h1, h2, h3, h4, h5⟩ := atI_get he
  obtain ⟨w, ew, rw'⟩ := r.get h2
  have hl := r.length
  have hn := line63
  have fin : EP X pins σ Q w s := ⟨z, H, I, rw', q⟩
  exact subscriptTail_builtinR (x := w) pl.typeIs slot_tuple_getitem.lookup
    (getItem_tuple (j := j) (Q := fun r s' => r = w ∧ EP X pins σ Q r s') pl (by omega) (by omega) (by rw [List.size_toArray, ← hl]; exact h1) (by simpa using ew) ⟨rfl, fin⟩) hs
theorem slice_bounds (lo hi : Option Int) (n : Nat) : (sliceBounds lo hi none n).1 = ((HT.sIx n 0 lo : Nat) : Int) ∧ (sliceBounds lo hi none n).2.1 = ((HT.sIx n n hi : Nat) : Int) ∧ (sliceBounds lo hi none n).2.2 = 1 := by
  refine ⟨?_, ?_, rfl⟩
  · cases lo with
    | none => simp [sliceBounds, HT.sIx]
    | some i =>
      simp only [sliceBounds, HT.sIx, Option.getD_none, show (1 : Int) > 0 by decide, if_true]
      by_cases h : i < 0
      · simp only [h, if_true] <;> omega
      · simp only [h, if_false] <;> omega
  · cases hi with
    | none => simp [sliceBounds, HT.sIx]
    | some i =>
      simp only [sliceBounds, HT.sIx, Option.getD_none, show (1 : Int) > 0 by decide, if_true]
      by_cases h : i < 0
      · simp only [h, if_true] <;> omega
      · simp only [h, if_false] <;> omega
theorem slicePick_cut (its : List Value) (lo hi : Option Int) : slicePick its.toArray lo hi none = ((its.drop (HT.sIx its.length 0 lo)).take (HT.sIx its.length its.length hi - HT.sIx its.length 0 lo)).toArray := by
  obtain ⟨h1, h2, h3⟩ := slice_bounds lo hi its.toArray.size
  unfold slicePick
  rw [h1, h2, h3]
  simp only [sliceRange_one, pick_run, List.size_toArray] <;> rfl
def rSlL (K : PySem.W.Frag) : V → Option Int → Option Int → Hp → VK → Prop := fun x lo hi H Q => ∃ a xs, x = .ref a ∧ SqL K H a xs ∧ ∀ p, H p = none → Q (.ref p) (upd H p (.lst (cutV xs lo hi)))
theorem sl_list : SlR X (rSlL X.K) := by
  intro pins s σ H x v vl vu lo hi sl Q I rx hs pl pu h
  obtain ⟨a, xs, rfl, hx, q⟩ := h
  cases rx
  obtain ⟨its, r, ht, hz⟩ := I.list hx
  have hlen := r.length
  refine ⟨"list", _, slot_list_getitem.lookup, ht.isList.typeIs, ?_⟩
  refine wpAny_getItem_list_slice ht.isList hs pl pu .none (by simp) ?_ (by rw [List.size_toArray] <;> omega)
  rw [slicePick_cut, ← hlen]
  refine ⟨.ref s.heap.objs.size, _, I.laid (t' := s.toks) (o := .lst (cutV xs lo hi)) (fun b ob q => Heap.get?_push_of_some _ q) (Nat.le_refl _) ?_, rfl, q _ (I.hok.fresh (Nat.le_refl _))⟩
  exact ⟨Nat.le_trans (cutV_length xs lo hi) hz, _, 0, (r.drop (HT.sIx xs.length 0 lo)).take (HT.sIx xs.length xs.length hi - HT.sIx xs.length 0 lo), Heap.get?_push_size _ rfl⟩
def flatV : V → Bool
  | .non => true
  | .bl _ => true
  | .int _ => true
  | .str _ => true
  | _ => false
def eqV : V → V → Bool
  | .non, .non => true
  | .bl a, .bl b => a == b
  | .bl a, .int b => (if a then 1 else 0) == b
  | .int a, .bl b => a == (if b then 1 else 0)
  | .int a, .int b => a == b
  | .str a, .str b => a == b
  | _, _ => false
theorem eqAt_V {A : Around} {s : Shared} {y x : V} {u v : Value} (ry : RelV y u) (rx : RelV x v) (fy : flatV y = true) (fx : flatV x = true) : SeqAt.EqAt A s u v (eqV y x) := by
  cases y with
  | non =>
    cases ry
    cases x with
    | non => cases rx; exact SeqAt.EqAt.same _
    | bl b => cases rx; exact SeqAt.EqAt.none_bool b
    | int b => obtain ⟨t, rfl⟩ := rx; exact SeqAt.EqAt.none_int b t
    | str b => obtain ⟨t, rfl⟩ := rx; exact SeqAt.EqAt.none_str b t
    | _ => exact absurd (show false = true from fx) Bool.false_ne_true
  | bl a =>
    cases ry
    cases x with
    | non => cases rx; exact SeqAt.EqAt.bool_none a
    | bl b => cases rx; exact SeqAt.EqAt.bool_bool a b
    | int b => obtain ⟨t, rfl⟩ := rx; exact SeqAt.EqAt.bool_int a b t
    | str b => obtain ⟨t, rfl⟩ := rx; exact SeqAt.EqAt.bool_str a b t
    | _ => exact absurd (show false = true from fx) Bool.false_ne_true
  | int a =>
    obtain ⟨t', rfl⟩ := ry
    cases x with
    | non => cases rx; exact SeqAt.EqAt.int_none a t'
    | bl b => cases rx; exact SeqAt.EqAt.int_bool a t' b
    | int b => obtain ⟨t, rfl⟩ := rx; exact SeqAt.EqAt.int_int a t' b t
    | str b => obtain ⟨t, rfl⟩ := rx; exact SeqAt.EqAt.int_str a t' b t
    | _ => exact absurd (show false = true from fx) Bool.false_ne_true
  | str a =>
    obtain ⟨t', rfl⟩ := ry
    cases x with
    | non => cases rx; exact SeqAt.EqAt.str_none a t'
    | bl b => cases rx; exact SeqAt.EqAt.str_bool a t' b
    | int b => obtain ⟨t, rfl⟩ := rx; exact SeqAt.EqAt.str_int a t' b t
    | str b => obtain ⟨t, rfl⟩ := rx; exact SeqAt.EqAt.str_str a t' b t
    | _ => exact absurd (show false = true from fx) Bool.false_ne_true
  | _ => exact absurd (show false = true from fy) Bool.false_ne_true
def eqU (x : V) (u : Value) : Bool := match u with
  | .none => eqV .non x
  | .bool b => eqV (.bl b) x
  | .int i _ => eqV (.int i) x
  | .str z _ => eqV (.str z) x
  | _ => false
theorem eqU_of {x y : V} {u : Value} (r : RelV y u) (f : flatV y = true) : eqU x u = eqV y x := by
  cases y with
  | non => cases r; rfl
  | bl b => cases r; rfl
  | int i => obtain ⟨t, rfl⟩ := r; rfl
  | str z => obtain ⟨t, rfl⟩ := r; rfl
  | _ => exact absurd (show false = true from f) Bool.false_ne_true
theorem any_eqU {x : V} : ∀ {xs : List V} {us : List Value}, Vals xs us → xs.all flatV = true → us.any (eqU x) = xs.any fun y => eqV y x
  | _, _, .nil, _ => rfl
  | y :: xs, u :: us, .cons r t, f => by
    rw [List.all_cons, Bool.and_eq_true] at f
    rw [List.any_cons, List.any_cons, eqU_of r f.1, any_eqU t f.2]
theorem mem_eqAt {A : Around} {s : Shared} {x : V} {v : Value} (rx : RelV x v) (fx : flatV x = true) : ∀ {xs : List V} {us : List Value}, Vals xs us → xs.all flatV = true → ∀ u ∈ us, SeqAt.EqAt A s u v (eqU x u)
  | _, _, .nil, _ => fun u hu => by cases hu
  | y :: xs, u :: us, .cons r t, f => fun u' hu => by
    rw [List.all_cons, Bool.and_eq_true] at f
    rcases List.mem_cons.mp hu with rfl | hu
    · rw [eqU_of r f.1]; exact eqAt_V r rx f.1 fx
    · exact mem_eqAt rx fx t f.2 u' hu
def inV (x : V) (xs : List V) : Bool := xs.any fun y => eqV y x
def rIn (K : PySem.W.Frag) (neg : Bool) : R2 := fun x y H Q => ∃ p xs, y = .ref p ∧ (SqL K H p xs ∨ SqT K H p xs) ∧ flatV x = true ∧ xs.all flatV = true ∧ Q (.bl (if neg then !inV x xs else inV x xs)) H
theorem op_in_seq : OpR X (compareOp .In) (rIn X.K false) := by
  intro pins s σ H x y v u Q I rx ry h
  obtain ⟨p, xs, rfl, hq, fx, fs, q⟩ := h
  cases ry
  rcases hq with hq | hq
  · obtain ⟨its, r, pl, hz⟩ := I.list hq
    refine SeqAt.in_listAt (eqU x) pl.isList (fun w hw => mem_eqAt rx fx r fs w (by simpa using hw)) ⟨.bl _, H, I, rfl, ?_⟩
    rw [show its.toArray.any (eqU x) = its.any (eqU x) by simp, any_eqU r fs]
    exact q
  · obtain ⟨its, r, pl, hz⟩ := I.tuple hq
    refine SeqAt.in_tupleAt (eqU x) pl (fun w hw => mem_eqAt rx fx r fs w (by simpa using hw)) ⟨.bl _, H, I, rfl, ?_⟩
    rw [show its.toArray.any (eqU x) = its.any (eqU x) by simp, any_eqU r fs]
    exact q
theorem op_notIn_seq : OpR X (compareOp .NotIn) (rIn X.K true) := by
  intro pins s σ H x y v u Q I rx ry h
  obtain ⟨p, xs, rfl, hq, fx, fs, q⟩ := h
  cases ry
  rcases hq with hq | hq
  · obtain ⟨its, r, pl, hz⟩ := I.list hq
    refine SeqAt.notIn_listAt (eqU x) pl.isList (fun w hw => mem_eqAt rx fx r fs w (by simpa using hw)) ⟨.bl _, H, I, rfl, ?_⟩
    rw [show its.toArray.any (eqU x) = its.any (eqU x) by simp, any_eqU r fs]
    exact q
  · obtain ⟨its, r, pl, hz⟩ := I.tuple hq
    refine SeqAt.notIn_tupleAt (eqU x) pl (fun w hw => mem_eqAt rx fx r fs w (by simpa using hw)) ⟨.bl _, H, I, rfl, ?_⟩
    rw [show its.toArray.any (eqU x) = its.any (eqU x) by simp, any_eqU r fs]
    exact q
theorem call_len_seq : CallR X (.builtin "len") (fun xs H Q => ∃ p ys, xs = [.ref p] ∧ (SqL X.K H p ys ∨ SqT X.K H p ys) ∧ Q (.int ys.length) H) := by
  intro pins s σ H xs us Q I r h
  obtain ⟨p, ys, rfl, hq, q⟩ := h
  obtain ⟨u, rfl, rx⟩ := vals1 r
  cases rx
  have hn := line63
  rcases hq with hq | hq
  · obtain ⟨its, r', pl, hz⟩ := I.list hq
    have hlen := r'.length
    exact Calls.call_len_list pl.isList (by simp only [List.size_toArray] <;> omega) ⟨.int ys.length, H, I.tok _, ⟨s.toks + 1, by rw [List.size_toArray, hlen]⟩, q⟩
  · obtain ⟨its, r', pl, hz⟩ := I.tuple hq
    have hlen := r'.length
    exact len_tuple pl (by simp only [List.size_toArray] <;> omega) ⟨.int ys.length, H, I.tok _, ⟨s.toks + 1, by rw [List.size_toArray, hlen]⟩, q⟩
theorem call_list_of : CallR X (.type "list") (fun xs H Q => ∃ p ys, xs = [.ref p] ∧ (SqL X.K H p ys ∨ SqT X.K H p ys) ∧ ∀ l, H l = none → Q (.ref l) (upd H l (.lst ys))) := by
  intro pins s σ H xs us Q I r h
  obtain ⟨p, ys, rfl, hq, q⟩ := h
  obtain ⟨u, rfl, rx⟩ := vals1 r
  cases rx
  have fin : ∀ (its : List Value), Vals ys its → ys.length ≤ sizeLine → ∀ (h' : Heap) (c' : Nat), (∀ b o', s.heap.get? b = some o' → h'.get? b = some o') →
      h'.get? s.heap.objs.size = some { cls := .type "list", dict := none, data := .seq its.toArray c', slots := #[] } → EP X pins σ Q (.ref s.heap.objs.size) { s with heap := h' } := fun its r' hz h' c' kp e =>
    ⟨.ref s.heap.objs.size, _, I.laid (t' := s.toks) kp (Nat.le_refl _) (show ObjOk X.prog X.w _ h' _ (.lst ys) from ⟨hz, its, c', r', e⟩), rfl, q _ (I.hok.fresh (Nat.le_refl _))⟩
  rcases hq with hq | hq
  · obtain ⟨its, r', pl, hz⟩ := I.list hq
    have hlen := r'.length
    obtain ⟨o, ho, hc, n, hd⟩ := pl.isList
    exact call_list_seq p (.inl rfl) ho hc hd (fun h' c' kp e => fin its r' hz h' c' kp e) (by simp only [List.size_toArray] <;> omega)
  · obtain ⟨its, r', pl, hz⟩ := I.tuple hq
    have hlen := r'.length
    obtain ⟨o, ho, hc, n, hd⟩ := pl
    exact call_list_seq p (.inr rfl) ho hc hd (fun h' c' kp e => fin its r' hz h' c' kp e) (by simp only [List.size_toArray] <;> omega)
theorem call_tuple_of : CallR X (.type "tuple") (fun xs H Q => ∃ p ys, xs = [.ref p] ∧ ((SqL X.K H p ys ∧ ∀ l, H l = none → Q (.ref l) (upd H l (.tup ys))) ∨ (SqT X.K H p ys ∧ Q (.ref p) H))) := by
  intro pins s σ H xs us Q I r h
  obtain ⟨p, ys, rfl, h⟩ := h
  obtain ⟨u, rfl, rx⟩ := vals1 r
  cases rx
  rcases h with ⟨hq, q⟩ | ⟨hq, q⟩
  · obtain ⟨its, r', pl, hz⟩ := I.list hq
    have hlen := r'.length
    refine call_tuple_list pl.isList (fun h' kp => ?_) (by simp only [List.size_toArray] <;> omega)
    have I1 : Inv X pins σ H { s with heap := h' } := I.kept (t' := s.toks) kp
    have I2 : Inv X pins σ (upd H h'.objs.size (.tup ys)) { s with heap := h'.push { cls := .type "tuple", data := .seq its.toArray } } :=
      I1.laid (t' := s.toks) (fun b o e => Heap.get?_push_of_some _ e) (Nat.le_refl _) (show ObjOk X.prog X.w _ _ _ (.tup ys) from ⟨hz, its, r', IsTup.new _ _⟩)
    exact ⟨.ref h'.objs.size, _, I2, rfl, q _ (I1.hok.fresh (Nat.le_refl _))⟩
  · obtain ⟨its, r', pl, hz⟩ := I.tuple hq
    exact call_tuple_same pl ⟨.ref p, H, I, rfl, q⟩
def tyV (K : PySem.W.Frag) (T : String) (x : V) (H : Hp) : Prop := match x with
  | .str _ => T = "str"
  | .int _ => T = "int"
  | .ref p => (T = "list" ∧ ∃ xs, SqL K H p xs) ∨ (T = "tuple" ∧ ∃ o, K.lookup p = some o ∧ o.cls = .type "tuple" ∧ o.dict = none) ∨
      (T = "dict" ∧ ((∃ kvs, H p = some (.dK kvs)) ∨ ∃ kvs, H p = some (.dT kvs))) ∨ (T = "set" ∧ ∃ S n, H p = some (.set S n))
  | _ => False
theorem tyV_is {pins : List (Addr × Obj)} {σ : St} {H : Hp} {s : Shared} {T : String} {x : V} {v : Value} (I : Inv X pins σ H s) (r : RelV x v) (ty : tyV X.K T x H) :
    s.TypeIs v T ∧ ∀ a, v = .ref a → ∃ ob, s.heap.get? a = some ob ∧ ob.dict = none := by
  cases x with
  | str z =>
    obtain ⟨t, rfl⟩ := r
    cases (show T = "str" from ty)
    exact ⟨typeIs_str s z t, fun _ e => nomatch e⟩
  | int i =>
    obtain ⟨t, rfl⟩ := r
    cases (show T = "int" from ty)
    exact ⟨typeIs_int s i t, fun _ e => nomatch e⟩
  | ref p =>
    cases r
    rcases ty with ⟨rfl, xs, hq⟩ | ⟨rfl, o, hk, hc, hd⟩ | ⟨rfl, hk⟩ | ⟨rfl, S, n, hk⟩
    · obtain ⟨its, _, pl, _⟩ := I.list hq
      refine ⟨pl.isList.typeIs, fun a e => ?_⟩
      cases e
      obtain ⟨o, n, e, c, hd, _⟩ := pl
      exact ⟨o, e, hd⟩
    · refine ⟨⟨o, I.kIn p o hk, hc⟩, fun a e => ?_⟩
      cases e
      exact ⟨o, I.kIn _ o hk, hd⟩
    · have z : ∃ o, s.heap.get? p = some o ∧ o.ExactDict := by
        rcases hk with ⟨kvs, hk⟩ | ⟨kvs, hk⟩
        · obtain ⟨_, _, _, _, o, _, _, e, ex, _⟩ := I.hok p _ hk
          exact ⟨o, e, ex⟩
        · obtain ⟨_, _, _, _, o, _, _, e, ex, _⟩ := I.hok p _ hk
          exact ⟨o, e, ex⟩
      obtain ⟨o, e, ex⟩ := z
      refine ⟨⟨o, e, ex.1⟩, fun a e2 => ?_⟩
      cases e2
      exact ⟨o, e, ex.2.1⟩
    · obtain ⟨o, _, _, _, e, ex, _⟩ := I.hok p _ hk
      refine ⟨⟨o, e, ex.1⟩, fun a e2 => ?_⟩
      cases e2
      exact ⟨o, e, ex.2.1⟩
  | _ => exact False.elim ty
def tBM0 (K : PySem.W.Frag) (T : String) (r : V → List V → Hp → VK → Prop) (to : TE) : TE := fun σ H Q => to σ H fun x H1 => tyV K T x H1 ∧ r x [] H1 Q
def tBM (K : PySem.W.Frag) (T : String) (r : V → List V → Hp → VK → Prop) (to : TE) (t : TA) : TE := fun σ H Q => to σ H fun x H1 => tyV K T x H1 ∧ t σ H1 fun xs H2 => r x xs H2 Q
variable {o e : Expr} {es : List Expr} {to : TE} {t : TA} {name : Str} {apos cpos : Pos} {T id : String} {r : V → List V → Hp → VK → Prop}
theorem pe_bm0 (pa : PlainAttrs T) (slot : Slot T name id) (hty : typeOf (.builtin id) = pure (.type "method_descriptor")) (hm : MtR X id r) (ho : PE X o to)
    (hbase : attributeBase o name X.env (eval o X.env) = eval o X.env := by rfl) (hline : (apos.endLine == cpos.line) = true := by rfl) : PE X (.Call (.Attribute o name apos) [] [] cpos) (tBM0 X.K T r to) := by
  intro pins s σ H Q I h
  refine wpAny_Call_method0_late hbase hline (thn (ho pins s σ H _ I h) fun v s1 ⟨x, H1, I1, r1, ty, q1⟩ => ?_)
  obtain ⟨h1, h2⟩ := tyV_is I1 r1 ty
  exact ⟨T, id, pa, slot, hty, h1, h2, Calls.callWith_builtin rfl (PySem.evalArgs_none (hm pins s1 σ H1 x [] v [] Q I1 r1 .nil q1))⟩
theorem pe_bm (pa : PlainAttrs T) (slot : Slot T name id) (hty : typeOf (.builtin id) = pure (.type "method_descriptor")) (hm : MtR X id r) (ho : PE X o to) (ha : PA X (e :: es) t)
    (hbase : attributeBase o name X.env (eval o X.env) = eval o X.env := by rfl)
    (hfew : ((backTo cpos (starEach (e :: es) X.env)).all (fun x => !x.1) && (backToKw cpos (keywordEach [] X.env)).all (fun x => x.1.isSome)
      && decide ((e :: es).length + ([] : List Keyword).length + (if ([] : List Keyword).isEmpty then 0 else 1) < 30)) = true := by rfl)
    (hline : (apos.endLine == cpos.line) = true := by rfl) (hs : starEach (e :: es) X.env = (false, eval e X.env) :: starEach es X.env := by rfl) (hplain : (backTo cpos (starEach es X.env)).any (·.1) = false := by rfl) :
    PE X (.Call (.Attribute o name apos) (e :: es) [] cpos) (tBM X.K T r to t) := by
  intro pins s σ H Q I h
  refine wpAny_Call_method_late hbase hfew hline rfl (thn (ho pins s σ H _ I h) fun v s1 ⟨x, H1, I1, r1, ty, q1⟩ => ?_)
  obtain ⟨h1, h2⟩ := tyV_is I1 r1 ty
  refine ⟨T, id, pa, slot, hty, h1, h2, ?_⟩
  have hA := ha cpos pins s1 σ H1 _ I1 q1
  rw [hs] at hA ⊢
  refine Calls.callWith_builtin (by show (false || (backTo cpos (starEach es X.env)).any (·.1)) = false; rw [hplain] <;> rfl) (Calls.evalArgs_plain ?_)
  exact thn hA fun us s2 ⟨vs, H2, I2, r2, q2⟩ => hm pins s2 σ H2 x vs v us Q I2 r1 r2 q2
end
end L2
namespace L2
open PySem PySem.Spec PyProof.Rows
def MtM (X : Cx) (id : String) (r : V → List V → Hp → VK → Prop) : Prop :=
  ∀ (pins : List (Addr × Obj)) (s : Shared) (σ : St) (H : Hp) (x : V) (xs : List V) (v : Value) (us : List Value) (Q : VK), Inv X pins σ H s → RelV x v → Vals xs us → r x xs H Q →
    wpAny (model X.prog X.w) X.A (call (.builtin id) (v :: us)) (EP X pins σ Q) X.xe s
theorem Vals.one : ∀ {x : V} {us : List Value}, Vals [x] us → ∃ u, us = [u] ∧ RelV x u
  | _, _, .cons r .nil => ⟨_, rfl, r⟩
theorem Vals.two : ∀ {x y : V} {us : List Value}, Vals [x, y] us → ∃ u v, us = [u, v] ∧ RelV x u ∧ RelV y v
  | _, _, _, .cons r (.cons q .nil) => ⟨_, _, rfl, r, q⟩
theorem Vals.zero : ∀ {us : List Value}, Vals [] us → us = []
  | _, .nil => rfl
theorem Vals.dropLast {xs : List V} {us : List Value} (h : Vals xs us) : Vals xs.dropLast us.dropLast := by
  induction h with
  | nil => exact .nil
  | cons r t ih =>
    cases t with
    | nil => exact .nil
    | cons q t' => exact .cons r ih
theorem erase_last {α : Type} (l : List α) : l.eraseIdx (l.length - 1) = l.dropLast := by
  induction l with
  | nil => rfl
  | cons a r ih =>
    cases r with
    | nil => rfl
    | cons b r =>
      have e : (a :: b :: r).length - 1 = ((b :: r).length - 1) + 1 := by
        have h1 : (a :: b :: r).length = r.length + 2 := rfl
        have h2 : (b :: r).length = r.length + 1 := rfl
        omega
      rw [e, List.eraseIdx_cons_succ, ih]
      all_goals rfl
section
variable {X : Cx} {pins : List (Addr × Obj)} {σ : St} {H : Hp} {s : Shared} {l b : Addr} {xs ys zs : List V}
theorem Inv.lset {its its' : List Value} {n : Nat} {f : Array Value → Array Value} {t' : Nat} (I : Inv X pins σ H s) (hH : H l = some (.lst xs))
    (e : s.heap.get? l = some { cls := .type "list", data := .seq its.toArray n }) (hf : f its.toArray = its'.toArray) (hv : Vals ys its') (hz : ys.length ≤ sizeLine) :
    Inv X pins σ (upd H l (.lst ys)) { s with heap := s.heap.update l (Obj.mapSeq f), toks := t' } := by
  have q := PySem.IsL.update e f
  rw [hf] at q
  refine I.write (x := l) (e := l) (by rw [hH]; exact trivial) (.inl rfl) (fun b' u hb hu => (Heap.get?_update_other s.heap (Obj.mapSeq f) (Ne.symm hb)).trans hu) ⟨_, q⟩ ?_
  exact ⟨hz, its', _, hv, q⟩
theorem Inv.lnew {its : List Value} {t' : Nat} (I : Inv X pins σ H s) (hv : Vals ys its) (hz : ys.length ≤ sizeLine) :
    Inv X pins σ (upd H s.heap.objs.size (.lst ys)) { s with heap := s.heap.push { cls := .type "list", data := .seq its.toArray }, toks := t' } :=
  I.laid (fun _ _ q => Heap.get?_push_of_some _ q) (Nat.le_refl _) ⟨hz, its, 0, hv, Heap.get?_push_size _ rfl⟩
theorem Inv.fresh (I : Inv X pins σ H s) : H s.heap.objs.size = none := I.hok.fresh (Nat.le_refl _)
theorem Inv.lstM (I : Inv X pins σ H s) (hH : H l = some (.lst xs)) : xs.length ≤ sizeLine ∧ ∃ (its : List Value) (n : Nat), Vals xs its ∧ xs.length = its.length ∧ s.heap.get? l = some { cls := .type "list", data := .seq its.toArray n } := by
  obtain ⟨z, its, n, r, e⟩ := I.hok l _ hH
  exact ⟨z, its, n, r, r.length, e⟩
theorem notLongL {n : Nat} (h : n ≤ sizeLine) : Builtin.List.listTooLong n = false := by
  unfold Builtin.List.listTooLong
  exact decide_eq_false (by omega)
end
section
variable {X : Cx}
def rAppend : V → List V → Hp → VK → Prop := fun x vs H Q => ∃ l xs y, x = .ref l ∧ vs = [y] ∧ H l = some (.lst xs) ∧ xs.length < sizeLine ∧ Q .non (upd H l (.lst (xs ++ [y])))
theorem mt_append : MtM X "list.append" rAppend := by
  intro pins s σ H x vs v us Q I rx rv h
  obtain ⟨l, xs, y, rfl, rfl, hH, hz, q⟩ := h
  cases rx
  obtain ⟨u, rfl, ru⟩ := rv.one
  obtain ⟨z, its, n, r, hl, e⟩ := I.lstM hH
  refine call_meets F.slot_list_append ⟨_, e, rfl⟩ F.entry_list_append (F.args_list_append_2 _ _) (PySem.list_append l its.toArray n u (by rw [List.size_toArray]; omega)) ⟨e, ?_⟩
  refine ⟨.non, _, I.lset (its' := its ++ [u]) hH e (by simp) (r.append (.cons ru .nil)) ?_, rfl, q⟩
  rw [List.length_append, List.length_singleton]
  omega
def rExtend : V → List V → Hp → VK → Prop := fun x vs H Q => ∃ l b xs zs, x = .ref l ∧ vs = [.ref b] ∧ H l = some (.lst xs) ∧ H b = some (.lst zs) ∧ xs.length + zs.length ≤ sizeLine ∧ Q .non (upd H l (.lst (xs ++ zs)))
theorem mt_extend : MtM X "list.extend" rExtend := by
  intro pins s σ H x vs v us Q I rx rv h
  obtain ⟨l, b, xs, zs, rfl, rfl, hH, hB, hz, q⟩ := h
  cases rx
  obtain ⟨u, rfl, ru⟩ := rv.one
  cases ru
  obtain ⟨z, its, n, r, hl, e⟩ := I.lstM hH
  obtain ⟨z2, its2, n2, r2, hl2, e2⟩ := I.lstM hB
  have hsz : its.toArray.size + its2.toArray.size ≤ sizeLine := by rw [List.size_toArray, List.size_toArray]; omega
  have hlong : ¬ (!its.toArray.isEmpty && Builtin.List.listTooLong (its.toArray.size + its2.toArray.size)) = true := by
    rw [notLongL hsz, Bool.and_false]
    exact Bool.false_ne_true
  refine call_meets F.slot_list_extend ⟨_, e, rfl⟩ F.entry_list_extend (F.args_list_extend_2 _ _)
    (AutoSeq1.list_extend_list_list_0 l its.toArray n b its2.toArray n2 hlong (by rw [List.size_toArray]; omega) (by omega)) ⟨e, e2, ?_⟩
  refine ⟨.non, _, I.lset (its' := its ++ its2) hH e (by simp) (r.append r2) ?_, rfl, q⟩
  rw [List.length_append]
  omega
def rPop : V → List V → Hp → VK → Prop := fun x vs H Q => ∃ l xs y, x = .ref l ∧ vs = [] ∧ H l = some (.lst xs) ∧ xs[xs.length - 1]? = some y ∧ Q y (upd H l (.lst xs.dropLast))
theorem mt_pop : MtM X "list.pop" rPop := by
  intro pins s σ H x vs v us Q I rx rv h
  obtain ⟨l, xs, y, rfl, rfl, hH, hy, q⟩ := h
  cases rx
  have hus := rv.zero
  subst hus
  obtain ⟨z, its, n, r, hl, e⟩ := I.lstM hH
  obtain ⟨u, hu, ru⟩ := r.get hy
  have hy' : its.toArray[its.toArray.size - 1]? = some u := by
    show its.toArray[its.length - 1]? = some u
    rw [← Array.getElem?_toList, ← hl]
    exact hu
  refine call_meets F.slot_list_pop ⟨_, e, rfl⟩ F.entry_list_pop (F.args_list_pop_1 _) (MeetsSeq.list_pop_last l its.toArray n u hy' (by rw [List.size_toArray]; omega)) ⟨e, ?_⟩
  refine ⟨y, _, I.lset (its' := its.dropLast) hH e ?_ r.dropLast ?_, ru, q⟩
  · show its.toArray.eraseIdxIfInBounds (its.toArray.size - 1) = its.dropLast.toArray
    rw [List.size_toArray, List.eraseIdxIfInBounds_toArray, erase_last]
  · rw [List.length_dropLast]
    omega
def rCat : R2 := fun x y H Q => ∃ l b xs zs, x = .ref l ∧ y = .ref b ∧ H l = some (.lst xs) ∧ H b = some (.lst zs) ∧ xs.length + zs.length ≤ sizeLine ∧ ∀ p, H p = none → Q (.ref p) (upd H p (.lst (xs ++ zs)))
theorem op_cat : OpR X (binaryOp .Add) rCat := by
  intro pins s σ H x y v u Q I rx ry h
  obtain ⟨l, b, xs, zs, rfl, rfl, hH, hB, hz, q⟩ := h
  cases rx
  cases ry
  obtain ⟨z, its, n, r, hl, e⟩ := I.lstM hH
  obtain ⟨z2, its2, n2, r2, hl2, e2⟩ := I.lstM hB
  refine PySem.P.add_list e e2 ?_ (by rw [List.size_toArray, List.size_toArray]; omega)
  have ea : its.toArray ++ its2.toArray = (its ++ its2).toArray := by simp
  rw [ea]
  exact ⟨.ref _, _, I.lnew (t' := s.toks) (r.append r2) (by rw [List.length_append]; omega), rfl, q _ I.fresh⟩
end
section
variable {prog : Program} {w : World} {A : Around} {E : Value → Shared → Prop} {s : Shared}
set_option maxRecDepth 100000 in
end
section
variable {X : Cx}
end
end L2
namespace Att
open PySem PySem.W PySem.Calls PyProof.Rows
theorem ints_of_wellAll {P : Params} {h : Heap} : ∀ (ns : List Int) (vs : List Value), WellAll P h vs (ns.map WData.int) → IntsAre vs ns := by
  intro ns
  induction ns with
  | nil =>
    intro vs w
    rw [List.map_nil] at w
    cases w
    exact .nil
  | cons n ns ih =>
    intro vs w
    rw [List.map_cons] at w
    cases w with
    | cons a b =>
      cases a
      exact .cons _ _ (ih _ b)
theorem script_of {l : OpenLaw} {n : Nat} (hn : l.most = some n) {P : Params} {h : Heap} {args : List WData} {vals : List Value}
    (hpre : l.row.toRowW.claim.pre args = true) (hwl : WellAll P h vals args) :
    ∃ a vs ns, vals = [Value.ref a] ∧ args = [WData.list (ns.map WData.int)] ∧ h.get? a = some { cls := .type "list", data := .seq vs.toArray } ∧ IntsAre vs ns ∧ ns.length ≤ n := by
  have hsh : WShape.hasAll [] args [.list .int] = true := (pre_splitW hpre).1
  have hc : l.pre.holds [] { args := args } = true := (pre_splitW hpre).2
  obtain ⟨d, r, rfl, h1, h2⟩ := hasAllW_cons hsh
  obtain rfl := hasAllW_nil h2
  obtain ⟨xs, rfl, h3⟩ := hasW_list h1
  obtain ⟨ns, rfl⟩ := items_int h3
  have hlen : ns.length ≤ n := by
    unfold OpenLaw.pre at hc
    have h4 : (WTm.not (.lt (.lit (.int (n : Int))) (.len (.arg 0)))).holds [] { args := [.list (ns.map .int)] } = true := by
      have h4 := (holds_andW hc).1
      rw [hn] at h4
      exact h4
    have h5 := condW_of h4 (w_not (w_lt w_lit (w_len_list (w_arg rfl))))
    rw [List.length_map] at h5
    refine Nat.le_of_not_lt fun q => ?_
    have q' : (n : Int) < ((ns.length : Nat) : Int) := by omega
    first
      | (rw [decide_eq_true q'] at h5; exact absurd h5 (by decide))
      | (simp at h5; omega)
  cases hwl with
  | cons w1 w2 =>
    cases w2
    cases w1 with
    | list ho hall => exact ⟨_, _, ns, rfl, rfl, ho, ints_of_wellAll ns _ hall, hlen⟩
theorem post_true (l : OpenLaw) (args : List WData) : l.row.toRowW.claim.post args (.bool true) args = true :=
  postW_of (r := l.row.toRowW) (X := (true == true))
    (show WShape.has [] (.bool true) .bool = true by first | rfl | decide | simp [WShape.has, WShape.arms, WShape.armsAll])
    (show (WTm.eq .res (.lit (.bool true))).value [] { args := args, res := some (.bool true), after := args } = some (.bool (true == true)) from w_eq_bool (w_res rfl) w_lit) rfl
theorem attach_call {l : OpenLaw} {n : Nat} {q : Program} {loose : List Str} {XP : (Str → Option Value) → Heap → Prop} {YP : World → Heap → Prop} {d : DefRec}
    (hn : l.most = some n) (hdf : d.params.defaults = [])
    (call : ∀ (w : World) (s₀ s₁ : Shared) (mg mb : Str → Option Value) (fa : Addr) (o : Obj) (pm cd doc : Value) (a : Addr) (vs : List Value) (ns : List Int),
      Ground q loose [] XP w s₀ mg mb s₁.heap → YP w s₁.heap →
      s₁.heap.get? fa = some o → o.data = .func (docDef d.name d.params d.body d.scope pm cd doc) → s₁.heap.CodeRec cd d.name → mg d.name = some (.ref fa) →
      s₁.heap.get? a = some { cls := .type "list", data := .seq vs.toArray } → IntsAre vs ns → ns.length ≤ n → s₁.gens = #[] →
      codeAny (model l.prog w) callerA (.call (.ref fa) ⟨[.ref a], []⟩) (fun r s' => r = .ok (.ret (.bool true)) ∧ OldK s₁.heap s'.heap ∧ s'.os = s₁.os ∧ AllBare s'.gens) s₁) :
    WalkO q loose XP YP l.row.toRowW d [] (fun f vs => PySem.call f vs) := by
  intro w s₀ s₁ mg mb G Y fa o pm cd doc dV kV ho hd hcd hD hmg hg args vals as hpre hlay hrd hwl hlo
  obtain rfl : dV = .none := Dflts.none hD hdf
  obtain rfl : kV = .none := Dflts.noKw hD
  obtain ⟨a, vs, ns, rfl, rfl, hobj, hints, hlen⟩ := script_of hn hpre hwl
  refine enter_call (codeAny_mono (call w s₀ s₁ mg mb fa o pm cd doc a vs ns G Y ho (fd_plain hd) hcd hmg hobj hints hlen hg) fun r s' hq => ?_)
  obtain ⟨rfl, h2, h3, h4⟩ := hq
  exact ⟨.inl ⟨.bool true, .bool true, [], rfl, fun _ => rfl, .bool true, post_true l _, fun _ => ⟨List.Pairwise.nil, fun _ hm => (nomatch hm)⟩⟩, h2, h3, h4⟩
section
variable {prog : Program} {w : World} {A : Around} {E : Value → Shared → Prop} {s : Shared} {K : Frag}
end
end Att
namespace L2
open PySem PySem.Spec PyProof.Rows
theorem vals_ints : ∀ {vs : List Value} {ns : List Int}, IntsAre vs ns → Vals (ns.map V.int) vs
  | _, _, .nil => .nil
  | _, _, .cons n t h => .cons ⟨t, rfl⟩ (vals_ints h)
def Only (H : Hp) : Prop := ∀ b, H b = none ∨ ∃ o xs, H b = some (.frz o (.lst xs))
theorem law_call {P : Program} {w : World} {K : PySem.W.Frag} {mg mb : Str → Option Value} {CX : CXT} {k : Nat} {fa a : Addr} {fd : FuncData} {x : Str} {sp : Sp} {s₁ : Shared} {vs : List Value} {ns : List Int}
    (KX : K.In s₁.heap) (hns : s₁.heap.Ns mainGlobals mg) (hb : s₁.heap.Ns builtinsNs mb) (hbb : ∀ x : Str, x ≠ "__name__" → mb x = bootBuiltins x) (hlim : s₁.heap.NoLimit) (hg : s₁.gens = #[])
    (ha : s₁.heap.get? a = some { cls := .type "list", data := .seq vs.toArray }) (hi : IntsAre vs ns) (hl : ns.length ≤ sizeLine) (hr : Room k callerA)
    (F : ∀ base : Heap, K.In base → base.Ns mainGlobals mg → FnOk P w K mg base CX k fa fd [x] sp) (hbind : ∀ (s : Shared) (u : Value), BindsTo s fd ⟨[u], []⟩ [(x, u)])
    (hsp : ∀ H : Hp, Only H → SqL K H a (ns.map V.int) → sp [.ref a] H (fun v _ => v = .bl true) fun _ _ _ => False)
    (hCX : ∀ H e s', CX [] H s₁ (fun _ _ _ => False) e s' → False) :
    codeAny (model P w) callerA (.call (.ref fa) ⟨[.ref a], []⟩) (fun r s' => r = .ok (.ret (.bool true)) ∧ OldK s₁.heap s'.heap ∧ s'.os = s₁.os ∧ AllBare s'.gens) s₁ := by
  have rv := vals_ints hi
  have lenV := hi.length
  have core : ∀ H : Hp, Only H → SqL K H a (ns.map V.int) → HOk P w H s₁.heap → (∀ b, H b ≠ none → b = a) → (H a ≠ none → K.lookup a = none) →
      codeAny (model P w) callerA (.call (.ref fa) ⟨[.ref a], []⟩) (fun r s' => r = .ok (.ret (.bool true)) ∧ OldK s₁.heap s'.heap ∧ s'.os = s₁.os ∧ AllBare s'.gens) s₁ := by
    intro H hO hS hok hA hK
    have base_of : ∀ {b : Addr} {o : Obj}, s₁.heap.get? b = some o → H b = none → (hidT s₁.heap H).get? b = some o := fun e n => hidT_get e n
    have noA : ∀ {b : Addr} {o : Obj} {es : Array DictEntry} {ep : Nat}, s₁.heap.get? b = some o → o.data = .dict es ep → H b = none := fun {b o es ep} e d => by
      cases q : H b with
      | none => rfl
      | some u =>
        have e' : b = a := hA b (by rw [q]; simp)
        subst e'
        rw [ha] at e; cases e
        have d' : Data.seq vs.toArray _ = Data.dict es ep := d
        cases d'
    have nsK : ∀ {b : Addr} {m : Str → Option Value}, s₁.heap.Ns b m → (hidT s₁.heap H).Ns b m := fun {b m} ⟨o, es, ep, e, d, r⟩ => ⟨o, es, ep, base_of e (noA e d), d, r⟩
    have hKb : K.In (hidT s₁.heap H) := fun b o e => base_of (KX b o e) (by
      cases q : H b with
      | none => rfl
      | some u =>
        have e' : b = a := hA b (by rw [q]; simp)
        subst e'
        rw [hK (by rw [q]; simp)] at e; cases e)
    have hM : Mod K mg (hidT s₁.heap H) := ⟨hKb, nsK hns, ⟨mb, nsK hb, hbb⟩, let ⟨mc, h1, h2⟩ := hlim; ⟨mc, nsK h1, h2⟩⟩
    have e0 : Env0 P w K mg (hidT s₁.heap H) callerA [] s₁ H := ⟨rfl, hM, fun b o e => of_hidT e, Nat.le_of_eq (hidT_size _ _), trivial, fun b hb => absurd (show b ∈ ([] : List Addr) from hb) (by simp), hok, .of_eq hg⟩
    refine codeAny_mono ((F _ hKb (nsK hns)).run callerA [] s₁ H ⟨[.ref a], []⟩ [.ref a] [.ref a] _ _ hr e0 (hbind s₁ (.ref a)) (.cons rfl .nil) (hsp H hO hS)) fun r s' h => ?_
    cases r with
    | error e => exact (hCX H e s' h).elim
    | ok fl =>
      cases fl with
      | next => exact False.elim h
      | brk => exact False.elim h
      | cont => exact False.elim h
      | ret u =>
        obtain ⟨v, H', os, bare, un, hok', r', q⟩ := h
        have q' : v = .bl true := q
        subst q'
        obtain rfl : u = Value.bool true := r'
        refine ⟨rfl, OldK.of_keep fun b o e => ?_, os, bare⟩
        cases q : H b with
        | none => exact un.keep b o e q (by intro z; exact absurd (show b ∈ ([] : List Addr) from z) (by simp)) (by simp)
        | some u =>
          rcases hO b with z | ⟨ob, xs, z⟩
          · rw [q] at z; cases z
          · have z2 := un.frzs b ob _ z
            obtain ⟨e1, _⟩ := hok b _ z
            obtain ⟨e2, _⟩ := hok' b _ z2
            rw [e] at e1; cases e1
            exact e2
  cases hk : K.lookup a with
  | some o =>
    have e := KX a o hk
    rw [ha] at e
    cases e
    refine core (fun _ => none) (fun _ => .inl rfl) (.inr ⟨_, vs.toArray, _, hk, rfl, rfl, rfl, by rw [List.size_toArray, lenV]; exact hl, by simpa using rv⟩) (fun b u z => by have z' : (none : Option HO) = some u := z; cases z') (fun b z => absurd rfl z) fun z => absurd rfl z
  | none =>
    refine core (fun b => if b = a then some (.frz { cls := .type "list", data := .seq vs.toArray } (.lst (ns.map V.int))) else none) (fun b => ?_) (.inl (.inr ⟨{ cls := .type "list", data := .seq vs.toArray }, if_pos rfl⟩)) (fun b u z => ?_) (fun b z => ?_) fun _ => hk
    · by_cases hb : b = a
      · exact .inr ⟨_, _, if_pos hb⟩
      · exact .inl (if_neg hb)
    · by_cases hb : b = a
      · have z' := (if_pos hb).symm.trans z
        cases z'
        subst hb
        exact ⟨ha, by rw [List.length_map]; exact hl, vs, _, rv, ha⟩
      · have z' := (if_neg hb).symm.trans z
        cases z'
    · by_cases hb : b = a
      · exact hb
      · exact absurd (if_neg hb) z
end L2
namespace L2
open PySem PySem.Spec PyProof.Rows
theorem walk_of {l : PySem.W.OpenLaw} {n k : Nat} {q : Program} {loose : List Str} {XP : (Str → Option Value) → Heap → Prop} {YP : World → Heap → Prop} {d : DefRec} {K : Params → PySem.W.Frag} {CX : World → CXT} {sp : World → Sp} {x : Str}
    (hn : l.most = some n) (hn2 : n ≤ sizeLine) (hdf : d.params.defaults = []) (hr : Room k callerA)
    (hY : ∀ (w : World) (h : Heap), YP w h → (K w.params).In h)
    (F : ∀ (w : World) (mg : Str → Option Value) (fa : Addr) (h : Heap), (K w.params).In h → h.Ns mainGlobals mg → mg d.name = some (.ref fa) →
      ∃ fd : FuncData, (∀ (s : Shared) (u : Value), BindsTo s fd ⟨[u], []⟩ [(x, u)]) ∧
        ∀ base : Heap, (K w.params).In base → base.Ns mainGlobals mg → FnOk l.prog w (K w.params) mg base (CX w) k fa fd [x] (sp w))
    (hsp : ∀ (w : World) (H : Hp) (a : Addr) (ns : List Int), ns.length ≤ n → Only H → SqL (K w.params) H a (ns.map V.int) → sp w [.ref a] H (fun v _ => v = .bl true) fun _ _ _ => False)
    (hCX : ∀ (w : World) (H : Hp) (s : Shared) (e : Value) (s' : Shared), CX w [] H s (fun _ _ _ => False) e s' → False) :
    PySem.W.WalkO q loose XP YP l.row.toRowW d [] (fun f vs => PySem.call f vs) := by
  refine Att.attach_call hn hdf fun w s₀ s₁ mg mb fa o pm cd doc a vs ns G Y ho hd hcd hmg hobj hints hlen hg => ?_
  have KX := hY w _ Y
  obtain ⟨fd, hb, hF⟩ := F w mg fa _ KX G.T.g hmg
  exact law_call KX G.T.g G.T.b G.T.builtins G.T.nolimit hg hobj hints (Nat.le_trans hlen hn2) hr hF hb (fun H hO hS => hsp w H a ns hlen hO hS) fun H e s' => hCX w H s₁ e s'
end L2
namespace L2
open PySem PySem.Spec PyProof.Rows
def defArgs (s : Stmt) : Arguments := match s with
  | .FunctionDef _ a _ _ _ _ _ _ _ _ => a
  | _ => { posonlyargs := [], args := [], vararg := none, kwonlyargs := [], kw_defaults := [], kwarg := none, defaults := [] }
def defBody (s : Stmt) : List Stmt := match s with
  | .FunctionDef _ _ b _ _ _ _ _ _ _ => b
  | _ => []
def defScope (s : Stmt) : Scope := match s with
  | .FunctionDef _ _ _ _ _ _ sc _ _ _ => sc
  | _ => { kind := .function, names := [], isGenerator := false, isCoroutine := false }
abbrev E0 : XK := fun _ _ _ => False
section
variable {P : Program} {w : World} {K : PySem.W.Frag} {mg : Str → Option Value} {base : Heap}
end
section
variable {X : Cx}
theorem pv (i : Nat) {x : Str} {pos : Pos} (hN : X.N[i]? = some x := by rfl) (hv : Vis X.env.scope x := by first | exact Or.inl rfl | exact Or.inr (Or.inl rfl) | exact Or.inr (Or.inr rfl)) (hd : (x == ("__debug__" : Str)) = false := by decide)
    (hcd : (x == ("__classdict__" : Str)) = false := by decide) : PE X (.Name x pos) (tVar i) := pe_var hN hv hd hcd
end
theorem iteF {A B : Prop} (h : B) : if false = true then A else B := by
  rw [if_neg Bool.false_ne_true]
  exact h
theorem iteT {A B : Prop} (h : A) : if true = true then A else B := by
  rw [if_pos rfl]
  exact h
theorem ite2 {c A B : Prop} [Decidable c] (h1 : c → A) (h2 : ¬ c → B) : if c then A else B := by
  by_cases h : c
  · rw [if_pos h]
    exact h1 h
  · rw [if_neg h]
    exact h2 h
theorem iteNS {c A B : Prop} [Decidable c] (hc : c) (h : B) : if (!decide c) = true then A else B := by
  rw [decide_eq_true hc]
  exact iteF h
def Same (H H' : Hp) : Prop := ∀ b o, H b = some o → H' b = some o
theorem Same.refl (H : Hp) : Same H H := fun _ _ h => h
theorem Same.trans {H H1 H2 : Hp} (a : Same H H1) (b : Same H1 H2) : Same H H2 := fun c o h => b c o (a c o h)
theorem Same.seq {K : PySem.W.Frag} {H H' : Hp} {a : Addr} {xs : List V} (e : Same H H') (h : SqL K H a xs) : SqL K H' a xs := by
  rcases h with (h | ⟨o, h⟩) | h
  · exact .inl (.inl (e _ _ h))
  · exact .inl (.inr ⟨o, e _ _ h⟩)
  · exact .inr h
end L2
set_option maxRecDepth 100000
set_option linter.all false
set_option Elab.async false
namespace XA
open PySem
section
variable {prog : Program} {w : World} {A : Around} {E : Value → Shared → Prop} {h : Heap} {g : Array GenState} {d : Drawn} {t : Nat} {os : OsState}
variable {nm q : Str} {C N : Addr} {bs bm bmB : List Value} {hdct : Bool} {sn : List Str} {sub : List Value} {ab : Bool} {col : Option Bool} {dd : Option Addr} {k0 k1 k2 k3 k5 : Option Value} {B newId initId : String}
end
end XA
set_option maxRecDepth 100000
set_option linter.all false
set_option Elab.async false
namespace XA
open PySem
structure Fly (h : Heap) (e : Addr) (c : Value) (d : Option Addr) (a0 : Value) (ot : Option Addr) (fl : Value) : Prop where
  obj : ∃ vs sl, h.get? e = some { cls := c, dict := d, data := .fields vs, slots := sl } ∧ vs.size = 6 ∧ vs[0]? = some a0 ∧ vs[1]? = some (ot.elim Value.none Value.ref)
  tb : ∀ T, ot = some T → T ≠ e ∧ ∃ oT ts, h.get? T = some oT ∧ oT.data = .fields ts ∧ ts[3]? = some fl
section
variable {M : Model} {A : Around} {E : Value → Shared → Prop} {s : Shared} {e : Addr} {c a0 fl : Value} {d ot : Option Addr} {T : Addr}
end
end XA
set_option maxRecDepth 100000
set_option linter.all false
set_option Elab.async false
namespace XA
open PySem
section
variable {M : Model} {A : Around} {E : Value → Shared → Prop} {env : Env}
variable {nm q : Str} {C N : Addr} {bs bm bmB : List Value} {hdct : Bool} {sn : List Str} {sub : List Value} {ab : Bool} {col : Option Bool} {dd : Option Addr} {k0 k1 k2 k3 k5 : Option Value} {B newId initId : String}
end
end XA
set_option maxRecDepth 100000
set_option linter.all false
set_option Elab.async false
namespace XA
open PySem
section
variable {M : Model} {A : Around} {E : Value → Shared → Prop}
variable {nm q : Str} {C N : Addr} {bs bm : List Value} {hdct : Bool} {sn : List Str} {sub : List Value} {ab : Bool} {col : Option Bool} {dd : Option Addr} {k0 k1 k2 k3 k5 : Option Value} {newId : String}
variable {nm' q' : Str} {D N' : Addr} {bs' bm' : List Value} {hdct' : Bool} {sn' : List Str} {sub' : List Value} {ab' : Bool} {col' : Option Bool} {dd' : Option Addr} {j0 j1 j2 j3 j5 : Option Value} {newId' : String}
end
section
variable {prog : Program} {w : World} {A : Around} {E : Value → Shared → Prop} {s : Shared} {env : Env}
end
end XA
set_option maxRecDepth 100000
set_option linter.all false
set_option Elab.async false
set_option maxHeartbeats 4000000
namespace XA
open PySem Builtin Builtin.ObjectAttr
section
variable {M : Model} {A : Around} {E : Value → Shared → Prop} {h : Heap} {g : Array GenState} {d : Drawn} {t : Nat} {os : OsState} {e : Addr} {o : Obj}
end
section
variable {prog : Program} {w : World} {A : Around} {E : Value → Shared → Prop} {h : Heap} {g : Array GenState} {d : Drawn} {t : Nat} {os : OsState}
variable {C e : Addr} {l : List Value} {vs : Array Value} {sl : Array (Option Value)} {name : Str} {v : Value}
end
end XA
set_option maxRecDepth 100000
set_option linter.all false
set_option Elab.async false
set_option maxHeartbeats 4000000
namespace XA
open PySem Builtin Builtin.ObjectAttr Builtin.BaseException Builtin.Str
section
variable {prog : Program} {w : World} {A : Around} {E : Value → Shared → Prop} {h : Heap} {g : Array GenState} {d : Drawn} {t : Nat} {os : OsState}
variable {C e : Addr} {l : List Value} {vs : Array Value} {sl : Array (Option Value)} {name : Str} {v : Value} {B newId initId : String} {bmB : List Value} {dd : Option Addr}
end
end XA
set_option maxRecDepth 100000
set_option linter.all false
set_option Elab.async false
set_option maxHeartbeats 4000000
namespace L2
open PySem PySem.Spec PyProof.Rows
def ExO (nw : Bool) (C t : Addr) (d : Option Addr) (e : Addr) : HO := .ext fun h =>
  ∃ vs sl, h.get? e = some { cls := .ref C, dict := d, data := .fields vs, slots := sl } ∧ vs.size = 6 ∧ vs[0]? = some (.ref t) ∧ (nw = true → vs[1]? = some .none)
def CXE (P : Program) (w : World) : CXT := fun outer H s E x s' => ∃ (e C t T : Addr) (d : Option Addr) (H' : Hp), x = .ref e ∧ s'.os = s.os ∧ AllBare s'.gens ∧ Un (frs outer) [] H H' s.heap s'.heap ∧ HOk P w H' s'.heap ∧
  H' e = some (ExO false C t d e) ∧ s.heap.get? e = none ∧ s.heap.objs.size ≤ T ∧ H' T = none ∧ XA.Fly s'.heap e (.ref C) d (.ref t) (some T) .none ∧ E (.ref C) (some e) H'
section
variable {P : Program} {w : World} {K : PySem.W.Frag} {mg : Str → Option Value} {base : Heap} {N : List Str} {qual : Str} {scope : Scope} {f : Addr} {cd : Value} {A : Around} {outer : List Env} {s0 : Shared} {H0 : Hp} {E : XK}
end
end L2
set_option maxRecDepth 100000
set_option linter.all false
set_option Elab.async false
set_option maxHeartbeats 4000000
namespace L2
open PySem PySem.Spec PyProof.Rows
section
variable {X : Cx} {CX : CXT} {k : Nat} {f C : Addr} {fd : FuncData} {ps : List Str} {sp : Sp} {dvs : List V} {ds : List Value} {E : XK} {x m : Str} {p pos apos : Pos} {e o : Expr} {es : List Expr} {ta : TE} {t : TA} {bm : List Value}
end
end L2
set_option maxRecDepth 100000
set_option linter.all false
set_option Elab.async false
set_option maxHeartbeats 4000000
namespace L2
open PySem PySem.Spec PyProof.Rows
section
variable {P : Program} {w : World} {K : PySem.W.Frag} {mg : Str → Option Value} {base : Heap} {N : List Str} {qual : Str} {scope : Scope} {f : Addr} {cd : Value} {A : Around} {outer : List Env} {s0 : Shared} {H0 : Hp} {E : XK}
end
section
variable {X : Cx} {C S : Addr} {x m : Str} {p pos apos : Pos} {e o value : Expr} {es : List Expr} {ta tv : TE} {t : TA} {bm : List Value} {name : Str} {pos' : Pos}
end
end L2
set_option maxRecDepth 100000
set_option linter.all false
set_option Elab.async false
set_option maxHeartbeats 4000000
namespace L2
open PySem PySem.Spec PyProof.Rows Builtin Builtin.ObjectAttr
section
variable {prog : Program} {w : World} {A : Around} {E : Value → Shared → Prop} {K : PySem.W.Frag} {C e : Addr} {bm : List Value} {ox : Obj} {od : Option Obj}
end
section
variable {X : Cx}
end
end L2
set_option maxRecDepth 100000
set_option linter.all false
set_option Elab.async false
set_option maxHeartbeats 4000000
namespace L2
open PySem PySem.Spec PyProof.Rows PyProof
section
variable {X : Cx}
theorem op_mulI : OpR X (binaryOp .Mult) (rI IntMulOk fun i j => .int (i * j)) := opI fun _ _ _ _ _ _ _ hc q => mul_int q hc
theorem strsAre_of {ys : List Str} : ∀ {us : List Value}, Vals (ys.map V.str) us → StrsAre us ys := by
  induction ys with
  | nil => intro us r; rw [List.map_nil] at r; cases r; exact .nil
  | cons n ns ih =>
    intro us r
    rw [List.map_cons] at r
    cases r with
    | cons r1 r2 =>
      obtain ⟨t, e⟩ := r1
      subst e
      exact .cons n t (ih r2)
theorem mt_join : MtR X "str.join" (fun x xs H Q => ∃ (z : Str) (p : Addr) (ys : List Str), x = .str z ∧ xs = [.ref p] ∧ SqL X.K H p (ys.map V.str) ∧ z.length ≤ 16 ∧ (ys.map (·.length)).sum + ys.length ≤ 1048576 ∧ Q (.str (Txt.join z ys)) H) := by
  intro pins s σ H x xs v us Q I rx rs h
  obtain ⟨z, p, ys, rfl, rfl, hq, h1, h2, q⟩ := h
  obtain ⟨t, rfl⟩ := rx
  obtain ⟨u, rfl, e⟩ := vals1 rs
  cases e
  obtain ⟨its, r, pl, hz⟩ := I.list hq
  exact join_listW pl.isList (strsAre_of r) h1 h2 fun t' k => ⟨.str _, H, I.tok _, ⟨_, rfl⟩, q⟩
theorem op_eqNil (hu : X.A.units < cLine) : OpR X (compareOp .Eq) (fun x y H Q => ∃ p q xs, x = .ref p ∧ y = .ref q ∧ SqL X.K H p xs ∧ SqL X.K H q [] ∧ Q (.bl xs.isEmpty) H) := by
  intro pins s σ H x y v u Q I rx ry h
  obtain ⟨p, q', xs, rfl, rfl, h1, h2, q⟩ := h
  cases rx
  cases ry
  obtain ⟨its, r1, p1, _⟩ := I.list h1
  obtain ⟨its2, r2, p2, _⟩ := I.list h2
  cases r2
  cases r1 with
  | nil => exact SeqAt.eq_listAt (e := fun _ => true) p1.isList p2.isList rfl hu (fun j h _ => absurd h (by simp)) ⟨.bl true, H, I, rfl, q⟩
  | cons a b => exact SeqAt.eq_list_lengthsAt p1.isList p2.isList (by simp) hu ⟨.bl false, H, I, rfl, q⟩
end
end L2
set_option maxRecDepth 100000
set_option linter.all false
set_option Elab.async false
set_option maxHeartbeats 4000000
namespace L2
open PySem PySem.Spec PyProof.Rows PyProof
def TabS (K : PySem.W.Frag) (a : Addr) (D : List (Str × V)) : Prop :=
  (a == sysModules) = false ∧ ∃ o es ep, K.lookup a = some o ∧ o.ExactDict ∧ o.data = .dict es ep ∧ KTD.Rows RelV es.toList D
section
variable {prog : Program} {w : World} {A : Around} {E : Value → Shared → Prop} {s : Shared} {a : Addr} {o : Obj} {es : Array DictEntry} {ep : Nat} {D : List (Str × V)} {k : Str} {tk : Tok}
theorem look_tab {Q : Option Value → Shared → Prop} (ho : s.heap.get? a = some o) (hd : o.data = .dict es ep) (hr : KTD.Rows RelV es.toList D)
    (yes : ∀ v u, KTD.datumAt k D = some v → RelV v u → Q (some u) { s with toks := s.toks + 1 }) (no : KTD.datumAt k D = none → Q none { s with toks := s.toks + 1 }) :
    wpAny (model prog w) A (dictGet a (.str k tk)) Q E s := by
  have all : (es.all fun e => isExactStrKey e.key) = true := by
    obtain ⟨l⟩ := es
    simpa using hr.exact
  have val : Q ((es.toList.find? fun e => e.key.isStr k).map (·.val)) { s with toks := s.toks + 1 } := by
    cases q : KTD.datumAt k D with
    | some v =>
      obtain ⟨u, hu, ru⟩ := hr.find_some q
      rw [hu]; exact yes v u q ru
    | none => rw [hr.find_none q]; exact no q
  have same : (es.toList.find? fun e => e.key.isStr k).map (·.val) = findBy (fun k v => v.isStr k) es k := by
    obtain ⟨l⟩ := es
    simp [findBy]
  rw [same, findBy_of_findIdx?] at val
  unfold dictGet
  with_reducible refine wpAny_holding ?_
  refine wpAny_bind (wpAny_pyHash_str (wpAny_bind ?_))
  refine KTD.kt_dictFind_strs (s := { s with toks := s.toks + 1 }) ho hd all ?_
  cases q : es.findIdx? fun e => e.key.isStr k with
  | none =>
    rw [q] at val
    exact wpAny_pure val
  | some i =>
    rw [q] at val
    exact wpAny_bind (wpAny_dictEntries (s := { s with toks := s.toks + 1 }) ho hd (wpAny_pure val))
theorem has_tab {Q : Value → Shared → Prop} (lo : (a == sysModules) = false) (ho : s.heap.get? a = some o) (hc : o.ExactDict) (hd : o.data = .dict es ep) (hr : KTD.Rows RelV es.toList D)
    (h : Q (.bool (KTD.inKeys k D)) { s with toks := s.toks + 1 }) : wpAny (model prog w) A (call (.builtin "dict.__contains__") [.ref a, .str k tk]) Q E s := by
  refine wpAny_call_entry slot_dict_contains ⟨o, ho, hc.1⟩ entry_dict_contains ?_ (args_dict_contains _ _)
  show wpAny _ _ (dictGet a (.str k tk) >>= _) _ _ s
  refine wpAny_bind (look_tab ho hd hr (fun v u e _ => ?_) fun e => ?_)
  · have hb : KTD.inKeys k D = true := by rw [← KTD.isSome_datumAt, e]; rfl
    rw [hb] at h
    exact wpAny_pure ⟨_, rfl, h⟩
  · have hb : KTD.inKeys k D = false := by rw [← KTD.isSome_datumAt, e]; rfl
    rw [hb] at h
    show wpAny _ _ (Builtin.Dict.pendingKey? a (.str k tk) >>= _) _ _ _
    exact wpAny_bind (wpAny_pendingKey_other lo (wpAny_pure ⟨_, rfl, h⟩))
end
section
variable {X : Cx}
theorem op_inTab : OpR X (compareOp .In) (fun x y H Q => ∃ k a D, x = .str k ∧ y = .ref a ∧ TabS X.K a D ∧ Q (.bl (KTD.inKeys k D)) H) := by
  intro pins s σ H x y v u Q I rx ry h
  obtain ⟨k, a, D, rfl, rfl, ⟨lo, o, es, ep, lk, hc, hd, hr⟩, q⟩ := h
  obtain ⟨t, rfl⟩ := rx
  cases ry
  have ho := I.kIn _ _ lk
  exact In_slot ⟨o, ho, hc.1⟩ slot_dict_contains (has_tab lo ho hc hd hr (wpAny_truthy_bool ⟨.bl _, H, I.tok _, rfl, q⟩))
theorem ix_tab : IxR X (fun x y H Q => ∃ k a D v, x = .ref a ∧ y = .str k ∧ TabS X.K a D ∧ KTD.datumAt k D = some v ∧ Q v H) := by
  intro value slice pins s σ H x y v u Q I rx ry h hs
  obtain ⟨k, a, D, z, rfl, rfl, ⟨lo, o, es, ep, lk, hc, hd, hr⟩, hk, q⟩ := h
  cases rx
  obtain ⟨t, rfl⟩ := ry
  have ho := I.kIn _ _ lk
  obtain ⟨u0, hu0, ru0⟩ := hr.find_some hk
  refine subscriptTail_builtinR (x := u0) (T := "dict") ⟨o, ho, hc.1⟩ slot_dict_getitem.lookup (getItem_slot (T := "dict") ⟨o, ho, hc.1⟩ (by decide) slot_dict_getitem ?_) hs
  refine wpAny_call_entry slot_dict_getitem ⟨o, ho, hc.1⟩ entry_dict_getitem ?_ (args_dict_getitem _ _)
  show wpAny _ _ (dictGet a (.str k t) >>= _) _ _ s
  have all : (es.all fun e => isExactStrKey e.key) = true := by
    obtain ⟨l⟩ := es
    simpa using hr.exact
  have same : (es.toList.find? fun e => e.key.isStr k).map (·.val) = findBy (fun k v => v.isStr k) es k := by
    obtain ⟨l⟩ := es
    simp [findBy]
  rw [same, findBy_of_findIdx?] at hu0
  refine wpAny_bind ?_
  unfold dictGet
  with_reducible refine wpAny_holding ?_
  refine wpAny_bind (wpAny_pyHash_str (wpAny_bind ?_))
  refine KTD.kt_dictFind_strs (s := { s with toks := s.toks + 1 }) ho hd all ?_
  cases e : es.findIdx? fun e => e.key.isStr k with
  | none => rw [e] at hu0; cases hu0
  | some i =>
    rw [e] at hu0
    refine wpAny_bind (wpAny_dictEntries (s := { s with toks := s.toks + 1 }) ho hd (wpAny_pure ?_))
    have e2 : es[i]?.map (·.val) = some u0 := hu0
    rw [e2]
    exact wpAny_pure ⟨_, rfl, rfl, z, H, I.tok _, ru0, q⟩
end
end L2
set_option maxRecDepth 100000
set_option linter.all false
set_option Elab.async false
set_option maxHeartbeats 4000000
namespace L2
open PySem PySem.Spec PyProof.Rows PyProof
def cxC (X : Cx) (scope : Scope) (cl : List (Str × Addr)) (Nb : List Str) (C : Addr) (s : Shared) (H : Hp) (fp : List Addr) (pins : List (Addr × Obj)) : Cx :=
  { X with env := compEnvC scope cl C X.env, N := Nb, s₀ := s, H₀ := H, outer := X.stack, ex := fp, fn := fun _ => false, pn := X.pn ++ pins, xe := fun _ _ => False }
section
variable {X : Cx} {scope : Scope} {cl : List (Str × Addr)} {x : Str} {rest : List Str} {ix : List Nat}
theorem lookup_mapk (g : Str → NameKind → NameKind) : ∀ (names : List (Str × NameKind)) (y : Str), (names.map fun p => (p.1, g p.1 p.2)).lookup y = (names.lookup y).map (g y)
  | [], _ => rfl
  | (n, k) :: r, y => by
    have ih := lookup_mapk g r y
    rw [List.map_cons]
    cases hy : y == n with
    | true =>
      have e : y = n := beq_iff_eq.mp hy
      subst e
      simp only [List.lookup_cons, beq_self_eq_true, Option.map_some]
    | false => simp only [List.lookup_cons, hy]; exact ih
theorem relabel_lookup (env : Env) (names : List (Str × NameKind)) (y : Str) :
    (names.map fun (n, k) => if (k == NameKind.free && env.scope.kind == .function && env.kindOf n == some .cell) then (n, NameKind.cell) else (n, k)).lookup y =
      (names.lookup y).map fun k => if (k == NameKind.free && env.scope.kind == .function && env.kindOf y == some .cell) then NameKind.cell else k := by
  rw [← lookup_mapk (fun y k => if (k == NameKind.free && env.scope.kind == .function && env.kindOf y == some .cell) then NameKind.cell else k)]
  congr 1
  refine List.map_congr_left fun p _ => ?_
  obtain ⟨n, k⟩ := p
  dsimp only
  split <;> rfl
theorem relabel_kind {C : Addr} {y : Str} {k : NameKind} (h : (compEnvC scope cl C X.env).kindOf y = some k) (hk : k = .cell ∨ k = .free) (hcell : ∀ y ∈ scope.names, y.2 ≠ .cell) : scope.names.lookup y = some .free := by
  have e : (compEnvC scope cl C X.env).kindOf y = (scope.names.lookup y).map fun k => if (k == NameKind.free && X.env.scope.kind == .function && X.env.kindOf y == some .cell) then NameKind.cell else k := relabel_lookup X.env scope.names y
  rw [e] at h
  cases q : scope.names.lookup y with
  | none => rw [q] at h; cases h
  | some k0 =>
    rw [q] at h
    simp only [Option.map_some, Option.some.injEq] at h
    by_cases hc : (k0 == NameKind.free && X.env.scope.kind == .function && X.env.kindOf y == some .cell) = true
    · have : k0 = .free := by
        rw [Bool.and_eq_true, Bool.and_eq_true] at hc
        exact beq_iff_eq.mp hc.1.1
      rw [this]
    · rw [if_neg hc] at h
      subst h
      rcases hk with rfl | rfl
      · exact absurd rfl (hcell (y, .cell) (PySem.mem_of_lookup q))
      · rfl
theorem getD_map_ix {σ : St} : ∀ {ix : List Nat} {j i : Nat}, ix[j]? = some i → (ix.map fun i => σ.getD i none)[j]? = some (σ.getD i none) := fun {ix j i} h => by
  rw [List.getElem?_map, h]; rfl
end
end L2
set_option maxRecDepth 100000
set_option linter.all false
set_option Elab.async false
set_option maxHeartbeats 4000000
namespace L2
open PySem PySem.Spec PyProof.Rows PyProof
section
variable {X : Cx} {CX : CXT} {k : Nat} {f C : Addr} {fd : FuncData} {ps : List Str} {sp : Sp} {dvs : List V} {ds : List Value} {E : XK} {x m : Str} {p pos apos : Pos} {e o : Expr} {es : List Expr} {ta : TE} {t : TA}
end
structure FunD (K : PySem.W.Frag) (x qual : Str) (st : Stmt) (dV : Value) (f : Addr) (fd : FuncData) : Prop where
  ex : ∃ (oc : Value) (od : Option Addr) (kV doc pm : Value) (an : Option Addr) (cdv ct : Value) (osl : Array (Option Value)),
    fd = PySem.W.fnOf x qual (defArgs st) (defBody st) (defScope st) dV kV doc pm an cdv ct ∧ K.lookup f = some ⟨oc, od, .func fd, osl⟩ ∧ PySem.W.codeIn K cdv qual = true
  kp : PySem.W.keepIn K (.ref f) = true
section
variable {P : Program} {w : World} {K : PySem.W.Frag} {mg : Str → Option Value} {base : Heap} {x qual : Str} {st : Stmt} {dV : Value} {f : Addr} {fd : FuncData} {N ps : List Str} {k : Nat} {sp : Sp}
theorem passE0 {X : Cx} : Passes (CXE P w) X E0 := fun _ _ _ _ _ _ _ h => by
  obtain ⟨_, _, _, _, _, _, _, _, _, _, _, _, _, _, _, _, z⟩ := h
  exact z.elim
theorem FunD.okE (F : FunD K x qual st dV f fd) (S : FnScope N ps (defScope st)) (len : ∀ vs H Q E, sp vs H Q E → vs.length = ps.length)
    (hbody : ∀ (cdv : Value) (A : Around) (outer : List Env) (s : Shared) (H : Hp) (vs : List V) (Q : VK) (E : XK), Room k (A.deeper (envOfC qual (defScope st) s.heap.objs.size f cdv)) → sp vs H Q E →
      ∃ t, PSs (cxOf (CXE P w) P w K mg base N qual (defScope st) f cdv A outer s H E) (defBody st) t ∧ t { nx := fun _ H' => Q .non H', rt := Q } (start N vs) H) : FnOk P w K mg base (CXE P w) (k + 1) f fd ps sp := by
  obtain ⟨oc, od, kV, doc, pm, an, cdv, ct, osl, rfl, lk, hcd⟩ := F.ex
  exact fn_of lk hcd S len fun A outer s H vs Q E hr hsp => hbody cdv A outer s H vs Q E hr hsp
theorem FunD.ok0 (F : FunD K x qual st dV f fd) (S : FnScope N ps (defScope st)) (len : ∀ vs H Q E, sp vs H Q E → vs.length = ps.length)
    (hbody : ∀ (cdv : Value) (A : Around) (outer : List Env) (s : Shared) (H : Hp) (vs : List V) (Q : VK) (E : XK), Room k (A.deeper (envOfC qual (defScope st) s.heap.objs.size f cdv)) → sp vs H Q E →
      ∃ t, PSs (cxOf (CXE P w) P w K mg base N qual (defScope st) f cdv A outer s H E).nox (defBody st) t ∧ t { nx := fun _ H' => Q .non H', rt := Q } (start N vs) H) : FnOk P w K mg base (CXE P w) (k + 1) f fd ps sp :=
  F.okE S len fun cdv A outer s H vs Q E hr hsp => let ⟨t, h, q⟩ := hbody cdv A outer s H vs Q E hr hsp; ⟨t, h.nox, q⟩
theorem FunD.binds {ds : List Value} (F : FunD K x qual st dV f fd)
    (h : ∀ (kV doc pm : Value) (an : Option Addr) (cdv ct : Value) (s : Shared) (us : List Value), K.In s.heap → (us ++ ds).length = ps.length → BindsTo s (PySem.W.fnOf x qual (defArgs st) (defBody st) (defScope st) dV kV doc pm an cdv ct) ⟨us, []⟩ (ps.zip (us ++ ds))) : Binds K fd ps ds := by
  obtain ⟨oc, od, kV, doc, pm, an, cdv, ct, osl, rfl, lk, hcd⟩ := F.ex
  exact fun s us X hl => h kV doc pm an cdv ct s us X hl
end
end L2
set_option maxRecDepth 100000
set_option linter.all false
set_option Elab.async false
set_option maxHeartbeats 4000000
namespace L2
open PySem PySem.Spec PyProof.Rows PyProof
section
variable {X : Cx} {k : Nat} {f : Addr} {fd : FuncData} {ps : List Str} {sp : Sp} {dvs : List V} {ds : List Value} {E : XK} {x : Str} {p pos : Pos} {e : Expr} {es : List Expr} {t : TA}
end
section
variable {X : Cx} {pins : List (Addr × Obj)} {σ : St} {H : Hp} {s : Shared} {e C t T : Addr} {d : Option Addr} {Q : Unit → Shared → Prop} {E : Value → Shared → Prop}
end
section
variable {X : Cx}
end
end L2
set_option Elab.async false
set_option linter.all false
set_option maxRecDepth 100000
namespace L2
open PySem PySem.Spec PyProof.Rows
section
variable {κ : Type} [DecidableEq κ]
def valV (kvs : List (κ × V)) (k : κ) : Option V := (kvs.find? fun kv => decide (kv.1 = k)).map (·.2)
def putK (kvs : List (κ × V)) (k : κ) (v : V) : List (κ × V) :=
  if (kvs.any fun kv => decide (kv.1 = k)) = true then kvs.map (fun kv => if kv.1 = k then (kv.1, v) else kv) else kvs ++ [(k, v)]
theorem valV_nil {k : κ} : valV ([] : List (κ × V)) k = none := rfl
theorem valV_pos {p : κ × V} {r : List (κ × V)} {k : κ} (e : p.1 = k) : valV (p :: r) k = some p.2 := by simp [valV, List.find?_cons, e]
theorem valV_neg {p : κ × V} {r : List (κ × V)} {k : κ} (e : ¬ p.1 = k) : valV (p :: r) k = valV r k := by simp [valV, List.find?_cons, e]
theorem valV_any (k : κ) : ∀ kvs : List (κ × V), (kvs.any fun kv => decide (kv.1 = k)) = (valV kvs k).isSome
  | [] => rfl
  | p :: r => by
    rw [List.any_cons]
    by_cases e : p.1 = k
    · simp only [valV_pos e, decide_eq_true e, Bool.true_or, Option.isSome_some]
    · rw [valV_neg e, decide_eq_false e, Bool.false_or]; exact valV_any k r
theorem valV_map (k j : κ) (y : V) : ∀ kvs : List (κ × V), valV (kvs.map fun kv => if kv.1 = k then (kv.1, y) else kv) j = (valV kvs j).map fun x => if j = k then y else x
  | [] => rfl
  | p :: r => by
    have ih := valV_map k j y r
    rw [List.map_cons]
    by_cases h : p.1 = k
    · rw [if_pos h]
      by_cases e : p.1 = j
      · rw [valV_pos (p := (p.1, y)) e, valV_pos e, Option.map_some, if_pos (e.symm.trans h)]
      · rw [valV_neg (p := (p.1, y)) e, valV_neg e, ih]
    · rw [if_neg h]
      by_cases e : p.1 = j
      · rw [valV_pos (p := p) e, valV_pos e, Option.map_some, if_neg (fun z => h (e.trans z))]
      · rw [valV_neg (p := p) e, valV_neg e, ih]
theorem valV_snoc (k j : κ) (y : V) : ∀ kvs : List (κ × V), valV kvs k = none → valV (kvs ++ [(k, y)]) j = if j = k then some y else valV kvs j
  | [], _ => by
    by_cases e : k = j
    · rw [if_pos e.symm]; exact valV_pos (p := (k, y)) e
    · rw [if_neg (fun z => e z.symm)]; exact valV_neg (p := (k, y)) e
  | p :: r, hn => by
    rw [List.cons_append]
    have hk : ¬ p.1 = k := fun z => by rw [valV_pos z] at hn; cases hn
    rw [valV_neg hk] at hn
    have ih := valV_snoc k j y r hn
    by_cases e : p.1 = j
    · rw [valV_pos e, valV_pos e, if_neg (fun z => hk (e.trans z))]
    · rw [valV_neg e, valV_neg e, ih]
theorem valV_put (kvs : List (κ × V)) (k j : κ) (y : V) : valV (putK kvs k y) j = if j = k then some y else valV kvs j := by
  unfold putK
  by_cases a : (kvs.any fun kv => decide (kv.1 = k)) = true
  · rw [if_pos a, valV_map]
    rw [valV_any] at a
    by_cases e : j = k
    · obtain ⟨x, hx⟩ := Option.isSome_iff_exists.mp a
      rw [if_pos e, e, hx, Option.map_some, if_pos rfl]
    · rw [if_neg e]
      cases valV kvs j with
      | none => rfl
      | some x => rw [Option.map_some, if_neg e]
  · rw [if_neg a]
    refine valV_snoc k j y kvs ?_
    rw [valV_any] at a
    cases q : valV kvs k with
    | none => rfl
    | some x => rw [q] at a; exact (a rfl).elim
theorem length_putK (kvs : List (κ × V)) (k : κ) (v : V) : (putK kvs k v).length ≤ kvs.length + 1 := by
  unfold putK
  split
  · rw [List.length_map]; omega
  · rw [List.length_append, List.length_cons, List.length_nil]; omega
theorem RelO.isSome_eq {o : Option V} {u : Option Value} (r : RelO o u) : o.isSome = u.isSome := by
  cases o with
  | none => cases u with
    | none => rfl
    | some _ => exact (show False from r).elim
  | some _ => cases u with
    | none => exact (show False from r).elim
    | some _ => rfl
theorem KV.val {kvs : List (κ × V)} {vs : List (κ × Value)} (r : KV kvs vs) (k : κ) : RelO (valV kvs k) (valueAt vs k) := by
  unfold KV at r
  induction r with
  | nil => exact True.intro
  | @cons p q ps qs h t ih =>
    obtain ⟨h1, h2⟩ := h
    by_cases e : p.1 = k
    · have e' : q.1 = k := h1.symm.trans e
      have b : valueAt (q :: qs) k = some q.2 := by simp [valueAt, List.find?_cons, e']
      rw [valV_pos e, b]; exact h2
    · have e' : ¬ q.1 = k := fun z => e (h1.trans z)
      have b : valueAt (q :: qs) k = valueAt qs k := by simp [valueAt, List.find?_cons, e']
      rw [valV_neg e, b]; exact ih
theorem KV.any {kvs : List (κ × V)} {vs : List (κ × Value)} (r : KV kvs vs) (k : κ) : (kvs.any fun kv => decide (kv.1 = k)) = vs.any fun kv => decide (kv.1 = k) := by
  unfold KV at r
  induction r with
  | nil => rfl
  | cons h t ih => rw [List.any_cons, List.any_cons, ih, h.1]
theorem KV.repl {kvs : List (κ × V)} {vs : List (κ × Value)} (r : KV kvs vs) (k : κ) {y : V} {u : Value} (ry : RelV y u) :
    KV (kvs.map fun kv => if kv.1 = k then (kv.1, y) else kv) (vs.map fun kv => if kv.1 = k then (kv.1, u) else kv) := by
  unfold KV at r ⊢
  induction r with
  | nil => exact .nil
  | @cons p q ps qs h t ih =>
    rw [List.map_cons, List.map_cons]
    refine .cons ?_ ih
    obtain ⟨h1, h2⟩ := h
    by_cases e : p.1 = k
    · rw [if_pos e, if_pos (h1.symm.trans e)]; exact ⟨h1, ry⟩
    · rw [if_neg e, if_neg (fun z => e (h1.trans z))]; exact ⟨h1, h2⟩
theorem KV.put {kvs : List (κ × V)} {vs : List (κ × Value)} (r : KV kvs vs) (k : κ) {y : V} {u : Value} (ry : RelV y u) : KV (putK kvs k y) (stored vs k u) := by
  unfold putK stored
  rw [r.any k]
  by_cases e : (vs.any fun kv => decide (kv.1 = k)) = true
  · rw [if_pos e, if_pos e]; exact r.repl k ry
  · rw [if_neg e, if_neg e]; exact Paired.snoc r ⟨rfl, ry⟩
theorem KV.length {kvs : List (κ × V)} {vs : List (κ × Value)} (r : KV kvs vs) : kvs.length = vs.length := Paired.length r
end
theorem kV_is {P : Program} {w : World} {k : Key} {u : Value} (r : RelV (kV k) u) : (mixKind P w).is k u = true := by
  cases k with
  | inl i => obtain ⟨t, e⟩ := (show ∃ t, u = Value.int i t from r); subst e; exact mixKind_int P w i t
  | inr x => obtain ⟨t, e⟩ := (show ∃ t, u = Value.str x t from r); subst e; exact mixKind_str P w x t
theorem items_are {P : Program} {w : World} : ∀ {ks : List Key} {us : List Value}, Vals (ks.map kV) us → ItemsAre (mixKind P w) ks us
  | [], _, r => by rw [List.map_nil] at r; cases r; exact .nil
  | k :: ks, _, r => by
    rw [List.map_cons] at r
    cases r with
    | cons h t => exact .cons (kV_is h) (items_are t)
abbrev KT (H : Hp) : List (List Key × V) → List (List Key × Addr × Value) → Prop := Paired fun p q => p.1 = q.1 ∧ H q.2.1 = some (.tup (p.1.map kV)) ∧ RelV p.2 q.2.2
theorem KT.val {H : Hp} {kvs : List (List Key × V)} {xs : List (List Key × Addr × Value)} (r : KT H kvs xs) (k : List Key) : RelO (valV kvs k) ((atKey xs k).map (·.2)) := by
  induction r with
  | nil => exact True.intro
  | @cons p q ps qs h t ih =>
    obtain ⟨h1, _, h2⟩ := h
    by_cases e : p.1 = k
    · have e' : q.1 = k := h1.symm.trans e
      have b : atKey (q :: qs) k = some q.2 := by simp [atKey, List.find?_cons, e']
      rw [valV_pos e, b]; exact h2
    · have e' : ¬ q.1 = k := fun z => e (h1.trans z)
      have b : atKey (q :: qs) k = atKey qs k := by simp [atKey, List.find?_cons, e']
      rw [valV_neg e, b]; exact ih
theorem KT.repl {H : Hp} {kvs : List (List Key × V)} {xs : List (List Key × Addr × Value)} (r : KT H kvs xs) (k : List Key) {y : V} {u : Value} (ry : RelV y u) :
    KT H (kvs.map fun kv => if kv.1 = k then (kv.1, y) else kv) (xs.map (putAt k u)) := by
  induction r with
  | nil => exact .nil
  | @cons p q ps qs h t ih =>
    rw [List.map_cons, List.map_cons]
    refine .cons ?_ ih
    obtain ⟨h1, h2, h3⟩ := h
    unfold putAt
    by_cases e : p.1 = k
    · rw [if_pos e, if_pos (h1.symm.trans e)]; exact ⟨h1, h2, ry⟩
    · rw [if_neg e, if_neg (fun z => e (h1.trans z))]; exact ⟨h1, h2, h3⟩
theorem KT.put {H : Hp} {kvs : List (List Key × V)} {xs : List (List Key × Addr × Value)} (r : KT H kvs xs) (k : List Key) {b : Addr} {y : V} {u : Value} (hb : H b = some (.tup (k.map kV))) (ry : RelV y u) :
    KT H (putK kvs k y) (storedH xs k b u) := by
  have e : (kvs.any fun kv => decide (kv.1 = k)) = (atKey xs k).isSome := by
    rw [valV_any, (r.val k).isSome_eq, Option.isSome_map]
  unfold putK storedH
  rw [e]
  by_cases q : (atKey xs k).isSome = true
  · rw [if_pos q, if_pos q]; exact r.repl k ry
  · rw [if_neg q, if_neg q]; exact Paired.snoc r ⟨rfl, hb, ry⟩
theorem KT.keeps {H H' : Hp} {kvs : List (List Key × V)} {xs : List (List Key × Addr × Value)} (r : KT H kvs xs) (ht : ∀ b ys, H b = some (.tup ys) → H' b = some (.tup ys)) : KT H' kvs xs :=
  Paired.mapP r fun _ _ z => ⟨z.1, ht _ _ z.2.1, z.2.2⟩
section
variable {P : Program} {w : World} {H : Hp} {h : Heap} {a : Addr}
theorem rd_of {u : HO} (ok : HOk P w H h) (e : Rd H a u) : ObjOk P w H h a u := e.ok ok
theorem dk_rd {kvs : List (Key × V)} (ok : HOk P w H h) (e : Rd H a (.dK kvs)) : kvs.length ≤ sizeLine ∧ (a == sysModules) = false ∧ ∃ vs, KV kvs vs ∧ h.DictOf (mixKind P w) a vs :=
  show ObjOk P w H h a (.dK kvs) from rd_of ok e
theorem dk_of {kvs : List (Key × V)} (ok : HOk P w H h) (e : H a = some (.dK kvs)) : kvs.length ≤ sizeLine ∧ (a == sysModules) = false ∧ ∃ vs, KV kvs vs ∧ h.DictOf (mixKind P w) a vs := dk_rd ok (.inl e)
theorem key_of {ks : List Key} (ok : HOk P w H h) (e : H a = some (.tup (ks.map kV))) : (tupleKind (mixKind P w)).is h ks a := by
  obtain ⟨_, its, r, o, h1, h2, n, h3⟩ := (show ObjOk P w H h a (.tup (ks.map kV)) from ok a _ e)
  exact ⟨o, its.toArray, n, h1, h2, h3, by simpa using items_are r⟩
theorem dt_rd {kvs : List (List Key × V)} (ok : HOk P w H h) (e : Rd H a (.dT kvs)) : kvs.length ≤ sizeLine ∧ (a == sysModules) = false ∧
    ∃ xs, KT H kvs xs ∧ h.DictOfH (tupleKind (mixKind P w)) a xs := by
  obtain ⟨z, y, xs, r, o, es, ep, h1, h2, h3, h4, h5⟩ := (show ObjOk P w H h a (.dT kvs) from rd_of ok e)
  refine ⟨z, y, xs, r, o, es, ep, h1, h2, h3, h4, fun x hx => ?_, h5⟩
  have all : ∀ {l : List (List Key × V)} {m : List (List Key × Addr × Value)}, KT H l m → ∀ x ∈ m, (tupleKind (mixKind P w)).is h x.1 x.2.1 := by
    intro l m q
    induction q with
    | nil => intro x hx; exact nomatch hx
    | @cons p q ps qs hq t ih =>
      intro x hx
      rcases List.mem_cons.mp hx with e | hx
      · subst e
        exact key_of ok (by rw [← hq.1]; exact hq.2.1)
      · exact ih x hx
  exact all r x hx
theorem dt_of {kvs : List (List Key × V)} (ok : HOk P w H h) (e : H a = some (.dT kvs)) : kvs.length ≤ sizeLine ∧ (a == sysModules) = false ∧
    ∃ xs, KT H kvs xs ∧ h.DictOfH (tupleKind (mixKind P w)) a xs := dt_rd ok (.inl e)
end
def DGet (H : Hp) (a : Addr) (y : V) (r : Option V) : Prop :=
  (∃ kvs k, Rd H a (.dK kvs) ∧ y = kV k ∧ r = valV kvs k) ∨ ∃ kvs k b, Rd H a (.dT kvs) ∧ y = .ref b ∧ H b = some (.tup (k.map kV)) ∧ r = valV kvs k
def DPut (H : Hp) (a : Addr) (y v : V) (H' : Hp) : Prop :=
  (∃ kvs k, H a = some (.dK kvs) ∧ y = kV k ∧ kvs.length < sizeLine ∧ H' = upd H a (.dK (putK kvs k v))) ∨
  ∃ kvs k b, H a = some (.dT kvs) ∧ y = .ref b ∧ H b = some (.tup (k.map kV)) ∧ kvs.length < sizeLine ∧ H' = upd H a (.dT (putK kvs k v))
theorem DGet.k {H : Hp} {a : Addr} {kvs : List (Key × V)} {k : Key} (e : H a = some (.dK kvs)) : DGet H a (kV k) (valV kvs k) := .inl ⟨kvs, k, .inl e, rfl, rfl⟩
theorem DPut.k {H : Hp} {a : Addr} {kvs : List (Key × V)} {k : Key} {v : V} (e : H a = some (.dK kvs)) (hl : kvs.length < sizeLine) : DPut H a (kV k) v (upd H a (.dK (putK kvs k v))) := .inl ⟨kvs, k, e, rfl, hl, rfl⟩
section
variable {X : Cx} {pins : List (Addr × Obj)} {σ : St} {H : Hp} {s : Shared} {a : Addr} {y v : V} {u r : Value} {o : Option V} {A : Around} {E : Value → Shared → Prop}
theorem Inv.big (I : Inv X pins σ H s) : sysModules < s.heap.objs.size := by
  have h : mainGlobals < s.heap.objs.size := (I.mod.glob.keeps I.bk).lt
  exact Nat.lt_trans (by decide) h
theorem d_getItem {Q : Value → Shared → Prop} (hu : A.units + 1 < cLine) (I : Inv X pins σ H s) (g : DGet H a y (some v)) (ry : RelV y u) (h : ∀ w' s', Inv X pins σ H s' → RelV v w' → Q w' s') :
    wpAny (model X.prog X.w) A (getItem (.ref a) u) Q E s := by
  rcases g with ⟨kvs, k, e, ey, l⟩ | ⟨kvs, k, b, e, ey, eb, l⟩
  · subst ey
    obtain ⟨z, hd, vs, rel, dd⟩ := dk_rd I.hok e
    obtain ⟨w', hw, rw'⟩ := RelO.some_of (v := v) (o := valueAt vs k) (by rw [l]; exact rel.val k)
    exact wpAny_getItem_of (kV_is ry) dd.mapOf hw (h w' _ (I.tok _) rw')
  · subst ey
    cases (show u = Value.ref b from ry)
    obtain ⟨z, hd, xs, rel, dd⟩ := dt_rd I.hok e
    obtain ⟨w', hw, rw'⟩ := RelO.some_of (v := v) (o := (atKey xs k).map (·.2)) (by rw [l]; exact rel.val k)
    obtain ⟨p, hp, hp2⟩ := Option.map_eq_some_iff.mp hw
    refine wpAny_getItem_heap (tupleKind_room_in1 hu) (key_of I.hok eb) dd hp ?_
    rw [hp2]
    exact h w' _ (I.tok _) rw'
theorem d_notIn {Q : Value → Shared → Prop} (hu : A.units + 1 < cLine) (I : Inv X pins σ H s) (g : DGet H a y o) (ry : RelV y u) (h : ∀ s', Inv X pins σ H s' → Q (.bool (!o.isSome)) s') :
    wpAny (model X.prog X.w) A (compareOp .NotIn u (.ref a)) Q E s := by
  rcases g with ⟨kvs, k, e, ey, l⟩ | ⟨kvs, k, b, e, ey, eb, l⟩
  · subst ey
    obtain ⟨z, hd, vs, rel, dd⟩ := dk_rd I.hok e
    refine wpAny_notIn_of (kV_is ry) hd dd.mapOf ?_
    rw [← (rel.val k).isSome_eq, ← l]
    exact h _ (I.tok _)
  · subst ey
    cases (show u = Value.ref b from ry)
    obtain ⟨z, hd, xs, rel, dd⟩ := dt_rd I.hok e
    refine wpAny_notIn_heap (tupleKind_room_in1 hu) (key_of I.hok eb) hd dd ?_
    have q := (rel.val k).isSome_eq
    rw [Option.isSome_map] at q
    rw [← q, ← l]
    exact h _ (I.tok _)
theorem d_write {h' : Heap} {t' : Nat} {ob : HO} (I : Inv X pins σ H s) (mu : Mut (H a)) (hs : Heap.SameBut a s.heap h') (he : ∃ q, h'.get? a = some q) (new : ObjOk X.prog X.w (upd H a ob) h' a ob) :
    Inv X pins σ (upd H a ob) { s with heap := h', toks := t' } :=
  I.write (x := a) (e := a) mu (.inl rfl) (fun b q hb z => (hs.2 b hb).trans z) he new
theorem dk_new {P : Program} {w : World} {H' : Hp} {h' : Heap} {kvs : List (Key × V)} {vs : List (Key × Value)} (z : kvs.length ≤ sizeLine) (hd : (a == sysModules) = false) (rel : KV kvs vs) (dd : h'.DictOf (mixKind P w) a vs) :
    ObjOk P w H' h' a (.dK kvs) := ⟨z, hd, vs, rel, dd⟩
theorem d_setItem {H' : Hp} {Q : Unit → Shared → Prop} (hu : A.units + 1 < cLine) (I : Inv X pins σ H s) (g : DPut H a y v H') (ry : RelV y u) (rv : RelV v r) (h : ∀ s', Inv X pins σ H' s' → Q () s') :
    wpAny (model X.prog X.w) A (setItem (.ref a) u r) Q E s := by
  rcases g with ⟨kvs, k, e, ey, l, eH⟩ | ⟨kvs, k, b, e, ey, eb, l, eH⟩
  · subst ey eH
    obtain ⟨z, hd, vs, rel, dd⟩ := dk_of I.hok e
    have hz : vs.length ≤ sizeLine := by rw [← rel.length]; exact z
    have hl : (putK kvs k v).length ≤ sizeLine := by have := length_putK kvs k v; omega
    refine wpAny_setItem_pairs (hsz := hz) (kV_is ry) dd fun h' dd' hs => h _ ?_
    have he : ∃ q, h'.get? a = some q := let ⟨q, _, _, hq, _⟩ := dd'; ⟨q, hq⟩
    exact d_write I (by rw [e]; exact True.intro) hs he (dk_new hl hd (rel.put k rv) dd')
  · subst ey eH
    cases (show u = Value.ref b from ry)
    obtain ⟨z, hd, xs, rel, dd⟩ := dt_of I.hok e
    have hz : xs.length ≤ sizeLine := by rw [← Paired.length rel]; exact z
    have hl : (putK kvs k v).length ≤ sizeLine := by have := length_putK kvs k v; omega
    refine wpAny_setItem_heap (hsz := hz) (tupleKind_room_in1 hu) (key_of I.hok eb) dd fun h' dd' hs => h _ ?_
    obtain ⟨q, es, ep, hq, h2, h3, h4, _, h5⟩ := dd'
    refine d_write I (by rw [e]; exact True.intro) hs ⟨q, hq⟩ ⟨hl, hd, _, (rel.put k eb rv).keeps fun c ys ec => ?_, q, es, ep, hq, h2, h3, h4, h5⟩
    rw [upd_ne (ne_of ec e (fun z => nomatch z))]
    exact ec
end
section
variable {X : Cx} {pins : List (Addr × Obj)} {σ : St} {H : Hp} {s : Shared} {a : Addr} {kvs : List (Key × V)} {k : Key} {u : Value} {A : Around} {E : Value → Shared → Prop}
theorem d_len {Q : Value → Shared → Prop} (I : Inv X pins σ H s) (e : Rd H a (.dK kvs)) (h : ∀ t s', Inv X pins σ H s' → Q (.int kvs.length t) s') : wpAny (model X.prog X.w) A (call (.builtin "len") [.ref a]) Q E s := by
  obtain ⟨z, hd, vs, rel, dd⟩ := dk_rd I.hok e
  refine call_len_dict hd dd (by rw [← rel.length]; rw [sizeLine_eq] at z; omega) ?_
  rw [← rel.length]
  exact h _ _ (I.tok _)
end
def NoSl (i : Expr) : Prop := ∀ ov iv, subscripted i false ov iv = operate [ov, iv] (getItem ov iv)
theorem subD_of {prog : Program} {w : World} {A : Around} {E : Value → Shared → Prop} {s : Shared} {env : Env} {value slice : Expr} {pos : Pos} {T id : String} {Q : Value → Shared → Prop}
    (hl : typeLookup (.type T) "__getitem__" = pure (some (.builtin id))) (hs : NoSl slice)
    (h : wpAny (model prog w) A (eval value env) (fun o s₁ => wpAny (model prog w) A (eval slice env) (fun i s₂ => s₂.TypeIs o T ∧ wpAny (model prog w) A (getItem o i) Q E s₂) E s₁) E s) :
    wpAny (model prog w) A (eval (.Subscript value slice pos) env) Q E s := by
  refine Subscript_ (wpAny_mono h (fun o s₁ h₁ => wpAny_mono h₁ (fun i s₂ h₂ => ?_) fun _ _ x => x) fun _ _ x => x)
  obtain ⟨hT, h₂⟩ := h₂
  unfold subscriptTail
  refine wpAny_bind ?_
  rw [getitemInPython_of_ne hT.not_modules]
  refine wpAny_bind (wpAny_specialOf hT hl ?_)
  have fin : wpAny (model prog w) A (subscripted slice false o i) (fun r s₃ => wpAny (model prog w) A (letTemporaryGo value o r >>= fun _ => pure r) Q E s₃) E s₂ := by
    rw [hs o i]
    exact wpAny_operating (wpAny_mono h₂ (fun r s₃ h₃ => wpAny_bind (wpAny_letTemporaryGo (wpAny_pure h₃))) fun _ _ x => x)
  first
    | exact wpAny_pure (wpAny_bind fin)
    | exact wpAny_bind (wpAny_pure (wpAny_bind fin))
    | exact wpAny_bind fin
theorem dict_typeIs {X : Cx} {pins : List (Addr × Obj)} {σ : St} {H : Hp} {s : Shared} {a : Addr} {y : V} {o : Option V} (I : Inv X pins σ H s) (g : DGet H a y o) : s.TypeIs (.ref a) "dict" := by
  rcases g with ⟨kvs, k, e, _, _⟩ | ⟨kvs, k, b, e, _, _, _⟩
  · obtain ⟨_, _, vs, _, dd⟩ := dk_rd I.hok e
    exact dd.typeIs
  · obtain ⟨_, _, xs, _, dd⟩ := dt_rd I.hok e
    exact dd.typeIs
def tDGet (td ty : TE) : TE := fun σ H Q => td σ H fun x H1 => ty σ H1 fun y H2 => ∃ a v, x = .ref a ∧ DGet H2 a y (some v) ∧ Q v H2
def tDNotIn (ty td : TE) : TE := fun σ H Q => ty σ H fun y H1 => td σ H1 fun x H2 => ∃ a o, x = .ref a ∧ DGet H2 a y o ∧ Q (.bl (!o.isSome)) H2
def sDPut (td ty tv : TE) : TS := fun D σ H => tv σ H fun v H1 => td σ H1 fun x H2 => ty σ H2 fun y H3 => ∃ a H4, x = .ref a ∧ DPut H3 a y v H4 ∧ D.nx σ H4
section
variable {X : Cx} {o i e value : Expr} {pos pos' tpos : Pos} {td ty tv : TE}
theorem pe_dget (hu : X.A.units + 1 < cLine) (ho : PE X o td) (hi : PE X i ty) (hs : NoSl i) : PE X (.Subscript o i pos) (tDGet td ty) := by
  intro pins s σ H Q I h
  refine subD_of PySem.F.slot_dict_getitem.lookup hs (thn (ho pins s σ H _ I h) fun u s1 ⟨x, H1, I1, rx, q1⟩ => thn (hi pins s1 σ H1 _ I1 q1) fun iv s2 ⟨y, H2, I2, ry, a, v, ex, g, q2⟩ => ?_)
  subst ex
  obtain rfl : u = Value.ref a := rx
  exact ⟨dict_typeIs I2 g, d_getItem hu I2 g ry fun w' s3 I3 rw' => ⟨v, H2, I3, rw', q2⟩⟩
theorem pc_dnotin (hu : X.A.units + 1 < cLine) (hi : PE X i ty) (ho : PE X o td) : PC X .NotIn i o (tDNotIn ty td) := by
  intro pins s σ H Q I h
  refine thn (hi pins s σ H _ I h) fun iv s1 ⟨y, H1, I1, ry, q1⟩ => thn (ho pins s1 σ H1 _ I1 q1) fun u s2 ⟨x, H2, I2, rx, a, ov, ex, g, q2⟩ => ?_
  subst ex
  obtain rfl : u = Value.ref a := rx
  exact d_notIn hu I2 g ry fun s3 I3 => ⟨.bl (!ov.isSome), H2, I3, rfl, q2⟩
theorem ps_dput (hu : X.A.units + 1 < cLine) (ho : PE X o td) (hi : PE X i ty) (hv : PE X value tv) (hs : swapsWith value (some (.Subscript o i pos')) pos.line X.env = pure false) :
    PS X (.Assign [.Subscript o i pos'] value pos) (sDPut td ty tv) := by
  intro pins s σ H D I h
  refine wpAny_Assign_Subscript (thn (hv pins s σ H _ I h) fun r s1 ⟨v, H1, I1, rv, q1⟩ => thn (ho pins s1 σ H1 _ I1 q1) fun u s2 ⟨x, H2, I2, rx, q2⟩ => thn (hi pins s2 σ H2 _ I2 q2) fun iv s3 ⟨y, H3, I3, ry, a, H4, ex, g, q3⟩ => ?_) hs
  subst ex
  obtain rfl : u = Value.ref a := rx
  exact d_setItem hu I3 g ry rv fun s4 I4 => ⟨σ, H4, I4, q3⟩
end
theorem dk_empty {P : Program} {w : World} {H : Hp} (h : Heap) (hb : sysModules < h.objs.size) : ObjOk P w H (h.push { cls := .type "dict", data := .dict #[] }) h.objs.size (.dK []) :=
  ⟨Nat.zero_le _, beq_eq_false_iff_ne.mpr (Ne.symm (Nat.ne_of_lt hb)), [], .nil, Heap.DictOf.new h⟩
def tDNewK : TE := fun _ H Q => ∀ p, H p = none → Q (.ref p) (upd H p (.dK []))
section
variable {X : Cx} {pos : Pos}
theorem pe_dnewK : PE X (.Dict [] [] pos) tDNewK := fun pins s σ H Q I h =>
  wpAny_Dict_empty ⟨.ref s.heap.objs.size, _, I.laid (a := s.heap.objs.size) (o := .dK []) (t' := s.toks) (fun _ _ q => Heap.get?_push_of_some _ q) (Nat.le_refl _) (dk_empty s.heap I.big), rfl, h _ (I.hok.fresh (Nat.le_refl _))⟩
end
section
variable {X : Cx} {pins : List (Addr × Obj)} {σ : St} {H : Hp} {s : Shared} {a : Addr} {y d : V} {u r : Value} {o : Option V} {A : Around} {E : Value → Shared → Prop}
end
section
variable {X : Cx} {o e f : Expr} {apos cpos : Pos} {td ty tx : TE}
end
section
variable {X : Cx} {pins : List (Addr × Obj)} {σ : St} {H : Hp} {s : Shared} {a : Addr} {kvs : List (Key × V)} {A : Around} {E : Value → Shared → Prop}
end
section
variable {X : Cx} {pins : List (Addr × Obj)} {σ : St} {H : Hp} {s : Shared} {a : Addr} {y : V} {u : Value} {A : Around} {E : Value → Shared → Prop}
end
section
variable {X : Cx}
theorem call_lenD : CallR X (.builtin "len") (fun xs H Q => ∃ a kvs, xs = [V.ref a] ∧ H a = some (.dK kvs) ∧ Q (.int kvs.length) H) := by
  intro pins s σ H xs us Q I r h
  obtain ⟨a, kvs, rfl, ha, q⟩ := h
  obtain ⟨u, rfl, ru⟩ := vals1 r
  cases ru
  exact d_len I (.inl ha) fun t s' I' => ⟨.int kvs.length, H, I', ⟨t, rfl⟩, q⟩
end
section
variable {κ : Type} [DecidableEq κ]
end
end L2
set_option maxRecDepth 100000
set_option linter.all false
set_option Elab.async false
set_option maxHeartbeats 4000000
inductive Dt where
  | non | bl (b : Bool) | int (i : Int) | str (x : PySem.Str) | tup (ds : List Dt)
namespace Dt
open PySem
mutual
def eqD : Dt → Dt → Bool
  | .non, .non => true
  | .bl a, .bl b => a == b
  | .bl a, .int b => (if a then 1 else 0) == b
  | .int a, .bl b => a == (if b then 1 else 0)
  | .int a, .int b => a == b
  | .str a, .str b => a == b
  | .tup xs, .tup ys => eqDs xs ys
  | _, _ => false
def eqDs : List Dt → List Dt → Bool
  | [], [] => true
  | x :: xs, y :: ys => eqD x y && eqDs xs ys
  | _, _ => false
end
mutual
def dep : Dt → Nat
  | .tup xs => deps xs + 1
  | _ => 0
def deps : List Dt → Nat
  | [] => 0
  | x :: xs => max (dep x) (deps xs)
end
mutual
theorem eqD_refl : ∀ d : Dt, eqD d d = true
  | .non => rfl
  | .bl a => by simp [eqD]
  | .int a => by simp [eqD]
  | .str a => by simp [eqD]
  | .tup xs => by rw [eqD]; exact eqDs_refl xs
theorem eqDs_refl : ∀ ds : List Dt, eqDs ds ds = true
  | [] => rfl
  | x :: xs => by rw [eqDs, eqD_refl x, eqDs_refl xs]; rfl
end
theorem eqDs_length : ∀ {xs ys : List Dt}, eqDs xs ys = true → xs.length = ys.length
  | [], [], _ => rfl
  | [], _ :: _, h => by simp [eqDs] at h
  | _ :: _, [], h => by simp [eqDs] at h
  | x :: xs, y :: ys, h => by
    rw [eqDs, Bool.and_eq_true] at h
    rw [List.length_cons, List.length_cons, eqDs_length h.2]
theorem eqDs_all (z : Dt) : ∀ (xs ys : List Dt), ((List.range (min xs.length ys.length)).all (fun j => eqD (xs.getD j z) (ys.getD j z)) && xs.length == ys.length) = eqDs xs ys
  | [], [] => rfl
  | [], _ :: _ => by simp [eqDs]
  | _ :: _, [] => by simp [eqDs]
  | x :: xs, y :: ys => by
    rw [eqDs, ← eqDs_all z xs ys]
    have e : min (x :: xs).length (y :: ys).length = min xs.length ys.length + 1 := by simp only [List.length_cons]; omega
    rw [e, List.range_succ_eq_map, List.all_cons, List.all_map]
    have e2 : ((x :: xs).length == (y :: ys).length) = (xs.length == ys.length) := by
      rw [Bool.eq_iff_iff, beq_iff_eq, beq_iff_eq, List.length_cons, List.length_cons]; omega
    rw [e2, Bool.and_assoc]
    rfl
end Dt
namespace L2
open PySem PySem.Spec PyProof.Rows PyProof Dt
mutual
def DtAt (K : PySem.W.Frag) (H : Hp) : Dt → V → Prop
  | .non, v => v = .non
  | .bl b, v => v = .bl b
  | .int i, v => v = .int i
  | .str x, v => v = .str x
  | .tup ds, v => ∃ a vs, v = .ref a ∧ SqT K H a vs ∧ DtsAt K H ds vs
def DtsAt (K : PySem.W.Frag) (H : Hp) : List Dt → List V → Prop
  | [], vs => vs = []
  | d :: ds, vs => ∃ v r, vs = v :: r ∧ DtAt K H d v ∧ DtsAt K H ds r
end
theorem SqT.mono {K : PySem.W.Frag} {H H' : Hp} {a : Addr} {xs : List V} (e : Same H H') (h : SqT K H a xs) : SqT K H' a xs := by
  rcases h with (h | ⟨o, h⟩) | h
  · exact .inl (.inl (e _ _ h))
  · exact .inl (.inr ⟨o, e _ _ h⟩)
  · exact .inr h
mutual
theorem DtAt.mono {K : PySem.W.Frag} {H H' : Hp} (e : Same H H') : ∀ {d : Dt} {v : V}, DtAt K H d v → DtAt K H' d v
  | .non, _, h => by rw [DtAt] at h ⊢; exact h
  | .bl _, _, h => by rw [DtAt] at h ⊢; exact h
  | .int _, _, h => by rw [DtAt] at h ⊢; exact h
  | .str _, _, h => by rw [DtAt] at h ⊢; exact h
  | .tup ds, _, h => by
    rw [DtAt] at h ⊢
    obtain ⟨a, vs, h1, h2, h3⟩ := h
    exact ⟨a, vs, h1, h2.mono e, DtsAt.mono e h3⟩
theorem DtsAt.mono {K : PySem.W.Frag} {H H' : Hp} (e : Same H H') : ∀ {ds : List Dt} {vs : List V}, DtsAt K H ds vs → DtsAt K H' ds vs
  | [], _, h => by rw [DtsAt] at h ⊢; exact h
  | d :: ds, _, h => by
    rw [DtsAt] at h ⊢
    obtain ⟨v, r, h1, h2, h3⟩ := h
    exact ⟨v, r, h1, DtAt.mono e h2, DtsAt.mono e h3⟩
end
theorem DtsAt.length {K : PySem.W.Frag} {H : Hp} : ∀ {ds : List Dt} {vs : List V}, DtsAt K H ds vs → vs.length = ds.length
  | [], _, h => by rw [DtsAt] at h; rw [h]; rfl
  | d :: ds, _, h => by
    rw [DtsAt] at h
    obtain ⟨v, r, rfl, _, h3⟩ := h
    rw [List.length_cons, List.length_cons, DtsAt.length h3]
theorem DtsAt.get {K : PySem.W.Frag} {H : Hp} : ∀ {ds : List Dt} {vs : List V} {i : Nat} {d : Dt}, DtsAt K H ds vs → ds[i]? = some d → ∃ v, vs[i]? = some v ∧ DtAt K H d v
  | [], _, _, _, _, e => by simp at e
  | d :: ds, _, 0, d', h, e => by
    rw [DtsAt] at h
    obtain ⟨v, r, rfl, h2, _⟩ := h
    have : d = d' := by simpa using e
    subst this
    exact ⟨v, rfl, h2⟩
  | d :: ds, _, i + 1, d', h, e => by
    rw [DtsAt] at h
    obtain ⟨v, r, rfl, _, h3⟩ := h
    obtain ⟨v', h4, h5⟩ := DtsAt.get (i := i) h3 (by simpa using e)
    exact ⟨v', by simpa using h4, h5⟩
theorem DtsAt.append {K : PySem.W.Frag} {H : Hp} : ∀ {ds es : List Dt} {vs ws : List V}, DtsAt K H ds vs → DtsAt K H es ws → DtsAt K H (ds ++ es) (vs ++ ws)
  | [], _, _, _, h, g => by rw [DtsAt] at h; subst h; exact g
  | d :: ds, _, _, _, h, g => by
    rw [DtsAt] at h
    obtain ⟨v, r, rfl, h2, h3⟩ := h
    rw [List.cons_append, DtsAt]
    exact ⟨v, r ++ _, rfl, h2, DtsAt.append h3 g⟩
section
variable {X : Cx} {pins : List (Addr × Obj)} {σ : St} {H : Hp} {s : Shared}
mutual
theorem dt_inj (I : Inv X pins σ H s) : ∀ {d e : Dt} {v : V}, DtAt X.K H d v → DtAt X.K H e v → d = e
  | .non, e, v, h, g => by
    rw [DtAt] at h
    subst h
    cases e with
    | non => first | rfl | (rw [DtAt] at g; cases g)
    | bl c => rw [DtAt] at g; cases g; all_goals rfl
    | int c => rw [DtAt] at g; cases g; all_goals rfl
    | str c => rw [DtAt] at g; cases g; all_goals rfl
    | tup es => rw [DtAt] at g; obtain ⟨_, _, z, _⟩ := g; cases z
  | .bl b, e, v, h, g => by
    rw [DtAt] at h
    subst h
    cases e with
    | non => first | rfl | (rw [DtAt] at g; cases g)
    | bl c => rw [DtAt] at g; cases g; all_goals rfl
    | int c => rw [DtAt] at g; cases g; all_goals rfl
    | str c => rw [DtAt] at g; cases g; all_goals rfl
    | tup es => rw [DtAt] at g; obtain ⟨_, _, z, _⟩ := g; cases z
  | .int i, e, v, h, g => by
    rw [DtAt] at h
    subst h
    cases e with
    | non => first | rfl | (rw [DtAt] at g; cases g)
    | bl c => rw [DtAt] at g; cases g; all_goals rfl
    | int c => rw [DtAt] at g; cases g; all_goals rfl
    | str c => rw [DtAt] at g; cases g; all_goals rfl
    | tup es => rw [DtAt] at g; obtain ⟨_, _, z, _⟩ := g; cases z
  | .str x, e, v, h, g => by
    rw [DtAt] at h
    subst h
    cases e with
    | non => first | rfl | (rw [DtAt] at g; cases g)
    | bl c => rw [DtAt] at g; cases g; all_goals rfl
    | int c => rw [DtAt] at g; cases g; all_goals rfl
    | str c => rw [DtAt] at g; cases g; all_goals rfl
    | tup es => rw [DtAt] at g; obtain ⟨_, _, z, _⟩ := g; cases z
  | .tup ds, e, v, h, g => by
    rw [DtAt] at h
    obtain ⟨a, vs, rfl, h2, h3⟩ := h
    cases e with
    | tup es =>
      rw [DtAt] at g
      obtain ⟨a', vs', e1, g2, g3⟩ := g
      cases e1
      have e2 := I.tuple_inj h2 g2
      subst e2
      rw [dts_inj I h3 g3]
    | _ => rw [DtAt] at g; cases g
theorem dts_inj (I : Inv X pins σ H s) : ∀ {ds es : List Dt} {vs : List V}, DtsAt X.K H ds vs → DtsAt X.K H es vs → ds = es
  | [], es, vs, h, g => by
    rw [DtsAt] at h
    subst h
    cases es with
    | nil => rfl
    | cons e es => rw [DtsAt] at g; obtain ⟨_, _, z, _⟩ := g; cases z
  | d :: ds, es, vs, h, g => by
    rw [DtsAt] at h
    obtain ⟨v, r, rfl, h2, h3⟩ := h
    cases es with
    | nil => rw [DtsAt] at g; cases g
    | cons e es =>
      rw [DtsAt] at g
      obtain ⟨v', r', z, g2, g3⟩ := g
      cases z
      rw [dt_inj I h2 g2, dts_inj I h3 g3]
end
theorem tup_is (I : Inv X pins σ H s) {ds : List Dt} {v : V} {u : Value} (h : DtAt X.K H (.tup ds) v) (r : RelV v u) : ∃ a its, u = .ref a ∧ s.heap.IsTuple a its ∧ v = .ref a := by
  rw [DtAt] at h
  obtain ⟨a, vs, rfl, h2, _⟩ := h
  obtain ⟨its, _, ht, _⟩ := I.tuple h2
  exact ⟨a, _, r, ht, rfl⟩
mutual
theorem eqAt_D (I : Inv X pins σ H s) : ∀ (d e : Dt) (A : Around) (x y : V) (u v : Value), A.units + dep d < cLine → DtAt X.K H d x → DtAt X.K H e y → RelV x u → RelV y v → SeqAt.EqAt A s u v (eqD d e)
  | .non, e, A, x, y, u, v, hu, h, g, r1, r2 => by
    have hu' : A.units < cLine := by omega
    rw [DtAt] at h; subst h; cases r1
    cases e with
    | non => rw [DtAt] at g; subst g; cases r2; exact SeqAt.EqAt.same _
    | bl b => rw [DtAt] at g; subst g; cases r2; exact SeqAt.EqAt.none_bool b
    | int b => rw [DtAt] at g; subst g; obtain ⟨t, rfl⟩ := r2; exact SeqAt.EqAt.none_int b t
    | str b => rw [DtAt] at g; subst g; obtain ⟨t, rfl⟩ := r2; exact SeqAt.EqAt.none_str b t
    | tup es => obtain ⟨a, its, rfl, ht, _⟩ := tup_is I g r2; exact SeqAt.EqAt.none_tuple ht hu'
  | .bl b, e, A, x, y, u, v, hu, h, g, r1, r2 => by
    have hu' : A.units < cLine := by omega
    rw [DtAt] at h; subst h; cases r1
    cases e with
    | non => rw [DtAt] at g; subst g; cases r2; exact SeqAt.EqAt.bool_none b
    | bl c => rw [DtAt] at g; subst g; cases r2; exact SeqAt.EqAt.bool_bool b c
    | int c => rw [DtAt] at g; subst g; obtain ⟨t, rfl⟩ := r2; exact SeqAt.EqAt.bool_int b c t
    | str c => rw [DtAt] at g; subst g; obtain ⟨t, rfl⟩ := r2; exact SeqAt.EqAt.bool_str b c t
    | tup es => obtain ⟨a, its, rfl, ht, _⟩ := tup_is I g r2; exact SeqAt.EqAt.bool_tuple b ht hu'
  | .int i, e, A, x, y, u, v, hu, h, g, r1, r2 => by
    have hu' : A.units < cLine := by omega
    rw [DtAt] at h; subst h; obtain ⟨t', rfl⟩ := r1
    cases e with
    | non => rw [DtAt] at g; subst g; cases r2; exact SeqAt.EqAt.int_none i t'
    | bl c => rw [DtAt] at g; subst g; cases r2; exact SeqAt.EqAt.int_bool i t' c
    | int c => rw [DtAt] at g; subst g; obtain ⟨t, rfl⟩ := r2; exact SeqAt.EqAt.int_int i t' c t
    | str c => rw [DtAt] at g; subst g; obtain ⟨t, rfl⟩ := r2; exact SeqAt.EqAt.int_str i t' c t
    | tup es => obtain ⟨a, its, rfl, ht, _⟩ := tup_is I g r2; exact SeqAt.EqAt.int_tuple i t' ht hu'
  | .str i, e, A, x, y, u, v, hu, h, g, r1, r2 => by
    have hu' : A.units < cLine := by omega
    rw [DtAt] at h; subst h; obtain ⟨t', rfl⟩ := r1
    cases e with
    | non => rw [DtAt] at g; subst g; cases r2; exact SeqAt.EqAt.str_none i t'
    | bl c => rw [DtAt] at g; subst g; cases r2; exact SeqAt.EqAt.str_bool i t' c
    | int c => rw [DtAt] at g; subst g; obtain ⟨t, rfl⟩ := r2; exact SeqAt.EqAt.str_int i t' c t
    | str c => rw [DtAt] at g; subst g; obtain ⟨t, rfl⟩ := r2; exact SeqAt.EqAt.str_str i t' c t
    | tup es => obtain ⟨a, its, rfl, ht, _⟩ := tup_is I g r2; exact SeqAt.EqAt.str_tuple i t' ht hu'
  | .tup ds, e, A, x, y, u, v, hu, h, g, r1, r2 => by
    rw [dep] at hu
    have hu' : A.units < cLine := by omega
    cases e with
    | non => obtain ⟨a, its, rfl, ht, _⟩ := tup_is I h r1; rw [DtAt] at g; subst g; cases r2; exact SeqAt.EqAt.tuple_none ht hu'
    | bl c => obtain ⟨a, its, rfl, ht, _⟩ := tup_is I h r1; rw [DtAt] at g; subst g; cases r2; exact SeqAt.EqAt.tuple_bool c ht hu'
    | int c => obtain ⟨a, its, rfl, ht, _⟩ := tup_is I h r1; rw [DtAt] at g; subst g; obtain ⟨t, rfl⟩ := r2; exact SeqAt.EqAt.tuple_int c t ht hu'
    | str c => obtain ⟨a, its, rfl, ht, _⟩ := tup_is I h r1; rw [DtAt] at g; subst g; obtain ⟨t, rfl⟩ := r2; exact SeqAt.EqAt.tuple_str c t ht hu'
    | tup es =>
      have h0 := h
      have g0 := g
      rw [DtAt] at h g
      obtain ⟨a, vs, rfl, h2, h3⟩ := h
      obtain ⟨b, ws, rfl, g2, g3⟩ := g
      cases r1
      cases r2
      by_cases hab : a = b
      · subst hab
        have e0 := dt_inj I h0 g0
        rw [e0, eqD_refl]
        exact SeqAt.EqAt.same _
      · obtain ⟨its, rv, ht, _⟩ := I.tuple h2
        obtain ⟨its2, rw', ht2, _⟩ := I.tuple g2
        refine SeqAt.EqAt.of_refs hab ?_
        have l1 : its.length = ds.length := by rw [← rv.length, h3.length]
        have l2 : its2.length = es.length := by rw [← rw'.length, g3.length]
        have key := SeqAt.RcAt.tuples (e := fun j => eqD (ds.getD j .non) (es.getD j .non)) (show s.heap.IsTuple a its.toArray from ht) (show s.heap.IsTuple b its2.toArray from ht2) hu' fun j h1 h2' => by
          have := eqAts_D I ds es A.in1 vs ws its its2 (by show A.units + 1 + deps ds < cLine; omega) h3 g3 rv rw' j (by simpa using h1) (by simpa using h2')
          simpa using this
        rw [List.size_toArray, List.size_toArray, l1, l2, eqDs_all] at key
        rw [eqD]
        exact key
theorem eqAts_D (I : Inv X pins σ H s) : ∀ (ds es : List Dt) (A : Around) (xs ys : List V) (us vs : List Value), A.units + deps ds < cLine → DtsAt X.K H ds xs → DtsAt X.K H es ys → Vals xs us → Vals ys vs →
    ∀ (j : Nat) (h1 : j < us.length) (h2 : j < vs.length), SeqAt.EqAt A s us[j] vs[j] (eqD (ds.getD j .non) (es.getD j .non))
  | [], es, A, xs, ys, us, vs, hu, h, g, r1, r2, j, h1, h2 => by
    rw [DtsAt] at h; subst h; cases r1; simp at h1
  | d :: ds, [], A, xs, ys, us, vs, hu, h, g, r1, r2, j, h1, h2 => by
    rw [DtsAt] at g; subst g; cases r2; simp at h2
  | d :: ds, e :: es, A, xs, ys, us, vs, hu, h, g, r1, r2, j, h1, h2 => by
    rw [deps] at hu
    rw [DtsAt] at h g
    obtain ⟨x, xr, rfl, h3, h4⟩ := h
    obtain ⟨y, yr, rfl, g3, g4⟩ := g
    cases r1 with
    | cons p1 q1 =>
      cases r2 with
      | cons p2 q2 =>
        cases j with
        | zero => exact eqAt_D I d e A x y _ _ (by omega) h3 g3 p1 p2
        | succ j =>
          have := eqAts_D I ds es A xr yr _ _ (by omega) h4 g4 q1 q2 j (by simpa using h1) (by simpa using h2)
          simpa using this
end
end
end L2
set_option maxRecDepth 100000
set_option linter.all false
set_option Elab.async false
set_option maxHeartbeats 4000000
namespace L2
open PySem PySem.Spec PyProof.Rows PyProof Dt
section
variable {X : Cx} {pins : List (Addr × Obj)} {σ : St} {H : Hp} {s : Shared}
theorem rcAt_D (I : Inv X pins σ H s) (d e : Dt) (A : Around) (x y : V) (u v : Value) (hu : A.units + dep d < cLine) (h : DtAt X.K H d x) (g : DtAt X.K H e y) (r1 : RelV x u) (r2 : RelV y v) : SeqAt.RcAt A s u v (eqD d e) := by
  have hu' : A.units < cLine := by omega
  cases d with
  | non =>
    rw [DtAt] at h; subst h; cases r1
    cases e with
    | non => rw [DtAt] at g; subst g; cases r2; exact SeqAt.RcAt.none_none
    | bl c => rw [DtAt] at g; subst g; cases r2; exact SeqAt.RcAt.none_bool c
    | int c => rw [DtAt] at g; subst g; obtain ⟨t, rfl⟩ := r2; exact SeqAt.RcAt.none_int c t
    | str c => rw [DtAt] at g; subst g; obtain ⟨t, rfl⟩ := r2; exact SeqAt.RcAt.none_str c t
    | tup es => obtain ⟨a, its, rfl, ht, _⟩ := tup_is I g r2; exact SeqAt.RcAt.none_tuple ht hu'
  | bl b =>
    rw [DtAt] at h; subst h; cases r1
    cases e with
    | non => rw [DtAt] at g; subst g; cases r2; exact SeqAt.RcAt.bool_none b
    | bl c => rw [DtAt] at g; subst g; cases r2; exact SeqAt.RcAt.bool_bool b c
    | int c => rw [DtAt] at g; subst g; obtain ⟨t, rfl⟩ := r2; exact SeqAt.RcAt.bool_int b c t
    | str c => rw [DtAt] at g; subst g; obtain ⟨t, rfl⟩ := r2; exact SeqAt.RcAt.bool_str b c t
    | tup es => obtain ⟨a, its, rfl, ht, _⟩ := tup_is I g r2; exact SeqAt.RcAt.bool_tuple b ht hu'
  | int b =>
    rw [DtAt] at h; subst h; obtain ⟨t', rfl⟩ := r1
    cases e with
    | non => rw [DtAt] at g; subst g; cases r2; exact SeqAt.RcAt.int_none b t'
    | bl c => rw [DtAt] at g; subst g; cases r2; exact SeqAt.RcAt.int_bool b t' c
    | int c => rw [DtAt] at g; subst g; obtain ⟨t, rfl⟩ := r2; exact SeqAt.RcAt.int_int b t' c t
    | str c => rw [DtAt] at g; subst g; obtain ⟨t, rfl⟩ := r2; exact SeqAt.RcAt.int_str b t' c t
    | tup es => obtain ⟨a, its, rfl, ht, _⟩ := tup_is I g r2; exact SeqAt.RcAt.int_tuple b t' ht hu'
  | str b =>
    rw [DtAt] at h; subst h; obtain ⟨t', rfl⟩ := r1
    cases e with
    | non => rw [DtAt] at g; subst g; cases r2; exact SeqAt.RcAt.str_none b t'
    | bl c => rw [DtAt] at g; subst g; cases r2; exact SeqAt.RcAt.str_bool b t' c
    | int c => rw [DtAt] at g; subst g; obtain ⟨t, rfl⟩ := r2; exact SeqAt.RcAt.str_int b t' c t
    | str c => rw [DtAt] at g; subst g; obtain ⟨t, rfl⟩ := r2; exact SeqAt.RcAt.str_str b t' c t
    | tup es => obtain ⟨a, its, rfl, ht, _⟩ := tup_is I g r2; exact SeqAt.RcAt.str_tuple b t' ht hu'
  | tup ds =>
    cases e with
    | non => obtain ⟨a, its, rfl, ht, _⟩ := tup_is I h r1; rw [DtAt] at g; subst g; cases r2; exact SeqAt.RcAt.tuple_none ht hu'
    | bl c => obtain ⟨a, its, rfl, ht, _⟩ := tup_is I h r1; rw [DtAt] at g; subst g; cases r2; exact SeqAt.RcAt.tuple_bool c ht hu'
    | int c => obtain ⟨a, its, rfl, ht, _⟩ := tup_is I h r1; rw [DtAt] at g; subst g; obtain ⟨t, rfl⟩ := r2; exact SeqAt.RcAt.tuple_int c t ht hu'
    | str c => obtain ⟨a, its, rfl, ht, _⟩ := tup_is I h r1; rw [DtAt] at g; subst g; obtain ⟨t, rfl⟩ := r2; exact SeqAt.RcAt.tuple_str c t ht hu'
    | tup es =>
      rw [DtAt] at h g
      obtain ⟨a, vs, rfl, h2, h3⟩ := h
      obtain ⟨b, ws, rfl, g2, g3⟩ := g
      cases r1
      cases r2
      rw [dep] at hu
      obtain ⟨its, rv, ht, _⟩ := I.tuple h2
      obtain ⟨its2, rw', ht2, _⟩ := I.tuple g2
      have l1 : its.length = ds.length := by rw [← rv.length, h3.length]
      have l2 : its2.length = es.length := by rw [← rw'.length, g3.length]
      have key := SeqAt.RcAt.tuples (e := fun j => eqD (ds.getD j .non) (es.getD j .non)) (show s.heap.IsTuple a its.toArray from ht) (show s.heap.IsTuple b its2.toArray from ht2) hu' fun j h1 h2' => by
        have := eqAts_D I ds es A.in1 vs ws its its2 (by show A.units + 1 + deps ds < cLine; omega) h3 g3 rv rw' j (by simpa using h1) (by simpa using h2')
        simpa using this
      rw [List.size_toArray, List.size_toArray, l1, l2, eqDs_all] at key
      rw [eqD]
      exact key
theorem rcNe_D (I : Inv X pins σ H s) (d e : Dt) (A : Around) (x y : V) (u v : Value) (hu : A.units + dep d < cLine) (h : DtAt X.K H d x) (g : DtAt X.K H e y) (r1 : RelV x u) (r2 : RelV y v) : SeqAt.RcNeAt A s u v (!eqD d e) := by
  have hu' : A.units < cLine := by omega
  cases d with
  | non =>
    rw [DtAt] at h; subst h; cases r1
    cases e with
    | non => rw [DtAt] at g; subst g; cases r2; exact SeqAt.RcNeAt.none_none
    | bl c => rw [DtAt] at g; subst g; cases r2; exact SeqAt.RcNeAt.none_bool c
    | int c => rw [DtAt] at g; subst g; obtain ⟨t, rfl⟩ := r2; exact SeqAt.RcNeAt.none_int c t
    | str c => rw [DtAt] at g; subst g; obtain ⟨t, rfl⟩ := r2; exact SeqAt.RcNeAt.none_str c t
    | tup es => obtain ⟨a, its, rfl, ht, _⟩ := tup_is I g r2; exact SeqAt.RcNeAt.none_tuple ht hu'
  | bl b =>
    rw [DtAt] at h; subst h; cases r1
    cases e with
    | non => rw [DtAt] at g; subst g; cases r2; exact SeqAt.RcNeAt.bool_none b
    | bl c => rw [DtAt] at g; subst g; cases r2; exact SeqAt.RcNeAt.bool_bool b c
    | int c => rw [DtAt] at g; subst g; obtain ⟨t, rfl⟩ := r2; exact SeqAt.RcNeAt.bool_int b c t
    | str c => rw [DtAt] at g; subst g; obtain ⟨t, rfl⟩ := r2; exact SeqAt.RcNeAt.bool_str b c t
    | tup es => obtain ⟨a, its, rfl, ht, _⟩ := tup_is I g r2; exact SeqAt.RcNeAt.bool_tuple b ht hu'
  | int b =>
    rw [DtAt] at h; subst h; obtain ⟨t', rfl⟩ := r1
    cases e with
    | non => rw [DtAt] at g; subst g; cases r2; exact SeqAt.RcNeAt.int_none b t'
    | bl c => rw [DtAt] at g; subst g; cases r2; exact SeqAt.RcNeAt.int_bool b t' c
    | int c => rw [DtAt] at g; subst g; obtain ⟨t, rfl⟩ := r2; exact SeqAt.RcNeAt.int_int b t' c t
    | str c => rw [DtAt] at g; subst g; obtain ⟨t, rfl⟩ := r2; exact SeqAt.RcNeAt.int_str b t' c t
    | tup es => obtain ⟨a, its, rfl, ht, _⟩ := tup_is I g r2; exact SeqAt.RcNeAt.int_tuple b t' ht hu'
  | str b =>
    rw [DtAt] at h; subst h; obtain ⟨t', rfl⟩ := r1
    cases e with
    | non => rw [DtAt] at g; subst g; cases r2; exact SeqAt.RcNeAt.str_none b t'
    | bl c => rw [DtAt] at g; subst g; cases r2; exact SeqAt.RcNeAt.str_bool b t' c
    | int c => rw [DtAt] at g; subst g; obtain ⟨t, rfl⟩ := r2; exact SeqAt.RcNeAt.str_int b t' c t
    | str c => rw [DtAt] at g; subst g; obtain ⟨t, rfl⟩ := r2; exact SeqAt.RcNeAt.str_str b t' c t
    | tup es => obtain ⟨a, its, rfl, ht, _⟩ := tup_is I g r2; exact SeqAt.RcNeAt.str_tuple b t' ht hu'
  | tup ds =>
    cases e with
    | non => obtain ⟨a, its, rfl, ht, _⟩ := tup_is I h r1; rw [DtAt] at g; subst g; cases r2; exact SeqAt.RcNeAt.tuple_none ht hu'
    | bl c => obtain ⟨a, its, rfl, ht, _⟩ := tup_is I h r1; rw [DtAt] at g; subst g; cases r2; exact SeqAt.RcNeAt.tuple_bool c ht hu'
    | int c => obtain ⟨a, its, rfl, ht, _⟩ := tup_is I h r1; rw [DtAt] at g; subst g; obtain ⟨t, rfl⟩ := r2; exact SeqAt.RcNeAt.tuple_int c t ht hu'
    | str c => obtain ⟨a, its, rfl, ht, _⟩ := tup_is I h r1; rw [DtAt] at g; subst g; obtain ⟨t, rfl⟩ := r2; exact SeqAt.RcNeAt.tuple_str c t ht hu'
    | tup es =>
      rw [DtAt] at h g
      obtain ⟨a, vs, rfl, h2, h3⟩ := h
      obtain ⟨b, ws, rfl, g2, g3⟩ := g
      cases r1
      cases r2
      rw [dep] at hu
      obtain ⟨its, rv, ht, _⟩ := I.tuple h2
      obtain ⟨its2, rw', ht2, _⟩ := I.tuple g2
      have l1 : its.length = ds.length := by rw [← rv.length, h3.length]
      have l2 : its2.length = es.length := by rw [← rw'.length, g3.length]
      have key := SeqAt.RcNeAt.tuples (e := fun j => eqD (ds.getD j .non) (es.getD j .non)) (show s.heap.IsTuple a its.toArray from ht) (show s.heap.IsTuple b its2.toArray from ht2) hu' fun j h1 h2' => by
        have := eqAts_D I ds es A.in1 vs ws its its2 (by show A.units + 1 + deps ds < cLine; omega) h3 g3 rv rw' j (by simpa using h1) (by simpa using h2')
        simpa using this
      rw [List.size_toArray, List.size_toArray, l1, l2, eqDs_all] at key
      rw [eqD]
      exact key
theorem op_eqD : OpR X (compareOp .Eq) (fun x y H Q => ∃ d e, DtAt X.K H d x ∧ DtAt X.K H e y ∧ X.A.units + dep d < cLine ∧ Q (.bl (eqD d e)) H) := by
  intro pins s σ H x y v u Q I rx ry h
  obtain ⟨d, e, h1, h2, hu, q⟩ := h
  exact rcAt_D I d e X.A x y v u hu h1 h2 rx ry X.prog X.w X.xe _ ⟨.bl _, H, I, rfl, q⟩
theorem op_neD : OpR X (compareOp .NotEq) (fun x y H Q => ∃ d e, DtAt X.K H d x ∧ DtAt X.K H e y ∧ X.A.units + dep d < cLine ∧ Q (.bl (!eqD d e)) H) := by
  intro pins s σ H x y v u Q I rx ry h
  obtain ⟨d, e, h1, h2, hu, q⟩ := h
  exact rcNe_D I d e X.A x y v u hu h1 h2 rx ry X.prog X.w X.xe _ ⟨.bl _, H, I, rfl, q⟩
end
end L2
set_option maxRecDepth 100000
set_option linter.all false
set_option Elab.async false
set_option maxHeartbeats 4000000
namespace L2
open PySem PySem.Spec PyProof.Rows PyProof
def blkG (ix : List Nat) (o : List (Option V)) (σ : St) : St := o ++ ix.map fun i => σ.getD i none
def ifT : Option TT → TT
  | none => fun _ H Q => Q true H
  | some t => t
def PIf (X : Cx) (ifs : List Expr) (t : Option TT) : Prop := match ifs, t with
  | [], none => True
  | [c], some tc => PT X c tc
  | _, _ => False
def tLCG (wi : TI) (g : TG) (tc : Option TT) (te : TE) (n : Nat) (ix : List Nat) : TE := fun σ H Q => wi σ H fun J H1 => ∀ D, H1 D = none → ∃ W : Nat → Nat → List V → Hp → Prop, (∃ m, W 0 m [] (upd H1 D (.lst []))) ∧ ∀ i m ys H2, W i m ys H2 →
  (J.stop i H2 ∧ Q (.ref D) H2) ∨ (J.go i H2 ∧ ∀ (o : List (Option V)) v H3, o.length = n → J.yld i H2 v H3 → g v (blkG ix o σ) H3 fun σ2 H4 => (∃ o' : List (Option V), σ2 = blkG ix o' σ ∧ o'.length = n) ∧
    ifT tc σ2 H4 fun b H5 => if b = true then te σ2 H5 fun y H6 => H6 D = some (.lst ys) ∧ ys.length < sizeLine ∧ ∃ m', m' < m ∧ W (i + 1) m' (ys ++ [y]) (upd H6 D (.lst (ys ++ [y]))) else ∃ m', m' < m ∧ W (i + 1) m' ys H5)
structure CmpG (X : Cx) (scope : Scope) (cl : List (Str × Addr)) (own rest : List Str) (ix : List Nat) : Prop where
  clos : closureFor scope X.env = pure cl
  cell : ∀ y ∈ scope.names, y.2 ≠ .cell
  kind : scope.kind = .function
  names : ∀ y ∈ scope.names, y.2 = .local → scope.names.lookup y.1 = some .local
  cls : ∀ y c, cl.lookup y = some c → X.env.cells.lookup y = some c
  fr : ∀ y, scope.names.lookup y = some .free → ∃ c, cl.lookup y = some c
  nd : (own ++ rest).Nodup
  at_ : ∀ (j : Nat) (y : Str), rest[j]? = some y → ∃ i : Nat, ix[j]? = some i ∧ X.N[i]? = some y
  len : ix.length = rest.length
  out : ∀ y ∈ rest, scope.names.lookup y = some .free ∧ (X.env.kindOf y = some .cell ∨ X.env.kindOf y = some .free)
section
variable {X : Cx} {scope : Scope} {cl : List (Str × Addr)} {own rest : List Str} {ix : List Nat}
theorem cmpG_ok (ok : CmpG X scope cl own rest ix) {pins : List (Addr × Obj)} {σ : St} {H : Hp} {s : Shared} {fp : List Addr} (I : Inv X pins σ H s) (hf : ∀ b ∈ fp, FpOk X pins H b) (hb : ∀ b ∈ fp, b < s.heap.objs.size) :
    (cxC X scope cl (own ++ rest) s.heap.objs.size s H fp pins).Ok where
  mod := I.ok.mod
  kind := ok.kind
  glob := I.ok.glob
  blt := I.ok.blt
  above := Nat.le_refl _
  inj := fun y z c h1 h2 => I.ok.inj y z c (ok.cls y c h1) (ok.cls z c h2)
  has := fun y hy => by
    rcases hy with hy | hy
    · exact ok.fr y (relabel_kind hy (.inl rfl) ok.cell)
    · exact ok.fr y (relabel_kind hy (.inr rfl) ok.cell)
  cab := fun y c h _ => by cases h
  hd := I.ok.hd
  frames := I.ok.frames
  stk := .inl rfl
  exf := fun b hb' => ⟨Nat.ne_of_lt (hb b hb'), fun y c h => (hf b hb').2.2.2.2.1 y c (ok.cls y c h)⟩
  bs := I.bs
  bsz := Nat.le_trans I.ok.bsz I.sz
  noex := fun b o e hb' => by
    rcases (hf b hb').2.2.2.1 with z | z
    · exact I.ok.noex b o e z
    · exact absurd (Nat.lt_of_lt_of_le (Nat.lt_of_lt_of_le (Heap.lt_size e) I.ok.bsz) z) (Nat.lt_irrefl _)
  exfs := fun b hb' hm => by
    rcases List.mem_cons.mp (I.stkSub b hm) with z | z
    · exact (hf b hb').2.1 z
    · exact (hf b hb').2.2.1 z
  funs := I.stack
  frf := I.stkFree
theorem cmpG_start (ok : CmpG X scope cl own rest ix) {pins : List (Addr × Obj)} {σ : St} {H : Hp} {s : Shared} {fp : List Addr} {h₁ : Heap} {tk : Nat} {o : Obj} (I : Inv X pins σ H s) (hf : ∀ b ∈ fp, FpOk X pins H b) (hb : ∀ b ∈ fp, b < s.heap.objs.size)
    (hn : h₁.Ns s.heap.objs.size fun _ => none) (hs : Heap.SameBut s.heap.objs.size (s.heap.push o) h₁) :
    Inv (cxC X scope cl (own ++ rest) s.heap.objs.size s H fp pins) [] (blkG ix (List.replicate own.length none) σ) H { s with heap := h₁, toks := tk } := by
  have kp : ∀ b u, s.heap.get? b = some u → h₁.get? b = some u := fun b u e => (hs.2 b (Nat.ne_of_lt (Heap.lt_size e))).trans (Heap.get?_push_of_some _ e)
  refine ⟨cmpG_ok ok I hf hb, rfl, I.bare, Un.kept kp, ⟨_, hn, fun j y v e1 e2 e3 => ?_⟩, fun y c h => ?_, I.hok.fresh (Nat.le_refl _), fun y c h => I.freeC y c (ok.cls y c h), fun p hp => ?_, I.hok.kept kp, ?_⟩
  · have e1' : (own ++ rest)[j]? = some y := e1
    have e2' : (List.replicate own.length none ++ ix.map fun i => σ.getD i none)[j]? = some (some v) := e2
    by_cases hj : j < own.length
    · rw [List.getElem?_append_left (by simpa using hj), List.getElem?_replicate] at e2'
      split at e2' <;> cases e2'
    · rw [List.getElem?_append_right (by omega)] at e1'
      rw [List.getElem?_append_right (by simpa using hj), List.length_replicate] at e2'
      obtain ⟨i, hi, hN⟩ := ok.at_ _ y e1'
      rw [getD_map_ix hi] at e2'
      have hσ : σ[i]? = some (some v) := by
        have e4 : σ.getD i none = some v := Option.some.inj e2'
        rw [List.getD_eq_getElem?_getD] at e4
        cases q : σ[i]? with
        | none => rw [q] at e4; cases e4
        | some w => rw [q] at e4; exact congrArg some e4
      obtain ⟨hfree, hout⟩ := ok.out y (List.mem_of_getElem? e1')
      obtain ⟨m, hm, hl⟩ := I.loc
      obtain ⟨u, ru, lk⟩ := hl i y v hN hσ (by rcases hout with z | z; exact .inr (.inl z); exact .inr (.inr z))
      refine ⟨u, ru, .inr ⟨?_, ?_⟩⟩
      · have e : (compEnvC scope cl s.heap.objs.size X.env).kindOf y = (scope.names.lookup y).map fun k => if (k == NameKind.free && X.env.scope.kind == .function && X.env.kindOf y == some .cell) then NameKind.cell else k := relabel_lookup X.env scope.names y
        show (compEnvC scope cl s.heap.objs.size X.env).kindOf y = some .cell ∨ (compEnvC scope cl s.heap.objs.size X.env).kindOf y = some .free
        rw [e, hfree, Option.map_some]
        by_cases hc : (NameKind.free == NameKind.free && X.env.scope.kind == .function && X.env.kindOf y == some .cell) = true
        · rw [if_pos hc]; exact .inl rfl
        · rw [if_neg hc]; exact .inr rfl
      · obtain ⟨c, hc⟩ := ok.fr y hfree
        have hc2 := ok.cls y c hc
        rcases lk with ⟨z, _⟩ | ⟨_, c', e', ce⟩
        · rcases hout with z' | z' <;> (rw [z] at z'; cases z')
        · rw [hc2] at e'; cases e'
          obtain ⟨oc, hoc, hd⟩ := ce
          exact ⟨c, hc, oc, kp _ _ hoc, hd⟩
  · obtain ⟨v, oc, hoc, hd⟩ := I.cell y c (ok.cls y c h)
    exact ⟨v, oc, kp _ _ hoc, hd⟩
  · have hp' : p ∈ X.pn ++ pins := by simpa [cxC] using hp
    obtain ⟨e, n, ne, nf, d⟩ := I.pin p hp'
    refine ⟨kp _ _ e, n, Nat.ne_of_lt (Heap.lt_size e), fun hm => ?_, d⟩
    rcases List.mem_cons.mp (I.stkSub _ hm) with z | z
    · exact ne z
    · exact nf z
  · show (blkG ix (List.replicate own.length none) σ).length = (own ++ rest).length
    simp [blkG, ok.len]
theorem if_ok {Xb : Cx} {ifs : List Expr} {tc : Option TT} (h : PIf Xb ifs tc) {pins : List (Addr × Obj)} {s : Shared} {σ : St} {H : Hp} {Q : Bool → Hp → Prop} (I : Inv Xb pins σ H s) (q : ifT tc σ H Q) :
    wpAny (model Xb.prog Xb.w) Xb.A (forIn ifs true fun c r => if r = true then do let ok ← isTrue c Xb.env (eval c Xb.env); pure (ForInStep.yield ok) else pure (ForInStep.yield r)) (TP Xb pins σ Q) Xb.xe s := by
  cases ifs with
  | nil =>
    cases tc with
    | none => exact wpAny_pure ⟨H, I, q⟩
    | some tc => exact h.elim
  | cons c r =>
    cases tc with
    | none => cases r <;> exact h.elim
    | some tc =>
      cases r with
      | cons c2 r => exact h.elim
      | nil =>
        have hp : PT Xb c tc := h
        simp only [List.forIn_cons, List.forIn_nil, if_true]
        refine wpAny_bind (wpAny_bind (thn (hp pins s σ H Q I q) fun b s1 z => wpAny_pure (wpAny_pure z)))
theorem lcG_loop {elt iter tg : Expr} {ifs : List Expr} {pos : Pos} {te : TE} {g : TG} {tc : Option TT} {pins : List (Addr × Obj)} {σ : St} {H : Hp} {s s4 : Shared} {fp : List Addr} {it D : Addr} {tn : Nat → Heap → Prop} {J : It} {Q : VK} {W : Nat → Nat → List V → Hp → Prop} {m0 : Nat}
    (ok : CmpG X scope cl own rest ix) (hc : X.calm = true) (he : ∀ (C : Addr) (s : Shared) (H : Hp) (fp : List Addr) (pins : List (Addr × Obj)), PE (cxC X scope cl (own ++ rest) C s H fp pins) elt te) (hg : ∀ (C : Addr) (s : Shared) (H : Hp) (fp : List Addr) (pins : List (Addr × Obj)), PG (cxC X scope cl (own ++ rest) C s H fp pins) tg g)
    (hif : ∀ (C : Addr) (s : Shared) (H : Hp) (fp : List Addr) (pins : List (Addr × Obj)), PIf (cxC X scope cl (own ++ rest) C s H fp pins) ifs tc)
    (I : Inv X pins σ H s) (T : Turn X.prog X.w X.K tg J fp it tn) (hf : ∀ b ∈ fp, FpOk X pins H b) (hb : ∀ b ∈ fp, b < s.heap.objs.size)
    (J4 : Inv (cxC X scope cl (own ++ rest) s.heap.objs.size s H fp pins) [] (blkG ix (List.replicate own.length none) σ) H s4) (st : tn 0 s4.heap) (w0 : W 0 m0 [] H)
    (turn : ∀ i m ys H2, W i m ys H2 → (J.stop i H2 ∧ Q (.ref D) H2) ∨ (J.go i H2 ∧ ∀ (o : List (Option V)) v H3, o.length = own.length → J.yld i H2 v H3 → g v (blkG ix o σ) H3 fun σ2 H4 => (∃ o' : List (Option V), σ2 = blkG ix o' σ ∧ o'.length = own.length) ∧
      ifT tc σ2 H4 fun b H5 => if b = true then te σ2 H5 fun y H6 => H6 D = some (.lst ys) ∧ ys.length < sizeLine ∧ ∃ m', m' < m ∧ W (i + 1) m' (ys ++ [y]) (upd H6 D (.lst (ys ++ [y]))) else ∃ m', m' < m ∧ W (i + 1) m' ys H5)) :
    codeAny (model X.prog X.w) X.A (.compLoop (.ListComp elt [⟨tg, iter, ifs, 0⟩] scope pos) 0 (.ref it) (.ref D) (compEnvC scope cl s.heap.objs.size X.env)) (compPost (model X.prog X.w) X.A X.xe none (EP X pins σ Q) (.ref D) s.heap.objs.size) s4 := by
  have stat : ∀ {H' : Hp}, (∀ b ∈ fp, H' b = none) → ∀ b ∈ fp, FpOk (cxC X scope cl (own ++ rest) s.heap.objs.size s H fp pins) [] H' b := fun hn b hm => by
    obtain ⟨g0, g1, g2, g3, g4, g5⟩ := hf b hm
    refine ⟨hn b hm, Nat.ne_of_lt (hb b hm), fun z => ?_, .inl hm, fun y c h => g4 y c (ok.cls y c h), fun p hp => g5 p (by simpa [cxC] using hp)⟩
    rcases List.mem_cons.mp (I.stkSub b z) with z | z
    · exact g1 z
    · exact g2 z
  refine codeAny_loop rfl (fun n s' => ∃ i ys o H', o.length = own.length ∧ Inv (cxC X scope cl (own ++ rest) s.heap.objs.size s H fp pins) [] (blkG ix o σ) H' s' ∧ tn i s'.heap ∧ (∀ b ∈ fp, H' b = none) ∧ W i n ys H') (fun n s' hI => ?_) m0 ⟨0, [], List.replicate own.length none, H, by simp, J4, st, fun b hm => (hf b hm).1, w0⟩
  obtain ⟨i, ys, o, H', ho, I', st', fr', w'⟩ := hI
  show wpAny _ _ ((compTurn (.ListComp elt [⟨tg, iter, ifs, 0⟩] scope pos) 0 (.ref it) (.ref D) (compEnvC scope cl s.heap.objs.size X.env)).onRaise (fun x => do noteFrame x (compEnvC scope cl s.heap.objs.size X.env); theTreesLotGoes x)) _ _ s'
  refine wpAny_noted ?_
  rw [compTurn_list]
  refine wpAny_bind (wpAny_standAt (wpAny_bind ?_))
  rcases turn i n ys H' w' with ⟨stop, q⟩ | ⟨go, step⟩
  · refine thn (T.done (cxC X scope cl (own ++ rest) s.heap.objs.size s H fp pins) rfl rfl rfl hc i [] s' _ H' _ I' (stat fr') st' stop) fun r s5 ⟨hr, I5⟩ => ?_
    subst hr
    refine wpAny_pure ?_
    obtain ⟨m, hn, _⟩ := I5.loc
    refine ⟨m, hn, fun h'' hs => ⟨.ref D, H', ?_, rfl, q⟩⟩
    have B := I5.base
    have ne : ∀ b u, s.heap.get? b = some u → b ≠ s.heap.objs.size := fun b u e => Nat.ne_of_lt (Heap.lt_size e)
    have un : Un (frs X.stack) fp H H' s.heap h'' :=
      ⟨fun b u e n hx hy => (hs.2 b (ne b u e)).trans (B.keep b u e n hx hy), fun b u e n hx hy => (let ⟨sl, z⟩ := B.slot b u e n hx hy; ⟨sl, (hs.2 b (ne b u e)).trans z⟩), B.free,
       fun b u e hy => (let ⟨u', z⟩ := B.there b u e hy; ⟨u', (hs.2 b (ne b u e)).trans z⟩), B.tups, B.frzs, B.tbls⟩
    have hok : HOk X.prog X.w H' h'' := fun b u e => (I5.hok b u e).stay (fun c v hc' z => (hs.2 c (fun zz => by
      have fz : H' s.heap.objs.size = none := I5.free
      rcases hc' with y | y
      · rw [← y, zz, fz] at e; cases e
      · rw [zz, fz] at y; cases y)).trans z) (fun _ z => z) fun _ _ z => z
    refine I.call' (s' := { s5 with heap := h'' }) (ch := fp) I5.os un hok I5.bare fun b hm => ?_
    obtain ⟨g0, g1, g2, g3, g4, g5⟩ := hf b hm
    exact ⟨g3, g1, g4, g5⟩
  · refine thn (T.item (cxC X scope cl (own ++ rest) s.heap.objs.size s H fp pins) rfl rfl rfl hc i [] s' _ H' _ I' (stat fr') st' go) fun r s5 ⟨u, hr, h5⟩ => ?_
    subst hr
    refine wpAny_bind (thn h5 fun _ s6 ⟨xv, H6, I6, r6, y6, st6, fr6⟩ => ?_)
    have I6' := I6.pinned (stat fr6) (T.obj _ _ st6)
    refine wpAny_bind (wpAny_mono (hg _ _ _ _ _ _ s6 (blkG ix o σ) H6 xv u _ I6' r6 (step o xv H6 ho y6)) (fun _ s7 ⟨σ7, H7, I7, ⟨o', e7, ho'⟩, q7⟩ => ?_) fun _ _ z => z.elim)
    subst e7
    have again : ∀ {H9 : Hp} {s9 : Shared} {ys9 : List V} {m' : Nat}, Inv (cxC X scope cl (own ++ rest) s.heap.objs.size s H fp pins) ([] ++ pinsAt fp s6.heap) (blkG ix o' σ) H9 s9 → m' < n → W (i + 1) m' ys9 H9 →
        ∃ m, m < n ∧ ∃ i ys o H', o.length = own.length ∧ Inv (cxC X scope cl (own ++ rest) s.heap.objs.size s H fp pins) [] (blkG ix o σ) H' s9 ∧ tn i s9.heap ∧ (∀ b ∈ fp, H' b = none) ∧ W i m ys H' := fun {H9 s9 ys9 m'} I9 hm w9 => by
      refine ⟨m', hm, i + 1, ys9, o', H9, ho', I9.unpinned, ?_, fun b hm => ?_, w9⟩
      · exact T.keep _ _ _ st6 fun b hm ob e => (I9.pin (b, ob) (List.mem_append_right _ (List.mem_append_right _ (mem_pinsAt hm e)))).1
      · obtain ⟨ob, e, d⟩ := T.obj _ _ st6 b hm
        exact (I9.pin (b, ob) (List.mem_append_right _ (List.mem_append_right _ (mem_pinsAt hm e)))).2.1
    refine wpAny_bind (wpAny_mono (if_ok (hif _ _ _ _ _) I7 q7) (fun b s8 ⟨H8, I8, q8⟩ => ?_) fun _ _ z => z.elim)
    cases b with
    | false =>
      obtain ⟨m', hm', w8⟩ := (show ∃ m', m' < n ∧ W (i + 1) m' ys H8 from q8)
      exact wpAny_pure ⟨rfl, again I8 hm' w8⟩
    | true =>
      refine wpAny_bind (wpAny_bind (wpAny_mono (he _ _ _ _ _ _ s8 _ _ _ I8 q8) (fun yv s9 ⟨y, H9, I9, r9, hD, hz, m', hm', w9⟩ => ?_) fun _ _ z => z.elim))
      refine wpAny_bind (wpAny_mono (mt_append (X := cxC X scope cl (own ++ rest) s.heap.objs.size s H fp pins) _ s9 _ H9 (.ref D) [y] (.ref D) [yv] (fun _ H10 => H10 = upd H9 D (.lst (ys ++ [y]))) I9 rfl (.cons r9 .nil) ⟨D, ys, y, rfl, rfl, hD, hz, rfl⟩) (fun _ s10 ⟨_, H10, I10, _, e10⟩ => ?_) fun _ _ z => z.elim)
      subst e10
      exact wpAny_pure (wpAny_pure ⟨rfl, again I10 hm' w9⟩)
theorem pe_lcG {elt iter tg : Expr} {ifs : List Expr} {pos : Pos} {wi : TI} {te : TE} {g : TG} {tc : Option TT} (ok : CmpG X scope cl own rest ix) (hc : X.calm = true) (hi : PI X tg iter wi)
    (he : ∀ (C : Addr) (s : Shared) (H : Hp) (fp : List Addr) (pins : List (Addr × Obj)), PE (cxC X scope cl (own ++ rest) C s H fp pins) elt te) (hg : ∀ (C : Addr) (s : Shared) (H : Hp) (fp : List Addr) (pins : List (Addr × Obj)), PG (cxC X scope cl (own ++ rest) C s H fp pins) tg g)
    (hif : ∀ (C : Addr) (s : Shared) (H : Hp) (fp : List Addr) (pins : List (Addr × Obj)), PIf (cxC X scope cl (own ++ rest) C s H fp pins) ifs tc)
    (hs : ∀ x, foldedSetIterable iter X.env x = pure x := by intro _; rfl) : PE X (.ListComp elt [⟨tg, iter, ifs, 0⟩] scope pos) (tLCG wi g tc te own.length ix) := by
  intro pins s σ H Q I h
  rw [eval_ListComp]
  refine wpAny_comprehension_free (use := none) rfl hs ok.clos ok.kind ok.names (thn (hi pins s σ H _ I h) fun v s1 h1 => thn h1 fun itv s2 h2 => ?_)
  obtain ⟨it, fp, tn, J, H1, e, I2, T, st2, f2, hq⟩ := h2
  subst e
  refine wpAny_newObj_type (wpAny_newFunctionEnv ok.cell (by intro y hy; simp at hy) (fun h₁ hns hsb => ?_) ok.kind)
  dsimp only at hns hsb ⊢
  have na : H1 s2.heap.objs.size = none := I2.hok.fresh (Nat.le_refl _)
  obtain ⟨W, ⟨m0, w0⟩, turn⟩ := hq s2.heap.objs.size na
  have I3 := I2.laid (t' := s2.toks) (o := .lst []) (h' := s2.heap.push { cls := .type "list", dict := none, data := .seq ([] : List Value).toArray }) (fun b u e => Heap.get?_push_of_some _ e) (Nat.le_refl _) ⟨by decide, [], 0, .nil, Heap.get?_push_size _ rfl⟩
  have fa : ∀ b ∈ fp, b < s2.heap.objs.size := fun b hb => by
    obtain ⟨o, ho, _⟩ := T.obj 0 _ st2 b hb
    exact Heap.lt_size ho
  generalize hs3 : ({ s2 with heap := s2.heap.push { cls := .type "list", dict := none, data := .seq ([] : List Value).toArray } } : Shared) = s3 at hns hsb I3 ⊢
  have z3 : s3.heap.objs.size = s2.heap.objs.size + 1 := by rw [← hs3]; exact Heap.size_push _ _
  have k3 : ∀ b u, s2.heap.get? b = some u → s3.heap.get? b = some u := fun b u e => by rw [← hs3]; exact Heap.get?_push_of_some _ e
  have fa3 : ∀ b ∈ fp, b < s3.heap.objs.size := fun b hb => by rw [z3]; exact Nat.lt_succ_of_lt (fa b hb)
  have f3 : ∀ b ∈ fp, FpOk X pins (upd H1 s2.heap.objs.size (.lst [])) b := fun b hb => by
    obtain ⟨g0, g1⟩ := f2 b hb
    exact ⟨by rw [upd_ne (Nat.ne_of_lt (fa b hb))]; exact g0, g1⟩
  subst hs3
  have J4 := cmpG_start ok (tk := s2.toks + ([] : List (Str × Value)).length) I3 f3 fa3 hns hsb
  have st4 : tn 0 h₁ := T.keep _ _ _ st2 fun b hm o e => (hsb.2 b (Nat.ne_of_lt (fa3 b hm))).trans (Heap.get?_push_of_some _ (k3 b o e))
  have loop := lcG_loop (elt := elt) (iter := iter) (pos := pos) (s4 := { s2 with heap := h₁, toks := s2.toks + ([] : List (Str × Value)).length }) ok hc he hg hif I3 T f3 fa3 J4 st4 w0 turn
  exact codeAny_compStart_list loop (T.self _ 0 _ _ _ st4 loop)
end
end L2
set_option maxRecDepth 100000
set_option linter.all false
set_option Elab.async false
set_option maxHeartbeats 4000000
namespace L2
open PySem PySem.Spec PyProof.Rows PyProof Dt
section
variable {X : Cx} {CX : CXT} {e func : Expr} {es : List Expr} {tf : TE} {t : TA} {pos : Pos}
def tCallV (X : Cx) (CX : CXT) (tf : TE) (t : TA) : TE := fun σ H Q => tf σ H fun x H1 => ∃ (f : Addr) (fd : FuncData) (ps : List Str) (sp : Sp) (dvs : List V) (ds : List Value) (E : XK) (k : Nat), x = .ref f ∧ FnOk X.prog X.w X.K X.mg X.base CX k f fd ps sp ∧ Room k X.A ∧
  PySem.W.keepIn X.K (.ref f) = true ∧ Binds X.K fd ps ds ∧ Vals dvs ds ∧ Passes CX X E ∧ t σ H1 fun vs H2 => sp (vs ++ dvs) H2 Q E
theorem pe_callV (hf : PE X func tf) (ha : PA X (e :: es) t) (hc : eval (.Call func (e :: es) [] pos) X.env = (do callWith pos (← eval func X.env) [] (backTo pos (starEach (e :: es) X.env)) (backToKw pos (keywordEach [] X.env))) := by rfl)
    (he : starEach (e :: es) X.env = (false, eval e X.env) :: starEach es X.env := by rfl) (hpl : (backTo pos (starEach es X.env)).any (·.1) = false := by rfl) :
    PE X (.Call func (e :: es) [] pos) (tCallV X CX tf t) := by
  intro pins s σ H Q I h
  refine Call_ (thn (hf pins s σ H _ I h) fun u s0 ⟨x, H0, I0, rx, f, fd, ps, sp, dvs, ds, E, k, ex, F, hr, hk, hb, hd, hx, q⟩ => ?_) hc
  subst ex
  obtain rfl : u = Value.ref f := rx
  exact PySem.W.callWith_K (h₀ := X.base) I.ok.mod.kin hk (thn (ha pos pins s0 σ H0 _ I0 q) fun us s1 ⟨vs, H1, I1, r, q1⟩ => ⟨I1.kIn, run_fn F hr hb hd hx I1 r q1⟩) he hpl
theorem dts_mem {K : PySem.W.Frag} {H : Hp} : ∀ {ds : List Dt} {vs : List V}, DtsAt K H ds vs → ∀ v ∈ vs, ∃ d ∈ ds, DtAt K H d v
  | [], _, h => by rw [DtsAt] at h; subst h; intro v hv; cases hv
  | d :: ds, _, h => by
    rw [DtsAt] at h
    obtain ⟨v, r, rfl, h2, h3⟩ := h
    intro w hw
    rcases List.mem_cons.mp hw with rfl | hw
    · exact ⟨d, List.mem_cons_self, h2⟩
    · obtain ⟨d', m, x⟩ := dts_mem h3 w hw
      exact ⟨d', List.mem_cons_of_mem _ m, x⟩
theorem op_eqL : OpR X (compareOp .Eq) (fun x y H Q => ∃ p q xs ys ds es, x = .ref p ∧ y = .ref q ∧ SqL X.K H p xs ∧ SqL X.K H q ys ∧ DtsAt X.K H ds xs ∧ DtsAt X.K H es ys ∧ X.A.units + 1 + deps ds < cLine ∧ Q (.bl (eqDs ds es)) H) := by
  intro pins s σ H x y v u Q I rx ry h
  obtain ⟨p, q', xs, ys, ds, es, rfl, rfl, h1, h2, d1, d2, hu, q⟩ := h
  cases rx
  cases ry
  obtain ⟨its, r1, p1, _⟩ := I.list h1
  obtain ⟨its2, r2, p2, _⟩ := I.list h2
  have l1 : its.length = ds.length := by rw [← r1.length, d1.length]
  have l2 : its2.length = es.length := by rw [← r2.length, d2.length]
  have hu' : X.A.units < cLine := by omega
  by_cases hl : ds.length = es.length
  · have key := SeqAt.eq_listAt (prog := X.prog) (w := X.w) (A := X.A) (E := X.xe) (Q := EP X pins σ Q) (e := fun j => eqD (ds.getD j .non) (es.getD j .non)) p1.isList p2.isList (by simp; omega) hu' (fun j h1 h2' => by
      have := eqAts_D I ds es X.A.in1 xs ys its its2 (by show X.A.units + 1 + deps ds < cLine; omega) d1 d2 r1 r2 j (by simpa using h1) (by simpa using h2')
      simpa using this)
    refine key ⟨.bl (eqDs ds es), H, I, ?_, q⟩
    rw [List.size_toArray, l1, ← eqDs_all .non ds es, hl, Nat.min_self]
    simp
    rfl
  · refine SeqAt.eq_list_lengthsAt p1.isList p2.isList (by simp; omega) hu' ⟨.bl false, H, I, rfl, ?_⟩
    have : eqDs ds es = false := by
      cases e : eqDs ds es with
      | false => rfl
      | true => exact absurd (eqDs_length e) hl
    rw [this] at q
    exact q
def tyD : Dt → String
  | .non => "NoneType"
  | .bl _ => "bool"
  | .int _ => "int"
  | .str _ => "str"
  | .tup _ => "tuple"
theorem call_isD : CallR X (.builtin "isinstance") (fun xs H Q => ∃ d x n b, xs = [x, .ty n] ∧ DtAt X.K H d x ∧ PySem.W.kitOne X.K (.type (tyD d)) (.type n) = some b ∧ Q (.bl b) H) := by
  intro pins s σ H xs us Q I r h
  obtain ⟨d, x, n, b, rfl, hd, ko, q⟩ := h
  obtain ⟨u, u2, rfl, r1, r2⟩ := vals2 r
  cases r2
  have fin : ∀ tk, EP X pins σ Q (.bool b) { s with toks := tk } := fun tk => ⟨.bl b, H, I.tok tk, rfl, q⟩
  cases d with
  | non => rw [DtAt] at hd; subst hd; cases r1; exact PySem.W.kia_one PySem.W.kitx_none I.kIn True.intro ko (fun z => nomatch z) fin
  | bl y => rw [DtAt] at hd; subst hd; cases r1; exact PySem.W.kia_one PySem.W.kitx_bool I.kIn True.intro ko (fun z => nomatch z) fin
  | int y => rw [DtAt] at hd; subst hd; obtain ⟨t, rfl⟩ := r1; exact PySem.W.kia_one PySem.W.kitx_int I.kIn True.intro ko (fun z => nomatch z) fin
  | str y => rw [DtAt] at hd; subst hd; obtain ⟨t, rfl⟩ := r1; exact PySem.W.kia_one PySem.W.kitx_str I.kIn True.intro ko (fun z => nomatch z) fin
  | tup ds =>
    obtain ⟨a, its, rfl, ht, _⟩ := tup_is I hd r1
    obtain ⟨o, h1, h2, _⟩ := ht
    exact PySem.W.kia_one PySem.W.kitx_tuple I.kIn ⟨o, h1, h2⟩ ko (fun z => nomatch z) fin
theorem dep_le {d : Dt} : ∀ {ds : List Dt}, d ∈ ds → dep d ≤ deps ds
  | [], h => by cases h
  | e :: es, h => by
    rw [deps]
    rcases List.mem_cons.mp h with rfl | h
    · omega
    · have := dep_le h; omega
def inDs (x : Dt) (ds : List Dt) : Bool := ds.any fun d => eqD d x
theorem any_eq {H : Hp} {pins : List (Addr × Obj)} {σ : St} {s : Shared} (I : Inv X pins σ H s) (A : Around) (x : Dt) (xv : V) (xu : Value) (hx : DtAt X.K H x xv) (rx : RelV xv xu) : ∀ {ds : List Dt} {vs : List V} {us : List Value}, DtsAt X.K H ds vs → Vals vs us → A.units + deps ds < cLine →
    ∃ f : Value → Bool, (∀ u ∈ us, SeqAt.EqAt A s u xu (f u)) ∧ us.map f = ds.map fun d => eqD d x := by
  classical
  intro ds vs us hd hv hu
  have one : ∀ u ∈ us, ∃ d ∈ ds, ∃ v, DtAt X.K H d v ∧ RelV v u := by
    intro u hu'
    obtain ⟨i, hi, e⟩ := List.getElem_of_mem hu'
    have hl := hv.length
    have hi' : i < vs.length := by omega
    obtain ⟨d, hdm, hdv⟩ := dts_mem hd vs[i] (List.getElem_mem hi')
    obtain ⟨u', h1, h2⟩ := hv.get (List.getElem?_eq_getElem hi')
    rw [List.getElem?_eq_getElem hi, e] at h1
    cases h1
    exact ⟨d, hdm, vs[i], hdv, h2⟩
  refine ⟨fun u => if h : ∃ d v, DtAt X.K H d v ∧ RelV v u then eqD h.choose x else false, fun u hu' => ?_, ?_⟩
  · obtain ⟨d, hdm, v, h1, h2⟩ := one u hu'
    have hex : ∃ d v, DtAt X.K H d v ∧ RelV v u := ⟨d, v, h1, h2⟩
    show SeqAt.EqAt A s u xu (if h : ∃ d v, DtAt X.K H d v ∧ RelV v u then eqD h.choose x else false)
    rw [dif_pos hex]
    obtain ⟨v', g1, g2⟩ := hex.choose_spec
    have ev : v' = v := g2.inj h2
    subst ev
    have ed := dt_inj I g1 h1
    rw [ed]
    have hdep : dep d ≤ deps ds := dep_le hdm
    exact eqAt_D I d x A _ xv u xu (by omega) h1 hx h2 rx
  · clear one hu
    induction ds generalizing vs us with
    | nil => rw [DtsAt] at hd; subst hd; cases hv; rfl
    | cons d ds ih =>
      rw [DtsAt] at hd
      obtain ⟨v, r, rfl, h2, h3⟩ := hd
      cases hv with
      | @cons _ u _ us' p q =>
        rw [List.map_cons, List.map_cons, ih h3 q]
        congr 1
        have hex : ∃ d v, DtAt X.K H d v ∧ RelV v u := ⟨d, v, h2, p⟩
        rw [dif_pos hex]
        obtain ⟨v', g1, g2⟩ := hex.choose_spec
        have ev : v' = v := g2.inj p
        subst ev
        rw [dt_inj I g1 h2]
theorem any_map' {α : Type} (f : α → Bool) (l : List α) : l.any f = (l.map f).any id := by rw [List.any_map]; rfl
theorem op_inL : OpR X (compareOp .In) (fun x y H Q => ∃ p xs d ds, y = .ref p ∧ SqL X.K H p xs ∧ DtAt X.K H d x ∧ DtsAt X.K H ds xs ∧ X.A.units + 1 + deps ds < cLine ∧ Q (.bl (inDs d ds)) H) := by
  intro pins s σ H x y v u Q I rx ry h
  obtain ⟨p, xs, d, ds, rfl, hq, hd, hds, hu, q⟩ := h
  cases ry
  obtain ⟨its, r, pl, hz⟩ := I.list hq
  obtain ⟨f, hf, hm⟩ := any_eq I X.A.in1 d x v hd rx hds r (by show X.A.units + 1 + deps ds < cLine; exact hu)
  refine SeqAt.in_listAt f pl.isList (fun w hw => hf w (by simpa using hw)) ⟨.bl _, H, I, rfl, ?_⟩
  have e : its.toArray.any f = inDs d ds := by
    rw [show its.toArray.any f = its.any f by simp, any_map', hm]
    unfold inDs
    rw [← any_map']
  rw [e]
  exact q
abbrev TJ := Str → St → Hp → VK → Prop
def PJ (X : Cx) (es : List Expr) (t : TJ) : Prop := ∀ (out : Str) (pins : List (Addr × Obj)) (s : Shared) (σ : St) (H : Hp) (Q : VK), Inv X pins σ H s → t out σ H Q → wpAny (model X.prog X.w) X.A (joinParts out (evalEach es X.env)) (EP X pins σ Q) X.xe s
theorem pj_nil : PJ X [] (fun out _ H Q => out.length ≤ sizeLine ∧ Q (.str out) H) := fun out pins s σ H Q I h => joinParts_nil (s := s) ⟨.str out, H, I.tok _, ⟨_, rfl⟩, h.2⟩ h.1
theorem pj_cons {te : TE} {t : TJ} (he : PE X e te) (hr : PJ X es t) (hE : evalEach (e :: es) X.env = eval e X.env :: evalEach es X.env := by rfl) :
    PJ X (e :: es) (fun out σ H Q => te σ H fun x H1 => ∃ y, x = .str y ∧ (out ++ y).length ≤ sizeLine ∧ t (out ++ y) σ H1 Q) := by
  intro out pins s σ H Q I h
  rw [hE]
  refine joinParts_cons (thn (he pins s σ H _ I h) fun u s1 ⟨x, H1, I1, r1, y, ex, hl, q⟩ => ?_)
  subst ex
  obtain ⟨t', rfl⟩ := r1
  exact ⟨hl, hr _ pins s1 σ H1 Q I1 q⟩
theorem pe_joined {e2 : Expr} {t : TJ} (h : PJ X (e :: e2 :: es) t) (hE : evalEach (e :: e2 :: es) X.env = eval e X.env :: eval e2 X.env :: evalEach es X.env := by rfl) : PE X (.JoinedStr (e :: e2 :: es) pos) (fun σ H Q => t Str.empty σ H Q) := by
  intro pins s σ H Q I q
  have := h Str.empty pins s σ H Q I q
  rw [hE] at this
  exact JoinedStr_many this
theorem pe_fmt {te : TE} (he : PE X e te) : PE X (.FormattedValue e (-1) none pos) (fun σ H Q => te σ H fun x H1 => ∃ y, x = .str y ∧ y.length ≤ sizeLine ∧ Q (.str y) H1) := by
  intro pins s σ H Q I h
  refine FormattedValue_plain (thn (he pins s σ H _ I h) fun u s1 ⟨x, H1, I1, r1, y, ex, hl, q⟩ => ?_)
  subst ex
  obtain ⟨t', rfl⟩ := r1
  exact formatField_str (fun t' tk => ⟨.str y, H1, I1.tok _, ⟨_, rfl⟩, q⟩) hl
theorem call_dictC : CallR X (.type "dict") (fun xs H Q => ∃ a kvs, xs = [.ref a] ∧ H a = some (.dK kvs) ∧ ∀ b, H b = none → Q (.ref b) (upd H b (.dK kvs))) := by
  intro pins s σ H xs us Q I r h
  obtain ⟨a, kvs, rfl, ha, q⟩ := h
  obtain ⟨u, rfl, r1⟩ := vals1 r
  cases r1
  obtain ⟨hz, hS, vs, rel, m⟩ : kvs.length ≤ sizeLine ∧ (a == sysModules) = false ∧ ∃ vs, KV kvs vs ∧ s.heap.DictOf (mixKind X.prog X.w) a vs := I.hok a _ ha
  have hlen : kvs.length = vs.length := Paired.length rel
  refine kt_call_dict hS m (by omega) fun h' hd hs => ?_
  have na : H s.heap.objs.size = none := I.hok.fresh (Nat.le_refl _)
  refine ⟨.ref s.heap.objs.size, _, I.laid (t' := s.toks) (o := .dK kvs) (fun b u e => (hs.2 b (Nat.ne_of_lt (Heap.lt_size e))).trans (Heap.get?_push_of_some _ e)) (Nat.le_refl _) ⟨hz, beq_eq_false_iff_ne.mpr (Ne.symm (Nat.ne_of_lt I.big)), vs, rel, hd⟩, rfl, q _ na⟩
end
end L2
set_option maxRecDepth 100000
set_option linter.all false
set_option Elab.async false
set_option maxHeartbeats 4000000
namespace L2
open PySem PySem.Spec PyProof.Rows PyProof
theorem Inv.turnedL {X : Cx} {pins : List (Addr × Obj)} {σ : St} {H : Hp} {s : Shared} {h' : Heap} {t' : Nat} {ch : List Addr} (I : Inv X pins σ H s) (k : ∀ b o, b ∉ ch → s.heap.get? b = some o → h'.get? b = some o) (f : ∀ b ∈ ch, FpOk X pins H b) :
    Inv X pins σ H { s with heap := h', toks := t' } := by
  have nit : ∀ b u, H b = some u → b ∉ ch := fun b u e z => by rw [(f b z).1] at e; cases e
  have nl : X.env.locals ∉ ch := fun z => (f _ z).2.1 rfl
  refine I.step (g' := s.gens) (d' := s.drawn) (ch := ch) (fun b hb => let ⟨_, a2, _, a4, a5, a6⟩ := f b hb; ⟨a4, a2, a5, a6⟩) (fun b o _ _ hc e _ => k b o hc e) (fun b o _ _ hc e _ => ⟨o.slots, k b o hc e⟩) (fun _ _ _ _ n => n)
    (fun b o hc e => ⟨o, k b o hc e⟩) (fun _ _ e => e) (fun _ _ _ e => e) (fun b ps e => ⟨#[], by rw [e]; simp⟩) (fun m hm => ?_) (fun b u e => ?_) I.bare
  · obtain ⟨o, es, ep, ho, r⟩ := hm
    exact ⟨o, es, ep, k _ o nl ho, r⟩
  · refine (I.hok b u e).stay (fun c v hc q => k c v ?_ q) (fun _ q => q) fun _ _ q => q
    rcases hc with z | z
    · rw [z]; exact nit b u e
    · exact nit c _ z
def tGetT (K : PySem.W.Frag) (to : TE) (t : TA) : TE := fun σ H Q => to σ H fun x H1 => ∃ a D, x = .ref a ∧ TabS K a D ∧ t σ H1 fun xs H2 => ∃ k dv, xs = [.str k, dv] ∧ Q ((KTD.datumAt k D).getD dv) H2
theorem pe_getT {X : Cx} {o e d : Expr} {to : TE} {t : TA} {apos cpos : Pos} (ho : PE X o to) (ha : PA X [e, d] t)
    (hbase : attributeBase o "get" X.env (eval o X.env) = eval o X.env := by rfl)
    (hfew : ((backTo cpos (starEach [e, d] X.env)).all (fun x => !x.1) && (backToKw cpos (keywordEach [] X.env)).all (fun x => x.1.isSome) && decide ([e, d].length + ([] : List Keyword).length + (if ([] : List Keyword).isEmpty then 0 else 1) < 30)) = true := by rfl)
    (hline : (apos.endLine == cpos.line) = true := by rfl) (hs : starEach [e, d] X.env = (false, eval e X.env) :: starEach [d] X.env := by rfl) (hplain : (backTo cpos (starEach [d] X.env)).any (·.1) = false := by rfl) :
    PE X (.Call (.Attribute o "get" apos) [e, d] [] cpos) (tGetT X.K to t) := by
  intro pins s σ H Q I h
  refine wpAny_Call_method_late hbase hfew hline rfl (thn (ho pins s σ H _ I h) fun v s1 ⟨x, H1, I1, r1, q1⟩ => ?_)
  obtain ⟨a, D, rfl, ⟨lo, ob, es, ep, lk, hc, hd, hr⟩, q1⟩ := q1
  cases r1
  refine ⟨"dict", "dict.get", PySem.F.plainAttrs_dict, PySem.F.slot_dict_get, PySem.F.type_dict_get, ⟨ob, I1.kIn _ _ lk, hc.1⟩, fun b z => ?_, ?_⟩
  · cases z
    exact ⟨ob, I1.kIn _ _ lk, hc.2.1⟩
  have hA := ha cpos pins s1 σ H1 _ I1 q1
  rw [hs] at hA ⊢
  refine Calls.callWith_builtin (by show (false || (backTo cpos (starEach [d] X.env)).any (·.1)) = false; rw [hplain] <;> rfl) (Calls.evalArgs_plain (thn hA fun us s2 ⟨vs, H2, I2, r2, q2⟩ => ?_))
  obtain ⟨k, dv, rfl, q⟩ := q2
  obtain ⟨u1, u2, rfl, ⟨tk, rfl⟩, rd⟩ := Vals.two r2
  have hob := I2.kIn _ _ lk
  refine wpAny_call_entry PySem.F.slot_dict_get ⟨ob, hob, hc.1⟩ PySem.F.entry_dict_get ?_ (PySem.F.args_dict_get_3 _ _ _)
  show wpAny _ _ (dictGet a (.str k tk) >>= _) _ _ s2
  refine wpAny_bind (look_tab hob hd hr (fun v u e ru => ?_) fun e => ?_)
  · rw [e] at q
    exact wpAny_pure ⟨_, rfl, v, H2, I2.tok _, ru, q⟩
  · rw [e] at q
    show wpAny _ _ (Builtin.Dict.missed a (.str k tk) >>= _) _ _ _
    exact wpAny_bind (wpAny_missed_other lo (wpAny_pure ⟨_, rfl, dv, H2, I2.tok _, rd, q⟩))
def Ite (K : PySem.W.Frag) (l : Addr) : It := ⟨fun i H => ∃ xs x, SqL K H l xs ∧ xs[i]? = some x,
  fun i H v H' => ∃ T x, H T = none ∧ v = .ref T ∧ H' = upd H T (.tup [.int i, x]) ∧ ∀ ys, SqL K H l ys → ys[i]? = some x,
  fun i H => ∃ xs, SqL K H l xs ∧ xs.length ≤ i⟩
theorem lt_of_rd {h : Heap} {a : Addr} {o : Obj} (e : h.get? a = some o) : a ≠ h.objs.size := Nat.ne_of_lt (Heap.lt_size e)
theorem turn_enum {P : Program} {w : World} {K : PySem.W.Frag} {es : List Expr} {k0} {pos : Pos} (l e it : Addr) (ne : e ≠ it) : Turn P w K (.Tuple es k0 pos) (Ite K l) [e, it] e (fun i h => (∃ old, IsEnum h e it i old) ∧ h.IsListIter it l i) where
  mem := by simp
  obj := fun i h st b hb => by
    obtain ⟨⟨old, e1⟩, o, e2, c2, d2⟩ := st
    rcases List.mem_cons.mp hb with z | z
    · rw [z]; exact ⟨_, e1, fun v z => by cases z⟩
    · rw [List.mem_singleton.mp z]; exact ⟨o, e2, fun v z => by rw [d2] at z; cases z⟩
  keep := fun i h h' st k => ⟨st.1.imp fun old q => k e (by simp) _ q, st.2.at fun o q => k it (by simp) o q⟩
  item := by
    intro X hP hw hK hc i pins s σ H E I hf st hg
    subst hP hw hK
    obtain ⟨xs, x, hq, hx⟩ := hg
    obtain ⟨its, rv, p, hz⟩ := I.list hq
    obtain ⟨u, hu, ru⟩ := rv.get hx
    obtain ⟨⟨old, e1⟩, e2⟩ := st
    refine wpAny_pyNext_enum_item e1 e2 p.isList (x := u) (by simpa using hu) ne fun h1 o1 i1 t1 z1 k1 => ⟨_, rfl, wpAny_letOwnedTupleGo_enum o1 fun h2 o2 b2 => ?_⟩
    have e3 : e ≠ s.heap.objs.size := lt_of_rd e1
    have e4 : it ≠ s.heap.objs.size := by obtain ⟨o, q, _⟩ := e2; exact lt_of_rd q
    have nT : H s.heap.objs.size = none := I.hok.fresh (Nat.le_refl _)
    have t2 : h2.get? s.heap.objs.size = some { cls := .type "tuple", data := .seq #[.int i s.toks, u] } := (b2.2 _ (Ne.symm e3)).trans t1
    have I1 : Inv X pins σ (upd H s.heap.objs.size (.tup [.int i, x])) { s with heap := s.heap.push { cls := .type "tuple", data := .seq #[.int i s.toks, u] }, toks := s.toks + 1 } :=
      I.laid (fun b v q => Heap.get?_push_of_some _ q) (Nat.le_refl _) ⟨by show 2 ≤ sizeLine; decide, [.int i s.toks, u], .cons ⟨_, rfl⟩ (.cons ru .nil), ⟨_, Heap.get?_push_size _ rfl, rfl, _, rfl⟩⟩
    have I2 : Inv X pins σ (upd H s.heap.objs.size (.tup [.int i, x])) { s with heap := h2, toks := s.toks + 1 } := by
      refine Inv.turnedL (s := { s with heap := s.heap.push { cls := .type "tuple", data := .seq #[.int i s.toks, u] }, toks := s.toks + 1 }) (ch := [e, it]) (t' := s.toks + 1) I1 (fun b o hb q => ?_) fun b hb => ?_
      · have b1 : b ≠ e := fun z => hb (by simp [z])
        have b3 : b ≠ it := fun z => hb (by simp [z])
        by_cases bT : b = s.heap.objs.size
        · subst bT
          have z : (s.heap.push { cls := .type "tuple", data := .seq #[.int i s.toks, u] }).get? s.heap.objs.size = some _ := Heap.get?_push_size _ rfl
          rw [z] at q
          exact t2.trans q
        · have q' : s.heap.get? b = some o := by rw [← q]; exact (Heap.get?_push_ne _ _ _ bT).symm
          exact (b2.2 b b1).trans (k1 b o b1 b3 q')
      · obtain ⟨f0, f1⟩ := hf b hb
        refine ⟨?_, f1⟩
        rw [upd_ne ?_]
        · exact f0
        · rcases List.mem_cons.mp hb with z | z
          · rw [z]; exact e3
          · rw [List.mem_singleton.mp z]; exact e4
    refine ⟨.ref s.heap.objs.size, _, I2, rfl, ⟨s.heap.objs.size, x, nT, rfl, rfl, fun ys hy => by rw [I.list_inj hy hq]; exact hx⟩, ⟨⟨u, by simpa using o2⟩, i1.at fun o q => (b2.2 it (Ne.symm ne)).trans q⟩, fun b hb => ?_⟩
    rw [upd_ne ?_]
    · exact (hf b hb).1
    · rcases List.mem_cons.mp hb with z | z
      · rw [z]; exact e3
      · rw [List.mem_singleton.mp z]; exact e4
  done := by
    intro X hP hw hK hc i pins s σ H E I hf st hg
    subst hP hw hK
    obtain ⟨xs, hq, hx⟩ := hg
    obtain ⟨its, rv, p, hz⟩ := I.list hq
    have hl := rv.length
    obtain ⟨⟨old, e1⟩, e2⟩ := st
    exact wpAny_pyNext_enum_end (I.ok.hd hc) e1 e2 p.isList (by simp; omega) fun h' eb => ⟨rfl, I.turnedL (t' := s.toks) (ch := [e, it]) (fun b o hb q => eb b o (fun z => hb (by simp [z])) q) hf⟩
  self := fun _ _ _ _ _ st h => let ⟨⟨_, e1⟩, _⟩ := st; wpAny_pyIter_enum e1 h
def iEnum (K : PySem.W.Frag) (ta : TA) : TI := fun σ H R => ta σ H fun vs H1 => ∃ l, vs = [.ref l] ∧ (∃ xs, SqL K H1 l xs) ∧ R (Ite K l) H1
theorem pi_enum {X : Cx} {a : Expr} {ta : TA} {p pos p2 : Pos} {es : List Expr} {k0} (hg : Gl X "enumerate") (hm : X.mg "enumerate" = none) (ha : PA X [a] ta) (hs : starEach [a] X.env = [(false, eval a X.env)] := by rfl) :
    PI X (.Tuple es k0 p2) (.Call (.Name "enumerate" p) [a] [] pos) (iEnum X.K ta) := by
  intro pins s σ H R I h
  refine Call_ (ld_blt I hg hm boot_enumerate (PyProof.Rows.callWith_type1 (thn (ha pos pins s σ H _ I h) fun us s1 ⟨vs, H1, I1, r1, q1⟩ => ?_) hs rfl))
  obtain ⟨l, rfl, ⟨xs, hq⟩, q⟩ := q1
  obtain ⟨u, rfl, ru⟩ := vals1 r1
  cases ru
  obtain ⟨its, rv, pl, hz⟩ := I1.list hq
  refine call_enumerate_list pl.isList fun h' e1 e2 sz kp => wpAny_pyIter_enum e1 ?_
  refine ⟨_, [s1.heap.objs.size + 1, s1.heap.objs.size], _, _, H1, rfl, I1.kept (t' := s1.toks) kp, turn_enum l _ _ (Nat.succ_ne_self _), ⟨⟨_, e1⟩, e2⟩, fun b hb => ?_, q⟩
  have hb' : s1.heap.objs.size ≤ b := by
    rcases List.mem_cons.mp hb with z | z
    · rw [z]; exact Nat.le_succ _
    · rw [List.mem_singleton.mp z]; exact Nat.le_refl _
  exact I1.fpOk hb' (I1.hok.fresh hb')
end L2
set_option maxRecDepth 100000
set_option linter.all false
set_option Elab.async false
set_option maxHeartbeats 4000000
namespace L2
open PySem PySem.Spec PyProof.Rows PyProof
structure Nx (P : Program) (w : World) (it : Addr) (xs : Array Value) (dp : List Addr) (N : Nat → Heap → Prop) : Prop where
  stay : ∀ k h h', N k h → (∀ b ∈ dp, ∀ o, h.get? b = some o → h'.get? b = some o) → N k h'
  item : ∀ (A : Around) (E : Value → Shared → Prop) (s : Shared) (k : Nat) (x : Value) (Q : Value → Shared → Prop), N k s.heap → xs[k]? = some x → (∀ g, N (k + 1) g → Heap.SameBut it s.heap g → Q x { s with heap := g }) → wpAny (model P w) A (Builtin.SmallTypes.nextOf (.ref it)) Q E s
  fin : ∀ (A : Around) (E : Value → Shared → Prop) (s : Shared) (k : Nat) (Q : Value → Shared → Prop), A.handled = none → N k s.heap → xs[k]? = none → (∀ g e, Heap.ExtBut it s.heap g → (∃ o, g.get? e = some o ∧ o.cls = .type "StopIteration") → E (.ref e) { s with heap := g }) →
    wpAny (model P w) A (Builtin.SmallTypes.nextOf (.ref it)) Q E s
theorem nx_tuple (P : Program) (w : World) (it t : Addr) (xs : Array Value) (ne : t ≠ it) : Nx P w it xs [it, t] (fun k h => h.IsTupleIter it t k ∧ h.IsTuple t xs) where
  stay := fun k h h' st f => by
    obtain ⟨⟨o, a1, a2⟩, ⟨o', b1, b2⟩⟩ := st
    exact ⟨⟨o, f it (by simp) o a1, a2⟩, ⟨o', f t (by simp) o' b1, b2⟩⟩
  item := by
    intro A E s k x Q st ex go
    obtain ⟨ti, tt⟩ := st
    obtain ⟨o, ob, oc, od⟩ := id ti
    obtain ⟨u, ub, uc, un, ud⟩ := id tt
    unfold Builtin.SmallTypes.nextOf
    refine wpAny_bind (wpAny_callSpecial?_slot (name := Str.ofString "__next__") ti.typeIs F.slot_tuple_iterator_next (wpAny_call_entry F.slot_tuple_iterator_next ti.typeIs F.entry_tuple_iterator_next ?_ (F.args_tuple_iterator_next_1 _)))
    show wpAny _ _ (field (.ref it) 0 >>= _) _ _ s
    refine wpAny_bind (wpAny_field ob od (x := .ref t) rfl ?_)
    show wpAny _ _ (if (Value.ref t == Value.none) = true then _ else _) _ _ s
    rw [if_neg (by intro z; cases z)]
    show wpAny _ _ (field (.ref it) 1 >>= _) _ _ s
    refine wpAny_bind (wpAny_field ob od (x := .int k 0) rfl ?_)
    show wpAny _ _ (seqItems? (.ref t) >>= _) _ _ s
    refine wpAny_bind (wpAny_seqItems ub ud ?_)
    simp only [Int.toNat_natCast, ex]
    refine wpAny_bind (wpAny_setField ob od (by simp) (wpAny_pure ⟨x, rfl, wpAny_pure (go _ ⟨?_, tt.extBut (Heap.SameBut.update ..).extBut ne⟩ (Heap.SameBut.update ..))⟩))
    exact ⟨_, Heap.get?_update_self _ ob (Obj.isFreed_of_fields (Obj.data_mapFields od _)), (Obj.cls_mapFields ..).trans oc, by rw [Obj.data_mapFields od]; simp [rawInt]⟩
  fin := by
    intro A E s k Q hh st ex go
    obtain ⟨ti, tt⟩ := st
    obtain ⟨o, ob, oc, od⟩ := id ti
    obtain ⟨u, ub, uc, un, ud⟩ := id tt
    unfold Builtin.SmallTypes.nextOf
    refine wpAny_bind (wpAny_callSpecial?_slot (name := Str.ofString "__next__") ti.typeIs F.slot_tuple_iterator_next (wpAny_call_entry F.slot_tuple_iterator_next ti.typeIs F.entry_tuple_iterator_next ?_ (F.args_tuple_iterator_next_1 _)))
    show wpAny _ _ (field (.ref it) 0 >>= _) _ _ s
    refine wpAny_bind (wpAny_field ob od (x := .ref t) rfl ?_)
    show wpAny _ _ (if (Value.ref t == Value.none) = true then _ else _) _ _ s
    rw [if_neg (by intro z; cases z)]
    show wpAny _ _ (field (.ref it) 1 >>= _) _ _ s
    refine wpAny_bind (wpAny_field ob od (x := .int k 0) rfl ?_)
    show wpAny _ _ (seqItems? (.ref t) >>= _) _ _ s
    refine wpAny_bind (wpAny_seqItems ub ud ?_)
    simp only [Int.toNat_natCast, ex]
    refine wpAny_bind (wpAny_rule (wpAny_bind (wpAny_setField ob od (by simp) ?_)))
    show wpAny _ _ (newExc (.type "StopIteration") [] >>= _) _ _ _
    refine wpAny_bind ?_
    simp only [newExc, newTuple]
    refine wpAny_bind (wpAny_newObj_type ?_ (by size_fits))
    refine wpAny_bind (m := firstArgMember _ _) (wpAny_of_eq (a := Value.none) (by first | rfl | (simp only [firstArgMember]; rfl)) ?_)
    refine wpAny_newObj_type ?_ (by size_fits)
    simp only [raiseNew]
    refine wpAny_bind (wpAny_handled ?_)
    first | rw [show A.in1.handled = none from hh] | rw [hh]
    refine wpAny_bind (wpAny_pure (wpAny_throw ?_))
    exact go _ _ (((Heap.SameBut.update ..).extBut.push _).push _) ⟨_, Heap.get?_push_size _ rfl, rfl⟩
structure ZAp (z p q i j : Addr) (d1 d2 : List Addr) : Prop where
  pz : p ≠ z
  qz : q ≠ z
  iz : i ≠ z
  jz : j ≠ z
  pq : p ≠ q
  pi : p ≠ i
  pj : p ≠ j
  qi : q ≠ i
  qj : q ≠ j
  ij : i ≠ j
  z1 : z ∉ d1
  q1 : q ∉ d1
  j1 : j ∉ d1
  z2 : z ∉ d2
  q2 : q ∉ d2
  i2 : i ∉ d2
section
variable {P : Program} {w : World} {A : Around} {E : Value → Shared → Prop} {s : Shared} {z p q i j : Addr} {xs ys : Array Value} {d1 d2 : List Addr} {N1 N2 : Nat → Heap → Prop}
theorem out_of {d : List Addr} {b c : Addr} (h : c ∉ d) (m : b ∈ d) : b ≠ c := fun e => h (e ▸ m)
theorem zp_item {k : Nat} {x y a b : Value} {Q : Value → Shared → Prop} (D : ZAp z p q i j d1 d2) (n1 : Nx P w i xs d1 N1) (n2 : Nx P w j ys d2 N2) (zo : IsZip s.heap z p q .none) (po : IsPair s.heap p (.ref i) (.ref j)) (qo : IsPair s.heap q a b)
    (st1 : N1 k s.heap) (st2 : N2 k s.heap) (ex : xs[k]? = some x) (ey : ys[k]? = some y)
    (go : ∀ g, IsZip g z p q (rawInt s.heap.objs.size) → IsPair g q x y → N1 (k + 1) g → N2 (k + 1) g → IsPair g s.heap.objs.size x y → (∀ c o, c ∉ [z, q, i, j] → s.heap.get? c = some o → g.get? c = some o) → Q (.ref s.heap.objs.size) { s with heap := g })
    (zi : i < s.heap.objs.size) (zj : j < s.heap.objs.size) (m1 : ∀ c ∈ d1, c < s.heap.objs.size) (m2 : ∀ c ∈ d2, c < s.heap.objs.size) :
    wpAny (model P w) A (Builtin.«zip.__next__» ⟨[.ref z], []⟩) (fun fin s' => ∃ v, fin = .done (.ret v) ∧ Q v s') E s := by
  have zl : z < s.heap.objs.size := Heap.lt_size zo
  have ql : q < s.heap.objs.size := Heap.lt_size qo
  show wpAny _ _ (field (.ref z) 2 >>= _) _ _ _
  refine wpAny_bind (wpAny_field zo rfl (x := .bool false) rfl ?_)
  show wpAny _ _ (field (.ref z) 3 >>= _) _ _ _
  refine wpAny_bind (wpAny_field zo rfl (x := .ref p) rfl ?_)
  refine wpAny_bind (wpAny_seqItems po rfl ?_)
  show wpAny _ _ (Builtin.SmallTypes.ownedTupleIsFree (.ref z) >>= _) _ _ _
  refine wpAny_bind ?_
  unfold Builtin.SmallTypes.ownedTupleIsFree
  refine wpAny_bind (wpAny_field zo rfl (x := .none) rfl (wpAny_pure ?_))
  simp only [if_true]
  refine wpAny_bind (wpAny_rule (wpAny_bind (wpAny_field zo rfl (x := .ref q) rfl ?_)))
  refine wpAny_bind (wpAny_setField_rec zo (by simp) fun g1 w1 b1 => ?_)
  replace w1 : IsZip g1 z p q .ellipsis := w1
  refine wpAny_bind ?_
  simp only [List.zipIdx_cons, List.zipIdx_nil, List.forIn_cons, List.forIn_nil]
  refine wpAny_bind (wpAny_bind (wpAny_onRaise ?_))
  show wpAny _ _ (Builtin.SmallTypes.nextOf (.ref i) >>= _) _ _ _
  have a1 : N1 k g1 := n1.stay _ _ _ st1 fun c hc o e => b1.extBut _ _ (out_of D.z1 hc) e
  refine wpAny_bind (n1.item _ _ _ _ _ _ a1 ex fun g2 a2 b2 => wpAny_pure ?_)
  have q2 : IsPair g2 q a b := b2.extBut _ _ D.qi (b1.extBut _ _ D.qz qo)
  refine wpAny_bind (wpAny_seqItems q2 rfl (wpAny_bind (wpAny_updateSeq_pair q2 fun g3 q3 b3 => ?_)))
  replace q3 : IsPair g3 q x b := q3
  refine wpAny_bind (wpAny_letGo (wpAny_pure ?_))
  refine wpAny_bind (wpAny_bind (wpAny_onRaise ?_))
  show wpAny _ _ (Builtin.SmallTypes.nextOf (.ref j) >>= _) _ _ _
  have c3 : N2 k g3 := n2.stay _ _ _ st2 fun c hc o e => b3.extBut _ _ (out_of D.q2 hc) (b2.extBut _ _ (out_of D.i2 hc) (b1.extBut _ _ (out_of D.z2 hc) e))
  refine wpAny_bind (n2.item _ _ _ _ _ _ c3 ey fun g4 c4 b4 => wpAny_pure ?_)
  have q4 : IsPair g4 q x b := b4.extBut _ _ D.qj q3
  refine wpAny_bind (wpAny_seqItems q4 rfl (wpAny_bind (wpAny_updateSeq_pair q4 fun g5 q5 b5 => ?_)))
  replace q5 : IsPair g5 q x y := q5
  refine wpAny_bind (wpAny_letGo (wpAny_pure (wpAny_pure ?_)))
  refine wpAny_bind (wpAny_seqItems q5 rfl (wpAny_bind (wpAny_newTuple ?_)))
  have sz : g5.objs.size = s.heap.objs.size := by rw [b5.1, b4.1, b3.1, b2.1, b1.1]
  have w5 : IsZip g5 z p q .ellipsis := b5.extBut _ _ D.qz.symm (b4.extBut _ _ D.jz.symm (b3.extBut _ _ D.qz.symm (b2.extBut _ _ D.iz.symm w1)))
  have k5 : ∀ c o, c ∉ [z, q, i, j] → s.heap.get? c = some o → g5.get? c = some o := fun c o hc e => by
    simp only [List.mem_cons, List.not_mem_nil, or_false, not_or] at hc
    obtain ⟨h1, h2, h3, h4⟩ := hc
    exact b5.extBut _ _ h2 (b4.extBut _ _ h4 (b3.extBut _ _ h2 (b2.extBut _ _ h3 (b1.extBut _ _ h1 e))))
  have a5 : N1 (k + 1) g5 := n1.stay _ _ _ a2 fun c hc o e => b5.extBut _ _ (out_of D.q1 hc) (b4.extBut _ _ (out_of D.j1 hc) (b3.extBut _ _ (out_of D.q1 hc) e))
  have c5 : N2 (k + 1) g5 := n2.stay _ _ _ c4 fun c hc o e => b5.extBut _ _ (out_of D.q2 hc) e
  show wpAny _ _ (Builtin.SmallTypes.ownedTupleHandOut (.ref z) (.ref g5.objs.size) >>= _) _ _ _
  refine wpAny_bind ?_
  unfold Builtin.SmallTypes.ownedTupleHandOut
  have w6 : IsZip (g5.push { cls := .type "tuple", data := .seq #[x, y] }) z p q .ellipsis := Heap.get?_push_of_some _ w5
  refine wpAny_bind (wpAny_setField_rec w6 (by simp) fun g7 w7 b7 => ?_)
  replace w7 : IsZip g7 z p q (rawInt g5.objs.size) := w7
  refine wpAny_setField_rec w7 (by simp) fun g8 w8 b8 => ?_
  replace w8 : IsZip g8 z p q (rawInt g5.objs.size) := w8
  have up : ∀ c o, c ≠ z → g5.get? c = some o → g8.get? c = some o := fun c o c1 e => b8.extBut _ _ c1 (b7.extBut _ _ c1 (Heap.get?_push_of_some _ e))
  have zn : g5.objs.size ≠ z := by rw [sz]; exact Ne.symm (Nat.ne_of_lt zl)
  have t8 : IsPair g8 g5.objs.size x y := b8.extBut _ _ zn (b7.extBut _ _ zn (Heap.get?_push_size _ rfl))
  refine wpAny_pure ⟨_, rfl, ?_⟩
  show Q (.ref g5.objs.size) _
  rw [sz] at w8 t8 ⊢
  exact go g8 w8 (up _ _ D.qz q5) (n1.stay _ _ _ a5 fun c hc o e => up c o (out_of D.z1 hc) e) (n2.stay _ _ _ c5 fun c hc o e => up c o (out_of D.z2 hc) e) t8 fun c o hc e => up c o (fun h => hc (by simp [h])) (k5 c o hc e)
theorem zp_end {k : Nat} {a b : Value} {Q : Fin → Shared → Prop} (hh : A.handled = none) (D : ZAp z p q i j d1 d2) (n1 : Nx P w i xs d1 N1) (n2 : Nx P w j ys d2 N2) (zo : IsZip s.heap z p q .none) (po : IsPair s.heap p (.ref i) (.ref j)) (qo : IsPair s.heap q a b)
    (st1 : N1 k s.heap) (st2 : N2 k s.heap) (ex : xs[k]? = none ∨ ys[k]? = none)
    (go : ∀ g e, (∀ c o, c ∉ [z, q, i, j] → s.heap.get? c = some o → g.get? c = some o) → (∃ o, g.get? e = some o ∧ o.cls = .type "StopIteration") → E (.ref e) { s with heap := g }) :
    wpAny (model P w) A (Builtin.«zip.__next__» ⟨[.ref z], []⟩) Q E s := by
  show wpAny _ _ (field (.ref z) 2 >>= _) _ _ _
  refine wpAny_bind (wpAny_field zo rfl (x := .bool false) rfl ?_)
  show wpAny _ _ (field (.ref z) 3 >>= _) _ _ _
  refine wpAny_bind (wpAny_field zo rfl (x := .ref p) rfl ?_)
  refine wpAny_bind (wpAny_seqItems po rfl ?_)
  show wpAny _ _ (Builtin.SmallTypes.ownedTupleIsFree (.ref z) >>= _) _ _ _
  refine wpAny_bind ?_
  unfold Builtin.SmallTypes.ownedTupleIsFree
  refine wpAny_bind (wpAny_field zo rfl (x := .none) rfl (wpAny_pure ?_))
  simp only [if_true]
  refine wpAny_bind (wpAny_rule (wpAny_bind (wpAny_field zo rfl (x := .ref q) rfl ?_)))
  refine wpAny_bind (wpAny_setField_rec zo (by simp) fun g1 w1 b1 => ?_)
  replace w1 : IsZip g1 z p q .ellipsis := w1
  refine wpAny_bind ?_
  simp only [List.zipIdx_cons, List.zipIdx_nil, List.forIn_cons, List.forIn_nil]
  refine wpAny_bind (wpAny_bind (wpAny_onRaise ?_))
  show wpAny _ _ (Builtin.SmallTypes.nextOf (.ref i) >>= _) _ _ _
  have a1 : N1 k g1 := n1.stay _ _ _ st1 fun c hc o e => b1.extBut _ _ (out_of D.z1 hc) e
  cases ex1 : xs[k]? with
  | none =>
    refine wpAny_bind (n1.fin _ _ _ _ _ hh a1 ex1 fun g2 e b2 he => ?_)
    obtain ⟨oe, e1, e2⟩ := he
    have w2 : IsZip g2 z p q .ellipsis := b2 _ _ D.iz.symm w1
    have ez : e ≠ z := fun t => by subst t; rw [w2] at e1; cases e1; simp at e2
    refine wpAny_setField_rec w2 (by simp) fun g3 _ b3 => go g3 e (fun c o hc r => ?_) ⟨oe, b3.extBut _ _ ez e1, e2⟩
    simp only [List.mem_cons, List.not_mem_nil, or_false, not_or] at hc
    obtain ⟨h1, h2, h3, h4⟩ := hc
    exact b3.extBut _ _ h1 (b2 _ _ h3 (b1.extBut _ _ h1 r))
  | some x =>
    have ey : ys[k]? = none := by
      rcases ex with h | h
      · rw [ex1] at h; cases h
      · exact h
    refine wpAny_bind (n1.item _ _ _ _ _ _ a1 ex1 fun g2 a2 b2 => wpAny_pure ?_)
    have q2 : IsPair g2 q a b := b2.extBut _ _ D.qi (b1.extBut _ _ D.qz qo)
    refine wpAny_bind (wpAny_seqItems q2 rfl (wpAny_bind (wpAny_updateSeq_pair q2 fun g3 q3 b3 => ?_)))
    refine wpAny_bind (wpAny_letGo (wpAny_pure ?_))
    refine wpAny_bind (wpAny_bind (wpAny_onRaise ?_))
    show wpAny _ _ (Builtin.SmallTypes.nextOf (.ref j) >>= _) _ _ _
    have c3 : N2 k g3 := n2.stay _ _ _ st2 fun c hc o e => b3.extBut _ _ (out_of D.q2 hc) (b2.extBut _ _ (out_of D.i2 hc) (b1.extBut _ _ (out_of D.z2 hc) e))
    refine wpAny_bind (n2.fin _ _ _ _ _ hh c3 ey fun g4 e b4 he => ?_)
    obtain ⟨oe, e1, e2⟩ := he
    have w4 : IsZip g4 z p q .ellipsis := b4 _ _ D.jz.symm (b3.extBut _ _ D.qz.symm (b2.extBut _ _ D.iz.symm w1))
    have ez : e ≠ z := fun t => by subst t; rw [w4] at e1; cases e1; simp at e2
    refine wpAny_setField_rec w4 (by simp) fun g5 _ b5 => go g5 e (fun c o hc r => ?_) ⟨oe, b5.extBut _ _ ez e1, e2⟩
    simp only [List.mem_cons, List.not_mem_nil, or_false, not_or] at hc
    obtain ⟨h1, h2, h3, h4⟩ := hc
    exact b5.extBut _ _ h1 (b4 _ _ h4 (b3.extBut _ _ h2 (b2.extBut _ _ h3 (b1.extBut _ _ h1 r))))
end
def Itz (K : PySem.W.Frag) (a b : Addr) (xs ys : List V) : It := ⟨fun k H => SqT K H a xs ∧ SqT K H b ys ∧ k < xs.length ∧ k < ys.length,
  fun k H v H' => ∃ T x y, H T = none ∧ v = .ref T ∧ H' = upd H T (.tup [x, y]) ∧ xs[k]? = some x ∧ ys[k]? = some y,
  fun k H => SqT K H a xs ∧ SqT K H b ys ∧ (xs.length ≤ k ∨ ys.length ≤ k)⟩
def ZSt (z p q i j l1 l2 : Addr) (k : Nat) (h : Heap) : Prop := IsZip h z p q .none ∧ IsPair h p (.ref i) (.ref j) ∧ (∃ a b, IsPair h q a b) ∧ h.IsTupleIter i l1 k ∧ h.IsTupleIter j l2 k
theorem turn_zip {P : Program} {w : World} {K : PySem.W.Frag} {es : List Expr} {k0} {pos : Pos} (z p q i j l1 l2 : Addr) (xs ys : List V) (D : ZAp z p q i j [i, l1] [j, l2]) (n1 : l1 ≠ i) (n2 : l2 ≠ j) (fr : p ∉ [z, q, i, j]) :
    Turn P w K (.Tuple es k0 pos) (Itz K l1 l2 xs ys) [z, p, q, i, j] z (ZSt z p q i j l1 l2) where
  mem := by simp
  obj := fun k h st b hb => by
    obtain ⟨e1, e2, ⟨a, c, e3⟩, ⟨o4, e4, _, d4⟩, ⟨o5, e5, _, d5⟩⟩ := st
    simp only [List.mem_cons, List.not_mem_nil, or_false] at hb
    rcases hb with rfl | rfl | rfl | rfl | rfl
    · exact ⟨_, e1, fun v z => by cases z⟩
    · exact ⟨_, e2, fun v z => by cases z⟩
    · exact ⟨_, e3, fun v z => by cases z⟩
    · exact ⟨_, e4, fun v z => by rw [d4] at z; cases z⟩
    · exact ⟨_, e5, fun v z => by rw [d5] at z; cases z⟩
  keep := fun k h h' st f => by
    obtain ⟨e1, e2, ⟨a, c, e3⟩, ⟨o4, e4, r4⟩, ⟨o5, e5, r5⟩⟩ := st
    exact ⟨f z (by simp) _ e1, f p (by simp) _ e2, ⟨a, c, f q (by simp) _ e3⟩, ⟨o4, f i (by simp) _ e4, r4⟩, ⟨o5, f j (by simp) _ e5, r5⟩⟩
  item := by
    intro X hP hw hK hc k pins s σ H E I hf st hg
    subst hP hw hK
    obtain ⟨hq1, hq2, hx1, hx2⟩ := hg
    obtain ⟨e1, e2, ⟨a, c, e3⟩, e4, e5⟩ := st
    obtain ⟨it1, rv1, p1, z1⟩ := I.tuple hq1
    obtain ⟨it2, rv2, p2, z2⟩ := I.tuple hq2
    obtain ⟨u1, hu1, ru1⟩ := rv1.get (List.getElem?_eq_getElem hx1)
    obtain ⟨u2, hu2, ru2⟩ := rv2.get (List.getElem?_eq_getElem hx2)
    have lt1 : ∀ {b : Addr} {o : Obj}, s.heap.get? b = some o → b < s.heap.objs.size := fun e => Heap.lt_size e
    have li : i < s.heap.objs.size := by obtain ⟨o, e, _⟩ := e4; exact lt1 e
    have lj : j < s.heap.objs.size := by obtain ⟨o, e, _⟩ := e5; exact lt1 e
    have ll1 : l1 < s.heap.objs.size := by obtain ⟨o, e, _⟩ := p1; exact lt1 e
    have ll2 : l2 < s.heap.objs.size := by obtain ⟨o, e, _⟩ := p2; exact lt1 e
    have lz := lt1 e1
    have lp := lt1 e2
    have lq := lt1 e3
    have tz : s.TypeIs (.ref z) "zip" := ⟨_, e1, rfl⟩
    have nT : H s.heap.objs.size = none := I.hok.fresh (Nat.le_refl _)
    have nf : ∀ b ∈ [z, p, q, i, j], b ≠ s.heap.objs.size := fun b hb => by
      simp only [List.mem_cons, List.not_mem_nil, or_false] at hb
      rcases hb with h | h | h | h | h
      · rw [h]; exact Nat.ne_of_lt lz
      · rw [h]; exact Nat.ne_of_lt lp
      · rw [h]; exact Nat.ne_of_lt lq
      · rw [h]; exact Nat.ne_of_lt li
      · rw [h]; exact Nat.ne_of_lt lj
    unfold pyNext
    refine wpAny_bind (wpAny_attempt (wpAny_callSpecial?_slot (name := Str.ofString "__next__") tz F.slot_zip_next (wpAny_call_entry F.slot_zip_next tz F.entry_zip_next
      (zp_item D (nx_tuple _ _ i l1 it1.toArray n1) (nx_tuple _ _ j l2 it2.toArray n2) e1 e2 e3 ⟨e4, p1⟩ ⟨e5, p2⟩ (by simpa using hu1) (by simpa using hu2) (fun g f1 f2 f3 f4 f5 f6 => wpAny_pure ?_) li lj (fun c hc => ?_) (fun c hc => ?_)) (F.args_zip_next_1 _))))
    rotate_left
    · simp only [List.mem_cons, List.not_mem_nil, or_false] at hc
      rcases hc with rfl | rfl <;> omega
    · simp only [List.mem_cons, List.not_mem_nil, or_false] at hc
      rcases hc with rfl | rfl <;> omega
    refine ⟨_, rfl, wpAny_letOwnedTupleGo_zip f1 fun g' w' b' => ?_⟩
    have I1 : Inv X pins σ (upd H s.heap.objs.size (.tup [xs[k], ys[k]])) { s with heap := s.heap.push { cls := .type "tuple", data := .seq #[u1, u2] }, toks := s.toks } :=
      I.laid (fun b v e => Heap.get?_push_of_some _ e) (Nat.le_refl _) ⟨by show 2 ≤ sizeLine; decide, [u1, u2], .cons ru1 (.cons ru2 .nil), ⟨_, Heap.get?_push_size _ rfl, rfl, _, rfl⟩⟩
    have I2 : Inv X pins σ (upd H s.heap.objs.size (.tup [xs[k], ys[k]])) { s with heap := g', toks := s.toks } := by
      refine Inv.turnedL (s := { s with heap := s.heap.push { cls := .type "tuple", data := .seq #[u1, u2] }, toks := s.toks }) (ch := [z, q, i, j]) (t' := s.toks) I1 (fun b o hb e => ?_) fun b hb => ?_
      · have bz : b ≠ z := fun h => hb (by simp [h])
        by_cases bT : b = s.heap.objs.size
        · subst bT
          have e' : (s.heap.push { cls := .type "tuple", data := .seq #[u1, u2] }).get? s.heap.objs.size = some _ := Heap.get?_push_size _ rfl
          rw [e'] at e
          exact ((b'.2 _ bz).trans f5).trans e
        · have e' : s.heap.get? b = some o := by rw [← e]; exact (Heap.get?_push_ne _ _ _ bT).symm
          exact (b'.2 b bz).trans (f6 b o hb e')
      · have hb' : b ∈ [z, p, q, i, j] := by
          simp only [List.mem_cons, List.not_mem_nil, or_false] at hb ⊢
          rcases hb with h | h | h | h <;> simp [h]
        obtain ⟨f0, fr⟩ := hf b hb'
        exact ⟨by rw [upd_ne (nf b hb')]; exact f0, fr⟩
    refine ⟨.ref s.heap.objs.size, _, I2, rfl, ⟨s.heap.objs.size, xs[k], ys[k], nT, rfl, rfl, List.getElem?_eq_getElem hx1, List.getElem?_eq_getElem hx2⟩, ?_, fun b hb => by rw [upd_ne (nf b hb)]; exact (hf b hb).1⟩
    have up : ∀ {b : Addr} {o : Obj}, b ≠ z → g.get? b = some o → g'.get? b = some o := fun h e => (b'.2 _ h).trans e
    exact ⟨w', up D.pz (f6 p _ fr e2), ⟨_, _, up D.qz f2⟩, f3.1.extBut b'.extBut D.iz, f4.1.extBut b'.extBut D.jz⟩
  done := by
    intro X hP hw hK hc k pins s σ H E I hf st hg
    subst hP hw hK
    obtain ⟨hq1, hq2, hx⟩ := hg
    obtain ⟨e1, e2, ⟨a, c, e3⟩, e4, e5⟩ := st
    obtain ⟨it1, rv1, p1, z1⟩ := I.tuple hq1
    obtain ⟨it2, rv2, p2, z2⟩ := I.tuple hq2
    have h1 := rv1.length
    have h2 := rv2.length
    have tz : s.TypeIs (.ref z) "zip" := ⟨_, e1, rfl⟩
    unfold pyNext
    refine wpAny_bind (wpAny_attempt (wpAny_callSpecial?_slot (name := Str.ofString "__next__") tz F.slot_zip_next (wpAny_call_entry F.slot_zip_next tz F.entry_zip_next
      (zp_end (I.ok.hd hc) D (nx_tuple _ _ i l1 it1.toArray n1) (nx_tuple _ _ j l2 it2.toArray n2) e1 e2 e3 ⟨e4, p1⟩ ⟨e5, p2⟩ (hx.imp (fun h => by simp; omega) fun h => by simp; omega) fun g e f6 he => ?_) (F.args_zip_next_1 _))))
    obtain ⟨oe, e6, e7⟩ := he
    refine wpAny_bind (wpAny_isInstance (T := "StopIteration") (b := true) ⟨oe, e6, e7⟩ isSubtype_stop (wpAny_pure ⟨rfl, ?_⟩))
    exact I.turnedL (t' := s.toks) (ch := [z, q, i, j]) f6 fun b hb => hf b (by
      simp only [List.mem_cons, List.not_mem_nil, or_false] at hb ⊢
      rcases hb with h | h | h | h <;> simp [h])
  self := fun _ _ _ _ _ st h => wpAny_pyIter_zip st.1 h
def zN (h : Heap) (l1 l2 : Addr) : Heap := ((((h.push { cls := .type "tuple_iterator", data := .fields #[.ref l1, .int 0 0] }).push { cls := .type "tuple_iterator", data := .fields #[.ref l2, .int 0 0] }).push
  { cls := .type "tuple", data := .seq #[.ref h.objs.size, .ref (h.push { cls := .type "tuple_iterator", data := .fields #[.ref l1, .int 0 0] }).objs.size] }).push { cls := .type "tuple", data := .seq #[.none, .none] }).push
  { cls := .type "zip", data := .fields #[.none, .bool false, .bool false, .ref ((h.push { cls := .type "tuple_iterator", data := .fields #[.ref l1, .int 0 0] }).push { cls := .type "tuple_iterator", data := .fields #[.ref l2, .int 0 0] }).objs.size,
    .ref (((h.push { cls := .type "tuple_iterator", data := .fields #[.ref l1, .int 0 0] }).push { cls := .type "tuple_iterator", data := .fields #[.ref l2, .int 0 0] }).push
      { cls := .type "tuple", data := .seq #[.ref h.objs.size, .ref (h.push { cls := .type "tuple_iterator", data := .fields #[.ref l1, .int 0 0] }).objs.size] }).objs.size] }
theorem meets_zipT (l1 l2 : Addr) (xs ys : Array Value) :
    Meets (Builtin.«zip.__new__» ⟨[.type "zip", .ref l1, .ref l2], []⟩) (fun _ R s => s.heap.IsTuple l1 xs ∧ s.heap.IsTuple l2 ys ∧ R (.ok (.ret (.ref ((zN s.heap l1 l2).objs.size - 1)))) { s with heap := zN s.heap l1 l2 }) :=
  .of_wp fun prog w A R s h => by
    obtain ⟨hp, g, d, tk, os⟩ := s
    obtain ⟨a1, a2, h⟩ := h
    have hsub := sub_zip
    have b1 : Heap.IsTuple (Shared.heap ⟨hp, g, d, tk, os⟩) l1 xs := a1
    have b2 : Heap.IsTuple (Shared.heap ⟨hp.push { cls := .type "tuple_iterator", data := .fields #[.ref l1, .int 0 0] }, g, d, tk, os⟩) l2 ys := Heap.IsTuple.push a2 _
    wp_walk using wpAny_pyIter_tuple b1, wpAny_pyIter_tuple b2
    refine ⟨_, rfl, ?_⟩
    have e : (zN hp l1 l2).objs.size - 1 = ((((hp.push { cls := .type "tuple_iterator", data := .fields #[.ref l1, .int 0 0] }).push { cls := .type "tuple_iterator", data := .fields #[.ref l2, .int 0 0] }).push
      { cls := .type "tuple", data := .seq #[.ref hp.objs.size, .ref (hp.push { cls := .type "tuple_iterator", data := .fields #[.ref l1, .int 0 0] }).objs.size] }).push { cls := .type "tuple", data := .seq #[.none, .none] }).objs.size := by
      show (Heap.push _ _).objs.size - 1 = _
      rw [Heap.size_push]
      rfl
    have h' := h
    rw [e] at h'
    exact h'
theorem zN_is {h : Heap} {l1 l2 : Addr} : IsZip (zN h l1 l2) (h.objs.size + 4) (h.objs.size + 2) (h.objs.size + 3) .none ∧ IsPair (zN h l1 l2) (h.objs.size + 2) (.ref h.objs.size) (.ref (h.objs.size + 1)) ∧ IsPair (zN h l1 l2) (h.objs.size + 3) .none .none ∧
    (zN h l1 l2).IsTupleIter h.objs.size l1 0 ∧ (zN h l1 l2).IsTupleIter (h.objs.size + 1) l2 0 ∧ (zN h l1 l2).objs.size = h.objs.size + 5 ∧ ∀ c o, h.get? c = some o → (zN h l1 l2).get? c = some o := by
  unfold zN
  simp only [Heap.size_push]
  refine ⟨?_, ?_, ?_, ⟨{ cls := .type "tuple_iterator", data := .fields #[.ref l1, .int 0 0] }, ?_, rfl, rfl⟩, ⟨{ cls := .type "tuple_iterator", data := .fields #[.ref l2, .int 0 0] }, ?_, rfl, rfl⟩, ?_, fun c o e => ?_⟩
  · have e := Heap.get?_push_size ((((h.push { cls := .type "tuple_iterator", data := .fields #[.ref l1, .int 0 0] }).push { cls := .type "tuple_iterator", data := .fields #[.ref l2, .int 0 0] }).push
      { cls := .type "tuple", data := .seq #[.ref h.objs.size, .ref (h.objs.size + 1)] }).push { cls := .type "tuple", data := .seq #[.none, .none] }) (o := { cls := .type "zip", data := .fields #[.none, .bool false, .bool false, .ref (h.objs.size + 1 + 1), .ref (h.objs.size + 1 + 1 + 1)] }) rfl
    simp only [Heap.size_push] at e
    exact e
  · have e := Heap.get?_push_size (((h.push { cls := .type "tuple_iterator", data := .fields #[.ref l1, .int 0 0] }).push { cls := .type "tuple_iterator", data := .fields #[.ref l2, .int 0 0] })) (o := { cls := .type "tuple", data := .seq #[.ref h.objs.size, .ref (h.objs.size + 1)] }) rfl
    simp only [Heap.size_push] at e
    exact Heap.get?_push_of_some _ (Heap.get?_push_of_some _ e)
  · have e := Heap.get?_push_size (((h.push { cls := .type "tuple_iterator", data := .fields #[.ref l1, .int 0 0] }).push { cls := .type "tuple_iterator", data := .fields #[.ref l2, .int 0 0] }).push
      { cls := .type "tuple", data := .seq #[.ref h.objs.size, .ref (h.objs.size + 1)] }) (o := { cls := .type "tuple", data := .seq #[.none, .none] }) rfl
    simp only [Heap.size_push] at e
    exact Heap.get?_push_of_some _ e
  · exact Heap.get?_push_of_some _ (Heap.get?_push_of_some _ (Heap.get?_push_of_some _ (Heap.get?_push_of_some _ (Heap.get?_push_size _ rfl))))
  · have e := Heap.get?_push_size (h.push { cls := .type "tuple_iterator", data := .fields #[.ref l1, .int 0 0] }) (o := { cls := .type "tuple_iterator", data := .fields #[.ref l2, .int 0 0] }) rfl
    simp only [Heap.size_push] at e
    exact Heap.get?_push_of_some _ (Heap.get?_push_of_some _ (Heap.get?_push_of_some _ e))
  · trivial
  · exact Heap.get?_push_of_some _ (Heap.get?_push_of_some _ (Heap.get?_push_of_some _ (Heap.get?_push_of_some _ (Heap.get?_push_of_some _ e))))
theorem nn_ {a b : Nat} (h : a ≠ b) : (show Addr from a) ≠ (show Addr from b) := h
theorem zap (n l1 l2 : Nat) (h1 : l1 < n) (h2 : l2 < n) : ZAp (n + 4) (n + 2) (n + 3) n (n + 1) [n, l1] [n + 1, l2] where
  pz := nn_ (by omega)
  qz := nn_ (by omega)
  iz := nn_ (by omega)
  jz := nn_ (by omega)
  pq := nn_ (by omega)
  pi := nn_ (by omega)
  pj := nn_ (by omega)
  qi := nn_ (by omega)
  qj := nn_ (by omega)
  ij := nn_ (by omega)
  z1 := show (n + 4 : Nat) ∉ ([n, l1] : List Nat) from by simp; omega
  q1 := show (n + 3 : Nat) ∉ ([n, l1] : List Nat) from by simp; omega
  j1 := show (n + 1 : Nat) ∉ ([n, l1] : List Nat) from by simp; omega
  z2 := show (n + 4 : Nat) ∉ ([n + 1, l2] : List Nat) from by simp; omega
  q2 := show (n + 3 : Nat) ∉ ([n + 1, l2] : List Nat) from by simp; omega
  i2 := show (n : Nat) ∉ ([n + 1, l2] : List Nat) from by simp; omega
theorem zap_p (n : Nat) : n + 2 ∉ [n + 4, n + 3, n, n + 1] := by simp
theorem zap_ge (n b : Nat) (h : b ∈ [n + 4, n + 2, n + 3, n, n + 1]) : n ≤ b := by
  simp only [List.mem_cons, List.not_mem_nil, or_false] at h
  omega
def iZip (K : PySem.W.Frag) (ta : TA) : TI := fun σ H R => ta σ H fun vs H1 => ∃ a b xs ys, vs = [.ref a, .ref b] ∧ SqT K H1 a xs ∧ SqT K H1 b ys ∧ R (Itz K a b xs ys) H1
theorem pi_zip {X : Cx} {a b : Expr} {ta : TA} {p pos p2 : Pos} {es : List Expr} {k0} (hg : Gl X "zip") (hm : X.mg "zip" = none) (ha : PA X [a, b] ta) (hs : starEach [a, b] X.env = [(false, eval a X.env), (false, eval b X.env)] := by rfl) (hs2 : starEach [b] X.env = [(false, eval b X.env)] := by rfl) :
    PI X (.Tuple es k0 p2) (.Call (.Name "zip" p) [a, b] [] pos) (iZip X.K ta) := by
  intro pins s σ H R I h
  refine Call_ (ld_blt I hg hm boot_zip (PyProof.Rows.callWith_type1 (thn (ha pos pins s σ H _ I h) fun us s1 ⟨vs, H1, I1, r1, q1⟩ => ?_) (by rw [hs, hs2]) (by rw [hs2]; rfl)))
  obtain ⟨l1, l2, xs, ys, rfl, hq1, hq2, q⟩ := q1
  obtain ⟨u1, u2, rfl, r1, r2⟩ := Vals.two r1
  cases r1
  cases r2
  obtain ⟨it1, rv1, p1, z1⟩ := I1.tuple hq1
  obtain ⟨it2, rv2, p2, z2⟩ := I1.tuple hq2
  have ll1 : l1 < s1.heap.objs.size := by obtain ⟨o, e, _⟩ := p1; exact Heap.lt_size e
  have ll2 : l2 < s1.heap.objs.size := by obtain ⟨o, e, _⟩ := p2; exact Heap.lt_size e
  refine callType_new F.called_zip (by decide) (F.typeCall_zip_2 _ _) (F.newCall_zip_2 _ _) (fun obj => F.args_object_init_3 obj _ _) F.entry_zip_new (meets_zipT l1 l2 it1.toArray it2.toArray) ⟨p1, p2, ?_⟩
  obtain ⟨e1, e2, e3, e4, e5, e6, e7⟩ := zN_is (h := s1.heap) (l1 := l1) (l2 := l2)
  have e8 : (zN s1.heap l1 l2).objs.size - 1 = s1.heap.objs.size + 4 := by rw [e6]; rfl
  show _ ∧ _
  rw [e8]
  refine ⟨⟨_, e1, rfl⟩, wpAny_pyIter_zip e1 ?_⟩
  have D := zap _ _ _ ll1 ll2
  refine ⟨_, [s1.heap.objs.size + 4, s1.heap.objs.size + 2, s1.heap.objs.size + 3, s1.heap.objs.size, s1.heap.objs.size + 1], _, _, H1, rfl, I1.kept (t' := s1.toks) e7, turn_zip _ _ _ _ _ l1 l2 xs ys D (Nat.ne_of_lt ll1) (Nat.ne_of_lt (Nat.lt_succ_of_lt ll2)) (zap_p _),
    ⟨e1, e2, ⟨_, _, e3⟩, e4, e5⟩, fun b hb => ?_, q⟩
  have hb' : s1.heap.objs.size ≤ b := zap_ge _ _ hb
  exact I1.fpOk hb' (I1.hok.fresh hb')
end L2
set_option maxRecDepth 100000
set_option linter.all false
set_option Elab.async false
set_option maxHeartbeats 4000000
namespace L2
open PySem PySem.Spec PyProof.Rows PyProof
section
variable {prog : Program} {w : World} {A : Around} {E : Value → Shared → Prop} {s : Shared}
end
end L2
set_option maxRecDepth 100000
set_option linter.all false
set_option Elab.async false
set_option maxHeartbeats 4000000
namespace L2
open PySem PySem.Spec PyProof.Rows PyProof
section
variable {X : Cx} {e : Expr}
end
structure Grow (H H' : Hp) : Prop where
  same : Same H H'
  none : ∀ b, H' b = Option.none → H b = Option.none
theorem Grow.refl (H : Hp) : Grow H H := ⟨Same.refl H, fun _ h => h⟩
theorem Grow.trans {H H1 H2 : Hp} (a : Grow H H1) (b : Grow H1 H2) : Grow H H2 := ⟨a.same.trans b.same, fun c h => a.none c (b.none c h)⟩
theorem Grow.put {H : Hp} {a : Addr} {o : HO} (h : H a = Option.none) : Grow H (upd H a o) := ⟨fun b u e => by rw [upd_ne (ne_of_none e h)]; exact e, fun b e => by
  by_cases z : b = a
  · subst z; exact h
  · rw [upd_ne z] at e; exact e⟩
theorem Grow.set {H H4 : Hp} {D : Addr} {o : HO} (g : Grow H H4) (hD : H D = Option.none) : Grow H (upd H4 D o) :=
  ⟨fun b u e => by rw [upd_ne (ne_of_none e hD)]; exact g.same b u e, fun b e => by
    by_cases z : b = D
    · subst z; exact hD
    · rw [upd_ne z] at e; exact g.none b e⟩
theorem Room.u2 {k : Nat} {A : Around} (r : Room k A) : A.units + 2 < cLine := by have := r.un; omega
def IsFn (o : Obj) (x qual : Str) (st : Stmt) (dV cdv : Value) (fd : FuncData) : Prop :=
  ∃ (oc : Value) (od : Option Addr) (kV doc pm : Value) (an : Option Addr) (ct : Value) (osl : Array (Option Value)), o = ⟨oc, od, .func fd, osl⟩ ∧ fd = PySem.W.fnOf x qual (defArgs st) (defBody st) (defScope st) dV kV doc pm an cdv ct
theorem IsFn.d {K : PySem.W.Frag} {f : Addr} {o : Obj} {x qual : Str} {st : Stmt} {dV cdv : Value} {fd : FuncData} (n : IsFn o x qual st dV cdv fd) (l : K.lookup f = some o) (c : PySem.W.codeIn K cdv qual = true) (k : PySem.W.keepIn K (.ref f) = true) : FunD K x qual st dV f fd := by
  obtain ⟨oc, od, kV, doc, pm, an, ct, osl, rfl, e⟩ := n
  exact ⟨⟨oc, od, kV, doc, pm, an, cdv, ct, osl, e, l, c⟩, k⟩
def TabD (o : Obj) (D : List (Str × V)) : Prop := o.ExactDict ∧ ∃ es ep, o.data = .dict es ep ∧ PyProof.Rows.KTD.Rows RelV es.toList D
theorem TabD.s {K : PySem.W.Frag} {a : Addr} {o : Obj} {D : List (Str × V)} (h : TabD o D) (l : K.lookup a = some o) (n : (a == sysModules) = false) : TabS K a D := let ⟨c, es, ep, d, r⟩ := h; ⟨n, o, es, ep, l, c, d, r⟩
end L2
set_option maxRecDepth 100000
set_option linter.all false
set_option Elab.async false
set_option maxHeartbeats 4000000
namespace L2
open PySem PySem.Spec PyProof.Rows PyProof
theorem cmpG1 {X : Cx} {scope : Scope} {own : List Str} {y : Str} {c : Addr} {i : Nat} (h1 : closureFor scope X.env = pure [(y, c)]) (h2 : ∀ z ∈ scope.names, z.2 ≠ .cell) (h3 : scope.kind = .function) (h4 : ∀ z ∈ scope.names, z.2 = .local → scope.names.lookup z.1 = some .local)
    (hc : X.env.cells.lookup y = some c) (hf : ∀ z ∈ scope.names, z.2 = .free → z.1 = y) (hy : scope.names.lookup y = some .free) (ho : X.env.kindOf y = some .cell ∨ X.env.kindOf y = some .free) (hi : X.N[i]? = some y) (hnd : (own ++ [y]).Nodup) : CmpG X scope [(y, c)] own [y] [i] := by
  refine ⟨h1, h2, h3, h4, fun z d h => ?_, fun z h => ?_, hnd, fun j z h => ?_, rfl, fun z h => ?_⟩
  · by_cases e : z = y
    · subst e
      simp only [List.lookup_cons, beq_self_eq_true] at h
      cases h; exact hc
    · simp only [List.lookup_cons, beq_eq_false_iff_ne.mpr e] at h
      cases h
  · have e : z = y := hf (z, .free) (PySem.mem_of_lookup h) rfl
    subst e
    exact ⟨c, by simp [List.lookup_cons]⟩
  · cases j with
    | zero =>
      have e : y = z := by simpa using h
      subst e
      exact ⟨i, rfl, hi⟩
    | succ j => simp at h
  · have e : z = y := by simpa using h
    subst e
    exact ⟨hy, ho⟩
theorem cmpG2 {X : Cx} {scope : Scope} {own : List Str} {x y : Str} {c d : Addr} {i j : Nat} (hne : ¬ y = x) (h1 : closureFor scope X.env = pure [(x, c), (y, d)]) (h2 : ∀ z ∈ scope.names, z.2 ≠ .cell) (h3 : scope.kind = .function) (h4 : ∀ z ∈ scope.names, z.2 = .local → scope.names.lookup z.1 = some .local)
    (hc : X.env.cells.lookup x = some c) (hd : X.env.cells.lookup y = some d) (hf : ∀ z ∈ scope.names, z.2 = .free → z.1 = x ∨ z.1 = y) (hx : scope.names.lookup x = some .free) (hy : scope.names.lookup y = some .free)
    (ox : X.env.kindOf x = some .cell ∨ X.env.kindOf x = some .free) (oy : X.env.kindOf y = some .cell ∨ X.env.kindOf y = some .free) (hi : X.N[i]? = some x) (hj : X.N[j]? = some y) (hnd : (own ++ [x, y]).Nodup) : CmpG X scope [(x, c), (y, d)] own [x, y] [i, j] := by
  refine ⟨h1, h2, h3, h4, fun z e h => ?_, fun z h => ?_, hnd, fun k z h => ?_, rfl, fun z h => ?_⟩
  · by_cases e1 : z = x
    · subst e1
      simp only [List.lookup_cons, beq_self_eq_true] at h
      cases h; exact hc
    · simp only [List.lookup_cons, beq_eq_false_iff_ne.mpr e1] at h
      by_cases e2 : z = y
      · subst e2
        simp only [beq_self_eq_true] at h
        cases h; exact hd
      · simp only [beq_eq_false_iff_ne.mpr e2] at h
        cases h
  · rcases hf (z, .free) (PySem.mem_of_lookup h) rfl with e | e
    · have e' : z = x := e
      subst e'
      exact ⟨c, by simp [List.lookup_cons]⟩
    · have e' : z = y := e
      subst e'
      exact ⟨d, by rw [List.lookup_cons, beq_eq_false_iff_ne.mpr hne, List.lookup_cons, beq_self_eq_true]⟩
  · match k, h with
    | 0, h =>
      have e : x = z := by simpa using h
      subst e
      exact ⟨i, rfl, hi⟩
    | 1, h =>
      have e : y = z := by simpa using h
      subst e
      exact ⟨j, rfl, hj⟩
    | k + 2, h => simp at h
  · rcases (by simpa using h : z = x ∨ z = y) with e | e
    · subst e; exact ⟨hx, ox⟩
    · subst e; exact ⟨hy, oy⟩
theorem for_enum {K : PySem.W.Frag} {l : Addr} {xs : List V} {g : TG} {tb : TS} {D : Ends} {σ : St} {H : Hp} (Pv : Nat → St → Hp → Prop) (h0 : Pv 0 σ H) (hl : ∀ i σ H, i ≤ xs.length → Pv i σ H → SqL K H l xs)
    (hs : ∀ i x T σ H, xs[i]? = some x → Pv i σ H → H T = none → g (.ref T) σ (upd H T (.tup [.int i, x])) fun σ2 H2 => tb { D with nx := Pv (i + 1), ct := Pv (i + 1), bk := D.nx } σ2 H2) (hd : ∀ σ H, Pv xs.length σ H → D.nx σ H) :
    ∃ W : Nat → Nat → St → Hp → Prop, (∃ m, W 0 m σ H) ∧ ∀ i m σ H, W i m σ H →
      ((Ite K l).stop i H ∧ D.nx σ H) ∨ ((Ite K l).go i H ∧ ∃ N : St → Hp → Prop, (∀ σ' H', N σ' H' → ∃ m', m' < m ∧ W (i + 1) m' σ' H') ∧ ∀ x H', (Ite K l).yld i H x H' → g x σ H' fun σ2 H2 => tb { D with nx := N, ct := N, bk := D.nx } σ2 H2) := by
  refine ⟨fun i m σ H => m = xs.length - i ∧ i ≤ xs.length ∧ Pv i σ H, ⟨xs.length, by simp, Nat.zero_le _, h0⟩, ?_⟩
  rintro i m σ H ⟨rfl, hi, p⟩
  have q := hl i σ H hi p
  by_cases hlt : i < xs.length
  · refine .inr ⟨⟨xs, xs[i], q, List.getElem?_eq_getElem hlt⟩, Pv (i + 1), fun σ' H' p' => ⟨xs.length - (i + 1), by omega, rfl, hlt, p'⟩, fun x H' y => ?_⟩
    obtain ⟨T, z, hT, rfl, rfl, hz⟩ := y
    exact hs i z T σ H (hz xs q) p hT
  · have e : i = xs.length := by omega
    subst e
    exact .inl ⟨⟨xs, q, Nat.le_refl _⟩, hd σ H p⟩
def behind (ss : List Str) (xs : List V) (t : Str) : List V := ((ss.zip xs).filter fun p => decide (p.1 = t)).map (·.2)
theorem lc_zip {K : PySem.W.Frag} {a b : Addr} {ss : List Str} {xs : List V} {t : Str} {σ : St} {i0 : Nat} {H : Hp} {D : Addr} {R : Hp → Prop} (hσ : σ.getD i0 none = some (.str t)) (h1 : SqT K H a (ss.map V.str)) (h2 : SqT K H b xs) (hn : xs.length ≤ 1000) (hD : H D = none)
    (q : ∀ H', Grow H H' → H' D = some (.lst (behind ss xs t)) → R H') :
    ∃ W : Nat → Nat → List V → Hp → Prop, (∃ m, W 0 m [] (upd H D (.lst []))) ∧ ∀ i m ys H2, W i m ys H2 →
      ((Itz K a b (ss.map V.str) xs).stop i H2 ∧ R H2) ∨ ((Itz K a b (ss.map V.str) xs).go i H2 ∧ ∀ (o : List (Option V)) v H3, o.length = 2 → (Itz K a b (ss.map V.str) xs).yld i H2 v H3 → gTup K 2 (gCons (gName 0) (gCons (gName 1) gNil)) v (blkG [i0] o σ) H3 fun σ2 H4 => (∃ o' : List (Option V), σ2 = blkG [i0] o' σ ∧ o'.length = 2) ∧
        ifT (some (tTest (tOp rEq (tVar 0) (tVar 2)))) σ2 H4 fun b H5 => if b = true then tVar 1 σ2 H5 fun y H6 => H6 D = some (.lst ys) ∧ ys.length < sizeLine ∧ ∃ m', m' < m ∧ W (i + 1) m' (ys ++ [y]) (upd H6 D (.lst (ys ++ [y]))) else ∃ m', m' < m ∧ W (i + 1) m' ys H5) := by
  have hz : (ss.zip xs).length = min ss.length xs.length := List.length_zip
  refine ⟨fun i m ys H2 => i ≤ (ss.zip xs).length ∧ m = (ss.zip xs).length - i ∧ ys = (((ss.zip xs).take i).filter fun p => decide (p.1 = t)).map (·.2) ∧ H2 D = some (.lst ys) ∧ Grow H H2, ⟨_, Nat.zero_le _, rfl, rfl, upd_same, Grow.put hD⟩, ?_⟩
  rintro i m ys H2 ⟨hi, rfl, rfl, hd2, g2⟩
  have a2 := SqT.mono g2.same h1
  have b2 := SqT.mono g2.same h2
  by_cases hl : i < (ss.zip xs).length
  · have hs : i < ss.length := by omega
    have hx : i < xs.length := by omega
    refine .inr ⟨⟨a2, b2, by rw [List.length_map]; exact hs, hx⟩, fun o v H3 ho hy => ?_⟩
    obtain ⟨T, x, y, hT, rfl, rfl, ex, ey⟩ := hy
    have ez : (ss.zip xs)[i]? = some (ss[i], y) := by
      rw [List.getElem?_zip_eq_some]
      exact ⟨List.getElem?_eq_getElem hs, ey⟩
    have ex' : x = .str ss[i] := by
      rw [List.getElem?_map, List.getElem?_eq_getElem hs] at ex
      exact (Option.some.inj ex).symm
    subst ex'
    have tD : D ≠ T := ne_of_none hd2 hT
    have g3 : Grow H2 (upd H2 T (.tup [.str ss[i], y])) := Grow.put hT
    have lenb : ((((ss.zip xs).take i).filter fun p => decide (p.1 = t)).map (·.2)).length ≤ i := by
      rw [List.length_map]
      exact Nat.le_trans (List.length_filter_le _ _) (by rw [List.length_take]; omega)
    match o, ho with
    | [_, _], _ =>
      refine ⟨T, _, rfl, SqT.of upd_same, rfl, _, _, rfl, _, _, rfl, rfl, ⟨[some (.str ss[i]), some y], rfl, rfl⟩, ?_⟩
      refine ⟨_, rfl, .str t, ?_, rfl, _, rfl, ?_⟩
      · show some (σ.getD i0 none) = _
        rw [hσ]
      have e3 : decide (V.str ss[i] = V.str t) = decide (ss[i] = t) := by rw [Bool.eq_iff_iff]; simp
      rw [e3]
      have tk : (ss.zip xs).take (i + 1) = (ss.zip xs).take i ++ [(ss[i], y)] := by rw [List.take_add_one, ez]; rfl
      refine ite2 (fun hc => ?_) (fun hc => ?_)
      · refine ⟨y, rfl, (upd_ne tD).trans hd2, ?_, _, ?_, hl, rfl, ?_, upd_same, (g2.trans g3).set hD⟩
        · rw [sizeLine_eq]; omega
        · omega
        · rw [tk, List.filter_append, List.map_append]
          simp [of_decide_eq_true hc]
      · refine ⟨_, ?_, hl, rfl, ?_, (upd_ne tD).trans hd2, g2.trans g3⟩
        · omega
        · rw [tk, List.filter_append, List.map_append]
          have hc' : ¬ ss[i] = t := fun z => hc (decide_eq_true z)
          simp [hc']
  · have e : i = (ss.zip xs).length := by omega
    subst e
    refine .inl ⟨⟨a2, b2, ?_⟩, q _ g2 ?_⟩
    · rw [List.length_map]; omega
    · rw [hd2, List.take_of_length_le (Nat.le_refl _)]
      rfl
theorem cut1 (x : V) (r : List V) : cutV (x :: r) (some 1) none = r := by
  unfold cutV
  have e1 : HT.sIx (x :: r).length 0 (some 1) = 1 := by
    show (if (1 : Int) < 0 then ((1 : Int) + ((x :: r).length : Int)).toNat else min (1 : Int).toNat (x :: r).length) = 1
    rw [if_neg (by decide)]
    show min 1 (r.length + 1) = 1
    omega
  rw [e1, HT.sIx_none]
  simp
theorem cut1_not (x : V) (r : List V) : ¬ (HT.sIx (x :: r).length 0 (some 1) = 0 ∧ HT.sIx (x :: r).length (x :: r).length none = (x :: r).length) := by
  intro h
  have e1 : HT.sIx (x :: r).length 0 (some 1) = 1 := by
    show (if (1 : Int) < 0 then ((1 : Int) + ((x :: r).length : Int)).toNat else min (1 : Int).toNat (x :: r).length) = 1
    rw [if_neg (by decide)]
    show min 1 (r.length + 1) = 1
    omega
  rw [e1] at h
  cases h.1
theorem pe_lcI {X : Cx} {scope : Scope} {cl : List (Str × Addr)} {own rest : List Str} {ix : List Nat} {elt iter tg c : Expr} {pos : Pos} {wi : TI} {te : TE} {g : TG} {tc : TT} (ok : CmpG X scope cl own rest ix) (hc : X.calm = true) (hi : PI X tg iter wi)
    (he : ∀ (C : Addr) (s : Shared) (H : Hp) (fp : List Addr) (pins : List (Addr × Obj)), PE (cxC X scope cl (own ++ rest) C s H fp pins) elt te) (hg : ∀ (C : Addr) (s : Shared) (H : Hp) (fp : List Addr) (pins : List (Addr × Obj)), PG (cxC X scope cl (own ++ rest) C s H fp pins) tg g)
    (hif : ∀ (C : Addr) (s : Shared) (H : Hp) (fp : List Addr) (pins : List (Addr × Obj)), PT (cxC X scope cl (own ++ rest) C s H fp pins) c tc)
    (hs : ∀ x, foldedSetIterable iter X.env x = pure x := by intro x; rfl) : PE X (.ListComp elt [⟨tg, iter, [c], 0⟩] scope pos) (tLCG wi g (some tc) te own.length ix) := pe_lcG (tc := some tc) ok hc hi he hg hif hs
theorem pe_lc0 {X : Cx} {scope : Scope} {cl : List (Str × Addr)} {own rest : List Str} {ix : List Nat} {elt iter tg : Expr} {pos : Pos} {wi : TI} {te : TE} {g : TG} (ok : CmpG X scope cl own rest ix) (hc : X.calm = true) (hi : PI X tg iter wi)
    (he : ∀ (C : Addr) (s : Shared) (H : Hp) (fp : List Addr) (pins : List (Addr × Obj)), PE (cxC X scope cl (own ++ rest) C s H fp pins) elt te) (hg : ∀ (C : Addr) (s : Shared) (H : Hp) (fp : List Addr) (pins : List (Addr × Obj)), PG (cxC X scope cl (own ++ rest) C s H fp pins) tg g)
    (hs : ∀ x, foldedSetIterable iter X.env x = pure x := by intro x; rfl) : PE X (.ListComp elt [⟨tg, iter, [], 0⟩] scope pos) (tLCG wi g none te own.length ix) := pe_lcG (tc := none) ok hc hi he hg (fun _ _ _ _ _ => trivial) hs
theorem pg_two {X : Cx} {n1 n2 : Str} {p1 p2 pos : Pos} {k : Nat} (K : PySem.W.Frag) (hK : X.K = K) (hc : X.calm = true) (hN : X.N.Nodup) (h0 : X.N[0]? = some n1) (h1 : X.N[1]? = some n2) (x1 : Loc X.env.scope n1) (x2 : Loc X.env.scope n2) (l0 : X.env.scope.names.lookup n1 = some .local) (l1 : X.env.scope.names.lookup n2 = some .local) :
    PG X (.Tuple [.Name n1 p1, .Name n2 p2] k pos) (gTup K 2 (gCons (gName 0) (gCons (gName 1) gNil))) := by
  subst hK
  exact pg_tup hc (pgs_cons (pg_name (i := 0) hN h0 x1 (Or.inr l0)) (pgs_cons (pg_name (i := 1) hN h1 x2 (Or.inr l1)) pgs_nil))
end L2
set_option maxRecDepth 100000
set_option linter.all false
set_option Elab.async false
set_option maxHeartbeats 4000000
namespace L2
open PySem PySem.Spec PyProof.Rows PyProof
section
variable {X : Cx} {scope : Scope} {cl : List (Str × Addr)} {own rest : List Str} {ix : List Nat}
theorem lc_out {Nb : List Str} {σb : St} {pins : List (Addr × Obj)} {σ : St} {H H' : Hp} {s s5 : Shared} {fp : List Addr} (I : Inv X pins σ H s) (I5 : Inv (cxC X scope cl Nb s.heap.objs.size s H fp pins) [] σb H' s5) (hf : ∀ b ∈ fp, FpOk X pins H b) {h'' : Heap} (hs : Heap.SameBut s.heap.objs.size s5.heap h'') :
    Inv X pins σ H' { s5 with heap := h'' } := by
  have B := I5.base
  have ne : ∀ b u, s.heap.get? b = some u → b ≠ s.heap.objs.size := fun b u e => Nat.ne_of_lt (Heap.lt_size e)
  have un : Un (frs X.stack) fp H H' s.heap h'' :=
    ⟨fun b u e n hx hy => (hs.2 b (ne b u e)).trans (B.keep b u e n hx hy), fun b u e n hx hy => (let ⟨sl, z⟩ := B.slot b u e n hx hy; ⟨sl, (hs.2 b (ne b u e)).trans z⟩), B.free,
     fun b u e hy => (let ⟨u', z⟩ := B.there b u e hy; ⟨u', (hs.2 b (ne b u e)).trans z⟩), B.tups, B.frzs, B.tbls⟩
  have hok : HOk X.prog X.w H' h'' := fun b u e => (I5.hok b u e).stay (fun c v hc' z => (hs.2 c (fun zz => by
    have fz : H' s.heap.objs.size = none := I5.free
    rcases hc' with y | y
    · rw [← y, zz, fz] at e; cases e
    · rw [zz, fz] at y; cases y)).trans z) (fun _ z => z) fun _ _ z => z
  refine I.call' (s' := { s5 with heap := h'' }) (ch := fp) I5.os un hok I5.bare fun b hm => ?_
  obtain ⟨g0, g1, g2, g3, g4, g5⟩ := hf b hm
  exact ⟨g3, g1, g4, g5⟩
theorem lcR_loop {elt iter tg : Expr} {ifs : List Expr} {pos : Pos} {te : TE} {g : TG} {tc : Option TT} {pins : List (Addr × Obj)} {σ : St} {H : Hp} {s s4 : Shared} {fp : List Addr} {it D : Addr} {tn : Nat → Heap → Prop} {J : It} {Q : VK} {RR : Result → Shared → Prop} {W : Nat → Nat → List V → Hp → Prop} {m0 : Nat}
    (ok : CmpG X scope cl own rest ix) (hc : X.calm = true) (he : ∀ (C : Addr) (s : Shared) (H : Hp) (fp : List Addr) (pins : List (Addr × Obj)), PE (cxC X scope cl (own ++ rest) C s H fp pins) elt te) (hg : ∀ (C : Addr) (s : Shared) (H : Hp) (fp : List Addr) (pins : List (Addr × Obj)), PG (cxC X scope cl (own ++ rest) C s H fp pins) tg g)
    (hif : ∀ (C : Addr) (s : Shared) (H : Hp) (fp : List Addr) (pins : List (Addr × Obj)), PIf (cxC X scope cl (own ++ rest) C s H fp pins) ifs tc)
    (I : Inv X pins σ H s) (T : Turn X.prog X.w X.K tg J fp it tn) (hf : ∀ b ∈ fp, FpOk X pins H b) (hb : ∀ b ∈ fp, b < s.heap.objs.size)
    (J4 : Inv (cxC X scope cl (own ++ rest) s.heap.objs.size s H fp pins) [] (blkG ix (List.replicate own.length none) σ) H s4) (st : tn 0 s4.heap) (w0 : W 0 m0 [] H)
    (fin : ∀ f H' s5 o, o.length = own.length → Inv (cxC X scope cl (own ++ rest) s.heap.objs.size s H fp pins) [] (blkG ix o σ) H' s5 → Q (.ref D) H' → RR (.ok f) s5)
    (turn : ∀ i m ys H2, W i m ys H2 → (J.stop i H2 ∧ Q (.ref D) H2) ∨ (J.go i H2 ∧ ∀ (o : List (Option V)) v H3, o.length = own.length → J.yld i H2 v H3 → g v (blkG ix o σ) H3 fun σ2 H4 => (∃ o' : List (Option V), σ2 = blkG ix o' σ ∧ o'.length = own.length) ∧
      ifT tc σ2 H4 fun b H5 => if b = true then te σ2 H5 fun y H6 => H6 D = some (.lst ys) ∧ ys.length < sizeLine ∧ ∃ m', m' < m ∧ W (i + 1) m' (ys ++ [y]) (upd H6 D (.lst (ys ++ [y]))) else ∃ m', m' < m ∧ W (i + 1) m' ys H5)) :
    codeAny (model X.prog X.w) X.A (.compLoop (.ListComp elt [⟨tg, iter, ifs, 0⟩] scope pos) 0 (.ref it) (.ref D) (compEnvC scope cl s.heap.objs.size X.env)) RR s4 := by
  have stat : ∀ {H' : Hp}, (∀ b ∈ fp, H' b = none) → ∀ b ∈ fp, FpOk (cxC X scope cl (own ++ rest) s.heap.objs.size s H fp pins) [] H' b := fun hn b hm => by
    obtain ⟨g0, g1, g2, g3, g4, g5⟩ := hf b hm
    refine ⟨hn b hm, Nat.ne_of_lt (hb b hm), fun z => ?_, .inl hm, fun y c h => g4 y c (ok.cls y c h), fun p hp => g5 p (by simpa [cxC] using hp)⟩
    rcases List.mem_cons.mp (I.stkSub b z) with z | z
    · exact g1 z
    · exact g2 z
  refine codeAny_loop rfl (fun n s' => ∃ i ys o H', o.length = own.length ∧ Inv (cxC X scope cl (own ++ rest) s.heap.objs.size s H fp pins) [] (blkG ix o σ) H' s' ∧ tn i s'.heap ∧ (∀ b ∈ fp, H' b = none) ∧ W i n ys H') (fun n s' hI => ?_) m0 ⟨0, [], List.replicate own.length none, H, by simp, J4, st, fun b hm => (hf b hm).1, w0⟩
  obtain ⟨i, ys, o, H', ho, I', st', fr', w'⟩ := hI
  show wpAny _ _ ((compTurn (.ListComp elt [⟨tg, iter, ifs, 0⟩] scope pos) 0 (.ref it) (.ref D) (compEnvC scope cl s.heap.objs.size X.env)).onRaise (fun x => do noteFrame x (compEnvC scope cl s.heap.objs.size X.env); theTreesLotGoes x)) _ _ s'
  refine wpAny_noted ?_
  rw [compTurn_list]
  refine wpAny_bind (wpAny_standAt (wpAny_bind ?_))
  rcases turn i n ys H' w' with ⟨stop, q⟩ | ⟨go, step⟩
  · refine thn (T.done (cxC X scope cl (own ++ rest) s.heap.objs.size s H fp pins) rfl rfl rfl hc i [] s' _ H' _ I' (stat fr') st' stop) fun r s5 ⟨hr, I5⟩ => ?_
    subst hr
    exact wpAny_pure (fin _ H' s5 o ho I5 q)
  · refine thn (T.item (cxC X scope cl (own ++ rest) s.heap.objs.size s H fp pins) rfl rfl rfl hc i [] s' _ H' _ I' (stat fr') st' go) fun r s5 ⟨u, hr, h5⟩ => ?_
    subst hr
    refine wpAny_bind (thn h5 fun _ s6 ⟨xv, H6, I6, r6, y6, st6, fr6⟩ => ?_)
    have I6' := I6.pinned (stat fr6) (T.obj _ _ st6)
    refine wpAny_bind (wpAny_mono (hg _ _ _ _ _ _ s6 (blkG ix o σ) H6 xv u _ I6' r6 (step o xv H6 ho y6)) (fun _ s7 ⟨σ7, H7, I7, ⟨o', e7, ho'⟩, q7⟩ => ?_) fun _ _ z => z.elim)
    subst e7
    have again : ∀ {H9 : Hp} {s9 : Shared} {ys9 : List V} {m' : Nat}, Inv (cxC X scope cl (own ++ rest) s.heap.objs.size s H fp pins) ([] ++ pinsAt fp s6.heap) (blkG ix o' σ) H9 s9 → m' < n → W (i + 1) m' ys9 H9 →
        ∃ m, m < n ∧ ∃ i ys o H', o.length = own.length ∧ Inv (cxC X scope cl (own ++ rest) s.heap.objs.size s H fp pins) [] (blkG ix o σ) H' s9 ∧ tn i s9.heap ∧ (∀ b ∈ fp, H' b = none) ∧ W i m ys H' := fun {H9 s9 ys9 m'} I9 hm w9 => by
      refine ⟨m', hm, i + 1, ys9, o', H9, ho', I9.unpinned, ?_, fun b hm => ?_, w9⟩
      · exact T.keep _ _ _ st6 fun b hm ob e => (I9.pin (b, ob) (List.mem_append_right _ (List.mem_append_right _ (mem_pinsAt hm e)))).1
      · obtain ⟨ob, e, d⟩ := T.obj _ _ st6 b hm
        exact (I9.pin (b, ob) (List.mem_append_right _ (List.mem_append_right _ (mem_pinsAt hm e)))).2.1
    refine wpAny_bind (wpAny_mono (if_ok (hif _ _ _ _ _) I7 q7) (fun b s8 ⟨H8, I8, q8⟩ => ?_) fun _ _ z => z.elim)
    cases b with
    | false =>
      obtain ⟨m', hm', w8⟩ := (show ∃ m', m' < n ∧ W (i + 1) m' ys H8 from q8)
      exact wpAny_pure ⟨rfl, again I8 hm' w8⟩
    | true =>
      refine wpAny_bind (wpAny_bind (wpAny_mono (he _ _ _ _ _ _ s8 _ _ _ I8 q8) (fun yv s9 ⟨y, H9, I9, r9, hD, hz, m', hm', w9⟩ => ?_) fun _ _ z => z.elim))
      refine wpAny_bind (wpAny_mono (mt_append (X := cxC X scope cl (own ++ rest) s.heap.objs.size s H fp pins) _ s9 _ H9 (.ref D) [y] (.ref D) [yv] (fun _ H10 => H10 = upd H9 D (.lst (ys ++ [y]))) I9 rfl (.cons r9 .nil) ⟨D, ys, y, rfl, rfl, hD, hz, rfl⟩) (fun _ s10 ⟨_, H10, I10, _, e10⟩ => ?_) fun _ _ z => z.elim)
      subst e10
      exact wpAny_pure (wpAny_pure ⟨rfl, again I10 hm' w9⟩)
theorem ps_setLC {elt iter tg : Expr} {ifs : List Expr} {pos spos py : Pos} {wi : TI} {te : TE} {g : TG} {tc : Option TT} {i : Nat} {x : Str} (hN : X.N.Nodup) (hi' : X.N[i]? = some x) (hx : Loc X.env.scope x) (ok : CmpG X scope cl own rest ix) (hc : X.calm = true) (hi : PI X tg iter wi)
    (he : ∀ (C : Addr) (s : Shared) (H : Hp) (fp : List Addr) (pins : List (Addr × Obj)), PE (cxC X scope cl (own ++ rest) C s H fp pins) elt te) (hg : ∀ (C : Addr) (s : Shared) (H : Hp) (fp : List Addr) (pins : List (Addr × Obj)), PG (cxC X scope cl (own ++ rest) C s H fp pins) tg g)
    (hif : ∀ (C : Addr) (s : Shared) (H : Hp) (fp : List Addr) (pins : List (Addr × Obj)), PIf (cxC X scope cl (own ++ rest) C s H fp pins) ifs tc)
    (hsw : swapsWith (.ListComp elt [⟨tg, iter, ifs, 0⟩] scope pos) (some (.Name x py)) spos.line X.env = pure true) (hf : X.fn x = true ∨ X.env.scope.names.lookup x = some .local)
    (hs : ∀ x, foldedSetIterable iter X.env x = pure x := by intro _; rfl) : PS X (.Assign [.Name x py] (.ListComp elt [⟨tg, iter, ifs, 0⟩] scope pos) spos) (tAsg (tLCG wi g tc te own.length ix) (gName i)) := by
  intro pins s σ H E I h
  rw [exec_Assign_Name_used _ _ _ _ hsw]
  refine wpAny_bind (wpAny_standAt (wpAny_bind ?_))
  show wpAny _ X.A (do let _ ← comprehension (.ListComp elt [⟨tg, iter, ifs, 0⟩] scope pos) scope X.env _ (newList []) false (eval iter X.env) (some (assign (.Name x py) X.env))) _ _ s
  refine wpAny_bind (wpAny_mono (wpAny_comprehension_free (use := some (assign (.Name x py) X.env)) (Q := fun _ s' => SP X pins E .next s') rfl hs ok.clos ok.kind ok.names (thn (hi pins s σ H _ I h) fun v s1 h1 => thn h1 fun itv s2 h2 => ?_)) (fun _ s' hq => wpAny_pure (wpAny_pure hq)) fun _ _ e => e)
  obtain ⟨it, fp, tn, J, H1, e, I2, T, st2, f2, hq⟩ := h2
  subst e
  refine wpAny_newObj_type (wpAny_newFunctionEnv ok.cell (by intro y hy; simp at hy) (fun h₁ hns hsb => ?_) ok.kind)
  dsimp only at hns hsb ⊢
  have na : H1 s2.heap.objs.size = none := I2.hok.fresh (Nat.le_refl _)
  obtain ⟨W, ⟨m0, w0⟩, turn⟩ := hq s2.heap.objs.size na
  have I3 := I2.laid (t' := s2.toks) (o := .lst []) (h' := s2.heap.push { cls := .type "list", dict := none, data := .seq ([] : List Value).toArray }) (fun b u e => Heap.get?_push_of_some _ e) (Nat.le_refl _) ⟨by decide, [], 0, .nil, Heap.get?_push_size _ rfl⟩
  have fa : ∀ b ∈ fp, b < s2.heap.objs.size := fun b hb => by
    obtain ⟨o, ho, _⟩ := T.obj 0 _ st2 b hb
    exact Heap.lt_size ho
  generalize hs3 : ({ s2 with heap := s2.heap.push { cls := .type "list", dict := none, data := .seq ([] : List Value).toArray } } : Shared) = s3 at hns hsb I3 ⊢
  have z3 : s3.heap.objs.size = s2.heap.objs.size + 1 := by rw [← hs3]; exact Heap.size_push _ _
  have k3 : ∀ b u, s2.heap.get? b = some u → s3.heap.get? b = some u := fun b u e => by rw [← hs3]; exact Heap.get?_push_of_some _ e
  have fa3 : ∀ b ∈ fp, b < s3.heap.objs.size := fun b hb => by rw [z3]; exact Nat.lt_succ_of_lt (fa b hb)
  have f3 : ∀ b ∈ fp, FpOk X pins (upd H1 s2.heap.objs.size (.lst [])) b := fun b hb => by
    obtain ⟨g0, g1⟩ := f2 b hb
    exact ⟨by rw [upd_ne (Nat.ne_of_lt (fa b hb))]; exact g0, g1⟩
  subst hs3
  have J4 := cmpG_start ok (tk := s2.toks + ([] : List (Str × Value)).length) I3 f3 fa3 hns hsb
  have st4 : tn 0 h₁ := T.keep _ _ _ st2 fun b hm o e => (hsb.2 b (Nat.ne_of_lt (fa3 b hm))).trans (Heap.get?_push_of_some _ (k3 b o e))
  refine (fun loop => codeAny_compStart_list loop (T.self _ 0 _ _ _ st4 loop)) (lcR_loop (Q := fun v H' => gName i v σ H' E.nx) (elt := elt) (iter := iter) (pos := pos) (s4 := { s2 with heap := h₁, toks := s2.toks + ([] : List (Str × Value)).length }) ok hc he hg hif I3 T f3 fa3 J4 st4 w0 (fun f H' s5 o ho I5 q => ?_) turn)
  obtain ⟨m, hn, _⟩ := I5.loc
  obtain ⟨oC, es, ep, hoC, rC⟩ := id hn
  have nC : H' _ = none := I5.free
  have Jx := lc_out I3 I5 f3 (h'' := s5.heap) (Heap.SameBut.refl ..)
  have fC : FpOk X pins H' (s2.heap.push { cls := .type "list", dict := none, data := .seq ([] : List Value).toArray }).objs.size := I3.fpOk (Nat.le_refl _) nC
  have Jp := Jx.pinned (fp := [(s2.heap.push { cls := .type "list", dict := none, data := .seq ([] : List Value).toArray }).objs.size]) (fun b hb => by rw [List.mem_singleton.mp hb]; exact fC) (fun b hb => by
    rw [List.mem_singleton.mp hb]
    exact ⟨oC, hoC, fun v z => by rw [rC.1] at z; cases z⟩)
  show wpAny _ X.A (assign (.Name x py) X.env (.ref s2.heap.objs.size)) _ _ s5
  refine wpAny_mono (pg_name (pos := py) hN hi' hx hf _ s5 σ H' (.ref s2.heap.objs.size) (.ref s2.heap.objs.size) (fun σ6 H6 => σ6 = σ.set i (some (.ref s2.heap.objs.size)) ∧ H6 = H') Jp rfl ⟨rfl, rfl⟩) (fun _ s6 ⟨σ6, H6, I6, e1, e2⟩ => ?_) fun _ _ e => e
  subst e1 e2
  have pC := (I6.pin (_, oC) (List.mem_append_right _ (List.mem_append_right _ (mem_pinsAt (List.mem_singleton.mpr rfl) hoC)))).1
  refine ⟨m, ⟨oC, es, ep, pC, rC⟩, fun h' hs' => ⟨_, _, Inv.turnedL (t' := s6.toks) (ch := [_]) I6.unpinned (fun b o hb e => (hs'.2 b (fun z => hb (List.mem_singleton.mpr z))).trans e) (fun b hb => by rw [List.mem_singleton.mp hb]; exact fC), q⟩⟩
theorem ps_setLC0 {elt iter tg : Expr} {pos spos py : Pos} {wi : TI} {te : TE} {g : TG} {i : Nat} {x : Str} (hN : X.N.Nodup) (hi' : X.N[i]? = some x) (hx : Loc X.env.scope x) (ok : CmpG X scope cl own rest ix) (hc : X.calm = true) (hi : PI X tg iter wi)
    (he : ∀ (C : Addr) (s : Shared) (H : Hp) (fp : List Addr) (pins : List (Addr × Obj)), PE (cxC X scope cl (own ++ rest) C s H fp pins) elt te) (hg : ∀ (C : Addr) (s : Shared) (H : Hp) (fp : List Addr) (pins : List (Addr × Obj)), PG (cxC X scope cl (own ++ rest) C s H fp pins) tg g)
    (hsw : swapsWith (.ListComp elt [⟨tg, iter, [], 0⟩] scope pos) (some (.Name x py)) spos.line X.env = pure true) (hf : X.fn x = true ∨ X.env.scope.names.lookup x = some .local)
    (hs : ∀ x, foldedSetIterable iter X.env x = pure x := by intro _; rfl) : PS X (.Assign [.Name x py] (.ListComp elt [⟨tg, iter, [], 0⟩] scope pos) spos) (tAsg (tLCG wi g none te own.length ix) (gName i)) := ps_setLC hN hi' hx ok hc hi he hg (fun _ _ _ _ _ => trivial) hsw hf hs
end
end L2
set_option maxRecDepth 100000
set_option linter.all false
set_option Elab.async false
set_option maxHeartbeats 4000000
namespace L2
open PySem PySem.Spec PyProof.Rows PyProof
def ixOf (k : Str) : List Str → Option Nat
  | [] => none
  | x :: r => if decide (k = x) = true then some 0 else (ixOf k r).map (· + 1)
theorem dat_zip {k : Str} : ∀ {ks : List Str} {vs : List V} {i : Nat} {v : V}, ixOf k ks = some i → vs[i]? = some v → KTD.datumAt k (ks.zip vs) = some v
  | [], _, _, _, h, _ => by cases h
  | x :: r, [], i, v, h, hv => by simp at hv
  | x :: r, u :: us, i, v, h, hv => by
    show (if decide (k = x) = true then some u else KTD.datumAt k (r.zip us)) = some v
    have h' : (if decide (k = x) = true then some 0 else (ixOf k r).map (· + 1)) = some i := h
    by_cases z : decide (k = x) = true
    · rw [if_pos z] at h' ⊢
      cases h'
      simpa using hv
    · rw [if_neg z] at h' ⊢
      cases e : ixOf k r with
      | none => rw [e] at h'; cases h'
      | some j =>
        rw [e] at h'
        have ei : i = j + 1 := by simpa using h'.symm
        subst ei
        exact dat_zip e (by simpa using hv)
theorem key_no {k : Str} : ∀ {ks : List Str} {vs : List V}, ixOf k ks = none → KTD.inKeys k (ks.zip vs) = false
  | [], _, _ => rfl
  | x :: r, [], _ => rfl
  | x :: r, u :: us, h => by
    show (decide (k = x) || KTD.inKeys k (r.zip us)) = false
    have h' : (if decide (k = x) = true then some 0 else (ixOf k r).map (· + 1)) = none := h
    by_cases z : decide (k = x) = true
    · rw [if_pos z] at h'; cases h'
    · rw [if_neg z] at h'
      have e : ixOf k r = none := by
        cases e : ixOf k r with
        | none => rfl
        | some j => rw [e] at h'; cases h'
      rw [Bool.eq_false_iff.mpr z, Bool.false_or]
      exact key_no e
def TupO (o : Obj) (xs : List V) : Prop := o.cls = .type "tuple" ∧ ∃ its n, o.data = .seq its n ∧ Vals xs its.toList
theorem TupO.s {K : PySem.W.Frag} {a : Addr} {o : Obj} {xs : List V} (h : TupO o xs) (l : K.lookup a = some o) (hz : xs.length ≤ sizeLine) : ∀ H, SqT K H a xs := fun H => by
  obtain ⟨c, its, n, d, v⟩ := h
  refine .inr ⟨o, its, n, l, c, d, ?_, v⟩
  have h1 : xs.length = its.toList.length := v.length
  have h2 : its.toList.length = its.size := by simp
  show its.size ≤ sizeLine
  rw [← h2, ← h1]
  exact hz
theorem slots_zip {K : PySem.W.Frag} : ∀ {ks : List Str} {sss : List (List Str)} {vs : List V}, ks.length = sss.length → ks.length = vs.length → (∀ (i : Nat) ss v, sss[i]? = some ss → vs[i]? = some v → ∃ tp, v = .ref tp ∧ ∀ H, SqT K H tp (ss.map V.str)) →
    ∀ wd, ((ks.zip sss).lookup wd = none ∧ KTD.datumAt wd (ks.zip vs) = none) ∨ ∃ ss tp, (ks.zip sss).lookup wd = some ss ∧ KTD.datumAt wd (ks.zip vs) = some (.ref tp) ∧ ∀ H, SqT K H tp (ss.map V.str)
  | [], _, _, _, _, _, wd => .inl ⟨rfl, rfl⟩
  | x :: r, [], _, h, _, _, wd => by simp at h
  | x :: r, ss :: sss, [], _, h, _, wd => by simp at h
  | x :: r, ss :: sss, v :: vs, h1, h2, h3, wd => by
    show (List.lookup wd ((x, ss) :: r.zip sss) = none ∧ (if decide (wd = x) = true then some v else KTD.datumAt wd (r.zip vs)) = none) ∨ ∃ ss' tp, List.lookup wd ((x, ss) :: r.zip sss) = some ss' ∧ (if decide (wd = x) = true then some v else KTD.datumAt wd (r.zip vs)) = some (.ref tp) ∧ _
    by_cases z : wd = x
    · subst z
      rw [if_pos (decide_eq_true rfl)]
      obtain ⟨tp, rfl, ht⟩ := h3 0 ss v rfl rfl
      exact .inr ⟨ss, tp, by simp, rfl, ht⟩
    · rw [if_neg (by simp [z]), List.lookup_cons, beq_eq_false_iff_ne.mpr z]
      exact slots_zip (by simpa using h1) (by simpa using h2) (fun i ss' v' e1 e2 => h3 (i + 1) ss' v' (by simpa using e1) (by simpa using e2)) wd
end L2
set_option maxRecDepth 100000
set_option linter.all false
set_option Elab.async false
set_option maxHeartbeats 4000000
namespace L2
open PySem PySem.Spec PyProof.Rows PyProof Dt
def Kn (P : Program) (w : World) (K : PySem.W.Frag) (mg : Str → Option Value) (base : Heap) (k : Nat) (x : Str) (ps : List Str) (sp : Sp) : Prop :=
  ∃ f fd, FnOk P w K mg base (CXE P w) k f fd ps sp ∧ mg x = some (.ref f) ∧ PySem.W.keepIn K (.ref f) = true ∧ Binds K fd ps []
section
variable {X : Cx} {k : Nat} {ps : List Str} {sp : Sp} {x : Str} {p pos : Pos} {e : Expr} {es : List Expr} {t : TA}
theorem pe_k (G : Kn X.prog X.w X.K X.mg X.base k x ps sp) (hr : Room k X.A) (ha : PA X (e :: es) t) (hg : Gl X x := by rfl)
    (hdb : (x == ("__debug__" : Str)) = false := by decide) (he : starEach (e :: es) X.env = (false, eval e X.env) :: starEach es X.env := by rfl) (hpl : (backTo pos (starEach es X.env)).any (·.1) = false := by rfl) :
    PE X (.Call (.Name x p) (e :: es) [] pos) (tCall sp [] E0 t) := by
  obtain ⟨f, fd, F, m, kp, b⟩ := G
  exact pe_call F hr hg m kp b .nil passE0 ha hdb he hpl
theorem mt_indexD : MtR X "list.index" (fun x xs H Q => ∃ (p : Addr) (ys : List V) (xv : V) (d : Dt) (ds : List Dt), x = .ref p ∧ xs = [xv] ∧ SqL X.K H p ys ∧ DtAt X.K H d xv ∧ DtsAt X.K H ds ys ∧ X.A.units + 1 + deps ds < cLine ∧ inDs d ds = true ∧
    ∀ (j : Nat) (e : Dt), ds[j]? = some e → eqD e d = true → Q (.int j) H) := by
  intro pins s σ H x xs v us Q I rx rs h
  obtain ⟨p, ys, xv, d, ds, rfl, rfl, hq, hd, hds, hu, hin, q⟩ := h
  cases rx
  obtain ⟨u, rfl, e⟩ := vals1 rs
  obtain ⟨its, rv, ⟨⟨cls, dd, data, sl⟩, n, ho, hc, hdd, hdata⟩, hz⟩ := I.list hq
  simp only at hc hdd hdata
  subst hc hdd hdata
  obtain ⟨f, hf, hm⟩ := any_eq I X.A.in1 d xv u hd e hds rv (by show X.A.units + 1 + deps ds < cLine; exact hu)
  have hl : its.length = ds.length := by rw [← rv.length, hds.length]
  have hany : its.any f = true := by
    rw [any_map', hm, ← any_map']
    exact hin
  have hj : its.findIdx f < its.length := List.findIdx_lt_length_of_exists (by simpa using hany)
  have hit : f its[its.findIdx f] = true := List.findIdx_getElem
  have hno : ∀ m (hm : m < its.length), m < its.findIdx f → f its[m] = false := fun m _ h => by
    have := List.not_of_lt_findIdx h
    simpa using this
  refine call_meets PySem.F.slot_list_index ⟨_, ho, rfl⟩ PySem.F.entry_list_index (PySem.F.args_list_index_2 _ _) (SeqAt.list_indexAt p its.toArray n none sl u f (its.findIdx f) (by simpa using hj) ?_ (by simpa using hit) (fun m hm h => by simpa using hno m (by simpa using hm) h)) ⟨ho, fun y hy => hf y (by simpa using hy), ?_⟩
  · have := rv.length
    have : its.length ≤ sizeLine := by omega
    rw [sizeLine_eq] at this
    omega
  · refine ⟨.int _, H, I.tok _, ⟨_, rfl⟩, ?_⟩
    have hj' : its.findIdx f < ds.length := by omega
    refine q _ _ (List.getElem?_eq_getElem hj') ?_
    have := congrArg (fun l => l[its.findIdx f]?) hm
    simp only [List.getElem?_map, List.getElem?_eq_getElem hj, List.getElem?_eq_getElem hj', Option.map_some] at this
    rw [← Option.some.inj this]
    exact hit
end
theorem lc_listP {K : PySem.W.Frag} {a : Addr} {xs : List V} {te : TE} {ix : List Nat} {σ : St} {H : Hp} {D : Addr} {R : Hp → Prop} (Pv : Nat → List V → Hp → Prop) (h0 : Pv 0 [] (upd H D (.lst []))) (hx : ∀ i ys H', i ≤ xs.length → Pv i ys H' → SqL K H' a xs)
    (he : ∀ i x ys H', xs[i]? = some x → Pv i ys H' → ∀ Q' : VK, (∀ y H6, H6 D = some (.lst ys) → ys.length < sizeLine → Pv (i + 1) (ys ++ [y]) (upd H6 D (.lst (ys ++ [y]))) → Q' y H6) → te (blkG ix [some x] σ) H' Q') (q : ∀ ys H', Pv xs.length ys H' → R H') :
    ∃ W : Nat → Nat → List V → Hp → Prop, (∃ m, W 0 m [] (upd H D (.lst []))) ∧ ∀ i m ys H2, W i m ys H2 →
      ((Itl K a).stop i H2 ∧ R H2) ∨ ((Itl K a).go i H2 ∧ ∀ (o : List (Option V)) v H3, o.length = 1 → (Itl K a).yld i H2 v H3 → gName 0 v (blkG ix o σ) H3 fun σ2 H4 => (∃ o' : List (Option V), σ2 = blkG ix o' σ ∧ o'.length = 1) ∧
        ifT none σ2 H4 fun b H5 => if b = true then te σ2 H5 fun y H6 => H6 D = some (.lst ys) ∧ ys.length < sizeLine ∧ ∃ m', m' < m ∧ W (i + 1) m' (ys ++ [y]) (upd H6 D (.lst (ys ++ [y]))) else ∃ m', m' < m ∧ W (i + 1) m' ys H5) := by
  refine ⟨fun i m ys H2 => i ≤ xs.length ∧ m = xs.length - i ∧ Pv i ys H2, ⟨_, Nat.zero_le _, rfl, h0⟩, ?_⟩
  rintro i m ys H2 ⟨hi, rfl, p⟩
  have hx2 := hx i ys H2 hi p
  by_cases hl : i < xs.length
  · refine .inr ⟨⟨xs, xs[i], hx2, List.getElem?_eq_getElem hl⟩, fun o v H3 ho hy => ?_⟩
    obtain ⟨rfl, hv⟩ := hy
    have hv' := hv xs hx2
    match o, ho with
    | [_], _ =>
      refine ⟨⟨[some v], rfl, rfl⟩, ?_⟩
      dsimp only [ifT]
      exact iteT (he i v ys _ hv' p _ fun y H6 e1 e2 p' => ⟨e1, e2, xs.length - (i + 1), by omega, hl, rfl, p'⟩)
  · have e : i = xs.length := by omega
    subst e
    exact .inl ⟨⟨xs, hx2, Nat.le_refl _⟩, q _ _ p⟩
end L2
set_option maxRecDepth 100000
set_option linter.all false
set_option Elab.async false
set_option maxHeartbeats 4000000
namespace L2
open PySem PySem.Spec PyProof.Rows PyProof Dt
section
variable {prog : Program} {w : World} {A : Around} {E : Value → Shared → Prop} {s : Shared}
theorem init_kw {T newId : String} {self : Value} {rest : List Value} {kw : List (Str × Value)} (hl : typeLookup (.type T) "__init__" = pure (some (.builtin "object.__init__")))
    (hm : Bind.madeBy (.type T) = pure (some newId)) (hne : (some newId != some "object.__new__") = true) :
    Meets (Builtin.«object.__init__» ⟨self :: rest, kw⟩) (fun _ R s => s.TypeIs self T ∧ R (.ok (.ret .none)) s) := by
  refine Meets.of_wp fun prog w A R s hs => ?_
  obtain ⟨hT, hq⟩ := hs
  cases rest with
  | nil =>
    cases kw with
    | nil => exact wpAny_pure ⟨_, rfl, hq⟩
    | cons p q =>
      repeat (any_goals (first | assumption | wp_step))
      exact ⟨_, rfl, hq⟩
  | cons a rest =>
    repeat (any_goals (first | assumption | wp_step))
    exact ⟨_, rfl, hq⟩
theorem type_kw {T newId : String} {Bn : Builtin} {args : List Value} {kw : List (Str × Value)} {S : PySem.Spec} {Q : Value → Shared → Prop} (ft : TypeCalled T newId "object.__init__")
    (hne : (some newId != some "object.__new__") = true) (hct : checkTypeCall T ⟨args, kw⟩ = pure ()) (hcn : checkBuiltinCall newId ⟨.type T :: args, kw⟩ = pure ())
    (hok : ∀ obj, argsOk "object.__init__" ⟨obj :: args, kw⟩) (entryN : entryFor table newId = some Bn) (g : Meets (Bn ⟨.type T :: args, kw⟩) S)
    (h : S A.in1 (wants (fun obj s₁ => s₁.TypeIs obj T ∧ Q obj s₁) E) s) : wpAny (model prog w) A (call (.type T) args kw) Q E s := by
  obtain ⟨c, tl, hmro⟩ := ft.mro
  have hmade := ft.made
  have hsub := ft.sub
  refine wpAny_call (codeAny_of_tree ?_)
  show wpAny _ _ (callAny (.type T) _) _ _ _
  refine wpAny_pure ⟨Code.quiet_builtin _ (by decide +kernel), codeAny_builtin PySem.F.entry_type_call ?_⟩
  rw [Around.under_plain (weight_type_call_type T args kw) (units_type_call_type T args kw)]
  have h1 := ft.notType
  have h2 := ft.canCreate
  repeat (any_goals (first | assumption | wp_step))
  refine codeAny_mono (codeAny_call_builtin ft.plain entryN (wpAny_of_eq hcn (g prog w A.in1 _ s h))) fun r s₁ hr => ?_
  cases r with
  | error e => exact hr
  | ok fl =>
    cases fl with
    | ret obj =>
      obtain ⟨hT, hq⟩ := hr
      have hli := ft.init.lookup
      have hbi := ft.init.bind obj
      repeat (any_goals (first | assumption | wp_step))
      refine codeAny_mono (codeAny_call_builtin ft.init.plain PySem.F.entry_object_init (ft.init.check _ _ _ _ _ _ _ _ hT (hok obj) (init_kw ft.init.lookup ft.made hne prog w A.in1 (wants (fun r s₂ => r = .none ∧ Q obj s₂) E) s₁ ⟨hT, rfl, hq⟩))) fun r₂ s₂ hr₂ => ?_
      cases r₂ with
      | error e => exact hr₂
      | ok fl₂ =>
        cases fl₂ with
        | ret r =>
          obtain ⟨rfl, hq⟩ := hr₂
          repeat (any_goals (first | assumption | wp_step))
        | _ => exact hr₂.elim
    | _ => exact hr.elim
theorem meets_enum1 (l : Addr) (items : Array Value) (n : Nat) (dct : Option Addr) (sl : Array (Option Value)) (t : Tok) :
    Meets (Builtin.«enumerate.__new__» ⟨[.type "enumerate", .ref l], [("start", .int 1 t)]⟩) (fun _ R s => s.heap.get? l = some { cls := .type "list", dict := dct, data := .seq items n, slots := sl } ∧
      R (.ok (.ret (.ref (s.heap.push { cls := .type "list_iterator", data := .fields #[.ref l, .int 0 0] }).objs.size)))
        { s with heap := (s.heap.push { cls := .type "list_iterator", data := .fields #[.ref l, .int 0 0] }).push { cls := .type "enumerate", data := .fields #[.none, .bool false, .ref s.heap.objs.size, rawInt 1, .none, .none] } }) :=
  .of_wp fun prog w A R s h => by
    obtain ⟨hp, g, d, tk, os⟩ := s; obtain ⟨hl, h⟩ := h
    have hsub := sub_enumerate
    have hL : Heap.IsList (Shared.heap ⟨hp, g, d, tk, os⟩) l items := ⟨_, hl, rfl, n, rfl⟩
    wp_walk using AutoSeq1.wpAny_loadPart' hl
    refine wpAny_stack_any fun st => wpAny_pure ?_
    split
    · rename_i c _ _ _ _ _
      cases (c == Value.type "enumerate")
      · wp_walk using AutoSeq1.wpAny_loadPart' hl, wpAny_pyIter_list hL
        exact ⟨_, rfl, h⟩
      · wp_walk using AutoSeq1.wpAny_loadPart' hl, wpAny_pyIter_list hL
        exact ⟨_, rfl, h⟩
    · wp_walk using AutoSeq1.wpAny_loadPart' hl, wpAny_pyIter_list hL
      exact ⟨_, rfl, h⟩
theorem chk_type1 (a b : Value) : checkTypeCall "enumerate" ⟨[a], [("start", b)]⟩ = pure () := by kernel_rfl
theorem chk_new1 (a b : Value) : checkBuiltinCall "enumerate.__new__" ⟨[.type "enumerate", a], [("start", b)]⟩ = pure () := by kernel_rfl
theorem args_init1 (a b c : Value) : argsOk "object.__init__" ⟨[a, b], [("start", c)]⟩ := by
  unfold argsOk; rw [signature?_of (id := "object.__init__") (n := ['_', '_', 't', 'i', 'n', 'i', '_', '_']) (o := ['t', 'c', 'e', 'j', 'b', 'o']) (by kernel_rfl) PySem.F.owner_object]; kernel_rfl
theorem call_enum1 {l : Addr} {items : Array Value} {t : Tok} {Q : Value → Shared → Prop} (hL : s.heap.IsList l items)
    (h : ∀ h', IsEnum h' (s.heap.objs.size + 1) s.heap.objs.size 1 .none → h'.IsListIter s.heap.objs.size l 0 →
      (∀ b o, s.heap.get? b = some o → h'.get? b = some o) → Q (.ref (s.heap.objs.size + 1)) { s with heap := h' }) :
    wpAny (model prog w) A (call (.type "enumerate") [.ref l] [("start", .int 1 t)]) Q E s := by
  obtain ⟨⟨c, dct, dt, sl⟩, hl, hc, n, hd⟩ := hL
  replace hc : c = .type "list" := hc
  replace hd : dt = .seq items n := hd
  subst hc hd
  refine type_kw PySem.F.called_enumerate (by decide) (chk_type1 _ _) (chk_new1 _ _) (fun obj => args_init1 obj _ _) PySem.F.entry_enumerate_new
    (meets_enum1 l items n dct sl t) ⟨hl, ?_⟩
  have hz : (s.heap.push { cls := .type "list_iterator", data := .fields #[.ref l, .int 0 0] }).objs.size = s.heap.objs.size + 1 := Heap.size_push ..
  show _ ∧ _
  rw [hz]
  have he : IsEnum ((s.heap.push { cls := .type "list_iterator", data := .fields #[.ref l, .int 0 0] }).push
      { cls := .type "enumerate", data := .fields #[.none, .bool false, .ref s.heap.objs.size, rawInt 1, .none, .none] }) (s.heap.objs.size + 1) s.heap.objs.size 1 .none := by
    have := Heap.get?_push_size (s.heap.push { cls := .type "list_iterator", data := .fields #[.ref l, .int 0 0] })
      (o := { cls := .type "enumerate", data := .fields #[.none, .bool false, .ref s.heap.objs.size, rawInt 1, .none, .none] }) rfl
    rw [hz] at this; exact this
  exact ⟨⟨_, he, rfl⟩, h _ he ⟨_, Heap.get?_push_of_some _ (Heap.get?_push_size _ rfl), rfl, rfl⟩ fun b o x => Heap.get?_push_of_some _ (Heap.get?_push_of_some _ x)⟩
theorem draws1 (hh : A.handled = none) (it l : Addr) (hne : l ≠ it) (items : Array Value) :
    Draws prog w A it [it, l] (items.size + 1) (fun i v => ∃ j, i = j + 1 ∧ items[j]? = some v) (fun i h => ∃ j, i = j + 1 ∧ h.IsListIter it l j ∧ h.IsList l items) := by
  have D := Draws.list (prog := prog) (w := w) hh it l hne items
  exact {
    live := fun i h ⟨j, _, st⟩ => D.live j h st
    frame := fun i h h' ⟨j, e, st⟩ hk => ⟨j, e, D.frame j h h' st hk⟩
    item := fun i s Q E hi ⟨j, e, st⟩ hQ => D.item j s Q E (by omega) st fun x h' tk p st' sb => hQ x h' tk ⟨j, e, p⟩ ⟨j + 1, by omega, st'⟩ sb
    done := fun s Q E ⟨j, e, st⟩ hE => D.done s Q E (by have : j = items.size := by omega
                                                        exact this ▸ st) hE }
theorem draws_end (hh : A.handled = none) (it l : Addr) (items : Array Value) (i : Nat) (hi : items[i]? = none) :
    Draws prog w A it [it, l] (i + 1) (fun _ _ => False) (fun k h => k = i + 1 ∧ h.IsListIter it l i ∧ h.IsList l items) where
  live := fun _ _ st => let ⟨o, ho, _⟩ := st.2.1; ⟨o, ho⟩
  frame := fun _ _ _ st hk => ⟨st.1, st.2.1.at fun o e => hk it (by simp) o e, st.2.2.at fun o e => hk l (by simp) o e⟩
  item := fun k s Q E hk st hQ => by have := st.1; omega
  done := fun s Q E st hE => wpAny_nextOf_list_end hh st.2.1 st.2.2 hi hE
end
section
variable {M : Model} {A : Around} {E : Value → Shared → Prop} {s : Shared} {env : Env}
theorem callWith_tyk {pos : Pos} {T : String} {e : Expr} {rest : List Expr} {kws : List Keyword} {Q : Value → Shared → Prop}
    (h : wpAny M A (spliced (backTo pos (starEach (e :: rest) env))) (fun vs s₁ => wpAny M A (evalAll ((backToKw pos (keywordEach kws env)).map (·.2)))
      (fun kvs s₂ => wpAny M A (call (.type T) vs (((backToKw pos (keywordEach kws env)).filterMap (·.1)).zip kvs)) Q E s₂) E s₁) E s)
    (he : backTo pos (starEach (e :: rest) env) = (false, eval e env) :: backTo pos (starEach rest env) := by rfl)
    (hplain : (backTo pos (starEach (e :: rest) env)).any (·.1) = false := by rfl)
    (hall : (backToKw pos (keywordEach kws env)).all (·.1.isSome) = true := by rfl)
    (hkw : (backToKw pos (keywordEach kws env)).any (·.1.isNone) = false := by rfl) :
    wpAny M A (callWith pos (.type T) [] (backTo pos (starEach (e :: rest) env)) (backToKw pos (keywordEach kws env))) Q E s := by
  have h2 : wpAny M A (evalArgs (.type T) true (backTo pos (starEach (e :: rest) env)) (backToKw pos (keywordEach kws env))) (fun a s₁ => wpAny M A (call (.type T) ([] ++ a.pos) a.kw) Q E s₁) E s := by
    rw [he] at h ⊢
    exact evalArgs_kwB hall h
  unfold callWith
  refine wpAny_bind (wpAny_holding (wpAny_mono h2 (fun a s₁ h₁ => wpAny_bind (wpAny_standAt ?_)) fun _ _ x => x))
  simp only [hplain, hkw, Bool.or_false]
  refine wpAny_bind (wpAny_pure ?_)
  exact wpAny_bind (wpAny_mono h₁ (fun r s₂ hr => wpAny_bind (wpAny_holding (wpAny_point (wpAny_pure hr)))) fun _ _ x => x)
end
def Ite1 (K : PySem.W.Frag) (l : Addr) : It := ⟨fun i H => ∃ xs x, SqL K H l xs ∧ xs[i]? = some x,
  fun i H v H' => ∃ T x, H T = none ∧ v = .ref T ∧ H' = upd H T (.tup [.int (i + 1 : Nat), x]) ∧ ∀ ys, SqL K H l ys → ys[i]? = some x,
  fun i H => ∃ xs, SqL K H l xs ∧ xs.length ≤ i⟩
theorem turn_enum1 {P : Program} {w : World} {K : PySem.W.Frag} {es : List Expr} {k0} {pos : Pos} (l e it : Addr) (ne : e ≠ it) : Turn P w K (.Tuple es k0 pos) (Ite1 K l) [e, it] e (fun i h => (∃ old, IsEnum h e it (i + 1 : Nat) old) ∧ h.IsListIter it l i) where
  mem := by simp
  obj := fun i h st b hb => by
    obtain ⟨⟨old, e1⟩, o, e2, c2, d2⟩ := st
    rcases List.mem_cons.mp hb with z | z
    · rw [z]; exact ⟨_, e1, fun v z => by cases z⟩
    · rw [List.mem_singleton.mp z]; exact ⟨o, e2, fun v z => by rw [d2] at z; cases z⟩
  keep := fun i h h' st k => ⟨st.1.imp fun old q => k e (by simp) _ q, st.2.at fun o q => k it (by simp) o q⟩
  item := by
    intro X hP hw hK hc i pins s σ H E I hf st hg
    subst hP hw hK
    obtain ⟨xs, x, hq, hx⟩ := hg
    obtain ⟨its, rv, p, hz⟩ := I.list hq
    obtain ⟨⟨old, e1⟩, e2⟩ := st
    have pL := p.isList
    have hli : l ≠ it := by
      obtain ⟨o, q, c, _⟩ := e2
      obtain ⟨o', q', c', _⟩ := pL
      intro z; subst z
      rw [q] at q'; cases q'; rw [c] at c'; exact absurd (Value.type.inj c') (by decide)
    have hle : e ≠ l := by
      obtain ⟨o', q', c', _⟩ := pL
      intro z; subst z
      rw [e1] at q'; cases q'; exact absurd (Value.type.inj c') (by decide)
    have hlen : i < its.length := by
      have := rv.length
      rcases Nat.lt_or_ge i xs.length with h | h
      · omega
      · rw [List.getElem?_eq_none h] at hx; cases hx
    refine wpAny_pyNext_enum_itemD (draws1 (A := X.A.in1) (I.ok.hd hc) it l hli its.toArray) e1 ⟨i, rfl, e2, p.isList⟩ (by simp; exact hlen) ne (by simp; exact ⟨ne, hle⟩) fun u h1 tk ⟨j, ej, hu⟩ o1 i1 t1 z1 k1 => ⟨_, rfl, wpAny_letOwnedTupleGo_enum o1 fun h2 o2 b2 => ?_⟩
    have ej' : j = i := by omega
    subst ej'
    obtain ⟨j2, ej2, i1, _⟩ := i1
    have ej2' : j2 = j + 1 := by omega
    subst ej2'
    obtain ⟨u', hu', ru⟩ := rv.get hx
    have eu : u' = u := by
      have : its[j]? = some u := by simpa using hu
      rw [hu'] at this; exact Option.some.inj this
    subst eu
    have e3 : e ≠ s.heap.objs.size := lt_of_rd e1
    have e4 : it ≠ s.heap.objs.size := by obtain ⟨o, q, _⟩ := e2; exact lt_of_rd q
    have nT : H s.heap.objs.size = none := I.hok.fresh (Nat.le_refl _)
    have t2 : h2.get? s.heap.objs.size = some { cls := .type "tuple", data := .seq #[.int (j + 1 : Nat) tk, u'] } := (b2.2 _ (Ne.symm e3)).trans t1
    have I1 : Inv X pins σ (upd H s.heap.objs.size (.tup [.int (j + 1 : Nat), x])) { s with heap := s.heap.push { cls := .type "tuple", data := .seq #[.int (j + 1 : Nat) tk, u'] }, toks := tk + 1 } :=
      I.laid (fun b v q => Heap.get?_push_of_some _ q) (Nat.le_refl _) ⟨by show 2 ≤ sizeLine; decide, [.int (j + 1 : Nat) tk, u'], .cons ⟨_, rfl⟩ (.cons ru .nil), ⟨_, Heap.get?_push_size _ rfl, rfl, _, rfl⟩⟩
    have I2 : Inv X pins σ (upd H s.heap.objs.size (.tup [.int (j + 1 : Nat), x])) { s with heap := h2, toks := tk + 1 } := by
      refine Inv.turnedL (s := { s with heap := s.heap.push { cls := .type "tuple", data := .seq #[.int (j + 1 : Nat) tk, u'] }, toks := tk + 1 }) (ch := [e, it]) (t' := tk + 1) I1 (fun b o hb q => ?_) fun b hb => ?_
      · have b1 : b ≠ e := fun z => hb (by simp [z])
        have b3 : b ≠ it := fun z => hb (by simp [z])
        by_cases bT : b = s.heap.objs.size
        · subst bT
          have z : (s.heap.push { cls := .type "tuple", data := .seq #[.int (j + 1 : Nat) tk, u'] }).get? s.heap.objs.size = some _ := Heap.get?_push_size _ rfl
          rw [z] at q
          exact t2.trans q
        · have q' : s.heap.get? b = some o := by rw [← q]; exact (Heap.get?_push_ne _ _ _ bT).symm
          exact (b2.2 b b1).trans (k1 b o b1 b3 q')
      · obtain ⟨f0, f1⟩ := hf b hb
        refine ⟨?_, f1⟩
        rw [upd_ne ?_]
        · exact f0
        · rcases List.mem_cons.mp hb with z | z
          · rw [z]; exact e3
          · rw [List.mem_singleton.mp z]; exact e4
    refine ⟨.ref s.heap.objs.size, _, I2, rfl, ⟨s.heap.objs.size, x, nT, rfl, rfl, fun ys hy => by rw [I.list_inj hy hq]; exact hx⟩, ⟨⟨u', by simpa using o2⟩, i1.at fun o q => (b2.2 it (Ne.symm ne)).trans q⟩, fun b hb => ?_⟩
    rw [upd_ne ?_]
    · exact (hf b hb).1
    · rcases List.mem_cons.mp hb with z | z
      · rw [z]; exact e3
      · rw [List.mem_singleton.mp z]; exact e4
  done := by
    intro X hP hw hK hc i pins s σ H E I hf st hg
    subst hP hw hK
    obtain ⟨xs, hq, hx⟩ := hg
    obtain ⟨its, rv, p, hz⟩ := I.list hq
    have hl := rv.length
    obtain ⟨⟨old, e1⟩, e2⟩ := st
    exact wpAny_pyNext_enum_endD (draws_end (A := X.A.in1) (I.ok.hd hc) it l its.toArray i (by simp; omega)) e1 ⟨rfl, e2, p.isList⟩ fun h' eb => ⟨rfl, I.turnedL (t' := s.toks) (ch := [e, it]) (fun b o hb q => eb b o (fun z => hb (by simp [z])) q) hf⟩
  self := fun _ _ _ _ _ st h => let ⟨⟨_, e1⟩, _⟩ := st; wpAny_pyIter_enum e1 h
def iEnum1 (K : PySem.W.Frag) (ta : TA) : TI := fun σ H R => ta σ H fun vs H1 => ∃ l, vs = [.ref l] ∧ (∃ xs, SqL K H1 l xs) ∧ R (Ite1 K l) H1
theorem pi_enum1 {X : Cx} {a : Expr} {ta : TA} {p pos p2 kp p3 : Pos} {j : Nat} {es : List Expr} {k0} (hg : Gl X "enumerate") (hm : X.mg "enumerate" = none) (ha : PA X [a] ta)
    (he : backTo pos (starEach [a] X.env) = [(false, eval a X.env)] := by rfl)
    (hk : eval (.Call (.Name "enumerate" p) [a] [⟨some "start", .Constant (.int 1) j p3, kp⟩] pos) X.env = (do callWith pos (← eval (.Name "enumerate" p) X.env) [] (backTo pos (starEach [a] X.env)) (backToKw pos (keywordEach [⟨some "start", .Constant (.int 1) j p3, kp⟩] X.env))) := by rfl) :
    PI X (.Tuple es k0 p2) (.Call (.Name "enumerate" p) [a] [⟨some "start", .Constant (.int 1) j p3, kp⟩] pos) (iEnum1 X.K ta) := by
  intro pins s σ H R I h
  rw [hk]
  refine wpAny_bind (ld_blt I hg hm boot_enumerate (callWith_tyk (thn (ha pos pins s σ H _ I h) fun us s1 ⟨vs, H1, I1, r1, q1⟩ => ?_) he (by rw [he]; rfl)))
  obtain ⟨l, rfl, ⟨xs, hq⟩, q⟩ := q1
  obtain ⟨u, rfl, ru⟩ := vals1 r1
  cases ru
  refine kws_cons (wpAny_Constant_int (kws_nil ?_))
  have I2 := I1.tok (s1.toks + 1)
  obtain ⟨its, rv, pl, hz⟩ := I2.list hq
  refine call_enum1 pl.isList fun h' e1 e2 kp => wpAny_pyIter_enum e1 ?_
  refine ⟨_, [s1.heap.objs.size + 1, s1.heap.objs.size], _, _, H1, rfl, I2.kept (t' := s1.toks + 1) kp, turn_enum1 l _ _ (Nat.succ_ne_self _), ⟨⟨_, e1⟩, e2⟩, fun b hb => ?_, q⟩
  have hb' : s1.heap.objs.size ≤ b := by
    rcases List.mem_cons.mp hb with z | z
    · rw [z]; exact Nat.le_succ _
    · rw [List.mem_singleton.mp z]; exact Nat.le_refl _
  exact I1.fpOk hb' (I1.hok.fresh hb')
theorem for_enum1 {K : PySem.W.Frag} {l : Addr} {xs : List V} {g : TG} {tb : TS} {D : Ends} {σ : St} {H : Hp} (Pv : Nat → St → Hp → Prop) (h0 : Pv 0 σ H) (hl : ∀ i σ H, i ≤ xs.length → Pv i σ H → SqL K H l xs)
    (hs : ∀ i x T σ H, xs[i]? = some x → Pv i σ H → H T = none → g (.ref T) σ (upd H T (.tup [.int (i + 1 : Nat), x])) fun σ2 H2 => tb { D with nx := Pv (i + 1), ct := Pv (i + 1), bk := D.nx } σ2 H2) (hd : ∀ σ H, Pv xs.length σ H → D.nx σ H) :
    ∃ W : Nat → Nat → St → Hp → Prop, (∃ m, W 0 m σ H) ∧ ∀ i m σ H, W i m σ H →
      ((Ite1 K l).stop i H ∧ D.nx σ H) ∨ ((Ite1 K l).go i H ∧ ∃ N : St → Hp → Prop, (∀ σ' H', N σ' H' → ∃ m', m' < m ∧ W (i + 1) m' σ' H') ∧ ∀ x H', (Ite1 K l).yld i H x H' → g x σ H' fun σ2 H2 => tb { D with nx := N, ct := N, bk := D.nx } σ2 H2) := by
  refine ⟨fun i m σ H => m = xs.length - i ∧ i ≤ xs.length ∧ Pv i σ H, ⟨xs.length, by simp, Nat.zero_le _, h0⟩, ?_⟩
  rintro i m σ H ⟨rfl, hi, p⟩
  have q := hl i σ H hi p
  by_cases hlt : i < xs.length
  · refine .inr ⟨⟨xs, xs[i], q, List.getElem?_eq_getElem hlt⟩, Pv (i + 1), fun σ' H' p' => ⟨xs.length - (i + 1), by omega, rfl, hlt, p'⟩, fun x H' y => ?_⟩
    obtain ⟨T, z, hT, rfl, rfl, hz⟩ := y
    exact hs i z T σ H (hz xs q) p hT
  · have e : i = xs.length := by omega
    subst e
    exact .inl ⟨⟨xs, q, Nat.le_refl _⟩, hd σ H p⟩
end L2
set_option maxRecDepth 100000
set_option linter.all false
set_option Elab.async false
set_option maxHeartbeats 4000000
namespace L2
open PySem PySem.Spec PyProof.Rows PyProof Dt
theorem is_kV {P : Program} {w : World} {k : Key} {u : Value} (h : (mixKind P w).is k u = true) : RelV (kV k) u := by
  rw [mixKind_is] at h
  cases k with
  | inl i => obtain ⟨t, rfl⟩ := Value.isInt_shape h; exact ⟨t, rfl⟩
  | inr x => obtain ⟨t, rfl⟩ := Value.isStrOf_shape h; exact ⟨t, rfl⟩
theorem keys_vals {P : Program} {w : World} {kvs : List (Key × V)} {vs : List (Key × Value)} (r : KV kvs vs) : ∀ {us : List Value}, us.length = vs.length → (∀ (j : Nat) u, us[j]? = some u → ∃ k x, vs[j]? = some (k, x) ∧ (mixKind P w).is k u = true) → Vals (kvs.map fun p => kV p.1) us := by
  induction r with
  | nil =>
    intro us hl _
    cases us with
    | nil => exact .nil
    | cons _ _ => simp at hl
  | cons e _ ih =>
    intro us hl h
    cases us with
    | nil => simp at hl
    | cons u us =>
      obtain ⟨k, x, h1, h2⟩ := h 0 u rfl
      have h1' := Option.some.inj h1
      refine .cons ?_ (ih (by simpa using hl) fun j v hv => h (j + 1) v (by simpa using hv))
      have e1 := e.1
      rw [h1'] at e1
      show RelV (kV _) u
      rw [e1]
      exact is_kV h2
theorem call_listD {X : Cx} (hc : X.calm = true) : CallR X (.type "list") (fun xs H Q => ∃ a kvs, xs = [V.ref a] ∧ H a = some (.dK kvs) ∧ ∀ l, H l = none → Q (.ref l) (upd H l (.lst (kvs.map fun p => kV p.1)))) := by
  intro pins s σ H xs us Q I r h
  obtain ⟨a, kvs, rfl, ha, q⟩ := h
  obtain ⟨u, rfl, rx⟩ := vals1 r
  cases rx
  obtain ⟨hz, lo, vs, rv, hD⟩ : kvs.length ≤ sizeLine ∧ (a == sysModules) = false ∧ ∃ vs, KV kvs vs ∧ s.heap.DictOf (mixKind X.prog X.w) a vs := I.hok a _ ha
  obtain ⟨ep, hat⟩ := hD.dictAt
  have hl : kvs.length = vs.length := Paired.length rv
  refine PySem.W.kdl_call (PySem.W.kdl_dict (knd := mixKind X.prog X.w) (kvs := vs) (ep := ep) lo) (I.ok.hd hc) hat (by omega) fun h' tk acc c kp e hacc => ?_
  refine ⟨.ref s.heap.objs.size, _, I.laid (t' := tk) kp (Nat.le_refl _) (show ObjOk X.prog X.w _ h' _ (.lst (kvs.map fun p => kV p.1)) from ⟨by simpa using hz, acc.toList, c, keys_vals rv (by rw [Array.length_toList]; exact hacc.1) (fun j u hu => hacc.2 j u (by rw [← Array.getElem?_toList]; exact hu)), by simpa using e⟩), rfl, q _ (I.hok.fresh (Nat.le_refl _))⟩
end L2
set_option maxRecDepth 100000
set_option linter.all false
set_option Elab.async false
set_option maxHeartbeats 4000000
open PySem
inductive Kd where
  | int | bool
  | list (k : Kd) | pair (k l : Kd) | fn (k l : Kd)
deriving DecidableEq
namespace Kd
def dt : Kd → Dt
  | .int => .str "int"
  | .bool => .str "bool"
  | .list k => .tup [.str "list", k.dt]
  | .pair k l => .tup [.str "pair", k.dt, l.dt]
  | .fn k l => .tup [.str "fun", k.dt, l.dt]
def deep : Kd → Nat
  | .int => 0
  | .bool => 0
  | .list k => k.deep + 1
  | .pair k l => max k.deep l.deep + 1
  | .fn k l => max k.deep l.deep + 1
def sz : Kd → Nat
  | .int => 1
  | .bool => 1
  | .list k => k.sz + 1
  | .pair k l => k.sz + l.sz + 1
  | .fn k l => k.sz + l.sz + 1
theorem deep_sz : ∀ k : Kd, k.deep < k.sz
  | .int => by simp [deep, sz]
  | .bool => by simp [deep, sz]
  | .list k => by have := deep_sz k; simp only [deep, sz]; omega
  | .pair k l => by have := deep_sz k; have := deep_sz l; simp only [deep, sz]; omega
  | .fn k l => by have := deep_sz k; have := deep_sz l; simp only [deep, sz]; omega
theorem dep_dt : ∀ k : Kd, Dt.dep k.dt = k.deep
  | .int => by simp [dt, Dt.dep, deep]
  | .bool => by simp [dt, Dt.dep, deep]
  | .list k => by simp [dt, Dt.dep, Dt.deps, deep, dep_dt k]
  | .pair k l => by simp [dt, Dt.dep, Dt.deps, deep, dep_dt k, dep_dt l]
  | .fn k l => by simp [dt, Dt.dep, Dt.deps, deep, dep_dt k, dep_dt l]
theorem n_il : (("list" : Str) == ("pair" : Str)) = false := by decide +kernel
theorem n_lp : (("pair" : Str) == ("list" : Str)) = false := by decide +kernel
theorem n_lf : (("list" : Str) == ("fun" : Str)) = false := by decide +kernel
theorem n_fl : (("fun" : Str) == ("list" : Str)) = false := by decide +kernel
theorem n_pf : (("pair" : Str) == ("fun" : Str)) = false := by decide +kernel
theorem n_fp : (("fun" : Str) == ("pair" : Str)) = false := by decide +kernel
theorem n_ib : (("int" : Str) == ("bool" : Str)) = false := by decide +kernel
theorem n_bi : (("bool" : Str) == ("int" : Str)) = false := by decide +kernel
theorem eq_dt : ∀ k l : Kd, Dt.eqD k.dt l.dt = decide (k = l)
  | .int, .int => by simp [dt, Dt.eqD]
  | .int, .bool => by simp [dt, Dt.eqD, n_ib]
  | .int, .list _ => by simp [dt, Dt.eqD]
  | .int, .pair _ _ => by simp [dt, Dt.eqD]
  | .int, .fn _ _ => by simp [dt, Dt.eqD]
  | .bool, .int => by simp [dt, Dt.eqD, n_bi]
  | .bool, .bool => by simp [dt, Dt.eqD]
  | .bool, .list _ => by simp [dt, Dt.eqD]
  | .bool, .pair _ _ => by simp [dt, Dt.eqD]
  | .bool, .fn _ _ => by simp [dt, Dt.eqD]
  | .list _, .int => by simp [dt, Dt.eqD]
  | .list _, .bool => by simp [dt, Dt.eqD]
  | .list k, .list l => by simp [dt, Dt.eqD, Dt.eqDs, eq_dt k l]
  | .list _, .pair _ _ => by simp [dt, Dt.eqD, Dt.eqDs, n_il]
  | .list _, .fn _ _ => by simp [dt, Dt.eqD, Dt.eqDs, n_lf]
  | .pair _ _, .int => by simp [dt, Dt.eqD]
  | .pair _ _, .bool => by simp [dt, Dt.eqD]
  | .pair _ _, .list _ => by simp [dt, Dt.eqD, Dt.eqDs, n_lp]
  | .pair k l, .pair k' l' => by simp [dt, Dt.eqD, Dt.eqDs, eq_dt k k', eq_dt l l']
  | .pair _ _, .fn _ _ => by simp [dt, Dt.eqD, Dt.eqDs, n_pf]
  | .fn _ _, .int => by simp [dt, Dt.eqD]
  | .fn _ _, .bool => by simp [dt, Dt.eqD]
  | .fn _ _, .list _ => by simp [dt, Dt.eqD, Dt.eqDs, n_fl]
  | .fn _ _, .pair _ _ => by simp [dt, Dt.eqD, Dt.eqDs, n_fp]
  | .fn k l, .fn k' l' => by simp [dt, Dt.eqD, Dt.eqDs, eq_dt k k', eq_dt l l']
end Kd
inductive U1 | head | tail | empty | first | second | not
deriving DecidableEq
inductive U2 | cons | pair | call | plus | minus | times | over | rest | less | same | and | or
deriving DecidableEq
def U1.str : U1 → Str
  | .head => "head" | .tail => "tail" | .empty => "empty" | .first => "first" | .second => "second" | .not => "not"
def U2.str : U2 → Str
  | .cons => "cons" | .pair => "pair" | .call => "call" | .plus => "plus" | .minus => "minus" | .times => "times" | .over => "over" | .rest => "rest" | .less => "less" | .same => "same" | .and => "and" | .or => "or"
inductive Pt where
  | num (n : Int) | tru (b : Bool) | nam (x : Str) | nil (k : Kd)
  | one (u : U1) (p : Pt) | two (u : U2) (p q : Pt) | ite (p q r : Pt)
  | let_ (x : Str) (p q : Pt) | fn (x : Str) (k : Kd) (p : Pt) | rc (f x : Str) (k l : Kd) (p : Pt)
abbrev Cxt := List (Str × Kd)
namespace Pt
def dt : Pt → Dt
  | .num n => .tup [.str "num", .int n]
  | .tru b => .tup [.str "truth", .bl b]
  | .nam x => .tup [.str "name", .str x]
  | .nil k => .tup [.str "nil", k.dt]
  | .one u p => .tup [.str u.str, p.dt]
  | .two u p q => .tup [.str u.str, p.dt, q.dt]
  | .ite p q r => .tup [.str "if", p.dt, q.dt, r.dt]
  | .let_ x p q => .tup [.str "let", .str x, p.dt, q.dt]
  | .fn x k p => .tup [.str "fn", .str x, k.dt, p.dt]
  | .rc f x k l p => .tup [.str "rec", .str f, .str x, k.dt, l.dt, p.dt]
def k1 : U1 → Kd → Option Kd
  | .head, .list k => some k
  | .tail, .list k => some (.list k)
  | .empty, .list _ => some .bool
  | .first, .pair k _ => some k
  | .second, .pair _ l => some l
  | .not, .bool => some .bool
  | _, _ => none
def k2 : U2 → Kd → Kd → Option Kd
  | .cons, k, .list l => if k = l then some (.list l) else none
  | .pair, k, l => some (.pair k l)
  | .call, .fn k l, m => if k = m then some l else none
  | .plus, .int, .int => some .int
  | .minus, .int, .int => some .int
  | .times, .int, .int => some .int
  | .over, .int, .int => some .int
  | .rest, .int, .int => some .int
  | .less, .int, .int => some .bool
  | .same, .int, .int => some .bool
  | .and, .bool, .bool => some .bool
  | .or, .bool, .bool => some .bool
  | _, _, _ => none
inductive Has : Cxt → Pt → Kd → Prop
  | num {Γ n} : Has Γ (.num n) .int
  | tru {Γ b} : Has Γ (.tru b) .bool
  | nam {Γ x k} : Γ.lookup x = some k → k.sz ≤ 40 → Has Γ (.nam x) k
  | nil {Γ k} : k.sz + 1 ≤ 40 → Has Γ (.nil k) (.list k)
  | one {Γ u p k m} : Has Γ p k → k1 u k = some m → m.sz ≤ 40 → Has Γ (.one u p) m
  | two {Γ u p q k l m} : Has Γ p k → Has Γ q l → k2 u k l = some m → m.sz ≤ 40 → Has Γ (.two u p q) m
  | ite {Γ p q r k} : Has Γ p .bool → Has Γ q k → Has Γ r k → Has Γ (.ite p q r) k
  | let_ {Γ x p q k l} : Has Γ p k → Has ((x, k) :: Γ) q l → Has Γ (.let_ x p q) l
  | fn {Γ x k p l} : Has ((x, k) :: Γ) p l → (Kd.fn k l).sz ≤ 40 → Has Γ (.fn x k p) (.fn k l)
  | rc {Γ f x k l p} : Has ((x, k) :: (f, .fn k l) :: Γ) p l → (Kd.fn k l).sz ≤ 40 → Has Γ (.rc f x k l p) (.fn k l)
theorem Has.sz {Γ : Cxt} {p : Pt} {k : Kd} (h : Has Γ p k) : k.sz ≤ 40 := by
  induction h with
  | num => decide
  | tru => decide
  | nam _ e => exact e
  | nil e => exact e
  | one _ _ e => exact e
  | two _ _ _ e => exact e
  | ite _ _ _ _ _ i3 => exact i3
  | let_ _ _ _ i2 => exact i2
  | fn _ e => exact e
  | rc _ e => exact e
def deep : Pt → Nat
  | .one _ p => p.deep + 1
  | .two _ p q => max p.deep q.deep + 1
  | .ite p q r => max p.deep (max q.deep r.deep) + 1
  | .let_ _ p q => max p.deep q.deep + 1
  | .fn _ _ p => p.deep + 1
  | .rc _ _ _ _ p => p.deep + 1
  | _ => 0
def sz : Pt → Nat
  | .one _ p => p.sz + 1
  | .two _ p q => p.sz + q.sz + 1
  | .ite p q r => p.sz + q.sz + r.sz + 1
  | .let_ _ p q => p.sz + q.sz + 1
  | .fn _ _ p => p.sz + 1
  | .rc _ _ _ _ p => p.sz + 1
  | _ => 1
def fv : Pt → Str → Prop
  | .nam y, x => x = y
  | .one _ p, x => p.fv x
  | .two _ p q, x => p.fv x ∨ q.fv x
  | .ite p q r, x => p.fv x ∨ q.fv x ∨ r.fv x
  | .let_ y p q, x => p.fv x ∨ (q.fv x ∧ x ≠ y)
  | .fn y _ p, x => p.fv x ∧ x ≠ y
  | .rc f y _ _ p, x => p.fv x ∧ x ≠ f ∧ x ≠ y
  | _, _ => False
theorem lookup_cons_ne {x y : Str} {k : Kd} {Γ : Cxt} (h : x ≠ y) : List.lookup x ((y, k) :: Γ) = Γ.lookup x := by rw [List.lookup_cons, beq_eq_false_iff_ne.mpr h]
theorem Has.fv {Γ : Cxt} {p : Pt} {k : Kd} (h : Has Γ p k) : ∀ x, p.fv x → ∃ l, Γ.lookup x = some l := by
  induction h with
  | num => intro x z; exact z.elim
  | tru => intro x z; exact z.elim
  | nam e _ => intro x z; cases (show x = _ from z); exact ⟨_, e⟩
  | nil _ => intro x z; exact z.elim
  | one _ _ _ ih => exact ih
  | two _ _ _ _ i1 i2 => intro x z; exact z.elim (i1 x) (i2 x)
  | ite _ _ _ i1 i2 i3 => intro x z; exact z.elim (i1 x) fun z => z.elim (i2 x) (i3 x)
  | let_ _ _ i1 i2 => intro x z; exact z.elim (i1 x) fun z => (by obtain ⟨l, e⟩ := i2 x z.1; rw [lookup_cons_ne z.2] at e; exact ⟨l, e⟩)
  | fn _ _ ih => intro x z; obtain ⟨l, e⟩ := ih x z.1; rw [lookup_cons_ne z.2] at e; exact ⟨l, e⟩
  | rc _ _ ih => intro x z; obtain ⟨l, e⟩ := ih x z.1; rw [lookup_cons_ne z.2.2, lookup_cons_ne z.2.1] at e; exact ⟨l, e⟩
end Pt
set_option maxRecDepth 100000
set_option linter.all false
set_option Elab.async false
set_option maxHeartbeats 4000000
namespace L2
open PySem PySem.Spec PyProof.Rows PyProof Dt
section
variable {K : PySem.W.Frag} {H H' : Hp}
theorem at_tup {ds : List Dt} {v : V} (h : DtAt K H (.tup ds) v) : ∃ a vs, v = .ref a ∧ SqT K H a vs ∧ DtsAt K H ds vs := by rw [DtAt] at h; exact h
theorem at_str {x : Str} {v : V} (h : DtAt K H (.str x) v) : v = .str x := by rw [DtAt] at h; exact h
theorem str_at (x : Str) : DtAt K H (.str x) (.str x) := by rw [DtAt]
theorem ats_nil {vs : List V} (h : DtsAt K H [] vs) : vs = [] := by rw [DtsAt] at h; exact h
theorem ats_cons {d : Dt} {ds : List Dt} {vs : List V} (h : DtsAt K H (d :: ds) vs) : ∃ v r, vs = v :: r ∧ DtAt K H d v ∧ DtsAt K H ds r := by rw [DtsAt] at h; exact h
theorem nil_ats : DtsAt K H [] [] := by rw [DtsAt]
theorem cons_ats {d : Dt} {ds : List Dt} {v : V} {vs : List V} (h : DtAt K H d v) (g : DtsAt K H ds vs) : DtsAt K H (d :: ds) (v :: vs) := by rw [DtsAt]; exact ⟨v, vs, rfl, h, g⟩
theorem tup_at {ds : List Dt} {a : Addr} {vs : List V} (h : SqT K H a vs) (g : DtsAt K H ds vs) : DtAt K H (.tup ds) (.ref a) := by rw [DtAt]; exact ⟨a, vs, rfl, h, g⟩
theorem at_w1 {x : Str} {d : Dt} {v : V} (h : DtAt K H (.tup [.str x, d]) v) : ∃ a u, v = .ref a ∧ SqT K H a [.str x, u] ∧ DtAt K H d u := by
  obtain ⟨a, vs, rfl, hs, h⟩ := at_tup h
  obtain ⟨v0, r, rfl, h0, h⟩ := ats_cons h
  obtain ⟨v1, r, rfl, h1, h⟩ := ats_cons h
  cases ats_nil h; cases at_str h0
  exact ⟨a, v1, rfl, hs, h1⟩
theorem at_w2 {x : Str} {d e : Dt} {v : V} (h : DtAt K H (.tup [.str x, d, e]) v) : ∃ a u w, v = .ref a ∧ SqT K H a [.str x, u, w] ∧ DtAt K H d u ∧ DtAt K H e w := by
  obtain ⟨a, vs, rfl, hs, h⟩ := at_tup h
  obtain ⟨v0, r, rfl, h0, h⟩ := ats_cons h
  obtain ⟨v1, r, rfl, h1, h⟩ := ats_cons h
  obtain ⟨v2, r, rfl, h2, h⟩ := ats_cons h
  cases ats_nil h; cases at_str h0
  exact ⟨a, v1, v2, rfl, hs, h1, h2⟩
theorem at_w3 {x : Str} {d e f : Dt} {v : V} (h : DtAt K H (.tup [.str x, d, e, f]) v) : ∃ a u w y, v = .ref a ∧ SqT K H a [.str x, u, w, y] ∧ DtAt K H d u ∧ DtAt K H e w ∧ DtAt K H f y := by
  obtain ⟨a, vs, rfl, hs, h⟩ := at_tup h
  obtain ⟨v0, r, rfl, h0, h⟩ := ats_cons h
  obtain ⟨v1, r, rfl, h1, h⟩ := ats_cons h
  obtain ⟨v2, r, rfl, h2, h⟩ := ats_cons h
  obtain ⟨v3, r, rfl, h3, h⟩ := ats_cons h
  cases ats_nil h; cases at_str h0
  exact ⟨a, v1, v2, v3, rfl, hs, h1, h2, h3⟩
theorem at_w5 {x : Str} {d e f g i : Dt} {v : V} (h : DtAt K H (.tup [.str x, d, e, f, g, i]) v) : ∃ a u w y z t, v = .ref a ∧ SqT K H a [.str x, u, w, y, z, t] ∧ DtAt K H d u ∧ DtAt K H e w ∧ DtAt K H f y ∧ DtAt K H g z ∧ DtAt K H i t := by
  obtain ⟨a, vs, rfl, hs, h⟩ := at_tup h
  obtain ⟨v0, r, rfl, h0, h⟩ := ats_cons h
  obtain ⟨v1, r, rfl, h1, h⟩ := ats_cons h
  obtain ⟨v2, r, rfl, h2, h⟩ := ats_cons h
  obtain ⟨v3, r, rfl, h3, h⟩ := ats_cons h
  obtain ⟨v4, r, rfl, h4, h⟩ := ats_cons h
  obtain ⟨v5, r, rfl, h5, h⟩ := ats_cons h
  cases ats_nil h; cases at_str h0
  exact ⟨a, v1, v2, v3, v4, v5, rfl, hs, h1, h2, h3, h4, h5⟩
theorem w1_at {x : Str} {d : Dt} {a : Addr} {u : V} (hs : SqT K H a [.str x, u]) (h1 : DtAt K H d u) : DtAt K H (.tup [.str x, d]) (.ref a) := tup_at hs (cons_ats (str_at x) (cons_ats h1 nil_ats))
theorem w2_at {x : Str} {d e : Dt} {a : Addr} {u w : V} (hs : SqT K H a [.str x, u, w]) (h1 : DtAt K H d u) (h2 : DtAt K H e w) : DtAt K H (.tup [.str x, d, e]) (.ref a) := tup_at hs (cons_ats (str_at x) (cons_ats h1 (cons_ats h2 nil_ats)))
theorem w3_at {x : Str} {d e f : Dt} {a : Addr} {u w y : V} (hs : SqT K H a [.str x, u, w, y]) (h1 : DtAt K H d u) (h2 : DtAt K H e w) (h3 : DtAt K H f y) : DtAt K H (.tup [.str x, d, e, f]) (.ref a) := tup_at hs (cons_ats (str_at x) (cons_ats h1 (cons_ats h2 (cons_ats h3 nil_ats))))
theorem w5_at {x : Str} {d e f g i : Dt} {a : Addr} {u w y z t : V} (hs : SqT K H a [.str x, u, w, y, z, t]) (h1 : DtAt K H d u) (h2 : DtAt K H e w) (h3 : DtAt K H f y) (h4 : DtAt K H g z) (h5 : DtAt K H i t) : DtAt K H (.tup [.str x, d, e, f, g, i]) (.ref a) :=
  tup_at hs (cons_ats (str_at x) (cons_ats h1 (cons_ats h2 (cons_ats h3 (cons_ats h4 (cons_ats h5 nil_ats))))))
def KeepT (K : PySem.W.Frag) (H H' : Hp) : Prop := ∀ a xs, SqT K H a xs → SqT K H' a xs
mutual
theorem DtAt.monoT (e : KeepT K H H') : ∀ {d : Dt} {v : V}, DtAt K H d v → DtAt K H' d v
  | .non, v, h => by rw [DtAt] at h ⊢; exact h
  | .bl _, v, h => by rw [DtAt] at h ⊢; exact h
  | .int _, v, h => by rw [DtAt] at h ⊢; exact h
  | .str _, v, h => by rw [DtAt] at h ⊢; exact h
  | .tup ds, v, h => by
    rw [DtAt] at h ⊢
    obtain ⟨a, vs, e1, h1, h2⟩ := h
    exact ⟨a, vs, e1, e a vs h1, DtsAt.monoT e h2⟩
theorem DtsAt.monoT (e : KeepT K H H') : ∀ {ds : List Dt} {vs : List V}, DtsAt K H ds vs → DtsAt K H' ds vs
  | [], vs, h => by rw [DtsAt] at h ⊢; exact h
  | d :: ds, vs, h => by
    rw [DtsAt] at h ⊢
    obtain ⟨v, r, e1, h1, h2⟩ := h
    exact ⟨v, r, e1, DtAt.monoT e h1, DtsAt.monoT e h2⟩
end
end
structure GrowB (a : Addr) (H H' : Hp) : Prop where
  keep : ∀ b o, b ≠ a → H b = some o → H' b = some o
  none : ∀ b, H' b = Option.none → H b = Option.none
theorem GrowB.refl (a : Addr) (H : Hp) : GrowB a H H := ⟨fun _ _ _ e => e, fun _ e => e⟩
theorem GrowB.trans {a : Addr} {H H1 H2 : Hp} (x : GrowB a H H1) (y : GrowB a H1 H2) : GrowB a H H2 := ⟨fun b o hb e => y.keep b o hb (x.keep b o hb e), fun b e => x.none b (y.none b e)⟩
theorem Grow.b {a : Addr} {H H' : Hp} (g : Grow H H') : GrowB a H H' := ⟨fun b o _ e => g.same b o e, g.none⟩
theorem GrowB.set {a : Addr} {H H' : Hp} {o : HO} (g : GrowB a H H') {u : HO} (hu : H a = some u) : GrowB a H (upd H' a o) :=
  ⟨fun b p hb e => (upd_ne hb).trans (g.keep b p hb e), fun b e => by
    by_cases z : b = a
    · subst z; rw [upd_same] at e; cases e
    · rw [upd_ne z] at e; exact g.none b e⟩
theorem GrowB.tups {K : PySem.W.Frag} {a : Addr} {H H' : Hp} {ps : List V} (g : GrowB a H H') (h : H a = some (.lst ps)) : KeepT K H H' := fun b xs hb => by
  rcases hb with (hb | ⟨o, hb⟩) | hb
  · exact .inl (.inl (g.keep b _ (ne_of hb h (by intro z; cases z)) hb))
  · exact .inl (.inr ⟨o, g.keep b _ (ne_of hb h (by intro z; cases z)) hb⟩)
  · exact .inr hb
theorem GrowB.of_new {a : Addr} {H H1 H2 : Hp} (g : Grow H H1) (x : GrowB a H1 H2) (h : H a = Option.none) : Grow H H2 := ⟨fun b o e => x.keep b o (ne_of_none e h) (g.same b o e), fun b e => g.none b (x.none b e)⟩
end L2
set_option maxRecDepth 100000
set_option linter.all false
set_option Elab.async false
set_option maxHeartbeats 4000000
namespace K13
open PySem L2 PyProof Dt
def top (i : Nat) : Stmt := PySem.Challenge.pw_plainspeak_k13_whole_kinds_told.main.body.getD i (.Pass ⟨0, 0, 0, 0⟩)
abbrev sVB : Stmt := top 6
abbrev sWN : Stmt := top 8
abbrev sLU : Stmt := top 9
abbrev sNB : Stmt := top 10
abbrev sReq : Stmt := top 15
abbrev sRW : Stmt := top 16
abbrev sCons : Stmt := top 17
abbrev sHead : Stmt := top 18
abbrev sTail : Stmt := top 19
abbrev sEmpty : Stmt := top 20
abbrev sFirst : Stmt := top 21
abbrev sSecond : Stmt := top 22
abbrev sIf : Stmt := top 23
abbrev sCall : Stmt := top 24
def SL : List (Str × List Str) := [("nil", ["kind"]), ("cons", ["part", "part"]), ("head", ["part"]), ("tail", ["part"]), ("empty", ["part"]), ("pair", ["part", "part"]), ("first", ["part"]), ("second", ["part"]), ("if", ["part", "part", "part"]), ("let", ["name", "part", "part"]), ("fn", ["name", "kind", "part"]),
  ("rec", ["name", "name", "kind", "kind", "part"]), ("call", ["part", "part"]), ("plus", ["part", "part"]), ("minus", ["part", "part"]), ("times", ["part", "part"]), ("over", ["part", "part"]), ("rest", ["part", "part"]), ("less", ["part", "part"]), ("same", ["part", "part"]), ("and", ["part", "part"]), ("or", ["part", "part"]), ("not", ["part"])]
def slotsOf (wd : Str) : List Str := (SL.lookup wd).getD []
structure GlV (K : PySem.W.Frag) (mg : Str → Option Value) : Prop where
  zip : mg "zip" = none
  tab : ∃ a D, mg "PART_SLOTS" = some (.ref a) ∧ TabS K a D ∧ ∀ wd, (slotsOf wd = [] ∧ PyProof.Rows.KTD.datumAt wd D = none) ∨ ∃ tp, PyProof.Rows.KTD.datumAt wd D = some (.ref tp) ∧ ∀ H, SqT K H tp ((slotsOf wd).map V.str)
section
variable {P : Program} {w : World} {K : PySem.W.Frag} {mg : Str → Option Value} {base : Heap}
def spVB (K : PySem.W.Frag) : Sp := fun vs H Q _ => ∃ (pt : Addr) (srt wd : Str) (xs : List V), vs = [.ref pt, .str srt] ∧ SqT K H pt (.str wd :: xs) ∧ xs.length ≤ 1000 ∧ ∀ l H', Grow H H' → H l = none → H' l = some (.lst (behind (slotsOf wd) xs srt)) → Q (.ref l) H'
theorem scVB : FnScope ["part", "sort", "slots"] ["part", "sort"] (defScope sVB) := ⟨rfl, rfl, rfl, by decide +kernel, rfl, by decide +kernel, by decide +kernel⟩
theorem ok_vb {f : Addr} {fd : FuncData} (F : FunD K "values_behind" "values_behind" sVB .none f fd) (G : GlV K mg) : FnOk P w K mg base (CXE P w) 1 f fd ["part", "sort"] (spVB K) := by
  refine F.ok0 scVB (fun vs H Q E h => ?_) (fun cdv A outer s H vs Q E hr h => ?_)
  · obtain ⟨pt, srt, wd, xs, rfl, _⟩ := h
    rfl
  · obtain ⟨pt, srt, wd, xs, rfl, hp, hx, q⟩ := h
    obtain ⟨ta, D, mT, T, hT⟩ := G.tab
    have ndb : ((["slot", "value"] : List Str) ++ (["sort"] : List Str)).Nodup := by decide +kernel
    refine ⟨_, pss_cons (ps_set (i := 2) scVB.nd rfl (Or.inl rfl) (pe_getT (pe_glob (v := .ref ta) (by rfl) mT rfl) (pa_cons (pe_ix ix_tup (pv 0) pe_int (fun _ _ => rfl)) (pa_cons (pe_tup pa_nil) pa_nil))))
      (pss_one (ps_ret (pe_lcI (cmpG1 (own := ["slot", "value"]) (i := 1) (by rfl) (by decide +kernel) (by rfl) (by decide +kernel) (by rfl) (by decide +kernel) (by rfl) (.inl (by rfl)) (by rfl) (by decide +kernel)) rfl
        (pi_zip (by rfl) G.zip (pa_cons (pv 2) (pa_cons (pe_slice sl_tup (pv 0) (po_some pe_int) po_none) pa_nil)))
        (fun C s H fp pins => pv 1) (fun C s H fp pins => pg_two K rfl rfl ndb rfl rfl (Or.inl rfl) (Or.inl rfl) (by rfl) (by rfl))
        (fun C s H fp pins => pt_cmpR op_eq (pv 0) (pv 2) (nomark _))))), ?_⟩
    refine ⟨ta, D, rfl, T, _, rfl, pt, _, _, .str wd, rfl, rfl, hp, atI_nat (j := 0) rfl, (by show 0 ≤ sizeLine; decide), fun t0 ht0 => ?_⟩
    have g0 : Grow H (upd H t0 (.tup [])) := Grow.put ht0
    refine ⟨wd, .ref t0, rfl, ?_⟩
    obtain ⟨tp, e1, s1⟩ : ∃ tp, (PyProof.Rows.KTD.datumAt wd D).getD (.ref t0) = .ref tp ∧ SqT K (upd H t0 (.tup [])) tp ((slotsOf wd).map V.str) := by
      rcases hT wd with ⟨z1, z2⟩ | ⟨tp, z1, z2⟩
      · exact ⟨t0, by rw [z2]; rfl, by rw [z1]; exact SqT.of upd_same⟩
      · exact ⟨tp, by rw [z1]; rfl, z2 _⟩
    dsimp only [gName, List.set]
    rw [e1]
    generalize upd H t0 (.tup []) = H1 at g0 s1 ⊢
    have hp1 := SqT.mono g0.same hp
    refine ⟨_, rfl, _, rfl, _, rfl, pt, _, rfl, hp1, cut1_not _ _, fun t1 ht1 => ?_⟩
    rw [cut1]
    have g1 : Grow H1 (upd H1 t1 (.tup xs)) := Grow.put ht1
    have s2 := SqT.mono g1.same s1
    have s3 : SqT K (upd H1 t1 (.tup xs)) t1 xs := SqT.of upd_same
    generalize upd H1 t1 (.tup xs) = H2 at g1 s2 s3 ⊢
    refine ⟨tp, t1, _, _, rfl, s2, s3, fun D0 hD0 => ?_⟩
    exact lc_zip (i0 := 1) (t := srt) (R := fun H' => Q (.ref D0) H') rfl s2 s3 hx hD0 fun H' g e => q D0 H' ((g0.trans g1).trans g) ((g0.trans g1).none _ hD0) e
def spReq : Sp := fun vs H Q _ => vs = [.bl true] ∧ Q .non H
theorem scReq : FnScope ["holds"] ["holds"] (defScope sReq) := ⟨rfl, rfl, rfl, by decide +kernel, rfl, by decide +kernel, by decide +kernel⟩
theorem ok_req {f : Addr} {fd : FuncData} (F : FunD K "require" "require" sReq .none f fd) : FnOk P w K mg base (CXE P w) 1 f fd ["holds"] spReq := by
  refine F.ok0 scReq (fun vs H Q E h => ?_) (fun cdv A outer s H vs Q E hr h => ?_)
  · obtain ⟨rfl, _⟩ := h
    rfl
  · obtain ⟨rfl, q⟩ := h
    refine ⟨_, pss_one (ps_if (pt_not (pt_val (pv 0))) pss_never pss_nil), ?_⟩
    exact ⟨_, rfl, true, rfl, iteF q⟩
def spNB (K : PySem.W.Frag) : Sp := fun vs H Q _ => ∃ (pt : Addr) (wd : Str) (xs : List V), vs = [.ref pt] ∧ SqT K H pt (.str wd :: xs) ∧ xs.length ≤ 1000 ∧ ∀ l H', Grow H H' → H l = none → H' l = some (.lst (behind (slotsOf wd) xs "name")) → Q (.ref l) H'
theorem scNB : FnScope ["part"] ["part"] (defScope sNB) := ⟨rfl, rfl, rfl, by decide +kernel, rfl, by decide +kernel, by decide +kernel⟩
theorem ok_nb {f fV : Addr} {fd fdV : FuncData} (F : FunD K "names_bound" "names_bound" sNB .none f fd) (GV : FnOk P w K mg base (CXE P w) 1 fV fdV ["part", "sort"] (spVB K)) (mV : mg "values_behind" = some (.ref fV)) (kV : PySem.W.keepIn K (.ref fV) = true) (bV : Binds K fdV ["part", "sort"] []) :
    FnOk P w K mg base (CXE P w) 2 f fd ["part"] (spNB K) := by
  refine F.ok0 scNB (fun vs H Q E h => ?_) (fun cdv A outer s H vs Q E hr h => ?_)
  · obtain ⟨pt, wd, xs, rfl, _⟩ := h
    rfl
  · obtain ⟨pt, wd, xs, rfl, hp, hx, q⟩ := h
    refine ⟨_, pss_one (ps_ret (pe_call GV hr (by rfl) mV kV bV .nil passE0 (pa_cons (pv 0) (pa_cons pe_str pa_nil)))), ?_⟩
    exact ⟨_, rfl, pt, "name", wd, xs, rfl, hp, hx, q⟩
def spWN : Sp := fun vs H Q _ => ∃ (sc : Addr) (x : Str) (u : V) (kvs : List (Key × V)), vs = [.ref sc, .str x, u] ∧ H sc = some (.dK kvs) ∧ kvs.length ≤ 1000000 ∧ ∀ d H', Grow H H' → H' d = some (.dK (putK kvs (Sum.inr x) u)) → Q (.ref d) H'
theorem scWN : FnScope ["scope", "name", "bound", "inner"] ["scope", "name", "bound"] (defScope sWN) := ⟨rfl, rfl, rfl, by decide +kernel, rfl, by decide +kernel, by decide +kernel⟩
theorem ok_wn {f : Addr} {fd : FuncData} (F : FunD K "with_name" "with_name" sWN .none f fd) (zd : mg "dict" = none) : FnOk P w K mg base (CXE P w) 1 f fd ["scope", "name", "bound"] spWN := by
  refine F.ok0 scWN (fun vs H Q E h => ?_) (fun cdv A outer s H vs Q E hr h => ?_)
  · obtain ⟨sc, x, u, kvs, rfl, _⟩ := h
    rfl
  · obtain ⟨sc, x, u, kvs, rfl, hs, hl, q⟩ := h
    have hu : A.units + 0 ≤ A.units := Nat.le_refl _
    refine ⟨_, pss_cons (ps_set (i := 3) scWN.nd rfl (Or.inl rfl) (pe_callTy call_dictC (by rfl) zd PyProof.Rows.boot_dict (pa_cons (pv 0) pa_nil)))
      (pss_cons (ps_dput (Nat.lt_of_succ_lt hr.u2) (pv 3) (pv 1) (pv 2) rfl) (pss_one (ps_ret (pv 3)))), ?_⟩
    refine ⟨_, rfl, sc, kvs, rfl, hs, fun d hd => ?_⟩
    dsimp only [gName, List.set]
    have g1 : Grow H (upd H d (.dK kvs)) := Grow.put hd
    refine ⟨_, rfl, _, rfl, _, rfl, d, _, rfl, DPut.k (k := Sum.inr x) upd_same (by rw [sizeLine_eq]; omega), ?_⟩
    refine ⟨_, rfl, q d _ ?_ upd_same⟩
    rw [upd_upd]
    exact Grow.put hd
def spLU : Sp := fun vs H Q _ => ∃ (sc : Addr) (x : Str) (u : V) (kvs : List (Key × V)), vs = [.ref sc, .str x] ∧ H sc = some (.dK kvs) ∧ valV kvs (Sum.inr x) = some u ∧ Q u H
theorem scLU : FnScope ["scope", "name"] ["scope", "name"] (defScope sLU) := ⟨rfl, rfl, rfl, by decide +kernel, rfl, by decide +kernel, by decide +kernel⟩
theorem ok_lu {f : Addr} {fd : FuncData} (F : FunD K "looked_up" "looked_up" sLU .none f fd) : FnOk P w K mg base (CXE P w) 1 f fd ["scope", "name"] spLU := by
  refine F.ok0 scLU (fun vs H Q E h => ?_) (fun cdv A outer s H vs Q E hr h => ?_)
  · obtain ⟨sc, x, u, kvs, rfl, _⟩ := h
    rfl
  · obtain ⟨sc, x, u, kvs, rfl, hs, hv, q⟩ := h
    refine ⟨_, pss_cons (ps_if (pt_cmp (pc_dnotin (Nat.lt_of_succ_lt hr.u2) (pv 1) (pv 0))) pss_never pss_nil) (pss_one (ps_ret (pe_dget (Nat.lt_of_succ_lt hr.u2) (pv 0) (pv 1) (fun _ _ => rfl)))), ?_⟩
    refine ⟨_, rfl, _, rfl, sc, _, rfl, DGet.k (k := Sum.inr x) hs, _, rfl, ?_⟩
    rw [hv]
    refine iteF ⟨_, rfl, _, rfl, sc, u, rfl, ?_, q⟩
    have := DGet.k (k := Sum.inr x) hs
    rw [hv] at this
    exact this
def spRW (K : PySem.W.Frag) : Sp := fun vs H Q _ => ∃ (v : V) (wd : Str) (ds : List Dt), vs = [v, .str wd] ∧ DtAt K H (.tup (.str wd :: ds)) v ∧ Q .non H
theorem kit_tt (K : PySem.W.Frag) : PySem.W.kitOne K (.type "tuple") (.type "tuple") = some true := by
  unfold PySem.W.kitOne
  rw [if_pos (by decide)]
theorem scRW : FnScope ["kind", "word"] ["kind", "word"] (defScope sRW) := ⟨rfl, rfl, rfl, by decide +kernel, rfl, by decide +kernel, by decide +kernel⟩
structure GlI (mg : Str → Option Value) : Prop where
  isi : mg "isinstance" = none
  tuple : mg "tuple" = none
variable {fR fW : Addr} {fdR fdW : FuncData}
theorem ok_rw {f : Addr} {fd : FuncData} (F : FunD K "require_word" "require_word" sRW .none f fd) (G : GlI mg) (GR : FnOk P w K mg base (CXE P w) 1 fR fdR ["holds"] spReq) (mR : mg "require" = some (.ref fR)) (kR : PySem.W.keepIn K (.ref fR) = true) (bR : Binds K fdR ["holds"] []) : FnOk P w K mg base (CXE P w) 2 f fd ["kind", "word"] (spRW K) := by
  refine F.ok0 scRW (fun vs H Q E h => ?_) (fun cdv A outer s H vs Q E hr h => ?_)
  · obtain ⟨v, wd, ds, rfl, _⟩ := h
    rfl
  · obtain ⟨v, wd, ds, rfl, hv, q⟩ := h
    refine ⟨_, pss_one (ps_expr (pe_call GR hr (by rfl) mR kR bR .nil passE0 (pa_cons (pe_and (pe_callB call_isD (by rfl) G.isi PyProof.Rows.boot_isinstance (pa_cons (pv 0) (pa_cons (pe_bltn (v := .ty "tuple") (by rfl) G.tuple PyProof.Rows.boot_tuple rfl) pa_nil)))
      (pe_one (pe_cmpR op_eq (pe_ix ix_tup (pv 0) pe_int (fun _ _ => rfl)) (pv 1) (nomark _)))) pa_nil))), ?_⟩
    obtain ⟨a, vs, rfl, hs, hd⟩ := at_tup hv
    obtain ⟨v0, r, rfl, h0, _⟩ := ats_cons hd
    cases at_str h0
    refine ⟨_, rfl, .tup (.str wd :: ds), _, "tuple", true, rfl, hv, kit_tt K, true, rfl, iteT ?_⟩
    refine ⟨_, rfl, a, _, _, .str wd, rfl, rfl, hs, atI_nat (j := 0) rfl, _, rfl, rfl, ?_⟩
    rw [decide_eq_true (rfl : V.str wd = V.str wd)]
    exact ⟨rfl, q⟩
end
end K13
set_option maxRecDepth 100000
set_option linter.all false
set_option Elab.async false
set_option maxHeartbeats 4000000
namespace K13
open PySem L2 PyProof Dt
abbrev sPK : Stmt := top 30
section
variable {P : Program} {w : World} {K : PySem.W.Frag} {mg : Str → Option Value} {base : Heap} {f : Addr} {fd : FuncData}
theorem units_lt {k n : Nat} {A : Around} (r : Room k A) (h : n ≤ 150) : A.units + 1 + n < cLine := by have := r.un; omega
theorem room_dep {k n : Nat} {A : Around} (r : Room k A) (h : n ≤ 150) : A.units + n < cLine := by have := r.un; omega
theorem dep_kd (k : Kd) (h : k.sz ≤ 40) : dep k.dt ≤ 40 := by rw [Kd.dep_dt]; have := Kd.deep_sz k; omega
theorem deps_kd : ∀ ks : List Kd, (∀ k ∈ ks, k.sz ≤ 40) → deps (ks.map Kd.dt) ≤ 40
  | [], _ => by simp [deps]
  | k :: ks, h => by
    have h1 := dep_kd k (h k List.mem_cons_self)
    have h2 := deps_kd ks fun l hl => h l (List.mem_cons_of_mem _ hl)
    rw [List.map_cons, deps]; omega
def spRl (K : PySem.W.Frag) (R : List Kd → Kd → Prop) : Sp := fun vs H Q _ => ∃ (ks : Addr) (ws : List V) (ds : List Kd) (m : Kd), vs = [.ref ks] ∧ SqL K H ks ws ∧ DtsAt K H (ds.map Kd.dt) ws ∧ (∀ d ∈ ds, d.sz ≤ 40) ∧ R ds m ∧ ∀ v H', Grow H H' → DtAt K H' m.dt v → Q v H'
def rCons : List Kd → Kd → Prop := fun ds m => ∃ k, ds = [k, .list k] ∧ m = .list k
def rHead : List Kd → Kd → Prop := fun ds m => ds = [.list m]
def rTail : List Kd → Kd → Prop := fun ds m => ∃ k, ds = [.list k] ∧ m = .list k
def rEmpty : List Kd → Kd → Prop := fun ds m => ∃ k, ds = [.list k] ∧ m = .bool
def rFirst : List Kd → Kd → Prop := fun ds m => ∃ l, ds = [.pair m l]
def rSecond : List Kd → Kd → Prop := fun ds m => ∃ k, ds = [.pair k m]
def rIf : List Kd → Kd → Prop := fun ds m => ds = [.bool, m, m]
def rCall : List Kd → Kd → Prop := fun ds m => ∃ k, ds = [.fn k m, k]
theorem list_at {k : Kd} {H : Hp} {v : V} (h : DtAt K H (Kd.list k).dt v) : ∃ a u, v = .ref a ∧ SqT K H a [.str "list", u] ∧ DtAt K H k.dt u := at_w1 h
theorem pair_at {k l : Kd} {H : Hp} {v : V} (h : DtAt K H (Kd.pair k l).dt v) : ∃ a u w, v = .ref a ∧ SqT K H a [.str "pair", u, w] ∧ DtAt K H k.dt u ∧ DtAt K H l.dt w := at_w2 h
theorem fn_at {k l : Kd} {H : Hp} {v : V} (h : DtAt K H (Kd.fn k l).dt v) : ∃ a u w, v = .ref a ∧ SqT K H a [.str "fun", u, w] ∧ DtAt K H k.dt u ∧ DtAt K H l.dt w := at_w2 h
theorem scK1 (i : Nat) (h : i = 17 ∨ i = 18 ∨ i = 19 ∨ i = 20 ∨ i = 21 ∨ i = 22 ∨ i = 23 ∨ i = 24) : FnScope ["kinds"] ["kinds"] (defScope (top i)) := by
  rcases h with rfl | rfl | rfl | rfl | rfl | rfl | rfl | rfl <;> exact ⟨rfl, rfl, rfl, by decide +kernel, rfl, by decide +kernel, by decide +kernel⟩
theorem ok_head (F : FunD K "head_kind" "head_kind" sHead .none f fd) (GW : Kn P w K mg base 2 "require_word" ["kind", "word"] (spRW K)) : FnOk P w K mg base (CXE P w) 3 f fd ["kinds"] (spRl K rHead) := by
  refine F.ok0 (scK1 18 (by decide)) (fun vs H Q E h => ?_) (fun cdv A outer s H vs Q E hr h => ?_)
  · obtain ⟨ks, ws, ds, m, rfl, _⟩ := h
    rfl
  · obtain ⟨ks, ws, ds, m, rfl, hs, hd, hz, rfl, q⟩ := h
    obtain ⟨u, r, rfl, hu, hr0⟩ := ats_cons hd
    cases ats_nil hr0
    refine ⟨_, pss_cons (ps_expr (pe_k GW hr (pa_cons (pe_ix ix_list (pv 0) pe_int (fun _ _ => rfl)) (pa_cons pe_str pa_nil)))) (pss_one (ps_ret (pe_ix ix_tup (pe_ix ix_list (pv 0) pe_int (fun _ _ => rfl)) pe_int (fun _ _ => rfl)))), ?_⟩
    obtain ⟨a, y, rfl, ha, hy⟩ := list_at hu
    refine ⟨_, rfl, ks, _, _, _, rfl, rfl, hs, atI_nat (j := 0) rfl, _, _, _, rfl, hu, ?_⟩
    exact ⟨_, rfl, ks, _, _, _, rfl, rfl, hs, atI_nat (j := 0) rfl, a, _, _, y, rfl, rfl, ha, atI_nat (j := 1) rfl, q y H (Grow.refl H) hy⟩
theorem ok_tail (F : FunD K "tail_kind" "tail_kind" sTail .none f fd) (GW : Kn P w K mg base 2 "require_word" ["kind", "word"] (spRW K)) : FnOk P w K mg base (CXE P w) 3 f fd ["kinds"] (spRl K rTail) := by
  refine F.ok0 (scK1 19 (by decide)) (fun vs H Q E h => ?_) (fun cdv A outer s H vs Q E hr h => ?_)
  · obtain ⟨ks, ws, ds, m, rfl, _⟩ := h
    rfl
  · obtain ⟨ks, ws, ds, m, rfl, hs, hd, hz, ⟨k, rfl, rfl⟩, q⟩ := h
    obtain ⟨u, r, rfl, hu, hr0⟩ := ats_cons hd
    cases ats_nil hr0
    refine ⟨_, pss_cons (ps_expr (pe_k GW hr (pa_cons (pe_ix ix_list (pv 0) pe_int (fun _ _ => rfl)) (pa_cons pe_str pa_nil)))) (pss_one (ps_ret (pe_ix ix_list (pv 0) pe_int (fun _ _ => rfl)))), ?_⟩
    refine ⟨_, rfl, ks, _, _, _, rfl, rfl, hs, atI_nat (j := 0) rfl, _, _, _, rfl, hu, ?_⟩
    exact ⟨_, rfl, ks, _, _, _, rfl, rfl, hs, atI_nat (j := 0) rfl, q _ H (Grow.refl H) hu⟩
theorem ok_empty (F : FunD K "empty_kind" "empty_kind" sEmpty .none f fd) (GW : Kn P w K mg base 2 "require_word" ["kind", "word"] (spRW K)) : FnOk P w K mg base (CXE P w) 3 f fd ["kinds"] (spRl K rEmpty) := by
  refine F.ok0 (scK1 20 (by decide)) (fun vs H Q E h => ?_) (fun cdv A outer s H vs Q E hr h => ?_)
  · obtain ⟨ks, ws, ds, m, rfl, _⟩ := h
    rfl
  · obtain ⟨ks, ws, ds, m, rfl, hs, hd, hz, ⟨k, rfl, rfl⟩, q⟩ := h
    obtain ⟨u, r, rfl, hu, hr0⟩ := ats_cons hd
    cases ats_nil hr0
    refine ⟨_, pss_cons (ps_expr (pe_k GW hr (pa_cons (pe_ix ix_list (pv 0) pe_int (fun _ _ => rfl)) (pa_cons pe_str pa_nil)))) (pss_one (ps_ret pe_str)), ?_⟩
    refine ⟨_, rfl, ks, _, _, _, rfl, rfl, hs, atI_nat (j := 0) rfl, _, _, _, rfl, hu, ?_⟩
    exact q _ H (Grow.refl H) (str_at _)
theorem ok_first (F : FunD K "first_kind" "first_kind" sFirst .none f fd) (GW : Kn P w K mg base 2 "require_word" ["kind", "word"] (spRW K)) : FnOk P w K mg base (CXE P w) 3 f fd ["kinds"] (spRl K rFirst) := by
  refine F.ok0 (scK1 21 (by decide)) (fun vs H Q E h => ?_) (fun cdv A outer s H vs Q E hr h => ?_)
  · obtain ⟨ks, ws, ds, m, rfl, _⟩ := h
    rfl
  · obtain ⟨ks, ws, ds, m, rfl, hs, hd, hz, ⟨k, rfl⟩, q⟩ := h
    obtain ⟨u, r, rfl, hu, hr0⟩ := ats_cons hd
    cases ats_nil hr0
    refine ⟨_, pss_cons (ps_expr (pe_k GW hr (pa_cons (pe_ix ix_list (pv 0) pe_int (fun _ _ => rfl)) (pa_cons pe_str pa_nil)))) (pss_one (ps_ret (pe_ix ix_tup (pe_ix ix_list (pv 0) pe_int (fun _ _ => rfl)) pe_int (fun _ _ => rfl)))), ?_⟩
    obtain ⟨a, y, z, rfl, ha, hy, hz'⟩ := pair_at hu
    refine ⟨_, rfl, ks, _, _, _, rfl, rfl, hs, atI_nat (j := 0) rfl, _, _, _, rfl, hu, ?_⟩
    exact ⟨_, rfl, ks, _, _, _, rfl, rfl, hs, atI_nat (j := 0) rfl, a, _, _, y, rfl, rfl, ha, atI_nat (j := 1) rfl, q y H (Grow.refl H) hy⟩
theorem ok_second (F : FunD K "second_kind" "second_kind" sSecond .none f fd) (GW : Kn P w K mg base 2 "require_word" ["kind", "word"] (spRW K)) : FnOk P w K mg base (CXE P w) 3 f fd ["kinds"] (spRl K rSecond) := by
  refine F.ok0 (scK1 22 (by decide)) (fun vs H Q E h => ?_) (fun cdv A outer s H vs Q E hr h => ?_)
  · obtain ⟨ks, ws, ds, m, rfl, _⟩ := h
    rfl
  · obtain ⟨ks, ws, ds, m, rfl, hs, hd, hz, ⟨k, rfl⟩, q⟩ := h
    obtain ⟨u, r, rfl, hu, hr0⟩ := ats_cons hd
    cases ats_nil hr0
    refine ⟨_, pss_cons (ps_expr (pe_k GW hr (pa_cons (pe_ix ix_list (pv 0) pe_int (fun _ _ => rfl)) (pa_cons pe_str pa_nil)))) (pss_one (ps_ret (pe_ix ix_tup (pe_ix ix_list (pv 0) pe_int (fun _ _ => rfl)) pe_int (fun _ _ => rfl)))), ?_⟩
    obtain ⟨a, y, z, rfl, ha, hy, hz'⟩ := pair_at hu
    refine ⟨_, rfl, ks, _, _, _, rfl, rfl, hs, atI_nat (j := 0) rfl, _, _, _, rfl, hu, ?_⟩
    exact ⟨_, rfl, ks, _, _, _, rfl, rfl, hs, atI_nat (j := 0) rfl, a, _, _, z, rfl, rfl, ha, atI_nat (j := 2) rfl, q z H (Grow.refl H) hz'⟩
theorem ok_call (F : FunD K "call_kind" "call_kind" sCall .none f fd) (GR : Kn P w K mg base 1 "require" ["holds"] spReq) (GW : Kn P w K mg base 2 "require_word" ["kind", "word"] (spRW K)) : FnOk P w K mg base (CXE P w) 3 f fd ["kinds"] (spRl K rCall) := by
  refine F.ok0 (scK1 24 (by decide)) (fun vs H Q E h => ?_) (fun cdv A outer s H vs Q E hr h => ?_)
  · obtain ⟨ks, ws, ds, m, rfl, _⟩ := h
    rfl
  · obtain ⟨ks, ws, ds, m, rfl, hs, hd, hz, ⟨k, rfl⟩, q⟩ := h
    obtain ⟨u, r, rfl, hu, hr0⟩ := ats_cons hd
    obtain ⟨v, r, rfl, hv, hr0⟩ := ats_cons hr0
    cases ats_nil hr0
    refine ⟨_, pss_cons (ps_expr (pe_k GW hr (pa_cons (pe_ix ix_list (pv 0) pe_int (fun _ _ => rfl)) (pa_cons pe_str pa_nil))))
      (pss_cons (ps_expr (pe_k GR (hr.mono (by omega)) (pa_cons (pe_cmpR op_eqD (pe_ix ix_tup (pe_ix ix_list (pv 0) pe_int (fun _ _ => rfl)) pe_int (fun _ _ => rfl)) (pe_ix ix_list (pv 0) pe_int (fun _ _ => rfl)) (nomark _)) pa_nil)))
      (pss_one (ps_ret (pe_ix ix_tup (pe_ix ix_list (pv 0) pe_int (fun _ _ => rfl)) pe_int (fun _ _ => rfl))))), ?_⟩
    obtain ⟨a, y, z, rfl, ha, hy, hz'⟩ := fn_at hu
    refine ⟨_, rfl, ks, _, _, _, rfl, rfl, hs, atI_nat (j := 0) rfl, _, _, _, rfl, hu, ?_⟩
    refine ⟨_, rfl, ks, _, _, _, rfl, rfl, hs, atI_nat (j := 0) rfl, a, _, _, y, rfl, rfl, ha, atI_nat (j := 1) rfl, _, rfl, ks, _, _, v, rfl, rfl, hs, atI_nat (j := 1) rfl, k.dt, k.dt, hy, hv, ?_, ?_⟩
    · exact room_dep hr (Nat.le_trans (dep_kd k (hz k (by simp))) (by decide))
    · rw [eqD_refl]
      refine ⟨rfl, ?_⟩
      exact ⟨_, rfl, ks, _, _, _, rfl, rfl, hs, atI_nat (j := 0) rfl, a, _, _, z, rfl, rfl, ha, atI_nat (j := 2) rfl, q z H (Grow.refl H) hz'⟩
theorem ok_cons (F : FunD K "cons_kind" "cons_kind" sCons .none f fd) (GR : Kn P w K mg base 1 "require" ["holds"] spReq) : FnOk P w K mg base (CXE P w) 3 f fd ["kinds"] (spRl K rCons) := by
  refine F.ok0 (scK1 17 (by decide)) (fun vs H Q E h => ?_) (fun cdv A outer s H vs Q E hr h => ?_)
  · obtain ⟨ks, ws, ds, m, rfl, _⟩ := h
    rfl
  · obtain ⟨ks, ws, ds, m, rfl, hs, hd, hz, ⟨k, rfl, rfl⟩, q⟩ := h
    obtain ⟨u, r, rfl, hu, hr0⟩ := ats_cons hd
    obtain ⟨v, r, rfl, hv, hr0⟩ := ats_cons hr0
    cases ats_nil hr0
    refine ⟨_, pss_cons (ps_expr (pe_k GR (hr.mono (by omega)) (pa_cons (pe_cmpR op_eqD (pe_ix ix_list (pv 0) pe_int (fun _ _ => rfl)) (pe_tup (pa_cons pe_str (pa_cons (pe_ix ix_list (pv 0) pe_int (fun _ _ => rfl)) pa_nil))) (nomark _)) pa_nil)))
      (pss_one (ps_ret (pe_ix ix_list (pv 0) pe_int (fun _ _ => rfl)))), ?_⟩
    refine ⟨_, rfl, ks, _, _, v, rfl, rfl, hs, atI_nat (j := 1) rfl, _, rfl, ks, _, _, u, rfl, rfl, hs, atI_nat (j := 0) rfl, (by show 2 ≤ sizeLine; decide), fun c hc => ?_⟩
    have g1 : Grow H (upd H c (.tup [.str "list", u])) := Grow.put hc
    have e1 : SqT K (upd H c (.tup [.str "list", u])) c [.str "list", u] := SqT.of upd_same
    generalize upd H c (.tup [.str "list", u]) = H1 at g1 e1 ⊢
    refine ⟨(Kd.list k).dt, (Kd.list k).dt, hv.mono g1.same, w1_at e1 (hu.mono g1.same), room_dep hr (Nat.le_trans (dep_kd _ (hz _ (by simp))) (by decide)), ?_⟩
    rw [eqD_refl]
    refine ⟨rfl, ?_⟩
    exact ⟨_, rfl, ks, _, _, v, rfl, rfl, g1.same.seq hs, atI_nat (j := 1) rfl, q v _ g1 (hv.mono g1.same)⟩
theorem ok_if (F : FunD K "if_kind" "if_kind" sIf .none f fd) (GR : Kn P w K mg base 1 "require" ["holds"] spReq) : FnOk P w K mg base (CXE P w) 3 f fd ["kinds"] (spRl K rIf) := by
  refine F.ok0 (scK1 23 (by decide)) (fun vs H Q E h => ?_) (fun cdv A outer s H vs Q E hr h => ?_)
  · obtain ⟨ks, ws, ds, m, rfl, _⟩ := h
    rfl
  · obtain ⟨ks, ws, ds, m, rfl, hs, hd, hz, rfl, q⟩ := h
    obtain ⟨t, r, rfl, ht, hr0⟩ := ats_cons hd
    obtain ⟨u, r, rfl, hu, hr0⟩ := ats_cons hr0
    obtain ⟨v, r, rfl, hv, hr0⟩ := ats_cons hr0
    cases ats_nil hr0
    refine ⟨_, pss_cons (ps_expr (pe_k GR (hr.mono (by omega)) (pa_cons (pe_and (pe_cmpR op_eqD (pe_ix ix_list (pv 0) pe_int (fun _ _ => rfl)) pe_str (nomark _)) (pe_one (pe_cmpR op_eqD (pe_ix ix_list (pv 0) pe_int (fun _ _ => rfl)) (pe_ix ix_list (pv 0) pe_int (fun _ _ => rfl)) (nomark _)))) pa_nil)))
      (pss_one (ps_ret (pe_ix ix_list (pv 0) pe_int (fun _ _ => rfl)))), ?_⟩
    refine ⟨_, rfl, ks, _, _, t, rfl, rfl, hs, atI_nat (j := 0) rfl, (Kd.bool).dt, (Kd.bool).dt, ht, str_at _, room_dep hr (Nat.le_trans (dep_kd .bool (by decide)) (by decide)), ?_⟩
    rw [eqD_refl]
    refine ⟨true, rfl, iteT ?_⟩
    refine ⟨_, rfl, ks, _, _, u, rfl, rfl, hs, atI_nat (j := 1) rfl, _, rfl, ks, _, _, v, rfl, rfl, hs, atI_nat (j := 2) rfl, m.dt, m.dt, hu, hv, room_dep hr (Nat.le_trans (dep_kd m (hz _ (by simp))) (by decide)), ?_⟩
    rw [eqD_refl]
    refine ⟨rfl, ?_⟩
    exact ⟨_, rfl, ks, _, _, u, rfl, rfl, hs, atI_nat (j := 1) rfl, q u _ (Grow.refl H) hu⟩
def PrAt (K : PySem.W.Frag) (H : Hp) (pr : Addr) (n : Nat) : Prop := ∃ (ps : List V) (ks : List Kd), H pr = some (.lst ps) ∧ DtsAt K H (ks.map Kd.dt) ps ∧ (∀ k ∈ ks, k.sz ≤ 40) ∧ ks.length ≤ n
theorem PrAt.le {H : Hp} {pr : Addr} {m n : Nat} (h : PrAt K H pr m) (l : m ≤ n) : PrAt K H pr n := let ⟨ps, ks, a, b, c, d⟩ := h; ⟨ps, ks, a, b, c, Nat.le_trans d l⟩
theorem PrAt.mono {H H' : Hp} {pr : Addr} {n : Nat} (h : PrAt K H pr n) (g : Grow H H') : PrAt K H' pr n := let ⟨ps, ks, a, b, c, d⟩ := h; ⟨ps, ks, g.same _ _ a, b.mono g.same, c, d⟩
theorem PrAt.tups {H H' : Hp} {pr : Addr} {n : Nat} (h : PrAt K H pr n) (g : GrowB pr H H') : KeepT K H H' := let ⟨_, _, a, _⟩ := h; g.tups a
def spPK (K : PySem.W.Frag) : Sp := fun vs H Q _ => ∃ (ks pr : Addr) (u v : V) (k l : Kd) (n : Nat), vs = [.ref ks, .ref pr] ∧ SqL K H ks [u, v] ∧ DtAt K H k.dt u ∧ DtAt K H l.dt v ∧ (Kd.pair k l).sz ≤ 40 ∧ PrAt K H pr n ∧ n ≤ 100000 ∧
  ∀ r H', GrowB pr H H' → PrAt K H' pr (n + 1) → DtAt K H' (Kd.pair k l).dt r → Q r H'
theorem scPK : FnScope ["kinds", "pairs", "kind"] ["kinds", "pairs"] (defScope sPK) := ⟨rfl, rfl, rfl, by decide +kernel, rfl, by decide +kernel, by decide +kernel⟩
theorem ok_pk (F : FunD K "pair_kind" "pair_kind" sPK .none f fd) : FnOk P w K mg base (CXE P w) 1 f fd ["kinds", "pairs"] (spPK K) := by
  refine F.ok0 scPK (fun vs H Q E h => ?_) (fun cdv A outer s H vs Q E hr h => ?_)
  · obtain ⟨ks, pr, u, v, k, l, n, rfl, _⟩ := h
    rfl
  · obtain ⟨ks, pr, u, v, k, l, n, rfl, hs, hu, hv, hz, hp, hn, q⟩ := h
    refine ⟨_, pss_cons (ps_set (i := 2) scPK.nd rfl (Or.inl rfl) (pe_tup (pa_cons pe_str (pa_cons (pe_ix ix_list (pv 0) pe_int (fun _ _ => rfl)) (pa_cons (pe_ix ix_list (pv 0) pe_int (fun _ _ => rfl)) pa_nil)))))
      (pss_cons (ps_if (pt_cmpR op_inL (pv 2) (pv 1) rfl) (pss_one (ps_ret (pe_ix ix_list (pv 1) (pe_bm PySem.F.plainAttrs_list PySem.F.slot_list_index PySem.F.type_list_index mt_indexD (pv 1) (pa_cons (pv 2) pa_nil)) (fun _ _ => rfl)))) pss_nil)
      (pss_cons (ps_expr (pe_bm PySem.F.plainAttrs_list PySem.F.slot_list_append PySem.F.type_list_append mt_append (pv 1) (pa_cons (pv 2) pa_nil)))
      (pss_one (ps_ret (pv 2))))), ?_⟩
    refine ⟨_, rfl, ks, _, _, u, rfl, rfl, hs, atI_nat (j := 0) rfl, _, rfl, ks, _, _, v, rfl, rfl, hs, atI_nat (j := 1) rfl, (by show 3 ≤ sizeLine; decide), fun c hc => ?_⟩
    dsimp only [gName, List.set]
    have g1 : Grow H (upd H c (.tup [.str "pair", u, v])) := Grow.put hc
    have e1 : SqT K (upd H c (.tup [.str "pair", u, v])) c [.str "pair", u, v] := SqT.of upd_same
    generalize upd H c (.tup [.str "pair", u, v]) = H1 at g1 e1 ⊢
    have hk : DtAt K H1 (Kd.pair k l).dt (.ref c) := w2_at e1 (hu.mono g1.same) (hv.mono g1.same)
    have hp1 := hp.mono g1
    obtain ⟨ps, kl, a1, a2, a3, a4⟩ := hp1
    have hdu := Nat.le_trans (deps_kd kl a3) (show 40 ≤ 150 by decide)
    refine ⟨_, rfl, _, rfl, pr, ps, (Kd.pair k l).dt, kl.map Kd.dt, rfl, SqL.of a1, hk, a2, units_lt hr hdu, _, rfl, ?_⟩
    refine ite2 (fun hin => ?_) (fun _ => ?_)
    · refine ⟨_, rfl, _, rfl, .inl ⟨rfl, _, SqL.of a1⟩, _, rfl, pr, ps, _, (Kd.pair k l).dt, kl.map Kd.dt, rfl, rfl, SqL.of a1, hk, a2, units_lt hr hdu, hin, fun j e he hj => ?_⟩
      obtain ⟨y, hy, dy⟩ := a2.get he
      refine ⟨pr, ps, j, y, rfl, rfl, SqL.of a1, atI_nat hy, q y H1 g1.b (PrAt.le ⟨ps, kl, a1, a2, a3, a4⟩ (Nat.le_succ n)) ?_⟩
      rw [List.getElem?_map] at he
      obtain ⟨k', hk', rfl⟩ := Option.map_eq_some_iff.mp he
      rw [Kd.eq_dt] at hj
      rw [of_decide_eq_true hj] at dy
      exact dy
    · have hl := a2.length
      rw [List.length_map] at hl
      refine ⟨_, rfl, .inl ⟨rfl, _, SqL.of a1⟩, _, rfl, pr, ps, _, rfl, rfl, a1, (by rw [sizeLine_eq]; omega), ?_⟩
      have gB : GrowB pr H (upd H1 pr (.lst (ps ++ [.ref c]))) := by
        obtain ⟨ps0, kl0, b1, _⟩ := hp
        exact (Grow.b g1).set b1
      have kt : KeepT K H1 (upd H1 pr (.lst (ps ++ [.ref c]))) := GrowB.tups ((GrowB.refl pr H1).set a1) a1
      refine ⟨_, rfl, q _ _ gB ⟨ps ++ [.ref c], kl ++ [Kd.pair k l], upd_same, ?_, ?_, ?_⟩ (hk.monoT kt)⟩
      · rw [List.map_append]
        exact (a2.monoT kt).append (cons_ats (hk.monoT kt) nil_ats)
      · intro z hz'
        rcases List.mem_append.mp hz' with h | h
        · exact a3 z h
        · rw [List.mem_singleton.mp h]; exact hz
      · rw [List.length_append]; simp; exact a4
end
end K13
set_option maxRecDepth 100000
set_option linter.all false
set_option Elab.async false
set_option maxHeartbeats 4000000
namespace K13
open PySem L2 PyProof Dt
abbrev sLetK : Stmt := top 26
abbrev sFnK : Stmt := top 27
abbrev sRecK : Stmt := top 28
abbrev sFit : Stmt := top 31
section
variable {P : Program} {w : World} {K : PySem.W.Frag} {mg : Str → Option Value} {base : Heap} {f : Addr} {fd : FuncData}
def ScAt (K : PySem.W.Frag) (H : Hp) (sc : Addr) (Γ : Cxt) (m : Nat) : Prop := ∃ kvs, H sc = some (.dK kvs) ∧ kvs.length ≤ m ∧ ∀ x k, Γ.lookup x = some k → ∃ v, valV kvs (Sum.inr x) = some v ∧ DtAt K H k.dt v
theorem ScAt.monoB {H H' : Hp} {sc pr : Addr} {Γ : Cxt} {m n : Nat} (h : ScAt K H sc Γ m) (p : PrAt K H pr n) (g : GrowB pr H H') : ScAt K H' sc Γ m := by
  obtain ⟨kvs, a, b, c⟩ := h
  have kt := p.tups g
  obtain ⟨ps, ks, p1, _⟩ := p
  exact ⟨kvs, g.keep _ _ (ne_of a p1 (by intro z; cases z)) a, b, fun x k e => let ⟨v, e1, e2⟩ := c x k e; ⟨v, e1, e2.monoT kt⟩⟩
theorem ScAt.mono {H H' : Hp} {sc : Addr} {Γ : Cxt} {m : Nat} (h : ScAt K H sc Γ m) (g : Grow H H') : ScAt K H' sc Γ m := by
  obtain ⟨kvs, a, b, c⟩ := h
  exact ⟨kvs, g.same _ _ a, b, fun x k e => let ⟨v, e1, e2⟩ := c x k e; ⟨v, e1, e2.mono g.same⟩⟩
theorem ScAt.put {H H' : Hp} {sc d : Addr} {Γ : Cxt} {m : Nat} {x : Str} {k : Kd} {u : V} {kvs : List (Key × V)} (c : ∀ y l, Γ.lookup y = some l → ∃ v, valV kvs (Sum.inr y) = some v ∧ DtAt K H l.dt v) (hl : kvs.length ≤ m) (g : Grow H H') (e : H' d = some (.dK (putK kvs (Sum.inr x) u))) (hu : DtAt K H k.dt u) : ScAt K H' d ((x, k) :: Γ) (m + 1) := by
  refine ⟨_, e, ?_, fun y l hy => ?_⟩
  · have := length_putK kvs (Sum.inr x : Key) u
    omega
  · rw [valV_put]
    by_cases z : y = x
    · subst z
      rw [if_pos rfl]
      rw [List.lookup_cons, beq_self_eq_true] at hy
      cases hy
      exact ⟨u, rfl, hu.mono g.same⟩
    · rw [if_neg (fun h => z (Sum.inr.inj h))]
      rw [Pt.lookup_cons_ne z] at hy
      obtain ⟨v, e1, e2⟩ := c y l hy
      exact ⟨v, e1, e2.mono g.same⟩
def spFitP (K : PySem.W.Frag) (B : Pt → Prop) : Sp := fun vs H Q _ => ∃ (pv : V) (sc pr : Addr) (p : Pt) (Γ : Cxt) (κ : Kd) (m c : Nat), vs = [pv, .ref sc, .ref pr] ∧ DtAt K H p.dt pv ∧ B p ∧ Pt.Has Γ p κ ∧ ScAt K H sc Γ m ∧ m + 2 * p.deep ≤ 400 ∧ PrAt K H pr c ∧ c + p.sz ≤ 100000 ∧
  ∀ v H', GrowB pr H H' → PrAt K H' pr (c + p.sz) → DtAt K H' κ.dt v → Q v H'
def spFit (K : PySem.W.Frag) (n : Nat) : Sp := spFitP K fun p => p.deep < n
def isLet (n : Nat) (p : Pt) : Prop := p.deep < n + 1 ∧ ∃ x q r, p = .let_ x q r
def isFnP (n : Nat) (p : Pt) : Prop := p.deep < n + 1 ∧ ∃ x k q, p = .fn x k q
def isRec (n : Nat) (p : Pt) : Prop := p.deep < n + 1 ∧ ∃ g x k l q, p = .rc g x k l q
abbrev psF : List Str := ["part", "scope", "pairs"]
theorem scLetK : FnScope ["part", "scope", "pairs", "bound"] psF (defScope sLetK) := ⟨rfl, rfl, rfl, by decide +kernel, rfl, by decide +kernel, by decide +kernel⟩
theorem ok_let {n : Nat} (F : FunD K "let_kind" "let_kind" sLetK .none f fd) (GF : Kn P w K mg base (2 * n + 2) "fitted" psF (spFit K n)) (GN : Kn P w K mg base 1 "with_name" ["scope", "name", "bound"] spWN) : FnOk P w K mg base (CXE P w) (2 * n + 3) f fd psF (spFitP K (isLet n)) := by
  refine F.ok0 scLetK (fun vs H Q E h => ?_) (fun cdv A outer s H vs Q E hr h => ?_)
  · obtain ⟨pv, sc, pr, p, Γ, κ, m, c, rfl, _⟩ := h
    rfl
  · obtain ⟨v, sc, pr, p, Γ, κ, m, c, rfl, hp, ⟨hd, x, p1, p2, rfl⟩, hh, hs, hm, hpr, hc, q⟩ := h
    cases hh with
    | let_ h1 h2 =>
    rename_i k
    obtain ⟨a, v0, v1, v2, rfl, ha, hx, hv1, hv2⟩ := at_w3 hp
    cases at_str hx
    simp only [Pt.deep, Pt.sz] at hd hm hc q
    refine ⟨_, pss_cons (ps_set (i := 3) scLetK.nd rfl (Or.inl rfl) (pe_k GF hr (pa_cons (pe_ix ix_tup (pv 0) pe_int (fun _ _ => rfl)) (pa_cons (pv 1) (pa_cons (pv 2) pa_nil)))))
      (pss_one (ps_ret (pe_k GF hr (pa_cons (pe_ix ix_tup (pv 0) pe_int (fun _ _ => rfl)) (pa_cons (pe_k GN (hr.mono (by omega)) (pa_cons (pv 1) (pa_cons (pe_ix ix_tup (pv 0) pe_int (fun _ _ => rfl)) (pa_cons (pv 3) pa_nil)))) (pa_cons (pv 2) pa_nil)))))), ?_⟩
    refine ⟨_, rfl, a, _, _, v1, rfl, rfl, ha, atI_nat (j := 2) rfl, _, rfl, _, rfl, v1, sc, pr, p1, Γ, k, m, c, rfl, hv1, by show p1.deep < n; omega, h1, hs, by omega, hpr, by omega, fun u H1 g1 hpr1 hu => ?_⟩
    dsimp only [gName, List.set]
    have kt := hpr.tups g1
    have ha1 := kt _ _ ha
    have hv2' := hv2.monoT kt
    have hs1 := hs.monoB hpr g1
    obtain ⟨kvs, s1, s2, s3⟩ := hs1
    refine ⟨_, rfl, a, _, _, v2, rfl, rfl, ha1, atI_nat (j := 3) rfl, _, rfl, _, rfl, a, _, _, .str x, rfl, rfl, ha1, atI_nat (j := 1) rfl, _, rfl, sc, x, u, kvs, rfl, s1, by omega, fun d H2 g2 e2 => ?_⟩
    have hs2 : ScAt K H2 d ((x, k) :: Γ) (m + 1) := ScAt.put (sc := sc) s3 s2 g2 e2 hu
    refine ⟨_, rfl, v2, d, pr, p2, (x, k) :: Γ, κ, m + 1, c + p1.sz, rfl, hv2'.mono g2.same, by show p2.deep < n; omega, h2, hs2, by omega, hpr1.mono g2, by omega, fun r H3 g3 hpr3 hr3 => ?_⟩
    exact q r H3 ((g1.trans g2.b).trans g3) (hpr3.le (by omega)) hr3
theorem scFnK : FnScope ["part", "scope", "pairs", "told"] psF (defScope sFnK) := ⟨rfl, rfl, rfl, by decide +kernel, rfl, by decide +kernel, by decide +kernel⟩
theorem ok_fn {n : Nat} (F : FunD K "fn_kind" "fn_kind" sFnK .none f fd) (GF : Kn P w K mg base (2 * n + 2) "fitted" psF (spFit K n)) (GN : Kn P w K mg base 1 "with_name" ["scope", "name", "bound"] spWN) : FnOk P w K mg base (CXE P w) (2 * n + 3) f fd psF (spFitP K (isFnP n)) := by
  refine F.ok0 scFnK (fun vs H Q E h => ?_) (fun cdv A outer s H vs Q E hr h => ?_)
  · obtain ⟨pv, sc, pr, p, Γ, κ, m, c, rfl, _⟩ := h
    rfl
  · obtain ⟨v, sc, pr, p, Γ, κ, m, c, rfl, hp, ⟨hd, x, k, p2, rfl⟩, hh, hs, hm, hpr, hc, q⟩ := h
    cases hh with
    | fn h2 hb =>
    rename_i l
    obtain ⟨a, v0, v1, v2, rfl, ha, hx, hv1, hv2⟩ := at_w3 hp
    cases at_str hx
    simp only [Pt.deep, Pt.sz] at hd hm hc q
    refine ⟨_, pss_cons (ps_set (i := 3) scFnK.nd rfl (Or.inl rfl) (pe_k GF hr (pa_cons (pe_ix ix_tup (pv 0) pe_int (fun _ _ => rfl)) (pa_cons (pe_k GN (hr.mono (by omega)) (pa_cons (pv 1) (pa_cons (pe_ix ix_tup (pv 0) pe_int (fun _ _ => rfl)) (pa_cons (pe_ix ix_tup (pv 0) pe_int (fun _ _ => rfl)) pa_nil)))) (pa_cons (pv 2) pa_nil)))))
      (pss_one (ps_ret (pe_tup (pa_cons pe_str (pa_cons (pe_ix ix_tup (pv 0) pe_int (fun _ _ => rfl)) (pa_cons (pv 3) pa_nil)))))), ?_⟩
    obtain ⟨kvs, s1, s2, s3⟩ := hs
    refine ⟨_, rfl, a, _, _, v2, rfl, rfl, ha, atI_nat (j := 3) rfl, _, rfl, _, rfl, a, _, _, .str x, rfl, rfl, ha, atI_nat (j := 1) rfl, _, rfl, a, _, _, v1, rfl, rfl, ha, atI_nat (j := 2) rfl, sc, x, v1, kvs, rfl, s1, by omega, fun d H2 g2 e2 => ?_⟩
    have hs2 : ScAt K H2 d ((x, k) :: Γ) (m + 1) := ScAt.put (sc := sc) s3 s2 g2 e2 hv1
    refine ⟨_, rfl, v2, d, pr, p2, (x, k) :: Γ, l, m + 1, c, rfl, hv2.mono g2.same, by show p2.deep < n; omega, h2, hs2, by omega, hpr.mono g2, by omega, fun u H3 g3 hpr3 hu => ?_⟩
    dsimp only [gName, List.set]
    have kt : KeepT K H H3 := fun b xs hb => (hpr.mono g2).tups g3 _ _ (SqT.mono g2.same hb)
    refine ⟨_, rfl, a, _, _, v1, rfl, rfl, kt _ _ ha, atI_nat (j := 2) rfl, _, rfl, (by show 3 ≤ sizeLine; decide), fun t ht => ?_⟩
    have g4 : Grow H3 (upd H3 t (.tup [.str "fun", v1, u])) := Grow.put ht
    exact q _ _ ((g2.b.trans g3).trans g4.b) ((hpr3.mono g4).le (by omega)) (w2_at (SqT.of upd_same) ((hv1.monoT kt).mono g4.same) (hu.mono g4.same))
theorem scRecK : FnScope ["part", "scope", "pairs", "kind", "knowing_itself", "told"] psF (defScope sRecK) := ⟨rfl, rfl, rfl, by decide +kernel, rfl, by decide +kernel, by decide +kernel⟩
theorem ok_rec {n : Nat} (F : FunD K "rec_kind" "rec_kind" sRecK .none f fd) (GF : Kn P w K mg base (2 * n + 2) "fitted" psF (spFit K n)) (GN : Kn P w K mg base 1 "with_name" ["scope", "name", "bound"] spWN) (GR : Kn P w K mg base 1 "require" ["holds"] spReq) : FnOk P w K mg base (CXE P w) (2 * n + 3) f fd psF (spFitP K (isRec n)) := by
  refine F.ok0 scRecK (fun vs H Q E h => ?_) (fun cdv A outer s H vs Q E hr h => ?_)
  · obtain ⟨pv, sc, pr, p, Γ, κ, m, c, rfl, _⟩ := h
    rfl
  · obtain ⟨v, sc, pr, p, Γ, κ, m, c, rfl, hp, ⟨hd, g, x, k, l, p2, rfl⟩, hh, hs, hm, hpr, hc, q⟩ := h
    cases hh with
    | rc h2 hb =>
    obtain ⟨a, v0, v1, v2, v3, v4, rfl, ha, hg, hx, hv2, hv3, hv4⟩ := at_w5 hp
    cases at_str hx
    cases at_str hg
    simp only [Pt.deep, Pt.sz] at hd hm hc q
    refine ⟨_, pss_cons (ps_set (i := 3) scRecK.nd rfl (Or.inl rfl) (pe_tup (pa_cons pe_str (pa_cons (pe_ix ix_tup (pv 0) pe_int (fun _ _ => rfl)) (pa_cons (pe_ix ix_tup (pv 0) pe_int (fun _ _ => rfl)) pa_nil)))))
      (pss_cons (ps_set (i := 4) scRecK.nd rfl (Or.inl rfl) (pe_k GN (hr.mono (by omega)) (pa_cons (pv 1) (pa_cons (pe_ix ix_tup (pv 0) pe_int (fun _ _ => rfl)) (pa_cons (pv 3) pa_nil)))))
      (pss_cons (ps_set (i := 5) scRecK.nd rfl (Or.inl rfl) (pe_k GF hr (pa_cons (pe_ix ix_tup (pv 0) pe_int (fun _ _ => rfl)) (pa_cons (pe_k GN (hr.mono (by omega)) (pa_cons (pv 4) (pa_cons (pe_ix ix_tup (pv 0) pe_int (fun _ _ => rfl)) (pa_cons (pe_ix ix_tup (pv 0) pe_int (fun _ _ => rfl)) pa_nil)))) (pa_cons (pv 2) pa_nil)))))
      (pss_cons (ps_expr (pe_k GR (hr.mono (by omega)) (pa_cons (pe_cmpR op_eqD (pv 5) (pe_ix ix_tup (pv 0) pe_int (fun _ _ => rfl)) (nomark _)) pa_nil)))
      (pss_one (ps_ret (pv 3)))))), ?_⟩
    refine ⟨_, rfl, a, _, _, v2, rfl, rfl, ha, atI_nat (j := 3) rfl, _, rfl, a, _, _, v3, rfl, rfl, ha, atI_nat (j := 4) rfl, (by show 3 ≤ sizeLine; decide), fun t ht => ?_⟩
    dsimp only [gName, List.set]
    have g1 : Grow H (upd H t (.tup [.str "fun", v2, v3])) := Grow.put ht
    have e1 : SqT K (upd H t (.tup [.str "fun", v2, v3])) t [.str "fun", v2, v3] := SqT.of upd_same
    generalize upd H t (.tup [.str "fun", v2, v3]) = H1 at g1 e1 ⊢
    have hk1 : DtAt K H1 (Kd.fn k l).dt (.ref t) := w2_at e1 (hv2.mono g1.same) (hv3.mono g1.same)
    obtain ⟨kvs, s1, s2, s3⟩ := hs.mono g1
    have ha1 := SqT.mono g1.same ha
    refine ⟨_, rfl, _, rfl, a, _, _, .str g, rfl, rfl, ha1, atI_nat (j := 1) rfl, _, rfl, sc, g, .ref t, kvs, rfl, s1, by omega, fun d H2 g2 e2 => ?_⟩
    dsimp only [gName, List.set]
    have hs2 : ScAt K H2 d ((g, .fn k l) :: Γ) (m + 1) := ScAt.put (sc := sc) s3 s2 g2 e2 hk1
    have g12 := g1.trans g2
    have ha2 := SqT.mono g12.same ha
    obtain ⟨kv2, s1, s2, s3⟩ := hs2
    refine ⟨_, rfl, a, _, _, v4, rfl, rfl, ha2, atI_nat (j := 5) rfl, _, rfl, _, rfl, a, _, _, .str x, rfl, rfl, ha2, atI_nat (j := 2) rfl, _, rfl, a, _, _, v2, rfl, rfl, ha2, atI_nat (j := 3) rfl, d, x, v2, kv2, rfl, s1, by omega, fun d3 H3 g3 e3 => ?_⟩
    have hs3 : ScAt K H3 d3 ((x, k) :: (g, .fn k l) :: Γ) (m + 1 + 1) := ScAt.put (sc := d) s3 s2 g3 e3 (hv2.mono g12.same)
    have g13 := g12.trans g3
    refine ⟨_, rfl, v4, d3, pr, p2, (x, k) :: (g, .fn k l) :: Γ, l, m + 1 + 1, c, rfl, hv4.mono g13.same, by show p2.deep < n; omega, h2, hs3, by omega, hpr.mono g13, by omega, fun u H4 g4 hpr4 hu => ?_⟩
    dsimp only [gName, List.set]
    have kt : KeepT K H3 H4 := (hpr.mono g13).tups g4
    have kt0 : KeepT K H H4 := fun b xs hb => kt _ _ (SqT.mono g13.same hb)
    have hlz : l.sz ≤ 40 := by simp only [Kd.sz] at hb; omega
    refine ⟨_, rfl, _, rfl, a, _, _, v3, rfl, rfl, kt0 _ _ ha, atI_nat (j := 4) rfl, l.dt, l.dt, hu, hv3.monoT kt0, room_dep hr (Nat.le_trans (dep_kd l hlz) (by decide)), ?_⟩
    rw [eqD_refl]
    refine ⟨rfl, ?_⟩
    exact ⟨_, rfl, q _ _ (g13.b.trans g4) (hpr4.le (by omega)) ((hk1.mono (g2.trans g3).same).monoT kt)⟩
end
end K13
set_option maxRecDepth 100000
set_option linter.all false
set_option Elab.async false
set_option maxHeartbeats 4000000
namespace K13
open PySem L2 PyProof Dt
def Pt.plain : Pt → Bool
  | .num _ => true | .tru _ => true | .one _ _ => true | .two _ _ _ => true | .ite _ _ _ => true
  | _ => false
def Pt.wd : Pt → Str
  | .num _ => "num" | .tru _ => "truth" | .nam _ => "name" | .nil _ => "nil"
  | .one u _ => u.str | .two u _ _ => u.str | .ite _ _ _ => "if" | .let_ _ _ _ => "let" | .fn _ _ _ => "fn" | .rc _ _ _ _ _ => "rec"
def Pt.parts : Pt → List Pt
  | .one _ p => [p] | .two _ p q => [p, q] | .ite p q r => [p, q, r]
  | .let_ _ p q => [p, q] | .fn _ _ p => [p] | .rc _ _ _ _ p => [p]
  | _ => []
def KR : List (Str × (List Kd → Kd → Prop)) := [("cons", rCons), ("head", rHead), ("tail", rTail), ("empty", rEmpty), ("first", rFirst), ("second", rSecond), ("if", rIf), ("call", rCall)]
def FX : List (Str × List Kd × Kd) := [("num", [], .int), ("truth", [], .bool), ("plus", [.int, .int], .int), ("minus", [.int, .int], .int), ("times", [.int, .int], .int), ("over", [.int, .int], .int), ("rest", [.int, .int], .int), ("less", [.int, .int], .bool), ("same", [.int, .int], .bool), ("and", [.bool, .bool], .bool), ("or", [.bool, .bool], .bool), ("not", [.bool], .bool)]
def kv : Kd → V
  | .int => .str "int"
  | _ => .str "bool"
inductive HasL (Γ : Cxt) : List Pt → List Kd → Prop
  | nil : HasL Γ [] []
  | cons {p k ps ks} : Pt.Has Γ p k → HasL Γ ps ks → HasL Γ (p :: ps) (k :: ks)
theorem HasL.length {Γ : Cxt} {ps : List Pt} {ks : List Kd} (h : HasL Γ ps ks) : ps.length = ks.length := by
  induction h with
  | nil => rfl
  | cons _ _ ih => simp [ih]
theorem HasL.get {Γ : Cxt} {ps : List Pt} {ks : List Kd} (h : HasL Γ ps ks) : ∀ {i : Nat} {p : Pt}, ps[i]? = some p → ∃ k, ks[i]? = some k ∧ Pt.Has Γ p k := by
  induction h with
  | nil => intro i p e; simp at e
  | cons h _ ih =>
    intro i p e
    cases i with
    | zero => simp at e; subst e; exact ⟨_, rfl, h⟩
    | succ i => exact ih (by simpa using e)
theorem HasL.sz {Γ : Cxt} {ps : List Pt} {ks : List Kd} (h : HasL Γ ps ks) : ∀ k ∈ ks, k.sz ≤ 40 := by
  induction h with
  | nil => intro k h; cases h
  | cons h _ ih =>
    intro k hk
    rcases List.mem_cons.mp hk with rfl | hk
    · exact h.sz
    · exact ih k hk
def Ruled (wd : Str) (ks : List Kd) (κ : Kd) : Prop := (wd = "pair" ∧ ∃ k l, ks = [k, l] ∧ κ = .pair k l) ∨ (∃ R, (wd, R) ∈ KR ∧ R ks κ) ∨ (wd, ks, κ) ∈ FX
theorem has_plain {Γ : Cxt} {p : Pt} {κ : Kd} (h : Pt.Has Γ p κ) (hp : Pt.plain p = true) : ∃ ks, HasL Γ (Pt.parts p) ks ∧ Ruled (Pt.wd p) ks κ := by
  cases h with
  | num => exact ⟨[], .nil, .inr (.inr (by simp [FX, Pt.wd]))⟩
  | tru => exact ⟨[], .nil, .inr (.inr (by simp [FX, Pt.wd]))⟩
  | nam _ _ => simp [Pt.plain] at hp
  | nil _ => simp [Pt.plain] at hp
  | let_ _ _ => simp [Pt.plain] at hp
  | fn _ _ => simp [Pt.plain] at hp
  | rc _ _ => simp [Pt.plain] at hp
  | ite h1 h2 h3 => exact ⟨[_, _, _], .cons h1 (.cons h2 (.cons h3 .nil)), .inr (.inl ⟨rIf, by simp [KR, Pt.wd], rfl⟩)⟩
  | @one _ u p k _ h1 e _ =>
    refine ⟨[_], .cons h1 .nil, ?_⟩
    cases u <;> cases k <;> simp only [Pt.k1, reduceCtorEq, Option.some.injEq] at e <;> subst e
    · exact .inr (.inl ⟨rHead, by simp [KR, Pt.wd, U1.str], rfl⟩)
    · exact .inr (.inl ⟨rTail, by simp [KR, Pt.wd, U1.str], _, rfl, rfl⟩)
    · exact .inr (.inl ⟨rEmpty, by simp [KR, Pt.wd, U1.str], _, rfl, rfl⟩)
    · exact .inr (.inl ⟨rFirst, by simp [KR, Pt.wd, U1.str], _, rfl⟩)
    · exact .inr (.inl ⟨rSecond, by simp [KR, Pt.wd, U1.str], _, rfl⟩)
    · exact .inr (.inr (by simp [FX, Pt.wd, U1.str]))
  | @two _ u p q k l _ h1 h2 e _ =>
    refine ⟨[_, _], .cons h1 (.cons h2 .nil), ?_⟩
    cases u
    · cases l <;> simp only [Pt.k2, reduceCtorEq, Option.ite_none_right_eq_some, Option.some.injEq] at e
      obtain ⟨rfl, rfl⟩ := e
      exact .inr (.inl ⟨rCons, by simp [KR, Pt.wd, U2.str], _, rfl, rfl⟩)
    · simp only [Pt.k2, Option.some.injEq] at e
      subst e
      exact .inl ⟨rfl, _, _, rfl, rfl⟩
    · cases k <;> simp only [Pt.k2, reduceCtorEq, Option.ite_none_right_eq_some, Option.some.injEq] at e
      obtain ⟨rfl, rfl⟩ := e
      exact .inr (.inl ⟨rCall, by simp [KR, Pt.wd, U2.str], _, rfl⟩)
    all_goals
      cases k <;> cases l <;> simp only [Pt.k2, reduceCtorEq, Option.some.injEq] at e <;> subst e
      exact .inr (.inr (by simp [FX, Pt.wd, U2.str]))
theorem behind1 (u : V) : behind (["part"] : List Str) [u] "part" = [u] := by unfold behind; simp
theorem behind2 (u v : V) : behind (["part", "part"] : List Str) [u, v] "part" = [u, v] := by unfold behind; simp
theorem behind3 (u v x : V) : behind (["part", "part", "part"] : List Str) [u, v, x] "part" = [u, v, x] := by unfold behind; simp
theorem sl_u1 (u : U1) : slotsOf u.str = (["part"] : List Str) := by cases u <;> decide +kernel
theorem sl_u2 (u : U2) : slotsOf u.str = (["part", "part"] : List Str) := by cases u <;> decide +kernel
theorem sl_if : slotsOf "if" = (["part", "part", "part"] : List Str) := by decide +kernel
theorem sl_num : slotsOf "num" = [] := by decide +kernel
theorem sl_tru : slotsOf "truth" = [] := by decide +kernel
theorem key_yes {k : Str} : ∀ {ks : List Str} {vs : List V} {i : Nat}, ixOf k ks = some i → i < vs.length → PyProof.Rows.KTD.inKeys k (ks.zip vs) = true := fun {ks vs i} h hi => by
  have := dat_zip h (List.getElem?_eq_getElem hi)
  rw [← PyProof.Rows.KTD.isSome_datumAt, this]
  rfl
section
variable {P : Program} {w : World} {K : PySem.W.Frag} {mg : Str → Option Value} {base : Heap} {f : Addr} {fd : FuncData}
theorem at_plain {H : Hp} {p : Pt} {v : V} (hp : Pt.plain p = true) (h : DtAt K H p.dt v) : ∃ a xs, v = .ref a ∧ SqT K H a (.str (Pt.wd p) :: xs) ∧ xs.length ≤ 1000 ∧ DtsAt K H ((Pt.parts p).map Pt.dt) (behind (slotsOf (Pt.wd p)) xs "part") := by
  cases p with
  | num n => obtain ⟨a, u, rfl, hs, h1⟩ := at_w1 h; exact ⟨a, _, rfl, hs, by simp, by rw [show slotsOf (Pt.wd (.num n)) = [] from sl_num]; exact nil_ats⟩
  | tru b => obtain ⟨a, u, rfl, hs, h1⟩ := at_w1 h; exact ⟨a, _, rfl, hs, by simp, by rw [show slotsOf (Pt.wd (.tru b)) = [] from sl_tru]; exact nil_ats⟩
  | one o p => obtain ⟨a, u, rfl, hs, h1⟩ := at_w1 h; exact ⟨a, _, rfl, hs, by simp, by rw [show slotsOf (Pt.wd (.one o p)) = _ from sl_u1 o, behind1]; exact cons_ats h1 nil_ats⟩
  | two o p q => obtain ⟨a, u, x, rfl, hs, h1, h2⟩ := at_w2 h; exact ⟨a, _, rfl, hs, by simp, by rw [show slotsOf (Pt.wd (.two o p q)) = _ from sl_u2 o, behind2]; exact cons_ats h1 (cons_ats h2 nil_ats)⟩
  | ite p q r => obtain ⟨a, u, x, y, rfl, hs, h1, h2, h3⟩ := at_w3 h; exact ⟨a, _, rfl, hs, by simp, by rw [show slotsOf (Pt.wd (.ite p q r)) = _ from sl_if, behind3]; exact cons_ats h1 (cons_ats h2 (cons_ats h3 nil_ats))⟩
  | nam _ => simp [Pt.plain] at hp
  | nil _ => simp [Pt.plain] at hp
  | let_ _ _ _ => simp [Pt.plain] at hp
  | fn _ _ _ => simp [Pt.plain] at hp
  | rc _ _ _ _ _ => simp [Pt.plain] at hp
theorem plain_wd {p : Pt} (hp : Pt.plain p = true) : Pt.wd p ∈ (["num", "truth", "if", "head", "tail", "empty", "first", "second", "not", "cons", "pair", "call", "plus", "minus", "times", "over", "rest", "less", "same", "and", "or"] : List Str) := by
  cases p with
  | num n => simp [Pt.wd]
  | tru b => simp [Pt.wd]
  | one o p => cases o <;> simp [Pt.wd, U1.str]
  | two o p q => cases o <;> simp [Pt.wd, U2.str]
  | ite p q r => simp [Pt.wd]
  | nam _ => simp [Pt.plain] at hp
  | nil _ => simp [Pt.plain] at hp
  | let_ _ _ _ => simp [Pt.plain] at hp
  | fn _ _ _ => simp [Pt.plain] at hp
  | rc _ _ _ _ _ => simp [Pt.plain] at hp
def bkeys : List Str := ["let", "fn", "rec"]
theorem wd_name : ∀ x ∈ (["num", "truth", "if", "head", "tail", "empty", "first", "second", "not", "cons", "pair", "call", "plus", "minus", "times", "over", "rest", "less", "same", "and", "or"] : List Str), decide (V.str x = V.str "name") = false ∧ decide (V.str x = V.str "nil") = false ∧ ixOf x bkeys = none := by decide +kernel
theorem fx_pair : ∀ x ∈ FX.map (·.1), decide (V.str x = V.str "pair") = false := by decide +kernel
theorem kr_pair : ∀ x ∈ (["cons", "head", "tail", "empty", "first", "second", "if", "call"] : List Str), decide (V.str x = V.str "pair") = false := by decide +kernel
theorem kr_mem {wd : Str} {R : List Kd → Kd → Prop} (h : (wd, R) ∈ KR) : wd ∈ (["cons", "head", "tail", "empty", "first", "second", "if", "call"] : List Str) := by
  have : wd ∈ KR.map (·.1) := List.mem_map.mpr ⟨_, h, rfl⟩
  exact this
theorem fx_mem {wd : Str} {ks : List Kd} {κ : Kd} (h : (wd, ks, κ) ∈ FX) : wd ∈ FX.map (·.1) := List.mem_map.mpr ⟨_, h, rfl⟩
theorem fx_flat : ∀ x ∈ FX, ∀ k ∈ x.2.1 ++ [x.2.2], k = .int ∨ k = .bool := by decide +kernel
theorem kv_at {H : Hp} {k : Kd} (h : k = .int ∨ k = .bool) : DtAt K H k.dt (kv k) := by rcases h with rfl | rfl <;> exact str_at _
theorem kvs_at {H : Hp} : ∀ {ks : List Kd}, (∀ k ∈ ks, k = .int ∨ k = .bool) → DtsAt K H (ks.map Kd.dt) (ks.map kv)
  | [], _ => nil_ats
  | k :: ks, h => cons_ats (kv_at (h k List.mem_cons_self)) (kvs_at fun l hl => h l (List.mem_cons_of_mem _ hl))
def At (P : Program) (w : World) (K : PySem.W.Frag) (mg : Str → Option Value) (base : Heap) (k : Nat) (f : Addr) (ps : List Str) (sp : Sp) : Prop := ∃ fd, FnOk P w K mg base (CXE P w) k f fd ps sp ∧ PySem.W.keepIn K (.ref f) = true ∧ Binds K fd ps []
structure GlF (P : Program) (w : World) (K : PySem.W.Frag) (mg : Str → Option Value) (base : Heap) (fL fN fR : Addr) : Prop where
  list : mg "list" = none
  bind : ∃ a, mg "BINDING_RULES" = some (.ref a) ∧ TabS K a (bkeys.zip [.ref fL, .ref fN, .ref fR])
  rule : ∃ a D, mg "KIND_RULES" = some (.ref a) ∧ TabS K a D ∧ (∀ wd ks κ, (wd, ks, κ) ∈ FX → PyProof.Rows.KTD.inKeys wd D = false) ∧ ∀ wd R, (wd, R) ∈ KR → PyProof.Rows.KTD.inKeys wd D = true ∧ ∃ g, PyProof.Rows.KTD.datumAt wd D = some (.ref g) ∧ At P w K mg base 3 g ["kinds"] (spRl K R)
  fixd : ∃ a D, mg "FIXED_KINDS" = some (.ref a) ∧ TabS K a D ∧ ∀ wd ks κ, (wd, ks, κ) ∈ FX → ∃ tp, PyProof.Rows.KTD.datumAt wd D = some (.ref tp) ∧ ∀ H, SqT K H tp ((ks ++ [κ]).map kv)
def szs : List Pt → Nat
  | [] => 0
  | p :: ps => p.sz + szs ps
theorem szs_take : ∀ (ps : List Pt) (i : Nat) (p : Pt), ps[i]? = some p → szs (ps.take (i + 1)) = szs (ps.take i) + p.sz
  | [], i, p, h => by simp at h
  | q :: ps, 0, p, h => by simp at h; subst h; simp [szs]
  | q :: ps, i + 1, p, h => by
    have := szs_take ps i p (by simpa using h)
    simp only [List.take_succ_cons, szs]; omega
theorem szs_le : ∀ (ps : List Pt) (i : Nat), szs (ps.take i) ≤ szs ps
  | [], i => by simp [szs]
  | q :: ps, 0 => by simp [szs]
  | q :: ps, i + 1 => by have := szs_le ps i; simp only [List.take_succ_cons, szs]; omega
theorem szs_plain {p : Pt} (hp : Pt.plain p = true) : szs (Pt.parts p) + 1 = p.sz ∧ ∀ q ∈ Pt.parts p, q.deep < p.deep := by
  cases p with
  | num n => simp [Pt.parts, szs, Pt.sz]
  | tru b => simp [Pt.parts, szs, Pt.sz]
  | one o p => simp [Pt.parts, szs, Pt.sz, Pt.deep]
  | two o p q => simp [Pt.parts, szs, Pt.sz, Pt.deep]; omega
  | ite p q r => simp [Pt.parts, szs, Pt.sz, Pt.deep]; omega
  | nam _ => simp [Pt.plain] at hp
  | nil _ => simp [Pt.plain] at hp
  | let_ _ _ _ => simp [Pt.plain] at hp
  | fn _ _ _ => simp [Pt.plain] at hp
  | rc _ _ _ _ _ => simp [Pt.plain] at hp
end
end K13
set_option maxRecDepth 100000
set_option linter.all false
set_option Elab.async false
set_option maxHeartbeats 4000000
namespace K13
open PySem L2 PyProof Dt
section
variable {P : Program} {w : World} {K : PySem.W.Frag} {mg : Str → Option Value} {base : Heap} {f : Addr} {fd : FuncData}
theorem scFit : FnScope ["part", "scope", "pairs", "word", "kinds", "fixed", "told"] psF (defScope sFit) := ⟨rfl, rfl, rfl, by decide +kernel, rfl, by decide +kernel, by decide +kernel⟩
theorem ok_fit0 (F : FunD K "fitted" "fitted" sFit .none f fd) : FnOk P w K mg base (CXE P w) (2 * 0 + 2) f fd psF (spFit K 0) := by
  refine F.ok0 scFit (fun vs H Q E h => ?_) (fun cdv A outer s H vs Q E hr h => ?_)
  · obtain ⟨pv, sc, pr, p, Γ, κ, m, c, rfl, _⟩ := h
    rfl
  · obtain ⟨pv, sc, pr, p, Γ, κ, m, c, rfl, _, hd, _⟩ := h
    exact absurd hd (Nat.not_lt_zero _)
theorem ok_fit {n : Nat} {fL fN fR : Addr} (F : FunD K "fitted" "fitted" sFit .none f fd) (G : GlF P w K mg base fL fN fR) (GV : Kn P w K mg base 1 "values_behind" ["part", "sort"] (spVB K)) (GR : Kn P w K mg base 1 "require" ["holds"] spReq) (GU : Kn P w K mg base 1 "looked_up" ["scope", "name"] spLU) (GP : Kn P w K mg base 1 "pair_kind" ["kinds", "pairs"] (spPK K))
    (GL : At P w K mg base (2 * n + 3) fL psF (spFitP K (isLet n))) (GN : At P w K mg base (2 * n + 3) fN psF (spFitP K (isFnP n))) (GE : At P w K mg base (2 * n + 3) fR psF (spFitP K (isRec n))) (GF : Kn P w K mg base (2 * n + 2) "fitted" psF (spFit K n)) : FnOk P w K mg base (CXE P w) (2 * (n + 1) + 2) f fd psF (spFit K (n + 1)) := by
  refine F.ok0 (k := 2 * n + 3) scFit (fun vs H Q E h => ?_) (fun cdv A outer s H vs Q E hr h => ?_)
  · obtain ⟨pv, sc, pr, p, Γ, κ, m, c, rfl, _⟩ := h
    rfl
  · obtain ⟨v, sc, pr, p, Γ, κ, m, c, rfl, hp, hd, hh, hs, hm, hpr, hc, q⟩ := h
    have ndb : ((["inner"] : List Str) ++ (["scope", "pairs"] : List Str)).Nodup := by decide +kernel
    obtain ⟨t1, mB, T1⟩ := G.bind
    obtain ⟨t2, D2, mK, T2, nK, yK⟩ := G.rule
    obtain ⟨t3, D3, mF, T3, nF⟩ := G.fixd
    refine ⟨_, pss_cons (ps_set (i := 3) scFit.nd rfl (Or.inl rfl) (pe_ix ix_tup (pv 0) pe_int (fun _ _ => rfl)))
      (pss_cons (ps_if (pt_cmpR op_eq (pv 3) pe_str (nomark _)) (pss_one (ps_ret (pe_k GU (hr.mono (by omega)) (pa_cons (pv 1) (pa_cons (pe_ix ix_tup (pv 0) pe_int (fun _ _ => rfl)) pa_nil))))) pss_nil)
      (pss_cons (ps_if (pt_cmpR op_eq (pv 3) pe_str (nomark _)) (pss_one (ps_ret (pe_tup (pa_cons pe_str (pa_cons (pe_ix ix_tup (pv 0) pe_int (fun _ _ => rfl)) pa_nil))))) pss_nil)
      (pss_cons (ps_if (pt_cmpR op_inTab (pv 3) (pe_glob (v := .ref t1) (by rfl) mB rfl) rfl) (pss_one (ps_ret (pe_callV (CX := CXE P w) (pe_ix ix_tab (pe_glob (v := .ref t1) (by rfl) mB rfl) (pv 3) (fun _ _ => rfl)) (pa_cons (pv 0) (pa_cons (pv 1) (pa_cons (pv 2) pa_nil)))))) pss_nil)
      (pss_cons (ps_setLC0 (i := 4) scFit.nd rfl (Or.inl rfl) (cmpG2 (own := ["inner"]) (x := "scope") (y := "pairs") (i := 1) (j := 2) (by decide +kernel) (by rfl) (by decide +kernel) (by rfl) (by decide +kernel) (by rfl) (by rfl) (by decide +kernel) (by rfl) (by rfl) (.inl (by rfl)) (.inl (by rfl)) (by rfl) (by rfl) (by decide +kernel)) rfl
          (pi_list (pe_k GV (hr.mono (by omega)) (pa_cons (pv 0) (pa_cons pe_str pa_nil))))
          (fun C s H fp pins => pe_k GF (hr.mono (by omega)) (pa_cons (pv 0) (pa_cons (pv 1) (pa_cons (pv 2) pa_nil)))) (fun C s H fp pins => pg_name (i := 0) ndb rfl (Or.inl rfl) (Or.inr (by rfl))) (by rfl) (Or.inr (by rfl)))
      (pss_cons (ps_if (pt_cmpR op_eq (pv 3) pe_str (nomark _)) (pss_one (ps_ret (pe_k GP (hr.mono (by omega)) (pa_cons (pv 4) (pa_cons (pv 2) pa_nil))))) pss_nil)
      (pss_cons (ps_if (pt_cmpR op_inTab (pv 3) (pe_glob (v := .ref t2) (by rfl) mK rfl) rfl) (pss_one (ps_ret (pe_callV (CX := CXE P w) (pe_ix ix_tab (pe_glob (v := .ref t2) (by rfl) mK rfl) (pv 3) (fun _ _ => rfl)) (pa_cons (pv 4) pa_nil)))) pss_nil)
      (pss_cons (ps_set (i := 5) scFit.nd rfl (Or.inl rfl) (pe_callTy call_list_of (by rfl) G.list PyProof.Rows.boot_list (pa_cons (pe_ix ix_tab (pe_glob (v := .ref t3) (by rfl) mF rfl) (pv 3) (fun _ _ => rfl)) pa_nil)))
      (pss_cons (ps_set (i := 6) scFit.nd rfl (Or.inl rfl) (pe_bm0 PySem.F.plainAttrs_list PySem.F.slot_list_pop PySem.F.type_list_pop mt_pop (pv 5)))
      (pss_cons (ps_expr (pe_k GR (hr.mono (by omega)) (pa_cons (pe_cmpR op_eqL (pv 4) (pv 5) (nomark _)) pa_nil)))
      (pss_one (ps_ret (pv 6)))))))))))), ?_⟩
    by_cases hpl : Pt.plain p = true
    · obtain ⟨a, xs, rfl, ha, hxs, hbe⟩ := at_plain hpl hp
      obtain ⟨w1, w2, w3⟩ := wd_name _ (plain_wd hpl)
      obtain ⟨ks, hks, hru⟩ := has_plain hh hpl
      obtain ⟨hsz, hdp⟩ := szs_plain hpl
      refine ⟨_, rfl, a, _, _, .str (Pt.wd p), rfl, rfl, ha, atI_nat (j := 0) rfl, ?_⟩
      dsimp only [gName, List.set]
      refine ⟨_, rfl, rfl, _, rfl, ?_⟩
      rw [w1]
      refine iteF ⟨_, rfl, rfl, _, rfl, ?_⟩
      rw [w2]
      refine iteF ⟨_, rfl, _, _, _, rfl, rfl, T1, _, rfl, ?_⟩
      rw [key_no w3]
      refine iteF ⟨_, rfl, a, "part", Pt.wd p, xs, rfl, ha, hxs, fun l0 H1 g1 n1 e1 => ?_⟩
      refine ⟨l0, rfl, ⟨_, SqL.of e1⟩, fun D0 hD0 => ?_⟩
      have hbe1 := hbe.mono g1.same
      have hpr1 := hpr.mono g1
      have hs1 := hs.mono g1
      generalize behind (slotsOf (Pt.wd p)) xs "part" = zs at e1 hbe1
      have lpr : l0 ≠ pr := by
        obtain ⟨ps, _, x1, _⟩ := hpr
        exact fun z => by rw [z, x1] at n1; cases n1
      have dpr : D0 ≠ pr := by
        obtain ⟨ps, _, x1, _⟩ := hpr1
        exact fun z => by rw [z, x1] at hD0; cases hD0
      have dl : l0 ≠ D0 := fun z => by rw [z, hD0] at e1; cases e1
      have gD : Grow H1 (upd H1 D0 (.lst [])) := Grow.put hD0
      have hlen : zs.length = (Pt.parts p).length := by rw [hbe1.length, List.length_map]
      refine lc_listP (K := K) (a := l0) (xs := zs) (te := (tCall (spFit K n) [] E0 (tCons (tVar 0) (tCons (tVar 1) (tCons (tVar 2) tNil))))) (ix := [1, 2]) (σ := [some (.ref a), some (.ref sc), some (.ref pr), some (.str (Pt.wd p)), none, none, none])
        (fun i ys H2 => GrowB pr H1 H2 ∧ H2 D0 = some (.lst ys) ∧ H2 l0 = some (.lst zs) ∧ PrAt K H2 pr (c + szs ((Pt.parts p).take i)) ∧ DtsAt K H2 ((ks.take i).map Kd.dt) ys) ?_ ?_ ?_ ?_
      · exact ⟨gD.b, upd_same, gD.same _ _ e1, hpr1.mono gD, nil_ats⟩
      · rintro i ys H2 _ ⟨_, _, h, _⟩
        exact SqL.of h
      · rintro i x ys H2 hx ⟨gB, eD, el, hp2, hy⟩ Q' hq
        obtain ⟨pi, hpi⟩ : ∃ pi, (Pt.parts p)[i]? = some pi := by
          have : i < zs.length := by
            rcases Nat.lt_or_ge i zs.length with h | h
            · exact h
            · rw [List.getElem?_eq_none h] at hx; cases hx
          exact ⟨_, List.getElem?_eq_getElem (by omega)⟩
        obtain ⟨x', hx', hxd⟩ := hbe1.get (i := i) (d := pi.dt) (by rw [List.getElem?_map, hpi]; rfl)
        rw [hx] at hx'
        cases hx'
        obtain ⟨k, hk, hki⟩ := hks.get hpi
        have kt := hpr1.tups gB
        have hst := szs_take _ _ _ hpi
        have hsl := szs_le (Pt.parts p) (i + 1)
        have hdi := hdp pi (List.mem_of_getElem? hpi)
        refine ⟨_, rfl, _, rfl, _, rfl, x, sc, pr, pi, Γ, k, m, _, rfl, hxd.monoT kt, by show pi.deep < n; omega, hki, hs1.monoB hpr1 gB, by omega, hp2, by omega, fun u H3 g3 hp3 hu => ?_⟩
        have kt3 := hp2.tups g3
        have eD3 := g3.keep _ _ dpr eD
        refine hq u H3 eD3 ?_ ⟨?_, upd_same, (upd_ne dl).trans (g3.keep _ _ lpr el), ?_, ?_⟩
        · have := hy.length
          rw [List.length_map, List.length_take] at this
          have := hks.length
          rw [sizeLine_eq]
          have : i < (Pt.parts p).length := (List.getElem?_eq_some_iff.mp hpi).1
          have : (Pt.parts p).length ≤ 3 := by cases p <;> simp [Pt.parts]
          omega
        · have gg := gB.trans g3
          refine ⟨fun b o hb e => ?_, fun b e => ?_⟩
          · rw [upd_ne (ne_of_none e hD0)]
            exact gg.keep b o hb e
          · by_cases z : b = D0
            · subst z; exact hD0
            · rw [upd_ne z] at e; exact gg.none b e
        · have kd : KeepT K H3 (upd H3 D0 (.lst (ys ++ [u]))) := GrowB.tups ((GrowB.refl D0 H3).set eD3) eD3
          obtain ⟨ps, kl, x1, x2, x3, x4⟩ := hp3
          exact ⟨ps, kl, (upd_ne dpr.symm).trans x1, x2.monoT kd, x3, by rw [hst]; omega⟩
        · have kd : KeepT K H3 (upd H3 D0 (.lst (ys ++ [u]))) := GrowB.tups ((GrowB.refl D0 H3).set eD3) eD3
          rw [List.take_add_one, hk, List.map_append]
          exact ((hy.monoT kt3).monoT kd).append (cons_ats (hu.monoT kd) nil_ats)
      · rintro ys H2 ⟨gB, eD, el, hp2, hy⟩
        rw [hlen, hks.length, List.take_of_length_le (Nat.le_refl _)] at hy
        rw [hlen, List.take_of_length_le (Nat.le_refl _)] at hp2
        have g02 : GrowB pr H H2 := g1.b.trans gB
        dsimp only [gName, List.set]
        refine ⟨_, rfl, rfl, _, rfl, ?_⟩
        rcases hru with ⟨z1, k, l, rfl, rfl⟩ | ⟨R, hR, hRk⟩ | hfx
        · rw [decide_eq_true (by rw [z1] : V.str (Pt.wd p) = V.str "pair")]
          obtain ⟨u, r, rfl, hu, hy⟩ := ats_cons hy
          obtain ⟨u', r, rfl, hu', hy⟩ := ats_cons hy
          cases ats_nil hy
          refine iteT ⟨_, rfl, _, rfl, D0, pr, u, u', k, l, _, rfl, SqL.of eD, hu, hu', hh.sz, hp2, by omega, fun r H3 g3 hp3 hr3 => ?_⟩
          exact q r H3 (g02.trans g3) (hp3.le (by omega)) hr3
        · rw [kr_pair _ (kr_mem hR)]
          obtain ⟨y1, g, y2, fdg, y3, y4, y5⟩ := yK _ R hR
          refine iteF ⟨_, rfl, _, _, _, rfl, rfl, T2, _, rfl, ?_⟩
          rw [y1]
          refine iteT ⟨_, rfl, _, _, _, _, rfl, rfl, T2, y2, g, fdg, _, _, [], [], E0, 3, rfl, y3, hr.mono (by omega), y4, y5, .nil, passE0, _, rfl, D0, ys, ks, κ, rfl, SqL.of eD, hy, hks.sz, hRk, fun r H3 g3 hr3 => ?_⟩
          exact q r H3 (g02.trans g3.b) ((hp2.mono g3).le (by omega)) hr3
        · rw [fx_pair _ (fx_mem hfx)]
          obtain ⟨tp, eF, sF⟩ := nF _ _ _ hfx
          have fl := fx_flat _ hfx
          refine iteF ⟨_, rfl, _, _, _, rfl, rfl, T2, _, rfl, ?_⟩
          rw [nK _ _ _ hfx]
          refine iteF ⟨_, rfl, _, _, _, _, rfl, rfl, T3, eF, tp, _, rfl, .inr (sF H2), fun l3 hl3 => ?_⟩
          dsimp only [gName, List.set]
          have dl' : ((ks ++ [κ]).map kv).dropLast = ks.map kv := by rw [List.map_append]; exact List.dropLast_concat
          refine ⟨_, rfl, .inl ⟨rfl, _, SqL.of upd_same⟩, l3, _, kv κ, rfl, rfl, upd_same, by simp, ?_⟩
          rw [upd_upd, dl']
          have g3 : Grow H2 (upd H2 l3 (.lst (ks.map kv))) := Grow.put hl3
          have e3 : (upd H2 l3 (.lst (ks.map kv))) l3 = some (.lst (ks.map kv)) := upd_same
          generalize upd H2 l3 (.lst (ks.map kv)) = H3 at g3 e3 ⊢
          refine ⟨_, rfl, _, rfl, D0, l3, _, _, ks.map Kd.dt, ks.map Kd.dt, rfl, rfl, SqL.of (g3.same _ _ eD), SqL.of e3, hy.mono g3.same, kvs_at (fun k hk => fl k (List.mem_append_left _ hk)), units_lt hr (Nat.le_trans (deps_kd ks hks.sz) (by decide)), ?_⟩
          rw [eqDs_refl]
          refine ⟨rfl, ?_⟩
          exact ⟨_, rfl, q _ H3 (g02.trans g3.b) ((hp2.mono g3).le (by omega)) (kv_at (fl κ (List.mem_append_right _ (List.mem_singleton.mpr rfl))))⟩
    · cases p with
      | num _ => exact absurd rfl hpl
      | tru _ => exact absurd rfl hpl
      | one _ _ => exact absurd rfl hpl
      | two _ _ _ => exact absurd rfl hpl
      | ite _ _ _ => exact absurd rfl hpl
      | nam x =>
        obtain ⟨a, u, rfl, ha, hx⟩ := at_w1 hp
        cases at_str hx
        cases hh with
        | nam hl hb =>
        obtain ⟨kvs, s1, s2, s3⟩ := hs
        obtain ⟨r, r1, r2⟩ := s3 _ _ hl
        refine ⟨_, rfl, a, _, _, .str "name", rfl, rfl, ha, atI_nat (j := 0) rfl, ?_⟩
        dsimp only [gName, List.set]
        refine ⟨_, rfl, rfl, _, rfl, ite2 (fun _ => ?_) (fun h => absurd (by decide +kernel) h)⟩
        refine ⟨_, rfl, _, rfl, a, _, _, .str x, rfl, rfl, ha, atI_nat (j := 1) rfl, sc, x, r, kvs, rfl, s1, r1, ?_⟩
        exact q r H (GrowB.refl _ _) (hpr.le (by omega)) r2
      | nil k =>
        obtain ⟨a, u, rfl, ha, hx⟩ := at_w1 hp
        cases hh with
        | nil hb =>
        refine ⟨_, rfl, a, _, _, .str "nil", rfl, rfl, ha, atI_nat (j := 0) rfl, ?_⟩
        dsimp only [gName, List.set]
        refine ⟨_, rfl, rfl, _, rfl, ite2 (fun h => absurd h (by decide +kernel)) (fun _ => ?_)⟩
        refine ⟨_, rfl, rfl, _, rfl, ite2 (fun _ => ?_) (fun h => absurd (by decide +kernel) h)⟩
        refine ⟨_, rfl, a, _, _, u, rfl, rfl, ha, atI_nat (j := 1) rfl, (by show 2 ≤ sizeLine; decide), fun t ht => ?_⟩
        have g1 : Grow H (upd H t (.tup [.str "list", u])) := Grow.put ht
        exact q _ _ g1.b ((hpr.mono g1).le (by omega)) (w1_at (SqT.of upd_same) (hx.mono g1.same))
      | let_ x p1 p2 =>
        obtain ⟨fdg, y3, y4, y5⟩ := GL
        obtain ⟨a, v0, v1, v2, rfl, ha, hx, hv1, hv2⟩ := at_w3 hp
        refine ⟨_, rfl, a, _, _, .str "let", rfl, rfl, ha, atI_nat (j := 0) rfl, ?_⟩
        dsimp only [gName, List.set]
        refine ⟨_, rfl, rfl, _, rfl, ite2 (fun h => absurd h (by decide +kernel)) (fun _ => ?_)⟩
        refine ⟨_, rfl, rfl, _, rfl, ite2 (fun h => absurd h (by decide +kernel)) (fun _ => ?_)⟩
        refine ⟨_, rfl, _, _, _, rfl, rfl, T1, _, rfl, ?_⟩
        rw [key_yes (i := 0) (by decide +kernel) (by show 0 < 3; decide)]
        refine iteT ⟨_, rfl, _, _, _, _, rfl, rfl, T1, dat_zip (i := 0) (by decide +kernel) rfl, fL, fdg, _, _, [], [], E0, _, rfl, y3, hr, y4, y5, .nil, passE0, _, rfl, _, rfl, _, rfl, ?_⟩
        exact ⟨_, sc, pr, _, Γ, κ, m, c, rfl, hp, ⟨hd, x, p1, p2, rfl⟩, hh, hs, hm, hpr, hc, q⟩
      | fn x k p2 =>
        obtain ⟨fdg, y3, y4, y5⟩ := GN
        obtain ⟨a, v0, v1, v2, rfl, ha, hx, hv1, hv2⟩ := at_w3 hp
        refine ⟨_, rfl, a, _, _, .str "fn", rfl, rfl, ha, atI_nat (j := 0) rfl, ?_⟩
        dsimp only [gName, List.set]
        refine ⟨_, rfl, rfl, _, rfl, ite2 (fun h => absurd h (by decide +kernel)) (fun _ => ?_)⟩
        refine ⟨_, rfl, rfl, _, rfl, ite2 (fun h => absurd h (by decide +kernel)) (fun _ => ?_)⟩
        refine ⟨_, rfl, _, _, _, rfl, rfl, T1, _, rfl, ?_⟩
        rw [key_yes (i := 1) (by decide +kernel) (by show 1 < 3; decide)]
        refine iteT ⟨_, rfl, _, _, _, _, rfl, rfl, T1, dat_zip (i := 1) (by decide +kernel) rfl, fN, fdg, _, _, [], [], E0, _, rfl, y3, hr, y4, y5, .nil, passE0, _, rfl, _, rfl, _, rfl, ?_⟩
        exact ⟨_, sc, pr, _, Γ, κ, m, c, rfl, hp, ⟨hd, x, k, p2, rfl⟩, hh, hs, hm, hpr, hc, q⟩
      | rc g x k l p2 =>
        obtain ⟨fdg, y3, y4, y5⟩ := GE
        obtain ⟨a, v0, v1, v2, v3, v4, rfl, ha, _⟩ := at_w5 hp
        refine ⟨_, rfl, a, _, _, .str "rec", rfl, rfl, ha, atI_nat (j := 0) rfl, ?_⟩
        dsimp only [gName, List.set]
        refine ⟨_, rfl, rfl, _, rfl, ite2 (fun h => absurd h (by decide +kernel)) (fun _ => ?_)⟩
        refine ⟨_, rfl, rfl, _, rfl, ite2 (fun h => absurd h (by decide +kernel)) (fun _ => ?_)⟩
        refine ⟨_, rfl, _, _, _, rfl, rfl, T1, _, rfl, ?_⟩
        rw [key_yes (i := 2) (by decide +kernel) (by show 2 < 3; decide)]
        refine iteT ⟨_, rfl, _, _, _, _, rfl, rfl, T1, dat_zip (i := 2) (by decide +kernel) rfl, fR, fdg, _, _, [], [], E0, _, rfl, y3, hr, y4, y5, .nil, passE0, _, rfl, _, rfl, _, rfl, ?_⟩
        exact ⟨_, sc, pr, _, Γ, κ, m, c, rfl, hp, ⟨hd, g, x, k, l, p2, rfl⟩, hh, hs, hm, hpr, hc, q⟩
end
end K13
set_option maxRecDepth 100000
set_option linter.all false
set_option Elab.async false
set_option maxHeartbeats 4000000
namespace K13
open PySem L2 PyProof Dt
abbrev sON : Stmt := top 11
def Pt.names : Pt → List Str
  | .let_ x _ _ => [x] | .fn x _ _ => [x] | .rc f x _ _ _ => [f, x]
  | _ => []
def isNam : Pt → Bool
  | .nam _ => true
  | _ => false
theorem sl_let : slotsOf "let" = (["name", "part", "part"] : List Str) := by decide +kernel
theorem sl_fn : slotsOf "fn" = (["name", "kind", "part"] : List Str) := by decide +kernel
theorem sl_rec : slotsOf "rec" = (["name", "name", "kind", "kind", "part"] : List Str) := by decide +kernel
theorem sl_nil : slotsOf "nil" = (["kind"] : List Str) := by decide +kernel
theorem s_np : ¬ (("name" : Str) = "part") := by decide +kernel
theorem s_kp : ¬ (("kind" : Str) = "part") := by decide +kernel
theorem s_pn : ¬ (("part" : Str) = "name") := by decide +kernel
theorem s_kn : ¬ (("kind" : Str) = "name") := by decide +kernel
theorem fv_parts {p : Pt} (hp : isNam p = false) (x : Str) : p.fv x ↔ ∃ (i : Nat) (q : Pt), (Pt.parts p)[i]? = some q ∧ q.fv x ∧ (i + 1 < (Pt.parts p).length ∨ x ∉ Pt.names p) := by
  have c1 : ∀ (q : Pt), (∃ (i : Nat) (r : Pt), [q][i]? = some r ∧ r.fv x ∧ (i + 1 < [q].length ∨ x ∉ Pt.names p)) ↔ q.fv x ∧ x ∉ Pt.names p := fun q => by
    constructor
    · rintro ⟨i, r, h1, h2, h3⟩
      match i, h1 with
      | 0, h1 => cases h1; exact ⟨h2, h3.elim (fun z => absurd z (by simp)) id⟩
      | i + 1, h1 => simp at h1
    · rintro ⟨h1, h2⟩
      exact ⟨0, q, rfl, h1, .inr h2⟩
  cases p with
  | nam y => cases hp
  | num n => simp [Pt.fv, Pt.parts]
  | tru n => simp [Pt.fv, Pt.parts]
  | nil n => simp [Pt.fv, Pt.parts]
  | one u p => rw [show Pt.parts (.one u p) = [p] from rfl, c1]; simp [Pt.fv, Pt.names]
  | fn y k p => rw [show Pt.parts (.fn y k p) = [p] from rfl, c1]; simp [Pt.fv, Pt.names]
  | rc g y k l p => rw [show Pt.parts (.rc g y k l p) = [p] from rfl, c1]; simp [Pt.fv, Pt.names]
  | two u p q =>
    rw [show Pt.parts (.two u p q) = [p, q] from rfl]
    constructor
    · rintro (h | h)
      · exact ⟨0, p, rfl, h, .inl (by simp)⟩
      · exact ⟨1, q, rfl, h, .inr (by simp [Pt.names])⟩
    · rintro ⟨i, r, h1, h2, h3⟩
      match i, h1 with
      | 0, h1 => cases h1; exact .inl h2
      | 1, h1 => cases h1; exact .inr h2
      | i + 2, h1 => simp at h1
  | let_ y p q =>
    rw [show Pt.parts (.let_ y p q) = [p, q] from rfl]
    constructor
    · rintro (h | h)
      · exact ⟨0, p, rfl, h, .inl (by simp)⟩
      · exact ⟨1, q, rfl, h.1, .inr (by simp [Pt.names, h.2])⟩
    · rintro ⟨i, r, h1, h2, h3⟩
      match i, h1 with
      | 0, h1 => cases h1; exact .inl h2
      | 1, h1 => cases h1; exact .inr ⟨h2, by simpa [Pt.names] using h3⟩
      | i + 2, h1 => simp at h1
  | ite p q r =>
    rw [show Pt.parts (.ite p q r) = [p, q, r] from rfl]
    constructor
    · rintro (h | h | h)
      · exact ⟨0, p, rfl, h, .inl (by simp)⟩
      · exact ⟨1, q, rfl, h, .inl (by simp)⟩
      · exact ⟨2, r, rfl, h, .inr (by simp [Pt.names])⟩
    · rintro ⟨i, r', h1, h2, h3⟩
      match i, h1 with
      | 0, h1 => cases h1; exact .inl h2
      | 1, h1 => cases h1; exact .inr (.inl h2)
      | 2, h1 => cases h1; exact .inr (.inr h2)
      | i + 3, h1 => simp at h1
theorem szs_parts {p : Pt} (hp : isNam p = false) : szs (Pt.parts p) ≤ p.sz ∧ ∀ q ∈ Pt.parts p, q.deep < p.deep := by
  cases p with
  | num n => simp [Pt.parts, szs, Pt.sz]
  | tru b => simp [Pt.parts, szs, Pt.sz]
  | nil _ => simp [Pt.parts, szs, Pt.sz]
  | nam _ => cases hp
  | one o p => simp [Pt.parts, szs, Pt.sz, Pt.deep]
  | two o p q => simp [Pt.parts, szs, Pt.sz, Pt.deep]; omega
  | ite p q r => simp [Pt.parts, szs, Pt.sz, Pt.deep]; omega
  | let_ _ _ _ => simp [Pt.parts, szs, Pt.sz, Pt.deep]; omega
  | fn _ _ _ => simp [Pt.parts, szs, Pt.sz, Pt.deep]
  | rc _ _ _ _ _ => simp [Pt.parts, szs, Pt.sz, Pt.deep]
theorem wd_nam {p : Pt} (hp : isNam p = false) : decide (V.str (Pt.wd p) = V.str "name") = false := by
  by_cases hpl : Pt.plain p = true
  · exact (wd_name _ (plain_wd hpl)).1
  · have h4 : ∀ x ∈ (["nil", "let", "fn", "rec"] : List Str), decide (V.str x = V.str "name") = false := by decide +kernel
    refine h4 _ ?_
    cases p with
    | nam _ => cases hp
    | num _ => exact absurd rfl hpl
    | tru _ => exact absurd rfl hpl
    | one _ _ => exact absurd rfl hpl
    | two _ _ _ => exact absurd rfl hpl
    | ite _ _ _ => exact absurd rfl hpl
    | _ => simp [Pt.wd]
theorem inV_strs (x : Str) : ∀ ns : List Str, inV (.str x) (ns.map V.str) = decide (x ∈ ns)
  | [] => rfl
  | n :: ns => by
    have ih := inV_strs x ns
    unfold inV at ih ⊢
    rw [List.map_cons, List.any_cons, ih]
    by_cases h : x = n
    · subst h; simp [eqV]
    · simp [eqV, h]
      intro z; exact absurd z.symm h
theorem flat_strs (ns : List Str) : (ns.map V.str).all flatV = true := by
  rw [List.all_eq_true]; intro y hy
  obtain ⟨b, _, rfl⟩ := List.mem_map.mp hy
  rfl
section
variable {P : Program} {w : World} {K : PySem.W.Frag} {mg : Str → Option Value} {base : Heap} {f : Addr} {fd : FuncData}
theorem at_parts {H : Hp} {p : Pt} {v : V} (hp : isNam p = false) (h : DtAt K H p.dt v) : ∃ a xs, v = .ref a ∧ SqT K H a (.str (Pt.wd p) :: xs) ∧ xs.length ≤ 1000 ∧ DtsAt K H ((Pt.parts p).map Pt.dt) (behind (slotsOf (Pt.wd p)) xs "part") ∧ behind (slotsOf (Pt.wd p)) xs "name" = (Pt.names p).map V.str := by
  by_cases hpl : Pt.plain p = true
  · obtain ⟨a, xs, rfl, h1, h2, h3⟩ := at_plain hpl h
    refine ⟨a, xs, rfl, h1, h2, h3, ?_⟩
    cases p with
    | num n => rw [show slotsOf (Pt.wd (.num n)) = [] from sl_num]; rfl
    | tru n => rw [show slotsOf (Pt.wd (.tru n)) = [] from sl_tru]; rfl
    | one o p => rw [show slotsOf (Pt.wd (.one o p)) = _ from sl_u1 o]; unfold behind; cases xs <;> simp [s_pn, Pt.names]
    | two o p q =>
      rw [show slotsOf (Pt.wd (.two o p q)) = _ from sl_u2 o]; unfold behind
      match xs with
      | [] => simp [Pt.names]
      | [_] => simp [s_pn, Pt.names]
      | _ :: _ :: _ => simp [s_pn, Pt.names]
    | ite p q r =>
      rw [show slotsOf (Pt.wd (.ite p q r)) = _ from sl_if]; unfold behind
      match xs with
      | [] => simp [Pt.names]
      | [_] => simp [s_pn, Pt.names]
      | [_, _] => simp [s_pn, Pt.names]
      | _ :: _ :: _ :: _ => simp [s_pn, Pt.names]
    | nam _ => cases hp
    | nil _ => simp [Pt.plain] at hpl
    | let_ _ _ _ => simp [Pt.plain] at hpl
    | fn _ _ _ => simp [Pt.plain] at hpl
    | rc _ _ _ _ _ => simp [Pt.plain] at hpl
  · cases p with
    | num _ => exact absurd rfl hpl
    | tru _ => exact absurd rfl hpl
    | one _ _ => exact absurd rfl hpl
    | two _ _ _ => exact absurd rfl hpl
    | ite _ _ _ => exact absurd rfl hpl
    | nam _ => cases hp
    | nil k =>
      obtain ⟨a, u, rfl, hs, h1⟩ := at_w1 h
      refine ⟨a, _, rfl, hs, by simp, ?_, ?_⟩ <;> rw [show slotsOf (Pt.wd (.nil k)) = _ from sl_nil]
      · rw [show behind (["kind"] : List Str) [u] "part" = [] by unfold behind; simp [s_kp]]; exact nil_ats
      · unfold behind; simp [s_kn, Pt.names]
    | let_ x p q =>
      obtain ⟨a, u, y, z, rfl, hs, hx, h1, h2⟩ := at_w3 h
      cases at_str hx
      refine ⟨a, _, rfl, hs, by simp, ?_, ?_⟩ <;> rw [show slotsOf (Pt.wd (.let_ x p q)) = _ from sl_let]
      · rw [show behind (["name", "part", "part"] : List Str) [.str x, y, z] "part" = [y, z] by unfold behind; simp [s_np]]; exact cons_ats h1 (cons_ats h2 nil_ats)
      · unfold behind; simp [s_pn, Pt.names]
    | fn x k p =>
      obtain ⟨a, u, y, z, rfl, hs, hx, h1, h2⟩ := at_w3 h
      cases at_str hx
      refine ⟨a, _, rfl, hs, by simp, ?_, ?_⟩ <;> rw [show slotsOf (Pt.wd (.fn x k p)) = _ from sl_fn]
      · rw [show behind (["name", "kind", "part"] : List Str) [.str x, y, z] "part" = [z] by unfold behind; simp [s_np, s_kp]]; exact cons_ats h2 nil_ats
      · unfold behind; simp [s_pn, s_kn, Pt.names]
    | rc g x k l p =>
      obtain ⟨a, u, y, z, z2, z3, rfl, hs, hg, hx, h1, h2, h3⟩ := at_w5 h
      cases at_str hx
      cases at_str hg
      refine ⟨a, _, rfl, hs, by simp, ?_, ?_⟩ <;> rw [show slotsOf (Pt.wd (.rc g x k l p)) = _ from sl_rec]
      · rw [show behind (["name", "name", "kind", "kind", "part"] : List Str) [.str g, .str x, z, z2, z3] "part" = [z3] by unfold behind; simp [s_np, s_kp]]; exact cons_ats h3 nil_ats
      · unfold behind; simp [s_pn, s_kn, Pt.names]
end
end K13
set_option maxRecDepth 100000
set_option linter.all false
set_option Elab.async false
set_option maxHeartbeats 4000000
namespace K13
open PySem L2 PyProof Dt
theorem keys_strs : ∀ {kvs : List (Key × V)}, (∀ kv ∈ kvs, ∃ x, kv.1 = Sum.inr x) → ∃ ks : List Str, kvs.map (fun p => kV p.1) = ks.map V.str ∧ ks.length = kvs.length ∧ ∀ x, x ∈ ks ↔ (valV kvs (Sum.inr x : Key)).isSome = true
  | [], _ => ⟨[], rfl, rfl, fun x => by simp [valV_nil]⟩
  | kv :: r, h => by
    obtain ⟨ks, e1, e2, e3⟩ := keys_strs (kvs := r) fun z hz => h z (List.mem_cons_of_mem _ hz)
    obtain ⟨y, hy⟩ := h kv List.mem_cons_self
    refine ⟨y :: ks, ?_, by simp [e2], fun x => ?_⟩
    · rw [List.map_cons, List.map_cons, e1, hy]; rfl
    · by_cases z : x = y
      · subst z
        rw [valV_pos hy]; simp
      · rw [valV_neg (by rw [hy]; exact fun q => z (Sum.inr.inj q).symm), ← e3 x]
        simp [z]
theorem put_strs {kvs : List (Key × V)} {x : Str} {u : V} (h : ∀ kv ∈ kvs, ∃ x, kv.1 = Sum.inr x) : ∀ kv ∈ putK kvs (Sum.inr x : Key) u, ∃ x, kv.1 = Sum.inr x := by
  intro kv hkv
  unfold putK at hkv
  split at hkv
  · obtain ⟨p, hp, rfl⟩ := List.mem_map.mp hkv
    split
    · exact h p hp
    · exact h p hp
  · rcases List.mem_append.mp hkv with z | z
    · exact h kv z
    · rw [List.mem_singleton.mp z]; exact ⟨x, rfl⟩
def Fnd (p : Pt) (i : Nat) (x : Str) : Prop := ∃ (j : Nat) (q : Pt), j < i ∧ (Pt.parts p)[j]? = some q ∧ q.fv x ∧ (j + 1 < (Pt.parts p).length ∨ x ∉ Pt.names p)
section
variable {P : Program} {w : World} {K : PySem.W.Frag} {mg : Str → Option Value} {base : Heap} {f : Addr} {fd : FuncData}
def spON (K : PySem.W.Frag) (n : Nat) : Sp := fun vs H Q _ => ∃ (v : V) (p : Pt), vs = [v] ∧ DtAt K H p.dt v ∧ p.deep < n ∧ p.sz ≤ 50000 ∧ ∀ l (xs : List Str) H', Grow H H' → H l = none → H' l = some (.lst (xs.map V.str)) → xs.length ≤ p.sz → (∀ x, x ∈ xs ↔ p.fv x) → Q (.ref l) H'
structure GlO (mg : Str → Option Value) : Prop where
  enumerate : mg "enumerate" = none
  len : mg "len" = none
  list : mg "list" = none
theorem scON : FnScope ["part", "found", "bound", "parts", "place", "inner", "name"] ["part"] (defScope sON) := ⟨rfl, rfl, rfl, by decide +kernel, rfl, by decide +kernel, by decide +kernel⟩
theorem ok_on0 (F : FunD K "outside_names" "outside_names" sON .none f fd) : FnOk P w K mg base (CXE P w) (0 + 2) f fd ["part"] (spON K 0) := by
  refine F.ok0 scON (fun vs H Q E h => ?_) (fun cdv A outer s H vs Q E hr h => ?_)
  · obtain ⟨v, p, rfl, _⟩ := h
    rfl
  · obtain ⟨v, p, rfl, _, hd, _⟩ := h
    exact absurd hd (Nat.not_lt_zero _)
theorem ok_on {n : Nat} (F : FunD K "outside_names" "outside_names" sON .none f fd) (G : GlO mg) (GV : Kn P w K mg base 1 "values_behind" ["part", "sort"] (spVB K)) (GB : Kn P w K mg base 2 "names_bound" ["part"] (spNB K)) (GO : Kn P w K mg base (n + 2) "outside_names" ["part"] (spON K n)) : FnOk P w K mg base (CXE P w) (n + 1 + 2) f fd ["part"] (spON K (n + 1)) := by
  refine F.ok0 (k := n + 2) scON (fun vs H Q E h => ?_) (fun cdv A outer s H vs Q E hr h => ?_)
  · obtain ⟨v, p, rfl, _⟩ := h
    rfl
  · obtain ⟨v, p, rfl, hp, hd, hz, q⟩ := h
    refine ⟨_, pss_cons (ps_if (pt_cmpR op_eq (pe_ix ix_tup (pv 0) pe_int (fun _ _ => rfl)) pe_str (nomark _)) (pss_one (ps_ret (pe_lst (pa_cons (pe_ix ix_tup (pv 0) pe_int (fun _ _ => rfl)) pa_nil)))) pss_nil)
      (pss_cons (ps_set (i := 1) scON.nd rfl (Or.inl rfl) pe_dnewK)
      (pss_cons (ps_set (i := 2) scON.nd rfl (Or.inl rfl) (pe_k GB (hr.mono (by omega)) (pa_cons (pv 0) pa_nil)))
      (pss_cons (ps_set (i := 3) scON.nd rfl (Or.inl rfl) (pe_k GV (hr.mono (by omega)) (pa_cons (pv 0) (pa_cons pe_str pa_nil))))
      (pss_cons (ps_for PassesOwn.never rfl (pi_enum1 (by rfl) G.enumerate (pa_cons (pv 3) pa_nil)) (pg_tup rfl (pgs_cons (pg_name (i := 4) scON.nd rfl (Or.inl rfl)) (pgs_cons (pg_name (i := 5) scON.nd rfl (Or.inl rfl)) pgs_nil)))
        (pss_one (ps_for PassesOwn.never rfl (pi_list (pe_k GO hr (pa_cons (pv 5) pa_nil))) (pg_name (i := 6) scON.nd rfl (Or.inl rfl))
          (pss_one (ps_if (pw_or (pt_cmpR op_lt (pv 4) (pe_callB call_len_seq (by rfl) G.len PySem.boot_len (pa_cons (pv 3) pa_nil)) (nomark _)) (pw_or1 (pt_cmpR op_notIn_seq (pv 6) (pv 2) rfl))).pt
            (pss_one (ps_dput (Nat.lt_of_succ_lt hr.u2) (pv 1) (pv 6) pe_bl rfl)) pss_nil)))))
      (pss_one (ps_ret (pe_callTy (call_listD rfl) (by rfl) G.list PyProof.Rows.boot_list (pa_cons (pv 1) pa_nil)))))))), ?_⟩
    by_cases hna : isNam p = true
    · cases p with
      | nam x =>
        obtain ⟨a, u, rfl, ha, hx⟩ := at_w1 hp
        cases at_str hx
        refine ⟨_, rfl, a, _, _, .str "name", rfl, rfl, ha, atI_nat (j := 0) rfl, rfl, _, rfl, ite2 (fun _ => ?_) (fun h => absurd (by decide +kernel) h)⟩
        refine ⟨_, rfl, a, _, _, .str x, rfl, rfl, ha, atI_nat (j := 1) rfl, (by show 1 ≤ sizeLine; decide), fun l hl => ?_⟩
        exact q l [x] _ (Grow.put hl) hl upd_same (by simp [Pt.sz]) (fun y => by simp [Pt.fv])
      | _ => cases hna
    · have hna' : isNam p = false := by simpa using hna
      obtain ⟨a, ws, rfl, ha, hws, hbe, hbn⟩ := at_parts hna' hp
      have w1 := wd_nam hna'
      obtain ⟨hsz, hdp⟩ := szs_parts hna'
      refine ⟨_, rfl, a, _, _, .str (Pt.wd p), rfl, rfl, ha, atI_nat (j := 0) rfl, rfl, _, rfl, ?_⟩
      rw [w1]
      refine iteF ?_
      intro d hd1
      dsimp only [gName, List.set]
      have g1 : Grow H (upd H d (.dK [])) := Grow.put hd1
      have e1 : (upd H d (.dK [])) d = some (.dK []) := upd_same
      generalize upd H d (.dK []) = H1 at g1 e1 ⊢
      refine ⟨_, rfl, a, Pt.wd p, ws, rfl, SqT.mono g1.same ha, hws, fun b H2 g2 n2 e2 => ?_⟩
      rw [hbn] at e2
      dsimp only [gName, List.set]
      have g12 := g1.trans g2
      refine ⟨_, rfl, a, "part", Pt.wd p, ws, rfl, SqT.mono g12.same ha, hws, fun l0 H3 g3 n3 e3 => ?_⟩
      dsimp only [gName, List.set]
      have g13 := g12.trans g3
      have hbe3 := hbe.mono g13.same
      generalize behind (slotsOf (Pt.wd p)) ws "part" = zs at e3 hbe3
      have e2' := g3.same _ _ e2
      have e1' := (g2.trans g3).same _ _ e1
      have bd : b ≠ d := fun z => by rw [z, e1] at n2; cases n2
      have ld : l0 ≠ d := fun z => by rw [z, g2.same _ _ e1] at n3; cases n3
      have hlen : zs.length = (Pt.parts p).length := by rw [hbe3.length, List.length_map]
      refine ⟨_, rfl, l0, rfl, ⟨_, SqL.of e3⟩, ?_⟩
      refine for_enum1 (K := K) (l := l0) (xs := zs) (fun i σ H4 => ∃ o4 o5 o6 kvs, σ = [some (.ref a), some (.ref d), some (.ref b), some (.ref l0), o4, o5, o6] ∧ Grow H H4 ∧ H4 b = some (.lst ((Pt.names p).map V.str)) ∧ H4 l0 = some (.lst zs) ∧ DtsAt K H4 ((Pt.parts p).map Pt.dt) zs ∧ H4 d = some (.dK kvs) ∧ kvs.length ≤ szs ((Pt.parts p).take i) ∧
        (∀ kv ∈ kvs, ∃ x, kv.1 = Sum.inr x) ∧ ∀ x, (valV kvs (Sum.inr x : Key)).isSome = true ↔ Fnd p i x) ?_ ?_ ?_ ?_
      · refine ⟨_, _, _, [], rfl, g13, e2', e3, hbe3, e1', (by simp), (by simp), fun x => ?_⟩
        rw [valV_nil]
        constructor
        · intro h; cases h
        · rintro ⟨j, _, hj, _⟩; exact absurd hj (Nat.not_lt_zero _)
      · rintro i σ H4 _ ⟨o4, o5, o6, kvs, rfl, _, _, h, _⟩
        exact SqL.of h
      · rintro i y T σ H4 hy ⟨o4, o5, o6, kvs, rfl, g4, eb, el, hds, ed, hkl, hks, hkv⟩ hT
        obtain ⟨pi, hpi⟩ : ∃ pi, (Pt.parts p)[i]? = some pi := by
          have : i < zs.length := by
            rcases Nat.lt_or_ge i zs.length with h | h
            · exact h
            · rw [List.getElem?_eq_none h] at hy; cases hy
          exact ⟨_, List.getElem?_eq_getElem (by omega)⟩
        obtain ⟨y', hy', hyd⟩ := hds.get (i := i) (d := pi.dt) (by rw [List.getElem?_map, hpi]; rfl)
        rw [hy] at hy'
        cases hy'
        have hst := szs_take _ _ _ hpi
        have hsl := szs_le (Pt.parts p) (i + 1)
        have hdi := hdp pi (List.mem_of_getElem? hpi)
        have g5 : Grow H4 (upd H4 T (.tup [.int (i + 1 : Nat), y])) := Grow.put hT
        refine ⟨T, _, rfl, SqT.of upd_same, rfl, _, _, rfl, _, _, rfl, rfl, ?_⟩
        dsimp only [gName, List.set]
        have eb5 := g5.same _ _ eb
        have el5 := g5.same _ _ el
        have ed5 := g5.same _ _ ed
        have hds5 := hds.mono g5.same
        have hyd5 := hyd.mono g5.same
        generalize upd H4 T (.tup [.int (i + 1 : Nat), y]) = H5 at g5 eb5 el5 ed5 hds5 hyd5 ⊢
        refine ⟨_, rfl, y, pi, rfl, hyd5, by omega, by omega, fun m xs H6 g6 n6 e6 hxl hxs => ?_⟩
        have g06 := (g4.trans g5).trans g6
        have eb6 := g6.same _ _ eb5
        have el6 := g6.same _ _ el5
        have ed6 := g6.same _ _ ed5
        have md : m ≠ d := fun z => by rw [z, ed5] at n6; cases n6
        refine ⟨m, rfl, ⟨_, SqL.of e6⟩, ?_⟩
        refine for_list (K := K) (a := m) (xs := xs.map V.str) (fun k σ H7 => ∃ o6 kv2, σ = [some (.ref a), some (.ref d), some (.ref b), some (.ref l0), some (.int (i + 1 : Nat)), some y, o6] ∧ Grow H H7 ∧ H7 b = some (.lst ((Pt.names p).map V.str)) ∧ H7 l0 = some (.lst zs) ∧ DtsAt K H7 ((Pt.parts p).map Pt.dt) zs ∧ H7 m = some (.lst (xs.map V.str)) ∧ H7 d = some (.dK kv2) ∧ kv2.length ≤ kvs.length + k ∧
          (∀ kv ∈ kv2, ∃ x, kv.1 = Sum.inr x) ∧ ∀ x, (valV kv2 (Sum.inr x : Key)).isSome = true ↔ (Fnd p i x ∨ (x ∈ xs.take k ∧ (i + 1 < (Pt.parts p).length ∨ x ∉ Pt.names p)))) ?_ ?_ ?_ ?_
        · exact ⟨_, kvs, rfl, g06, eb6, el6, hds5.mono g6.same, e6, ed6, by omega, hks, fun x => by rw [hkv]; simp⟩
        · rintro k σ H7 _ ⟨o6, kv2, rfl, _, _, _, _, h, _⟩
          exact SqL.of h
        · rintro k z σ H7 hz' ⟨o6, kv2, rfl, g7, eb7, el7, hds7, em7, ed7, hkl7, hks7, hkv7⟩
          rw [List.getElem?_map] at hz'
          obtain ⟨x, hx, rfl⟩ := Option.map_eq_some_iff.mp hz'
          dsimp only [gName, List.set]
          have hk1 : k < xs.length := (List.getElem?_eq_some_iff.mp hx).1
          have tk : ∀ y, y ∈ xs.take (k + 1) ↔ y ∈ xs.take k ∨ y = x := fun y => by rw [List.take_add_one, hx]; simp
          have fin : ∀ (kv3 : List (Key × V)), ((i + 1 < (Pt.parts p).length ∨ x ∉ Pt.names p) → kv3 = putK kv2 (Sum.inr x : Key) (.bl true)) → (¬ (i + 1 < (Pt.parts p).length ∨ x ∉ Pt.names p) → kv3 = kv2) → kv3.length ≤ kvs.length + (k + 1) ∧ (∀ kv ∈ kv3, ∃ x, kv.1 = Sum.inr x) ∧ ∀ y, (valV kv3 (Sum.inr y : Key)).isSome = true ↔ (Fnd p i y ∨ (y ∈ xs.take (k + 1) ∧ (i + 1 < (Pt.parts p).length ∨ y ∉ Pt.names p))) := by
            intro kv3 h1 h2
            by_cases hc : i + 1 < (Pt.parts p).length ∨ x ∉ Pt.names p
            · rw [h1 hc]
              refine ⟨by have := length_putK kv2 (Sum.inr x : Key) (.bl true); omega, put_strs hks7, fun y => ?_⟩
              rw [valV_put, tk]
              by_cases z : y = x
              · subst z; simp [hc]
              · rw [if_neg (fun h => z (Sum.inr.inj h)), hkv7]; simp [z]
            · rw [h2 hc]
              refine ⟨by omega, hks7, fun y => ?_⟩
              rw [hkv7, tk]
              by_cases z : y = x
              · subst z; simp [hc]
              · simp [z]
          refine ⟨_, rfl, _, rfl, l0, zs, rfl, .inl (SqL.of el7), _, _, rfl, rfl, _, rfl, ?_⟩
          have put : ∀ (hc : i + 1 < (Pt.parts p).length ∨ x ∉ Pt.names p), sDPut (tVar 1) (tVar 6) (tC (.bl true)) { nx := fun σ H7 => ∃ o6 kv2, σ = [some (.ref a), some (.ref d), some (.ref b), some (.ref l0), some (.int (i + 1 : Nat)), some y, o6] ∧ Grow H H7 ∧ H7 b = some (.lst ((Pt.names p).map V.str)) ∧ H7 l0 = some (.lst zs) ∧ DtsAt K H7 ((Pt.parts p).map Pt.dt) zs ∧ H7 m = some (.lst (xs.map V.str)) ∧ H7 d = some (.dK kv2) ∧ kv2.length ≤ kvs.length + (k + 1) ∧
              (∀ kv ∈ kv2, ∃ x, kv.1 = Sum.inr x) ∧ ∀ x, (valV kv2 (Sum.inr x : Key)).isSome = true ↔ (Fnd p i x ∨ (x ∈ xs.take (k + 1) ∧ (i + 1 < (Pt.parts p).length ∨ x ∉ Pt.names p))), rt := Q } [some (.ref a), some (.ref d), some (.ref b), some (.ref l0), some (.int (i + 1 : Nat)), some y, some (.str x)] H7 := by
            intro hc
            obtain ⟨f1, f2, f3⟩ := fin _ (fun _ => rfl) (fun h => absurd hc h)
            refine ⟨_, rfl, _, rfl, d, _, rfl, DPut.k (k := Sum.inr x) ed7 (by rw [sizeLine_eq]; omega), ?_⟩
            have kt : KeepT K H7 (upd H7 d (.dK (putK kv2 (Sum.inr x : Key) (.bl true)))) := fun c us hc' => by
              rcases hc' with (hc' | ⟨o, hc'⟩) | hc'
              · exact .inl (.inl ((upd_ne (ne_of hc' ed7 (by intro z; cases z))).trans hc'))
              · exact .inl (.inr ⟨o, (upd_ne (ne_of hc' ed7 (by intro z; cases z))).trans hc'⟩)
              · exact .inr hc'
            exact ⟨_, _, rfl, g7.set hd1, (upd_ne bd).trans eb7, (upd_ne ld).trans el7, hds7.monoT kt, (upd_ne md).trans em7, upd_same, f1, f2, f3⟩
          by_cases hc1 : i + 1 < (Pt.parts p).length
          · rw [decide_eq_true (show ((i + 1 : Nat) : Int) < (zs.length : Int) by omega)]
            exact iteT (iteT (put (.inl hc1)))
          · rw [decide_eq_false (show ¬ ((i + 1 : Nat) : Int) < (zs.length : Int) by omega)]
            refine iteF ⟨_, rfl, _, rfl, b, _, rfl, .inl (SqL.of eb7), rfl, flat_strs _, _, rfl, ?_⟩
            rw [if_pos rfl, inV_strs]
            by_cases hc2 : x ∈ Pt.names p
            · rw [decide_eq_true hc2]
              obtain ⟨f1, f2, f3⟩ := fin kv2 (fun h => h.elim (fun z => absurd z hc1) (fun z => absurd hc2 z)) (fun _ => rfl)
              exact iteF ⟨_, kv2, rfl, g7, eb7, el7, hds7, em7, ed7, f1, f2, f3⟩
            · rw [decide_eq_false hc2]
              exact iteT (put (.inr hc2))
        · rintro σ H7 ⟨o6, kv2, rfl, g7, eb7, el7, hds7, em7, ed7, hkl7, hks7, hkv7⟩
          refine ⟨_, _, _, kv2, rfl, g7, eb7, el7, hds7, ed7, ?_, hks7, fun x => ?_⟩
          · rw [List.length_map] at hkl7; omega
          · rw [hkv7, List.length_map, List.take_of_length_le (Nat.le_refl _), hxs]
            constructor
            · rintro (⟨j, r, h1, h2, h3, h4⟩ | ⟨h1, h2⟩)
              · exact ⟨j, r, by omega, h2, h3, h4⟩
              · exact ⟨i, pi, by omega, hpi, h1, h2⟩
            · rintro ⟨j, r, h1, h2, h3, h4⟩
              by_cases hj : j < i
              · exact .inl ⟨j, r, hj, h2, h3, h4⟩
              · have : j = i := by omega
                subst this
                rw [hpi] at h2; cases h2
                exact .inr ⟨h3, h4⟩
      · rintro σ H4 ⟨o4, o5, o6, kvs, rfl, g4, eb, el, hds, ed, hkl, hks, hkv⟩
        obtain ⟨ks, k1, k2, k3⟩ := keys_strs hks
        refine ⟨_, rfl, d, kvs, rfl, ed, fun l hl => ?_⟩
        rw [k1]
        have gl : Grow H4 (upd H4 l (.lst (ks.map V.str))) := Grow.put hl
        refine q l ks _ (g4.trans gl) (g4.none _ hl) upd_same ?_ (fun x => ?_)
        · rw [hlen, List.take_of_length_le (Nat.le_refl _)] at hkl; omega
        · rw [k3, hkv, fv_parts hna', hlen]
          constructor
          · rintro ⟨j, r, h1, h2, h3, h4⟩; exact ⟨j, r, h2, h3, h4⟩
          · rintro ⟨j, r, h2, h3, h4⟩; exact ⟨j, r, (List.getElem?_eq_some_iff.mp h2).1, h2, h3, h4⟩
end
end K13
set_option maxRecDepth 100000
set_option linter.all false
set_option Elab.async false
set_option maxHeartbeats 4000000
namespace K13
open PySem L2 PyProof Dt
abbrev sComp : Stmt := top 33
abbrev sOpd : Stmt := top 34
abbrev sCallC : Stmt := top 35
abbrev sAsIf : Stmt := top 36
abbrev sIfC : Stmt := top 37
abbrev sLetC : Stmt := top 38
abbrev sFnC : Stmt := top 40
abbrev sVal : Stmt := top 41
abbrev sCode : Stmt := top 42
section
variable {P : Program} {w : World} {K : PySem.W.Frag} {mg : Str → Option Value} {base : Heap} {f : Addr} {fd : FuncData}
def SlAt (H : Hp) (sl : Addr) (p : Pt) : Prop := ∃ kvs, H sl = some (.dK kvs) ∧ kvs.length + 2 * p.deep ≤ 200000 ∧ ∀ x, p.fv x → (valV kvs (Sum.inr x : Key)).isSome = true
theorem SlAt.mono {H H' : Hp} {sl : Addr} {p : Pt} (h : SlAt H sl p) (g : Grow H H') : SlAt H' sl p := let ⟨kvs, a, b, c⟩ := h; ⟨kvs, g.same _ _ a, b, c⟩
theorem SlAt.sub {H : Hp} {sl : Addr} {p q : Pt} (h : SlAt H sl p) (d : q.deep ≤ p.deep) (f : ∀ x, q.fv x → p.fv x) : SlAt H sl q := let ⟨kvs, a, b, c⟩ := h; ⟨kvs, a, by omega, fun x hx => c x (f x hx)⟩
abbrev ps4 : List Str := ["part", "slots", "height", "last"]
def spC4 (K : PySem.W.Frag) (B : Pt → Prop) : Sp := fun vs H Q _ => ∃ (v : V) (sl : Addr) (h : Int) (b : Bool) (p : Pt), vs = [v, .ref sl, .int h, .bl b] ∧ DtAt K H p.dt v ∧ B p ∧ p.sz ≤ 50000 ∧ SlAt H sl p ∧ ∀ l ys H', Grow H H' → H l = none → H' l = some (.lst ys) → ys.length + 4 ≤ 6 * p.sz → Q (.ref l) H'
def spCode (K : PySem.W.Frag) (n : Nat) : Sp := spC4 K fun p => p.deep < n
def spOpd (K : PySem.W.Frag) (n : Nat) : Sp := fun vs H Q _ => ∃ (v : V) (sl : Addr) (h : Int) (p : Pt), vs = [v, .ref sl, .int h] ∧ DtAt K H p.dt v ∧ Pt.plain p = true ∧ p.deep < n + 1 ∧ p.sz ≤ 50000 ∧ SlAt H sl p ∧ ∀ l ys H', Grow H H' → H l = none → H' l = some (.lst ys) → ys.length ≤ 6 * szs (Pt.parts p) → Q (.ref l) H'
theorem plain_fv {p q : Pt} (hp : Pt.plain p = true) (hq : q ∈ Pt.parts p) : ∀ x, q.fv x → p.fv x := by
  intro x hx
  have hn : isNam p = false := by cases p <;> first | rfl | simp [Pt.plain] at hp
  obtain ⟨i, hi, e⟩ := List.getElem_of_mem hq
  refine (fv_parts hn x).mpr ⟨i, q, by rw [List.getElem?_eq_getElem hi, e], hx, .inr ?_⟩
  cases p <;> first | (simp [Pt.names]; done) | (simp [Pt.plain] at hp; done)
theorem scOpd : FnScope ["part", "slots", "height", "code", "count", "inner"] ["part", "slots", "height"] (defScope sOpd) := ⟨rfl, rfl, rfl, by decide +kernel, rfl, by decide +kernel, by decide +kernel⟩
theorem ok_opd {n : Nat} (F : FunD K "operands_code" "operands_code" sOpd .none f fd) (zE : mg "enumerate" = none) (GV : Kn P w K mg base 1 "values_behind" ["part", "sort"] (spVB K)) (GC : Kn P w K mg base (3 * n + 4) "code_of" ps4 (spCode K n)) : FnOk P w K mg base (CXE P w) (3 * n + 5) f fd ["part", "slots", "height"] (spOpd K n) := by
  refine F.ok0 scOpd (fun vs H Q E h => ?_) (fun cdv A outer s H vs Q E hr h => ?_)
  · obtain ⟨v, sl, h, p, rfl, _⟩ := h
    rfl
  · obtain ⟨v, sl, h0, p, rfl, hp, hpl, hd, hz, hs, q⟩ := h
    refine ⟨_, pss_cons (ps_set (i := 3) scOpd.nd rfl (Or.inl rfl) (pe_lst pa_nil))
      (pss_cons (ps_for PassesOwn.never rfl (pi_enum (by rfl) zE (pa_cons (pe_k GV (hr.mono (by omega)) (pa_cons (pv 0) (pa_cons pe_str pa_nil))) pa_nil))
        (pg_tup rfl (pgs_cons (pg_name (i := 4) scOpd.nd rfl (Or.inl rfl)) (pgs_cons (pg_name (i := 5) scOpd.nd rfl (Or.inl rfl)) pgs_nil)))
        (pss_one (ps_expr (pe_bm PySem.F.plainAttrs_list PySem.F.slot_list_extend PySem.F.type_list_extend mt_extend (pv 3) (pa_cons (pe_k GC hr (pa_cons (pv 5) (pa_cons (pv 1) (pa_cons (pe_op op_add (pv 2) (pv 4)) (pa_cons pe_bl pa_nil))))) pa_nil)))))
      (pss_one (ps_ret (pv 3)))), ?_⟩
    obtain ⟨a, ws, rfl, ha, hws, hbe⟩ := at_plain hpl hp
    obtain ⟨hsz, hdp⟩ := szs_plain hpl
    refine ⟨(by show 0 ≤ sizeLine; decide), fun l hl => ?_⟩
    dsimp only [gName, List.set]
    have g1 : Grow H (upd H l (.lst [])) := Grow.put hl
    have e1 : (upd H l (.lst [])) l = some (.lst []) := upd_same
    generalize upd H l (.lst []) = H1 at g1 e1 ⊢
    refine ⟨_, rfl, a, "part", Pt.wd p, ws, rfl, SqT.mono g1.same ha, hws, fun o H2 g2 n2 e2 => ?_⟩
    have g12 := g1.trans g2
    have hbe2 := hbe.mono g12.same
    generalize behind (slotsOf (Pt.wd p)) ws "part" = zs at e2 hbe2
    have lo : o ≠ l := fun z => by rw [z, e1] at n2; cases n2
    have hlen : zs.length = (Pt.parts p).length := by rw [hbe2.length, List.length_map]
    refine ⟨o, rfl, ⟨_, SqL.of e2⟩, ?_⟩
    refine for_enum (K := K) (l := o) (xs := zs) (fun i σ H3 => ∃ o4 o5 ys, σ = [some (.ref a), some (.ref sl), some (.int h0), some (.ref l), o4, o5] ∧ Grow H H3 ∧ H3 o = some (.lst zs) ∧ DtsAt K H3 ((Pt.parts p).map Pt.dt) zs ∧ H3 l = some (.lst ys) ∧ ys.length ≤ 6 * szs ((Pt.parts p).take i)) ?_ ?_ ?_ ?_
    · exact ⟨_, _, [], rfl, g12, e2, hbe2, g2.same _ _ e1, by simp⟩
    · rintro i σ H3 _ ⟨o4, o5, ys, rfl, _, h, _⟩
      exact SqL.of h
    · rintro i y T σ H3 hy ⟨o4, o5, ys, rfl, g3, eo, hds, el, hyl⟩ hT
      obtain ⟨pi, hpi⟩ : ∃ pi, (Pt.parts p)[i]? = some pi := by
        have : i < zs.length := by
          rcases Nat.lt_or_ge i zs.length with h | h
          · exact h
          · rw [List.getElem?_eq_none h] at hy; cases hy
        exact ⟨_, List.getElem?_eq_getElem (by omega)⟩
      obtain ⟨y', hy', hyd⟩ := hds.get (i := i) (d := pi.dt) (by rw [List.getElem?_map, hpi]; rfl)
      rw [hy] at hy'
      cases hy'
      have hst := szs_take _ _ _ hpi
      have hsl := szs_le (Pt.parts p) (i + 1)
      have hmem := List.mem_of_getElem? hpi
      have hdi := hdp pi hmem
      have g4 : Grow H3 (upd H3 T (.tup [.int i, y])) := Grow.put hT
      refine ⟨T, _, rfl, SqT.of upd_same, rfl, _, _, rfl, _, _, rfl, rfl, ?_⟩
      dsimp only [gName, List.set]
      have el4 := g4.same _ _ el
      have eo4 := g4.same _ _ eo
      have hds4 := hds.mono g4.same
      have hyd4 := hyd.mono g4.same
      generalize upd H3 T (.tup [.int i, y]) = H4 at g4 el4 eo4 hds4 hyd4 ⊢
      have g04 := g3.trans g4
      refine ⟨_, rfl, .inl ⟨rfl, _, SqL.of el4⟩, _, rfl, _, rfl, _, rfl, _, rfl, _, _, rfl, rfl, y, sl, _, false, pi, rfl, hyd4, by omega, by omega, (hs.mono g04).sub (by omega) (plain_fv hpl hmem), fun l' ys' H5 g5 n5 e5 hl5 => ?_⟩
      have el5 := g5.same _ _ el4
      refine ⟨l, l', ys, ys', rfl, rfl, el5, e5, by rw [sizeLine_eq]; omega, ?_⟩
      have kt : KeepT K H5 (upd H5 l (.lst (ys ++ ys'))) := GrowB.tups ((GrowB.refl l H5).set el5) el5
      refine ⟨_, _, ys ++ ys', rfl, (g04.trans g5).set hl, (upd_ne lo).trans (g5.same _ _ eo4), (hds4.mono g5.same).monoT kt, upd_same, ?_⟩
      rw [List.length_append]; omega
    · rintro σ H3 ⟨o4, o5, ys, rfl, g3, eo, hds, el, hyl⟩
      rw [hlen, List.take_of_length_le (Nat.le_refl _)] at hyl
      exact ⟨_, rfl, q l ys H3 g3 hl el hyl⟩
def isCallP (n : Nat) (p : Pt) : Prop := p.deep < n + 1 ∧ ∃ q r, p = .two .call q r
theorem scCallC : FnScope ["part", "slots", "height", "last", "order"] ps4 (defScope sCallC) := ⟨rfl, rfl, rfl, by decide +kernel, rfl, by decide +kernel, by decide +kernel⟩
theorem ok_callC {n : Nat} (F : FunD K "call_code" "call_code" sCallC .none f fd) (GO : Kn P w K mg base (3 * n + 5) "operands_code" ["part", "slots", "height"] (spOpd K n)) : FnOk P w K mg base (CXE P w) (3 * n + 6) f fd ps4 (spC4 K (isCallP n)) := by
  refine F.ok0 scCallC (fun vs H Q E h => ?_) (fun cdv A outer s H vs Q E hr h => ?_)
  · obtain ⟨v, sl, h, b, p, rfl, _⟩ := h
    rfl
  · obtain ⟨v, sl, h0, b, p, rfl, hp, ⟨hd, q1, q2, rfl⟩, hz, hs, q⟩ := h
    refine ⟨_, pss_cons (ps_set (i := 4) scCallC.nd rfl (Or.inl rfl) (pe_ifExp (pt_val (pv 3)) (pe_tup (pa_cons pe_str pa_nil)) (pe_tup (pa_cons pe_str pa_nil))))
      (pss_one (ps_ret (pe_op op_cat (pe_k GO hr (pa_cons (pv 0) (pa_cons (pv 1) (pa_cons (pv 2) pa_nil)))) (pe_lst (pa_cons (pv 4) pa_nil))))), ?_⟩
    have rest : ∀ (H1 : Hp) (c : V), Grow H H1 → tRet (tOp rCat (tCall (spOpd K n) [] E0 (tCons (tVar 0) (tCons (tVar 1) (tCons (tVar 2) tNil)))) (tLst (tCons (tVar 4) tNil))) { nx := fun _ H' => Q .non H', rt := Q } [some v, some (.ref sl), some (.int h0), some (.bl b), some c] H1 := by
      intro H1 c g1
      refine ⟨_, rfl, _, rfl, _, rfl, v, sl, h0, _, rfl, hp.mono g1.same, rfl, hd, hz, hs.mono g1, fun l ys H2 g2 n2 e2 hl2 => ?_⟩
      refine ⟨_, rfl, (by show 1 ≤ sizeLine; decide), fun l3 hl3 => ?_⟩
      have g3 : Grow H2 (upd H2 l3 (.lst [c])) := Grow.put hl3
      have e2' := g3.same _ _ e2
      have e3 : (upd H2 l3 (.lst [c])) l3 = some (.lst [c]) := upd_same
      generalize upd H2 l3 (.lst [c]) = H3 at g3 e2' e3 ⊢
      have g03 := (g1.trans g2).trans g3
      have hb : szs (Pt.parts (.two .call q1 q2)) + 1 = (Pt.two .call q1 q2).sz := (szs_plain (p := .two .call q1 q2) rfl).1
      refine ⟨l, l3, _, _, rfl, rfl, e2', e3, by rw [sizeLine_eq]; simp; omega, fun l4 hl4 => ?_⟩
      exact q l4 _ _ (g03.trans (Grow.put hl4)) (g03.none _ hl4) upd_same (by rw [List.length_append]; simp; omega)
    refine ⟨_, rfl, b, rfl, ?_⟩
    cases b with
    | true => exact iteT ⟨(by show 1 ≤ sizeLine; decide), fun c hc => rest _ _ (Grow.put hc)⟩
    | false => exact iteF ⟨(by show 1 ≤ sizeLine; decide), fun c hc => rest _ _ (Grow.put hc)⟩
def asIf : Pt → Pt
  | .two .and p q => .ite p q (.tru false)
  | .two .or p q => .ite p (.tru true) q
  | p => p
inductive IfP : Pt → Prop
  | ite {p q r} : IfP (.ite p q r)
  | and {p q} : IfP (.two .and p q)
  | or {p q} : IfP (.two .or p q)
theorem asIf_ite {p : Pt} (h : IfP p) : ∃ a b c, asIf p = .ite a b c ∧ a.deep < p.deep ∧ (b.deep < p.deep ∨ b.deep = 0) ∧ (c.deep < p.deep ∨ c.deep = 0) ∧ a.sz + b.sz + c.sz ≤ p.sz ∧ (∀ x, a.fv x → p.fv x) ∧ (∀ x, b.fv x → p.fv x) ∧ ∀ x, c.fv x → p.fv x := by
  cases h with
  | @ite p q r => exact ⟨p, q, r, rfl, by simp [Pt.deep]; omega, .inl (by simp [Pt.deep]; omega), .inl (by simp [Pt.deep]; omega), by simp only [Pt.sz]; omega, fun x h => .inl h, fun x h => .inr (.inl h), fun x h => .inr (.inr h)⟩
  | @and p q => exact ⟨p, q, .tru false, rfl, by simp [Pt.deep]; omega, .inl (by simp [Pt.deep]; omega), .inr rfl, by simp [Pt.sz], fun x h => .inl h, fun x h => .inr h, fun x h => h.elim⟩
  | @or p q => exact ⟨p, .tru true, q, rfl, by simp [Pt.deep]; omega, .inr rfl, .inl (by simp [Pt.deep]; omega), by simp [Pt.sz]; omega, fun x h => .inl h, fun x h => h.elim, fun x h => .inr h⟩
def spAI (K : PySem.W.Frag) : Sp := fun vs H Q _ => ∃ (v : V) (p : Pt), vs = [v] ∧ DtAt K H p.dt v ∧ IfP p ∧ ∀ v' H', Grow H H' → DtAt K H' (asIf p).dt v' → Q v' H'
theorem scAI : FnScope ["part"] ["part"] (defScope sAsIf) := ⟨rfl, rfl, rfl, by decide +kernel, rfl, by decide +kernel, by decide +kernel⟩
theorem ok_ai (F : FunD K "as_if" "as_if" sAsIf .none f fd) : FnOk P w K mg base (CXE P w) 1 f fd ["part"] (spAI K) := by
  refine F.ok0 scAI (fun vs H Q E h => ?_) (fun cdv A outer s H vs Q E hr h => ?_)
  · obtain ⟨v, p, rfl, _⟩ := h
    rfl
  · obtain ⟨v, p, rfl, hp, hi, q⟩ := h
    refine ⟨_, pss_cons (ps_if (pt_cmpR op_eq (pe_ix ix_tup (pv 0) pe_int (fun _ _ => rfl)) pe_str (nomark _)) (pss_one (ps_ret (pe_tup (pa_cons pe_str (pa_cons (pe_ix ix_tup (pv 0) pe_int (fun _ _ => rfl)) (pa_cons (pe_ix ix_tup (pv 0) pe_int (fun _ _ => rfl)) (pa_cons (pe_tup (pa_cons pe_str (pa_cons pe_bl pa_nil))) pa_nil))))))) pss_nil)
      (pss_cons (ps_if (pt_cmpR op_eq (pe_ix ix_tup (pv 0) pe_int (fun _ _ => rfl)) pe_str (nomark _)) (pss_one (ps_ret (pe_tup (pa_cons pe_str (pa_cons (pe_ix ix_tup (pv 0) pe_int (fun _ _ => rfl)) (pa_cons (pe_tup (pa_cons pe_str (pa_cons pe_bl pa_nil))) (pa_cons (pe_ix ix_tup (pv 0) pe_int (fun _ _ => rfl)) pa_nil))))))) pss_nil)
      (pss_one (ps_ret (pv 0)))), ?_⟩
    cases hi with
    | @ite p1 p2 p3 =>
      obtain ⟨a, x, y, z, rfl, ha, hx, hy, hz⟩ := at_w3 hp
      refine ⟨_, rfl, a, _, _, .str "if", rfl, rfl, ha, atI_nat (j := 0) rfl, rfl, _, rfl, ite2 (fun h => absurd h (by decide +kernel)) (fun _ => ?_)⟩
      refine ⟨_, rfl, a, _, _, .str "if", rfl, rfl, ha, atI_nat (j := 0) rfl, rfl, _, rfl, ite2 (fun h => absurd h (by decide +kernel)) (fun _ => ?_)⟩
      exact ⟨_, rfl, q _ H (Grow.refl H) hp⟩
    | @and p1 p2 =>
      obtain ⟨a, x, y, rfl, ha, hx, hy⟩ := at_w2 hp
      refine ⟨_, rfl, a, _, _, .str "and", rfl, rfl, ha, atI_nat (j := 0) rfl, rfl, _, rfl, ite2 (fun _ => ?_) (fun h => absurd (by decide +kernel) h)⟩
      refine ⟨_, rfl, a, _, _, x, rfl, rfl, ha, atI_nat (j := 1) rfl, _, rfl, a, _, _, y, rfl, rfl, ha, atI_nat (j := 2) rfl, (by show 2 ≤ sizeLine; decide), fun t ht => ?_⟩
      have g1 : Grow H (upd H t (.tup [.str "truth", .bl false])) := Grow.put ht
      have e1 : SqT K (upd H t (.tup [.str "truth", .bl false])) t [.str "truth", .bl false] := SqT.of upd_same
      generalize upd H t (.tup [.str "truth", .bl false]) = H1 at g1 e1 ⊢
      refine ⟨(by show 4 ≤ sizeLine; decide), fun t2 ht2 => ?_⟩
      have g2 : Grow H1 (upd H1 t2 (.tup [.str "if", x, y, .ref t])) := Grow.put ht2
      have g12 := g1.trans g2
      exact q _ _ g12 (w3_at (SqT.of upd_same) (hx.mono g12.same) (hy.mono g12.same) (w1_at (SqT.mono g2.same e1) (by rw [DtAt])))
    | @or p1 p2 =>
      obtain ⟨a, x, y, rfl, ha, hx, hy⟩ := at_w2 hp
      refine ⟨_, rfl, a, _, _, .str "or", rfl, rfl, ha, atI_nat (j := 0) rfl, rfl, _, rfl, ite2 (fun h => absurd h (by decide +kernel)) (fun _ => ?_)⟩
      refine ⟨_, rfl, a, _, _, .str "or", rfl, rfl, ha, atI_nat (j := 0) rfl, rfl, _, rfl, ite2 (fun _ => ?_) (fun h => absurd (by decide +kernel) h)⟩
      refine ⟨_, rfl, a, _, _, x, rfl, rfl, ha, atI_nat (j := 1) rfl, (by show 2 ≤ sizeLine; decide), fun t ht => ?_⟩
      have g1 : Grow H (upd H t (.tup [.str "truth", .bl true])) := Grow.put ht
      have e1 : SqT K (upd H t (.tup [.str "truth", .bl true])) t [.str "truth", .bl true] := SqT.of upd_same
      generalize upd H t (.tup [.str "truth", .bl true]) = H1 at g1 e1 ⊢
      refine ⟨_, rfl, a, _, _, y, rfl, rfl, SqT.mono g1.same ha, atI_nat (j := 2) rfl, (by show 4 ≤ sizeLine; decide), fun t2 ht2 => ?_⟩
      have g2 : Grow H1 (upd H1 t2 (.tup [.str "if", x, .ref t, y])) := Grow.put ht2
      have g12 := g1.trans g2
      exact q _ _ g12 (w3_at (SqT.of upd_same) (hx.mono g12.same) (w1_at (SqT.mono g2.same e1) (by rw [DtAt])) (hy.mono g12.same))
def isValP (p : Pt) : Prop := (∃ n, p = .num n) ∨ (∃ b, p = .tru b) ∨ (∃ x, p = .nam x) ∨ ∃ k, p = .nil k
def spVal (K : PySem.W.Frag) : Sp := fun vs H Q _ => ∃ (v : V) (sl : Addr) (p : Pt), vs = [v, .ref sl] ∧ DtAt K H p.dt v ∧ isValP p ∧ SlAt H sl p ∧ ∀ l u H', Grow H H' → H l = none → H' l = some (.lst [u]) → Q (.ref l) H'
theorem scVal : FnScope ["part", "slots", "word"] ["part", "slots"] (defScope sVal) := ⟨rfl, rfl, rfl, by decide +kernel, rfl, by decide +kernel, by decide +kernel⟩
theorem ok_val (F : FunD K "value_code" "value_code" sVal .none f fd) (GU : Kn P w K mg base 1 "looked_up" ["scope", "name"] spLU) : FnOk P w K mg base (CXE P w) 2 f fd ["part", "slots"] (spVal K) := by
  refine F.ok0 scVal (fun vs H Q E h => ?_) (fun cdv A outer s H vs Q E hr h => ?_)
  · obtain ⟨v, sl, p, rfl, _⟩ := h
    rfl
  · obtain ⟨v, sl, p, rfl, hp, hv, hs, q⟩ := h
    refine ⟨_, pss_cons (ps_set (i := 2) scVal.nd rfl (Or.inl rfl) (pe_ix ix_tup (pv 0) pe_int (fun _ _ => rfl)))
      (pss_cons (ps_if (pt_cmpR op_eq (pv 2) pe_str (nomark _)) (pss_one (ps_ret (pe_lst (pa_cons (pe_tup (pa_cons pe_str pa_nil)) pa_nil)))) pss_nil)
      (pss_cons (ps_if (pt_cmpR op_eq (pv 2) pe_str (nomark _)) (pss_one (ps_ret (pe_lst (pa_cons (pe_tup (pa_cons pe_str (pa_cons (pe_k GU hr (pa_cons (pv 1) (pa_cons (pe_ix ix_tup (pv 0) pe_int (fun _ _ => rfl)) pa_nil))) pa_nil))) pa_nil)))) pss_nil)
      (pss_one (ps_ret (pe_lst (pa_cons (pe_tup (pa_cons pe_str (pa_cons (pe_ix ix_tup (pv 0) pe_int (fun _ _ => rfl)) pa_nil))) pa_nil)))))), ?_⟩
    have fin : ∀ (H1 : Hp) (c : V), Grow H H1 → ∀ l, H1 l = none → Q (.ref l) (upd H1 l (.lst [c])) := fun H1 c g l hl => q l c _ (g.trans (Grow.put hl)) (g.none _ hl) upd_same
    have hv' : (∃ (wd : Str) (a : Addr) (u : V), v = .ref a ∧ SqT K H a [.str wd, u] ∧ ¬ V.str wd = V.str "nil" ∧ ¬ V.str wd = V.str "name") ∨ (∃ x, p = .nam x) ∨ ∃ k, p = .nil k := by
      rcases hv with ⟨n, rfl⟩ | ⟨b, rfl⟩ | h
      · obtain ⟨a, u, rfl, ha, hx⟩ := at_w1 hp
        exact .inl ⟨"num", a, u, rfl, ha, by decide +kernel, by decide +kernel⟩
      · obtain ⟨a, u, rfl, ha, hx⟩ := at_w1 hp
        exact .inl ⟨"truth", a, u, rfl, ha, by decide +kernel, by decide +kernel⟩
      · exact .inr h
    rcases hv' with ⟨wd, a, u, rfl, ha, h1, h2⟩ | ⟨x, rfl⟩ | ⟨k, rfl⟩
    · refine ⟨_, rfl, a, _, _, .str wd, rfl, rfl, ha, atI_nat (j := 0) rfl, ?_⟩
      dsimp only [gName, List.set]
      refine ⟨_, rfl, rfl, _, rfl, ite2 (fun h => absurd (of_decide_eq_true h) h1) (fun _ => ?_)⟩
      refine ⟨_, rfl, rfl, _, rfl, ite2 (fun h => absurd (of_decide_eq_true h) h2) (fun _ => ?_)⟩
      exact ⟨_, rfl, a, _, _, u, rfl, rfl, ha, atI_nat (j := 1) rfl, (by show 2 ≤ sizeLine; decide), fun c hc => ⟨(by show 1 ≤ sizeLine; decide), fin _ _ (Grow.put hc)⟩⟩
    · obtain ⟨a, u, rfl, ha, hx⟩ := at_w1 hp
      cases at_str hx
      obtain ⟨kvs, s1, s2, s3⟩ := hs
      obtain ⟨r, hr1⟩ := Option.isSome_iff_exists.mp (s3 x rfl)
      refine ⟨_, rfl, a, _, _, .str "name", rfl, rfl, ha, atI_nat (j := 0) rfl, ?_⟩
      dsimp only [gName, List.set]
      refine ⟨_, rfl, rfl, _, rfl, ite2 (fun h => absurd h (by decide +kernel)) (fun _ => ?_)⟩
      refine ⟨_, rfl, rfl, _, rfl, ite2 (fun _ => ?_) (fun h => absurd (by decide +kernel) h)⟩
      exact ⟨_, rfl, _, rfl, a, _, _, .str x, rfl, rfl, ha, atI_nat (j := 1) rfl, sl, x, r, kvs, rfl, s1, hr1, (by show 2 ≤ sizeLine; decide), fun c hc => ⟨(by show 1 ≤ sizeLine; decide), fin _ _ (Grow.put hc)⟩⟩
    · obtain ⟨a, u, rfl, ha, hx⟩ := at_w1 hp
      refine ⟨_, rfl, a, _, _, .str "nil", rfl, rfl, ha, atI_nat (j := 0) rfl, ?_⟩
      dsimp only [gName, List.set]
      refine ⟨_, rfl, rfl, _, rfl, ite2 (fun _ => ?_) (fun h => absurd (by decide +kernel) h)⟩
      exact ⟨(by show 1 ≤ sizeLine; decide), fun c hc => ⟨(by show 1 ≤ sizeLine; decide), fin _ _ (Grow.put hc)⟩⟩
end
end K13
set_option maxRecDepth 100000
set_option linter.all false
set_option Elab.async false
set_option maxHeartbeats 4000000
namespace K13
open PySem L2 PyProof Dt
section
variable {P : Program} {w : World} {K : PySem.W.Frag} {mg : Str → Option Value} {base : Heap} {f : Addr} {fd : FuncData}
def isIfP (n : Nat) (p : Pt) : Prop := p.deep < n + 1 ∧ 0 < n ∧ IfP p
theorem scIfC : FnScope ["part", "slots", "height", "last", "choice", "first", "second", "third"] ps4 (defScope sIfC) := ⟨rfl, rfl, rfl, by decide +kernel, rfl, by decide +kernel, by decide +kernel⟩
theorem ok_ifC {n : Nat} (F : FunD K "if_code" "if_code" sIfC .none f fd) (zL : mg "len" = none) (GA : Kn P w K mg base 1 "as_if" ["part"] (spAI K)) (GC : Kn P w K mg base (3 * n + 4) "code_of" ps4 (spCode K n)) : FnOk P w K mg base (CXE P w) (3 * n + 5) f fd ps4 (spC4 K (isIfP n)) := by
  refine F.ok0 scIfC (fun vs H Q E h => ?_) (fun cdv A outer s H vs Q E hr h => ?_)
  · obtain ⟨v, sl, h, b, p, rfl, _⟩ := h
    rfl
  · obtain ⟨v, sl, h0, b, p, rfl, hp, ⟨hd, hn, hi⟩, hz, hs, q⟩ := h
    refine ⟨_, pss_cons (ps_set (i := 4) scIfC.nd rfl (Or.inl rfl) (pe_k GA (hr.mono (by omega)) (pa_cons (pv 0) pa_nil)))
      (pss_cons (ps_set (i := 5) scIfC.nd rfl (Or.inl rfl) (pe_k GC hr (pa_cons (pe_ix ix_tup (pv 4) pe_int (fun _ _ => rfl)) (pa_cons (pv 1) (pa_cons (pv 2) (pa_cons pe_bl pa_nil))))))
      (pss_cons (ps_set (i := 6) scIfC.nd rfl (Or.inl rfl) (pe_k GC hr (pa_cons (pe_ix ix_tup (pv 4) pe_int (fun _ _ => rfl)) (pa_cons (pv 1) (pa_cons (pv 2) (pa_cons (pv 3) pa_nil))))))
      (pss_cons (ps_set (i := 7) scIfC.nd rfl (Or.inl rfl) (pe_k GC hr (pa_cons (pe_ix ix_tup (pv 4) pe_int (fun _ _ => rfl)) (pa_cons (pv 1) (pa_cons (pv 2) (pa_cons (pv 3) pa_nil))))))
      (pss_cons (ps_if (pt_not (pt_val (pv 3))) (pss_one (ps_expr (pe_bm PySem.F.plainAttrs_list PySem.F.slot_list_append PySem.F.type_list_append mt_append (pv 6) (pa_cons (pe_tup (pa_cons pe_str (pa_cons (pe_callB call_len_seq (by rfl) zL PySem.boot_len (pa_cons (pv 7) pa_nil)) pa_nil))) pa_nil)))) pss_nil)
      (pss_one (ps_ret (pe_op op_cat (pe_op op_cat (pe_op op_cat (pv 5) (pe_lst (pa_cons (pe_tup (pa_cons pe_str (pa_cons (pe_callB call_len_seq (by rfl) zL PySem.boot_len (pa_cons (pv 6) pa_nil)) pa_nil))) pa_nil))) (pv 6)) (pv 7)))))))), ?_⟩
    refine ⟨_, rfl, v, p, rfl, hp, hi, fun v' H1 g1 hv' => ?_⟩
    dsimp only [gName, List.set]
    obtain ⟨pa, pb, pc, ei, da, db, dc, hsum, fa, fb, fc⟩ := asIf_ite hi
    rw [ei] at hv'
    obtain ⟨a, x, y, z, rfl, ha, hx, hy, hz'⟩ := at_w3 hv'
    refine ⟨_, rfl, a, _, _, x, rfl, rfl, ha, atI_nat (j := 1) rfl, _, rfl, _, rfl, x, sl, h0, false, pa, rfl, hx, by omega, by omega, (hs.mono g1).sub (by omega) fa, fun l1 ys1 H2 g2 n2 e1 hl1 => ?_⟩
    dsimp only [gName, List.set]
    have g12 := g1.trans g2
    refine ⟨_, rfl, a, _, _, y, rfl, rfl, SqT.mono g2.same ha, atI_nat (j := 2) rfl, _, rfl, _, rfl, _, rfl, y, sl, h0, b, pb, rfl, hy.mono g2.same, by omega, by omega, (hs.mono g12).sub (by omega) fb, fun l2 ys2 H3 g3 n3 e2 hl2 => ?_⟩
    dsimp only [gName, List.set]
    have g13 := g12.trans g3
    have g23 := g2.trans g3
    refine ⟨_, rfl, a, _, _, z, rfl, rfl, SqT.mono g23.same ha, atI_nat (j := 3) rfl, _, rfl, _, rfl, _, rfl, z, sl, h0, b, pc, rfl, hz'.mono g23.same, by omega, by omega, (hs.mono g13).sub (by omega) fc, fun l3 ys3 H4 g4 n4 e3 hl3 => ?_⟩
    dsimp only [gName, List.set]
    have g14 := g13.trans g4
    have e1' := (g3.trans g4).same _ _ e1
    have e2' := g4.same _ _ e2
    have d12 : l1 ≠ l2 := fun z => by rw [← z, e1] at n3; cases n3
    have d32 : l3 ≠ l2 := fun z => by rw [z, e2] at n4; cases n4
    have f2 : H l2 = none := g12.none _ n3
    have rest : ∀ (H5 : Hp) (zs : List V), Grow H H5 → H5 l1 = some (.lst ys1) → H5 l2 = some (.lst zs) → H5 l3 = some (.lst ys3) → zs.length + 3 ≤ 6 * pb.sz →
        tRet (tOp rCat (tOp rCat (tOp rCat (tVar 5) (tLst (tCons (tTup (tCons (tC (.str "unless")) (tCons (tCB (fun xs H Q => ∃ p ys, xs = [V.ref p] ∧ (SqL K H p ys ∨ SqT K H p ys) ∧ Q (.int ys.length) H) (tCons (tVar 6) tNil)) tNil))) tNil))) (tVar 6)) (tVar 7)) { nx := fun _ H' => Q .non H', rt := Q } [some v, some (.ref sl), some (.int h0), some (.bl b), some (.ref a), some (.ref l1), some (.ref l2), some (.ref l3)] H5 := by
      intro H5 zs g5 x1 x2 x3 hl
      refine ⟨_, rfl, _, rfl, l2, zs, rfl, .inl (SqL.of x2), (by show 2 ≤ sizeLine; decide), fun t ht => ?_⟩
      have g6 : Grow H5 (upd H5 t (.tup [.str "unless", .int zs.length])) := Grow.put ht
      have x1 := g6.same _ _ x1
      have x2 := g6.same _ _ x2
      have x3 := g6.same _ _ x3
      generalize upd H5 t (.tup [.str "unless", .int zs.length]) = H6 at g6 x1 x2 x3 ⊢
      refine ⟨(by show 1 ≤ sizeLine; decide), fun l4 hl4 => ?_⟩
      have g7 : Grow H6 (upd H6 l4 (.lst [.ref t])) := Grow.put hl4
      have x4 : (upd H6 l4 (.lst [.ref t])) l4 = some (.lst [.ref t]) := upd_same
      have x1 := g7.same _ _ x1
      have x2 := g7.same _ _ x2
      have x3 := g7.same _ _ x3
      generalize upd H6 l4 (.lst [.ref t]) = H7 at g7 x1 x2 x3 x4 ⊢
      refine ⟨l1, l4, _, _, rfl, rfl, x1, x4, by rw [sizeLine_eq]; simp; omega, fun l5 hl5 => ?_⟩
      have g8 : Grow H7 (upd H7 l5 (.lst (ys1 ++ [.ref t]))) := Grow.put hl5
      have x5 : (upd H7 l5 (.lst (ys1 ++ [.ref t]))) l5 = some (.lst (ys1 ++ [.ref t])) := upd_same
      have x2 := g8.same _ _ x2
      have x3 := g8.same _ _ x3
      generalize upd H7 l5 (.lst (ys1 ++ [.ref t])) = H8 at g8 x2 x3 x5 ⊢
      refine ⟨_, rfl, l5, l2, _, _, rfl, rfl, x5, x2, by rw [sizeLine_eq]; simp; omega, fun l6 hl6 => ?_⟩
      have g9 : Grow H8 (upd H8 l6 (.lst (ys1 ++ [.ref t] ++ zs))) := Grow.put hl6
      have x6 : (upd H8 l6 (.lst (ys1 ++ [.ref t] ++ zs))) l6 = some (.lst (ys1 ++ [.ref t] ++ zs)) := upd_same
      have x3 := g9.same _ _ x3
      generalize upd H8 l6 (.lst (ys1 ++ [.ref t] ++ zs)) = H9 at g9 x3 x6 ⊢
      have g59 := (((g5.trans g6).trans g7).trans g8).trans g9
      refine ⟨_, rfl, l6, l3, _, _, rfl, rfl, x6, x3, by rw [sizeLine_eq]; simp; omega, fun l7 hl7 => ?_⟩
      exact q l7 _ _ (g59.trans (Grow.put hl7)) (g59.none _ hl7) upd_same (by simp; omega)
    refine ⟨_, rfl, b, rfl, ?_⟩
    cases b with
    | true => exact iteF (rest H4 ys2 g14 e1' e2' e3 (by omega))
    | false =>
      refine iteT ?_
      refine ⟨_, rfl, .inl ⟨rfl, _, SqL.of e2'⟩, _, rfl, l3, _, rfl, .inl (SqL.of e3), (by show 2 ≤ sizeLine; decide), fun t ht => ?_⟩
      have g5 : Grow H4 (upd H4 t (.tup [.str "skip", .int ys3.length])) := Grow.put ht
      have e1' := g5.same _ _ e1'
      have e2' := g5.same _ _ e2'
      have e3 := g5.same _ _ e3
      generalize upd H4 t (.tup [.str "skip", .int ys3.length]) = H5 at g5 e1' e2' e3 ⊢
      refine ⟨l2, ys2, _, rfl, rfl, e2', by rw [sizeLine_eq]; omega, ?_⟩
      exact rest _ (ys2 ++ [.ref t]) ((g14.trans g5).set f2) ((upd_ne d12).trans e1') upd_same ((upd_ne d32).trans e3) (by simp; omega)
def isLetP (n : Nat) (p : Pt) : Prop := p.deep < n + 1 ∧ ∃ x q r, p = .let_ x q r
theorem scLetC : FnScope ["part", "slots", "height", "last", "first", "second"] ps4 (defScope sLetC) := ⟨rfl, rfl, rfl, by decide +kernel, rfl, by decide +kernel, by decide +kernel⟩
theorem ok_letC {n : Nat} (F : FunD K "let_code" "let_code" sLetC .none f fd) (GN : Kn P w K mg base 1 "with_name" ["scope", "name", "bound"] spWN) (GC : Kn P w K mg base (3 * n + 4) "code_of" ps4 (spCode K n)) : FnOk P w K mg base (CXE P w) (3 * n + 5) f fd ps4 (spC4 K (isLetP n)) := by
  refine F.ok0 scLetC (fun vs H Q E h => ?_) (fun cdv A outer s H vs Q E hr h => ?_)
  · obtain ⟨v, sl, h, b, p, rfl, _⟩ := h
    rfl
  · obtain ⟨v, sl, h0, b, p, rfl, hp, ⟨hd, x, p1, p2, rfl⟩, hz, hs, q⟩ := h
    refine ⟨_, pss_cons (ps_set (i := 4) scLetC.nd rfl (Or.inl rfl) (pe_k GC hr (pa_cons (pe_ix ix_tup (pv 0) pe_int (fun _ _ => rfl)) (pa_cons (pv 1) (pa_cons (pv 2) (pa_cons pe_bl pa_nil))))))
      (pss_cons (ps_set (i := 5) scLetC.nd rfl (Or.inl rfl) (pe_k GC hr (pa_cons (pe_ix ix_tup (pv 0) pe_int (fun _ _ => rfl)) (pa_cons (pe_k GN (hr.mono (by omega)) (pa_cons (pv 1) (pa_cons (pe_ix ix_tup (pv 0) pe_int (fun _ _ => rfl)) (pa_cons (pv 2) pa_nil)))) (pa_cons (pe_op op_add (pv 2) pe_int) (pa_cons (pv 3) pa_nil))))))
      (pss_cons (ps_if (pt_not (pt_val (pv 3))) (pss_one (ps_expr (pe_bm PySem.F.plainAttrs_list PySem.F.slot_list_append PySem.F.type_list_append mt_append (pv 5) (pa_cons (pe_tup (pa_cons pe_str pa_nil)) pa_nil)))) pss_nil)
      (pss_one (ps_ret (pe_op op_cat (pv 4) (pv 5)))))), ?_⟩
    obtain ⟨a, v0, v1, v2, rfl, ha, hx, hv1, hv2⟩ := at_w3 hp
    cases at_str hx
    simp only [Pt.deep, Pt.sz] at hd hz q
    have hsd : SlAt H sl p1 := hs.sub (by simp only [Pt.deep]; omega) (fun y h => .inl h)
    refine ⟨_, rfl, a, _, _, v1, rfl, rfl, ha, atI_nat (j := 2) rfl, _, rfl, _, rfl, v1, sl, h0, false, p1, rfl, hv1, by omega, by omega, hsd, fun l1 ys1 H1 g1 n1 e1 hl1 => ?_⟩
    dsimp only [gName, List.set]
    obtain ⟨kvs, s1, s2, s3⟩ := hs
    simp only [Pt.deep] at s2
    have ha1 := SqT.mono g1.same ha
    refine ⟨_, rfl, a, _, _, v2, rfl, rfl, ha1, atI_nat (j := 3) rfl, _, rfl, _, rfl, a, _, _, .str x, rfl, rfl, ha1, atI_nat (j := 1) rfl, _, rfl, sl, x, .int h0, kvs, rfl, g1.same _ _ s1, by omega, fun d H2 g2 e2 => ?_⟩
    have g12 := g1.trans g2
    have hs2 : SlAt H2 d p2 := by
      refine ⟨_, e2, ?_, fun y hy => ?_⟩
      · have := length_putK kvs (Sum.inr x : Key) (.int h0); omega
      · rw [valV_put]
        by_cases z : y = x
        · subst z; rw [if_pos rfl]; rfl
        · rw [if_neg (fun h => z (Sum.inr.inj h))]; exact s3 y (.inr ⟨hy, z⟩)
    refine ⟨_, rfl, _, _, rfl, rfl, _, rfl, v2, d, h0 + 1, b, p2, rfl, hv2.mono g12.same, by omega, by omega, hs2, fun l2 ys2 H3 g3 n3 e3 hl2 => ?_⟩
    dsimp only [gName, List.set]
    have g13 := g12.trans g3
    have e1' := (g2.trans g3).same _ _ e1
    have d12 : l1 ≠ l2 := fun z => by rw [← z, g2.same _ _ e1] at n3; cases n3
    have f2 : H l2 = none := g12.none _ n3
    have rest : ∀ (H5 : Hp) (zs : List V), Grow H H5 → H5 l1 = some (.lst ys1) → H5 l2 = some (.lst zs) → zs.length + 3 ≤ 6 * p2.sz →
        tRet (tOp rCat (tVar 4) (tVar 5)) { nx := fun _ H' => Q .non H', rt := Q } [some (.ref a), some (.ref sl), some (.int h0), some (.bl b), some (.ref l1), some (.ref l2)] H5 := by
      intro H5 zs g5 x1 x2 hl
      refine ⟨_, rfl, _, rfl, l1, l2, _, _, rfl, rfl, x1, x2, by rw [sizeLine_eq]; omega, fun l7 hl7 => ?_⟩
      exact q l7 _ _ (g5.trans (Grow.put hl7)) (g5.none _ hl7) upd_same (by simp; omega)
    refine ⟨_, rfl, b, rfl, ?_⟩
    cases b with
    | true => exact iteF (rest H3 ys2 g13 e1' e3 (by omega))
    | false =>
      refine iteT ?_
      refine ⟨_, rfl, .inl ⟨rfl, _, SqL.of e3⟩, (by show 1 ≤ sizeLine; decide), fun t ht => ?_⟩
      have g5 : Grow H3 (upd H3 t (.tup [.str "slide"])) := Grow.put ht
      have e1' := g5.same _ _ e1'
      have e3 := g5.same _ _ e3
      generalize upd H3 t (.tup [.str "slide"]) = H5 at g5 e1' e3 ⊢
      refine ⟨l2, ys2, _, rfl, rfl, e3, by rw [sizeLine_eq]; omega, ?_⟩
      exact rest _ (ys2 ++ [.ref t]) ((g13.trans g5).set f2) ((upd_ne d12).trans e1') upd_same (by simp; omega)
theorem Pt.deep_sz : ∀ p : Pt, p.deep < p.sz
  | .num _ => by simp [Pt.deep, Pt.sz]
  | .tru _ => by simp [Pt.deep, Pt.sz]
  | .nam _ => by simp [Pt.deep, Pt.sz]
  | .nil _ => by simp [Pt.deep, Pt.sz]
  | .one _ p => by have := Pt.deep_sz p; simp only [Pt.deep, Pt.sz]; omega
  | .two _ p q => by have := Pt.deep_sz p; have := Pt.deep_sz q; simp only [Pt.deep, Pt.sz]; omega
  | .ite p q r => by have := Pt.deep_sz p; have := Pt.deep_sz q; have := Pt.deep_sz r; simp only [Pt.deep, Pt.sz]; omega
  | .let_ _ p q => by have := Pt.deep_sz p; have := Pt.deep_sz q; simp only [Pt.deep, Pt.sz]; omega
  | .fn _ _ p => by have := Pt.deep_sz p; simp only [Pt.deep, Pt.sz]; omega
  | .rc _ _ _ _ p => by have := Pt.deep_sz p; simp only [Pt.deep, Pt.sz]; omega
inductive FnP : Pt → Prop
  | fn {x k p} : FnP (.fn x k p)
  | rc {g x k l p} : FnP (.rc g x k l p)
def spFnC (K : PySem.W.Frag) (n : Nat) : Sp := fun vs H Q _ => ∃ (v : V) (sl : Addr) (p : Pt), vs = [v, .ref sl] ∧ DtAt K H p.dt v ∧ p.deep < n + 1 ∧ FnP p ∧ p.sz ≤ 50000 ∧ SlAt H sl p ∧ ∀ l ys H', Grow H H' → H l = none → H' l = some (.lst ys) → ys.length + 5 ≤ 6 * p.sz → Q (.ref l) H'
theorem scFnC : FnScope ["part", "slots", "kept", "bound", "inner", "slot", "name", "body", "word"] ["part", "slots"] (defScope sFnC) := ⟨rfl, rfl, rfl, by decide +kernel, rfl, by decide +kernel, by decide +kernel⟩
theorem fnp_at {H : Hp} {p : Pt} {v : V} (h : DtAt K H p.dt v) (hf : FnP p) : ∃ a ws q u, v = .ref a ∧ SqT K H a (ws ++ [u]) ∧ DtAt K H q.dt u ∧ Pt.parts p = [q] ∧ q.deep < p.deep ∧ q.sz + 1 = p.sz ∧ ∃ x r, Pt.names p = x :: r ∧ r.length ≤ 1 := by
  cases hf with
  | @fn x k q =>
    obtain ⟨a, v0, v1, v2, rfl, ha, _, _, h3⟩ := at_w3 h
    exact ⟨a, [.str "fn", v0, v1], q, v2, rfl, ha, h3, rfl, by simp [Pt.deep], by simp [Pt.sz], x, [], rfl, by simp⟩
  | @rc g x k l q =>
    obtain ⟨a, v0, v1, v2, v3, v4, rfl, ha, _, _, _, _, h3⟩ := at_w5 h
    exact ⟨a, [.str "rec", v0, v1, v2, v3], q, v4, rfl, ha, h3, rfl, by simp [Pt.deep], by simp [Pt.sz], g, [x], rfl, by simp⟩
theorem fnp_nam {p : Pt} (hf : FnP p) : isNam p = false := by cases hf <;> rfl
structure GlC (mg : Str → Option Value) : Prop where
  enumerate : mg "enumerate" = none
  len : mg "len" = none
  tuple : mg "tuple" = none
theorem ok_fnC {n : Nat} (F : FunD K "function_code" "function_code" sFnC .none f fd) (G : GlC mg) (GU : Kn P w K mg base 1 "looked_up" ["scope", "name"] spLU) (GB : Kn P w K mg base 2 "names_bound" ["part"] (spNB K)) (GO : Kn P w K mg base (n + 3) "outside_names" ["part"] (spON K (n + 1))) (GC : Kn P w K mg base (3 * n + 4) "code_of" ps4 (spCode K n)) : FnOk P w K mg base (CXE P w) (3 * n + 5) f fd ["part", "slots"] (spFnC K n) := by
  refine F.ok0 scFnC (fun vs H Q E h => ?_) (fun cdv A outer s H vs Q E hr h => ?_)
  · obtain ⟨v, sl, p, rfl, _⟩ := h
    rfl
  · obtain ⟨v, sl, p, rfl, hp, hd, hf, hz, hs, q⟩ := h
    have ndb : ((["name"] : List Str) ++ (["slots"] : List Str)).Nodup := by decide +kernel
    obtain ⟨a', ws', ea, ha', hws, _, hbn⟩ := at_parts (fnp_nam hf) hp
    obtain ⟨a, ws, pq, u, rfl, ha, hu, hpa, hdq, hzq, x0, r0, hnm, hr0⟩ := fnp_at hp hf
    have ea' : a' = a := by cases ea; rfl
    rw [ea'] at ha'
    have hds := Pt.deep_sz p
    obtain ⟨tl, pls, htl⟩ : ∃ t, PSs (cxOf (CXE P w) P w K mg base ["part", "slots", "kept", "bound", "inner", "slot", "name", "body", "word"] "function_code" (defScope sFnC) f cdv A outer s H E).nox ((defBody sFnC).drop 7) t ∧
        ∀ (H5 : Hp) (lk : Addr) (c3 c4 c5 c6 : Option V) (l5 : Addr) (wd : Str) (xs : List Str) (ys : List V), Grow H H5 → H5 lk = some (.lst (xs.map V.str)) → xs.length ≤ p.sz → (∀ x, x ∈ xs → p.fv x) → H5 l5 = some (.lst ys) → ys.length + 4 ≤ 6 * pq.sz →
          t { nx := fun _ H' => Q .non H', rt := Q } [some (.ref a), some (.ref sl), some (.ref lk), c3, c4, c5, c6, some (.ref l5), some (.str wd)] H5 := by
      refine ⟨_, pss_one (ps_ret (pe_op op_cat (pe_lst (pa_cons (pe_tup (pa_cons (pv 8) (pa_cons (pe_callTy call_tuple_of (by rfl) G.tuple PyProof.Rows.boot_tuple (pa_cons (pe_lc0 (cmpG1 (own := ["name"]) (y := "slots") (i := 1) (by rfl) (by decide +kernel) (by rfl) (by decide +kernel) (by rfl) (by decide +kernel) (by rfl) (.inl (by rfl)) (by rfl) (by decide +kernel)) rfl (pi_list (pv 2))
        (fun C s H fp pins => pe_k GU (hr.mono (by omega)) (pa_cons (pv 1) (pa_cons (pv 0) pa_nil))) (fun C s H fp pins => pg_name (i := 0) ndb rfl (Or.inl rfl) (Or.inr (by rfl)))) pa_nil)) (pa_cons (pe_callB call_len_seq (by rfl) G.len PySem.boot_len (pa_cons (pv 7) pa_nil)) pa_nil)))) pa_nil)) (pv 7))), ?_⟩
      intro H5 lk c3 c4 c5 c6 l5 wd xs ys g5 ek hxl hxf e5 hl5
      refine ⟨_, rfl, _, rfl, lk, rfl, ⟨_, SqL.of ek⟩, fun D0 hD0 => ?_⟩
      have gD : Grow H5 (upd H5 D0 (.lst [])) := Grow.put hD0
      obtain ⟨kvs, s1, s2, s3⟩ := hs
      refine lc_listP (K := K) (a := lk) (xs := xs.map V.str) (te := tCall spLU [] E0 (tCons (tVar 1) (tCons (tVar 0) tNil))) (ix := [1]) (σ := [some (.ref a), some (.ref sl), some (.ref lk), c3, c4, c5, c6, some (.ref l5), some (.str wd)])
        (fun i zs H6 => Grow H5 H6 ∧ H6 D0 = some (.lst zs) ∧ zs.length = i) ?_ ?_ ?_ ?_
      · exact ⟨gD, upd_same, rfl⟩
      · rintro i zs H6 _ ⟨g6, _⟩
        exact SqL.of (g6.same _ _ ek)
      · rintro i y zs H6 hy ⟨g6, eD, hzl⟩ Q' hq
        rw [List.getElem?_map] at hy
        obtain ⟨x, hx, rfl⟩ := Option.map_eq_some_iff.mp hy
        obtain ⟨r, hr1⟩ := Option.isSome_iff_exists.mp (s3 x (hxf x (List.mem_of_getElem? hx)))
        have hi : i < xs.length := (List.getElem?_eq_some_iff.mp hx).1
        exact ⟨_, rfl, _, rfl, sl, x, r, kvs, rfl, (g5.trans g6).same _ _ s1, hr1, hq r H6 eD (by rw [sizeLine_eq]; omega) ⟨g6.set hD0, upd_same, by simp [hzl]⟩⟩
      · rintro zs H6 ⟨g6, eD, hzl⟩
        refine ⟨D0, zs, rfl, .inl ⟨SqL.of eD, fun t0 ht0 => ?_⟩⟩
        have g7 : Grow H6 (upd H6 t0 (.tup zs)) := Grow.put ht0
        generalize upd H6 t0 (.tup zs) = H7 at g7 ⊢
        have g57 := g6.trans g7
        have e5' := g57.same _ _ e5
        refine ⟨_, rfl, l5, ys, rfl, .inl (SqL.of e5'), (by show 3 ≤ sizeLine; decide), fun t ht => ?_⟩
        have g8 : Grow H7 (upd H7 t (.tup [.str wd, .ref t0, .int ys.length])) := Grow.put ht
        have e5' := g8.same _ _ e5'
        generalize upd H7 t (.tup [.str wd, .ref t0, .int ys.length]) = H8 at g8 e5' ⊢
        refine ⟨(by show 1 ≤ sizeLine; decide), fun l6 hl6 => ?_⟩
        have g9 : Grow H8 (upd H8 l6 (.lst [.ref t])) := Grow.put hl6
        have e5' := g9.same _ _ e5'
        have e6 : (upd H8 l6 (.lst [.ref t])) l6 = some (.lst [.ref t]) := upd_same
        generalize upd H8 l6 (.lst [.ref t]) = H9 at g9 e5' e6 ⊢
        have g59 := ((g5.trans g57).trans g8).trans g9
        refine ⟨_, rfl, l6, l5, _, _, rfl, rfl, e6, e5', by rw [sizeLine_eq]; simp; omega, fun l7 hl7 => ?_⟩
        exact q l7 _ _ (g59.trans (Grow.put hl7)) (g59.none _ hl7) upd_same (by simp; omega)
    obtain ⟨tm, pms, htm⟩ : ∃ t, PSs (cxOf (CXE P w) P w K mg base ["part", "slots", "kept", "bound", "inner", "slot", "name", "body", "word"] "function_code" (defScope sFnC) f cdv A outer s H E).nox ((defBody sFnC).drop 3) t ∧
        ∀ (H3 : Hp) (lk bb : Addr) (xs bs : List Str), Grow H H3 → H3 lk = some (.lst (xs.map V.str)) → xs.length ≤ p.sz → (∀ x, x ∈ xs ↔ p.fv x) → H3 bb = some (.lst (bs.map V.str)) → bs.length ≤ 2 → (∀ x, x ∈ Pt.names p → x ∈ bs) →
          t { nx := fun _ H' => Q .non H', rt := Q } [some (.ref a), some (.ref sl), some (.ref lk), some (.ref bb), none, none, none, none, none] H3 := by
      refine ⟨_, pss_cons (ps_set (i := 4) scFnC.nd rfl (Or.inl rfl) pe_dnewK)
        (pss_cons (ps_for PassesOwn.never rfl (pi_enum (by rfl) G.enumerate (pa_cons (pe_op op_cat (pv 2) (pv 3)) pa_nil)) (pg_tup rfl (pgs_cons (pg_name (i := 5) scFnC.nd rfl (Or.inl rfl)) (pgs_cons (pg_name (i := 6) scFnC.nd rfl (Or.inl rfl)) pgs_nil)))
          (pss_one (ps_dput (Nat.lt_of_succ_lt hr.u2) (pv 4) (pv 6) (pv 5) rfl)))
        (pss_cons (ps_set (i := 7) scFnC.nd rfl (Or.inl rfl) (pe_k GC hr (pa_cons (pe_ix ix_tup (pv 0) (pe_un un_neg pe_int) (fun _ _ => rfl)) (pa_cons (pv 4) (pa_cons (pe_callB call_lenD (by rfl) G.len PySem.boot_len (pa_cons (pv 4) pa_nil)) (pa_cons pe_bl pa_nil))))))
        (pss_cons (ps_set (i := 8) scFnC.nd rfl (Or.inl rfl) (pe_ifExp (pt_cmpR op_eq (pe_callB call_len_seq (by rfl) G.len PySem.boot_len (pa_cons (pv 3) pa_nil)) pe_int (nomark _)) pe_str pe_str)) pls))), ?_⟩
      intro H3 lk bb xs bs g3 ek hxl hxs eb hbl hbs
      intro d hd4
      dsimp only [gName, List.set]
      have g4 : Grow H3 (upd H3 d (.dK [])) := Grow.put hd4
      have ed : (upd H3 d (.dK [])) d = some (.dK []) := upd_same
      have ek := g4.same _ _ ek
      have eb := g4.same _ _ eb
      have hd0 : H d = none := g3.none _ hd4
      have kd : lk ≠ d := fun z => by rw [z, ed] at ek; cases ek
      have bd : bb ≠ d := fun z => by rw [z, ed] at eb; cases eb
      generalize upd H3 d (.dK []) = H4 at g4 ek eb ed ⊢
      have g04 := g3.trans g4
      refine ⟨_, rfl, _, rfl, lk, bb, _, _, rfl, rfl, ek, eb, by rw [sizeLine_eq]; simp; omega, fun lc hlc => ?_⟩
      rw [← List.map_append]
      have cd : lc ≠ d := fun z => by rw [z, ed] at hlc; cases hlc
      have g5 : Grow H4 (upd H4 lc (.lst ((xs ++ bs).map V.str))) := Grow.put hlc
      have ec : (upd H4 lc (.lst ((xs ++ bs).map V.str))) lc = some (.lst ((xs ++ bs).map V.str)) := upd_same
      have ek := g5.same _ _ ek
      have eb := g5.same _ _ eb
      have ed := g5.same _ _ ed
      generalize upd H4 lc (.lst ((xs ++ bs).map V.str)) = H5 at g5 ec ek eb ed ⊢
      have g05 := g04.trans g5
      refine ⟨lc, rfl, ⟨_, SqL.of ec⟩, ?_⟩
      refine for_enum (K := K) (l := lc) (xs := (xs ++ bs).map V.str) (fun i σ H6 => ∃ o5 o6 kvs, σ = [some (.ref a), some (.ref sl), some (.ref lk), some (.ref bb), some (.ref d), o5, o6, none, none] ∧ Grow H H6 ∧ H6 lc = some (.lst ((xs ++ bs).map V.str)) ∧ H6 lk = some (.lst (xs.map V.str)) ∧ H6 bb = some (.lst (bs.map V.str)) ∧ H6 d = some (.dK kvs) ∧ kvs.length ≤ i ∧ ∀ x, x ∈ (xs ++ bs).take i → (valV kvs (Sum.inr x : Key)).isSome = true) ?_ ?_ ?_ ?_
      · exact ⟨_, _, [], rfl, g05, ec, ek, eb, ed, by simp, by simp⟩
      · rintro i σ H6 _ ⟨o5, o6, kvs, rfl, _, h, _⟩
        exact SqL.of h
      · rintro i y T σ H6 hy ⟨o5, o6, kvs, rfl, g6, ec6, ek6, eb6, ed6, hkl, hkx⟩ hT
        rw [List.getElem?_map] at hy
        obtain ⟨x, hx, rfl⟩ := Option.map_eq_some_iff.mp hy
        have hi : i < (xs ++ bs).length := (List.getElem?_eq_some_iff.mp hx).1
        rw [List.length_append] at hi
        have g7 : Grow H6 (upd H6 T (.tup [.int i, .str x])) := Grow.put hT
        refine ⟨T, _, rfl, SqT.of upd_same, rfl, _, _, rfl, _, _, rfl, rfl, ?_⟩
        dsimp only [gName, List.set]
        have ec7 := g7.same _ _ ec6
        have ek7 := g7.same _ _ ek6
        have eb7 := g7.same _ _ eb6
        have ed7 := g7.same _ _ ed6
        generalize upd H6 T (.tup [.int i, .str x]) = H7 at g7 ec7 ek7 eb7 ed7 ⊢
        refine ⟨_, rfl, _, rfl, _, rfl, d, _, rfl, DPut.k (k := Sum.inr x) ed7 (by rw [sizeLine_eq]; omega), ?_⟩
        refine ⟨_, _, _, rfl, (g6.trans g7).set hd0, (upd_ne cd).trans ec7, (upd_ne kd).trans ek7, (upd_ne bd).trans eb7, upd_same, ?_, fun y hy => ?_⟩
        · have := length_putK kvs (Sum.inr x : Key) (.int i); omega
        · rw [valV_put]
          by_cases z : y = x
          · subst z; rw [if_pos rfl]; rfl
          · rw [if_neg (fun h => z (Sum.inr.inj h))]
            rw [List.take_add_one, hx] at hy
            exact hkx y (by simpa [z] using hy)
      · rintro σ H6 ⟨o5, o6, kvs, rfl, g6, ec6, ek6, eb6, ed6, hkl, hkx⟩
        rw [List.length_map] at hkl hkx
        rw [List.take_of_length_le (Nat.le_refl _)] at hkx
        rw [List.length_append] at hkl
        have hsq : SlAt H6 d pq := by
          refine ⟨kvs, ed6, ?_, fun x hx => hkx x ?_⟩
          · omega
          · by_cases z : x ∈ Pt.names p
            · exact List.mem_append_right _ (hbs x z)
            · exact List.mem_append_left _ ((hxs x).mpr ((fv_parts (fnp_nam hf) x).mpr ⟨0, pq, by rw [hpa]; rfl, hx, .inr z⟩))
        refine ⟨_, rfl, 1, rfl, a, _, -1, u, rfl, rfl, SqT.mono g6.same ha, atI_last ws u, _, rfl, _, rfl, d, kvs, rfl, ed6, u, d, _, true, pq, rfl, hu.mono g6.same, by omega, by omega, hsq, fun l5 ys H7 g7 n7 e7 hl7 => ?_⟩
        dsimp only [gName, List.set]
        have ek7 := g7.same _ _ ek6
        have fin : ∀ wd : Str, _ := fun wd => htl H7 lk (some (.ref bb)) (some (.ref d)) o5 o6 l5 wd xs ys (g6.trans g7) ek7 hxl (fun x hx => (hxs x).mp hx) e7 hl7
        refine ⟨_, rfl, bb, _, rfl, .inl (SqL.of (g7.same _ _ eb6)), rfl, _, rfl, ite2 (fun _ => ?_) (fun _ => ?_)⟩
        · exact fin "fn"
        · exact fin "rec"
    refine ⟨_, pss_cons (ps_set (i := 2) scFnC.nd rfl (Or.inl rfl) (pe_k GO (hr.mono (by omega)) (pa_cons (pv 0) pa_nil)))
      (pss_cons (ps_set (i := 3) scFnC.nd rfl (Or.inl rfl) (pe_k GB (hr.mono (by omega)) (pa_cons (pv 0) pa_nil)))
      (pss_cons (ps_if (pt_cmpR op_eq (pe_ix ix_list (pv 3) pe_int (fun _ _ => rfl)) (pe_ix ix_list (pv 3) (pe_un un_neg pe_int) (fun _ _ => rfl)) (nomark _)) (pss_one (ps_set (i := 3) scFnC.nd rfl (Or.inl rfl) (pe_slice sl_list (pv 3) po_none (po_some pe_int)))) pss_nil) pms)), ?_⟩
    refine ⟨_, rfl, .ref a, p, rfl, hp, hd, hz, fun lk xs H1 g1 n1 e1 hxl hxs => ?_⟩
    dsimp only [gName, List.set]
    refine ⟨_, rfl, a, Pt.wd p, ws', rfl, SqT.mono g1.same ha', hws, fun b H2 g2 n2 e2 => ?_⟩
    rw [hbn] at e2
    dsimp only [gName, List.set]
    have g12 := g1.trans g2
    have e1' := g2.same _ _ e1
    have hlast : ∃ y, atI ((Pt.names p).map V.str) (-1) = some (.str y) ∧ (y = x0 → ∀ x, x ∈ Pt.names p → x ∈ [x0]) ∧ (Pt.names p).length ≤ 2 := by
      rw [hnm]
      match r0, hr0 with
      | [], _ => exact ⟨x0, atI_last [] (V.str x0), fun _ x h => h, by simp⟩
      | [y], _ => exact ⟨y, atI_last [V.str x0] (V.str y), fun z x h => by subst z; simpa using h, by simp⟩
    obtain ⟨y, hy, hyx, hn2⟩ := hlast
    have hcut : cutV ((Pt.names p).map V.str) none (some 1) = ([x0] : List Str).map V.str := by
      rw [hnm]
      match r0, hr0 with
      | [], _ => rfl
      | [y], _ => rfl
    refine ⟨_, rfl, b, _, 0, .str x0, rfl, rfl, SqL.of e2, by rw [hnm]; exact atI_nat (j := 0) rfl, _, rfl, 1, rfl, b, _, -1, .str y, rfl, rfl, SqL.of e2, hy, rfl, _, rfl, ite2 (fun hxy => ?_) (fun _ => ?_)⟩
    · have hxy' : y = x0 := by have := of_decide_eq_true hxy; cases this; rfl
      refine ⟨_, rfl, _, rfl, b, _, rfl, SqL.of e2, fun b2 hb2 => ?_⟩
      dsimp only [gName, List.set]
      rw [hcut]
      exact htm _ lk b2 xs [x0] (g12.trans (Grow.put hb2)) ((Grow.put hb2).same _ _ e1') hxl hxs upd_same (by simp) (hyx hxy')
    · exact htm H2 lk b xs (Pt.names p) g12 e1' hxl hxs e2 hn2 (fun x h => h)
end
end K13
set_option maxRecDepth 100000
set_option linter.all false
set_option Elab.async false
set_option maxHeartbeats 4000000
namespace K13
open PySem L2 PyProof Dt
abbrev sKO : Stmt := top 14
def pkeys : List Str := ["call", "if", "and", "or", "let"]
def owds : List Str := ["head", "tail", "empty", "first", "second", "not", "cons", "pair", "plus", "minus", "times", "over", "rest", "less", "same"]
theorem ow_facts : ∀ x ∈ owds, ixOf x pkeys = none ∧ inV (.str x) [.str "fn", .str "rec"] = false ∧ inV (.str x) [.str "num", .str "truth", .str "name", .str "nil"] = false := by decide +kernel
theorem vw_facts : ∀ x ∈ (["num", "truth", "name", "nil"] : List Str), ixOf x pkeys = none ∧ inV (.str x) [.str "fn", .str "rec"] = false ∧ inV (.str x) [.str "num", .str "truth", .str "name", .str "nil"] = true := by decide +kernel
theorem fw_facts : ∀ x ∈ (["fn", "rec"] : List Str), ixOf x pkeys = none ∧ inV (.str x) [.str "fn", .str "rec"] = true := by decide +kernel
theorem at_wd {K : PySem.W.Frag} {H : Hp} {p : Pt} {v : V} (h : DtAt K H p.dt v) : ∃ a xs, v = .ref a ∧ SqT K H a (.str (Pt.wd p) :: xs) := by
  by_cases hn : isNam p = true
  · cases p with
    | nam x => obtain ⟨a, u, rfl, ha, _⟩ := at_w1 h; exact ⟨a, _, rfl, ha⟩
    | _ => cases hn
  · obtain ⟨a, xs, e, h1, _⟩ := at_parts (by simpa using hn) h
    exact ⟨a, xs, e, h1⟩
inductive Way : Pt → Prop
  | call {q r} : Way (.two .call q r)
  | iff {p} : IfP p → Way p
  | let_ {x q r} : Way (.let_ x q r)
  | fn {p} : FnP p → Pt.wd p ∈ (["fn", "rec"] : List Str) → Way p
  | val {p} : isValP p → Pt.wd p ∈ (["num", "truth", "name", "nil"] : List Str) → p.sz = 1 → Way p
  | oth {p} : Pt.plain p = true → Pt.wd p ∈ owds → Way p
theorem way (p : Pt) : Way p := by
  cases p with
  | num n => exact .val (.inl ⟨n, rfl⟩) (by simp [Pt.wd]) rfl
  | tru n => exact .val (.inr (.inl ⟨n, rfl⟩)) (by simp [Pt.wd]) rfl
  | nam n => exact .val (.inr (.inr (.inl ⟨n, rfl⟩))) (by simp [Pt.wd]) rfl
  | nil n => exact .val (.inr (.inr (.inr ⟨n, rfl⟩))) (by simp [Pt.wd]) rfl
  | one u q => exact .oth rfl (by cases u <;> simp [Pt.wd, U1.str, owds])
  | two u q r =>
    cases u
    case call => exact .call
    case and => exact .iff .and
    case or => exact .iff .or
    all_goals exact .oth rfl (by simp [Pt.wd, U2.str, owds])
  | ite q r t => exact .iff .ite
  | let_ x q r => exact .let_
  | fn x k q => exact .fn .fn (by simp [Pt.wd])
  | rc g x k l q => exact .fn .rc (by simp [Pt.wd])
section
variable {P : Program} {w : World} {K : PySem.W.Frag} {mg : Str → Option Value} {base : Heap} {f : Addr} {fd : FuncData}
theorem scCode : FnScope ["part", "slots", "height", "last", "word", "code"] ps4 (defScope sCode) := ⟨rfl, rfl, rfl, by decide +kernel, rfl, by decide +kernel, by decide +kernel⟩
theorem ok_code0 (F : FunD K "code_of" "code_of" sCode .none f fd) : FnOk P w K mg base (CXE P w) (3 * 0 + 4) f fd ps4 (spCode K 0) := by
  refine F.ok0 scCode (fun vs H Q E h => ?_) (fun cdv A outer s H vs Q E hr h => ?_)
  · obtain ⟨v, sl, h, b, p, rfl, _⟩ := h
    rfl
  · obtain ⟨v, sl, h, b, p, rfl, _, hd, _⟩ := h
    exact absurd hd (Nat.not_lt_zero _)
theorem ok_code {n : Nat} {fC fI fL tb : Addr} (F : FunD K "code_of" "code_of" sCode .none f fd) (mP : mg "PLACED_CODES" = some (.ref tb)) (T1 : TabS K tb (pkeys.zip [.ref fC, .ref fI, .ref fI, .ref fI, .ref fL]))
    (GC : At P w K mg base (3 * n + 6) fC ps4 (spC4 K (isCallP n))) (GI : At P w K mg base (3 * n + 5) fI ps4 (spC4 K (isIfP n))) (GL : At P w K mg base (3 * n + 5) fL ps4 (spC4 K (isLetP n)))
    (GF : Kn P w K mg base (3 * n + 5) "function_code" ["part", "slots"] (spFnC K n)) (GV : Kn P w K mg base 2 "value_code" ["part", "slots"] (spVal K)) (GO : Kn P w K mg base (3 * n + 5) "operands_code" ["part", "slots", "height"] (spOpd K n)) : FnOk P w K mg base (CXE P w) (3 * (n + 1) + 4) f fd ps4 (spCode K (n + 1)) := by
  refine F.ok0 (k := 3 * n + 6) scCode (fun vs H Q E h => ?_) (fun cdv A outer s H vs Q E hr h => ?_)
  · obtain ⟨v, sl, h, b, p, rfl, _⟩ := h
    rfl
  · obtain ⟨v, sl, h0, b, p, rfl, hp, hd, hz, hs, q⟩ := h
    obtain ⟨tl, pls, htl⟩ : ∃ t, PSs (cxOf (CXE P w) P w K mg base ["part", "slots", "height", "last", "word", "code"] "code_of" (defScope sCode) f cdv A outer s H E).nox ((defBody sCode).drop 3) t ∧
        ∀ (H5 : Hp) (c4 : Option V) (l : Addr) (ys : List V), Grow H H5 → H l = none → H5 l = some (.lst ys) → ys.length + 5 ≤ 6 * p.sz →
          t { nx := fun _ H' => Q .non H', rt := Q } [some v, some (.ref sl), some (.int h0), some (.bl b), c4, some (.ref l)] H5 := by
      refine ⟨_, pss_one (ps_ret (pe_ifExp (pt_val (pv 3)) (pe_op op_cat (pv 5) (pe_lst (pa_cons (pe_tup (pa_cons pe_str pa_nil)) pa_nil))) (pv 5))), ?_⟩
      intro H5 c4 l ys g5 nl e5 hl
      refine ⟨_, rfl, b, rfl, ?_⟩
      cases b with
      | false => exact iteF ⟨_, rfl, q l ys H5 g5 nl e5 (by omega)⟩
      | true =>
        refine iteT ⟨_, rfl, (by show 1 ≤ sizeLine; decide), fun t ht => ?_⟩
        have g6 : Grow H5 (upd H5 t (.tup [.str "tell"])) := Grow.put ht
        have e5 := g6.same _ _ e5
        generalize upd H5 t (.tup [.str "tell"]) = H6 at g6 e5 ⊢
        refine ⟨(by show 1 ≤ sizeLine; decide), fun l6 hl6 => ?_⟩
        have g7 : Grow H6 (upd H6 l6 (.lst [.ref t])) := Grow.put hl6
        have e5 := g7.same _ _ e5
        have e6 : (upd H6 l6 (.lst [.ref t])) l6 = some (.lst [.ref t]) := upd_same
        generalize upd H6 l6 (.lst [.ref t]) = H7 at g7 e5 e6 ⊢
        have g57 := (g5.trans g6).trans g7
        refine ⟨l, l6, _, _, rfl, rfl, e5, e6, by rw [sizeLine_eq]; simp; omega, fun l7 hl7 => ?_⟩
        exact q l7 _ _ (g57.trans (Grow.put hl7)) (g57.none _ hl7) upd_same (by simp; omega)
    refine ⟨_, pss_cons (ps_set (i := 4) scCode.nd rfl (Or.inl rfl) (pe_ix ix_tup (pv 0) pe_int (fun _ _ => rfl)))
      (pss_cons (ps_if (pt_cmpR op_inTab (pv 4) (pe_glob (v := .ref tb) (by rfl) mP rfl) rfl) (pss_one (ps_ret (pe_callV (CX := CXE P w) (pe_ix ix_tab (pe_glob (v := .ref tb) (by rfl) mP rfl) (pv 4) (fun _ _ => rfl)) (pa_cons (pv 0) (pa_cons (pv 1) (pa_cons (pv 2) (pa_cons (pv 3) pa_nil))))))) pss_nil)
      (pss_cons (ps_if (pt_cmpR op_in_seq (pv 4) (pe_tup (pa_cons pe_str (pa_cons pe_str pa_nil))) rfl) (pss_one (ps_set (i := 5) scCode.nd rfl (Or.inl rfl) (pe_k GF (hr.mono (by omega)) (pa_cons (pv 0) (pa_cons (pv 1) pa_nil)))))
        (pss_one (ps_if (pt_cmpR op_in_seq (pv 4) (pe_tup (pa_cons pe_str (pa_cons pe_str (pa_cons pe_str (pa_cons pe_str pa_nil))))) rfl)
          (pss_one (ps_set (i := 5) scCode.nd rfl (Or.inl rfl) (pe_k GV (hr.mono (by omega)) (pa_cons (pv 0) (pa_cons (pv 1) pa_nil)))))
          (pss_one (ps_set (i := 5) scCode.nd rfl (Or.inl rfl) (pe_op op_cat (pe_k GO (hr.mono (by omega)) (pa_cons (pv 0) (pa_cons (pv 1) (pa_cons (pv 2) pa_nil)))) (pe_lst (pa_cons (pe_tup (pa_cons (pv 4) pa_nil)) pa_nil))))))))
      pls)), ?_⟩
    obtain ⟨a, ws, rfl, ha⟩ := at_wd hp
    refine ⟨_, rfl, a, _, _, .str (Pt.wd p), rfl, rfl, ha, atI_nat (j := 0) rfl, ?_⟩
    dsimp only [gName, List.set]
    refine ⟨_, rfl, _, _, _, rfl, rfl, T1, _, rfl, ?_⟩
    cases way p with
    | @call p1 p2 =>
      obtain ⟨fdg, y3, y4, y5⟩ := GC
      rw [show Pt.wd (.two .call p1 p2) = ("call" : Str) from rfl, key_yes (i := 0) (by decide +kernel) (by show 0 < 5; decide)]
      refine iteT ⟨_, rfl, _, _, _, _, rfl, rfl, T1, dat_zip (i := 0) (by decide +kernel) rfl, fC, fdg, _, _, [], [], E0, _, rfl, y3, hr, y4, y5, .nil, passE0, _, rfl, _, rfl, _, rfl, _, rfl, ?_⟩
      exact ⟨_, sl, h0, b, _, rfl, hp, ⟨hd, _, _, rfl⟩, hz, hs, q⟩
    | iff hi =>
      obtain ⟨fdg, y3, y4, y5⟩ := GI
      have hn : 0 < n := by
        have hd' : p.deep < n + 1 := hd
        have : 0 < p.deep := by cases hi <;> simp only [Pt.deep] <;> omega
        omega
      obtain ⟨i, h1, h2⟩ : ∃ i : Nat, ixOf (Pt.wd p) pkeys = some i ∧ ([.ref fC, .ref fI, .ref fI, .ref fI, .ref fL] : List V)[i]? = some (.ref fI) := by
        cases hi with
        | ite => exact ⟨1, by rw [Pt.wd]; decide +kernel, rfl⟩
        | and => exact ⟨2, by rw [Pt.wd]; decide +kernel, rfl⟩
        | or => exact ⟨3, by rw [Pt.wd]; decide +kernel, rfl⟩
      rw [key_yes (i := i) h1 (List.getElem?_eq_some_iff.mp h2).1]
      refine iteT ⟨_, rfl, _, _, _, _, rfl, rfl, T1, dat_zip h1 h2, fI, fdg, _, _, [], [], E0, _, rfl, y3, hr.mono (by omega), y4, y5, .nil, passE0, _, rfl, _, rfl, _, rfl, _, rfl, ?_⟩
      exact ⟨_, sl, h0, b, _, rfl, hp, ⟨hd, hn, hi⟩, hz, hs, q⟩
    | @let_ x p1 p2 =>
      obtain ⟨fdg, y3, y4, y5⟩ := GL
      rw [show Pt.wd (.let_ x p1 p2) = ("let" : Str) from rfl, key_yes (i := 4) (by decide +kernel) (by show 4 < 5; decide)]
      refine iteT ⟨_, rfl, _, _, _, _, rfl, rfl, T1, dat_zip (i := 4) (by decide +kernel) rfl, fL, fdg, _, _, [], [], E0, _, rfl, y3, hr.mono (by omega), y4, y5, .nil, passE0, _, rfl, _, rfl, _, rfl, _, rfl, ?_⟩
      exact ⟨_, sl, h0, b, _, rfl, hp, ⟨hd, _, _, _, rfl⟩, hz, hs, q⟩
    | fn hf hw =>
      obtain ⟨w1, w2⟩ := fw_facts _ hw
      rw [key_no w1]
      refine iteF ⟨_, rfl, (by show 2 ≤ sizeLine; decide), fun c1 hc1 => ?_⟩
      have g1 : Grow H (upd H c1 (.tup [.str "fn", .str "rec"])) := Grow.put hc1
      refine ⟨c1, _, rfl, .inr (SqT.of upd_same), rfl, rfl, _, rfl, ?_⟩
      rw [if_neg (by decide), w2]
      generalize upd H c1 (.tup [.str "fn", .str "rec"]) = H1 at g1 ⊢
      refine iteT ⟨_, rfl, _, rfl, _, sl, p, rfl, hp.mono g1.same, hd, hf, hz, hs.mono g1, fun l ys H2 g2 n2 e2 hl2 => ?_⟩
      exact htl H2 _ l ys (g1.trans g2) (g1.none _ n2) e2 hl2
    | val hv hw hsz =>
      obtain ⟨w1, w2, w3⟩ := vw_facts _ hw
      rw [key_no w1]
      refine iteF ⟨_, rfl, (by show 2 ≤ sizeLine; decide), fun c1 hc1 => ?_⟩
      have g1 : Grow H (upd H c1 (.tup [.str "fn", .str "rec"])) := Grow.put hc1
      refine ⟨c1, _, rfl, .inr (SqT.of upd_same), rfl, rfl, _, rfl, ?_⟩
      rw [if_neg (by decide), w2]
      generalize upd H c1 (.tup [.str "fn", .str "rec"]) = H1 at g1 ⊢
      refine iteF ⟨_, rfl, (by show 4 ≤ sizeLine; decide), fun c2 hc2 => ?_⟩
      have g2 : Grow H1 (upd H1 c2 (.tup [.str "num", .str "truth", .str "name", .str "nil"])) := Grow.put hc2
      refine ⟨c2, _, rfl, .inr (SqT.of upd_same), rfl, rfl, _, rfl, ?_⟩
      rw [if_neg (by decide), w3]
      generalize upd H1 c2 (.tup [.str "num", .str "truth", .str "name", .str "nil"]) = H2 at g2 ⊢
      have g12 := g1.trans g2
      refine iteT ⟨_, rfl, _, rfl, _, sl, p, rfl, hp.mono g12.same, hv, hs.mono g12, fun l u H3 g3 n3 e3 => ?_⟩
      exact htl H3 _ l [u] (g12.trans g3) (g12.none _ n3) e3 (by simp [hsz])
    | oth hpl hw =>
      obtain ⟨w1, w2, w3⟩ := ow_facts _ hw
      rw [key_no w1]
      refine iteF ⟨_, rfl, (by show 2 ≤ sizeLine; decide), fun c1 hc1 => ?_⟩
      have g1 : Grow H (upd H c1 (.tup [.str "fn", .str "rec"])) := Grow.put hc1
      refine ⟨c1, _, rfl, .inr (SqT.of upd_same), rfl, rfl, _, rfl, ?_⟩
      rw [if_neg (by decide), w2]
      generalize upd H c1 (.tup [.str "fn", .str "rec"]) = H1 at g1 ⊢
      refine iteF ⟨_, rfl, (by show 4 ≤ sizeLine; decide), fun c2 hc2 => ?_⟩
      have g2 : Grow H1 (upd H1 c2 (.tup [.str "num", .str "truth", .str "name", .str "nil"])) := Grow.put hc2
      refine ⟨c2, _, rfl, .inr (SqT.of upd_same), rfl, rfl, _, rfl, ?_⟩
      rw [if_neg (by decide), w3]
      generalize upd H1 c2 (.tup [.str "num", .str "truth", .str "name", .str "nil"]) = H2 at g2 ⊢
      have g12 := g1.trans g2
      have hsz := (szs_plain hpl).1
      refine iteF ⟨_, rfl, _, rfl, _, rfl, _, sl, h0, p, rfl, hp.mono g12.same, hpl, hd, hz, hs.mono g12, fun l ys H3 g3 n3 e3 hl3 => ?_⟩
      refine ⟨_, rfl, (by show 1 ≤ sizeLine; decide), fun t ht => ?_⟩
      have g4 : Grow H3 (upd H3 t (.tup [.str (Pt.wd p)])) := Grow.put ht
      have e3 := g4.same _ _ e3
      generalize upd H3 t (.tup [.str (Pt.wd p)]) = H4 at g4 e3 ⊢
      refine ⟨(by show 1 ≤ sizeLine; decide), fun l6 hl6 => ?_⟩
      have g5 : Grow H4 (upd H4 l6 (.lst [.ref t])) := Grow.put hl6
      have e3 := g5.same _ _ e3
      have e6 : (upd H4 l6 (.lst [.ref t])) l6 = some (.lst [.ref t]) := upd_same
      generalize upd H4 l6 (.lst [.ref t]) = H5 at g5 e3 e6 ⊢
      have g05 := ((g12.trans g3).trans g4).trans g5
      refine ⟨l, l6, _, _, rfl, rfl, e3, e6, by rw [sizeLine_eq]; simp; omega, fun l7 hl7 => ?_⟩
      exact htl _ _ l7 _ (g05.trans (Grow.put hl7)) (g05.none _ hl7) upd_same (by simp; omega)
end
end K13
set_option maxRecDepth 100000
set_option linter.all false
set_option Elab.async false
set_option maxHeartbeats 4000000
namespace L2
open PySem PySem.Spec PyProof.Rows PyProof Dt
theorem cmpG0 {X : Cx} {scope : Scope} {own : List Str} (h1 : ∀ y ∈ scope.names, y.2 ≠ .free) (h2 : ∀ y ∈ scope.names, y.2 ≠ .cell) (h3 : scope.kind = .function) (h4 : ∀ y ∈ scope.names, y.2 = .local → scope.names.lookup y.1 = some .local) (nd : (own ++ ([] : List Str)).Nodup) : CmpG X scope [] own [] [] where
  clos := closureFor_none h1
  cell := h2
  kind := h3
  names := h4
  cls := fun y c h => by cases h
  fr := fun y h => absurd rfl (h1 _ (mem_of_lookup h))
  nd := nd
  at_ := fun j y h => by simp at h
  len := rfl
  out := fun y h => by cases h
theorem lc_tupP {K : PySem.W.Frag} {a : Addr} {xs : List V} {te : TE} {ix : List Nat} {σ : St} {H : Hp} {D : Addr} {R : Hp → Prop} (Pv : Nat → List V → Hp → Prop) (h0 : Pv 0 [] (upd H D (.lst []))) (hx : ∀ i ys H', i ≤ xs.length → Pv i ys H' → SqT K H' a xs)
    (he : ∀ i x ys H', xs[i]? = some x → Pv i ys H' → ∀ Q' : VK, (∀ y H6, H6 D = some (.lst ys) → ys.length < sizeLine → Pv (i + 1) (ys ++ [y]) (upd H6 D (.lst (ys ++ [y]))) → Q' y H6) → te (blkG ix [some x] σ) H' Q') (q : ∀ ys H', Pv xs.length ys H' → R H') :
    ∃ W : Nat → Nat → List V → Hp → Prop, (∃ m, W 0 m [] (upd H D (.lst []))) ∧ ∀ i m ys H2, W i m ys H2 →
      ((Itt K a).stop i H2 ∧ R H2) ∨ ((Itt K a).go i H2 ∧ ∀ (o : List (Option V)) v H3, o.length = 1 → (Itt K a).yld i H2 v H3 → gName 0 v (blkG ix o σ) H3 fun σ2 H4 => (∃ o' : List (Option V), σ2 = blkG ix o' σ ∧ o'.length = 1) ∧
        ifT none σ2 H4 fun b H5 => if b = true then te σ2 H5 fun y H6 => H6 D = some (.lst ys) ∧ ys.length < sizeLine ∧ ∃ m', m' < m ∧ W (i + 1) m' (ys ++ [y]) (upd H6 D (.lst (ys ++ [y]))) else ∃ m', m' < m ∧ W (i + 1) m' ys H5) := by
  refine ⟨fun i m ys H2 => i ≤ xs.length ∧ m = xs.length - i ∧ Pv i ys H2, ⟨_, Nat.zero_le _, rfl, h0⟩, ?_⟩
  rintro i m ys H2 ⟨hi, rfl, p⟩
  have hx2 := hx i ys H2 hi p
  by_cases hl : i < xs.length
  · refine .inr ⟨⟨xs, xs[i], hx2, List.getElem?_eq_getElem hl⟩, fun o v H3 ho hy => ?_⟩
    obtain ⟨rfl, hv⟩ := hy
    have hv' := hv xs hx2
    match o, ho with
    | [_], _ =>
      refine ⟨⟨[some v], rfl, rfl⟩, ?_⟩
      dsimp only [ifT]
      exact iteT (he i v ys _ hv' p _ fun y H6 e1 e2 p' => ⟨e1, e2, xs.length - (i + 1), by omega, hl, rfl, p'⟩)
  · have e : i = xs.length := by omega
    subst e
    exact .inl ⟨⟨xs, hx2, Nat.le_refl _⟩, q _ _ p⟩
end L2
namespace K13
open PySem L2 PyProof Dt
abbrev sKT : Stmt := top 44
abbrev sLKT : Stmt := top 56
def txt : Kd → Str
  | .int => "int"
  | .bool => "bool"
  | .list k => "(" ++ Txt.join " " ["list", txt k] ++ ")"
  | .pair k l => "(" ++ Txt.join " " ["pair", txt k, txt l] ++ ")"
  | .fn k l => "(" ++ Txt.join " " ["fun", txt k, txt l] ++ ")"
def Kd.wd : Kd → Str
  | .list _ => "list" | .pair _ _ => "pair" | _ => "fun"
def Kd.kids : Kd → List Kd
  | .list k => [k] | .pair k l => [k, l] | .fn k l => [k, l] | _ => []
def Kd.leaf : Kd → Bool
  | .int => true | .bool => true | _ => false
theorem txt_kids {k : Kd} (h : Kd.leaf k = false) : txt k = "(" ++ Txt.join " " (Kd.wd k :: (Kd.kids k).map txt) ++ ")" := by cases k <;> first | rfl | cases h
theorem join_len (ts : List Str) : (Txt.join " " ts).length ≤ (ts.map (·.length)).sum + ts.length := by
  show (Builtin.Str.glued " " ts).length ≤ _
  rw [StrLaws.glued_eq_join]
  have := StrLaws.join_length_le " " ts
  have e : (" " : Str).length = 1 := by decide
  rw [e] at this
  omega
theorem len1 : ("(" : Str).length = 1 ∧ (")" : Str).length = 1 ∧ ("list" : Str).length = 4 ∧ ("pair" : Str).length = 4 ∧ ("fun" : Str).length = 3 ∧ ("int" : Str).length = 3 ∧ ("bool" : Str).length = 4 := by decide
theorem txt_len : ∀ k : Kd, (txt k).length ≤ 9 * k.sz
  | .int => by rw [txt, len1.2.2.2.2.2.1, Kd.sz]; decide
  | .bool => by rw [txt, len1.2.2.2.2.2.2, Kd.sz]; decide
  | .list k => by
    have h := txt_len k
    have j := join_len ["list", txt k]
    simp only [List.map_cons, List.map_nil, List.sum_cons, List.sum_nil, List.length_cons, List.length_nil, len1.2.2.1] at j
    rw [txt, Str.length_append, Str.length_append, len1.1, len1.2.1, Kd.sz]
    omega
  | .pair k l => by
    have h := txt_len k
    have h' := txt_len l
    have j := join_len ["pair", txt k, txt l]
    simp only [List.map_cons, List.map_nil, List.sum_cons, List.sum_nil, List.length_cons, List.length_nil, len1.2.2.2.1] at j
    rw [txt, Str.length_append, Str.length_append, len1.1, len1.2.1, Kd.sz]
    omega
  | .fn k l => by
    have h := txt_len k
    have h' := txt_len l
    have j := join_len ["fun", txt k, txt l]
    simp only [List.map_cons, List.map_nil, List.sum_cons, List.sum_nil, List.length_cons, List.length_nil, len1.2.2.2.2.1] at j
    rw [txt, Str.length_append, Str.length_append, len1.1, len1.2.1, Kd.sz]
    omega
theorem kids_facts {k : Kd} (h : Kd.leaf k = false) : (Kd.kids k).length ≤ 2 ∧ (Kd.wd k).length ≤ 4 ∧ ∀ l ∈ Kd.kids k, l.deep < k.deep ∧ l.sz < k.sz := by
  cases k with
  | int => cases h
  | bool => cases h
  | list k => simp [Kd.kids, Kd.wd, Kd.deep, Kd.sz]; decide
  | pair k l => refine ⟨by simp [Kd.kids], by simp [Kd.wd]; decide, ?_⟩; simp [Kd.kids, Kd.deep, Kd.sz]; omega
  | fn k l => refine ⟨by simp [Kd.kids], by simp [Kd.wd]; decide, ?_⟩; simp [Kd.kids, Kd.deep, Kd.sz]; omega
section
variable {P : Program} {w : World} {K : PySem.W.Frag} {mg : Str → Option Value} {base : Heap} {f : Addr} {fd : FuncData}
theorem at_kids {k : Kd} {H : Hp} {v : V} (hl : Kd.leaf k = false) (h : DtAt K H k.dt v) : ∃ a ws, v = .ref a ∧ SqT K H a (.str (Kd.wd k) :: ws) ∧ DtsAt K H ((Kd.kids k).map Kd.dt) ws := by
  cases k with
  | int => cases hl
  | bool => cases hl
  | list k => obtain ⟨a, u, rfl, h1, h2⟩ := at_w1 h; exact ⟨a, _, rfl, h1, cons_ats h2 nil_ats⟩
  | pair k l => obtain ⟨a, u, x, rfl, h1, h2, h3⟩ := at_w2 h; exact ⟨a, _, rfl, h1, cons_ats h2 (cons_ats h3 nil_ats)⟩
  | fn k l => obtain ⟨a, u, x, rfl, h1, h2, h3⟩ := at_w2 h; exact ⟨a, _, rfl, h1, cons_ats h2 (cons_ats h3 nil_ats)⟩
theorem at_leaf {k : Kd} {H : Hp} {v : V} (hl : Kd.leaf k = true) (h : DtAt K H k.dt v) : v = .str (txt k) ∧ k.dt = .str (txt k) := by
  cases k with
  | int => exact ⟨at_str h, rfl⟩
  | bool => exact ⟨at_str h, rfl⟩
  | _ => cases hl
theorem ty_kids {k : Kd} (hl : Kd.leaf k = false) : tyD k.dt = "tuple" := by cases k <;> first | rfl | cases hl
structure GlS (K : PySem.W.Frag) (mg : Str → Option Value) : Prop where
  isi : mg "isinstance" = none
  str : mg "str" = none
  ts : PySem.W.kitOne K (.type "tuple") (.type "str") = some false
theorem kit_ss (K : PySem.W.Frag) : PySem.W.kitOne K (.type "str") (.type "str") = some true := by
  unfold PySem.W.kitOne
  rw [if_pos (by decide)]
def spKT (K : PySem.W.Frag) (n : Nat) : Sp := fun vs H Q _ => ∃ (v : V) (k : Kd), vs = [v] ∧ DtAt K H k.dt v ∧ k.deep < n ∧ k.sz ≤ 40 ∧ ∀ H', Grow H H' → Q (.str (txt k)) H'
theorem scKT : FnScope ["kind", "inside"] ["kind"] (defScope sKT) := ⟨rfl, rfl, rfl, by decide +kernel, rfl, by decide +kernel, by decide +kernel⟩
theorem scLKT : FnScope ["_law_kind_here"] ["_law_kind_here"] (defScope sLKT) := ⟨rfl, rfl, rfl, by decide +kernel, rfl, by decide +kernel, by decide +kernel⟩
theorem kids_lc {n : Nat} {k : Kd} {H1 : Hp} {D0 t0 : Addr} {ws : List V} {σ : St} {R : Hp → Prop} (hd : k.deep < n + 1) (hz : k.sz ≤ 40) (hl : Kd.leaf k = false) (hw : DtsAt K H1 ((Kd.kids k).map Kd.dt) ws) (hs : SqT K H1 t0 ws) (hD0 : H1 D0 = none)
    (q : ∀ H2, Grow H1 H2 → H2 D0 = some (.lst (((Kd.kids k).map txt).map V.str)) → R H2) : ∃ W : Nat → Nat → List V → Hp → Prop, (∃ m, W 0 m [] (upd H1 D0 (.lst []))) ∧ ∀ i m ys H2, W i m ys H2 →
      ((Itt K t0).stop i H2 ∧ R H2) ∨ ((Itt K t0).go i H2 ∧ ∀ (o : List (Option V)) v H3, o.length = 1 → (Itt K t0).yld i H2 v H3 → gName 0 v (blkG [] o σ) H3 fun σ2 H4 => (∃ o' : List (Option V), σ2 = blkG [] o' σ ∧ o'.length = 1) ∧
        ifT none σ2 H4 fun b H5 => if b = true then tCall (spKT K n) [] E0 (tCons (tVar 0) tNil) σ2 H5 fun y H6 => H6 D0 = some (.lst ys) ∧ ys.length < sizeLine ∧ ∃ m', m' < m ∧ W (i + 1) m' (ys ++ [y]) (upd H6 D0 (.lst (ys ++ [y]))) else ∃ m', m' < m ∧ W (i + 1) m' ys H5) := by
  have hlen : ws.length = (Kd.kids k).length := by rw [hw.length, List.length_map]
  obtain ⟨f1, f2, f3⟩ := kids_facts hl
  refine lc_tupP (K := K) (a := t0) (xs := ws) (fun i ys H2 => Grow H1 H2 ∧ H2 D0 = some (.lst ys) ∧ ys = (((Kd.kids k).take i).map txt).map V.str) ⟨Grow.put hD0, upd_same, rfl⟩ ?_ ?_ ?_
  · rintro i ys H2 _ ⟨g, _⟩
    exact SqT.mono g.same hs
  · rintro i x ys H2 hx ⟨g, eD, rfl⟩ Q' hq
    have hi : i < ws.length := by
      rcases Nat.lt_or_ge i ws.length with h | h
      · exact h
      · rw [List.getElem?_eq_none h] at hx; cases hx
    have hl' : (Kd.kids k)[i]? = some ((Kd.kids k)[i]'(by omega)) := List.getElem?_eq_getElem (by omega)
    generalize (Kd.kids k)[i]'(by omega) = l at hl'
    obtain ⟨x', hx', hxd⟩ := hw.get (i := i) (d := l.dt) (by rw [List.getElem?_map, hl']; rfl)
    rw [hx] at hx'
    cases hx'
    obtain ⟨h1, h2⟩ := f3 l (List.mem_of_getElem? hl')
    refine ⟨_, rfl, x, l, rfl, hxd.mono g.same, by omega, by omega, fun H3 g3 => ?_⟩
    refine hq _ H3 (g3.same _ _ eD) ?_ ⟨(g.trans g3).set hD0, upd_same, ?_⟩
    · rw [List.length_map, List.length_map, List.length_take, sizeLine_eq]; omega
    · rw [List.take_add_one, hl']; simp
  · rintro ys H2 ⟨g, eD, rfl⟩
    rw [hlen, List.take_of_length_le (Nat.le_refl _)] at eD
    exact q H2 g eD
theorem join_ok {k : Kd} (hl : Kd.leaf k = false) (hz : k.sz ≤ 40) : ((Kd.wd k :: (Kd.kids k).map txt).map (·.length)).sum + (Kd.wd k :: (Kd.kids k).map txt).length ≤ 1000 := by
  have b : ∀ l : Kd, l.sz ≤ 40 → (txt l).length ≤ 360 := fun l h => by have := txt_len l; omega
  cases k with
  | int => cases hl
  | bool => cases hl
  | list k =>
    have := b k (by simp only [Kd.sz] at hz; omega)
    simp [Kd.kids, Kd.wd, len1.2.2.1]; omega
  | pair k l =>
    have := b k (by simp only [Kd.sz] at hz; omega)
    have := b l (by simp only [Kd.sz] at hz; omega)
    simp [Kd.kids, Kd.wd, len1.2.2.2.1]; omega
  | fn k l =>
    have := b k (by simp only [Kd.sz] at hz; omega)
    have := b l (by simp only [Kd.sz] at hz; omega)
    simp [Kd.kids, Kd.wd, len1.2.2.2.2.1]; omega
theorem ok_kt0 (F : FunD K "kind_text" "kind_text" sKT .none f fd) : FnOk P w K mg base (CXE P w) (0 + 1) f fd ["kind"] (spKT K 0) := by
  refine F.ok0 scKT (fun vs H Q E h => ?_) (fun cdv A outer s H vs Q E hr h => ?_)
  · obtain ⟨v, k, rfl, _⟩ := h
    rfl
  · obtain ⟨v, k, rfl, _, hd, _⟩ := h
    exact absurd hd (Nat.not_lt_zero _)
theorem ok_kt {n : Nat} (F : FunD K "kind_text" "kind_text" sKT .none f fd) (G : GlS K mg) (GK : Kn P w K mg base (n + 1) "kind_text" ["kind"] (spKT K n)) : FnOk P w K mg base (CXE P w) (n + 1 + 1) f fd ["kind"] (spKT K (n + 1)) := by
  refine F.ok0 scKT (fun vs H Q E h => ?_) (fun cdv A outer s H vs Q E hr h => ?_)
  · obtain ⟨v, k, rfl, _⟩ := h
    rfl
  · obtain ⟨v, k, rfl, hv, hd, hz, q⟩ := h
    have ndb : ((["inner"] : List Str) ++ ([] : List Str)).Nodup := by decide +kernel
    refine ⟨_, pss_cons (ps_if (pt_val (pe_callB call_isD (by rfl) G.isi PyProof.Rows.boot_isinstance (pa_cons (pv 0) (pa_cons (pe_bltn (v := .ty "str") (by rfl) G.str PyProof.Rows.boot_str rfl) pa_nil)))) (pss_one (ps_ret (pv 0))) pss_nil)
      (pss_cons (ps_set (i := 1) scKT.nd rfl (Or.inl rfl) (pe_bm PySem.F.plainAttrs_str PySem.F.slot_str_join PySem.F.type_str_join mt_join pe_str (pa_cons (pe_op op_cat (pe_lst (pa_cons (pe_ix ix_tup (pv 0) pe_int (fun _ _ => rfl)) pa_nil))
        (pe_lc0 (own := ["inner"]) (rest := []) (ix := []) (cmpG0 (by decide +kernel) (by decide +kernel) (by rfl) (by decide +kernel) (by decide +kernel)) rfl (pi_tup (pe_slice sl_tup (pv 0) (po_some pe_int) po_none)) (fun C s H fp pins => pe_k GK hr (pa_cons (pv 0) pa_nil)) (fun C s H fp pins => pg_name (i := 0) ndb rfl (Or.inl rfl) (Or.inr (by rfl))))) pa_nil)))
      (pss_one (ps_ret (pe_joined (pj_cons pe_str (pj_cons (pe_fmt (pv 1)) (pj_cons pe_str pj_nil))))))), ?_⟩
    by_cases hl : Kd.leaf k = true
    · obtain ⟨rfl, ed⟩ := at_leaf hl hv
      refine ⟨_, rfl, k.dt, _, "str", true, rfl, hv, by rw [ed]; exact kit_ss K, true, rfl, iteT ⟨_, rfl, q H (Grow.refl H)⟩⟩
    · have hl' : Kd.leaf k = false := by simpa using hl
      refine ⟨_, rfl, k.dt, _, "str", false, rfl, hv, by rw [ty_kids hl']; exact G.ts, false, rfl, iteF ?_⟩
      obtain ⟨a, ws, rfl, ha, hw⟩ := at_kids hl' hv
      refine ⟨rfl, _, rfl, a, _, _, .str (Kd.wd k), rfl, rfl, ha, atI_nat (j := 0) rfl, (by show 1 ≤ sizeLine; decide), fun l1 hl1 => ?_⟩
      have g1 : Grow H (upd H l1 (.lst [.str (Kd.wd k)])) := Grow.put hl1
      have e1 : (upd H l1 (.lst [.str (Kd.wd k)])) l1 = some (.lst [.str (Kd.wd k)]) := upd_same
      generalize upd H l1 (.lst [.str (Kd.wd k)]) = H1 at g1 e1 ⊢
      refine ⟨_, rfl, _, rfl, a, _, rfl, SqT.mono g1.same ha, cut1_not _ _, fun t0 ht0 => ?_⟩
      rw [cut1]
      have g2 : Grow H1 (upd H1 t0 (.tup ws)) := Grow.put ht0
      have e2 : SqT K (upd H1 t0 (.tup ws)) t0 ws := SqT.of upd_same
      generalize upd H1 t0 (.tup ws) = H2 at g2 e2 ⊢
      refine ⟨t0, rfl, ⟨_, e2⟩, fun D0 hD0 => ?_⟩
      refine kids_lc (n := n) (R := _) hd hz hl' (hw.mono (g1.trans g2).same) e2 hD0 fun H3 g3 e3 => ?_
      have g03 := (g1.trans g2).trans g3
      refine ⟨l1, D0, _, _, rfl, rfl, (g2.trans g3).same _ _ e1, e3, ?_, fun l4 hl4 => ?_⟩
      · have := (kids_facts hl').1
        rw [sizeLine_eq]; simp; omega
      have g4 : Grow H3 (upd H3 l4 (.lst ([.str (Kd.wd k)] ++ ((Kd.kids k).map txt).map V.str))) := Grow.put hl4
      have e4 : SqL K (upd H3 l4 (.lst ([.str (Kd.wd k)] ++ ((Kd.kids k).map txt).map V.str))) l4 ((Kd.wd k :: (Kd.kids k).map txt).map V.str) := SqL.of upd_same
      generalize upd H3 l4 (.lst ([.str (Kd.wd k)] ++ ((Kd.kids k).map txt).map V.str)) = H4 at g4 e4 ⊢
      have hj := join_ok hl' hz
      have hjl := join_len (Kd.wd k :: (Kd.kids k).map txt)
      have lsp : (" " : Str).length ≤ 16 := by decide
      refine ⟨" ", l4, Kd.wd k :: (Kd.kids k).map txt, rfl, rfl, e4, lsp, by omega, ?_⟩
      dsimp only [gName, List.set]
      have he : (Str.empty ++ "(" : Str) = "(" := by decide +kernel
      have lz : sizeLine = 16777216 := sizeLine_eq
      refine ⟨_, rfl, by rw [he, len1.1]; omega, _, rfl, _, rfl, by omega, _, rfl, ?_, _, rfl, ?_, ?_, ?_⟩
      · rw [he, Str.length_append, len1.1]; omega
      · rw [he, Str.length_append, Str.length_append, len1.1, len1.2.1]; omega
      · rw [he, Str.length_append, Str.length_append, len1.1, len1.2.1]; omega
      · rw [he, ← txt_kids hl']
        exact q H4 (g03.trans g4)
theorem ok_lkt0 (F : FunD K "_law_kind_text" "_law_kind_text" sLKT .none f fd) : FnOk P w K mg base (CXE P w) (0 + 1) f fd ["_law_kind_here"] (spKT K 0) := by
  refine F.ok0 scLKT (fun vs H Q E h => ?_) (fun cdv A outer s H vs Q E hr h => ?_)
  · obtain ⟨v, k, rfl, _⟩ := h
    rfl
  · obtain ⟨v, k, rfl, _, hd, _⟩ := h
    exact absurd hd (Nat.not_lt_zero _)
theorem ok_lkt {n : Nat} (F : FunD K "_law_kind_text" "_law_kind_text" sLKT .none f fd) (G : GlS K mg) (GK : Kn P w K mg base (n + 1) "_law_kind_text" ["_law_kind_here"] (spKT K n)) : FnOk P w K mg base (CXE P w) (n + 1 + 1) f fd ["_law_kind_here"] (spKT K (n + 1)) := by
  refine F.ok0 scLKT (fun vs H Q E h => ?_) (fun cdv A outer s H vs Q E hr h => ?_)
  · obtain ⟨v, k, rfl, _⟩ := h
    rfl
  · obtain ⟨v, k, rfl, hv, hd, hz, q⟩ := h
    have ndb : ((["_law_one"] : List Str) ++ ([] : List Str)).Nodup := by decide +kernel
    refine ⟨_, pss_cons (ps_if (pt_val (pe_callB call_isD (by rfl) G.isi PyProof.Rows.boot_isinstance (pa_cons (pv 0) (pa_cons (pe_bltn (v := .ty "str") (by rfl) G.str PyProof.Rows.boot_str rfl) pa_nil)))) (pss_one (ps_ret (pv 0))) pss_nil)
      (pss_one (ps_ret (pe_op op_add_str (pe_op op_add_str pe_str (pe_bm PySem.F.plainAttrs_str PySem.F.slot_str_join PySem.F.type_str_join mt_join pe_str (pa_cons (pe_op op_cat (pe_lst (pa_cons (pe_ix ix_tup (pv 0) pe_int (fun _ _ => rfl)) pa_nil))
        (pe_lc0 (own := ["_law_one"]) (rest := []) (ix := []) (cmpG0 (by decide +kernel) (by decide +kernel) (by rfl) (by decide +kernel) (by decide +kernel)) rfl (pi_tup (pe_slice sl_tup (pv 0) (po_some pe_int) po_none)) (fun C s H fp pins => pe_k GK hr (pa_cons (pv 0) pa_nil)) (fun C s H fp pins => pg_name (i := 0) ndb rfl (Or.inl rfl) (Or.inr (by rfl))))) pa_nil))) pe_str))), ?_⟩
    by_cases hl : Kd.leaf k = true
    · obtain ⟨rfl, ed⟩ := at_leaf hl hv
      refine ⟨_, rfl, k.dt, _, "str", true, rfl, hv, by rw [ed]; exact kit_ss K, true, rfl, iteT ⟨_, rfl, q H (Grow.refl H)⟩⟩
    · have hl' : Kd.leaf k = false := by simpa using hl
      refine ⟨_, rfl, k.dt, _, "str", false, rfl, hv, by rw [ty_kids hl']; exact G.ts, false, rfl, iteF ?_⟩
      obtain ⟨a, ws, rfl, ha, hw⟩ := at_kids hl' hv
      refine ⟨rfl, _, rfl, a, _, _, .str (Kd.wd k), rfl, rfl, ha, atI_nat (j := 0) rfl, (by show 1 ≤ sizeLine; decide), fun l1 hl1 => ?_⟩
      have g1 : Grow H (upd H l1 (.lst [.str (Kd.wd k)])) := Grow.put hl1
      have e1 : (upd H l1 (.lst [.str (Kd.wd k)])) l1 = some (.lst [.str (Kd.wd k)]) := upd_same
      generalize upd H l1 (.lst [.str (Kd.wd k)]) = H1 at g1 e1 ⊢
      refine ⟨_, rfl, _, rfl, a, _, rfl, SqT.mono g1.same ha, cut1_not _ _, fun t0 ht0 => ?_⟩
      rw [cut1]
      have g2 : Grow H1 (upd H1 t0 (.tup ws)) := Grow.put ht0
      have e2 : SqT K (upd H1 t0 (.tup ws)) t0 ws := SqT.of upd_same
      generalize upd H1 t0 (.tup ws) = H2 at g2 e2 ⊢
      refine ⟨t0, rfl, ⟨_, e2⟩, fun D0 hD0 => ?_⟩
      refine kids_lc (n := n) (R := _) hd hz hl' (hw.mono (g1.trans g2).same) e2 hD0 fun H3 g3 e3 => ?_
      have g03 := (g1.trans g2).trans g3
      refine ⟨l1, D0, _, _, rfl, rfl, (g2.trans g3).same _ _ e1, e3, ?_, fun l4 hl4 => ?_⟩
      · have := (kids_facts hl').1
        rw [sizeLine_eq]; simp; omega
      have g4 : Grow H3 (upd H3 l4 (.lst ([.str (Kd.wd k)] ++ ((Kd.kids k).map txt).map V.str))) := Grow.put hl4
      have e4 : SqL K (upd H3 l4 (.lst ([.str (Kd.wd k)] ++ ((Kd.kids k).map txt).map V.str))) l4 ((Kd.wd k :: (Kd.kids k).map txt).map V.str) := SqL.of upd_same
      generalize upd H3 l4 (.lst ([.str (Kd.wd k)] ++ ((Kd.kids k).map txt).map V.str)) = H4 at g4 e4 ⊢
      have hj := join_ok hl' hz
      have hjl := join_len (Kd.wd k :: (Kd.kids k).map txt)
      have lsp : (" " : Str).length ≤ 16 := by decide
      refine ⟨" ", l4, Kd.wd k :: (Kd.kids k).map txt, rfl, rfl, e4, lsp, by omega, ?_⟩
      have lz : sizeLine = 16777216 := sizeLine_eq
      refine ⟨_, _, rfl, rfl, by rw [len1.1]; omega, _, _, rfl, rfl, ?_, ?_⟩
      · rw [Str.length_append, len1.1, len1.2.1]; omega
      · rw [← txt_kids hl']
        exact q H4 (g03.trans g4)
end
end K13
set_option maxRecDepth 100000
set_option linter.all false
set_option Elab.async false
set_option maxHeartbeats 4000000
namespace K13
open PySem L2 PyProof Dt
structure Df (K : PySem.W.Frag) (mg : Str → Option Value) (x : Str) (st : Stmt) (ps : List Str) (f : Addr) (fd : FuncData) : Prop where
  fn : FunD K x x st .none f fd
  at_ : mg x = some (.ref f)
  bi : Binds K fd ps []
section
variable {P : Program} {w : World} {K : PySem.W.Frag} {mg : Str → Option Value} {base : Heap} {f : Addr} {fd : FuncData} {x : Str} {st : Stmt} {ps : List Str} {k : Nat} {sp : Sp}
theorem Df.kn (d : Df K mg x st ps f fd) (h : FnOk P w K mg base (CXE P w) k f fd ps sp) : Kn P w K mg base k x ps sp := ⟨f, fd, h, d.at_, d.fn.kp, d.bi⟩
theorem Df.at (d : Df K mg x st ps f fd) (h : FnOk P w K mg base (CXE P w) k f fd ps sp) : At P w K mg base k f ps sp := ⟨fd, h, d.fn.kp, d.bi⟩
end
section
variable {P : Program} {w : World} {K : PySem.W.Frag} {mg : Str → Option Value} {base : Heap}
variable {fFit fLet fFn fRec fON fOpd fCall fIf fLetC fFnC fCode fKT fLKT : Addr} {dFit dLet dFn dRec dON dOpd dCall dIf dLetC dFnC dCode dKT dLKT : FuncData}
theorem fit_all (F : Df K mg "fitted" sFit psF fFit dFit) (FL : Df K mg "let_kind" sLetK psF fLet dLet) (FN : Df K mg "fn_kind" sFnK psF fFn dFn) (FR : Df K mg "rec_kind" sRecK psF fRec dRec) (G : GlF P w K mg base fLet fFn fRec) (GV : Kn P w K mg base 1 "values_behind" ["part", "sort"] (spVB K)) (GR : Kn P w K mg base 1 "require" ["holds"] spReq) (GU : Kn P w K mg base 1 "looked_up" ["scope", "name"] spLU) (GP : Kn P w K mg base 1 "pair_kind" ["kinds", "pairs"] (spPK K)) (GW : Kn P w K mg base 1 "with_name" ["scope", "name", "bound"] spWN) :
    ∀ n, Kn P w K mg base (2 * n + 2) "fitted" psF (spFit K n)
  | 0 => F.kn (ok_fit0 F.fn)
  | n + 1 => by
    have ih := fit_all F FL FN FR G GV GR GU GP GW n
    exact F.kn (ok_fit F.fn G GV GR GU GP (FL.at (ok_let FL.fn ih GW)) (FN.at (ok_fn FN.fn ih GW)) (FR.at (ok_rec FR.fn ih GW GR)) ih)
theorem on_all (F : Df K mg "outside_names" sON ["part"] fON dON) (G : GlO mg) (GV : Kn P w K mg base 1 "values_behind" ["part", "sort"] (spVB K)) (GB : Kn P w K mg base 2 "names_bound" ["part"] (spNB K)) : ∀ n, Kn P w K mg base (n + 2) "outside_names" ["part"] (spON K n)
  | 0 => F.kn (ok_on0 F.fn)
  | n + 1 => F.kn (ok_on F.fn G GV GB (on_all F G GV GB n))
theorem code_all {tb : Addr} (F : Df K mg "code_of" sCode ps4 fCode dCode) (FO : Df K mg "operands_code" sOpd ["part", "slots", "height"] fOpd dOpd) (FC : Df K mg "call_code" sCallC ps4 fCall dCall) (FI : Df K mg "if_code" sIfC ps4 fIf dIf) (FL : Df K mg "let_code" sLetC ps4 fLetC dLetC) (FF : Df K mg "function_code" sFnC ["part", "slots"] fFnC dFnC) (G : GlC mg)
    (mP : mg "PLACED_CODES" = some (.ref tb)) (T1 : TabS K tb (pkeys.zip [.ref fCall, .ref fIf, .ref fIf, .ref fIf, .ref fLetC])) (GV : Kn P w K mg base 1 "values_behind" ["part", "sort"] (spVB K)) (GB : Kn P w K mg base 2 "names_bound" ["part"] (spNB K)) (GU : Kn P w K mg base 1 "looked_up" ["scope", "name"] spLU) (GW : Kn P w K mg base 1 "with_name" ["scope", "name", "bound"] spWN)
    (GA : Kn P w K mg base 1 "as_if" ["part"] (spAI K)) (GVa : Kn P w K mg base 2 "value_code" ["part", "slots"] (spVal K)) (GO : ∀ n, Kn P w K mg base (n + 2) "outside_names" ["part"] (spON K n)) : ∀ n, Kn P w K mg base (3 * n + 4) "code_of" ps4 (spCode K n)
  | 0 => F.kn (ok_code0 F.fn)
  | n + 1 => by
    have ih := code_all F FO FC FI FL FF G mP T1 GV GB GU GW GA GVa GO n
    have o := FO.kn (ok_opd FO.fn G.enumerate GV ih)
    exact F.kn (ok_code F.fn mP T1 (FC.at (ok_callC FC.fn o)) (FI.at (ok_ifC FI.fn G.len GA ih)) (FL.at (ok_letC FL.fn GW ih)) (FF.kn (ok_fnC FF.fn G GU GB (GO (n + 1)) ih)) GVa o)
theorem kt_all (F : Df K mg "kind_text" sKT ["kind"] fKT dKT) (G : GlS K mg) : ∀ n, Kn P w K mg base (n + 1) "kind_text" ["kind"] (spKT K n)
  | 0 => F.kn (ok_kt0 F.fn)
  | n + 1 => F.kn (ok_kt F.fn G (kt_all F G n))
theorem lkt_all (F : Df K mg "_law_kind_text" sLKT ["_law_kind_here"] fLKT dLKT) (G : GlS K mg) : ∀ n, Kn P w K mg base (n + 1) "_law_kind_text" ["_law_kind_here"] (spKT K n)
  | 0 => F.kn (ok_lkt0 F.fn)
  | n + 1 => F.kn (ok_lkt F.fn G (lkt_all F G n))
end
section
variable {P : Program} {w : World} {K : PySem.W.Frag} {mg : Str → Option Value} {base : Heap} {f : Addr} {fd : FuncData}
def spKO (K : PySem.W.Frag) : Sp := fun vs H Q _ => ∃ (v : V) (p : Pt) (κ : Kd), vs = [v] ∧ DtAt K H p.dt v ∧ p.deep < 70 ∧ p.sz ≤ 50000 ∧ Pt.Has [] p κ ∧ ∀ u H', Grow H H' → DtAt K H' κ.dt u → Q u H'
theorem scKO : FnScope ["part"] ["part"] (defScope sKO) := ⟨rfl, rfl, rfl, by decide +kernel, rfl, by decide +kernel, by decide +kernel⟩
theorem ok_ko (F : FunD K "kind_of" "kind_of" sKO .none f fd) (GF : Kn P w K mg base 142 "fitted" psF (spFit K 70)) : FnOk P w K mg base (CXE P w) 143 f fd ["part"] (spKO K) := by
  refine F.ok0 scKO (fun vs H Q E h => ?_) (fun cdv A outer s H vs Q E hr h => ?_)
  · obtain ⟨v, p, κ, rfl, _⟩ := h
    rfl
  · obtain ⟨v, p, κ, rfl, hp, hd, hz, hh, q⟩ := h
    refine ⟨_, pss_one (ps_ret (pe_k GF hr (pa_cons (pv 0) (pa_cons pe_dnewK (pa_cons (pe_lst pa_nil) pa_nil))))), ?_⟩
    refine ⟨_, rfl, fun d hd1 => ?_⟩
    have g1 : Grow H (upd H d (.dK [])) := Grow.put hd1
    have e1 : (upd H d (.dK [])) d = some (.dK []) := upd_same
    generalize upd H d (.dK []) = H1 at g1 e1 ⊢
    refine ⟨(by show 0 ≤ sizeLine; decide), fun l hl => ?_⟩
    have g2 : Grow H1 (upd H1 l (.lst [])) := Grow.put hl
    have e2 : (upd H1 l (.lst [])) l = some (.lst []) := upd_same
    have e1 := g2.same _ _ e1
    generalize upd H1 l (.lst []) = H2 at g2 e1 e2 ⊢
    have g12 := g1.trans g2
    refine ⟨v, d, l, p, [], κ, 0, 0, rfl, hp.mono g12.same, hd, hh, ⟨[], e1, by simp, fun x k h => by cases h⟩, by omega, ⟨[], [], e2, nil_ats, (fun k h => by cases h), by simp⟩, by omega, fun u H3 g3 _ hu => ?_⟩
    exact q u H3 (GrowB.of_new g12 g3 (g1.none _ hl)) hu
def spCm (K : PySem.W.Frag) : Sp := fun vs H Q _ => ∃ (v : V) (p : Pt) (κ : Kd), vs = [v] ∧ DtAt K H p.dt v ∧ p.deep < 70 ∧ p.sz ≤ 50000 ∧ Pt.Has [] p κ ∧ ∀ l ys H', Grow H H' → H' l = some (.lst ys) → Q (.ref l) H'
theorem scCm : FnScope ["part"] ["part"] (defScope sComp) := ⟨rfl, rfl, rfl, by decide +kernel, rfl, by decide +kernel, by decide +kernel⟩
theorem ok_cm (F : FunD K "compiled" "compiled" sComp .none f fd) (GK : Kn P w K mg base 143 "kind_of" ["part"] (spKO K)) (GC : Kn P w K mg base 214 "code_of" ps4 (spCode K 70)) : FnOk P w K mg base (CXE P w) 215 f fd ["part"] (spCm K) := by
  refine F.ok0 scCm (fun vs H Q E h => ?_) (fun cdv A outer s H vs Q E hr h => ?_)
  · obtain ⟨v, p, κ, rfl, _⟩ := h
    rfl
  · obtain ⟨v, p, κ, rfl, hp, hd, hz, hh, q⟩ := h
    refine ⟨_, pss_cons (ps_expr (pe_k GK (hr.mono (by omega)) (pa_cons (pv 0) pa_nil))) (pss_one (ps_ret (pe_k GC hr (pa_cons (pv 0) (pa_cons pe_dnewK (pa_cons pe_int (pa_cons pe_bl pa_nil))))))), ?_⟩
    refine ⟨_, rfl, v, p, κ, rfl, hp, hd, hz, hh, fun u H1 g1 _ => ?_⟩
    refine ⟨_, rfl, fun d hd1 => ?_⟩
    have g2 : Grow H1 (upd H1 d (.dK [])) := Grow.put hd1
    have e1 : (upd H1 d (.dK [])) d = some (.dK []) := upd_same
    generalize upd H1 d (.dK []) = H2 at g2 e1 ⊢
    have g12 := g1.trans g2
    refine ⟨v, d, 0, true, p, rfl, hp.mono g12.same, hd, hz, ⟨[], e1, by simp; omega, fun x hx => ?_⟩, fun l ys H3 g3 _ e3 _ => q l ys H3 (g12.trans g3) e3⟩
    obtain ⟨l, hl⟩ := hh.fv x hx
    cases hl
end
end K13
set_option maxRecDepth 100000
set_option linter.all false
set_option Elab.async false
set_option maxHeartbeats 4000000
namespace K13
open PySem L2 PyProof Dt
abbrev sCell : Stmt := top 46
abbrev sDrawn : Stmt := top 47
abbrev sLK : Stmt := top 48
abbrev sNum : Stmt := top 49
abbrev sLeaf : Stmt := top 50
abbrev sBnd : Stmt := top 51
abbrev sTwo : Stmt := top 52
abbrev sOK : Stmt := top 53
abbrev sLoop : Stmt := top 54
abbrev sPart : Stmt := top 55
abbrev sAround : Stmt := top 58
abbrev sLaw : Stmt := top 59
structure GlL (mg : Str → Option Value) : Prop where
  len : mg "len" = none
  int : mg "int" = none
  max : mg "max" = none
  min : mg "min" = none
  range : mg "range" = none
section
variable {P : Program} {w : World} {K : PySem.W.Frag} {mg : Str → Option Value} {base : Heap}
def spCell (K : PySem.W.Frag) : Sp := fun vs H Q _ => ∃ (a : Addr) (ns : List Int) (k : Int), vs = [.ref a, .int k] ∧ SqL K H a (ns.map V.int) ∧ ns.length ≤ 63 ∧ ∀ (z : Int) (H' : Hp), Grow H H' → Q (.int z) H'
theorem scCe : FnScope ["_law_script", "_law_k"] ["_law_script", "_law_k"] (defScope sCell) := ⟨rfl, rfl, rfl, by decide +kernel, rfl, by decide +kernel, by decide +kernel⟩
theorem ok_cell {f : Addr} {fd : FuncData} (F : FunD K "_law_cell" "_law_cell" sCell .none f fd) (G : GlL mg) : FnOk P w K mg base (CXE P w) 1 f fd ["_law_script", "_law_k"] (spCell K) := by
  refine F.ok0 scCe (fun vs H Q E h => ?_) (fun cdv A outer s H vs Q E hr h => ?_)
  · obtain ⟨a, ns, k, rfl, _⟩ := h
    rfl
  · obtain ⟨a, ns, k, rfl, hS, hn, q⟩ := h
    refine ⟨_, pss_cons (ps_if (pt_cmpR (op_eqNil hr.units0) (pv 0) (pe_lst pa_nil) (nomark _)) (pss_one (ps_ret (pe_op op_mul (pv 1) pe_int))) pss_nil)
      (pss_one (ps_ret (pe_op op_add (pe_ix ix_list (pv 0) (pe_op op_mod (pv 1) (pe_callB call_len_seq (by rfl) G.len PySem.boot_len (pa_cons (pv 0) pa_nil))) (fun _ _ => rfl))
        (pe_op op_mul (pe_op op_fdiv (pv 1) (pe_callB call_len_seq (by rfl) G.len PySem.boot_len (pa_cons (pv 0) pa_nil))) pe_int)))), ?_⟩
    refine ⟨_, rfl, (by decide), fun l hl => ?_⟩
    have g1 : Grow H (upd H l (.lst [])) := Grow.put hl
    have hS1 := g1.same.seq hS
    refine ⟨a, l, _, rfl, rfl, hS1, SqL.of upd_same, _, rfl, ?_⟩
    refine ite2 (fun _ => ?_) (fun h => ?_)
    · exact ⟨_, rfl, _, _, rfl, rfl, .inr ⟨by decide, by decide⟩, q _ _ g1⟩
    · have hne : ns ≠ [] := fun e => h (by rw [e]; rfl)
      have hpos : 0 < ns.length := List.length_pos_iff.mpr hne
      have hlp : (0 : Int) < ((ns.map V.int).length : Nat) := by rw [List.length_map]; omega
      have h0 : 0 ≤ k % ((ns.map V.int).length : Nat) := Int.emod_nonneg _ (by omega)
      have h1 : k % ((ns.map V.int).length : Nat) < ((ns.map V.int).length : Nat) := Int.emod_lt_of_pos _ hlp
      obtain ⟨j, hj⟩ : ∃ j : Nat, k % ((ns.map V.int).length : Nat) = (j : Int) := ⟨(k % ((ns.map V.int).length : Nat)).toNat, by omega⟩
      have hjl : j < ns.length := by rw [hj, List.length_map] at h1; omega
      have hv : (ns.map V.int)[j]? = some (V.int ns[j]) := by rw [List.getElem?_map, List.getElem?_eq_getElem hjl]; rfl
      refine ⟨_, rfl, _, rfl, _, rfl, a, _, rfl, .inl hS1, _, _, rfl, rfl, hlp, a, _, _, .int ns[j], rfl, rfl, hS1, ?_, ?_⟩
      · rw [hj]; exact atI_nat hv
      · refine ⟨_, rfl, _, rfl, a, _, rfl, .inl hS1, _, _, rfl, rfl, ⟨hlp, ?_⟩, _, _, rfl, rfl, .inr ⟨by decide, by decide⟩, _, _, rfl, rfl, q _ _ g1⟩
        show (((ns.map V.int).length : Nat) : Int) < 1073741824
        rw [List.length_map]; omega
def spDrawn : Sp := fun vs H Q _ => ∃ (c k : Int), vs = [.int c, .int k] ∧ ∀ z : Int, 0 ≤ z → Q (.int z) H
theorem scDr : FnScope ["_law_cell_here", "_law_k", "_law_more"] ["_law_cell_here", "_law_k"] (defScope sDrawn) := ⟨rfl, rfl, rfl, by decide +kernel, rfl, by decide +kernel, by decide +kernel⟩
theorem ok_drawn {f : Addr} {fd : FuncData} (F : FunD K "_law_drawn" "_law_drawn" sDrawn .none f fd) : FnOk P w K mg base (CXE P w) 1 f fd ["_law_cell_here", "_law_k"] spDrawn := by
  refine F.ok0 scDr (fun vs H Q E h => ?_) (fun cdv A outer s H vs Q E hr h => ?_)
  · obtain ⟨c, k, rfl, _⟩ := h
    rfl
  · obtain ⟨c, k, rfl, q⟩ := h
    refine ⟨_, pss_cons (ps_set (i := 2) scDr.nd rfl (Or.inl rfl) (pe_op op_mod (pe_op op_add (pe_op op_mul (pv 0) pe_int) (pe_op op_mul (pe_op op_add (pv 1) pe_int) pe_int)) pe_int))
      (pss_one (ps_ret (pe_op op_mod (pe_op op_mulI (pv 2) (pv 2)) pe_int))), ?_⟩
    refine ⟨_, rfl, _, _, rfl, rfl, .inr ⟨by decide, by decide⟩, _, rfl, _, _, rfl, rfl, _, _, rfl, rfl, .inr ⟨by decide, by decide⟩, _, _, rfl, rfl, _, _, rfl, rfl, (by show (0 : Int) < 340282366920938463463374607431768211507; decide), ?_⟩
    obtain ⟨m, hm⟩ : ∃ m, (c * 6364136223846793005 + (k + 1) * 1442695040888963407) % 340282366920938463463374607431768211507 = m := ⟨_, rfl⟩
    have m0 : 0 ≤ m := by rw [← hm]; exact Int.emod_nonneg _ (by decide)
    have m1 : m < 340282366920938463463374607431768211507 := by rw [← hm]; exact Int.emod_lt_of_pos _ (by decide)
    have hb : Builtin.Int.intBits m ≤ 129 := intBits_le_iff.mpr (by
      have : m.natAbs < 340282366920938463463374607431768211507 := by omega
      exact Nat.lt_trans this (by decide))
    rw [← hm] at hb
    refine ⟨_, rfl, _, rfl, _, _, rfl, rfl, IntMulOk.of_le (m := 129) (n := 129) hb hb (by decide), _, _, rfl, rfl, (by show (0 : Int) < 340282366920938463463374607431768211297; decide), ?_⟩
    exact q _ (Int.emod_nonneg _ (by decide))
theorem atI_mod {xs : List V} {n : Int} (hn : (xs.length : Int) = n) (h0 : 0 < n) (z : Int) : ∃ v, v ∈ xs ∧ atI xs (z % n) = some v := by
  have h1 : 0 ≤ z % n := Int.emod_nonneg _ (by omega)
  have h2 : z % n < n := Int.emod_lt_of_pos _ h0
  obtain ⟨j, hj⟩ : ∃ j : Nat, z % n = (j : Int) := ⟨(z % n).toNat, by omega⟩
  have hl : j < xs.length := by omega
  exact ⟨xs[j], List.getElem_mem hl, by rw [hj]; exact atI_nat (List.getElem?_eq_getElem hl)⟩
variable {f : Addr} {fd : FuncData}
def spNum : Sp := fun vs H Q _ => ∃ m : Int, vs = [.int m] ∧ ∀ n H', Grow H H' → Q (.int n) H'
theorem scNum : FnScope ["_law_more"] ["_law_more"] (defScope sNum) := ⟨rfl, rfl, rfl, by decide +kernel, rfl, by decide +kernel, by decide +kernel⟩
theorem ok_num (F : FunD K "_law_number" "_law_number" sNum .none f fd) : FnOk P w K mg base (CXE P w) 1 f fd ["_law_more"] spNum := by
  refine F.ok0 scNum (fun vs H Q E h => ?_) (fun cdv A outer s H vs Q E hr h => ?_)
  · obtain ⟨m, rfl, _⟩ := h
    rfl
  · obtain ⟨m, rfl, q⟩ := h
    refine ⟨_, pss_one (ps_ret (pe_ix ix_list (pe_lst (pa_cons (pe_op op_sub (pe_op op_mod (pv 0) pe_int) pe_int) (pa_cons (pe_op op_mod (pv 0) pe_int) (pa_cons (pe_op op_sub pe_int (pe_op op_mod (pv 0) pe_int)) (pa_cons (pe_op op_sub (pe_op op_mod (pv 0) pe_int) pe_int) pa_nil)))))
      (pe_op op_mod (pe_op op_fdiv (pv 0) pe_int) pe_int) (fun _ _ => rfl))), ?_⟩
    refine ⟨_, rfl, _, _, rfl, rfl, (by show (0 : Int) < _; decide), _, _, rfl, rfl, _, rfl, _, _, rfl, rfl, (by show (0 : Int) < _; decide), _, rfl, _, _, rfl, rfl, (by show (0 : Int) < _; decide), _, _, rfl, rfl, _, rfl, _, _, rfl, rfl, (by show (0 : Int) < _; decide), _, _, rfl, rfl, (by show 4 ≤ sizeLine; decide), fun l hl => ?_⟩
    obtain ⟨v, hv, ha⟩ := atI_mod (xs := [.int (m % 7 - 3), .int (m % 1000), .int (9223372036854775807 - m % 2), .int (m % 2 - 9223372036854775808)]) (n := 4) rfl (by decide) (m / 8)
    refine ⟨_, rfl, _, _, rfl, rfl, ⟨by decide, by decide⟩, _, _, rfl, rfl, (by show (0 : Int) < _; decide), l, _, _, v, rfl, rfl, SqL.of upd_same, ha, ?_⟩
    have g := Grow.put (o := .lst [.int (m % 7 - 3), .int (m % 1000), .int (9223372036854775807 - m % 2), .int (m % 2 - 9223372036854775808)]) hl
    simp only [List.mem_cons, List.not_mem_nil, or_false] at hv
    rcases hv with rfl | rfl | rfl | rfl
    · exact q _ _ g
    · exact q _ _ g
    · exact q _ _ g
    · exact q _ _ g
def spLK (K : PySem.W.Frag) (n : Nat) : Sp := fun vs H Q _ => ∃ (m : Int) (d : Nat), vs = [.int m, .int d] ∧ d < n ∧ ∀ v k H', Grow H H' → DtAt K H' (Kd.dt k) v → k.sz < 2 ^ (d + 1) → Q v H'
theorem scLK : FnScope ["_law_more", "_law_deep", "_law_word"] ["_law_more", "_law_deep"] (defScope sLK) := ⟨rfl, rfl, rfl, by decide +kernel, rfl, by decide +kernel, by decide +kernel⟩
theorem ok_lk0 (F : FunD K "_law_kind" "_law_kind" sLK .none f fd) : FnOk P w K mg base (CXE P w) (0 + 1) f fd ["_law_more", "_law_deep"] (spLK K 0) := by
  refine F.ok0 scLK (fun vs H Q E h => ?_) (fun cdv A outer s H vs Q E hr h => ?_)
  · obtain ⟨m, d, rfl, _⟩ := h
    rfl
  · obtain ⟨m, d, rfl, hd, _⟩ := h
    exact absurd hd (Nat.not_lt_zero _)
theorem ok_lk {n : Nat} (F : FunD K "_law_kind" "_law_kind" sLK .none f fd) (GK : Kn P w K mg base (n + 1) "_law_kind" ["_law_more", "_law_deep"] (spLK K n)) : FnOk P w K mg base (CXE P w) (n + 1 + 1) f fd ["_law_more", "_law_deep"] (spLK K (n + 1)) := by
  refine F.ok0 scLK (fun vs H Q E h => ?_) (fun cdv A outer s H vs Q E hr h => ?_)
  · obtain ⟨m, d, rfl, _⟩ := h
    rfl
  · obtain ⟨m, d, rfl, hd, q⟩ := h
    refine ⟨_, pss_cons (ps_if (pw_or (pt_cmpR op_eq (pv 1) pe_int (nomark _)) (pw_or1 (pt_cmpR op_eq (pe_op op_mod (pv 0) pe_int) pe_int (nomark _)))).pt (pss_one (ps_ret (pe_ix ix_list (pe_lst (pa_cons pe_str (pa_cons pe_str (pa_cons pe_str pa_nil)))) (pe_op op_mod (pe_op op_fdiv (pv 0) pe_int) pe_int) (fun _ _ => rfl)))) pss_nil)
      (pss_cons (ps_if (pt_cmpR op_eq (pe_op op_mod (pe_op op_fdiv (pv 0) pe_int) pe_int) pe_int (nomark _)) (pss_one (ps_ret (pe_tup (pa_cons pe_str (pa_cons (pe_k GK hr (pa_cons (pe_op op_fdiv (pv 0) pe_int) (pa_cons (pe_op op_sub (pv 1) pe_int) pa_nil))) pa_nil))))) pss_nil)
      (pss_cons (ps_set (i := 2) scLK.nd rfl (Or.inl rfl) (pe_ix ix_list (pe_lst (pa_cons pe_str (pa_cons pe_str pa_nil))) (pe_op op_mod (pe_op op_fdiv (pv 0) pe_int) pe_int) (fun _ _ => rfl)))
      (pss_one (ps_ret (pe_tup (pa_cons (pv 2) (pa_cons (pe_k GK hr (pa_cons (pe_op op_fdiv (pv 0) pe_int) (pa_cons (pe_op op_sub (pv 1) pe_int) pa_nil))) (pa_cons (pe_k GK hr (pa_cons (pe_op op_fdiv (pv 0) pe_int) (pa_cons (pe_op op_sub (pv 1) pe_int) pa_nil))) pa_nil)))))))), ?_⟩
    have pw : 2 ^ (d + 1) = 2 * 2 ^ d := by rw [Nat.pow_succ]; omega
    have pp : 0 < 2 ^ d := Nat.two_pow_pos d
    refine ⟨_, rfl, rfl, _, rfl, ite2 (fun _ => iteT ?a) (fun hA => ⟨_, rfl, _, _, rfl, rfl, (by show (0 : Int) < _; decide), rfl, _, rfl, ite2 (fun _ => ?b) (fun hB => ?c)⟩)⟩
    case a | b =>
      refine ⟨(by show 3 ≤ sizeLine; decide), fun l hl => ?_⟩
      obtain ⟨v, hv, ha⟩ := atI_mod (xs := [.str "int", .str "bool", .str "int"]) (n := 3) rfl (by decide) (m / 3)
      refine ⟨_, rfl, _, _, rfl, rfl, ⟨by decide, by decide⟩, _, _, rfl, rfl, (by show (0 : Int) < _; decide), l, _, _, v, rfl, rfl, SqL.of upd_same, ha, ?_⟩
      have g := Grow.put (o := .lst [.str "int", .str "bool", .str "int"]) hl
      simp only [List.mem_cons, List.not_mem_nil, or_false] at hv
      rcases hv with rfl | rfl | rfl
      · exact q _ .int _ g (str_at _) (by rw [Kd.sz]; omega)
      · exact q _ .bool _ g (str_at _) (by rw [Kd.sz]; omega)
      · exact q _ .int _ g (str_at _) (by rw [Kd.sz]; omega)
    case c =>
      have hd0 : d ≠ 0 := fun z => hA (by subst z; rfl)
      obtain ⟨e, rfl⟩ : ∃ e, d = e + 1 := ⟨d - 1, by omega⟩
      have ed : ((e + 1 : Nat) : Int) - 1 = (e : Int) := by omega
      refine ⟨_, rfl, _, _, rfl, rfl, ⟨by decide, by decide⟩, _, _, rfl, rfl, (by show (0 : Int) < _; decide), rfl, _, rfl, ite2 (fun _ => ?_) (fun _ => ?_)⟩
      · refine ⟨_, rfl, _, _, rfl, rfl, ⟨by decide, by decide⟩, _, rfl, _, _, rfl, rfl, _, e, (by show [V.int _, V.int (((e + 1 : Nat) : Int) - 1)] = _; rw [ed]), by omega, fun v k H1 g1 hv hk => ?_⟩
        refine ⟨(by show 2 ≤ sizeLine; decide), fun t ht => ?_⟩
        have g2 : Grow H1 (upd H1 t (.tup [.str "list", v])) := Grow.put ht
        exact q _ (.list k) _ (g1.trans g2) (w1_at (SqT.of upd_same) (hv.mono g2.same)) (by rw [Kd.sz]; omega)
      · refine ⟨(by show 2 ≤ sizeLine; decide), fun l hl => ?_⟩
        obtain ⟨u, hu, ha⟩ := atI_mod (xs := [.str "pair", .str "fun"]) (n := 2) rfl (by decide) (m / 9)
        have g0 := Grow.put (o := .lst [.str "pair", .str "fun"]) hl
        refine ⟨_, rfl, _, _, rfl, rfl, ⟨by decide, by decide⟩, _, _, rfl, rfl, (by show (0 : Int) < _; decide), l, _, _, u, rfl, rfl, SqL.of upd_same, ha, ?_⟩
        dsimp only [gName, List.set]
        generalize upd H l (.lst [.str "pair", .str "fun"]) = H0 at g0 ⊢
        refine ⟨_, rfl, _, rfl, _, _, rfl, rfl, ⟨by decide, by decide⟩, _, rfl, _, _, rfl, rfl, _, e, (by show [V.int _, V.int (((e + 1 : Nat) : Int) - 1)] = _; rw [ed]), by omega, fun v k H1 g1 hv hk => ?_⟩
        refine ⟨_, rfl, _, _, rfl, rfl, ⟨by decide, by decide⟩, _, rfl, _, _, rfl, rfl, _, e, (by show [V.int _, V.int (((e + 1 : Nat) : Int) - 1)] = _; rw [ed]), by omega, fun v2 k2 H2 g2 hv2 hk2 => ?_⟩
        refine ⟨(by show 3 ≤ sizeLine; decide), fun t ht => ?_⟩
        have g3 : Grow H2 (upd H2 t (.tup [u, v, v2])) := Grow.put ht
        have g03 := ((g0.trans g1).trans g2).trans g3
        simp only [List.mem_cons, List.not_mem_nil, or_false] at hu
        rcases hu with rfl | rfl
        · exact q _ (.pair k k2) _ g03 (w2_at (SqT.of upd_same) (hv.mono (g2.trans g3).same) (hv2.mono g3.same)) (by rw [Kd.sz]; omega)
        · exact q _ (.fn k k2) _ g03 (w2_at (SqT.of upd_same) (hv.mono (g2.trans g3).same) (hv2.mono g3.same)) (by rw [Kd.sz]; omega)
end
end K13
set_option maxRecDepth 100000
set_option linter.all false
set_option Elab.async false
set_option maxHeartbeats 4000000
namespace L2
open PySem PySem.Spec PyProof.Rows PyProof Dt
theorem iteNo {b : Bool} {A B : Prop} (hb : b = false) (h : B) : if b = true then A else B := by subst hb; exact iteF h
theorem iteYes {b : Bool} {A B : Prop} (hb : b = true) (h : A) : if b = true then A else B := by subst hb; exact iteT h
section
variable {X : Cx}
theorem op_eqDK {n : Nat} (K : PySem.W.Frag) (hK : X.K = K) (hu : X.A.units + n < cLine) : OpR X (compareOp .Eq) (fun x y H Q => ∃ d e, DtAt K H d x ∧ DtAt K H e y ∧ dep d ≤ n ∧ Q (.bl (eqD d e)) H) := by
  subst hK
  intro pins s σ H x y v u Q I rx ry h
  obtain ⟨d, e, h1, h2, hn, q⟩ := h
  exact op_eqD pins s σ H x y v u Q I rx ry ⟨d, e, h1, h2, by omega, q⟩
theorem op_neNil (hu : X.A.units < cLine) : OpR X (compareOp .NotEq) (fun x y H Q => ∃ p q xs, x = .ref p ∧ y = .ref q ∧ SqL X.K H p xs ∧ SqL X.K H q [] ∧ Q (.bl (!xs.isEmpty)) H) := by
  intro pins s σ H x y v u Q I rx ry h
  obtain ⟨p, q', xs, rfl, rfl, h1, h2, q⟩ := h
  cases rx
  cases ry
  obtain ⟨its, r1, p1, _⟩ := I.list h1
  obtain ⟨its2, r2, p2, _⟩ := I.list h2
  cases r2
  cases r1 with
  | nil => exact SeqAt.RcNeAt.lists (e := fun _ => true) p1.isList p2.isList rfl hu (fun j h _ => absurd h (by simp)) X.prog X.w X.xe _ ⟨.bl false, H, I, rfl, q⟩
  | cons a b => exact SeqAt.RcNeAt.lists_lengths p1.isList p2.isList (by simp) hu X.prog X.w X.xe _ ⟨.bl true, H, I, rfl, q⟩
variable {scope : Scope} {cl : List (Str × Addr)} {own rest : List Str} {ix : List Nat}
theorem ps_setLCI {elt iter tg c : Expr} {pos spos py : Pos} {wi : TI} {te : TE} {g : TG} {tc : TT} {i : Nat} {x : Str} (hN : X.N.Nodup) (hi' : X.N[i]? = some x) (hx : Loc X.env.scope x) (ok : CmpG X scope cl own rest ix) (hc : X.calm = true) (hi : PI X tg iter wi)
    (he : ∀ (C : Addr) (s : Shared) (H : Hp) (fp : List Addr) (pins : List (Addr × Obj)), PE (cxC X scope cl (own ++ rest) C s H fp pins) elt te) (hg : ∀ (C : Addr) (s : Shared) (H : Hp) (fp : List Addr) (pins : List (Addr × Obj)), PG (cxC X scope cl (own ++ rest) C s H fp pins) tg g)
    (hif : ∀ (C : Addr) (s : Shared) (H : Hp) (fp : List Addr) (pins : List (Addr × Obj)), PT (cxC X scope cl (own ++ rest) C s H fp pins) c tc)
    (hsw : swapsWith (.ListComp elt [⟨tg, iter, [c], 0⟩] scope pos) (some (.Name x py)) spos.line X.env = pure true) (hf : X.fn x = true ∨ X.env.scope.names.lookup x = some .local)
    (hs : ∀ x, foldedSetIterable iter X.env x = pure x := by intro _; rfl) : PS X (.Assign [.Name x py] (.ListComp elt [⟨tg, iter, [c], 0⟩] scope pos) spos) (tAsg (tLCG wi g (some tc) te own.length ix) (gName i)) := ps_setLC (tc := some tc) hN hi' hx ok hc hi he hg hif hsw hf hs
end
theorem lc_pairs {K : PySem.W.Frag} {a : Addr} {xs : List V} {te : TE} {tc : TT} {ix : List Nat} {σ : St} {H : Hp} {D : Addr} {R : Hp → Prop} (Pv : Nat → List V → Hp → Prop) (h0 : Pv 0 [] (upd H D (.lst []))) (hx : ∀ i ys H', i ≤ xs.length → Pv i ys H' → SqL K H' a xs)
    (he : ∀ i x ys H', xs[i]? = some x → Pv i ys H' → ∃ T u v, x = .ref T ∧ SqT K H' T [u, v] ∧ ∀ Q' : Bool → Hp → Prop, (∀ H5, Pv (i + 1) ys H5 → Q' false H5) →
      (∀ H5, (∀ Q'' : VK, (∀ y H6, H6 D = some (.lst ys) → ys.length < sizeLine → Pv (i + 1) (ys ++ [y]) (upd H6 D (.lst (ys ++ [y]))) → Q'' y H6) → te (blkG ix [some u, some v] σ) H5 Q'') → Q' true H5) → tc (blkG ix [some u, some v] σ) H' Q')
    (q : ∀ ys H', Pv xs.length ys H' → R H') :
    ∃ W : Nat → Nat → List V → Hp → Prop, (∃ m, W 0 m [] (upd H D (.lst []))) ∧ ∀ i m ys H2, W i m ys H2 →
      ((Itl K a).stop i H2 ∧ R H2) ∨ ((Itl K a).go i H2 ∧ ∀ (o : List (Option V)) v H3, o.length = 2 → (Itl K a).yld i H2 v H3 → gTup K 2 (gCons (gName 0) (gCons (gName 1) gNil)) v (blkG ix o σ) H3 fun σ2 H4 => (∃ o' : List (Option V), σ2 = blkG ix o' σ ∧ o'.length = 2) ∧
        ifT (some tc) σ2 H4 fun b H5 => if b = true then te σ2 H5 fun y H6 => H6 D = some (.lst ys) ∧ ys.length < sizeLine ∧ ∃ m', m' < m ∧ W (i + 1) m' (ys ++ [y]) (upd H6 D (.lst (ys ++ [y]))) else ∃ m', m' < m ∧ W (i + 1) m' ys H5) := by
  refine ⟨fun i m ys H2 => i ≤ xs.length ∧ m = xs.length - i ∧ Pv i ys H2, ⟨_, Nat.zero_le _, rfl, h0⟩, ?_⟩
  rintro i m ys H2 ⟨hi, rfl, p⟩
  have hx2 := hx i ys H2 hi p
  by_cases hl : i < xs.length
  · refine .inr ⟨⟨xs, xs[i], hx2, List.getElem?_eq_getElem hl⟩, fun o v H3 ho hy => ?_⟩
    obtain ⟨rfl, hv⟩ := hy
    have hv' := hv xs hx2
    obtain ⟨T, u, w, rfl, hT, hc⟩ := he i v ys _ hv' p
    match o, ho with
    | [_, _], _ =>
      refine ⟨T, _, rfl, hT, rfl, _, _, rfl, _, _, rfl, rfl, ⟨[some u, some w], rfl, rfl⟩, ?_⟩
      dsimp only [ifT]
      refine hc _ (fun H5 p5 => iteF ⟨xs.length - (i + 1), by omega, hl, rfl, p5⟩) fun H5 h5 => iteT (h5 _ fun y H6 e1 e2 p6 => ⟨e1, e2, xs.length - (i + 1), by omega, hl, rfl, p6⟩)
  · have e : i = xs.length := by omega
    subst e
    exact .inl ⟨⟨xs, hx2, Nat.le_refl _⟩, q _ _ p⟩
end L2
namespace K13
open PySem L2 PyProof Dt
def edt (e : Str × Kd) : Dt := .tup [.str e.1, e.2.dt]
def ScL (K : PySem.W.Frag) (H : Hp) (sc : Addr) (es : Cxt) : Prop := ∃ vs, H sc = some (.lst vs) ∧ DtsAt K H (es.map edt) vs ∧ ∀ e ∈ es, e.2.sz ≤ 40
def bdt (es : Cxt) (x : Str) : Dt := match es.reverse.lookup x with
  | none => .non
  | some k => k.dt
section
variable {P : Program} {w : World} {K : PySem.W.Frag} {mg : Str → Option Value} {base : Heap} {f : Addr} {fd : FuncData} {H H' : Hp} {sc : Addr} {es : Cxt}
theorem ScL.mono (h : ScL K H sc es) (g : Grow H H') : ScL K H' sc es := let ⟨vs, a, b, c⟩ := h; ⟨vs, g.same _ _ a, b.mono g.same, c⟩
theorem non_at : DtAt K H .non .non := by rw [DtAt]
theorem pair_get {vs : List V} (hv : DtsAt K H (es.map edt) vs) {i : Nat} {y : V} (hy : vs[i]? = some y) : ∃ x k T u, es[i]? = some (x, k) ∧ y = .ref T ∧ SqT K H T [.str x, u] ∧ DtAt K H k.dt u := by
  have hl : vs.length = es.length := by rw [hv.length, List.length_map]
  have hi : i < vs.length := by
    rcases Nat.lt_or_ge i vs.length with h | h
    · exact h
    · rw [List.getElem?_eq_none h] at hy; cases hy
  have he : es[i]? = some (es[i]'(by omega)) := List.getElem?_eq_getElem (by omega)
  generalize es[i]'(by omega) = e at he
  obtain ⟨y', hy', hyd⟩ := hv.get (i := i) (d := edt e) (by rw [List.getElem?_map, he]; rfl)
  rw [hy] at hy'
  cases hy'
  obtain ⟨T, u, rfl, h1, h2⟩ := at_w1 hyd
  exact ⟨e.1, e.2, T, u, he, rfl, h1, h2⟩
theorem take_rev {i : Nat} {e : Str × Kd} (he : es[i]? = some e) : (es.take (i + 1)).reverse = e :: (es.take i).reverse := by rw [List.take_add_one, he]; simp
theorem bdt_same {i : Nat} {x : Str} {k : Kd} (he : es[i]? = some (x, k)) : bdt (es.take (i + 1)) x = k.dt := by
  unfold bdt
  rw [take_rev he, List.lookup_cons, beq_self_eq_true]
theorem bdt_other {i : Nat} {x y : Str} {k : Kd} (he : es[i]? = some (x, k)) (h : ¬ x = y) : bdt (es.take (i + 1)) y = bdt (es.take i) y := by
  unfold bdt
  rw [take_rev he, List.lookup_cons, beq_eq_false_iff_ne.mpr (fun z => h z.symm)]
theorem mem_lookup {x : Str} {k : Kd} : ∀ {l : Cxt}, l.lookup x = some k → (x, k) ∈ l
  | [], h => by cases h
  | (y, j) :: l, h => by
    by_cases e : x = y
    · subst e
      rw [List.lookup_cons, beq_self_eq_true] at h
      cases h
      exact List.mem_cons_self
    · rw [List.lookup_cons, beq_eq_false_iff_ne.mpr e] at h
      exact List.mem_cons_of_mem _ (mem_lookup h)
theorem dep_bdt (x : Str) (h : ∀ e ∈ es, e.2.sz ≤ 40) : dep (bdt es x) ≤ 40 := by
  unfold bdt
  split
  · simp [dep]
  · next k hk => exact dep_kd k (h _ (List.mem_reverse.mp (mem_lookup hk)))
theorem bdt_eq {x : Str} {κ : Kd} (h : eqD (bdt es x) κ.dt = true) : es.reverse.lookup x = some κ := by
  unfold bdt at h
  split at h
  · cases κ <;> simp [Kd.dt, eqD] at h
  · next k hk => rw [Kd.eq_dt] at h; rw [hk, of_decide_eq_true h]
def spBd (K : PySem.W.Frag) : Sp := fun vs H Q _ => ∃ (x : Str) (sc : Addr) (es : Cxt), vs = [.str x, .ref sc] ∧ ScL K H sc es ∧ ∀ u, DtAt K H (bdt es x) u → Q u H
theorem scBd : FnScope ["_law_name", "_law_scope", "_law_found", "_law_one", "_law_kind_here"] ["_law_name", "_law_scope"] (defScope sBnd) := ⟨rfl, rfl, rfl, by decide +kernel, rfl, by decide +kernel, by decide +kernel⟩
theorem ok_bd (F : FunD K "_law_bound" "_law_bound" sBnd .none f fd) : FnOk P w K mg base (CXE P w) 1 f fd ["_law_name", "_law_scope"] (spBd K) := by
  refine F.ok0 scBd (fun vs H Q E h => ?_) (fun cdv A outer s H vs Q E hr h => ?_)
  · obtain ⟨x, sc, es, rfl, _⟩ := h
    rfl
  · obtain ⟨x, sc, es, rfl, ⟨ws, hsc, hds, hz⟩, q⟩ := h
    refine ⟨_, pss_cons (ps_set (i := 2) scBd.nd rfl (Or.inl rfl) pe_non)
      (pss_cons (ps_for PassesOwn.never rfl (pi_list (pv 1)) (pg_tup rfl (pgs_cons (pg_name (i := 3) scBd.nd rfl (Or.inl rfl)) (pgs_cons (pg_name (i := 4) scBd.nd rfl (Or.inl rfl)) pgs_nil)))
        (pss_one (ps_if (pt_cmpR op_eq (pv 3) (pv 0) (nomark _)) (pss_one (ps_set (i := 2) scBd.nd rfl (Or.inl rfl) (pv 4))) pss_nil)))
      (pss_one (ps_ret (pv 2)))), ?_⟩
    have hl : ws.length = es.length := by rw [hds.length, List.length_map]
    refine ⟨_, rfl, sc, rfl, ⟨_, SqL.of hsc⟩, ?_⟩
    refine for_list (K := K) (a := sc) (xs := ws) (fun i σ H3 => ∃ o3 o4 u, σ = [some (.str x), some (.ref sc), some u, o3, o4] ∧ H3 = H ∧ DtAt K H (bdt (es.take i) x) u) ?_ ?_ ?_ ?_
    · exact ⟨_, _, .non, rfl, rfl, non_at⟩
    · rintro i σ H3 _ ⟨_, _, _, _, rfl, _⟩
      exact SqL.of hsc
    · rintro i y σ H3 hy ⟨o3, o4, u, rfl, rfl, hu⟩
      obtain ⟨n, k, T, kv, he, rfl, hT, hk⟩ := pair_get hds hy
      refine ⟨T, _, rfl, hT, rfl, _, _, rfl, _, _, rfl, rfl, ?_⟩
      refine ⟨_, rfl, _, rfl, rfl, _, rfl, ite2 (fun c => ?_) (fun c => ?_)⟩
      · have e : n = x := by simpa using of_decide_eq_true c
        subst e
        exact ⟨_, rfl, _, _, kv, rfl, rfl, by rw [bdt_same he]; exact hk⟩
      · have e : ¬ n = x := fun z => c (by subst z; exact decide_eq_true rfl)
        exact ⟨_, _, u, rfl, rfl, by rw [bdt_other he e]; exact hu⟩
    · rintro σ H3 ⟨o3, o4, u, rfl, rfl, hu⟩
      rw [hl, List.take_of_length_le (Nat.le_refl _)] at hu
      exact ⟨_, rfl, q u hu⟩
abbrev psLf : List Str := ["_law_more", "_law_kind_here", "_law_scope"]
def spLf (K : PySem.W.Frag) (n : Nat) : Sp := fun vs H Q _ => ∃ (m : Int) (v : V) (sc : Addr) (κ : Kd) (es : Cxt), vs = [.int m, v, .ref sc] ∧ DtAt K H κ.dt v ∧ κ.sz < n ∧ κ.sz ≤ 40 ∧ ScL K H sc es ∧ es.length + κ.sz ≤ 1000 ∧
  ∀ u p H', Grow H H' → DtAt K H' p.dt u → Pt.Has es.reverse p κ → p.deep < κ.sz → p.sz ≤ κ.sz → Q u H'
theorem scLf : FnScope ["_law_more", "_law_kind_here", "_law_scope", "_law_names"] psLf (defScope sLeaf) := ⟨rfl, rfl, rfl, by decide +kernel, rfl, by decide +kernel, by decide +kernel⟩
theorem ok_lf0 (F : FunD K "_law_leaf" "_law_leaf" sLeaf .none f fd) : FnOk P w K mg base (CXE P w) (0 + 2) f fd psLf (spLf K 0) := by
  refine F.ok0 scLf (fun vs H Q E h => ?_) (fun cdv A outer s H vs Q E hr h => ?_)
  · obtain ⟨m, v, sc, κ, es, rfl, _⟩ := h
    rfl
  · obtain ⟨m, v, sc, κ, es, rfl, _, hd, _⟩ := h
    exact absurd hd (Nat.not_lt_zero _)
theorem ScL.snoc {l : Addr} {ws : List V} {x : Str} {k : Kd} {T : Addr} {u : V} (h : ScL K H sc es) (e : H sc = some (.lst ws)) (hl : H l = none) (hT : SqT K H T [.str x, u]) (hu : DtAt K H k.dt u) (hk : k.sz ≤ 40) : ScL K (upd H l (.lst (ws ++ [.ref T]))) l (es ++ [(x, k)]) := by
  obtain ⟨ws', e', hd, hz⟩ := h
  rw [e] at e'
  cases e'
  have g : Grow H (upd H l (.lst (ws ++ [.ref T]))) := Grow.put hl
  refine ⟨_, upd_same, ?_, fun y hy => ?_⟩
  · rw [List.map_append]
    exact (hd.mono g.same).append (cons_ats (w1_at (SqT.mono g.same hT) (hu.mono g.same)) nil_ats)
  · rcases List.mem_append.mp hy with hy | hy
    · exact hz y hy
    · rw [List.mem_singleton.mp hy]; exact hk
theorem ok_lf {n : Nat} (F : FunD K "_law_leaf" "_law_leaf" sLeaf .none f fd) (G : GlL mg) (GB : Kn P w K mg base 1 "_law_bound" ["_law_name", "_law_scope"] (spBd K)) (GN : Kn P w K mg base 1 "_law_number" ["_law_more"] spNum) (GL : Kn P w K mg base (n + 2) "_law_leaf" psLf (spLf K n)) : FnOk P w K mg base (CXE P w) (n + 1 + 2) f fd psLf (spLf K (n + 1)) := by
  refine F.ok0 scLf (fun vs H Q E h => ?_) (fun cdv A outer s H vs Q E hr h => ?_)
  · obtain ⟨m, v, sc, κ, es, rfl, _⟩ := h
    rfl
  · obtain ⟨m, v, sc, κ, es, rfl, hv, hn, h40, hS, hlen, q⟩ := h
    have ndb : ((["_law_name", "_law_one"] : List Str) ++ (["_law_scope", "_law_kind_here"] : List Str)).Nodup := by decide +kernel
    have szp : ∀ k : Kd, 0 < k.sz := fun k => by have := Kd.deep_sz k; omega
    obtain ⟨tl, pls, htl⟩ : ∃ t, PSs (cxOf (CXE P w) P w K mg base ["_law_more", "_law_kind_here", "_law_scope", "_law_names"] "_law_leaf" (defScope sLeaf) f cdv A outer s H E).nox ((defBody sLeaf).drop 2) t ∧
        ∀ nm H5, Grow H H5 → t { nx := fun _ H' => Q .non H', rt := Q } [some (.int m), some v, some (.ref sc), some nm] H5 := by
      refine ⟨_, pss_cons (ps_set (i := 0) scLf.nd rfl (Or.inl rfl) (pe_op op_fdiv (pv 0) pe_int))
        (pss_cons (ps_if (pt_cmpR op_eqD (pv 1) pe_str (nomark _)) (pss_one (ps_ret (pe_tup (pa_cons pe_str (pa_cons (pe_k GN (hr.mono (by omega)) (pa_cons (pv 0) pa_nil)) pa_nil))))) pss_nil)
        (pss_cons (ps_if (pt_cmpR op_eqD (pv 1) pe_str (nomark _)) (pss_one (ps_ret (pe_tup (pa_cons pe_str (pa_cons (pe_cmpR op_eq (pe_op op_mod (pv 0) pe_int) pe_int (nomark _)) pa_nil))))) pss_nil)
        (pss_cons (ps_if (pt_cmpR op_eq (pe_ix ix_tup (pv 1) pe_int (fun _ _ => rfl)) pe_str (nomark _)) (pss_one (ps_ret (pe_tup (pa_cons pe_str (pa_cons (pe_ix ix_tup (pv 1) pe_int (fun _ _ => rfl)) pa_nil))))) pss_nil)
        (pss_cons (ps_if (pt_cmpR op_eq (pe_ix ix_tup (pv 1) pe_int (fun _ _ => rfl)) pe_str (nomark _)) (pss_one (ps_ret (pe_tup (pa_cons pe_str
          (pa_cons (pe_k GL hr (pa_cons (pe_op op_fdiv (pv 0) pe_int) (pa_cons (pe_ix ix_tup (pv 1) pe_int (fun _ _ => rfl)) (pa_cons (pv 2) pa_nil))))
          (pa_cons (pe_k GL hr (pa_cons (pe_op op_fdiv (pv 0) pe_int) (pa_cons (pe_ix ix_tup (pv 1) pe_int (fun _ _ => rfl)) (pa_cons (pv 2) pa_nil)))) pa_nil)))))) pss_nil)
        (pss_one (ps_ret (pe_tup (pa_cons pe_str (pa_cons pe_str (pa_cons (pe_ix ix_tup (pv 1) pe_int (fun _ _ => rfl))
          (pa_cons (pe_k GL hr (pa_cons (pe_op op_fdiv (pv 0) pe_int) (pa_cons (pe_ix ix_tup (pv 1) pe_int (fun _ _ => rfl)) (pa_cons (pe_op op_cat (pv 2) (pe_lst (pa_cons (pe_tup (pa_cons pe_str (pa_cons (pe_ix ix_tup (pv 1) pe_int (fun _ _ => rfl)) pa_nil))) pa_nil))) pa_nil)))) pa_nil))))))))))), ?_⟩
      intro nm H5 g5
      have hv5 := hv.mono g5.same
      have hS5 := hS.mono g5
      have hdep := room_dep hr (Nat.le_trans (dep_kd κ h40) (show 40 ≤ 150 by decide))
      refine ⟨_, rfl, _, _, rfl, rfl, ⟨by decide, by decide⟩, ?_⟩
      dsimp only [gName, List.set]
      generalize m / 16 = m'
      refine ⟨_, rfl, κ.dt, Kd.int.dt, hv5, str_at _, hdep, _, rfl, ?_⟩
      rw [Kd.eq_dt]
      refine ite2 (fun c => ?_) (fun c1 => ?_)
      · cases of_decide_eq_true c
        refine ⟨_, rfl, m', rfl, fun z H6 g6 => ⟨(by show 2 ≤ sizeLine; decide), fun t ht => ?_⟩⟩
        have g7 : Grow H6 (upd H6 t (.tup [.str "num", .int z])) := Grow.put ht
        exact q _ (.num z) _ ((g5.trans g6).trans g7) (w1_at (SqT.of upd_same) (by rw [DtAt])) .num (by simp [Pt.deep, Kd.sz]) (by simp [Pt.sz, Kd.sz])
      refine ⟨_, rfl, κ.dt, Kd.bool.dt, hv5, str_at _, hdep, _, rfl, ?_⟩
      rw [Kd.eq_dt]
      refine ite2 (fun c => ?_) (fun c2 => ?_)
      · cases of_decide_eq_true c
        refine ⟨_, rfl, _, _, rfl, rfl, (by show (0 : Int) < _; decide), rfl, (by show 2 ≤ sizeLine; decide), fun t ht => ?_⟩
        exact q _ (.tru (decide (V.int (m' % 2) = V.int 1))) _ (g5.trans (Grow.put ht)) (w1_at (SqT.of upd_same) (by rw [DtAt])) .tru (by simp [Pt.deep, Kd.sz]) (by simp [Pt.sz, Kd.sz])
      cases κ with
      | int => exact absurd (decide_eq_true rfl) c1
      | bool => exact absurd (decide_eq_true rfl) c2
      | list k =>
        obtain ⟨a, u, rfl, ha, hu⟩ := at_w1 hv5
        refine ⟨_, rfl, a, _, _, .str "list", rfl, rfl, ha, atI_nat (j := 0) rfl, rfl, _, rfl, iteYes (by decide +kernel) ?_⟩
        refine ⟨_, rfl, a, _, _, u, rfl, rfl, ha, atI_nat (j := 1) rfl, (by show 2 ≤ sizeLine; decide), fun t ht => ?_⟩
        have g7 : Grow H5 (upd H5 t (.tup [.str "nil", u])) := Grow.put ht
        exact q _ (.nil k) _ (g5.trans g7) (w1_at (SqT.of upd_same) (hu.mono g7.same)) (.nil h40) (by simp [Pt.deep, Kd.sz]) (by simp [Pt.sz, Kd.sz])
      | pair k l =>
        obtain ⟨a, u, x, rfl, ha, hu, hx⟩ := at_w2 hv5
        refine ⟨_, rfl, a, _, _, .str "pair", rfl, rfl, ha, atI_nat (j := 0) rfl, rfl, _, rfl, iteNo (by decide +kernel) ?_⟩
        refine ⟨_, rfl, a, _, _, .str "pair", rfl, rfl, ha, atI_nat (j := 0) rfl, rfl, _, rfl, iteYes (by decide +kernel) ?_⟩
        have e : (Kd.pair k l).sz = k.sz + l.sz + 1 := rfl
        have := szp k
        have := szp l
        refine ⟨_, rfl, _, _, rfl, rfl, ⟨by decide, by decide⟩, _, rfl, a, _, _, u, rfl, rfl, ha, atI_nat (j := 1) rfl, _, rfl, _, u, sc, k, es, rfl, hu, by omega, by omega, hS5, by omega, fun u1 p1 H6 g6 hu1 hp1 d1 z1 => ?_⟩
        have ha6 := SqT.mono g6.same ha
        refine ⟨_, rfl, _, _, rfl, rfl, ⟨by decide, by decide⟩, _, rfl, a, _, _, x, rfl, rfl, ha6, atI_nat (j := 2) rfl, _, rfl, _, x, sc, l, es, rfl, hx.mono g6.same, by omega, by omega, hS5.mono g6, by omega, fun u2 p2 H7 g7 hu2 hp2 d2 z2 => ?_⟩
        refine ⟨(by show 3 ≤ sizeLine; decide), fun t ht => ?_⟩
        have g8 : Grow H7 (upd H7 t (.tup [.str "pair", u1, u2])) := Grow.put ht
        refine q _ (.two .pair p1 p2) _ (((g5.trans g6).trans g7).trans g8) (w2_at (SqT.of upd_same) (hu1.mono (g7.trans g8).same) (hu2.mono g8.same)) (.two hp1 hp2 rfl h40) ?_ ?_
        · show max p1.deep p2.deep + 1 < _; omega
        · show p1.sz + p2.sz + 1 ≤ _; omega
      | fn k l =>
        obtain ⟨a, u, x, rfl, ha, hu, hx⟩ := at_w2 hv5
        refine ⟨_, rfl, a, _, _, .str "fun", rfl, rfl, ha, atI_nat (j := 0) rfl, rfl, _, rfl, iteNo (by decide +kernel) ?_⟩
        refine ⟨_, rfl, a, _, _, .str "fun", rfl, rfl, ha, atI_nat (j := 0) rfl, rfl, _, rfl, iteNo (by decide +kernel) ?_⟩
        have e : (Kd.fn k l).sz = k.sz + l.sz + 1 := rfl
        have := szp k
        have := szp l
        obtain ⟨ws, hsc, _, _⟩ := id hS5
        refine ⟨_, rfl, a, _, _, u, rfl, rfl, ha, atI_nat (j := 1) rfl, _, rfl, _, _, rfl, rfl, ⟨by decide, by decide⟩, _, rfl, a, _, _, x, rfl, rfl, ha, atI_nat (j := 2) rfl, _, rfl, _, rfl, a, _, _, u, rfl, rfl, ha, atI_nat (j := 1) rfl, (by show 2 ≤ sizeLine; decide), fun T hT => ?_⟩
        have g6 : Grow H5 (upd H5 T (.tup [.str "u", u])) := Grow.put hT
        have eT : SqT K (upd H5 T (.tup [.str "u", u])) T [.str "u", u] := SqT.of upd_same
        generalize upd H5 T (.tup [.str "u", u]) = H6 at g6 eT ⊢
        refine ⟨(by show 1 ≤ sizeLine; decide), fun l1 hl1 => ?_⟩
        have g7 : Grow H6 (upd H6 l1 (.lst [.ref T])) := Grow.put hl1
        have el : (upd H6 l1 (.lst [.ref T])) l1 = some (.lst [.ref T]) := upd_same
        generalize upd H6 l1 (.lst [.ref T]) = H7 at g7 el ⊢
        have g57 := g6.trans g7
        have hws : ws.length = es.length := by
          obtain ⟨ws', e', hd, _⟩ := hS5
          rw [hsc] at e'; cases e'
          rw [hd.length, List.length_map]
        refine ⟨sc, l1, _, _, rfl, rfl, g57.same _ _ hsc, el, by rw [sizeLine_eq]; simp; omega, fun l2 hl2 => ?_⟩
        have g8 : Grow H7 (upd H7 l2 (.lst (ws ++ [.ref T]))) := Grow.put hl2
        have hS8 := (hS5.mono g57).snoc (k := k) (g57.same _ _ hsc) hl2 (SqT.mono g7.same eT) (hu.mono g57.same) (by omega)
        generalize upd H7 l2 (.lst (ws ++ [.ref T])) = H8 at g8 hS8 ⊢
        have g58 := g57.trans g8
        refine ⟨_, x, l2, l, es ++ [(("u" : Str), k)], rfl, hx.mono g58.same, by omega, by omega, hS8, by rw [List.length_append]; simp; omega, fun u1 p1 H9 g9 hu1 hp1 d1 z1 => ?_⟩
        refine ⟨(by show 4 ≤ sizeLine; decide), fun t ht => ?_⟩
        have g10 : Grow H9 (upd H9 t (.tup [.str "fn", .str "u", u, u1])) := Grow.put ht
        rw [List.reverse_append] at hp1
        refine q _ (.fn "u" k p1) _ (((g5.trans g58).trans g9).trans g10) (w3_at (SqT.of upd_same) (str_at _) (hu.mono ((g58.trans g9).trans g10).same) (hu1.mono g10.same)) (.fn hp1 h40) ?_ ?_
        · show p1.deep + 1 < _; omega
        · show p1.sz + 1 ≤ _; omega
    refine ⟨_, pss_cons (ps_setLCI (i := 3) scLf.nd rfl (Or.inl rfl) (cmpG2 (own := ["_law_name", "_law_one"]) (x := "_law_scope") (y := "_law_kind_here") (i := 2) (j := 1) (by decide +kernel) (by rfl) (by decide +kernel) (by rfl) (by decide +kernel) (by rfl) (by rfl) (by decide +kernel) (by rfl) (by rfl) (.inl (by rfl)) (.inl (by rfl)) (by rfl) (by rfl) (by decide +kernel)) rfl
        (pi_list (pv 2)) (fun C s H fp pins => pv 0) (fun C s H fp pins => pg_two K rfl rfl ndb rfl rfl (Or.inl rfl) (Or.inl rfl) (by rfl) (by rfl))
        (fun C s H fp pins => PW.pt (pw_and (pt_cmpR (op_eqDK K rfl (room_dep hr (Nat.le_refl _))) (pv 1) (pv 3) (nomark _)) (pw_and1 (pt_cmpR (op_eqDK K rfl (room_dep hr (Nat.le_refl _))) (pe_k GB (hr.mono (by omega)) (pa_cons (pv 0) (pa_cons (pv 2) pa_nil))) (pv 3) (nomark _))))) (by rfl) (Or.inr (by rfl)))
      (pss_cons (ps_if (pw_and (pt_cmpR (op_neNil hr.units0) (pv 3) (pe_lst pa_nil) (nomark _)) (pw_and1 (pt_cmpR op_gt (pe_op op_mod (pv 0) pe_int) pe_int (nomark _)))).pt
        (pss_one (ps_ret (pe_tup (pa_cons pe_str (pa_cons (pe_ix ix_list (pv 3) (pe_op op_mod (pe_op op_fdiv (pv 0) pe_int) (pe_callB call_len_seq (by rfl) G.len PySem.boot_len (pa_cons (pv 3) pa_nil))) (fun _ _ => rfl)) pa_nil))))) pss_nil) pls), ?_⟩
    obtain ⟨ws, hsc, hds, hz⟩ := id hS
    have hws : ws.length = es.length := by rw [hds.length, List.length_map]
    refine ⟨_, rfl, sc, rfl, ⟨_, SqL.of hsc⟩, fun D hD => ?_⟩
    refine lc_pairs (K := K) (a := sc) (xs := ws) (R := _) (fun i ys H2 => Grow H H2 ∧ H2 D = some (.lst ys) ∧ ys.length ≤ i ∧ ∀ y ∈ ys, ∃ x, y = .str x ∧ es.reverse.lookup x = some κ) ⟨Grow.put hD, upd_same, Nat.le_refl _, fun y h => by cases h⟩ ?_ ?_ ?_
    · rintro i ys H2 _ ⟨g, _⟩
      exact SqL.of (g.same _ _ hsc)
    · rintro i y ys H2 hy ⟨g, eD, hyl, hall⟩
      obtain ⟨x, k, T, kv, he, rfl, hT, hk⟩ := pair_get (hds.mono g.same) hy
      refine ⟨T, .str x, kv, rfl, hT, fun Q' qf qt => ?_⟩
      have hi : i < es.length := (List.getElem?_eq_some_iff.mp he).1
      have kz := hz _ (List.mem_of_getElem? he)
      refine ⟨_, rfl, _, rfl, k.dt, κ.dt, hk, hv.mono g.same, Nat.le_trans (dep_kd k kz) (by decide), _, rfl, ite2 (fun _ => ?_) (fun _ => qf _ ⟨g, eD, by omega, hall⟩)⟩
      refine ⟨_, rfl, _, rfl, x, sc, es, rfl, hS.mono g, fun u hu => ?_⟩
      refine ⟨_, rfl, bdt es x, κ.dt, hu, hv.mono g.same, Nat.le_trans (dep_bdt x hz) (by decide), _, rfl, ?_⟩
      cases hb : eqD (bdt es x) κ.dt with
      | false => exact qf _ ⟨g, eD, by omega, hall⟩
      | true =>
        refine qt _ fun Q'' hq => ⟨_, rfl, hq _ _ eD (by rw [sizeLine_eq]; omega) ⟨g.set hD, upd_same, by rw [List.length_append]; simp; omega, fun y hy => ?_⟩⟩
        rcases List.mem_append.mp hy with hy | hy
        · exact hall y hy
        · rw [List.mem_singleton.mp hy]; exact ⟨x, rfl, bdt_eq hb⟩
    · rintro ys H2 ⟨g, eD, hyl, hall⟩
      dsimp only [gName, List.set]
      refine ⟨_, rfl, (by show 0 ≤ sizeLine; decide), fun l hl => ?_⟩
      have g2 : Grow H2 (upd H2 l (.lst [])) := Grow.put hl
      have eD2 := g2.same _ _ eD
      have en : (upd H2 l (.lst [])) l = some (.lst []) := upd_same
      generalize upd H2 l (.lst []) = H3 at g2 eD2 en ⊢
      have g03 := g.trans g2
      refine ⟨D, l, ys, rfl, rfl, SqL.of eD2, SqL.of en, _, rfl, ite2 (fun hne => ?_) (fun _ => iteF (htl _ _ g03))⟩
      have hne' : ys ≠ [] := fun z => absurd hne (by rw [z]; simp)
      have hpos : 0 < ys.length := List.length_pos_iff.mpr hne'
      have hlp : (0 : Int) < ((ys.length : Nat) : Int) := by omega
      refine ⟨_, rfl, _, _, rfl, rfl, (by show (0 : Int) < _; decide), _, _, rfl, rfl, _, rfl, ite2 (fun _ => ?_) (fun _ => htl _ _ g03)⟩
      obtain ⟨y, hy, ha⟩ := atI_mod (xs := ys) (n := (ys.length : Nat)) rfl hlp (m / 4)
      obtain ⟨x, rfl, hx⟩ := hall y hy
      refine ⟨_, rfl, _, rfl, _, _, rfl, rfl, ⟨by decide, by decide⟩, _, rfl, D, _, rfl, .inl (SqL.of eD2), _, _, rfl, rfl, hlp, D, _, _, .str x, rfl, rfl, SqL.of eD2, ha, (by show 2 ≤ sizeLine; decide), fun t ht => ?_⟩
      have g4 : Grow H3 (upd H3 t (.tup [.str "name", .str x])) := Grow.put ht
      have := szp κ
      exact q _ (.nam x) _ (g03.trans g4) (w1_at (SqT.of upd_same) (str_at _)) (.nam hx h40) (by show 0 < _; omega) (by show 1 ≤ _; omega)
end
end K13
set_option maxRecDepth 100000
set_option linter.all false
set_option Elab.async false
set_option maxHeartbeats 4000000
namespace K13
open PySem L2 PyProof Dt
def Gz : Nat → Nat
  | 0 => 31
  | d + 1 => 3 * Gz d + 10
theorem Gz31 : ∀ d, 31 ≤ Gz d
  | 0 => Nat.le_refl _
  | d + 1 => by have := Gz31 d; rw [Gz]; omega
section
variable {P : Program} {w : World} {K : PySem.W.Frag} {mg : Str → Option Value} {base : Heap} {f : Addr} {fd : FuncData} {H H' : Hp} {sa sc : Addr} {es : Cxt} {d : Nat}
structure Tl (K : PySem.W.Frag) (H : Hp) (es : Cxt) (d : Nat) (p : Pt) (κ : Kd) (u : V) : Prop where
  at_ : DtAt K H p.dt u
  has : Pt.Has es.reverse p κ
  deep : p.deep ≤ 31 + 4 * d
  sz : p.sz ≤ Gz d
theorem Tl.mono {p : Pt} {κ : Kd} {u : V} (h : Tl K H es d p κ u) (g : Grow H H') : Tl K H' es d p κ u := ⟨h.at_.mono g.same, h.has, h.deep, h.sz⟩
structure Ev (K : PySem.W.Frag) (H : Hp) (sa sc : Addr) (es : Cxt) (d : Nat) : Prop where
  scr : ∃ ns : List Int, SqL K H sa (ns.map V.int) ∧ ns.length ≤ 63
  sco : ScL K H sc es
  len : es.length + 2 * d ≤ 500
theorem Ev.mono (h : Ev K H sa sc es d) (g : Grow H H') : Ev K H' sa sc es d := ⟨let ⟨ns, a, b⟩ := h.scr; ⟨ns, g.same.seq a, b⟩, h.sco.mono g, h.len⟩
theorem Ev.le {e : Nat} (h : Ev K H sa sc es d) (he : e ≤ d) : Ev K H sa sc es e := ⟨h.scr, h.sco, by have := h.len; omega⟩
theorem Ev.wider {sc' : Addr} {x : Str} {k : Kd} (h : Ev K H sa sc es (d + 1)) (hs : ScL K H sc' (es ++ [(x, k)])) : Ev K H sa sc' (es ++ [(x, k)]) d := ⟨h.scr, hs, by have := h.len; rw [List.length_append]; simp; omega⟩
theorem kpos (k : Kd) : 0 < k.sz := by have := Kd.deep_sz k; omega
theorem Tl.one {p : Pt} {κ m : Kd} {u : V} {t : Addr} (o : U1) (h : Tl K H es d p κ u) (ht : SqT K H t [.str o.str, u]) (hk : Pt.k1 o κ = some m) (hm : m.sz ≤ 40) : Tl K H es (d + 1) (.one o p) m (.ref t) :=
  ⟨w1_at ht h.at_, .one h.has hk hm, by have := h.deep; show p.deep + 1 ≤ _; omega, by have := h.sz; show p.sz + 1 ≤ 3 * Gz d + 10; omega⟩
theorem Tl.two {p1 p2 : Pt} {κ1 κ2 m : Kd} {u1 u2 : V} {t : Addr} (o : U2) (h1 : Tl K H es d p1 κ1 u1) (h2 : Tl K H es d p2 κ2 u2) (ht : SqT K H t [.str o.str, u1, u2]) (hk : Pt.k2 o κ1 κ2 = some m) (hm : m.sz ≤ 40) : Tl K H es (d + 1) (.two o p1 p2) m (.ref t) :=
  ⟨w2_at ht h1.at_ h2.at_, .two h1.has h2.has hk hm, by have := h1.deep; have := h2.deep; show max p1.deep p2.deep + 1 ≤ _; omega, by have := h1.sz; have := h2.sz; show p1.sz + p2.sz + 1 ≤ 3 * Gz d + 10; omega⟩
theorem Tl.ite {p1 p2 p3 : Pt} {κ : Kd} {u1 u2 u3 : V} {t : Addr} (h1 : Tl K H es d p1 .bool u1) (h2 : Tl K H es d p2 κ u2) (h3 : Tl K H es d p3 κ u3) (ht : SqT K H t [.str "if", u1, u2, u3]) : Tl K H es (d + 1) (.ite p1 p2 p3) κ (.ref t) :=
  ⟨w3_at ht h1.at_ h2.at_ h3.at_, .ite h1.has h2.has h3.has, by have := h1.deep; have := h2.deep; have := h3.deep; show max p1.deep (max p2.deep p3.deep) + 1 ≤ _; omega, by have := h1.sz; have := h2.sz; have := h3.sz; show p1.sz + p2.sz + p3.sz + 1 ≤ 3 * Gz d + 10; omega⟩
theorem has_snoc {x : Str} {k κ : Kd} {p : Pt} (h : Pt.Has (es ++ [(x, k)]).reverse p κ) : Pt.Has ((x, k) :: es.reverse) p κ := by rw [List.reverse_append] at h; exact h
theorem Tl.let_ {p1 p2 : Pt} {x : Str} {κ1 κ : Kd} {u1 u2 : V} {t : Addr} (h1 : Tl K H es d p1 κ1 u1) (h2 : Tl K H (es ++ [(x, κ1)]) d p2 κ u2) (ht : SqT K H t [.str "let", .str x, u1, u2]) : Tl K H es (d + 1) (.let_ x p1 p2) κ (.ref t) :=
  ⟨w3_at ht (str_at x) h1.at_ h2.at_, .let_ h1.has (has_snoc h2.has), by have := h1.deep; have := h2.deep; show max p1.deep p2.deep + 1 ≤ _; omega, by have := h1.sz; have := h2.sz; show p1.sz + p2.sz + 1 ≤ 3 * Gz d + 10; omega⟩
theorem Tl.fn {p : Pt} {x : Str} {k l : Kd} {u v : V} {t : Addr} (h : Tl K H (es ++ [(x, k)]) d p l u) (hv : DtAt K H k.dt v) (ht : SqT K H t [.str "fn", .str x, v, u]) (hm : (Kd.fn k l).sz ≤ 40) : Tl K H es (d + 1) (.fn x k p) (.fn k l) (.ref t) :=
  ⟨w3_at ht (str_at x) hv h.at_, .fn (has_snoc h.has) hm, by have := h.deep; show p.deep + 1 ≤ _; omega, by have := h.sz; show p.sz + 1 ≤ 3 * Gz d + 10; omega⟩
theorem widen {x : Str} {k : Kd} {u : V} {Q : VK} (h : ScL K H sc es) (hl : es.length ≤ 1000) (hu : DtAt K H k.dt u) (hk : k.sz ≤ 40) (q : ∀ l H', Grow H H' → ScL K H' l (es ++ [(x, k)]) → Q (.ref l) H') :
    [V.str x, u].length ≤ sizeLine ∧ ∀ T, H T = none → [V.ref T].length ≤ sizeLine ∧ ∀ l1, (upd H T (.tup [.str x, u])) l1 = none → rCat (.ref sc) (.ref l1) (upd (upd H T (.tup [.str x, u])) l1 (.lst [.ref T])) Q := by
  refine ⟨(by show 2 ≤ sizeLine; decide), fun T hT => ⟨(by show 1 ≤ sizeLine; decide), fun l1 hl1 => ?_⟩⟩
  have g6 : Grow H (upd H T (.tup [.str x, u])) := Grow.put hT
  have eT : SqT K (upd H T (.tup [.str x, u])) T [.str x, u] := SqT.of upd_same
  generalize upd H T (.tup [.str x, u]) = H6 at g6 eT hl1 ⊢
  have g7 : Grow H6 (upd H6 l1 (.lst [.ref T])) := Grow.put hl1
  have el : (upd H6 l1 (.lst [.ref T])) l1 = some (.lst [.ref T]) := upd_same
  generalize upd H6 l1 (.lst [.ref T]) = H7 at g7 el ⊢
  have g57 := g6.trans g7
  obtain ⟨ws, hsc, hd, _⟩ := id h
  have hws : ws.length = es.length := by rw [hd.length, List.length_map]
  refine ⟨sc, l1, _, _, rfl, rfl, g57.same _ _ hsc, el, by rw [sizeLine_eq]; simp; omega, fun l2 hl2 => ?_⟩
  exact q l2 _ (g57.trans (Grow.put hl2)) ((h.mono g57).snoc (k := k) (g57.same _ _ hsc) hl2 (SqT.mono g7.same eT) (hu.mono g57.same) hk)
abbrev psPt : List Str := ["_law_script", "_law_k", "_law_kind_here", "_law_scope", "_law_deep"]
def spPart (K : PySem.W.Frag) (n : Nat) : Sp := fun vs H Q _ => ∃ (sa : Addr) (k : Int) (v : V) (sc : Addr) (κ : Kd) (es : Cxt) (d : Nat), vs = [.ref sa, .int k, v, .ref sc, .int d] ∧ Ev K H sa sc es d ∧ DtAt K H κ.dt v ∧ d < n ∧ κ.sz + 4 * d ≤ 31 ∧ ∀ u p H', Grow H H' → Tl K H' es d p κ u → Q u H'
abbrev psTw : List Str := ["_law_script", "_law_k", "_law_word", "_law_kinds", "_law_scope", "_law_deep"]
def spTwo (K : PySem.W.Frag) (n : Nat) : Sp := fun vs H Q _ => ∃ (sa : Addr) (k : Int) (wd : Str) (kl sc : Addr) (d : Nat) (v1 v2 : V) (κ1 κ2 : Kd) (es : Cxt), vs = [.ref sa, .int k, .str wd, .ref kl, .ref sc, .int d] ∧ Ev K H sa sc es d ∧ SqL K H kl [v1, v2] ∧ DtAt K H κ1.dt v1 ∧ DtAt K H κ2.dt v2 ∧ d < n ∧ κ1.sz + 4 * d ≤ 31 ∧ κ2.sz + 4 * d ≤ 31 ∧
  ∀ t u1 u2 p1 p2 H', Grow H H' → SqT K H' t [.str wd, u1, u2] → Tl K H' es d p1 κ1 u1 → Tl K H' es d p2 κ2 u2 → Q (.ref t) H'
theorem scTw : FnScope ["_law_script", "_law_k", "_law_word", "_law_kinds", "_law_scope", "_law_deep", "_law_one"] psTw (defScope sTwo) := ⟨rfl, rfl, rfl, by decide +kernel, rfl, by decide +kernel, by decide +kernel⟩
theorem ok_two {n j : Nat} (F : FunD K "_law_two" "_law_two" sTwo .none f fd) (GP : Kn P w K mg base j "_law_part" psPt (spPart K n)) : FnOk P w K mg base (CXE P w) (j + 1) f fd psTw (spTwo K n) := by
  refine F.ok0 scTw (fun vs H Q E h => ?_) (fun cdv A outer s H vs Q E hr h => ?_)
  · obtain ⟨sa, k, wd, kl, sc, d, v1, v2, κ1, κ2, es, rfl, _⟩ := h
    rfl
  · obtain ⟨sa, k, wd, kl, sc, d, v1, v2, κ1, κ2, es, rfl, hE, hk, h1, h2, hd, z1, z2, q⟩ := h
    refine ⟨_, pss_cons (ps_set (i := 6) scTw.nd rfl (Or.inl rfl) (pe_k GP hr (pa_cons (pv 0) (pa_cons (pe_op op_add (pe_op op_mul pe_int (pv 1)) pe_int) (pa_cons (pe_ix ix_list (pv 3) pe_int (fun _ _ => rfl)) (pa_cons (pv 4) (pa_cons (pv 5) pa_nil)))))))
      (pss_one (ps_ret (pe_tup (pa_cons (pv 2) (pa_cons (pv 6) (pa_cons (pe_k GP hr (pa_cons (pv 0) (pa_cons (pe_op op_add (pe_op op_mul pe_int (pv 1)) pe_int) (pa_cons (pe_ix ix_list (pv 3) pe_int (fun _ _ => rfl)) (pa_cons (pv 4) (pa_cons (pv 5) pa_nil)))))) pa_nil)))))), ?_⟩
    refine ⟨_, rfl, _, rfl, _, _, rfl, rfl, .inl ⟨by decide, by decide⟩, _, _, rfl, rfl, _, rfl, kl, _, _, v1, rfl, rfl, hk, atI_nat (j := 0) rfl, _, rfl, _, rfl, sa, _, v1, sc, κ1, es, d, rfl, hE, h1, hd, z1, fun u1 p1 H1 g1 t1 => ?_⟩
    dsimp only [gName, List.set]
    refine ⟨_, rfl, _, rfl, _, rfl, _, rfl, _, _, rfl, rfl, .inl ⟨by decide, by decide⟩, _, _, rfl, rfl, _, rfl, kl, _, _, v2, rfl, rfl, g1.same.seq hk, atI_nat (j := 1) rfl, _, rfl, _, rfl, sa, _, v2, sc, κ2, es, d, rfl, hE.mono g1, h2.mono g1.same, hd, z2, fun u2 p2 H2 g2 t2 => ?_⟩
    refine ⟨(by show 3 ≤ sizeLine; decide), fun t ht => ?_⟩
    have g3 : Grow H2 (upd H2 t (.tup [.str wd, u1, u2])) := Grow.put ht
    exact q t u1 u2 p1 p2 _ ((g1.trans g2).trans g3) (SqT.of upd_same) (t1.mono (g2.trans g3)) (t2.mono g3)
abbrev psOK : List Str := ["_law_script", "_law_k", "_law_kind_here", "_law_scope", "_law_deep", "_law_more"]
def spOK (K : PySem.W.Frag) (n : Nat) : Sp := fun vs H Q _ => ∃ (sa : Addr) (k : Int) (v : V) (sc : Addr) (d : Nat) (m : Int) (κ : Kd) (es : Cxt), vs = [.ref sa, .int k, v, .ref sc, .int d, .int m] ∧ Ev K H sa sc es (d + 1) ∧ DtAt K H κ.dt v ∧ d < n ∧ κ.sz + 4 * (d + 1) ≤ 31 ∧ ∀ u p H', Grow H H' → Tl K H' es (d + 1) p κ u → Q u H'
theorem scOK : FnScope ["_law_script", "_law_k", "_law_kind_here", "_law_scope", "_law_deep", "_law_more", "_law_word", "_law_inner", "_law_name"] psOK (defScope sOK) := ⟨rfl, rfl, rfl, by decide +kernel, rfl, by decide +kernel, by decide +kernel⟩
theorem ok_ofk {n j : Nat} (F : FunD K "_law_of_kind" "_law_of_kind" sOK .none f fd) (G : GlL mg) (h3 : 3 ≤ j) (GK : Kn P w K mg base 3 "_law_kind" ["_law_more", "_law_deep"] (spLK K 2)) (GP : Kn P w K mg base j "_law_part" psPt (spPart K n)) (GT : Kn P w K mg base (j + 1) "_law_two" psTw (spTwo K n)) : FnOk P w K mg base (CXE P w) (j + 2) f fd psOK (spOK K n) := by
  refine F.ok0 scOK (fun vs H Q E h => ?_) (fun cdv A outer s H vs Q E hr h => ?_)
  · obtain ⟨sa, k, v, sc, d, m, κ, es, rfl, _⟩ := h
    rfl
  · obtain ⟨sa, k, v, sc, d, m, κ, es, rfl, hE, hv, hd, hz, q⟩ := h
    have hrP := hr.mono (show j ≤ j + 1 by omega)
    have hrK := hr.mono (show 3 ≤ j + 1 by omega)
    refine ⟨_, pss_cons (ps_if (pt_cmpR op_eqD (pv 2) pe_str (nomark _))
          (pss_cons (ps_set (i := 6) scOK.nd rfl (Or.inl rfl) (pe_ix ix_list (pe_lst (pa_cons pe_str (pa_cons pe_str (pa_cons pe_str (pa_cons pe_str (pa_cons pe_str pa_nil)))))) (pe_op op_mod (pv 5) pe_int) (fun _ _ => rfl)))
          (pss_one (ps_ret (pe_k GT hr (pa_cons (pv 0) (pa_cons (pv 1) (pa_cons (pv 6) (pa_cons (pe_lst (pa_cons pe_str (pa_cons pe_str pa_nil))) (pa_cons (pv 3) (pa_cons (pv 4) pa_nil)))))))))) pss_nil)
      (pss_cons (ps_if (pt_cmpR op_eqD (pv 2) pe_str (nomark _))
          (pss_cons (ps_set (i := 6) scOK.nd rfl (Or.inl rfl) (pe_ix ix_list (pe_lst (pa_cons pe_str (pa_cons pe_str (pa_cons pe_str (pa_cons pe_str (pa_cons pe_str (pa_cons pe_str pa_nil))))))) (pe_op op_mod (pv 5) pe_int) (fun _ _ => rfl)))
          (pss_cons (ps_if (pt_cmpR op_eq (pv 6) pe_str (nomark _)) (pss_one (ps_ret (pe_tup (pa_cons (pv 6) (pa_cons (pe_k GP hrP (pa_cons (pv 0) (pa_cons (pe_op op_add (pe_op op_mul pe_int (pv 1)) pe_int) (pa_cons pe_str (pa_cons (pv 3) (pa_cons (pv 4) pa_nil)))))) pa_nil))))) pss_nil)
          (pss_cons (ps_if (pt_cmpR op_eq (pv 6) pe_str (nomark _)) (pss_one (ps_ret (pe_tup (pa_cons (pv 6) (pa_cons (pe_k GP hrP (pa_cons (pv 0) (pa_cons (pe_op op_add (pe_op op_mul pe_int (pv 1)) pe_int) (pa_cons (pe_tup (pa_cons pe_str (pa_cons (pe_k GK hrK (pa_cons (pe_op op_fdiv (pv 5) pe_int) (pa_cons pe_int pa_nil))) pa_nil))) (pa_cons (pv 3) (pa_cons (pv 4) pa_nil)))))) pa_nil))))) pss_nil)
          (pss_cons (ps_set (i := 7) scOK.nd rfl (Or.inl rfl) (pe_ix ix_list (pe_lst (pa_cons pe_str (pa_cons pe_str pa_nil))) (pe_callTy call_int1 (by rfl) G.int PyProof.Rows.boot_int (pa_cons (pe_cmpR op_in_seq (pv 6) (pe_lst (pa_cons pe_str (pa_cons pe_str pa_nil))) rfl) pa_nil)) (fun _ _ => rfl)))
          (pss_one (ps_ret (pe_k GT hr (pa_cons (pv 0) (pa_cons (pv 1) (pa_cons (pv 6) (pa_cons (pe_lst (pa_cons (pv 7) (pa_cons (pv 7) pa_nil))) (pa_cons (pv 3) (pa_cons (pv 4) pa_nil))))))))))))) pss_nil)
      (pss_cons (ps_if (pt_cmpR op_eq (pe_ix ix_tup (pv 2) pe_int (fun _ _ => rfl)) pe_str (nomark _))
          (pss_cons (ps_if (pt_cmpR op_eq (pe_op op_mod (pv 5) pe_int) pe_int (nomark _)) (pss_one (ps_ret (pe_tup (pa_cons pe_str (pa_cons (pe_k GP hrP (pa_cons (pv 0) (pa_cons (pe_op op_add (pe_op op_mul pe_int (pv 1)) pe_int) (pa_cons (pv 2) (pa_cons (pv 3) (pa_cons (pv 4) pa_nil)))))) pa_nil))))) pss_nil)
          (pss_one (ps_ret (pe_k GT hr (pa_cons (pv 0) (pa_cons (pv 1) (pa_cons pe_str (pa_cons (pe_lst (pa_cons (pe_ix ix_tup (pv 2) pe_int (fun _ _ => rfl)) (pa_cons (pv 2) pa_nil))) (pa_cons (pv 3) (pa_cons (pv 4) pa_nil)))))))))) pss_nil)
      (pss_cons (ps_if (pt_cmpR op_eq (pe_ix ix_tup (pv 2) pe_int (fun _ _ => rfl)) pe_str (nomark _))
          (pss_one (ps_ret (pe_k GT hr (pa_cons (pv 0) (pa_cons (pv 1) (pa_cons pe_str (pa_cons (pe_lst (pa_cons (pe_ix ix_tup (pv 2) pe_int (fun _ _ => rfl)) (pa_cons (pe_ix ix_tup (pv 2) pe_int (fun _ _ => rfl)) pa_nil))) (pa_cons (pv 3) (pa_cons (pv 4) pa_nil))))))))) pss_nil)
      (pss_cons (ps_set (i := 8) scOK.nd rfl (Or.inl rfl) (pe_ix ix_list (pe_lst (pa_cons pe_str (pa_cons pe_str (pa_cons pe_str pa_nil)))) (pe_op op_mod (pv 5) pe_int) (fun _ _ => rfl)))
      (pss_one (ps_ret (pe_tup (pa_cons pe_str (pa_cons (pv 8) (pa_cons (pe_ix ix_tup (pv 2) pe_int (fun _ _ => rfl)) (pa_cons (pe_k GP hrP (pa_cons (pv 0) (pa_cons (pe_op op_add (pe_op op_mul pe_int (pv 1)) pe_int) (pa_cons (pe_ix ix_tup (pv 2) pe_int (fun _ _ => rfl))
        (pa_cons (pe_op op_cat (pv 3) (pe_lst (pa_cons (pe_tup (pa_cons (pv 8) (pa_cons (pe_ix ix_tup (pv 2) pe_int (fun _ _ => rfl)) pa_nil))) pa_nil))) (pa_cons (pv 4) pa_nil)))))) pa_nil))))))))))), ?_⟩
    have hdep := room_dep hr (Nat.le_trans (dep_kd κ (by omega)) (show 40 ≤ 150 by decide))
    have hE' := hE.le (Nat.le_succ d)
    have hlen := hE.len
    have kp := kpos κ
    refine ⟨_, rfl, κ.dt, Kd.int.dt, hv, str_at _, hdep, _, rfl, ?_⟩
    rw [Kd.eq_dt]
    refine ite2 (fun c => ?_) (fun c1 => ?_)
    · cases of_decide_eq_true c
      refine ⟨(by show 5 ≤ sizeLine; decide), fun l hl => ?_⟩
      obtain ⟨y, hy, ha⟩ := atI_mod (xs := [.str "plus", .str "minus", .str "times", .str "over", .str "rest"]) (n := 5) rfl (by decide) m
      refine ⟨_, rfl, _, _, rfl, rfl, (by show (0 : Int) < _; decide), l, _, _, y, rfl, rfl, SqL.of upd_same, ha, ?_⟩
      have g := Grow.put (o := .lst [.str "plus", .str "minus", .str "times", .str "over", .str "rest"]) hl
      generalize upd H l (.lst [.str "plus", .str "minus", .str "times", .str "over", .str "rest"]) = H1 at g ⊢
      dsimp only [gName, List.set]
      obtain ⟨o, rfl, ho⟩ : ∃ o : U2, y = .str o.str ∧ Pt.k2 o .int .int = some .int := by
        simp only [List.mem_cons, List.not_mem_nil, or_false] at hy
        rcases hy with rfl | rfl | rfl | rfl | rfl
        · exact ⟨.plus, rfl, rfl⟩
        · exact ⟨.minus, rfl, rfl⟩
        · exact ⟨.times, rfl, rfl⟩
        · exact ⟨.over, rfl, rfl⟩
        · exact ⟨.rest, rfl, rfl⟩
      refine ⟨_, rfl, _, rfl, _, rfl, (by show 2 ≤ sizeLine; decide), fun kl hkl => ?_⟩
      have g2 := Grow.put (o := .lst [.str "int", .str "int"]) hkl
      have ek : SqL K (upd H1 kl (.lst [.str "int", .str "int"])) kl [.str "int", .str "int"] := SqL.of upd_same
      generalize upd H1 kl (.lst [.str "int", .str "int"]) = H2 at g2 ek ⊢
      have g02 := g.trans g2
      refine ⟨_, rfl, _, rfl, sa, k, _, kl, sc, d, _, _, .int, .int, es, rfl, hE'.mono g02, ek, str_at _, str_at _, hd, by simp only [Kd.sz] at hz ⊢; omega, by simp only [Kd.sz] at hz ⊢; omega, fun t u1 u2 p1 p2 H3 g3 ht t1 t2 => ?_⟩
      exact q _ _ _ (g02.trans g3) (t1.two o t2 ht ho (by decide))
    refine ⟨_, rfl, κ.dt, Kd.bool.dt, hv, str_at _, hdep, _, rfl, ?_⟩
    rw [Kd.eq_dt]
    refine ite2 (fun c => ?_) (fun c2 => ?_)
    · cases of_decide_eq_true c
      refine ⟨(by show 6 ≤ sizeLine; decide), fun l hl => ?_⟩
      obtain ⟨y, hy, ha⟩ := atI_mod (xs := [.str "less", .str "same", .str "and", .str "or", .str "not", .str "empty"]) (n := 6) rfl (by decide) m
      refine ⟨_, rfl, _, _, rfl, rfl, (by show (0 : Int) < _; decide), l, _, _, y, rfl, rfl, SqL.of upd_same, ha, ?_⟩
      have g := Grow.put (o := .lst [.str "less", .str "same", .str "and", .str "or", .str "not", .str "empty"]) hl
      generalize upd H l (.lst [.str "less", .str "same", .str "and", .str "or", .str "not", .str "empty"]) = H1 at g ⊢
      dsimp only [gName, List.set]
      have hE1 := hE'.mono g
      have z3 : (1 : Nat) + 4 * d ≤ 31 := by simp only [Kd.sz] at hz; omega
      obtain rfl | rfl | ⟨o, b, rfl, n1, n2, hb, hk⟩ : y = .str "not" ∨ y = .str "empty" ∨ ∃ (o : U2) (b : Bool), y = .str o.str ∧ decide (V.str o.str = V.str "not") = false ∧ decide (V.str o.str = V.str "empty") = false ∧ inV (.str o.str) [.str "and", .str "or"] = b ∧ Pt.k2 o (if b then .bool else .int) (if b then .bool else .int) = some .bool := by
        simp only [List.mem_cons, List.not_mem_nil, or_false] at hy
        rcases hy with rfl | rfl | rfl | rfl | rfl | rfl
        · exact .inr (.inr ⟨.less, false, rfl, by decide +kernel, by decide +kernel, by decide +kernel, rfl⟩)
        · exact .inr (.inr ⟨.same, false, rfl, by decide +kernel, by decide +kernel, by decide +kernel, rfl⟩)
        · exact .inr (.inr ⟨.and, true, rfl, by decide +kernel, by decide +kernel, by decide +kernel, rfl⟩)
        · exact .inr (.inr ⟨.or, true, rfl, by decide +kernel, by decide +kernel, by decide +kernel, rfl⟩)
        · exact .inl rfl
        · exact .inr (.inl rfl)
      · refine ⟨_, rfl, rfl, _, rfl, iteYes (by decide +kernel) ?_⟩
        refine ⟨_, rfl, _, rfl, _, rfl, _, _, rfl, rfl, .inl ⟨by decide, by decide⟩, _, _, rfl, rfl, _, rfl, _, rfl, sa, _, _, sc, .bool, es, d, rfl, hE1, str_at _, hd, z3, fun u p H2 g2 tp => ?_⟩
        refine ⟨(by show 2 ≤ sizeLine; decide), fun t ht => ?_⟩
        have g3 : Grow H2 (upd H2 t (.tup [.str "not", u])) := Grow.put ht
        exact q _ _ _ ((g.trans g2).trans g3) ((tp.mono g3).one .not (SqT.of upd_same) rfl (by decide))
      · refine ⟨_, rfl, rfl, _, rfl, iteNo (by decide +kernel) ?_⟩
        refine ⟨_, rfl, rfl, _, rfl, iteYes (by decide +kernel) ?_⟩
        refine ⟨_, rfl, _, rfl, _, rfl, _, _, rfl, rfl, .inl ⟨by decide, by decide⟩, _, _, rfl, rfl, _, rfl, _, _, rfl, rfl, ⟨by decide, by decide⟩, _, 1, rfl, by omega, fun ov ok H2 g2 hov hoz => ?_⟩
        refine ⟨(by show 2 ≤ sizeLine; decide), fun T hT => ?_⟩
        have g3 : Grow H2 (upd H2 T (.tup [.str "list", ov])) := Grow.put hT
        have aT : DtAt K (upd H2 T (.tup [.str "list", ov])) (Kd.list ok).dt (.ref T) := w1_at (SqT.of upd_same) (hov.mono g3.same)
        generalize upd H2 T (.tup [.str "list", ov]) = H3 at g3 aT ⊢
        have g13 := g2.trans g3
        have hoz' : ok.sz ≤ 3 := by have : (2 : Nat) ^ (1 + 1) = 4 := rfl; omega
        refine ⟨_, rfl, _, rfl, sa, _, _, sc, .list ok, es, d, rfl, hE1.mono g13, aT, hd, by simp only [Kd.sz] at hz ⊢; omega, fun u p H4 g4 tp => ?_⟩
        refine ⟨(by show 2 ≤ sizeLine; decide), fun t ht => ?_⟩
        have g5 : Grow H4 (upd H4 t (.tup [.str "empty", u])) := Grow.put ht
        exact q _ _ _ (((g.trans g13).trans g4).trans g5) ((tp.mono g5).one .empty (SqT.of upd_same) rfl (by decide))
      · refine ⟨_, rfl, rfl, _, rfl, iteNo n1 ?_⟩
        refine ⟨_, rfl, rfl, _, rfl, iteNo n2 ?_⟩
        refine ⟨(by show 2 ≤ sizeLine; decide), fun l0 hl0 => ?_⟩
        have g2 := Grow.put (o := .lst [.str "int", .str "bool"]) hl0
        have e2 : SqL K (upd H1 l0 (.lst [.str "int", .str "bool"])) l0 [.str "int", .str "bool"] := SqL.of upd_same
        generalize upd H1 l0 (.lst [.str "int", .str "bool"]) = H2 at g2 e2 ⊢
        refine ⟨_, rfl, (by show 2 ≤ sizeLine; decide), fun l2 hl2 => ?_⟩
        have g3 := Grow.put (o := .lst [.str "and", .str "or"]) hl2
        have e3 : SqL K (upd H2 l2 (.lst [.str "and", .str "or"])) l2 [.str "and", .str "or"] := SqL.of upd_same
        have e2' := g3.same.seq e2
        generalize upd H2 l2 (.lst [.str "and", .str "or"]) = H3 at g3 e3 e2' ⊢
        have g03 := (g.trans g2).trans g3
        refine ⟨l2, _, rfl, .inl e3, rfl, rfl, .inr ⟨b, ?_, ?_⟩⟩
        · rw [if_neg (by decide), hb]
        cases b with
        | false =>
          refine ⟨l0, _, _, .str "int", rfl, rfl, e2', atI_nat (j := 0) rfl, ?_⟩
          dsimp only [gName, List.set]
          refine ⟨_, rfl, _, rfl, _, rfl, _, rfl, _, rfl, (by show 2 ≤ sizeLine; decide), fun kl hkl => ?_⟩
          have g4 := Grow.put (o := .lst [.str "int", .str "int"]) hkl
          have ek : SqL K (upd H3 kl (.lst [.str "int", .str "int"])) kl [.str "int", .str "int"] := SqL.of upd_same
          generalize upd H3 kl (.lst [.str "int", .str "int"]) = H4 at g4 ek ⊢
          have g04 := g03.trans g4
          refine ⟨_, rfl, _, rfl, sa, k, _, kl, sc, d, _, _, .int, .int, es, rfl, hE'.mono g04, ek, str_at _, str_at _, hd, z3, z3, fun t u1 u2 p1 p2 H5 g5 ht t1 t2 => ?_⟩
          exact q _ _ _ (g04.trans g5) (t1.two o t2 ht hk (by decide))
        | true =>
          refine ⟨l0, _, _, .str "bool", rfl, rfl, e2', atI_nat (j := 1) rfl, ?_⟩
          dsimp only [gName, List.set]
          refine ⟨_, rfl, _, rfl, _, rfl, _, rfl, _, rfl, (by show 2 ≤ sizeLine; decide), fun kl hkl => ?_⟩
          have g4 := Grow.put (o := .lst [.str "bool", .str "bool"]) hkl
          have ek : SqL K (upd H3 kl (.lst [.str "bool", .str "bool"])) kl [.str "bool", .str "bool"] := SqL.of upd_same
          generalize upd H3 kl (.lst [.str "bool", .str "bool"]) = H4 at g4 ek ⊢
          have g04 := g03.trans g4
          refine ⟨_, rfl, _, rfl, sa, k, _, kl, sc, d, _, _, .bool, .bool, es, rfl, hE'.mono g04, ek, str_at _, str_at _, hd, z3, z3, fun t u1 u2 p1 p2 H5 g5 ht t1 t2 => ?_⟩
          exact q _ _ _ (g04.trans g5) (t1.two o t2 ht hk (by decide))
    cases κ with
    | int => exact absurd (decide_eq_true rfl) c1
    | bool => exact absurd (decide_eq_true rfl) c2
    | list κ1 =>
      obtain ⟨a, u, rfl, ha, hu⟩ := at_w1 hv
      have e : (Kd.list κ1).sz = κ1.sz + 1 := rfl
      refine ⟨_, rfl, a, _, _, .str "list", rfl, rfl, ha, atI_nat (j := 0) rfl, rfl, _, rfl, iteYes (by decide +kernel) ?_⟩
      refine ⟨_, rfl, _, _, rfl, rfl, (by show (0 : Int) < _; decide), rfl, _, rfl, ite2 (fun _ => ?_) (fun _ => ?_)⟩
      · refine ⟨_, rfl, _, rfl, _, _, rfl, rfl, .inl ⟨by decide, by decide⟩, _, _, rfl, rfl, _, rfl, _, rfl, _, rfl, sa, _, _, sc, .list κ1, es, d, rfl, hE', hv, hd, by omega, fun u p H2 g2 tp => ?_⟩
        refine ⟨(by show 2 ≤ sizeLine; decide), fun t ht => ?_⟩
        have g3 : Grow H2 (upd H2 t (.tup [.str "tail", u])) := Grow.put ht
        exact q _ _ _ (g2.trans g3) ((tp.mono g3).one .tail (SqT.of upd_same) rfl (by omega))
      · refine ⟨_, rfl, _, rfl, _, rfl, a, _, _, u, rfl, rfl, ha, atI_nat (j := 1) rfl, _, rfl, (by show 2 ≤ sizeLine; decide), fun kl hkl => ?_⟩
        have g2 := Grow.put (o := .lst [u, .ref a]) hkl
        have ek : SqL K (upd H kl (.lst [u, .ref a])) kl [u, .ref a] := SqL.of upd_same
        generalize upd H kl (.lst [u, .ref a]) = H2 at g2 ek ⊢
        refine ⟨_, rfl, _, rfl, sa, k, _, kl, sc, d, _, _, κ1, .list κ1, es, rfl, hE'.mono g2, ek, hu.mono g2.same, hv.mono g2.same, hd, by omega, by omega, fun t u1 u2 p1 p2 H3 g3 ht t1 t2 => ?_⟩
        exact q _ _ _ (g2.trans g3) (t1.two .cons t2 ht (by simp [Pt.k2]) (by omega))
    | pair κ1 κ2 =>
      obtain ⟨a, u, x, rfl, ha, hu, hx⟩ := at_w2 hv
      have e : (Kd.pair κ1 κ2).sz = κ1.sz + κ2.sz + 1 := rfl
      refine ⟨_, rfl, a, _, _, .str "pair", rfl, rfl, ha, atI_nat (j := 0) rfl, rfl, _, rfl, iteNo (by decide +kernel) ?_⟩
      refine ⟨_, rfl, a, _, _, .str "pair", rfl, rfl, ha, atI_nat (j := 0) rfl, rfl, _, rfl, iteYes (by decide +kernel) ?_⟩
      refine ⟨_, rfl, _, rfl, _, rfl, a, _, _, u, rfl, rfl, ha, atI_nat (j := 1) rfl, _, rfl, a, _, _, x, rfl, rfl, ha, atI_nat (j := 2) rfl, (by show 2 ≤ sizeLine; decide), fun kl hkl => ?_⟩
      have g2 := Grow.put (o := .lst [u, x]) hkl
      have ek : SqL K (upd H kl (.lst [u, x])) kl [u, x] := SqL.of upd_same
      generalize upd H kl (.lst [u, x]) = H2 at g2 ek ⊢
      refine ⟨_, rfl, _, rfl, sa, k, _, kl, sc, d, _, _, κ1, κ2, es, rfl, hE'.mono g2, ek, hu.mono g2.same, hx.mono g2.same, hd, by omega, by omega, fun t u1 u2 p1 p2 H3 g3 ht t1 t2 => ?_⟩
      exact q _ _ _ (g2.trans g3) (t1.two .pair t2 ht rfl (by omega))
    | fn κ1 κ2 =>
      obtain ⟨a, u, x, rfl, ha, hu, hx⟩ := at_w2 hv
      have e : (Kd.fn κ1 κ2).sz = κ1.sz + κ2.sz + 1 := rfl
      refine ⟨_, rfl, a, _, _, .str "fun", rfl, rfl, ha, atI_nat (j := 0) rfl, rfl, _, rfl, iteNo (by decide +kernel) ?_⟩
      refine ⟨_, rfl, a, _, _, .str "fun", rfl, rfl, ha, atI_nat (j := 0) rfl, rfl, _, rfl, iteNo (by decide +kernel) ?_⟩
      refine ⟨(by show 3 ≤ sizeLine; decide), fun l hl => ?_⟩
      obtain ⟨y, hy, ham⟩ := atI_mod (xs := [.str "x", .str "y", .str "z"]) (n := 3) rfl (by decide) m
      refine ⟨_, rfl, _, _, rfl, rfl, (by show (0 : Int) < _; decide), l, _, _, y, rfl, rfl, SqL.of upd_same, ham, ?_⟩
      have g := Grow.put (o := .lst [.str "x", .str "y", .str "z"]) hl
      generalize upd H l (.lst [.str "x", .str "y", .str "z"]) = H1 at g ⊢
      dsimp only [gName, List.set]
      obtain ⟨nm, rfl⟩ : ∃ nm : Str, y = .str nm := by
        simp only [List.mem_cons, List.not_mem_nil, or_false] at hy
        rcases hy with rfl | rfl | rfl <;> exact ⟨_, rfl⟩
      have ha1 := SqT.mono g.same ha
      have hu1 := hu.mono g.same
      refine ⟨_, rfl, _, rfl, a, _, _, u, rfl, rfl, ha1, atI_nat (j := 1) rfl, _, rfl, _, rfl, _, _, rfl, rfl, .inl ⟨by decide, by decide⟩, _, _, rfl, rfl, _, rfl, a, _, _, x, rfl, rfl, ha1, atI_nat (j := 2) rfl, _, rfl, _, rfl, _, rfl, a, _, _, u, rfl, rfl, ha1, atI_nat (j := 1) rfl, ?_⟩
      refine widen (K := K) (k := κ1) (hE.sco.mono g) (by omega) hu1 (by omega) fun l2 H2 g2 hS2 => ?_
      have g02 := g.trans g2
      refine ⟨_, rfl, sa, _, x, l2, κ2, es ++ [(nm, κ1)], d, rfl, (hE.mono g02).wider hS2, hx.mono g02.same, hd, by omega, fun u1 p1 H3 g3 t1 => ?_⟩
      refine ⟨(by show 4 ≤ sizeLine; decide), fun t ht => ?_⟩
      have g4 : Grow H3 (upd H3 t (.tup [.str "fn", .str nm, u, u1])) := Grow.put ht
      exact q _ _ _ ((g02.trans g3).trans g4) ((t1.mono g4).fn (hu.mono ((g02.trans g3).trans g4).same) (SqT.of upd_same) (by omega))
end
end K13
set_option maxRecDepth 100000
set_option linter.all false
set_option Elab.async false
set_option maxHeartbeats 4000000
namespace K13
open PySem L2 PyProof Dt
section
variable {P : Program} {w : World} {K : PySem.W.Frag} {mg : Str → Option Value} {base : Heap} {f : Addr} {fd : FuncData} {H H' : Hp} {sa sc : Addr} {es : Cxt} {d : Nat}
theorem mk1 {t : Addr} {x : Str} {d1 : Dt} {u1 : V} (ht : H t = none) (h1 : DtAt K H d1 u1) : Grow H (upd H t (.tup [.str x, u1])) ∧ DtAt K (upd H t (.tup [.str x, u1])) (.tup [.str x, d1]) (.ref t) := by
  have g : Grow H (upd H t (.tup [.str x, u1])) := Grow.put ht
  exact ⟨g, w1_at (SqT.of upd_same) (h1.mono g.same)⟩
theorem mk2 {t : Addr} {x : Str} {d1 d2 : Dt} {u1 u2 : V} (ht : H t = none) (h1 : DtAt K H d1 u1) (h2 : DtAt K H d2 u2) : Grow H (upd H t (.tup [.str x, u1, u2])) ∧ DtAt K (upd H t (.tup [.str x, u1, u2])) (.tup [.str x, d1, d2]) (.ref t) := by
  have g : Grow H (upd H t (.tup [.str x, u1, u2])) := Grow.put ht
  exact ⟨g, w2_at (SqT.of upd_same) (h1.mono g.same) (h2.mono g.same)⟩
theorem mk3 {t : Addr} {x : Str} {d1 d2 d3 : Dt} {u1 u2 u3 : V} (ht : H t = none) (h1 : DtAt K H d1 u1) (h2 : DtAt K H d2 u2) (h3 : DtAt K H d3 u3) : Grow H (upd H t (.tup [.str x, u1, u2, u3])) ∧ DtAt K (upd H t (.tup [.str x, u1, u2, u3])) (.tup [.str x, d1, d2, d3]) (.ref t) := by
  have g : Grow H (upd H t (.tup [.str x, u1, u2, u3])) := Grow.put ht
  exact ⟨g, w3_at (SqT.of upd_same) (h1.mono g.same) (h2.mono g.same) (h3.mono g.same)⟩
theorem mk5 {t : Addr} {x : Str} {d1 d2 d3 d4 d5 : Dt} {u1 u2 u3 u4 u5 : V} (ht : H t = none) (h1 : DtAt K H d1 u1) (h2 : DtAt K H d2 u2) (h3 : DtAt K H d3 u3) (h4 : DtAt K H d4 u4) (h5 : DtAt K H d5 u5) : Grow H (upd H t (.tup [.str x, u1, u2, u3, u4, u5])) ∧ DtAt K (upd H t (.tup [.str x, u1, u2, u3, u4, u5])) (.tup [.str x, d1, d2, d3, d4, d5]) (.ref t) := by
  have g : Grow H (upd H t (.tup [.str x, u1, u2, u3, u4, u5])) := Grow.put ht
  exact ⟨g, w5_at (SqT.of upd_same) (h1.mono g.same) (h2.mono g.same) (h3.mono g.same) (h4.mono g.same) (h5.mono g.same)⟩
theorem int_at (n : Int) : DtAt K H (.int n) (.int n) := by rw [DtAt]
theorem bl_at (n : Bool) : DtAt K H (.bl n) (.bl n) := by rw [DtAt]
theorem ScL.app {l : Addr} {ws us : List V} {fs : Cxt} (h : ScL K H sc es) (e : H sc = some (.lst ws)) (hl : H l = none) (hu : DtsAt K H (fs.map edt) us) (hk : ∀ e ∈ fs, e.2.sz ≤ 40) : ScL K (upd H l (.lst (ws ++ us))) l (es ++ fs) := by
  obtain ⟨ws', e', hd, hz⟩ := h
  rw [e] at e'
  cases e'
  have g : Grow H (upd H l (.lst (ws ++ us))) := Grow.put hl
  refine ⟨_, upd_same, ?_, fun y hy => ?_⟩
  · rw [List.map_append]
    exact (hd.mono g.same).append (hu.mono g.same)
  · rcases List.mem_append.mp hy with hy | hy
    · exact hz y hy
    · exact hk y hy
theorem Gz0 : Gz 0 = 31 := rfl
theorem Gz1 : Gz 1 = 103 := rfl
theorem Tl.up {p : Pt} {κ : Kd} {u : V} (h : Tl K H es 1 p κ u) : Tl K H es (d + 1) p κ u := ⟨h.at_, h.has, by have := h.deep; omega, by have := h.sz; have := Gz31 d; rw [Gz1] at *; rw [Gz]; omega⟩
abbrev psLp : List Str := ["_law_script", "_law_k", "_law_kind_here", "_law_scope", "_law_more"]
def spLoop (K : PySem.W.Frag) (n : Nat) : Sp := fun vs H Q _ => ∃ (sa : Addr) (k : Int) (v : V) (sc : Addr) (m : Int) (κ : Kd) (es : Cxt), vs = [.ref sa, .int k, v, .ref sc, .int m] ∧ Ev K H sa sc es 1 ∧ DtAt K H κ.dt v ∧ 0 < n ∧ κ.sz + 4 ≤ 31 ∧ ∀ u p H', Grow H H' → Tl K H' es 1 p κ u → Q u H'
theorem scLp : FnScope ["_law_script", "_law_k", "_law_kind_here", "_law_scope", "_law_more", "_law_many", "_law_inner", "_law_again", "_law_base", "_law_body"] psLp (defScope sLoop) := ⟨rfl, rfl, rfl, by decide +kernel, rfl, by decide +kernel, by decide +kernel⟩
abbrev loopSc (es : Cxt) (κ : Kd) : Cxt := es ++ [(("f" : Str), Kd.fn .int κ), (("n" : Str), Kd.int)]
theorem loop_rev (es : Cxt) (κ : Kd) : (loopSc es κ).reverse = (("n" : Str), Kd.int) :: (("f" : Str), Kd.fn .int κ) :: es.reverse := by rw [List.reverse_append]; rfl
theorem loop_n (es : Cxt) (κ : Kd) : (loopSc es κ).reverse.lookup ("n" : Str) = some Kd.int := by rw [loop_rev, List.lookup_cons, beq_self_eq_true]
theorem loop_f (es : Cxt) (κ : Kd) : (loopSc es κ).reverse.lookup ("f" : Str) = some (Kd.fn .int κ) := by rw [loop_rev, Pt.lookup_cons_ne (by decide +kernel), List.lookup_cons, beq_self_eq_true]
theorem k2_call (k l : Kd) : Pt.k2 .call (.fn k l) k = some l := by simp [Pt.k2]
theorem k2_cons (k : Kd) : Pt.k2 .cons k (.list k) = some (.list k) := by simp [Pt.k2]
end
end K13
set_option maxRecDepth 100000
set_option linter.all false
set_option Elab.async false
set_option maxHeartbeats 4000000
namespace L2
open PySem PySem.Spec PyProof.Rows PyProof
theorem star_tup {es : List Expr} {k : Nat} {p : Pos} {rest : List Expr} {env : Env} : starEach (.Tuple es k p :: rest) env = (false, eval (.Tuple es k p) env) :: starEach rest env := by rfl
theorem star_con {c : Const} {k : Nat} {p : Pos} {rest : List Expr} {env : Env} : starEach (.Constant c k p :: rest) env = (false, eval (.Constant c k p) env) :: starEach rest env := by rfl
theorem star_nam {x : Str} {p : Pos} {rest : List Expr} {env : Env} : starEach (.Name x p :: rest) env = (false, eval (.Name x p) env) :: starEach rest env := by rfl
structure PEw (X : Cx) (e : Expr) (te : TE) : Prop where
  h : PE X e te
structure PAw (X : Cx) (es : List Expr) (t : TA) : Prop where
  h : PA X es t
structure PSw (X : Cx) (ss : List Stmt) (t : TS) : Prop where
  h : PSs X ss t
section
variable {X : Cx} {e : Expr} {es rest : List Expr} {te : TE} {t t' : TA} {j k : Nat} {p : Pos} {x : Str} {n : Int} {b : Bool}
theorem wn : PAw X [] tNil := ⟨pa_nil⟩
theorem ws (hr : PAw X rest t) : PAw X (.Constant (.str x) j p :: rest) (tCons (tC (.str x)) t) := ⟨pa_cons pe_str hr.h star_con⟩
theorem wi (hr : PAw X rest t) : PAw X (.Constant (.int n) j p :: rest) (tCons (tC (.int n)) t) := ⟨pa_cons pe_int hr.h star_con⟩
theorem wb (hr : PAw X rest t) : PAw X (.Constant (.bool b) j p :: rest) (tCons (tC (.bl b)) t) := ⟨pa_cons pe_bl hr.h star_con⟩
theorem wt (h : PAw X es t) (hr : PAw X rest t') : PAw X (.Tuple es k p :: rest) (tCons (tTup t) t') := ⟨pa_cons (pe_tup h.h) hr.h star_tup⟩
theorem wx (h : PE X (.Name x p) te) (hr : PAw X rest t) : PAw X (.Name x p :: rest) (tCons te t) := ⟨pa_cons h hr.h star_nam⟩
theorem wT (h : PAw X es t) : PEw X (.Tuple es k p) (tTup t) := ⟨pe_tup h.h⟩
theorem wL (h : PAw X es t) : PEw X (.List es p) (tLst t) := ⟨pe_lst h.h⟩
theorem wRet (h : PEw X e te) : PSw X [.Return (some e) p] (tRet te) := ⟨pss_one (ps_ret h.h)⟩
theorem ps_ifw {c : Expr} {sa sb : List Stmt} {tc : TT} {ta tb : TS} (hc : PT X c tc) (ha : PSw X sa ta) (hb : PSs X sb tb) : PS X (.If c sa sb p) (tIfS tc ta tb) := ps_if hc ha.h hb
theorem wSet {i : Nat} {p' : Pos} {r : List Stmt} {tr : TS} (hN : X.N.Nodup) (hi : X.N[i]? = some x) (hx : Loc X.env.scope x) (he : PEw X e te) (hs : swapsWith e (some (.Name x p')) p.line X.env = pure false) (hf : X.fn x = true ∨ X.env.scope.names.lookup x = some .local) (hr : PSw X r tr) : PSw X (.Assign [.Name x p'] e p :: r) (tSeq (tAsg te (gName i)) tr) := ⟨pss_cons (ps_set hN hi hx he.h hs hf) hr.h⟩
theorem wOne {i : Nat} {p' : Pos} (hN : X.N.Nodup) (hi : X.N[i]? = some x) (hx : Loc X.env.scope x) (he : PEw X e te) (hs : swapsWith e (some (.Name x p')) p.line X.env = pure false) (hf : X.fn x = true ∨ X.env.scope.names.lookup x = some .local) : PSw X [.Assign [.Name x p'] e p] (tAsg te (gName i)) := ⟨pss_one (ps_set hN hi hx he.h hs hf)⟩
end
end L2
namespace K13
open PySem L2 PyProof Dt
section
variable {P : Program} {w : World} {K : PySem.W.Frag} {mg : Str → Option Value} {base : Heap} {f : Addr} {fd : FuncData}
theorem ok_loop {n j : Nat} (F : FunD K "_law_loop" "_law_loop" sLoop .none f fd) (G : GlS K mg) (GP : Kn P w K mg base j "_law_part" psPt (spPart K n)) : FnOk P w K mg base (CXE P w) (j + 1) f fd psLp (spLoop K n) := by
  refine F.ok0 scLp (fun vs H Q E h => ?_) (fun cdv A outer s H vs Q E hr h => ?_)
  · obtain ⟨sa, k, v, sc, m, κ, es, rfl, _⟩ := h
    rfl
  · obtain ⟨sa, k, v, sc, m, κ, es, rfl, hE, hv, hn, hz, q⟩ := h
    have hlen := hE.len
    obtain ⟨tl, pls, htl⟩ : ∃ t, PSs (cxOf (CXE P w) P w K mg base ["_law_script", "_law_k", "_law_kind_here", "_law_scope", "_law_more", "_law_many", "_law_inner", "_law_again", "_law_base", "_law_body"] "_law_loop" (defScope sLoop) f cdv A outer s H E).nox ((defBody sLoop).drop 4) t ∧
        ∀ (mn : Int) (l2 : Addr) (ag : V) (p : Pt) (H5 : Hp), Grow H H5 → DtAt K H5 p.dt ag → Pt.Has (loopSc es κ).reverse p κ → p.deep ≤ 32 → p.sz ≤ 37 → Ev K H5 sa l2 (loopSc es κ) 0 → t { nx := fun _ H' => Q .non H', rt := Q } [some (.ref sa), some (.int k), some v, some (.ref sc), some (.int m), some (.int mn), some (.ref l2), some ag, none, none] H5 := by
      refine ⟨_, pss_cons (ps_set (i := 8) scLp.nd rfl (Or.inl rfl) (pe_k GP hr (pa_cons (pv 0) (pa_cons (pe_op op_add (pe_op op_mul pe_int (pv 1)) pe_int) (pa_cons (pv 2) (pa_cons (pv 6) (pa_cons pe_int pa_nil)))))))
        (@PSw.h _ _ _ (wSet (i := 9) scLp.nd rfl (Or.inl rfl) (wT (ws (wt (ws (wt (ws (ws wn)) (wt (ws (wi wn)) wn))) (wx (pv 8) (wx (pv 7) wn))))) rfl (Or.inl rfl) (wRet (wT (ws (wt (ws (ws (ws (ws (wx (pv 2) (wx (pv 9) wn)))))) (wt (ws (wx (pv 5) wn)) wn))))))), ?_⟩
      intro mn l2 ag p H5 g5 hag hp hpd hpz hE5
      refine ⟨_, rfl, _, rfl, _, _, rfl, rfl, .inl ⟨by decide, by decide⟩, _, _, rfl, rfl, _, rfl, _, rfl, sa, _, v, l2, κ, loopSc es κ, 0, rfl, hE5, hv.mono g5.same, hn, by omega, fun bu bp H6 g6 tb => ?_⟩
      dsimp only [gName, List.set]
      refine ⟨(by show 2 ≤ sizeLine; decide), fun a1 ha1 => ?_⟩
      obtain ⟨g7, x1⟩ := mk1 (K := K) (x := "name") (d1 := .str "n") ha1 (str_at _)
      generalize upd H6 a1 (.tup [.str "name", .str "n"]) = H7 at g7 x1 ⊢
      refine ⟨(by show 2 ≤ sizeLine; decide), fun a2 ha2 => ?_⟩
      obtain ⟨g8, x2⟩ := mk1 (K := K) (x := "num") (d1 := .int 1) ha2 (int_at _)
      generalize upd H7 a2 (.tup [.str "num", .int 1]) = H8 at g8 x2 ⊢
      refine ⟨(by show 3 ≤ sizeLine; decide), fun a3 ha3 => ?_⟩
      obtain ⟨g9, x3⟩ := mk2 (K := K) (x := "less") ha3 (x1.mono g8.same) x2
      generalize upd H8 a3 (.tup [.str "less", .ref a1, .ref a2]) = H9 at g9 x3 ⊢
      have g69 := (g7.trans g8).trans g9
      refine ⟨_, rfl, _, rfl, (by show 4 ≤ sizeLine; decide), fun a4 ha4 => ?_⟩
      obtain ⟨g10, x4⟩ := mk3 (K := K) (x := "if") ha4 x3 (tb.at_.mono g69.same) (hag.mono (g6.trans g69).same)
      dsimp only [gName, List.set]
      generalize upd H9 a4 (.tup [.str "if", .ref a3, bu, ag]) = H10 at g10 x4 ⊢
      have g510 := (g6.trans g69).trans g10
      refine ⟨_, rfl, _, rfl, (by show 6 ≤ sizeLine; decide), fun a5 ha5 => ?_⟩
      obtain ⟨g11, x5⟩ := mk5 (K := K) (x := "rec") (d1 := .str "f") (d2 := .str "n") (d3 := .str "int") ha5 (str_at _) (str_at _) (str_at _) (hv.mono (g5.trans g510).same) x4
      generalize upd H10 a5 (.tup [.str "rec", .str "f", .str "n", .str "int", v, .ref a4]) = H11 at g11 x5 ⊢
      refine ⟨_, rfl, (by show 2 ≤ sizeLine; decide), fun a6 ha6 => ?_⟩
      obtain ⟨g12, x6⟩ := mk1 (K := K) (x := "num") (d1 := .int mn) ha6 (int_at _)
      generalize upd H11 a6 (.tup [.str "num", .int mn]) = H12 at g12 x6 ⊢
      refine ⟨(by show 3 ≤ sizeLine; decide), fun a7 ha7 => ?_⟩
      obtain ⟨g13, x7⟩ := mk2 (K := K) (x := "call") ha7 (x5.mono g12.same) x6
      refine q _ (.two .call (.rc "f" "n" .int κ (.ite (.two .less (.nam "n") (.num 1)) bp p)) (.num mn)) _ ((((g5.trans g510).trans g11).trans g12).trans g13) ⟨x7, ?_, ?_, ?_⟩
      · have hb := tb.has
        rw [loop_rev] at hb hp
        have hnm := loop_n es κ
        rw [loop_rev] at hnm
        exact .two (.rc (.ite (.two (.nam hnm (by decide)) .num rfl (by decide)) hb hp) (by show Kd.int.sz + κ.sz + 1 ≤ 40; simp only [Kd.sz]; omega)) .num (k2_call _ _) (by omega)
      · have := tb.deep
        simp only [Pt.deep]
        omega
      · have := tb.sz
        rw [Gz0] at this
        rw [Gz1]
        simp only [Pt.sz]
        omega
    refine ⟨_, pss_cons (ps_set (i := 5) scLp.nd rfl (Or.inl rfl) (pe_ix ix_list (pe_lst (pa_cons (pe_op op_mod (pv 4) pe_int) (pa_cons (pe_op op_mod (pv 4) pe_int) (pa_cons (pe_op op_add pe_int (pe_op op_mod (pv 4) pe_int)) pa_nil)))) (pe_op op_mod (pe_op op_fdiv (pv 4) pe_int) pe_int) (fun _ _ => rfl)))
      (pss_cons (ps_set (i := 6) scLp.nd rfl (Or.inl rfl) (pe_op op_cat (pv 3) (@PEw.h _ _ _ (wL (wt (ws (wt (ws (ws (wx (pv 2) wn))) wn)) (wt (ws (ws wn)) wn))))))
      (@PSw.h _ _ _ (wSet (i := 7) scLp.nd rfl (Or.inl rfl) (wT (ws (wt (ws (ws wn)) (wt (ws (wt (ws (ws wn)) (wt (ws (wi wn)) wn))) wn)))) rfl (Or.inl rfl) ⟨pss_cons (ps_if (PW.pt (pw_and (pt_cmpR op_gt (pe_op op_mod (pe_op op_fdiv (pv 4) pe_int) pe_int) pe_int (nomark _)) (pw_and1 (pt_cmpR op_eqD (pv 2) pe_str (nomark _)))))
          (pss_one (ps_set (i := 7) scLp.nd rfl (Or.inl rfl) (pe_tup (pa_cons pe_str (pa_cons (pe_k GP hr (pa_cons (pv 0) (pa_cons (pe_op op_add (pe_op op_mul pe_int (pv 1)) pe_int) (pa_cons (pv 2) (pa_cons (pv 6) (pa_cons pe_int pa_nil)))))) (pa_cons (pv 7) pa_nil))))))
          (pss_one (ps_if (PW.pt (pw_and (pt_cmpR op_gt (pe_op op_mod (pe_op op_fdiv (pv 4) pe_int) pe_int) pe_int (nomark _)) (pw_and (pt_not (pt_val (pe_callB call_isD (by rfl) G.isi PyProof.Rows.boot_isinstance (pa_cons (pv 2) (pa_cons (pe_bltn (v := .ty "str") (by rfl) G.str PyProof.Rows.boot_str rfl) pa_nil))))) (pw_and1 (pt_cmpR op_eq (pe_ix ix_tup (pv 2) pe_int (fun _ _ => rfl)) pe_str (nomark _))))))
            (pss_one (ps_set (i := 7) scLp.nd rfl (Or.inl rfl) (pe_tup (pa_cons pe_str (pa_cons (pe_k GP hr (pa_cons (pv 0) (pa_cons (pe_op op_add (pe_op op_mul pe_int (pv 1)) pe_int) (pa_cons (pe_ix ix_tup (pv 2) pe_int (fun _ _ => rfl)) (pa_cons (pv 6) (pa_cons pe_int pa_nil)))))) (pa_cons (pv 7) pa_nil))))))
            (pss_one (ps_if (pt_cmpR op_eq (pe_op op_mod (pe_op op_fdiv (pv 4) pe_int) pe_int) pe_int (nomark _))
              (@PSw.h _ _ _ (wOne (i := 7) scLp.nd rfl (Or.inl rfl) (wT (ws (ws (wx (pv 7) (wt (ws (ws wn)) wn))))) rfl (Or.inl rfl))) pss_nil))))) pls⟩))), ?_⟩
    have hdep := room_dep hr (Nat.le_trans (dep_kd κ (by omega)) (show 40 ≤ 150 by decide))
    have kp := kpos κ
    refine ⟨_, rfl, _, _, rfl, rfl, (by show (0 : Int) < _; decide), _, rfl, _, _, rfl, rfl, (by show (0 : Int) < _; decide), _, rfl, _, _, rfl, rfl, (by show (0 : Int) < _; decide), _, _, rfl, rfl, (by show 3 ≤ sizeLine; decide), fun l hl => ?_⟩
    obtain ⟨y, hy, hay⟩ := atI_mod (xs := [.int (m % 6), .int (m % 30), .int (39 + m % 4)]) (n := 3) rfl (by decide) (m / 64)
    refine ⟨_, rfl, _, _, rfl, rfl, ⟨by decide, by decide⟩, _, _, rfl, rfl, (by show (0 : Int) < _; decide), l, _, _, y, rfl, rfl, SqL.of upd_same, hay, ?_⟩
    obtain ⟨mn, rfl⟩ : ∃ mn : Int, y = .int mn := by
      simp only [List.mem_cons, List.not_mem_nil, or_false] at hy
      rcases hy with rfl | rfl | rfl <;> exact ⟨_, rfl⟩
    have g1 := Grow.put (o := .lst [.int (m % 6), .int (m % 30), .int (39 + m % 4)]) hl
    generalize upd H l (.lst [.int (m % 6), .int (m % 30), .int (39 + m % 4)]) = H1 at g1 ⊢
    dsimp only [gName, List.set]
    refine ⟨_, rfl, _, rfl, (by show 3 ≤ sizeLine; decide), fun T0 hT0 => ?_⟩
    obtain ⟨g2, y0⟩ := mk2 (K := K) (x := "fun") (d1 := .str "int") hT0 (str_at _) (hv.mono g1.same)
    generalize upd H1 T0 (.tup [.str "fun", .str "int", v]) = H2 at g2 y0 ⊢
    refine ⟨(by show 2 ≤ sizeLine; decide), fun T1 hT1 => ?_⟩
    obtain ⟨g3, y1⟩ := mk1 (K := K) (x := "f") hT1 y0
    generalize upd H2 T1 (.tup [.str "f", .ref T0]) = H3 at g3 y1 ⊢
    refine ⟨(by show 2 ≤ sizeLine; decide), fun T2 hT2 => ?_⟩
    obtain ⟨g4, y2⟩ := mk1 (K := K) (x := "n") (d1 := .str "int") hT2 (str_at _)
    generalize upd H3 T2 (.tup [.str "n", .str "int"]) = H4 at g4 y2 ⊢
    refine ⟨(by show 2 ≤ sizeLine; decide), fun l1 hl1 => ?_⟩
    have g5 : Grow H4 (upd H4 l1 (.lst [.ref T1, .ref T2])) := Grow.put hl1
    have el : (upd H4 l1 (.lst [.ref T1, .ref T2])) l1 = some (.lst [.ref T1, .ref T2]) := upd_same
    generalize upd H4 l1 (.lst [.ref T1, .ref T2]) = H5 at g5 el ⊢
    have g15 := ((g2.trans g3).trans g4).trans g5
    have g05 := g1.trans g15
    obtain ⟨ws, hsc, hd, _⟩ := id hE.sco
    have hws : ws.length = es.length := by rw [hd.length, List.length_map]
    refine ⟨sc, l1, _, _, rfl, rfl, g05.same _ _ hsc, el, by rw [sizeLine_eq]; simp; omega, fun l2 hl2 => ?_⟩
    have g6 : Grow H5 (upd H5 l2 (.lst (ws ++ [.ref T1, .ref T2]))) := Grow.put hl2
    have hS6 : ScL K (upd H5 l2 (.lst (ws ++ [.ref T1, .ref T2]))) l2 (loopSc es κ) := by
      refine (hE.sco.mono g05).app (fs := [(("f" : Str), Kd.fn .int κ), (("n" : Str), Kd.int)]) (g05.same _ _ hsc) hl2 (cons_ats (y1.mono (g4.trans g5).same) (cons_ats (y2.mono g5.same) nil_ats)) ?_
      intro e he
      simp only [List.mem_cons, List.not_mem_nil, or_false] at he
      rcases he with rfl | rfl
      · show Kd.int.sz + κ.sz + 1 ≤ 40; simp only [Kd.sz]; omega
      · show Kd.int.sz ≤ 40; decide
    dsimp only [gName, List.set]
    generalize upd H5 l2 (.lst (ws ++ [.ref T1, .ref T2])) = H6 at g6 hS6 ⊢
    have g06 := g05.trans g6
    have hE6 : Ev K H6 sa l2 (loopSc es κ) 0 := ⟨(hE.mono g06).scr, hS6, by rw [List.length_append]; simp; omega⟩
    refine ⟨(by show 2 ≤ sizeLine; decide), fun a1 ha1 => ?_⟩
    obtain ⟨g7, x1⟩ := mk1 (K := K) (x := "name") (d1 := .str "f") ha1 (str_at _)
    generalize upd H6 a1 (.tup [.str "name", .str "f"]) = H7 at g7 x1 ⊢
    refine ⟨(by show 2 ≤ sizeLine; decide), fun a2 ha2 => ?_⟩
    obtain ⟨g8, x2⟩ := mk1 (K := K) (x := "name") (d1 := .str "n") ha2 (str_at _)
    generalize upd H7 a2 (.tup [.str "name", .str "n"]) = H8 at g8 x2 ⊢
    refine ⟨(by show 2 ≤ sizeLine; decide), fun a3 ha3 => ?_⟩
    obtain ⟨g9, x3⟩ := mk1 (K := K) (x := "num") (d1 := .int 1) ha3 (int_at _)
    generalize upd H8 a3 (.tup [.str "num", .int 1]) = H9 at g9 x3 ⊢
    refine ⟨(by show 3 ≤ sizeLine; decide), fun a4 ha4 => ?_⟩
    obtain ⟨g10, x4⟩ := mk2 (K := K) (x := "minus") ha4 (x2.mono g9.same) x3
    generalize upd H9 a4 (.tup [.str "minus", .ref a2, .ref a3]) = H10 at g10 x4 ⊢
    refine ⟨(by show 3 ≤ sizeLine; decide), fun a5 ha5 => ?_⟩
    obtain ⟨g11, x5⟩ := mk2 (K := K) (x := "call") ha5 (x1.mono ((g8.trans g9).trans g10).same) x4
    dsimp only [gName, List.set]
    generalize upd H10 a5 (.tup [.str "call", .ref a1, .ref a4]) = H11 at g11 x5 ⊢
    have g611 := (((g7.trans g8).trans g9).trans g10).trans g11
    have g011 := g06.trans g611
    have hE11 := hE6.mono g611
    have hv11 := hv.mono g011.same
    have ag0 : DtAt K H11 (Pt.two .call (.nam "f") (.two .minus (.nam "n") (.num 1))).dt (.ref a5) := x5
    have fz : (Kd.fn .int κ).sz ≤ 40 := by show Kd.int.sz + κ.sz + 1 ≤ 40; simp only [Kd.sz]; omega
    have hag : Pt.Has (loopSc es κ).reverse (Pt.two .call (.nam "f") (.two .minus (.nam "n") (.num 1))) κ := .two (.nam (loop_f es κ) fz) (.two (.nam (loop_n es κ) (by decide)) .num rfl (by decide)) (k2_call _ _) (by omega)
    generalize hp0 : Pt.two .call (.nam "f") (.two .minus (.nam "n") (.num 1)) = p0 at ag0 hag
    have d0 : p0.deep = 2 := by rw [← hp0]; rfl
    have s0 : p0.sz = 5 := by rw [← hp0]; rfl
    have plain : tl { nx := fun _ H' => Q .non H', rt := Q } [some (.ref sa), some (.int k), some v, some (.ref sc), some (.int m), some (.int mn), some (.ref l2), some (.ref a5), none, none] H11 := htl mn l2 (.ref a5) p0 H11 g011 ag0 hag (by omega) (by omega) hE11
    have third : ∀ b : Bool, if b = true then tAsg (tTup (tCons (tC (.str "let")) (tCons (tC (.str "y")) (tCons (tVar 7) (tCons (tTup (tCons (tC (.str "name")) (tCons (tC (.str "y")) tNil))) tNil))))) (gName 7) { nx := fun σ H' => tl { nx := fun _ H' => Q .non H', rt := Q } σ H', rt := Q } [some (.ref sa), some (.int k), some v, some (.ref sc), some (.int m), some (.int mn), some (.ref l2), some (.ref a5), none, none] H11
        else tl { nx := fun _ H' => Q .non H', rt := Q } [some (.ref sa), some (.int k), some v, some (.ref sc), some (.int m), some (.int mn), some (.ref l2), some (.ref a5), none, none] H11 := by
      intro b
      refine ite2 (fun _ => ?_) (fun _ => plain)
      refine ⟨_, rfl, (by show 2 ≤ sizeLine; decide), fun a6 ha6 => ?_⟩
      obtain ⟨g12, x6⟩ := mk1 (K := K) (x := "name") (d1 := .str "y") ha6 (str_at _)
      generalize upd H11 a6 (.tup [.str "name", .str "y"]) = H12 at g12 x6 ⊢
      refine ⟨(by show 4 ≤ sizeLine; decide), fun a7 ha7 => ?_⟩
      obtain ⟨g13, x7⟩ := mk3 (K := K) (x := "let") (d1 := .str "y") ha7 (str_at _) (ag0.mono g12.same) x6
      exact htl mn l2 _ (.let_ "y" p0 (.nam "y")) _ ((g011.trans g12).trans g13) x7 (.let_ hag (.nam (by rw [List.lookup_cons, beq_self_eq_true]) (by omega))) (by simp only [Pt.deep]; omega) (by simp only [Pt.sz]; omega) (hE11.mono (g12.trans g13))
    refine ⟨_, rfl, _, _, rfl, rfl, ⟨by decide, by decide⟩, _, _, rfl, rfl, (by show (0 : Int) < _; decide), _, _, rfl, rfl, _, rfl, ite2 (fun c0 => ?_) (fun c0 => iteF ?_)⟩
    · refine ⟨_, rfl, κ.dt, Kd.int.dt, hv11, str_at _, hdep, _, rfl, ?_⟩
      rw [Kd.eq_dt]
      refine ite2 (fun c => ?_) (fun c1 => ?_)
      · cases of_decide_eq_true c
        refine ⟨_, rfl, _, rfl, _, _, rfl, rfl, .inl ⟨by decide, by decide⟩, _, _, rfl, rfl, _, rfl, _, rfl, sa, _, v, l2, .int, loopSc es .int, 0, rfl, hE11, hv11, hn, by decide, fun bu bp H12 g12 tb => ?_⟩
        refine ⟨_, rfl, (by show 3 ≤ sizeLine; decide), fun a6 ha6 => ?_⟩
        obtain ⟨g13, x6⟩ := mk2 (K := K) (x := "plus") ha6 tb.at_ (ag0.mono g12.same)
        have := tb.deep
        have := tb.sz
        rw [Gz0] at this
        exact htl mn l2 _ (.two .plus bp p0) _ ((g011.trans g12).trans g13) x6 (.two tb.has hag rfl (by decide)) (by simp only [Pt.deep]; omega) (by simp only [Pt.sz]; omega) (hE11.mono (g12.trans g13))
      · refine ⟨_, rfl, _, _, rfl, rfl, ⟨by decide, by decide⟩, _, _, rfl, rfl, (by show (0 : Int) < _; decide), _, _, rfl, rfl, _, rfl, ite2 (fun _ => ?_) (fun z => absurd c0 z)⟩
        by_cases hlf : Kd.leaf κ = true
        · obtain ⟨rfl, ed⟩ := at_leaf hlf hv11
          refine ⟨_, rfl, κ.dt, _, "str", true, rfl, hv11, by rw [ed]; exact kit_ss K, true, rfl, iteF (iteF ?_)⟩
          exact ⟨_, rfl, _, _, rfl, rfl, ⟨by decide, by decide⟩, _, _, rfl, rfl, (by show (0 : Int) < _; decide), rfl, _, rfl, third _⟩
        · have hlf' : Kd.leaf κ = false := by simpa using hlf
          refine ⟨_, rfl, κ.dt, _, "str", false, rfl, hv11, by rw [ty_kids hlf']; exact G.ts, false, rfl, iteT ?_⟩
          cases κ with
          | int => cases hlf'
          | bool => cases hlf'
          | list κ1 =>
            obtain ⟨a, u, rfl, ha, hu⟩ := at_w1 hv11
            refine ⟨_, rfl, a, _, _, .str "list", rfl, rfl, ha, atI_nat (j := 0) rfl, rfl, _, rfl, iteYes (by decide +kernel) ?_⟩
            have e : (Kd.list κ1).sz = κ1.sz + 1 := rfl
            refine ⟨_, rfl, _, rfl, _, _, rfl, rfl, .inl ⟨by decide, by decide⟩, _, _, rfl, rfl, _, rfl, a, _, _, u, rfl, rfl, ha, atI_nat (j := 1) rfl, _, rfl, sa, _, u, l2, κ1, loopSc es (.list κ1), 0, rfl, hE11, hu, hn, by omega, fun bu bp H12 g12 tb => ?_⟩
            refine ⟨_, rfl, (by show 3 ≤ sizeLine; decide), fun a6 ha6 => ?_⟩
            obtain ⟨g13, x6⟩ := mk2 (K := K) (x := "cons") ha6 tb.at_ (ag0.mono g12.same)
            have := tb.deep
            have := tb.sz
            rw [Gz0] at this
            exact htl mn l2 _ (.two .cons bp p0) _ ((g011.trans g12).trans g13) x6 (.two tb.has hag (k2_cons _) (by omega)) (by simp only [Pt.deep]; omega) (by simp only [Pt.sz]; omega) (hE11.mono (g12.trans g13))
          | pair κ1 κ2 =>
            obtain ⟨a, u, x, rfl, ha, hu, hx⟩ := at_w2 hv11
            refine ⟨_, rfl, a, _, _, .str "pair", rfl, rfl, ha, atI_nat (j := 0) rfl, rfl, _, rfl, iteNo (by decide +kernel) ?_⟩
            exact ⟨_, rfl, _, _, rfl, rfl, ⟨by decide, by decide⟩, _, _, rfl, rfl, (by show (0 : Int) < _; decide), rfl, _, rfl, third _⟩
          | fn κ1 κ2 =>
            obtain ⟨a, u, x, rfl, ha, hu, hx⟩ := at_w2 hv11
            refine ⟨_, rfl, a, _, _, .str "fun", rfl, rfl, ha, atI_nat (j := 0) rfl, rfl, _, rfl, iteNo (by decide +kernel) ?_⟩
            exact ⟨_, rfl, _, _, rfl, rfl, ⟨by decide, by decide⟩, _, _, rfl, rfl, (by show (0 : Int) < _; decide), rfl, _, rfl, third _⟩
    · refine ⟨_, rfl, _, _, rfl, rfl, ⟨by decide, by decide⟩, _, _, rfl, rfl, (by show (0 : Int) < _; decide), _, _, rfl, rfl, _, rfl, ite2 (fun z => absurd z c0) (fun _ => iteF ?_)⟩
      exact ⟨_, rfl, _, _, rfl, rfl, ⟨by decide, by decide⟩, _, _, rfl, rfl, (by show (0 : Int) < _; decide), rfl, _, rfl, third _⟩
end
end K13
set_option maxRecDepth 100000
set_option linter.all false
set_option Elab.async false
set_option maxHeartbeats 4000000
namespace K13
open PySem L2 PyProof Dt
section
variable {P : Program} {w : World} {K : PySem.W.Frag} {mg : Str → Option Value} {base : Heap} {f : Addr} {fd : FuncData} {H H' : Hp} {sa sc : Addr} {es : Cxt} {d : Nat}
abbrev NPt : List Str := ["_law_script", "_law_k", "_law_kind_here", "_law_scope", "_law_deep", "_law_more", "_law_way", "_law_other", "_law_name", "_law_wider", "_law_test", "_law_one", "_law_at", "_law_pair"]
theorem scPt : FnScope NPt psPt (defScope sPart) := ⟨rfl, rfl, rfl, by decide +kernel, rfl, by decide +kernel, by decide +kernel⟩
theorem ok_pt0 (F : FunD K "_law_part" "_law_part" sPart .none f fd) : FnOk P w K mg base (CXE P w) (4 * 0 + 46) f fd psPt (spPart K 0) := by
  refine F.ok0 (k := 45) scPt (fun vs H Q E h => ?_) (fun cdv A outer s H vs Q E hr h => ?_)
  · obtain ⟨sa, k, v, sc, κ, es, d, rfl, _⟩ := h
    rfl
  · obtain ⟨sa, k, v, sc, κ, es, d, rfl, _, _, hd, _⟩ := h
    exact absurd hd (Nat.not_lt_zero _)
theorem ok_pt {n : Nat} (F : FunD K "_law_part" "_law_part" sPart .none f fd) (GC : Kn P w K mg base 1 "_law_cell" ["_law_script", "_law_k"] (spCell K)) (GD : Kn P w K mg base 1 "_law_drawn" ["_law_cell_here", "_law_k"] spDrawn) (GL : Kn P w K mg base 43 "_law_leaf" psLf (spLf K 41)) (GK : Kn P w K mg base 3 "_law_kind" ["_law_more", "_law_deep"] (spLK K 2))
    (GP : Kn P w K mg base (4 * n + 46) "_law_part" psPt (spPart K n)) (GT : Kn P w K mg base (4 * n + 46 + 1) "_law_two" psTw (spTwo K n)) (GO : Kn P w K mg base (4 * n + 46 + 2) "_law_of_kind" psOK (spOK K n)) (GLp : Kn P w K mg base (4 * n + 46 + 1) "_law_loop" psLp (spLoop K n)) : FnOk P w K mg base (CXE P w) (4 * (n + 1) + 46) f fd psPt (spPart K (n + 1)) := by
  refine F.ok0 (k := 4 * n + 49) scPt (fun vs H Q E h => ?_) (fun cdv A outer s H vs Q E hr h => ?_)
  · obtain ⟨sa, k, v, sc, κ, es, d, rfl, _⟩ := h
    rfl
  · obtain ⟨sa, k, v, sc, κ, es, d, rfl, hE, hv, hd, hz, q⟩ := h
    have h1 := hr.mono (show 1 ≤ 4 * n + 49 by omega)
    have h3 := hr.mono (show 3 ≤ 4 * n + 49 by omega)
    have h43 := hr.mono (show 43 ≤ 4 * n + 49 by omega)
    have hP := hr.mono (show 4 * n + 46 ≤ 4 * n + 49 by omega)
    have hT := hr.mono (show 4 * n + 46 + 1 ≤ 4 * n + 49 by omega)
    have hO := hr.mono (show 4 * n + 46 + 2 ≤ 4 * n + 49 by omega)
    obtain ⟨tl, pls, htl⟩ : ∃ t, PSs (cxOf (CXE P w) P w K mg base NPt "_law_part" (defScope sPart) f cdv A outer s H E).nox ((defBody sPart).drop 8) t ∧
        ∀ (e : Nat) (mm wy : Int) (ov : V) (nm : Str) (lw : Addr) (ok : Kd) (H5 : Hp), d = e + 1 → Grow H H5 → DtAt K H5 ok.dt ov → ok.sz ≤ 3 → ScL K H5 lw (es ++ [(nm, ok)]) → t { nx := fun _ H' => Q .non H', rt := Q } [some (.ref sa), some (.int k), some v, some (.ref sc), some (.int e), some (.int mm), some (.int wy), some ov, some (.str nm), some (.ref lw), none, none, none, none] H5 := by
      refine ⟨_, pss_cons (ps_if (pt_cmpR op_eq (pv 6) pe_int (nomark _))
            (pss_cons (ps_set (i := 10) scPt.nd rfl (Or.inl rfl) (pe_k GP hP (pa_cons (pv 0) (pa_cons (pe_op op_add (pe_op op_mul pe_int (pv 1)) pe_int) (pa_cons pe_str (pa_cons (pv 3) (pa_cons (pv 4) pa_nil)))))))
            (pss_one (ps_ret (pe_op op_catT (pe_tup (pa_cons pe_str (pa_cons (pv 10) pa_nil))) (pe_slice sl_tup (pe_k GT hT (pa_cons (pv 0) (pa_cons (pv 1) (pa_cons pe_str (pa_cons (pe_lst (pa_cons (pv 2) (pa_cons (pv 2) pa_nil))) (pa_cons (pv 3) (pa_cons (pv 4) pa_nil))))))) (po_some pe_int) po_none))))) pss_nil)
        (pss_cons (ps_if (pt_cmpR op_eq (pv 6) pe_int (nomark _))
            (pss_cons (ps_set (i := 11) scPt.nd rfl (Or.inl rfl) (pe_k GP hP (pa_cons (pv 0) (pa_cons (pe_op op_add (pe_op op_mul pe_int (pv 1)) pe_int) (pa_cons (pv 7) (pa_cons (pv 3) (pa_cons (pv 4) pa_nil)))))))
            (pss_one (ps_ret (pe_tup (pa_cons pe_str (pa_cons (pv 8) (pa_cons (pv 11) (pa_cons (pe_k GP hP (pa_cons (pv 0) (pa_cons (pe_op op_add (pe_op op_mul pe_int (pv 1)) pe_int) (pa_cons (pv 2) (pa_cons (pv 9) (pa_cons (pv 4) pa_nil)))))) pa_nil)))))))) pss_nil)
        (pss_cons (ps_if (pt_cmpR op_eq (pv 6) pe_int (nomark _))
            (pss_one (ps_ret (pe_k GT hT (pa_cons (pv 0) (pa_cons (pv 1) (pa_cons pe_str (pa_cons (pe_lst (pa_cons (pe_tup (pa_cons pe_str (pa_cons (pv 7) (pa_cons (pv 2) pa_nil)))) (pa_cons (pv 7) pa_nil))) (pa_cons (pv 3) (pa_cons (pv 4) pa_nil))))))))) pss_nil)
        (pss_cons (ps_if (pt_cmpR op_eq (pv 6) pe_int (nomark _))
            (pss_one (ps_ret (pe_tup (pa_cons pe_str (pa_cons (pe_k GP hP (pa_cons (pv 0) (pa_cons (pe_op op_add (pe_op op_mul pe_int (pv 1)) pe_int) (pa_cons (pe_tup (pa_cons pe_str (pa_cons (pv 2) pa_nil))) (pa_cons (pv 3) (pa_cons (pv 4) pa_nil)))))) pa_nil))))) pss_nil)
        (pss_cons (ps_if (pt_cmpR op_eq (pv 6) pe_int (nomark _))
            (pss_cons (ps_set (i := 12) scPt.nd rfl (Or.inl rfl) (pe_op op_mod (pe_op op_fdiv (pv 5) pe_int) pe_int))
            (pss_cons (ps_set (i := 13) scPt.nd rfl (Or.inl rfl) (pe_ix ix_list (pe_lst (pa_cons (pe_tup (pa_cons pe_str (pa_cons (pv 2) (pa_cons (pv 7) pa_nil)))) (pa_cons (pe_tup (pa_cons pe_str (pa_cons (pv 7) (pa_cons (pv 2) pa_nil)))) pa_nil))) (pv 12) (fun _ _ => rfl)))
            (pss_one (ps_ret (pe_tup (pa_cons (pe_ix ix_list (pe_lst (pa_cons pe_str (pa_cons pe_str pa_nil))) (pv 12) (fun _ _ => rfl)) (pa_cons (pe_k GP hP (pa_cons (pv 0) (pa_cons (pe_op op_add (pe_op op_mul pe_int (pv 1)) pe_int) (pa_cons (pv 13) (pa_cons (pv 3) (pa_cons (pv 4) pa_nil)))))) pa_nil))))))) pss_nil)
        (pss_cons (ps_if (pt_cmpR op_eq (pv 6) pe_int (nomark _))
            (pss_one (ps_ret (pe_k GLp hT (pa_cons (pv 0) (pa_cons (pv 1) (pa_cons (pv 2) (pa_cons (pv 3) (pa_cons (pe_op op_fdiv (pv 5) pe_int) pa_nil)))))))) pss_nil)
        (pss_cons (ps_if (pt_cmpR op_eq (pv 6) pe_int (nomark _))
            (pss_cons (ps_set (i := 11) scPt.nd rfl (Or.inl rfl) (pe_tup (pa_cons pe_str (pa_cons (pv 8) (pa_cons (pv 7) (pa_cons (pe_k GP hP (pa_cons (pv 0) (pa_cons (pe_op op_add (pe_op op_mul pe_int (pv 1)) pe_int) (pa_cons (pv 2) (pa_cons (pv 9) (pa_cons (pv 4) pa_nil)))))) pa_nil))))))
            (pss_cons (ps_set (i := 9) scPt.nd rfl (Or.inl rfl) (pe_op op_cat (pv 3) (pe_lst (pa_cons (pe_tup (pa_cons pe_str (pa_cons (pe_tup (pa_cons pe_str (pa_cons (pv 7) (pa_cons (pv 2) pa_nil)))) pa_nil))) pa_nil))))
            (pss_one (ps_ret (pe_tup (pa_cons pe_str (pa_cons pe_str (pa_cons (pv 11) (pa_cons (pe_tup (pa_cons pe_str (pa_cons (pe_tup (pa_cons pe_str (pa_cons pe_str pa_nil))) (pa_cons (pe_k GP hP (pa_cons (pv 0) (pa_cons (pe_op op_add (pe_op op_mul pe_int (pv 1)) pe_int) (pa_cons (pv 7) (pa_cons (pv 9) (pa_cons (pv 4) pa_nil)))))) pa_nil)))) pa_nil))))))))) pss_nil)
        (pss_one (ps_ret (pe_k GO hO (pa_cons (pv 0) (pa_cons (pv 1) (pa_cons (pv 2) (pa_cons (pv 3) (pa_cons (pv 4) (pa_cons (pe_op op_fdiv (pv 5) pe_int) pa_nil))))))))))))))), ?_⟩
      rintro e mm wy ov nm lw ok H5 rfl g5 hov hoz hSw
      have kp := kpos κ
      have hE5 := hE.mono g5
      have hE5' := hE5.le (Nat.le_succ e)
      have hEw := hE5.wider hSw
      have hlen := hE.len
      have hv5 := hv.mono g5.same
      have he : e < n := by omega
      refine ⟨_, rfl, rfl, _, rfl, ite2 (fun _ => ?_) (fun _ => ?_)⟩
      · refine ⟨_, rfl, _, rfl, _, _, rfl, rfl, .inl ⟨by decide, by decide⟩, _, _, rfl, rfl, _, rfl, _, rfl, sa, _, _, sc, .bool, es, e, rfl, hE5', str_at _, he, by simp only [Kd.sz]; omega, fun u0 p0 H6 g6 t0 => ?_⟩
        dsimp only [gName, List.set]
        refine ⟨_, rfl, (by show 2 ≤ sizeLine; decide), fun c hc => ?_⟩
        have g7 : Grow H6 (upd H6 c (.tup [.str "if", u0])) := Grow.put hc
        have ec : SqT K (upd H6 c (.tup [.str "if", u0])) c [.str "if", u0] := SqT.of upd_same
        generalize upd H6 c (.tup [.str "if", u0]) = H7 at g7 ec ⊢
        refine ⟨_, rfl, _, rfl, _, rfl, _, rfl, (by show 2 ≤ sizeLine; decide), fun kl hkl => ?_⟩
        have g8 : Grow H7 (upd H7 kl (.lst [v, v])) := Grow.put hkl
        have ek : SqL K (upd H7 kl (.lst [v, v])) kl [v, v] := SqL.of upd_same
        generalize upd H7 kl (.lst [v, v]) = H8 at g8 ek ⊢
        have g68 := g7.trans g8
        have g58 := g6.trans g68
        have hv8 := hv5.mono g58.same
        refine ⟨_, rfl, _, rfl, sa, k, "if", kl, sc, e, v, v, κ, κ, es, rfl, hE5'.mono g58, ek, hv8, hv8, he, by omega, by omega, fun t u1 u2 p1 p2 H9 g9 ht t1 t2 => ?_⟩
        refine ⟨_, rfl, t, _, rfl, ht, cut1_not _ _, fun b hb => ?_⟩
        rw [cut1]
        have g10 : Grow H9 (upd H9 b (.tup [u1, u2])) := Grow.put hb
        have eb : SqT K (upd H9 b (.tup [u1, u2])) b [u1, u2] := SqT.of upd_same
        generalize upd H9 b (.tup [u1, u2]) = H10 at g10 eb ⊢
        have g710 := (g8.trans g9).trans g10
        refine ⟨c, b, _, _, rfl, rfl, SqT.mono g710.same ec, eb, by simp, (by show 2 + 2 ≤ sizeLine; decide), fun z => (by cases z), fun _ a ha => ?_⟩
        have g11 : Grow H10 (upd H10 a (.tup ([.str "if", u0] ++ [u1, u2]))) := Grow.put ha
        exact q _ _ _ (((g5.trans g6).trans (g7.trans g710)).trans g11) (Tl.ite (t0.mono ((g7.trans g710).trans g11)) (t1.mono (g10.trans g11)) (t2.mono (g10.trans g11)) (SqT.of upd_same))
      refine ⟨_, rfl, rfl, _, rfl, ite2 (fun _ => ?_) (fun _ => ?_)⟩
      · refine ⟨_, rfl, _, rfl, _, _, rfl, rfl, .inl ⟨by decide, by decide⟩, _, _, rfl, rfl, _, rfl, _, rfl, _, rfl, sa, _, ov, sc, ok, es, e, rfl, hE5', hov, he, by omega, fun u1 p1 H6 g6 t1 => ?_⟩
        dsimp only [gName, List.set]
        refine ⟨_, rfl, _, rfl, _, rfl, _, rfl, _, _, rfl, rfl, .inl ⟨by decide, by decide⟩, _, _, rfl, rfl, _, rfl, _, rfl, _, rfl, sa, _, v, lw, κ, es ++ [(nm, ok)], e, rfl, hEw.mono g6, hv5.mono g6.same, he, by omega, fun u2 p2 H7 g7 t2 => ?_⟩
        refine ⟨(by show 4 ≤ sizeLine; decide), fun a ha => ?_⟩
        have g8 : Grow H7 (upd H7 a (.tup [.str "let", .str nm, u1, u2])) := Grow.put ha
        exact q _ _ _ (((g5.trans g6).trans g7).trans g8) (Tl.let_ (t1.mono (g7.trans g8)) (t2.mono g8) (SqT.of upd_same))
      refine ⟨_, rfl, rfl, _, rfl, ite2 (fun _ => ?_) (fun _ => ?_)⟩
      · refine ⟨_, rfl, _, rfl, _, rfl, _, rfl, (by show 3 ≤ sizeLine; decide), fun T hT => ?_⟩
        obtain ⟨g6, x6⟩ := mk2 (K := K) (x := "fun") hT hov hv5
        generalize upd H5 T (.tup [.str "fun", ov, v]) = H6 at g6 x6 ⊢
        refine ⟨_, rfl, (by show 2 ≤ sizeLine; decide), fun kl hkl => ?_⟩
        have g7 : Grow H6 (upd H6 kl (.lst [.ref T, ov])) := Grow.put hkl
        have ek : SqL K (upd H6 kl (.lst [.ref T, ov])) kl [.ref T, ov] := SqL.of upd_same
        generalize upd H6 kl (.lst [.ref T, ov]) = H7 at g7 ek ⊢
        have g57 := g6.trans g7
        refine ⟨_, rfl, _, rfl, sa, k, "call", kl, sc, e, .ref T, ov, .fn ok κ, ok, es, rfl, hE5'.mono g57, ek, x6.mono g7.same, hov.mono g57.same, he, (by show ok.sz + κ.sz + 1 + 4 * e ≤ 31; omega), by omega, fun t u1 u2 p1 p2 H9 g9 ht t1 t2 => ?_⟩
        exact q _ _ _ ((g5.trans g57).trans g9) (t1.two .call t2 ht (k2_call _ _) (by omega))
      refine ⟨_, rfl, rfl, _, rfl, ite2 (fun _ => ?_) (fun _ => ?_)⟩
      · refine ⟨_, rfl, _, rfl, _, _, rfl, rfl, .inl ⟨by decide, by decide⟩, _, _, rfl, rfl, _, rfl, (by show 2 ≤ sizeLine; decide), fun T hT => ?_⟩
        obtain ⟨g6, x6⟩ := mk1 (K := K) (x := "list") hT hv5
        generalize upd H5 T (.tup [.str "list", v]) = H6 at g6 x6 ⊢
        refine ⟨_, rfl, _, rfl, sa, _, .ref T, sc, .list κ, es, e, rfl, hE5'.mono g6, x6, he, (by show κ.sz + 1 + 4 * e ≤ 31; omega), fun u1 p1 H7 g7 t1 => ?_⟩
        refine ⟨(by show 2 ≤ sizeLine; decide), fun a ha => ?_⟩
        have g8 : Grow H7 (upd H7 a (.tup [.str "head", u1])) := Grow.put ha
        exact q _ _ _ (((g5.trans g6).trans g7).trans g8) ((t1.mono g8).one .head (SqT.of upd_same) rfl (by omega))
      refine ⟨_, rfl, rfl, _, rfl, ite2 (fun _ => ?_) (fun _ => ?_)⟩
      · refine ⟨_, rfl, _, _, rfl, rfl, ⟨by decide, by decide⟩, _, _, rfl, rfl, (by show (0 : Int) < _; decide), ?_⟩
        dsimp only [gName, List.set]
        obtain ⟨z, hzz, h01⟩ : ∃ z : Int, mm / 243 % 2 = z ∧ (z = 0 ∨ z = 1) := ⟨_, rfl, by omega⟩
        rw [hzz]
        refine ⟨_, rfl, _, rfl, (by show 3 ≤ sizeLine; decide), fun T1 hT1 => ?_⟩
        obtain ⟨g6, x6⟩ := mk2 (K := K) (x := "pair") hT1 hv5 hov
        generalize upd H5 T1 (.tup [.str "pair", v, ov]) = H6 at g6 x6 ⊢
        refine ⟨_, rfl, _, rfl, (by show 3 ≤ sizeLine; decide), fun T2 hT2 => ?_⟩
        obtain ⟨g7, x7⟩ := mk2 (K := K) (x := "pair") hT2 (hov.mono g6.same) (hv5.mono g6.same)
        generalize upd H6 T2 (.tup [.str "pair", ov, v]) = H7 at g7 x7 ⊢
        refine ⟨(by show 2 ≤ sizeLine; decide), fun l hl => ?_⟩
        have g8 : Grow H7 (upd H7 l (.lst [.ref T1, .ref T2])) := Grow.put hl
        have el : SqL K (upd H7 l (.lst [.ref T1, .ref T2])) l [.ref T1, .ref T2] := SqL.of upd_same
        generalize upd H7 l (.lst [.ref T1, .ref T2]) = H8 at g8 el ⊢
        have g58 := (g6.trans g7).trans g8
        have fin : ∀ (o : U1) (m : Kd) (pv : V), z = 0 ∧ o = .first ∧ m = .pair κ ok ∧ pv = .ref T1 ∨ z = 1 ∧ o = .second ∧ m = .pair ok κ ∧ pv = .ref T2 → DtAt K H8 m.dt pv ∧ Pt.k1 o m = some κ ∧ m.sz = κ.sz + ok.sz + 1 ∧ atI [V.ref T1, V.ref T2] z = some pv ∧ atI [V.str "first", V.str "second"] z = some (.str o.str) := by
          rintro o m pv (⟨rfl, rfl, rfl, rfl⟩ | ⟨rfl, rfl, rfl, rfl⟩)
          · exact ⟨x6.mono (g7.trans g8).same, rfl, rfl, atI_nat (j := 0) rfl, atI_nat (j := 0) rfl⟩
          · exact ⟨x7.mono g8.same, rfl, (by show ok.sz + κ.sz + 1 = _; omega), atI_nat (j := 1) rfl, atI_nat (j := 1) rfl⟩
        obtain ⟨o, m, pw, y1, y2, y3, y4, y5⟩ : ∃ (o : U1) (m : Kd) (pv : V), DtAt K H8 m.dt pv ∧ Pt.k1 o m = some κ ∧ m.sz = κ.sz + ok.sz + 1 ∧ atI [V.ref T1, V.ref T2] z = some pv ∧ atI [V.str "first", V.str "second"] z = some (.str o.str) := by
          rcases h01 with h | h
          · exact ⟨.first, .pair κ ok, .ref T1, fin _ _ _ (.inl ⟨h, rfl, rfl, rfl⟩)⟩
          · exact ⟨.second, .pair ok κ, .ref T2, fin _ _ _ (.inr ⟨h, rfl, rfl, rfl⟩)⟩
        refine ⟨_, rfl, l, _, _, pw, rfl, rfl, el, y4, ?_⟩
        dsimp only [gName, List.set]
        refine ⟨(by show 2 ≤ sizeLine; decide), fun l3 hl3 => ?_⟩
        have g9 : Grow H8 (upd H8 l3 (.lst [.str "first", .str "second"])) := Grow.put hl3
        have el3 : SqL K (upd H8 l3 (.lst [.str "first", .str "second"])) l3 [.str "first", .str "second"] := SqL.of upd_same
        generalize upd H8 l3 (.lst [.str "first", .str "second"]) = H9 at g9 el3 ⊢
        have g59 := g58.trans g9
        refine ⟨_, rfl, l3, _, _, .str o.str, rfl, rfl, el3, y5, _, rfl, _, rfl, _, _, rfl, rfl, .inl ⟨by decide, by decide⟩, _, _, rfl, rfl, _, rfl, _, rfl, _, rfl, sa, _, pw, sc, m, es, e, rfl, hE5'.mono g59, y1.mono g9.same, he, by omega, fun u1 p1 H10 g10 t1 => ?_⟩
        refine ⟨(by show 2 ≤ sizeLine; decide), fun a ha => ?_⟩
        have g11 : Grow H10 (upd H10 a (.tup [.str o.str, u1])) := Grow.put ha
        exact q _ _ _ (((g5.trans g59).trans g10).trans g11) ((t1.mono g11).one o (SqT.of upd_same) y2 (by omega))
      refine ⟨_, rfl, rfl, _, rfl, ite2 (fun _ => ?_) (fun _ => ?_)⟩
      · refine ⟨_, rfl, _, rfl, _, rfl, _, rfl, _, rfl, _, _, rfl, rfl, ⟨by decide, by decide⟩, sa, k, v, sc, _, κ, es, rfl, hE5.le (by omega), hv5, by omega, by omega, fun u p H6 g6 t1 => ?_⟩
        exact q _ _ _ (g5.trans g6) t1.up
      refine ⟨_, rfl, rfl, _, rfl, ite2 (fun _ => ?_) (fun _ => ?_)⟩
      · refine ⟨_, rfl, _, rfl, _, rfl, _, rfl, _, _, rfl, rfl, .inl ⟨by decide, by decide⟩, _, _, rfl, rfl, _, rfl, _, rfl, _, rfl, sa, _, v, lw, κ, es ++ [(nm, ok)], e, rfl, hEw, hv5, he, by omega, fun u1 p1 H6 g6 t1 => ?_⟩
        refine ⟨(by show 4 ≤ sizeLine; decide), fun a1 ha1 => ?_⟩
        obtain ⟨g7, x7⟩ := mk3 (K := K) (x := "fn") (d1 := .str nm) ha1 (str_at _) (hov.mono g6.same) t1.at_
        dsimp only [gName, List.set]
        generalize upd H6 a1 (.tup [.str "fn", .str nm, ov, u1]) = H7 at g7 x7 ⊢
        have g57 := g6.trans g7
        refine ⟨_, rfl, _, rfl, _, rfl, (by show 3 ≤ sizeLine; decide), fun T hT => ?_⟩
        obtain ⟨g8, x8⟩ := mk2 (K := K) (x := "fun") hT (hov.mono g57.same) (hv5.mono g57.same)
        generalize upd H7 T (.tup [.str "fun", ov, v]) = H8 at g8 x8 ⊢
        have g58 := g57.trans g8
        have fz : (Kd.fn ok κ).sz ≤ 40 := by show ok.sz + κ.sz + 1 ≤ 40; omega
        refine widen (K := K) (k := .fn ok κ) (hE5.sco.mono g58) (by omega) x8 fz fun l2 H9 g9 hS9 => ?_
        have g59 := g58.trans g9
        dsimp only [gName, List.set]
        refine ⟨_, rfl, (by show 2 ≤ sizeLine; decide), fun b1 hb1 => ?_⟩
        obtain ⟨g10, x10⟩ := mk1 (K := K) (x := "name") (d1 := .str "z") hb1 (str_at _)
        generalize upd H9 b1 (.tup [.str "name", .str "z"]) = H10 at g10 x10 ⊢
        have g510 := g59.trans g10
        refine ⟨_, rfl, _, rfl, _, _, rfl, rfl, .inl ⟨by decide, by decide⟩, _, _, rfl, rfl, _, rfl, _, rfl, _, rfl, sa, _, ov, l2, ok, es ++ [(("z" : Str), Kd.fn ok κ)], e, rfl, ((hE5.mono g59).wider hS9).mono g10, hov.mono g510.same, he, by omega, fun u2 p2 H11 g11 t2 => ?_⟩
        refine ⟨(by show 3 ≤ sizeLine; decide), fun b2 hb2 => ?_⟩
        obtain ⟨g12, x12⟩ := mk2 (K := K) (x := "call") hb2 (x10.mono g11.same) t2.at_
        generalize upd H11 b2 (.tup [.str "call", .ref b1, u2]) = H12 at g12 x12 ⊢
        refine ⟨(by show 4 ≤ sizeLine; decide), fun b3 hb3 => ?_⟩
        have g712 := (((g8.trans g9).trans g10).trans g11).trans g12
        obtain ⟨g13, x13⟩ := mk3 (K := K) (x := "let") (d1 := .str "z") hb3 (str_at _) (x7.mono g712.same) x12
        refine q _ (.let_ "z" (.fn nm ok p1) (.two .call (.nam "z") p2)) _ (((g5.trans g57).trans g712).trans g13) ⟨x13, ?_, ?_, ?_⟩
        · exact .let_ (.fn (has_snoc t1.has) fz) (.two (.nam (by rw [List.lookup_cons, beq_self_eq_true]) fz) (has_snoc t2.has) (k2_call _ _) (by omega))
        · have := t1.deep; have := t2.deep; simp only [Pt.deep]; omega
        · have := t1.sz; have := t2.sz; rw [Gz]; simp only [Pt.sz]; omega
      refine ⟨_, rfl, _, rfl, _, rfl, _, rfl, _, rfl, _, rfl, _, _, rfl, rfl, ⟨by decide, by decide⟩, sa, k, v, sc, e, _, κ, es, rfl, hE5, hv5, he, by omega, fun u p H6 g6 t1 => ?_⟩
      exact q _ _ _ (g5.trans g6) t1
    refine ⟨_, pss_cons (ps_set (i := 5) scPt.nd rfl (Or.inl rfl) (pe_k GD h1 (pa_cons (pe_k GC h1 (pa_cons (pv 0) (pa_cons (pv 1) pa_nil))) (pa_cons (pv 1) pa_nil))))
      (pss_cons (ps_if (pw_or (pt_cmpR op_eq (pv 4) pe_int (nomark _)) (pw_or1 (pt_cmpR op_eq (pe_op op_mod (pv 5) pe_int) pe_int (nomark _)))).pt (pss_one (ps_ret (pe_k GL h43 (pa_cons (pe_op op_fdiv (pv 5) pe_int) (pa_cons (pv 2) (pa_cons (pv 3) pa_nil)))))) pss_nil)
      (pss_cons (ps_set (i := 6) scPt.nd rfl (Or.inl rfl) (pe_op op_mod (pe_op op_fdiv (pv 5) pe_int) pe_int))
      (pss_cons (ps_set (i := 5) scPt.nd rfl (Or.inl rfl) (pe_op op_fdiv (pv 5) pe_int))
      (pss_cons (ps_set (i := 7) scPt.nd rfl (Or.inl rfl) (pe_k GK h3 (pa_cons (pv 5) (pa_cons pe_int pa_nil))))
      (pss_cons (ps_set (i := 8) scPt.nd rfl (Or.inl rfl) (pe_ix ix_list (pe_lst (pa_cons pe_str (pa_cons pe_str (pa_cons pe_str pa_nil)))) (pe_op op_mod (pe_op op_fdiv (pv 5) pe_int) pe_int) (fun _ _ => rfl)))
      (pss_cons (ps_set (i := 9) scPt.nd rfl (Or.inl rfl) (pe_op op_cat (pv 3) (pe_lst (pa_cons (pe_tup (pa_cons (pv 8) (pa_cons (pv 7) pa_nil))) pa_nil))))
      (pss_cons (ps_set (i := 4) scPt.nd rfl (Or.inl rfl) (pe_op op_sub (pv 4) pe_int)) pls))))))), ?_⟩
    obtain ⟨ns, hns, hnl⟩ := hE.scr
    have hlen := hE.len
    have kp := kpos κ
    refine ⟨_, rfl, _, rfl, sa, ns, k, rfl, hns, hnl, fun cz H1 g1 => ⟨_, rfl, cz, k, rfl, fun m _ => ?_⟩⟩
    dsimp only [gName, List.set]
    have hv1 := hv.mono g1.same
    have leaf : ∀ mm : Int, spLf K 41 ([V.int mm, v, .ref sc] ++ []) H1 Q E0 := by
      intro mm
      refine ⟨mm, v, sc, κ, es, rfl, hv1, by omega, by omega, hE.sco.mono g1, by omega, fun u p H2 g2 x1 x2 x3 x4 => ?_⟩
      have := Gz31 d
      exact q u p H2 (g1.trans g2) ⟨x1, x2, by omega, by omega⟩
    refine ⟨_, rfl, rfl, _, rfl, ite2 (fun _ => iteT ?a) (fun hA => ⟨_, rfl, _, _, rfl, rfl, (by show (0 : Int) < _; decide), rfl, _, rfl, ite2 (fun _ => ?b) (fun hB => ?c)⟩)⟩
    case a | b => exact ⟨_, rfl, _, _, rfl, rfl, ⟨by decide, by decide⟩, _, rfl, _, rfl, leaf _⟩
    case c =>
      have hd0 : d ≠ 0 := fun z => hA (by subst z; rfl)
      obtain ⟨e, rfl⟩ : ∃ e, d = e + 1 := ⟨d - 1, by omega⟩
      have ed : ((e + 1 : Nat) : Int) - 1 = (e : Int) := by omega
      refine ⟨_, rfl, _, _, rfl, rfl, ⟨by decide, by decide⟩, _, _, rfl, rfl, (by show (0 : Int) < _; decide), ?_⟩
      dsimp only [gName, List.set]
      refine ⟨_, rfl, _, _, rfl, rfl, ⟨by decide, by decide⟩, ?_⟩
      dsimp only [gName, List.set]
      generalize m / 9 % 12 = wy
      generalize m / 108 = mm
      refine ⟨_, rfl, mm, 1, rfl, by omega, fun ov ok H2 g2 hov hoz => ?_⟩
      have hoz' : ok.sz ≤ 3 := by have : (2 : Nat) ^ (1 + 1) = 4 := rfl; omega
      dsimp only [gName, List.set]
      refine ⟨(by show 3 ≤ sizeLine; decide), fun l hl => ?_⟩
      obtain ⟨y, hy, ham⟩ := atI_mod (xs := [.str "x", .str "y", .str "p1"]) (n := 3) rfl (by decide) (mm / 81)
      refine ⟨_, rfl, _, _, rfl, rfl, ⟨by decide, by decide⟩, _, _, rfl, rfl, (by show (0 : Int) < _; decide), l, _, _, y, rfl, rfl, SqL.of upd_same, ham, ?_⟩
      have g3 := Grow.put (o := .lst [.str "x", .str "y", .str "p1"]) hl
      generalize upd H2 l (.lst [.str "x", .str "y", .str "p1"]) = H3 at g3 ⊢
      dsimp only [gName, List.set]
      obtain ⟨nm, rfl⟩ : ∃ nm : Str, y = .str nm := by
        simp only [List.mem_cons, List.not_mem_nil, or_false] at hy
        rcases hy with rfl | rfl | rfl <;> exact ⟨_, rfl⟩
      have g03 := (g1.trans g2).trans g3
      refine ⟨_, rfl, _, rfl, _, rfl, ?_⟩
      refine widen (K := K) (k := ok) (hE.sco.mono g03) (by omega) (hov.mono g3.same) (by omega) fun l2 H4 g4 hS4 => ?_
      dsimp only [gName, List.set]
      refine ⟨_, rfl, _, _, rfl, rfl, ?_⟩
      dsimp only [gName, List.set]
      rw [ed]
      exact htl e mm wy ov nm l2 ok H4 rfl (g03.trans g4) (hov.mono (g3.trans g4).same) hoz' hS4
end
end K13
set_option maxRecDepth 100000
set_option linter.all false
set_option Elab.async false
set_option maxHeartbeats 4000000
namespace L2
open PySem PySem.Spec PyProof.Rows PyProof Dt
theorem call_isL {X : Cx} : CallR X (.builtin "isinstance") (fun xs H Q => ∃ p ys n b, xs = [.ref p, .ty n] ∧ SqL X.K H p ys ∧ PySem.W.kitOne X.K (.type "list") (.type n) = some b ∧ Q (.bl b) H) := by
  intro pins s σ H xs us Q I r h
  obtain ⟨p, ys, n, b, rfl, hq, ko, q⟩ := h
  obtain ⟨u, u2, rfl, r1, r2⟩ := vals2 r
  cases r2
  cases r1
  obtain ⟨its, rv, pl, hz⟩ := I.list hq
  obtain ⟨o, h1, h2, _⟩ := pl.isList
  exact PySem.W.kia_one PySem.W.kitx_list I.kIn ⟨o, h1, h2⟩ ko (fun z => nomatch z) fun tk => ⟨.bl b, H, I.tok tk, rfl, q⟩
end L2
namespace Pt
open PySem
theorem look_mono {Γ Γ' : Cxt} {y : Str} {k : Kd} (s : ∀ x l, Γ.lookup x = some l → Γ'.lookup x = some l) : ∀ x l, List.lookup x ((y, k) :: Γ) = some l → List.lookup x ((y, k) :: Γ') = some l := fun x l e => by
  by_cases z : x = y
  · subst z
    rw [List.lookup_cons, beq_self_eq_true] at e ⊢
    exact e
  · rw [lookup_cons_ne z] at e ⊢
    exact s x l e
theorem Has.mono {Γ : Cxt} {p : Pt} {k : Kd} (h : Has Γ p k) : ∀ {Γ' : Cxt}, (∀ x l, Γ.lookup x = some l → Γ'.lookup x = some l) → Has Γ' p k := by
  induction h with
  | num => intro _ _; exact .num
  | tru => intro _ _; exact .tru
  | nam e z => intro _ s; exact .nam (s _ _ e) z
  | nil e => intro _ _; exact .nil e
  | one _ e z ih => intro _ s; exact .one (ih s) e z
  | two _ _ e z i1 i2 => intro _ s; exact .two (i1 s) (i2 s) e z
  | ite _ _ _ i1 i2 i3 => intro _ s; exact .ite (i1 s) (i2 s) (i3 s)
  | let_ _ _ i1 i2 => intro _ s; exact .let_ (i1 s) (i2 (look_mono s))
  | fn _ z ih => intro _ s; exact .fn (ih (look_mono s)) z
  | rc _ z ih => intro _ s; exact .rc (ih (look_mono (look_mono s))) z
theorem Has.weak {p : Pt} {k : Kd} (h : Has [] p k) (Γ : Cxt) : Has Γ p k := h.mono fun _ _ e => by cases e
end Pt
namespace K13
open PySem L2 PyProof Dt
section
variable {P : Program} {w : World} {K : PySem.W.Frag} {mg : Str → Option Value} {base : Heap} {f : Addr} {fd : FuncData}
theorem part_all {fT fO fL fP : Addr} {dT dO dL dP : FuncData} (F : Df K mg "_law_part" sPart psPt fP dP) (FT : Df K mg "_law_two" sTwo psTw fT dT) (FO : Df K mg "_law_of_kind" sOK psOK fO dO) (FL : Df K mg "_law_loop" sLoop psLp fL dL) (G : GlL mg) (GS : GlS K mg) (GC : Kn P w K mg base 1 "_law_cell" ["_law_script", "_law_k"] (spCell K)) (GD : Kn P w K mg base 1 "_law_drawn" ["_law_cell_here", "_law_k"] spDrawn) (GL : Kn P w K mg base 43 "_law_leaf" psLf (spLf K 41)) (GK : Kn P w K mg base 3 "_law_kind" ["_law_more", "_law_deep"] (spLK K 2)) :
    ∀ n, Kn P w K mg base (4 * n + 46) "_law_part" psPt (spPart K n)
  | 0 => F.kn (ok_pt0 F.fn)
  | n + 1 => by
    have ih := part_all F FT FO FL G GS GC GD GL GK n
    have t := FT.kn (ok_two FT.fn ih)
    exact F.kn (ok_pt F.fn GC GD GL GK ih t (FO.kn (ok_ofk FO.fn G (by omega) GK ih t)) (FL.kn (ok_loop FL.fn GS ih)))
theorem lf_all (F : Df K mg "_law_leaf" sLeaf psLf f fd) (G : GlL mg) (GB : Kn P w K mg base 1 "_law_bound" ["_law_name", "_law_scope"] (spBd K)) (GN : Kn P w K mg base 1 "_law_number" ["_law_more"] spNum) : ∀ n, Kn P w K mg base (n + 2) "_law_leaf" psLf (spLf K n)
  | 0 => F.kn (ok_lf0 F.fn)
  | n + 1 => F.kn (ok_lf F.fn G GB GN (lf_all F G GB GN n))
theorem lk_all (F : Df K mg "_law_kind" sLK ["_law_more", "_law_deep"] f fd) : ∀ n, Kn P w K mg base (n + 1) "_law_kind" ["_law_more", "_law_deep"] (spLK K n)
  | 0 => F.kn (ok_lk0 F.fn)
  | n + 1 => F.kn (ok_lk F.fn (lk_all F n))
theorem kit_ll (K : PySem.W.Frag) : PySem.W.kitOne K (.type "list") (.type "list") = some true := by
  unfold PySem.W.kitOne
  rw [if_pos (by decide)]
def spAr (K : PySem.W.Frag) : Sp := fun vs H Q _ => ∃ (v : V) (m : Int) (p : Pt) (κ : Kd), vs = [v, .int m] ∧ DtAt K H p.dt v ∧ Pt.Has [] p κ ∧ κ.sz ≤ 31 ∧ p.deep ≤ 60 ∧ p.sz ≤ 20000 ∧ ∀ u p' H', Grow H H' → DtAt K H' p'.dt u → Pt.Has [] p' κ → p'.deep < 70 → p'.sz ≤ 50000 → Q u H'
theorem scAr : FnScope ["_law_part_here", "_law_more"] ["_law_part_here", "_law_more"] (defScope sAround) := ⟨rfl, rfl, rfl, by decide +kernel, rfl, by decide +kernel, by decide +kernel⟩
theorem ok_ar (F : FunD K "_law_around" "_law_around" sAround .none f fd) : FnOk P w K mg base (CXE P w) 1 f fd ["_law_part_here", "_law_more"] (spAr K) := by
  refine F.ok0 scAr (fun vs H Q E h => ?_) (fun cdv A outer s H vs Q E hr h => ?_)
  · obtain ⟨v, m, p, κ, rfl, _⟩ := h
    rfl
  · obtain ⟨v, m, p, κ, rfl, hv, hh, hz, hd, hs, q⟩ := h
    refine ⟨_, pss_cons (ps_ifw (pt_cmpR op_eq (pe_op op_mod (pv 1) pe_int) pe_int (nomark _)) (wRet (wT (ws (ws (wt (ws (wi wn)) (wx (pv 0) wn)))))) pss_nil)
      (pss_cons (ps_ifw (pt_cmpR op_eq (pe_op op_mod (pv 1) pe_int) pe_int (nomark _)) (wRet (wT (ws (wt (ws (wb wn)) (wx (pv 0) (wx (pv 0) wn)))))) pss_nil)
      (pss_cons (ps_ifw (pt_cmpR op_eq (pe_op op_mod (pv 1) pe_int) pe_int (nomark _)) (wRet (wT (ws (wt (ws (wx (pv 0) (wt (ws (ws wn)) wn))) wn)))) pss_nil)
      (pss_cons (ps_ifw (pt_cmpR op_eq (pe_op op_mod (pv 1) pe_int) pe_int (nomark _)) (wRet (wT (ws (wt (ws (wt (ws (ws (ws (wt (ws (ws wn)) wn)))) (wx (pv 0) wn))) wn)))) pss_nil)
      (pss_one (ps_ret (pv 0)))))), ?_⟩
    refine ⟨_, rfl, _, _, rfl, rfl, (by show (0 : Int) < _; decide), rfl, _, rfl, ite2 (fun _ => ?_) (fun _ => ?_)⟩
    · refine ⟨(by show 2 ≤ sizeLine; decide), fun a1 ha1 => ?_⟩
      obtain ⟨g1, x1⟩ := mk1 (K := K) (x := "num") (d1 := .int 3) ha1 (int_at _)
      generalize upd H a1 (.tup [.str "num", .int 3]) = H1 at g1 x1 ⊢
      refine ⟨_, rfl, (by show 4 ≤ sizeLine; decide), fun a2 ha2 => ?_⟩
      obtain ⟨g2, x2⟩ := mk3 (K := K) (x := "let") (d1 := .str "unused1") ha2 (str_at _) x1 (hv.mono g1.same)
      exact q _ (.let_ "unused1" (.num 3) p) _ (g1.trans g2) x2 (.let_ .num (hh.weak _)) (by simp only [Pt.deep]; omega) (by simp only [Pt.sz]; omega)
    refine ⟨_, rfl, _, _, rfl, rfl, (by show (0 : Int) < _; decide), rfl, _, rfl, ite2 (fun _ => ?_) (fun _ => ?_)⟩
    · refine ⟨(by show 2 ≤ sizeLine; decide), fun a1 ha1 => ?_⟩
      obtain ⟨g1, x1⟩ := mk1 (K := K) (x := "truth") (d1 := .bl true) ha1 (bl_at _)
      generalize upd H a1 (.tup [.str "truth", .bl true]) = H1 at g1 x1 ⊢
      refine ⟨_, rfl, _, rfl, (by show 4 ≤ sizeLine; decide), fun a2 ha2 => ?_⟩
      obtain ⟨g2, x2⟩ := mk3 (K := K) (x := "if") ha2 x1 (hv.mono g1.same) (hv.mono g1.same)
      exact q _ (.ite (.tru true) p p) _ (g1.trans g2) x2 (.ite .tru hh hh) (by simp only [Pt.deep]; omega) (by simp only [Pt.sz]; omega)
    refine ⟨_, rfl, _, _, rfl, rfl, (by show (0 : Int) < _; decide), rfl, _, rfl, ite2 (fun _ => ?_) (fun _ => ?_)⟩
    · refine ⟨_, rfl, (by show 2 ≤ sizeLine; decide), fun a1 ha1 => ?_⟩
      obtain ⟨g1, x1⟩ := mk1 (K := K) (x := "nil") (d1 := .str "int") ha1 (str_at _)
      generalize upd H a1 (.tup [.str "nil", .str "int"]) = H1 at g1 x1 ⊢
      refine ⟨(by show 3 ≤ sizeLine; decide), fun a2 ha2 => ?_⟩
      obtain ⟨g2, x2⟩ := mk2 (K := K) (x := "pair") ha2 (hv.mono g1.same) x1
      generalize upd H1 a2 (.tup [.str "pair", v, .ref a1]) = H2 at g2 x2 ⊢
      refine ⟨(by show 2 ≤ sizeLine; decide), fun a3 ha3 => ?_⟩
      obtain ⟨g3, x3⟩ := mk1 (K := K) (x := "first") ha3 x2
      exact q _ (.one .first (.two .pair p (.nil .int))) _ ((g1.trans g2).trans g3) x3 (.one (.two hh (.nil (by decide)) rfl (by show κ.sz + (Kd.list .int).sz + 1 ≤ 40; simp only [Kd.sz]; omega)) rfl (by omega)) (by simp only [Pt.deep]; omega) (by simp only [Pt.sz]; omega)
    refine ⟨_, rfl, _, _, rfl, rfl, (by show (0 : Int) < _; decide), rfl, _, rfl, ite2 (fun _ => ?_) (fun _ => ?_)⟩
    · refine ⟨(by show 2 ≤ sizeLine; decide), fun a1 ha1 => ?_⟩
      obtain ⟨g1, x1⟩ := mk1 (K := K) (x := "name") (d1 := .str "x") ha1 (str_at _)
      generalize upd H a1 (.tup [.str "name", .str "x"]) = H1 at g1 x1 ⊢
      refine ⟨(by show 4 ≤ sizeLine; decide), fun a2 ha2 => ?_⟩
      obtain ⟨g2, x2⟩ := mk3 (K := K) (x := "fn") (d1 := .str "x") (d2 := .str "int") ha2 (str_at _) (str_at _) x1
      generalize upd H1 a2 (.tup [.str "fn", .str "x", .str "int", .ref a1]) = H2 at g2 x2 ⊢
      refine ⟨_, rfl, (by show 3 ≤ sizeLine; decide), fun a3 ha3 => ?_⟩
      obtain ⟨g3, x3⟩ := mk2 (K := K) (x := "pair") ha3 x2 (hv.mono (g1.trans g2).same)
      generalize upd H2 a3 (.tup [.str "pair", .ref a2, v]) = H3 at g3 x3 ⊢
      refine ⟨(by show 2 ≤ sizeLine; decide), fun a4 ha4 => ?_⟩
      obtain ⟨g4, x4⟩ := mk1 (K := K) (x := "second") ha4 x3
      exact q _ (.one .second (.two .pair (.fn "x" .int (.nam "x")) p)) _ (((g1.trans g2).trans g3).trans g4) x4 (.one (.two (.fn (.nam (by rw [List.lookup_cons, beq_self_eq_true]) (by decide)) (by decide)) hh rfl (by show (Kd.fn .int .int).sz + κ.sz + 1 ≤ 40; simp only [Kd.sz]; omega)) rfl (by omega)) (by simp only [Pt.deep]; omega) (by simp only [Pt.sz]; omega)
    exact ⟨_, rfl, q v p H (Grow.refl H) hv hh (by omega) (by omega)⟩
def spLaw (K : PySem.W.Frag) : Sp := fun vs H Q _ => ∃ (a : Addr) (ns : List Int), vs = [.ref a] ∧ SqL K H a (ns.map V.int) ∧ ns.length ≤ 63 ∧ ∀ H', Q (.bl true) H'
theorem scLaw : FnScope ["_law_script", "_law_k", "_law_more", "_law_kind_here", "_law_part_here", "_law_told", "_law_wide", "_law_code"] ["_law_script"] (defScope sLaw) := ⟨rfl, rfl, rfl, by decide +kernel, rfl, by decide +kernel, by decide +kernel⟩
theorem ok_law (F : FunD K "law" "law" sLaw .none f fd) (G : GlL mg) (GI : GlS K mg) (zL : mg "list" = none) (GC : Kn P w K mg base 1 "_law_cell" ["_law_script", "_law_k"] (spCell K)) (GD : Kn P w K mg base 1 "_law_drawn" ["_law_cell_here", "_law_k"] spDrawn) (GK : Kn P w K mg base 5 "_law_kind" ["_law_more", "_law_deep"] (spLK K 4)) (GP : Kn P w K mg base 66 "_law_part" psPt (spPart K 5))
    (GO : Kn P w K mg base 143 "kind_of" ["part"] (spKO K)) (GT : Kn P w K mg base 41 "kind_text" ["kind"] (spKT K 40)) (GU : Kn P w K mg base 41 "_law_kind_text" ["_law_kind_here"] (spKT K 40)) (GA : Kn P w K mg base 1 "_law_around" ["_law_part_here", "_law_more"] (spAr K)) (GM : Kn P w K mg base 215 "compiled" ["part"] (spCm K)) : FnOk P w K mg base (CXE P w) 216 f fd ["_law_script"] (spLaw K) := by
  refine F.ok0 scLaw (fun vs H Q E h => ?_) (fun cdv A outer s H vs Q E hr h => ?_)
  · obtain ⟨a, ns, rfl, _⟩ := h
    rfl
  · obtain ⟨a, ns, rfl, hS, hn, q⟩ := h
    have h1 := hr.mono (show 1 ≤ 215 by decide)
    have h5 := hr.mono (show 5 ≤ 215 by decide)
    have h41 := hr.mono (show 41 ≤ 215 by decide)
    have h66 := hr.mono (show 66 ≤ 215 by decide)
    have h143 := hr.mono (show 143 ≤ 215 by decide)
    refine ⟨_, pss_cons (ps_for PassesOwn.never rfl (pi_range1 (by rfl) G.range (pa_cons (pe_callB (call_max2 rfl) (by rfl) G.max PyProof.Rows.boot_max (pa_cons pe_int (pa_cons (pe_callB (call_min2 rfl) (by rfl) G.min PyProof.Rows.boot_min (pa_cons pe_int (pa_cons (pe_callB call_len_seq (by rfl) G.len PySem.boot_len (pa_cons (pv 0) pa_nil)) pa_nil))) pa_nil))) pa_nil))
        (pg_name (i := 1) scLaw.nd rfl (Or.inl rfl))
        (pss_cons (ps_set (i := 2) scLaw.nd rfl (Or.inl rfl) (pe_k GD h1 (pa_cons (pe_k GC h1 (pa_cons (pv 0) (pa_cons (pv 1) pa_nil))) (pa_cons (pe_op op_add (pv 1) pe_int) pa_nil))))
        (pss_cons (ps_set (i := 3) scLaw.nd rfl (Or.inl rfl) (pe_k GK h5 (pa_cons (pv 2) (pa_cons pe_int pa_nil))))
        (pss_cons (ps_set (i := 4) scLaw.nd rfl (Or.inl rfl) (pe_k GP h66 (pa_cons (pv 0) (pa_cons (pe_op op_mul pe_int (pv 1)) (pa_cons (pv 3) (pa_cons (pe_lst pa_nil) (pa_cons (pe_op op_add pe_int (pe_op op_mod (pv 2) pe_int)) pa_nil)))))))
        (pss_cons (ps_set (i := 5) scLaw.nd rfl (Or.inl rfl) (pe_k GO h143 (pa_cons (pv 4) pa_nil)))
        (pss_cons (ps_if (pw_or (pt_cmpR op_neD (pv 5) (pv 3) (nomark _)) (pw_or1 (pt_cmpR op_ne (pe_k GT h41 (pa_cons (pv 5) pa_nil)) (pe_k GU h41 (pa_cons (pv 3) pa_nil)) (nomark _)))).pt (pss_one (ps_ret pe_bl)) pss_nil)
        (pss_cons (ps_set (i := 6) scLaw.nd rfl (Or.inl rfl) (pe_k GA h1 (pa_cons (pv 4) (pa_cons (pe_op op_mod (pv 2) pe_int) pa_nil))))
        (pss_cons (ps_if (pt_cmpR op_neD (pe_k GO h143 (pa_cons (pv 6) pa_nil)) (pv 3) (nomark _)) (pss_one (ps_ret pe_bl)) pss_nil)
        (pss_cons (ps_set (i := 7) scLaw.nd rfl (Or.inl rfl) (pe_k GM hr (pa_cons (pv 4) pa_nil)))
        (pss_one (ps_if (pt_not (pt_val (pe_callB call_isL (by rfl) GI.isi PyProof.Rows.boot_isinstance (pa_cons (pv 7) (pa_cons (pe_bltn (v := .ty "list") (by rfl) zL PyProof.Rows.boot_list rfl) pa_nil))))) (pss_one (ps_ret pe_bl)) pss_nil)))))))))))
      (pss_one (ps_ret pe_bl)), ?_⟩
    obtain ⟨J, hJ, hJ2⟩ : ∃ J : Int, (if (if (((ns.map V.int).length : Nat) : Int) < 6 then (((ns.map V.int).length : Nat) : Int) else 6) > 1 then (if (((ns.map V.int).length : Nat) : Int) < 6 then (((ns.map V.int).length : Nat) : Int) else 6) else 1) = J ∧ (-(2 ^ 62) ≤ J ∧ J < 2 ^ 62) := by
      refine ⟨_, rfl, ?_⟩
      split <;> split <;> omega
    refine ⟨_, rfl, a, _, rfl, .inl hS, _, _, rfl, _, _, rfl, _, rfl, ?_, ?_, ?_⟩
    · rw [hJ]; exact hJ2.1
    · rw [hJ]; exact hJ2.2
    refine for_range (fun _ σ H1 => ∃ o1 o2 o3 o4 o5 o6 o7, σ = [some (.ref a), o1, o2, o3, o4, o5, o6, o7] ∧ Grow H H1) ⟨_, _, _, _, _, _, _, rfl, Grow.refl H⟩ ?_ ?_
    · rintro i σ H1 hi ⟨o1, o2, o3, o4, o5, o6, o7, rfl, g1⟩
      dsimp only [gName, List.set]
      generalize (0 : Int) + (i : Int) = k
      refine ⟨_, rfl, _, rfl, a, ns, k, rfl, g1.same.seq hS, hn, fun c1 H2 g2 => ⟨_, rfl, _, _, rfl, rfl, c1, _, rfl, fun m _ => ?_⟩⟩
      have G2 := g1.trans g2
      dsimp only [gName, List.set]
      refine ⟨_, rfl, m, 3, rfl, by omega, fun v κ H3 g3 hv hk => ?_⟩
      have hk' : κ.sz ≤ 15 := by have : (2 : Nat) ^ (3 + 1) = 16 := rfl; omega
      have G3 := G2.trans g3
      dsimp only [gName, List.set]
      refine ⟨_, rfl, _, rfl, _, _, rfl, rfl, .inl ⟨by decide, by decide⟩, _, rfl, (by show 0 ≤ sizeLine; decide), fun l hl => ?_⟩
      have g4 : Grow H3 (upd H3 l (.lst [])) := Grow.put hl
      have el : (upd H3 l (.lst [])) l = some (.lst []) := upd_same
      generalize upd H3 l (.lst []) = H4 at g4 el ⊢
      have G4 := G3.trans g4
      have hv4 := hv.mono g4.same
      obtain ⟨d, hd, hd4⟩ : ∃ d : Nat, 1 + m % 4 = (d : Int) ∧ d ≤ 4 := ⟨(1 + m % 4).toNat, by omega, by omega⟩
      refine ⟨_, rfl, _, _, rfl, rfl, (by show (0 : Int) < _; decide), _, _, rfl, rfl, a, 40 * k, v, l, κ, [], d, ?_, ⟨⟨ns, G4.same.seq hS, hn⟩, ⟨[], el, nil_ats, fun e h => by cases h⟩, by simp; omega⟩, hv4, by omega, by omega, fun u p H5 g5 tp => ?_⟩
      · show [V.ref a, V.int (40 * k), v, V.ref l, V.int (1 + m % 4)] = _; rw [hd]
      have G5 := G4.trans g5
      have hv5 := hv4.mono g5.same
      have pd : p.deep ≤ 47 := by have := tp.deep; omega
      have pz : p.sz ≤ 2911 := by
        have := tp.sz
        have h4 : Gz d ≤ Gz 4 := by
          match d, hd4 with
          | 0, _ => decide
          | 1, _ => decide
          | 2, _ => decide
          | 3, _ => decide
          | 4, _ => decide
        have h5 : Gz 4 = 2911 := rfl
        omega
      have hh : Pt.Has [] p κ := tp.has
      have hv0 := tp.at_
      dsimp only [gName, List.set]
      refine ⟨_, rfl, u, p, κ, rfl, hv0, by omega, by omega, hh, fun t H6 g6 ht => ?_⟩
      dsimp only [gName, List.set]
      have hdep := room_dep hr (Nat.le_trans (dep_kd κ (by omega)) (show 40 ≤ 150 by decide))
      have ee : (!eqD κ.dt κ.dt) = false := by rw [Kd.eq_dt]; simp
      have kd : κ.deep < 40 := by have := Kd.deep_sz κ; omega
      refine ⟨_, rfl, _, rfl, κ.dt, κ.dt, ht, hv5.mono g6.same, hdep, _, rfl, iteNo ee ?_⟩
      refine ⟨_, rfl, t, κ, rfl, ht, kd, by omega, fun H7 g7 => ?_⟩
      refine ⟨_, rfl, v, κ, rfl, hv5.mono (g6.trans g7).same, kd, by omega, fun H8 g8 => ?_⟩
      refine ⟨rfl, _, rfl, iteNS rfl ?_⟩
      have g58 := (g6.trans g7).trans g8
      refine ⟨_, rfl, _, rfl, _, _, rfl, rfl, (by show (0 : Int) < _; decide), u, _, p, κ, rfl, hv0.mono g58.same, hh, by omega, by omega, by omega, fun u2 p2 H9 g9 hu2 hh2 d2 z2 => ?_⟩
      dsimp only [gName, List.set]
      refine ⟨_, rfl, u2, p2, κ, rfl, hu2, d2, z2, hh2, fun t2 H10 g10 ht2 => ?_⟩
      have g510 := (g58.trans g9).trans g10
      refine ⟨_, rfl, κ.dt, κ.dt, ht2, hv5.mono g510.same, hdep, _, rfl, iteNo ee ?_⟩
      refine ⟨_, rfl, u, p, κ, rfl, hv0.mono g510.same, by omega, by omega, hh, fun lc ys H11 g11 e11 => ?_⟩
      dsimp only [gName, List.set]
      refine ⟨_, rfl, lc, ys, "list", true, rfl, SqL.of e11, kit_ll K, true, rfl, iteF ?_⟩
      exact ⟨_, _, _, _, _, _, _, rfl, (G5.trans g510).trans g11⟩
    · rintro σ H1 ⟨o1, o2, o3, o4, o5, o6, o7, rfl, g1⟩
      exact q H1
end
end K13
set_option maxRecDepth 100000
set_option linter.all false
set_option Elab.async false
set_option maxHeartbeats 8000000
namespace K13
open PySem L2 PyProof
abbrev ksPS : List Str := (["nil", "cons", "head", "tail", "empty", "pair", "first", "second", "if", "let", "fn", "rec", "call", "plus", "minus", "times", "over", "rest", "less", "same", "and", "or", "not"] : List Str)
abbrev ksBR : List Str := (["let", "fn", "rec"] : List Str)
abbrev ksKR : List Str := (["cons", "head", "tail", "empty", "first", "second", "if", "call"] : List Str)
abbrev ksFK : List Str := (["num", "truth", "plus", "minus", "times", "over", "rest", "less", "same", "and", "or", "not"] : List Str)
abbrev ksPC : List Str := (["call", "if", "and", "or", "let"] : List Str)
theorem kit_ts (K : PySem.W.Frag) : PySem.W.kitOne K (.type "tuple") (.type "str") = some false := by
  unfold PySem.W.kitOne
  rw [if_neg (by decide)]
  show (if PySem.W.kitMeta "str" = true then (fastBuiltinMro "tuple").map (·.contains (Value.type "str")) else none) = some false
  decide +kernel
theorem fx_kr : ∀ x ∈ FX.map (·.1), ixOf x ksKR = none := by decide +kernel
theorem all_mk {l : PySem.W.OpenLaw} {w : World} {K : PySem.W.Frag} {h : Heap} {mg : Str → Option Value} {fa : Addr} {fVb : Addr} {oVb : Obj} {cdVb : Value} {fdVb : FuncData} {fWn : Addr} {oWn : Obj} {cdWn : Value} {fdWn : FuncData} {fLu : Addr} {oLu : Obj} {cdLu : Value} {fdLu : FuncData} {fNb : Addr} {oNb : Obj} {cdNb : Value} {fdNb : FuncData} {fOn : Addr} {oOn : Obj} {cdOn : Value} {fdOn : FuncData} {fKo : Addr} {oKo : Obj} {cdKo : Value} {fdKo : FuncData} {fRq : Addr} {oRq : Obj} {cdRq : Value} {fdRq : FuncData} {fRw : Addr} {oRw : Obj} {cdRw : Value} {fdRw : FuncData} {fCn : Addr} {oCn : Obj} {cdCn : Value} {fdCn : FuncData} {fHk : Addr} {oHk : Obj} {cdHk : Value} {fdHk : FuncData} {fTk : Addr} {oTk : Obj} {cdTk : Value} {fdTk : FuncData} {fEk : Addr} {oEk : Obj} {cdEk : Value} {fdEk : FuncData} {fFk : Addr} {oFk : Obj} {cdFk : Value} {fdFk : FuncData} {fSk : Addr} {oSk : Obj} {cdSk : Value} {fdSk : FuncData} {fIk : Addr} {oIk : Obj} {cdIk : Value} {fdIk : FuncData} {fCk : Addr} {oCk : Obj} {cdCk : Value} {fdCk : FuncData} {fLk : Addr} {oLk : Obj} {cdLk : Value} {fdLk : FuncData} {fNk : Addr} {oNk : Obj} {cdNk : Value} {fdNk : FuncData} {fXk : Addr} {oXk : Obj} {cdXk : Value} {fdXk : FuncData} {fPk : Addr} {oPk : Obj} {cdPk : Value} {fdPk : FuncData} {fFt : Addr} {oFt : Obj} {cdFt : Value} {fdFt : FuncData} {fCm : Addr} {oCm : Obj} {cdCm : Value} {fdCm : FuncData} {fOp : Addr} {oOp : Obj} {cdOp : Value} {fdOp : FuncData} {fCc : Addr} {oCc : Obj} {cdCc : Value} {fdCc : FuncData} {fAi : Addr} {oAi : Obj} {cdAi : Value} {fdAi : FuncData} {fIc : Addr} {oIc : Obj} {cdIc : Value} {fdIc : FuncData} {fLc : Addr} {oLc : Obj} {cdLc : Value} {fdLc : FuncData} {fFc : Addr} {oFc : Obj} {cdFc : Value} {fdFc : FuncData} {fVc : Addr} {oVc : Obj} {cdVc : Value} {fdVc : FuncData} {fCo : Addr} {oCo : Obj} {cdCo : Value} {fdCo : FuncData} {fKt : Addr} {oKt : Obj} {cdKt : Value} {fdKt : FuncData} {fCe : Addr} {oCe : Obj} {cdCe : Value} {fdCe : FuncData} {fDr : Addr} {oDr : Obj} {cdDr : Value} {fdDr : FuncData} {fLq : Addr} {oLq : Obj} {cdLq : Value} {fdLq : FuncData} {fNu : Addr} {oNu : Obj} {cdNu : Value} {fdNu : FuncData} {fLf : Addr} {oLf : Obj} {cdLf : Value} {fdLf : FuncData} {fBd : Addr} {oBd : Obj} {cdBd : Value} {fdBd : FuncData} {fTw : Addr} {oTw : Obj} {cdTw : Value} {fdTw : FuncData} {fOf : Addr} {oOf : Obj} {cdOf : Value} {fdOf : FuncData} {fLp : Addr} {oLp : Obj} {cdLp : Value} {fdLp : FuncData} {fPa : Addr} {oPa : Obj} {cdPa : Value} {fdPa : FuncData} {fUt : Addr} {oUt : Obj} {cdUt : Value} {fdUt : FuncData} {fAr : Addr} {oAr : Obj} {cdAr : Value} {fdAr : FuncData} {fLw : Addr} {oLw : Obj} {cdLw : Value} {fdLw : FuncData} {pPS0 : Addr} {pPS1 : Addr} {pPS2 : Addr} {pPS3 : Addr} {pPS4 : Addr} {pPS5 : Addr} {pPS6 : Addr} {pPS7 : Addr} {pPS8 : Addr} {pPS9 : Addr} {pPS10 : Addr} {pPS11 : Addr} {pPS12 : Addr} {pPS13 : Addr} {pPS14 : Addr} {pPS15 : Addr} {pPS16 : Addr} {pPS17 : Addr} {pPS18 : Addr} {pPS19 : Addr} {pPS20 : Addr} {pPS21 : Addr} {pPS22 : Addr} {TPS : Addr} {OPS : Obj} {opPS0 : Obj} {opPS1 : Obj} {opPS2 : Obj} {opPS3 : Obj} {opPS4 : Obj} {opPS5 : Obj} {opPS6 : Obj} {opPS7 : Obj} {opPS8 : Obj} {opPS9 : Obj} {opPS10 : Obj} {opPS11 : Obj} {opPS12 : Obj} {opPS13 : Obj} {opPS14 : Obj} {opPS15 : Obj} {opPS16 : Obj} {opPS17 : Obj} {opPS18 : Obj} {opPS19 : Obj} {opPS20 : Obj} {opPS21 : Obj} {opPS22 : Obj} {TBR : Addr} {OBR : Obj} {TKR : Addr} {OKR : Obj} {pFK0 : Addr} {pFK1 : Addr} {pFK2 : Addr} {pFK3 : Addr} {pFK4 : Addr} {pFK5 : Addr} {pFK6 : Addr} {pFK7 : Addr} {pFK8 : Addr} {pFK9 : Addr} {pFK10 : Addr} {pFK11 : Addr} {TFK : Addr} {OFK : Obj} {opFK0 : Obj} {opFK1 : Obj} {opFK2 : Obj} {opFK3 : Obj} {opFK4 : Obj} {opFK5 : Obj} {opFK6 : Obj} {opFK7 : Obj} {opFK8 : Obj} {opFK9 : Obj} {opFK10 : Obj} {opFK11 : Obj} {TPC : Addr} {OPC : Obj} (X : K.In h) (G : h.Ns mainGlobals mg) (hfa : mg "law" = some (.ref fa))
    (aVb : PySem.W.nsIn K mainGlobals "values_behind" = some (some (.ref fVb)))
    (lVb : K.lookup fVb = some oVb)
    (nVb' : IsFn oVb "values_behind" "values_behind" sVB .none cdVb fdVb)
    (cVb : PySem.W.codeIn K cdVb "values_behind" = true)
    (kVb : PySem.W.keepIn K (.ref fVb) = true)
    (aWn : PySem.W.nsIn K mainGlobals "with_name" = some (some (.ref fWn)))
    (lWn : K.lookup fWn = some oWn)
    (nWn' : IsFn oWn "with_name" "with_name" sWN .none cdWn fdWn)
    (cWn : PySem.W.codeIn K cdWn "with_name" = true)
    (kWn : PySem.W.keepIn K (.ref fWn) = true)
    (aLu : PySem.W.nsIn K mainGlobals "looked_up" = some (some (.ref fLu)))
    (lLu : K.lookup fLu = some oLu)
    (nLu' : IsFn oLu "looked_up" "looked_up" sLU .none cdLu fdLu)
    (cLu : PySem.W.codeIn K cdLu "looked_up" = true)
    (kLu : PySem.W.keepIn K (.ref fLu) = true)
    (aNb : PySem.W.nsIn K mainGlobals "names_bound" = some (some (.ref fNb)))
    (lNb : K.lookup fNb = some oNb)
    (nNb' : IsFn oNb "names_bound" "names_bound" sNB .none cdNb fdNb)
    (cNb : PySem.W.codeIn K cdNb "names_bound" = true)
    (kNb : PySem.W.keepIn K (.ref fNb) = true)
    (aOn : PySem.W.nsIn K mainGlobals "outside_names" = some (some (.ref fOn)))
    (lOn : K.lookup fOn = some oOn)
    (nOn' : IsFn oOn "outside_names" "outside_names" sON .none cdOn fdOn)
    (cOn : PySem.W.codeIn K cdOn "outside_names" = true)
    (kOn : PySem.W.keepIn K (.ref fOn) = true)
    (aKo : PySem.W.nsIn K mainGlobals "kind_of" = some (some (.ref fKo)))
    (lKo : K.lookup fKo = some oKo)
    (nKo' : IsFn oKo "kind_of" "kind_of" sKO .none cdKo fdKo)
    (cKo : PySem.W.codeIn K cdKo "kind_of" = true)
    (kKo : PySem.W.keepIn K (.ref fKo) = true)
    (aRq : PySem.W.nsIn K mainGlobals "require" = some (some (.ref fRq)))
    (lRq : K.lookup fRq = some oRq)
    (nRq' : IsFn oRq "require" "require" sReq .none cdRq fdRq)
    (cRq : PySem.W.codeIn K cdRq "require" = true)
    (kRq : PySem.W.keepIn K (.ref fRq) = true)
    (aRw : PySem.W.nsIn K mainGlobals "require_word" = some (some (.ref fRw)))
    (lRw : K.lookup fRw = some oRw)
    (nRw' : IsFn oRw "require_word" "require_word" sRW .none cdRw fdRw)
    (cRw : PySem.W.codeIn K cdRw "require_word" = true)
    (kRw : PySem.W.keepIn K (.ref fRw) = true)
    (aCn : PySem.W.nsIn K mainGlobals "cons_kind" = some (some (.ref fCn)))
    (lCn : K.lookup fCn = some oCn)
    (nCn' : IsFn oCn "cons_kind" "cons_kind" sCons .none cdCn fdCn)
    (cCn : PySem.W.codeIn K cdCn "cons_kind" = true)
    (kCn : PySem.W.keepIn K (.ref fCn) = true)
    (aHk : PySem.W.nsIn K mainGlobals "head_kind" = some (some (.ref fHk)))
    (lHk : K.lookup fHk = some oHk)
    (nHk' : IsFn oHk "head_kind" "head_kind" sHead .none cdHk fdHk)
    (cHk : PySem.W.codeIn K cdHk "head_kind" = true)
    (kHk : PySem.W.keepIn K (.ref fHk) = true)
    (aTk : PySem.W.nsIn K mainGlobals "tail_kind" = some (some (.ref fTk)))
    (lTk : K.lookup fTk = some oTk)
    (nTk' : IsFn oTk "tail_kind" "tail_kind" sTail .none cdTk fdTk)
    (cTk : PySem.W.codeIn K cdTk "tail_kind" = true)
    (kTk : PySem.W.keepIn K (.ref fTk) = true)
    (aEk : PySem.W.nsIn K mainGlobals "empty_kind" = some (some (.ref fEk)))
    (lEk : K.lookup fEk = some oEk)
    (nEk' : IsFn oEk "empty_kind" "empty_kind" sEmpty .none cdEk fdEk)
    (cEk : PySem.W.codeIn K cdEk "empty_kind" = true)
    (kEk : PySem.W.keepIn K (.ref fEk) = true)
    (aFk : PySem.W.nsIn K mainGlobals "first_kind" = some (some (.ref fFk)))
    (lFk : K.lookup fFk = some oFk)
    (nFk' : IsFn oFk "first_kind" "first_kind" sFirst .none cdFk fdFk)
    (cFk : PySem.W.codeIn K cdFk "first_kind" = true)
    (kFk : PySem.W.keepIn K (.ref fFk) = true)
    (aSk : PySem.W.nsIn K mainGlobals "second_kind" = some (some (.ref fSk)))
    (lSk : K.lookup fSk = some oSk)
    (nSk' : IsFn oSk "second_kind" "second_kind" sSecond .none cdSk fdSk)
    (cSk : PySem.W.codeIn K cdSk "second_kind" = true)
    (kSk : PySem.W.keepIn K (.ref fSk) = true)
    (aIk : PySem.W.nsIn K mainGlobals "if_kind" = some (some (.ref fIk)))
    (lIk : K.lookup fIk = some oIk)
    (nIk' : IsFn oIk "if_kind" "if_kind" sIf .none cdIk fdIk)
    (cIk : PySem.W.codeIn K cdIk "if_kind" = true)
    (kIk : PySem.W.keepIn K (.ref fIk) = true)
    (aCk : PySem.W.nsIn K mainGlobals "call_kind" = some (some (.ref fCk)))
    (lCk : K.lookup fCk = some oCk)
    (nCk' : IsFn oCk "call_kind" "call_kind" sCall .none cdCk fdCk)
    (cCk : PySem.W.codeIn K cdCk "call_kind" = true)
    (kCk : PySem.W.keepIn K (.ref fCk) = true)
    (aLk : PySem.W.nsIn K mainGlobals "let_kind" = some (some (.ref fLk)))
    (lLk : K.lookup fLk = some oLk)
    (nLk' : IsFn oLk "let_kind" "let_kind" sLetK .none cdLk fdLk)
    (cLk : PySem.W.codeIn K cdLk "let_kind" = true)
    (kLk : PySem.W.keepIn K (.ref fLk) = true)
    (aNk : PySem.W.nsIn K mainGlobals "fn_kind" = some (some (.ref fNk)))
    (lNk : K.lookup fNk = some oNk)
    (nNk' : IsFn oNk "fn_kind" "fn_kind" sFnK .none cdNk fdNk)
    (cNk : PySem.W.codeIn K cdNk "fn_kind" = true)
    (kNk : PySem.W.keepIn K (.ref fNk) = true)
    (aXk : PySem.W.nsIn K mainGlobals "rec_kind" = some (some (.ref fXk)))
    (lXk : K.lookup fXk = some oXk)
    (nXk' : IsFn oXk "rec_kind" "rec_kind" sRecK .none cdXk fdXk)
    (cXk : PySem.W.codeIn K cdXk "rec_kind" = true)
    (kXk : PySem.W.keepIn K (.ref fXk) = true)
    (aPk : PySem.W.nsIn K mainGlobals "pair_kind" = some (some (.ref fPk)))
    (lPk : K.lookup fPk = some oPk)
    (nPk' : IsFn oPk "pair_kind" "pair_kind" sPK .none cdPk fdPk)
    (cPk : PySem.W.codeIn K cdPk "pair_kind" = true)
    (kPk : PySem.W.keepIn K (.ref fPk) = true)
    (aFt : PySem.W.nsIn K mainGlobals "fitted" = some (some (.ref fFt)))
    (lFt : K.lookup fFt = some oFt)
    (nFt' : IsFn oFt "fitted" "fitted" sFit .none cdFt fdFt)
    (cFt : PySem.W.codeIn K cdFt "fitted" = true)
    (kFt : PySem.W.keepIn K (.ref fFt) = true)
    (aCm : PySem.W.nsIn K mainGlobals "compiled" = some (some (.ref fCm)))
    (lCm : K.lookup fCm = some oCm)
    (nCm' : IsFn oCm "compiled" "compiled" sComp .none cdCm fdCm)
    (cCm : PySem.W.codeIn K cdCm "compiled" = true)
    (kCm : PySem.W.keepIn K (.ref fCm) = true)
    (aOp : PySem.W.nsIn K mainGlobals "operands_code" = some (some (.ref fOp)))
    (lOp : K.lookup fOp = some oOp)
    (nOp' : IsFn oOp "operands_code" "operands_code" sOpd .none cdOp fdOp)
    (cOp : PySem.W.codeIn K cdOp "operands_code" = true)
    (kOp : PySem.W.keepIn K (.ref fOp) = true)
    (aCc : PySem.W.nsIn K mainGlobals "call_code" = some (some (.ref fCc)))
    (lCc : K.lookup fCc = some oCc)
    (nCc' : IsFn oCc "call_code" "call_code" sCallC .none cdCc fdCc)
    (cCc : PySem.W.codeIn K cdCc "call_code" = true)
    (kCc : PySem.W.keepIn K (.ref fCc) = true)
    (aAi : PySem.W.nsIn K mainGlobals "as_if" = some (some (.ref fAi)))
    (lAi : K.lookup fAi = some oAi)
    (nAi' : IsFn oAi "as_if" "as_if" sAsIf .none cdAi fdAi)
    (cAi : PySem.W.codeIn K cdAi "as_if" = true)
    (kAi : PySem.W.keepIn K (.ref fAi) = true)
    (aIc : PySem.W.nsIn K mainGlobals "if_code" = some (some (.ref fIc)))
    (lIc : K.lookup fIc = some oIc)
    (nIc' : IsFn oIc "if_code" "if_code" sIfC .none cdIc fdIc)
    (cIc : PySem.W.codeIn K cdIc "if_code" = true)
    (kIc : PySem.W.keepIn K (.ref fIc) = true)
    (aLc : PySem.W.nsIn K mainGlobals "let_code" = some (some (.ref fLc)))
    (lLc : K.lookup fLc = some oLc)
    (nLc' : IsFn oLc "let_code" "let_code" sLetC .none cdLc fdLc)
    (cLc : PySem.W.codeIn K cdLc "let_code" = true)
    (kLc : PySem.W.keepIn K (.ref fLc) = true)
    (aFc : PySem.W.nsIn K mainGlobals "function_code" = some (some (.ref fFc)))
    (lFc : K.lookup fFc = some oFc)
    (nFc' : IsFn oFc "function_code" "function_code" sFnC .none cdFc fdFc)
    (cFc : PySem.W.codeIn K cdFc "function_code" = true)
    (kFc : PySem.W.keepIn K (.ref fFc) = true)
    (aVc : PySem.W.nsIn K mainGlobals "value_code" = some (some (.ref fVc)))
    (lVc : K.lookup fVc = some oVc)
    (nVc' : IsFn oVc "value_code" "value_code" sVal .none cdVc fdVc)
    (cVc : PySem.W.codeIn K cdVc "value_code" = true)
    (kVc : PySem.W.keepIn K (.ref fVc) = true)
    (aCo : PySem.W.nsIn K mainGlobals "code_of" = some (some (.ref fCo)))
    (lCo : K.lookup fCo = some oCo)
    (nCo' : IsFn oCo "code_of" "code_of" sCode .none cdCo fdCo)
    (cCo : PySem.W.codeIn K cdCo "code_of" = true)
    (kCo : PySem.W.keepIn K (.ref fCo) = true)
    (aKt : PySem.W.nsIn K mainGlobals "kind_text" = some (some (.ref fKt)))
    (lKt : K.lookup fKt = some oKt)
    (nKt' : IsFn oKt "kind_text" "kind_text" sKT .none cdKt fdKt)
    (cKt : PySem.W.codeIn K cdKt "kind_text" = true)
    (kKt : PySem.W.keepIn K (.ref fKt) = true)
    (aCe : PySem.W.nsIn K mainGlobals "_law_cell" = some (some (.ref fCe)))
    (lCe : K.lookup fCe = some oCe)
    (nCe' : IsFn oCe "_law_cell" "_law_cell" sCell .none cdCe fdCe)
    (cCe : PySem.W.codeIn K cdCe "_law_cell" = true)
    (kCe : PySem.W.keepIn K (.ref fCe) = true)
    (aDr : PySem.W.nsIn K mainGlobals "_law_drawn" = some (some (.ref fDr)))
    (lDr : K.lookup fDr = some oDr)
    (nDr' : IsFn oDr "_law_drawn" "_law_drawn" sDrawn .none cdDr fdDr)
    (cDr : PySem.W.codeIn K cdDr "_law_drawn" = true)
    (kDr : PySem.W.keepIn K (.ref fDr) = true)
    (aLq : PySem.W.nsIn K mainGlobals "_law_kind" = some (some (.ref fLq)))
    (lLq : K.lookup fLq = some oLq)
    (nLq' : IsFn oLq "_law_kind" "_law_kind" sLK .none cdLq fdLq)
    (cLq : PySem.W.codeIn K cdLq "_law_kind" = true)
    (kLq : PySem.W.keepIn K (.ref fLq) = true)
    (aNu : PySem.W.nsIn K mainGlobals "_law_number" = some (some (.ref fNu)))
    (lNu : K.lookup fNu = some oNu)
    (nNu' : IsFn oNu "_law_number" "_law_number" sNum .none cdNu fdNu)
    (cNu : PySem.W.codeIn K cdNu "_law_number" = true)
    (kNu : PySem.W.keepIn K (.ref fNu) = true)
    (aLf : PySem.W.nsIn K mainGlobals "_law_leaf" = some (some (.ref fLf)))
    (lLf : K.lookup fLf = some oLf)
    (nLf' : IsFn oLf "_law_leaf" "_law_leaf" sLeaf .none cdLf fdLf)
    (cLf : PySem.W.codeIn K cdLf "_law_leaf" = true)
    (kLf : PySem.W.keepIn K (.ref fLf) = true)
    (aBd : PySem.W.nsIn K mainGlobals "_law_bound" = some (some (.ref fBd)))
    (lBd : K.lookup fBd = some oBd)
    (nBd' : IsFn oBd "_law_bound" "_law_bound" sBnd .none cdBd fdBd)
    (cBd : PySem.W.codeIn K cdBd "_law_bound" = true)
    (kBd : PySem.W.keepIn K (.ref fBd) = true)
    (aTw : PySem.W.nsIn K mainGlobals "_law_two" = some (some (.ref fTw)))
    (lTw : K.lookup fTw = some oTw)
    (nTw' : IsFn oTw "_law_two" "_law_two" sTwo .none cdTw fdTw)
    (cTw : PySem.W.codeIn K cdTw "_law_two" = true)
    (kTw : PySem.W.keepIn K (.ref fTw) = true)
    (aOf : PySem.W.nsIn K mainGlobals "_law_of_kind" = some (some (.ref fOf)))
    (lOf : K.lookup fOf = some oOf)
    (nOf' : IsFn oOf "_law_of_kind" "_law_of_kind" sOK .none cdOf fdOf)
    (cOf : PySem.W.codeIn K cdOf "_law_of_kind" = true)
    (kOf : PySem.W.keepIn K (.ref fOf) = true)
    (aLp : PySem.W.nsIn K mainGlobals "_law_loop" = some (some (.ref fLp)))
    (lLp : K.lookup fLp = some oLp)
    (nLp' : IsFn oLp "_law_loop" "_law_loop" sLoop .none cdLp fdLp)
    (cLp : PySem.W.codeIn K cdLp "_law_loop" = true)
    (kLp : PySem.W.keepIn K (.ref fLp) = true)
    (aPa : PySem.W.nsIn K mainGlobals "_law_part" = some (some (.ref fPa)))
    (lPa : K.lookup fPa = some oPa)
    (nPa' : IsFn oPa "_law_part" "_law_part" sPart .none cdPa fdPa)
    (cPa : PySem.W.codeIn K cdPa "_law_part" = true)
    (kPa : PySem.W.keepIn K (.ref fPa) = true)
    (aUt : PySem.W.nsIn K mainGlobals "_law_kind_text" = some (some (.ref fUt)))
    (lUt : K.lookup fUt = some oUt)
    (nUt' : IsFn oUt "_law_kind_text" "_law_kind_text" sLKT .none cdUt fdUt)
    (cUt : PySem.W.codeIn K cdUt "_law_kind_text" = true)
    (kUt : PySem.W.keepIn K (.ref fUt) = true)
    (aAr : PySem.W.nsIn K mainGlobals "_law_around" = some (some (.ref fAr)))
    (lAr : K.lookup fAr = some oAr)
    (nAr' : IsFn oAr "_law_around" "_law_around" sAround .none cdAr fdAr)
    (cAr : PySem.W.codeIn K cdAr "_law_around" = true)
    (kAr : PySem.W.keepIn K (.ref fAr) = true)
    (aLw : PySem.W.nsIn K mainGlobals "law" = some (some (.ref fLw)))
    (lLw : K.lookup fLw = some oLw)
    (nLw' : IsFn oLw "law" "law" sLaw .none cdLw fdLw)
    (cLw : PySem.W.codeIn K cdLw "law" = true)
    (kLw : PySem.W.keepIn K (.ref fLw) = true)
    (aPST : PySem.W.nsIn K mainGlobals "PART_SLOTS" = some (some (.ref TPS)))
    (lPST : K.lookup TPS = some OPS)
    (dPST : TabD OPS (ksPS.zip ([.ref pPS0, .ref pPS1, .ref pPS2, .ref pPS3, .ref pPS4, .ref pPS5, .ref pPS6, .ref pPS7, .ref pPS8, .ref pPS9, .ref pPS10, .ref pPS11, .ref pPS12, .ref pPS13, .ref pPS14, .ref pPS15, .ref pPS16, .ref pPS17, .ref pPS18, .ref pPS19, .ref pPS20, .ref pPS21, .ref pPS22] : List V)))
    (sPST : (TPS == sysModules) = false)
    (lpPS0 : K.lookup pPS0 = some opPS0)
    (tpPS0 : TupO opPS0 ((["kind"] : List Str).map V.str))
    (lpPS1 : K.lookup pPS1 = some opPS1)
    (tpPS1 : TupO opPS1 ((["part", "part"] : List Str).map V.str))
    (lpPS2 : K.lookup pPS2 = some opPS2)
    (tpPS2 : TupO opPS2 ((["part"] : List Str).map V.str))
    (lpPS3 : K.lookup pPS3 = some opPS3)
    (tpPS3 : TupO opPS3 ((["part"] : List Str).map V.str))
    (lpPS4 : K.lookup pPS4 = some opPS4)
    (tpPS4 : TupO opPS4 ((["part"] : List Str).map V.str))
    (lpPS5 : K.lookup pPS5 = some opPS5)
    (tpPS5 : TupO opPS5 ((["part", "part"] : List Str).map V.str))
    (lpPS6 : K.lookup pPS6 = some opPS6)
    (tpPS6 : TupO opPS6 ((["part"] : List Str).map V.str))
    (lpPS7 : K.lookup pPS7 = some opPS7)
    (tpPS7 : TupO opPS7 ((["part"] : List Str).map V.str))
    (lpPS8 : K.lookup pPS8 = some opPS8)
    (tpPS8 : TupO opPS8 ((["part", "part", "part"] : List Str).map V.str))
    (lpPS9 : K.lookup pPS9 = some opPS9)
    (tpPS9 : TupO opPS9 ((["name", "part", "part"] : List Str).map V.str))
    (lpPS10 : K.lookup pPS10 = some opPS10)
    (tpPS10 : TupO opPS10 ((["name", "kind", "part"] : List Str).map V.str))
    (lpPS11 : K.lookup pPS11 = some opPS11)
    (tpPS11 : TupO opPS11 ((["name", "name", "kind", "kind", "part"] : List Str).map V.str))
    (lpPS12 : K.lookup pPS12 = some opPS12)
    (tpPS12 : TupO opPS12 ((["part", "part"] : List Str).map V.str))
    (lpPS13 : K.lookup pPS13 = some opPS13)
    (tpPS13 : TupO opPS13 ((["part", "part"] : List Str).map V.str))
    (lpPS14 : K.lookup pPS14 = some opPS14)
    (tpPS14 : TupO opPS14 ((["part", "part"] : List Str).map V.str))
    (lpPS15 : K.lookup pPS15 = some opPS15)
    (tpPS15 : TupO opPS15 ((["part", "part"] : List Str).map V.str))
    (lpPS16 : K.lookup pPS16 = some opPS16)
    (tpPS16 : TupO opPS16 ((["part", "part"] : List Str).map V.str))
    (lpPS17 : K.lookup pPS17 = some opPS17)
    (tpPS17 : TupO opPS17 ((["part", "part"] : List Str).map V.str))
    (lpPS18 : K.lookup pPS18 = some opPS18)
    (tpPS18 : TupO opPS18 ((["part", "part"] : List Str).map V.str))
    (lpPS19 : K.lookup pPS19 = some opPS19)
    (tpPS19 : TupO opPS19 ((["part", "part"] : List Str).map V.str))
    (lpPS20 : K.lookup pPS20 = some opPS20)
    (tpPS20 : TupO opPS20 ((["part", "part"] : List Str).map V.str))
    (lpPS21 : K.lookup pPS21 = some opPS21)
    (tpPS21 : TupO opPS21 ((["part", "part"] : List Str).map V.str))
    (lpPS22 : K.lookup pPS22 = some opPS22)
    (tpPS22 : TupO opPS22 ((["part"] : List Str).map V.str))
    (aBRT : PySem.W.nsIn K mainGlobals "BINDING_RULES" = some (some (.ref TBR)))
    (lBRT : K.lookup TBR = some OBR)
    (dBRT : TabD OBR (ksBR.zip ([.ref fLk, .ref fNk, .ref fXk] : List V)))
    (sBRT : (TBR == sysModules) = false)
    (aKRT : PySem.W.nsIn K mainGlobals "KIND_RULES" = some (some (.ref TKR)))
    (lKRT : K.lookup TKR = some OKR)
    (dKRT : TabD OKR (ksKR.zip ([.ref fCn, .ref fHk, .ref fTk, .ref fEk, .ref fFk, .ref fSk, .ref fIk, .ref fCk] : List V)))
    (sKRT : (TKR == sysModules) = false)
    (aFKT : PySem.W.nsIn K mainGlobals "FIXED_KINDS" = some (some (.ref TFK)))
    (lFKT : K.lookup TFK = some OFK)
    (dFKT : TabD OFK (ksFK.zip ([.ref pFK0, .ref pFK1, .ref pFK2, .ref pFK3, .ref pFK4, .ref pFK5, .ref pFK6, .ref pFK7, .ref pFK8, .ref pFK9, .ref pFK10, .ref pFK11] : List V)))
    (sFKT : (TFK == sysModules) = false)
    (lpFK0 : K.lookup pFK0 = some opFK0)
    (tpFK0 : TupO opFK0 ((["int"] : List Str).map V.str))
    (lpFK1 : K.lookup pFK1 = some opFK1)
    (tpFK1 : TupO opFK1 ((["bool"] : List Str).map V.str))
    (lpFK2 : K.lookup pFK2 = some opFK2)
    (tpFK2 : TupO opFK2 ((["int", "int", "int"] : List Str).map V.str))
    (lpFK3 : K.lookup pFK3 = some opFK3)
    (tpFK3 : TupO opFK3 ((["int", "int", "int"] : List Str).map V.str))
    (lpFK4 : K.lookup pFK4 = some opFK4)
    (tpFK4 : TupO opFK4 ((["int", "int", "int"] : List Str).map V.str))
    (lpFK5 : K.lookup pFK5 = some opFK5)
    (tpFK5 : TupO opFK5 ((["int", "int", "int"] : List Str).map V.str))
    (lpFK6 : K.lookup pFK6 = some opFK6)
    (tpFK6 : TupO opFK6 ((["int", "int", "int"] : List Str).map V.str))
    (lpFK7 : K.lookup pFK7 = some opFK7)
    (tpFK7 : TupO opFK7 ((["int", "int", "bool"] : List Str).map V.str))
    (lpFK8 : K.lookup pFK8 = some opFK8)
    (tpFK8 : TupO opFK8 ((["int", "int", "bool"] : List Str).map V.str))
    (lpFK9 : K.lookup pFK9 = some opFK9)
    (tpFK9 : TupO opFK9 ((["bool", "bool", "bool"] : List Str).map V.str))
    (lpFK10 : K.lookup pFK10 = some opFK10)
    (tpFK10 : TupO opFK10 ((["bool", "bool", "bool"] : List Str).map V.str))
    (lpFK11 : K.lookup pFK11 = some opFK11)
    (tpFK11 : TupO opFK11 ((["bool", "bool"] : List Str).map V.str))
    (aPCT : PySem.W.nsIn K mainGlobals "PLACED_CODES" = some (some (.ref TPC)))
    (lPCT : K.lookup TPC = some OPC)
    (dPCT : TabD OPC (ksPC.zip ([.ref fCc, .ref fIc, .ref fIc, .ref fIc, .ref fLc] : List V)))
    (sPCT : (TPC == sysModules) = false)
    (z_zip : PySem.W.nsIn K mainGlobals "zip" = some none)
    (z_dict : PySem.W.nsIn K mainGlobals "dict" = some none)
    (z_isinstance : PySem.W.nsIn K mainGlobals "isinstance" = some none)
    (z_tuple : PySem.W.nsIn K mainGlobals "tuple" = some none)
    (z_list : PySem.W.nsIn K mainGlobals "list" = some none)
    (z_enumerate : PySem.W.nsIn K mainGlobals "enumerate" = some none)
    (z_len : PySem.W.nsIn K mainGlobals "len" = some none)
    (z_str : PySem.W.nsIn K mainGlobals "str" = some none)
    (z_int : PySem.W.nsIn K mainGlobals "int" = some none)
    (z_max : PySem.W.nsIn K mainGlobals "max" = some none)
    (z_min : PySem.W.nsIn K mainGlobals "min" = some none)
    (z_range : PySem.W.nsIn K mainGlobals "range" = some none) :
    ∃ fd : FuncData, (∀ (s : Shared) (v : Value), BindsTo s fd ⟨[v], []⟩ [("_law_script", v)]) ∧ ∀ base : Heap, K.In base → base.Ns mainGlobals mg → FnOk l.prog w K mg base (CXE l.prog w) 216 fa fd ["_law_script"] (spLaw K) := by
  have e := hfa.symm.trans (PySem.W.mg_of X G aLw)
  cases e
  have FVb := nVb'.d lVb cVb kVb
  have bVb : Binds K fdVb ["part", "sort"] [] := FVb.binds fun _ _ _ _ _ _ s us _ hl => match us, hl with | [_, _], _ => .of_eq rfl
  have mVb := PySem.W.mg_of X G aVb
  have DVb : Df K mg "values_behind" sVB ["part", "sort"] fVb fdVb := ⟨FVb, mVb, bVb⟩
  have FWn := nWn'.d lWn cWn kWn
  have bWn : Binds K fdWn ["scope", "name", "bound"] [] := FWn.binds fun _ _ _ _ _ _ s us _ hl => match us, hl with | [_, _, _], _ => .of_eq rfl
  have mWn := PySem.W.mg_of X G aWn
  have DWn : Df K mg "with_name" sWN ["scope", "name", "bound"] fWn fdWn := ⟨FWn, mWn, bWn⟩
  have FLu := nLu'.d lLu cLu kLu
  have bLu : Binds K fdLu ["scope", "name"] [] := FLu.binds fun _ _ _ _ _ _ s us _ hl => match us, hl with | [_, _], _ => .of_eq rfl
  have mLu := PySem.W.mg_of X G aLu
  have DLu : Df K mg "looked_up" sLU ["scope", "name"] fLu fdLu := ⟨FLu, mLu, bLu⟩
  have FNb := nNb'.d lNb cNb kNb
  have bNb : Binds K fdNb ["part"] [] := FNb.binds fun _ _ _ _ _ _ s us _ hl => match us, hl with | [_], _ => .of_eq rfl
  have mNb := PySem.W.mg_of X G aNb
  have DNb : Df K mg "names_bound" sNB ["part"] fNb fdNb := ⟨FNb, mNb, bNb⟩
  have FOn := nOn'.d lOn cOn kOn
  have bOn : Binds K fdOn ["part"] [] := FOn.binds fun _ _ _ _ _ _ s us _ hl => match us, hl with | [_], _ => .of_eq rfl
  have mOn := PySem.W.mg_of X G aOn
  have DOn : Df K mg "outside_names" sON ["part"] fOn fdOn := ⟨FOn, mOn, bOn⟩
  have FKo := nKo'.d lKo cKo kKo
  have bKo : Binds K fdKo ["part"] [] := FKo.binds fun _ _ _ _ _ _ s us _ hl => match us, hl with | [_], _ => .of_eq rfl
  have mKo := PySem.W.mg_of X G aKo
  have DKo : Df K mg "kind_of" sKO ["part"] fKo fdKo := ⟨FKo, mKo, bKo⟩
  have FRq := nRq'.d lRq cRq kRq
  have bRq : Binds K fdRq ["holds"] [] := FRq.binds fun _ _ _ _ _ _ s us _ hl => match us, hl with | [_], _ => .of_eq rfl
  have mRq := PySem.W.mg_of X G aRq
  have DRq : Df K mg "require" sReq ["holds"] fRq fdRq := ⟨FRq, mRq, bRq⟩
  have FRw := nRw'.d lRw cRw kRw
  have bRw : Binds K fdRw ["kind", "word"] [] := FRw.binds fun _ _ _ _ _ _ s us _ hl => match us, hl with | [_, _], _ => .of_eq rfl
  have mRw := PySem.W.mg_of X G aRw
  have DRw : Df K mg "require_word" sRW ["kind", "word"] fRw fdRw := ⟨FRw, mRw, bRw⟩
  have FCn := nCn'.d lCn cCn kCn
  have bCn : Binds K fdCn ["kinds"] [] := FCn.binds fun _ _ _ _ _ _ s us _ hl => match us, hl with | [_], _ => .of_eq rfl
  have mCn := PySem.W.mg_of X G aCn
  have DCn : Df K mg "cons_kind" sCons ["kinds"] fCn fdCn := ⟨FCn, mCn, bCn⟩
  have FHk := nHk'.d lHk cHk kHk
  have bHk : Binds K fdHk ["kinds"] [] := FHk.binds fun _ _ _ _ _ _ s us _ hl => match us, hl with | [_], _ => .of_eq rfl
  have mHk := PySem.W.mg_of X G aHk
  have DHk : Df K mg "head_kind" sHead ["kinds"] fHk fdHk := ⟨FHk, mHk, bHk⟩
  have FTk := nTk'.d lTk cTk kTk
  have bTk : Binds K fdTk ["kinds"] [] := FTk.binds fun _ _ _ _ _ _ s us _ hl => match us, hl with | [_], _ => .of_eq rfl
  have mTk := PySem.W.mg_of X G aTk
  have DTk : Df K mg "tail_kind" sTail ["kinds"] fTk fdTk := ⟨FTk, mTk, bTk⟩
  have FEk := nEk'.d lEk cEk kEk
  have bEk : Binds K fdEk ["kinds"] [] := FEk.binds fun _ _ _ _ _ _ s us _ hl => match us, hl with | [_], _ => .of_eq rfl
  have mEk := PySem.W.mg_of X G aEk
  have DEk : Df K mg "empty_kind" sEmpty ["kinds"] fEk fdEk := ⟨FEk, mEk, bEk⟩
  have FFk := nFk'.d lFk cFk kFk
  have bFk : Binds K fdFk ["kinds"] [] := FFk.binds fun _ _ _ _ _ _ s us _ hl => match us, hl with | [_], _ => .of_eq rfl
  have mFk := PySem.W.mg_of X G aFk
  have DFk : Df K mg "first_kind" sFirst ["kinds"] fFk fdFk := ⟨FFk, mFk, bFk⟩
  have FSk := nSk'.d lSk cSk kSk
  have bSk : Binds K fdSk ["kinds"] [] := FSk.binds fun _ _ _ _ _ _ s us _ hl => match us, hl with | [_], _ => .of_eq rfl
  have mSk := PySem.W.mg_of X G aSk
  have DSk : Df K mg "second_kind" sSecond ["kinds"] fSk fdSk := ⟨FSk, mSk, bSk⟩
  have FIk := nIk'.d lIk cIk kIk
  have bIk : Binds K fdIk ["kinds"] [] := FIk.binds fun _ _ _ _ _ _ s us _ hl => match us, hl with | [_], _ => .of_eq rfl
  have mIk := PySem.W.mg_of X G aIk
  have DIk : Df K mg "if_kind" sIf ["kinds"] fIk fdIk := ⟨FIk, mIk, bIk⟩
  have FCk := nCk'.d lCk cCk kCk
  have bCk : Binds K fdCk ["kinds"] [] := FCk.binds fun _ _ _ _ _ _ s us _ hl => match us, hl with | [_], _ => .of_eq rfl
  have mCk := PySem.W.mg_of X G aCk
  have DCk : Df K mg "call_kind" sCall ["kinds"] fCk fdCk := ⟨FCk, mCk, bCk⟩
  have FLk := nLk'.d lLk cLk kLk
  have bLk : Binds K fdLk ["part", "scope", "pairs"] [] := FLk.binds fun _ _ _ _ _ _ s us _ hl => match us, hl with | [_, _, _], _ => .of_eq rfl
  have mLk := PySem.W.mg_of X G aLk
  have DLk : Df K mg "let_kind" sLetK ["part", "scope", "pairs"] fLk fdLk := ⟨FLk, mLk, bLk⟩
  have FNk := nNk'.d lNk cNk kNk
  have bNk : Binds K fdNk ["part", "scope", "pairs"] [] := FNk.binds fun _ _ _ _ _ _ s us _ hl => match us, hl with | [_, _, _], _ => .of_eq rfl
  have mNk := PySem.W.mg_of X G aNk
  have DNk : Df K mg "fn_kind" sFnK ["part", "scope", "pairs"] fNk fdNk := ⟨FNk, mNk, bNk⟩
  have FXk := nXk'.d lXk cXk kXk
  have bXk : Binds K fdXk ["part", "scope", "pairs"] [] := FXk.binds fun _ _ _ _ _ _ s us _ hl => match us, hl with | [_, _, _], _ => .of_eq rfl
  have mXk := PySem.W.mg_of X G aXk
  have DXk : Df K mg "rec_kind" sRecK ["part", "scope", "pairs"] fXk fdXk := ⟨FXk, mXk, bXk⟩
  have FPk := nPk'.d lPk cPk kPk
  have bPk : Binds K fdPk ["kinds", "pairs"] [] := FPk.binds fun _ _ _ _ _ _ s us _ hl => match us, hl with | [_, _], _ => .of_eq rfl
  have mPk := PySem.W.mg_of X G aPk
  have DPk : Df K mg "pair_kind" sPK ["kinds", "pairs"] fPk fdPk := ⟨FPk, mPk, bPk⟩
  have FFt := nFt'.d lFt cFt kFt
  have bFt : Binds K fdFt ["part", "scope", "pairs"] [] := FFt.binds fun _ _ _ _ _ _ s us _ hl => match us, hl with | [_, _, _], _ => .of_eq rfl
  have mFt := PySem.W.mg_of X G aFt
  have DFt : Df K mg "fitted" sFit ["part", "scope", "pairs"] fFt fdFt := ⟨FFt, mFt, bFt⟩
  have FCm := nCm'.d lCm cCm kCm
  have bCm : Binds K fdCm ["part"] [] := FCm.binds fun _ _ _ _ _ _ s us _ hl => match us, hl with | [_], _ => .of_eq rfl
  have mCm := PySem.W.mg_of X G aCm
  have DCm : Df K mg "compiled" sComp ["part"] fCm fdCm := ⟨FCm, mCm, bCm⟩
  have FOp := nOp'.d lOp cOp kOp
  have bOp : Binds K fdOp ["part", "slots", "height"] [] := FOp.binds fun _ _ _ _ _ _ s us _ hl => match us, hl with | [_, _, _], _ => .of_eq rfl
  have mOp := PySem.W.mg_of X G aOp
  have DOp : Df K mg "operands_code" sOpd ["part", "slots", "height"] fOp fdOp := ⟨FOp, mOp, bOp⟩
  have FCc := nCc'.d lCc cCc kCc
  have bCc : Binds K fdCc ["part", "slots", "height", "last"] [] := FCc.binds fun _ _ _ _ _ _ s us _ hl => match us, hl with | [_, _, _, _], _ => .of_eq rfl
  have mCc := PySem.W.mg_of X G aCc
  have DCc : Df K mg "call_code" sCallC ["part", "slots", "height", "last"] fCc fdCc := ⟨FCc, mCc, bCc⟩
  have FAi := nAi'.d lAi cAi kAi
  have bAi : Binds K fdAi ["part"] [] := FAi.binds fun _ _ _ _ _ _ s us _ hl => match us, hl with | [_], _ => .of_eq rfl
  have mAi := PySem.W.mg_of X G aAi
  have DAi : Df K mg "as_if" sAsIf ["part"] fAi fdAi := ⟨FAi, mAi, bAi⟩
  have FIc := nIc'.d lIc cIc kIc
  have bIc : Binds K fdIc ["part", "slots", "height", "last"] [] := FIc.binds fun _ _ _ _ _ _ s us _ hl => match us, hl with | [_, _, _, _], _ => .of_eq rfl
  have mIc := PySem.W.mg_of X G aIc
  have DIc : Df K mg "if_code" sIfC ["part", "slots", "height", "last"] fIc fdIc := ⟨FIc, mIc, bIc⟩
  have FLc := nLc'.d lLc cLc kLc
  have bLc : Binds K fdLc ["part", "slots", "height", "last"] [] := FLc.binds fun _ _ _ _ _ _ s us _ hl => match us, hl with | [_, _, _, _], _ => .of_eq rfl
  have mLc := PySem.W.mg_of X G aLc
  have DLc : Df K mg "let_code" sLetC ["part", "slots", "height", "last"] fLc fdLc := ⟨FLc, mLc, bLc⟩
  have FFc := nFc'.d lFc cFc kFc
  have bFc : Binds K fdFc ["part", "slots"] [] := FFc.binds fun _ _ _ _ _ _ s us _ hl => match us, hl with | [_, _], _ => .of_eq rfl
  have mFc := PySem.W.mg_of X G aFc
  have DFc : Df K mg "function_code" sFnC ["part", "slots"] fFc fdFc := ⟨FFc, mFc, bFc⟩
  have FVc := nVc'.d lVc cVc kVc
  have bVc : Binds K fdVc ["part", "slots"] [] := FVc.binds fun _ _ _ _ _ _ s us _ hl => match us, hl with | [_, _], _ => .of_eq rfl
  have mVc := PySem.W.mg_of X G aVc
  have DVc : Df K mg "value_code" sVal ["part", "slots"] fVc fdVc := ⟨FVc, mVc, bVc⟩
  have FCo := nCo'.d lCo cCo kCo
  have bCo : Binds K fdCo ["part", "slots", "height", "last"] [] := FCo.binds fun _ _ _ _ _ _ s us _ hl => match us, hl with | [_, _, _, _], _ => .of_eq rfl
  have mCo := PySem.W.mg_of X G aCo
  have DCo : Df K mg "code_of" sCode ["part", "slots", "height", "last"] fCo fdCo := ⟨FCo, mCo, bCo⟩
  have FKt := nKt'.d lKt cKt kKt
  have bKt : Binds K fdKt ["kind"] [] := FKt.binds fun _ _ _ _ _ _ s us _ hl => match us, hl with | [_], _ => .of_eq rfl
  have mKt := PySem.W.mg_of X G aKt
  have DKt : Df K mg "kind_text" sKT ["kind"] fKt fdKt := ⟨FKt, mKt, bKt⟩
  have FCe := nCe'.d lCe cCe kCe
  have bCe : Binds K fdCe ["_law_script", "_law_k"] [] := FCe.binds fun _ _ _ _ _ _ s us _ hl => match us, hl with | [_, _], _ => .of_eq rfl
  have mCe := PySem.W.mg_of X G aCe
  have DCe : Df K mg "_law_cell" sCell ["_law_script", "_law_k"] fCe fdCe := ⟨FCe, mCe, bCe⟩
  have FDr := nDr'.d lDr cDr kDr
  have bDr : Binds K fdDr ["_law_cell_here", "_law_k"] [] := FDr.binds fun _ _ _ _ _ _ s us _ hl => match us, hl with | [_, _], _ => .of_eq rfl
  have mDr := PySem.W.mg_of X G aDr
  have DDr : Df K mg "_law_drawn" sDrawn ["_law_cell_here", "_law_k"] fDr fdDr := ⟨FDr, mDr, bDr⟩
  have FLq := nLq'.d lLq cLq kLq
  have bLq : Binds K fdLq ["_law_more", "_law_deep"] [] := FLq.binds fun _ _ _ _ _ _ s us _ hl => match us, hl with | [_, _], _ => .of_eq rfl
  have mLq := PySem.W.mg_of X G aLq
  have DLq : Df K mg "_law_kind" sLK ["_law_more", "_law_deep"] fLq fdLq := ⟨FLq, mLq, bLq⟩
  have FNu := nNu'.d lNu cNu kNu
  have bNu : Binds K fdNu ["_law_more"] [] := FNu.binds fun _ _ _ _ _ _ s us _ hl => match us, hl with | [_], _ => .of_eq rfl
  have mNu := PySem.W.mg_of X G aNu
  have DNu : Df K mg "_law_number" sNum ["_law_more"] fNu fdNu := ⟨FNu, mNu, bNu⟩
  have FLf := nLf'.d lLf cLf kLf
  have bLf : Binds K fdLf ["_law_more", "_law_kind_here", "_law_scope"] [] := FLf.binds fun _ _ _ _ _ _ s us _ hl => match us, hl with | [_, _, _], _ => .of_eq rfl
  have mLf := PySem.W.mg_of X G aLf
  have DLf : Df K mg "_law_leaf" sLeaf ["_law_more", "_law_kind_here", "_law_scope"] fLf fdLf := ⟨FLf, mLf, bLf⟩
  have FBd := nBd'.d lBd cBd kBd
  have bBd : Binds K fdBd ["_law_name", "_law_scope"] [] := FBd.binds fun _ _ _ _ _ _ s us _ hl => match us, hl with | [_, _], _ => .of_eq rfl
  have mBd := PySem.W.mg_of X G aBd
  have DBd : Df K mg "_law_bound" sBnd ["_law_name", "_law_scope"] fBd fdBd := ⟨FBd, mBd, bBd⟩
  have FTw := nTw'.d lTw cTw kTw
  have bTw : Binds K fdTw ["_law_script", "_law_k", "_law_word", "_law_kinds", "_law_scope", "_law_deep"] [] := FTw.binds fun _ _ _ _ _ _ s us _ hl => match us, hl with | [_, _, _, _, _, _], _ => .of_eq rfl
  have mTw := PySem.W.mg_of X G aTw
  have DTw : Df K mg "_law_two" sTwo ["_law_script", "_law_k", "_law_word", "_law_kinds", "_law_scope", "_law_deep"] fTw fdTw := ⟨FTw, mTw, bTw⟩
  have FOf := nOf'.d lOf cOf kOf
  have bOf : Binds K fdOf ["_law_script", "_law_k", "_law_kind_here", "_law_scope", "_law_deep", "_law_more"] [] := FOf.binds fun _ _ _ _ _ _ s us _ hl => match us, hl with | [_, _, _, _, _, _], _ => .of_eq rfl
  have mOf := PySem.W.mg_of X G aOf
  have DOf : Df K mg "_law_of_kind" sOK ["_law_script", "_law_k", "_law_kind_here", "_law_scope", "_law_deep", "_law_more"] fOf fdOf := ⟨FOf, mOf, bOf⟩
  have FLp := nLp'.d lLp cLp kLp
  have bLp : Binds K fdLp ["_law_script", "_law_k", "_law_kind_here", "_law_scope", "_law_more"] [] := FLp.binds fun _ _ _ _ _ _ s us _ hl => match us, hl with | [_, _, _, _, _], _ => .of_eq rfl
  have mLp := PySem.W.mg_of X G aLp
  have DLp : Df K mg "_law_loop" sLoop ["_law_script", "_law_k", "_law_kind_here", "_law_scope", "_law_more"] fLp fdLp := ⟨FLp, mLp, bLp⟩
  have FPa := nPa'.d lPa cPa kPa
  have bPa : Binds K fdPa ["_law_script", "_law_k", "_law_kind_here", "_law_scope", "_law_deep"] [] := FPa.binds fun _ _ _ _ _ _ s us _ hl => match us, hl with | [_, _, _, _, _], _ => .of_eq rfl
  have mPa := PySem.W.mg_of X G aPa
  have DPa : Df K mg "_law_part" sPart ["_law_script", "_law_k", "_law_kind_here", "_law_scope", "_law_deep"] fPa fdPa := ⟨FPa, mPa, bPa⟩
  have FUt := nUt'.d lUt cUt kUt
  have bUt : Binds K fdUt ["_law_kind_here"] [] := FUt.binds fun _ _ _ _ _ _ s us _ hl => match us, hl with | [_], _ => .of_eq rfl
  have mUt := PySem.W.mg_of X G aUt
  have DUt : Df K mg "_law_kind_text" sLKT ["_law_kind_here"] fUt fdUt := ⟨FUt, mUt, bUt⟩
  have FAr := nAr'.d lAr cAr kAr
  have bAr : Binds K fdAr ["_law_part_here", "_law_more"] [] := FAr.binds fun _ _ _ _ _ _ s us _ hl => match us, hl with | [_, _], _ => .of_eq rfl
  have mAr := PySem.W.mg_of X G aAr
  have DAr : Df K mg "_law_around" sAround ["_law_part_here", "_law_more"] fAr fdAr := ⟨FAr, mAr, bAr⟩
  have FLw := nLw'.d lLw cLw kLw
  have bLw : Binds K fdLw ["_law_script"] [] := FLw.binds fun _ _ _ _ _ _ s us _ hl => match us, hl with | [_], _ => .of_eq rfl
  have mLw := PySem.W.mg_of X G aLw
  have y_zip := PySem.W.mg_none_of X G z_zip
  have y_dict := PySem.W.mg_none_of X G z_dict
  have y_isinstance := PySem.W.mg_none_of X G z_isinstance
  have y_tuple := PySem.W.mg_none_of X G z_tuple
  have y_list := PySem.W.mg_none_of X G z_list
  have y_enumerate := PySem.W.mg_none_of X G z_enumerate
  have y_len := PySem.W.mg_none_of X G z_len
  have y_str := PySem.W.mg_none_of X G z_str
  have y_int := PySem.W.mg_none_of X G z_int
  have y_max := PySem.W.mg_none_of X G z_max
  have y_min := PySem.W.mg_none_of X G z_min
  have y_range := PySem.W.mg_none_of X G z_range
  have Gv : GlV K mg := by
    refine ⟨y_zip, TPS, _, PySem.W.mg_of X G aPST, dPST.s lPST sPST, fun wd => ?_⟩
    have hh := slots_zip (K := K) (ks := ksPS) (sss := ([["kind"], ["part", "part"], ["part"], ["part"], ["part"], ["part", "part"], ["part"], ["part"], ["part", "part", "part"], ["name", "part", "part"], ["name", "kind", "part"], ["name", "name", "kind", "kind", "part"], ["part", "part"], ["part", "part"], ["part", "part"], ["part", "part"], ["part", "part"], ["part", "part"], ["part", "part"], ["part", "part"], ["part", "part"], ["part", "part"], ["part"]] : List (List Str))) (vs := ([.ref pPS0, .ref pPS1, .ref pPS2, .ref pPS3, .ref pPS4, .ref pPS5, .ref pPS6, .ref pPS7, .ref pPS8, .ref pPS9, .ref pPS10, .ref pPS11, .ref pPS12, .ref pPS13, .ref pPS14, .ref pPS15, .ref pPS16, .ref pPS17, .ref pPS18, .ref pPS19, .ref pPS20, .ref pPS21, .ref pPS22] : List V)) rfl rfl (fun i ss v e1 e2 => ?_) wd
    rotate_left
    · match i, e1, e2 with
      | 0, e1, e2 => cases e1; cases e2; exact ⟨_, rfl, (tpPS0.s lpPS0 (by decide))⟩
      | 1, e1, e2 => cases e1; cases e2; exact ⟨_, rfl, (tpPS1.s lpPS1 (by decide))⟩
      | 2, e1, e2 => cases e1; cases e2; exact ⟨_, rfl, (tpPS2.s lpPS2 (by decide))⟩
      | 3, e1, e2 => cases e1; cases e2; exact ⟨_, rfl, (tpPS3.s lpPS3 (by decide))⟩
      | 4, e1, e2 => cases e1; cases e2; exact ⟨_, rfl, (tpPS4.s lpPS4 (by decide))⟩
      | 5, e1, e2 => cases e1; cases e2; exact ⟨_, rfl, (tpPS5.s lpPS5 (by decide))⟩
      | 6, e1, e2 => cases e1; cases e2; exact ⟨_, rfl, (tpPS6.s lpPS6 (by decide))⟩
      | 7, e1, e2 => cases e1; cases e2; exact ⟨_, rfl, (tpPS7.s lpPS7 (by decide))⟩
      | 8, e1, e2 => cases e1; cases e2; exact ⟨_, rfl, (tpPS8.s lpPS8 (by decide))⟩
      | 9, e1, e2 => cases e1; cases e2; exact ⟨_, rfl, (tpPS9.s lpPS9 (by decide))⟩
      | 10, e1, e2 => cases e1; cases e2; exact ⟨_, rfl, (tpPS10.s lpPS10 (by decide))⟩
      | 11, e1, e2 => cases e1; cases e2; exact ⟨_, rfl, (tpPS11.s lpPS11 (by decide))⟩
      | 12, e1, e2 => cases e1; cases e2; exact ⟨_, rfl, (tpPS12.s lpPS12 (by decide))⟩
      | 13, e1, e2 => cases e1; cases e2; exact ⟨_, rfl, (tpPS13.s lpPS13 (by decide))⟩
      | 14, e1, e2 => cases e1; cases e2; exact ⟨_, rfl, (tpPS14.s lpPS14 (by decide))⟩
      | 15, e1, e2 => cases e1; cases e2; exact ⟨_, rfl, (tpPS15.s lpPS15 (by decide))⟩
      | 16, e1, e2 => cases e1; cases e2; exact ⟨_, rfl, (tpPS16.s lpPS16 (by decide))⟩
      | 17, e1, e2 => cases e1; cases e2; exact ⟨_, rfl, (tpPS17.s lpPS17 (by decide))⟩
      | 18, e1, e2 => cases e1; cases e2; exact ⟨_, rfl, (tpPS18.s lpPS18 (by decide))⟩
      | 19, e1, e2 => cases e1; cases e2; exact ⟨_, rfl, (tpPS19.s lpPS19 (by decide))⟩
      | 20, e1, e2 => cases e1; cases e2; exact ⟨_, rfl, (tpPS20.s lpPS20 (by decide))⟩
      | 21, e1, e2 => cases e1; cases e2; exact ⟨_, rfl, (tpPS21.s lpPS21 (by decide))⟩
      | 22, e1, e2 => cases e1; cases e2; exact ⟨_, rfl, (tpPS22.s lpPS22 (by decide))⟩
      | n + 23, e1, e2 => simp at e1
    have eSL : SL = ksPS.zip ([["kind"], ["part", "part"], ["part"], ["part"], ["part"], ["part", "part"], ["part"], ["part"], ["part", "part", "part"], ["name", "part", "part"], ["name", "kind", "part"], ["name", "name", "kind", "kind", "part"], ["part", "part"], ["part", "part"], ["part", "part"], ["part", "part"], ["part", "part"], ["part", "part"], ["part", "part"], ["part", "part"], ["part", "part"], ["part", "part"], ["part"]] : List (List Str)) := rfl
    unfold slotsOf
    rw [eSL]
    rcases hh with ⟨h1, h2⟩ | ⟨ss, tp, h1, h2, h3⟩
    · exact .inl ⟨by rw [h1]; rfl, h2⟩
    · exact .inr ⟨tp, h2, by rw [h1]; exact h3⟩
  have Gs : GlS K mg := ⟨y_isinstance, y_str, kit_ts K⟩
  have Gl' : GlL mg := ⟨y_len, y_int, y_max, y_min, y_range⟩
  have Go : GlO mg := ⟨y_enumerate, y_len, y_list⟩
  have Gc : GlC mg := ⟨y_enumerate, y_len, y_tuple⟩
  refine ⟨fdLw, fun s v => ?_, fun base kb nb => ?_⟩
  · obtain ⟨oc, od, kV, doc, pm, an, ct, osl, rfl, rfl⟩ := nLw'
    exact .of_eq rfl
  · have GVb' := ok_vb (P := l.prog) (w := w) (base := base) FVb Gv
    have GVb := DVb.kn GVb'
    have GRq' := ok_req (P := l.prog) (w := w) (base := base) (mg := mg) FRq
    have GRq := DRq.kn GRq'
    have GWn := DWn.kn (ok_wn (P := l.prog) (w := w) (base := base) FWn y_dict)
    have GLu := DLu.kn (ok_lu (P := l.prog) (w := w) (base := base) (mg := mg) FLu)
    have GNb := DNb.kn (ok_nb FNb GVb' mVb kVb bVb)
    have GRw := DRw.kn (ok_rw FRw ⟨y_isinstance, y_tuple⟩ GRq' mRq kRq bRq)
    have GCn := ok_cons FCn GRq
    have GHk := ok_head FHk GRw
    have GTk := ok_tail FTk GRw
    have GEk := ok_empty FEk GRw
    have GFk := ok_first FFk GRw
    have GSk := ok_second FSk GRw
    have GIk := ok_if FIk GRq
    have GCk := ok_call FCk GRq GRw
    have GPk := DPk.kn (ok_pk (P := l.prog) (w := w) (base := base) (mg := mg) FPk)
    have Gf : GlF l.prog w K mg base fLk fNk fXk := by
      refine ⟨y_list, ⟨TBR, PySem.W.mg_of X G aBRT, dBRT.s lBRT sBRT⟩, ⟨TKR, _, PySem.W.mg_of X G aKRT, dKRT.s lKRT sKRT, fun wd ks κ m => key_no (fx_kr wd (fx_mem m)), fun wd R m => ?_⟩, ⟨TFK, _, PySem.W.mg_of X G aFKT, dFKT.s lFKT sFKT, fun wd ks κ m => ?_⟩⟩
      · simp only [KR, List.mem_cons, List.not_mem_nil, or_false, Prod.mk.injEq] at m
        rcases m with ⟨rfl, rfl⟩ | ⟨rfl, rfl⟩ | ⟨rfl, rfl⟩ | ⟨rfl, rfl⟩ | ⟨rfl, rfl⟩ | ⟨rfl, rfl⟩ | ⟨rfl, rfl⟩ | ⟨rfl, rfl⟩
        · exact ⟨key_yes (i := 0) (by decide +kernel) (by show 0 < 8; decide), fCn, dat_zip (i := 0) (by decide +kernel) rfl, DCn.at GCn⟩
        · exact ⟨key_yes (i := 1) (by decide +kernel) (by show 1 < 8; decide), fHk, dat_zip (i := 1) (by decide +kernel) rfl, DHk.at GHk⟩
        · exact ⟨key_yes (i := 2) (by decide +kernel) (by show 2 < 8; decide), fTk, dat_zip (i := 2) (by decide +kernel) rfl, DTk.at GTk⟩
        · exact ⟨key_yes (i := 3) (by decide +kernel) (by show 3 < 8; decide), fEk, dat_zip (i := 3) (by decide +kernel) rfl, DEk.at GEk⟩
        · exact ⟨key_yes (i := 4) (by decide +kernel) (by show 4 < 8; decide), fFk, dat_zip (i := 4) (by decide +kernel) rfl, DFk.at GFk⟩
        · exact ⟨key_yes (i := 5) (by decide +kernel) (by show 5 < 8; decide), fSk, dat_zip (i := 5) (by decide +kernel) rfl, DSk.at GSk⟩
        · exact ⟨key_yes (i := 6) (by decide +kernel) (by show 6 < 8; decide), fIk, dat_zip (i := 6) (by decide +kernel) rfl, DIk.at GIk⟩
        · exact ⟨key_yes (i := 7) (by decide +kernel) (by show 7 < 8; decide), fCk, dat_zip (i := 7) (by decide +kernel) rfl, DCk.at GCk⟩
      · simp only [FX, List.mem_cons, List.not_mem_nil, or_false, Prod.mk.injEq] at m
        rcases m with ⟨rfl, rfl, rfl⟩ | ⟨rfl, rfl, rfl⟩ | ⟨rfl, rfl, rfl⟩ | ⟨rfl, rfl, rfl⟩ | ⟨rfl, rfl, rfl⟩ | ⟨rfl, rfl, rfl⟩ | ⟨rfl, rfl, rfl⟩ | ⟨rfl, rfl, rfl⟩ | ⟨rfl, rfl, rfl⟩ | ⟨rfl, rfl, rfl⟩ | ⟨rfl, rfl, rfl⟩ | ⟨rfl, rfl, rfl⟩
        · exact ⟨_, dat_zip (i := 0) (by decide +kernel) rfl, (tpFK0.s lpFK0 (by decide))⟩
        · exact ⟨_, dat_zip (i := 1) (by decide +kernel) rfl, (tpFK1.s lpFK1 (by decide))⟩
        · exact ⟨_, dat_zip (i := 2) (by decide +kernel) rfl, (tpFK2.s lpFK2 (by decide))⟩
        · exact ⟨_, dat_zip (i := 3) (by decide +kernel) rfl, (tpFK3.s lpFK3 (by decide))⟩
        · exact ⟨_, dat_zip (i := 4) (by decide +kernel) rfl, (tpFK4.s lpFK4 (by decide))⟩
        · exact ⟨_, dat_zip (i := 5) (by decide +kernel) rfl, (tpFK5.s lpFK5 (by decide))⟩
        · exact ⟨_, dat_zip (i := 6) (by decide +kernel) rfl, (tpFK6.s lpFK6 (by decide))⟩
        · exact ⟨_, dat_zip (i := 7) (by decide +kernel) rfl, (tpFK7.s lpFK7 (by decide))⟩
        · exact ⟨_, dat_zip (i := 8) (by decide +kernel) rfl, (tpFK8.s lpFK8 (by decide))⟩
        · exact ⟨_, dat_zip (i := 9) (by decide +kernel) rfl, (tpFK9.s lpFK9 (by decide))⟩
        · exact ⟨_, dat_zip (i := 10) (by decide +kernel) rfl, (tpFK10.s lpFK10 (by decide))⟩
        · exact ⟨_, dat_zip (i := 11) (by decide +kernel) rfl, (tpFK11.s lpFK11 (by decide))⟩
    have GFt := fit_all DFt DLk DNk DXk Gf GVb GRq GLu GPk GWn 70
    have GKo := DKo.kn (ok_ko FKo GFt)
    have GOn := on_all DOn Go GVb GNb
    have GAi := DAi.kn (ok_ai (P := l.prog) (w := w) (base := base) (mg := mg) FAi)
    have GVc := DVc.kn (ok_val FVc GLu)
    have GCo := code_all DCo DOp DCc DIc DLc DFc Gc (PySem.W.mg_of X G aPCT) (dPCT.s lPCT sPCT) GVb GNb GLu GWn GAi GVc GOn 70
    have GCm := DCm.kn (ok_cm FCm GKo GCo)
    have GKt := kt_all (P := l.prog) (w := w) (base := base) DKt Gs 40
    have GUt := lkt_all (P := l.prog) (w := w) (base := base) DUt Gs 40
    have GCe := DCe.kn (ok_cell (P := l.prog) (w := w) (base := base) FCe Gl')
    have GDr := DDr.kn (ok_drawn (P := l.prog) (w := w) (base := base) (mg := mg) FDr)
    have GNu := DNu.kn (ok_num (P := l.prog) (w := w) (base := base) (mg := mg) FNu)
    have GBd := DBd.kn (ok_bd (P := l.prog) (w := w) (base := base) (mg := mg) FBd)
    have GLq := lk_all (P := l.prog) (w := w) (base := base) DLq
    have GLf := lf_all DLf Gl' GBd GNu 41
    have GPa := part_all DPa DTw DOf DLp Gl' Gs GCe GDr GLf (GLq 2) 5
    have GAr := DAr.kn (ok_ar (P := l.prog) (w := w) (base := base) (mg := mg) FAr)
    exact ok_law FLw Gl' Gs y_list GCe GDr (GLq 4) GPa GKo GKt GUt GAr GCm
theorem noneE {P : Program} {w : World} {outer : List Env} {H : Hp} {s : Shared} {e : Value} {s' : Shared} (z : CXE P w outer H s (fun _ _ _ => False) e s') : False := by
  obtain ⟨_, _, _, _, _, _, _, _, _, _, _, _, _, _, _, _, y⟩ := z
  exact y
theorem walk {l : PySem.W.OpenLaw} {q : Program} {loose : List Str} {XP : (Str → Option Value) → Heap → Prop} {YP : World → Heap → Prop} {d : DefRec} {K : Params → PySem.W.Frag} (hn : l.most = some 63) (hdf : d.params.defaults = [])
    (hY : ∀ (w : World) (h : Heap), YP w h → (K w.params).In h)
    (F : ∀ (w : World) (mg : Str → Option Value) (fa : Addr) (h : Heap), (K w.params).In h → h.Ns mainGlobals mg → mg d.name = some (.ref fa) →
      ∃ fd : FuncData, (∀ (s : Shared) (u : Value), BindsTo s fd ⟨[u], []⟩ [("_law_script", u)]) ∧ ∀ base : Heap, (K w.params).In base → base.Ns mainGlobals mg → FnOk l.prog w (K w.params) mg base (CXE l.prog w) 216 fa fd ["_law_script"] (spLaw (K w.params))) :
    PySem.W.WalkO q loose XP YP l.row.toRowW d [] (fun f vs => PySem.call f vs) :=
  L2.walk_of (n := 63) (k := 216) (x := "_law_script") (CX := fun w => CXE l.prog w) (sp := fun w => spLaw (K w.params)) hn (by decide) hdf ⟨rfl, by decide, by decide⟩ hY F (fun _ _ a ns hl _ hS => ⟨a, ns, rfl, hS, hl, fun _ => rfl⟩) fun _ _ _ _ _ z => noneE z
end K13
open PySem PySem.W PyProof.Rows
set_option maxRecDepth 100000 in
set_option maxHeartbeats 0 in
theorem PySem.Challenge.cw_plainspeak_k13_whole_kinds_told_holds : PySem.Challenge.rw_plainspeak_k13_whole_kinds_told.Holds := by
  w_on; o_law; k_head; (case hw => w_witness2)
  k_fill
  refine K13.walk (l := PySem.Challenge.rw_plainspeak_k13_whole_kinds_told) rfl rfl (fun w h Y => PySem.W.kIn_of Y) ?F
  case F =>
    intro w mg fa h KX G hmg
    refine' K13.all_mk KX G hmg ?aVb ?lVb ?nVb' ?cVb ?kVb ?aWn ?lWn ?nWn' ?cWn ?kWn ?aLu ?lLu ?nLu' ?cLu ?kLu ?aNb ?lNb ?nNb' ?cNb ?kNb ?aOn ?lOn ?nOn' ?cOn ?kOn ?aKo ?lKo ?nKo' ?cKo ?kKo ?aRq ?lRq ?nRq' ?cRq ?kRq ?aRw ?lRw ?nRw' ?cRw ?kRw ?aCn ?lCn ?nCn' ?cCn ?kCn ?aHk ?lHk ?nHk' ?cHk ?kHk ?aTk ?lTk ?nTk' ?cTk ?kTk ?aEk ?lEk ?nEk' ?cEk ?kEk ?aFk ?lFk ?nFk' ?cFk ?kFk ?aSk ?lSk ?nSk' ?cSk ?kSk ?aIk ?lIk ?nIk' ?cIk ?kIk ?aCk ?lCk ?nCk' ?cCk ?kCk ?aLk ?lLk ?nLk' ?cLk ?kLk ?aNk ?lNk ?nNk' ?cNk ?kNk ?aXk ?lXk ?nXk' ?cXk ?kXk ?aPk ?lPk ?nPk' ?cPk ?kPk ?aFt ?lFt ?nFt' ?cFt ?kFt ?aCm ?lCm ?nCm' ?cCm ?kCm ?aOp ?lOp ?nOp' ?cOp ?kOp ?aCc ?lCc ?nCc' ?cCc ?kCc ?aAi ?lAi ?nAi' ?cAi ?kAi ?aIc ?lIc ?nIc' ?cIc ?kIc ?aLc ?lLc ?nLc' ?cLc ?kLc ?aFc ?lFc ?nFc' ?cFc ?kFc ?aVc ?lVc ?nVc' ?cVc ?kVc ?aCo ?lCo ?nCo' ?cCo ?kCo ?aKt ?lKt ?nKt' ?cKt ?kKt ?aCe ?lCe ?nCe' ?cCe ?kCe ?aDr ?lDr ?nDr' ?cDr ?kDr ?aLq ?lLq ?nLq' ?cLq ?kLq ?aNu ?lNu ?nNu' ?cNu ?kNu ?aLf ?lLf ?nLf' ?cLf ?kLf ?aBd ?lBd ?nBd' ?cBd ?kBd ?aTw ?lTw ?nTw' ?cTw ?kTw ?aOf ?lOf ?nOf' ?cOf ?kOf ?aLp ?lLp ?nLp' ?cLp ?kLp ?aPa ?lPa ?nPa' ?cPa ?kPa ?aUt ?lUt ?nUt' ?cUt ?kUt ?aAr ?lAr ?nAr' ?cAr ?kAr ?aLw ?lLw ?nLw' ?cLw ?kLw ?aPST ?lPST ?dPST ?sPST ?lpPS0 ?tpPS0 ?lpPS1 ?tpPS1 ?lpPS2 ?tpPS2 ?lpPS3 ?tpPS3 ?lpPS4 ?tpPS4 ?lpPS5 ?tpPS5 ?lpPS6 ?tpPS6 ?lpPS7 ?tpPS7 ?lpPS8 ?tpPS8 ?lpPS9 ?tpPS9 ?lpPS10 ?tpPS10 ?lpPS11 ?tpPS11 ?lpPS12 ?tpPS12 ?lpPS13 ?tpPS13 ?lpPS14 ?tpPS14 ?lpPS15 ?tpPS15 ?lpPS16 ?tpPS16 ?lpPS17 ?tpPS17 ?lpPS18 ?tpPS18 ?lpPS19 ?tpPS19 ?lpPS20 ?tpPS20 ?lpPS21 ?tpPS21 ?lpPS22 ?tpPS22 ?aBRT ?lBRT ?dBRT ?sBRT ?aKRT ?lKRT ?dKRT ?sKRT ?aFKT ?lFKT ?dFKT ?sFKT ?lpFK0 ?tpFK0 ?lpFK1 ?tpFK1 ?lpFK2 ?tpFK2 ?lpFK3 ?tpFK3 ?lpFK4 ?tpFK4 ?lpFK5 ?tpFK5 ?lpFK6 ?tpFK6 ?lpFK7 ?tpFK7 ?lpFK8 ?tpFK8 ?lpFK9 ?tpFK9 ?lpFK10 ?tpFK10 ?lpFK11 ?tpFK11 ?aPCT ?lPCT ?dPCT ?sPCT ?z_zip ?z_dict ?z_isinstance ?z_tuple ?z_list ?z_enumerate ?z_len ?z_str ?z_int ?z_max ?z_min ?z_range
    (case aVb => k_is)
    (case lVb => k_is)
    (case nVb' => exact ⟨_, _, _, _, _, _, _, _, rfl, rfl⟩)
    (case cVb => k_is)
    (case kVb => k_is)
    (case aWn => k_is)
    (case lWn => k_is)
    (case nWn' => exact ⟨_, _, _, _, _, _, _, _, rfl, rfl⟩)
    (case cWn => k_is)
    (case kWn => k_is)
    (case aLu => k_is)
    (case lLu => k_is)
    (case nLu' => exact ⟨_, _, _, _, _, _, _, _, rfl, rfl⟩)
    (case cLu => k_is)
    (case kLu => k_is)
    (case aNb => k_is)
    (case lNb => k_is)
    (case nNb' => exact ⟨_, _, _, _, _, _, _, _, rfl, rfl⟩)
    (case cNb => k_is)
    (case kNb => k_is)
    (case aOn => k_is)
    (case lOn => k_is)
    (case nOn' => exact ⟨_, _, _, _, _, _, _, _, rfl, rfl⟩)
    (case cOn => k_is)
    (case kOn => k_is)
    (case aKo => k_is)
    (case lKo => k_is)
    (case nKo' => exact ⟨_, _, _, _, _, _, _, _, rfl, rfl⟩)
    (case cKo => k_is)
    (case kKo => k_is)
    (case aRq => k_is)
    (case lRq => k_is)
    (case nRq' => exact ⟨_, _, _, _, _, _, _, _, rfl, rfl⟩)
    (case cRq => k_is)
    (case kRq => k_is)
    (case aRw => k_is)
    (case lRw => k_is)
    (case nRw' => exact ⟨_, _, _, _, _, _, _, _, rfl, rfl⟩)
    (case cRw => k_is)
    (case kRw => k_is)
    (case aCn => k_is)
    (case lCn => k_is)
    (case nCn' => exact ⟨_, _, _, _, _, _, _, _, rfl, rfl⟩)
    (case cCn => k_is)
    (case kCn => k_is)
    (case aHk => k_is)
    (case lHk => k_is)
    (case nHk' => exact ⟨_, _, _, _, _, _, _, _, rfl, rfl⟩)
    (case cHk => k_is)
    (case kHk => k_is)
    (case aTk => k_is)
    (case lTk => k_is)
    (case nTk' => exact ⟨_, _, _, _, _, _, _, _, rfl, rfl⟩)
    (case cTk => k_is)
    (case kTk => k_is)
    (case aEk => k_is)
    (case lEk => k_is)
    (case nEk' => exact ⟨_, _, _, _, _, _, _, _, rfl, rfl⟩)
    (case cEk => k_is)
    (case kEk => k_is)
    (case aFk => k_is)
    (case lFk => k_is)
    (case nFk' => exact ⟨_, _, _, _, _, _, _, _, rfl, rfl⟩)
    (case cFk => k_is)
    (case kFk => k_is)
    (case aSk => k_is)
    (case lSk => k_is)
    (case nSk' => exact ⟨_, _, _, _, _, _, _, _, rfl, rfl⟩)
    (case cSk => k_is)
    (case kSk => k_is)
    (case aIk => k_is)
    (case lIk => k_is)
    (case nIk' => exact ⟨_, _, _, _, _, _, _, _, rfl, rfl⟩)
    (case cIk => k_is)
    (case kIk => k_is)
    (case aCk => k_is)
    (case lCk => k_is)
    (case nCk' => exact ⟨_, _, _, _, _, _, _, _, rfl, rfl⟩)
    (case cCk => k_is)
    (case kCk => k_is)
    (case aLk => k_is)
    (case lLk => k_is)
    (case nLk' => exact ⟨_, _, _, _, _, _, _, _, rfl, rfl⟩)
    (case cLk => k_is)
    (case kLk => k_is)
    (case aNk => k_is)
    (case lNk => k_is)
    (case nNk' => exact ⟨_, _, _, _, _, _, _, _, rfl, rfl⟩)
    (case cNk => k_is)
    (case kNk => k_is)
    (case aXk => k_is)
    (case lXk => k_is)
    (case nXk' => exact ⟨_, _, _, _, _, _, _, _, rfl, rfl⟩)
    (case cXk => k_is)
    (case kXk => k_is)
    (case aPk => k_is)
    (case lPk => k_is)
    (case nPk' => exact ⟨_, _, _, _, _, _, _, _, rfl, rfl⟩)
    (case cPk => k_is)
    (case kPk => k_is)
    (case aFt => k_is)
    (case lFt => k_is)
    (case nFt' => exact ⟨_, _, _, _, _, _, _, _, rfl, rfl⟩)
    (case cFt => k_is)
    (case kFt => k_is)
    (case aCm => k_is)
    (case lCm => k_is)
    (case nCm' => exact ⟨_, _, _, _, _, _, _, _, rfl, rfl⟩)
    (case cCm => k_is)
    (case kCm => k_is)
    (case aOp => k_is)
    (case lOp => k_is)
    (case nOp' => exact ⟨_, _, _, _, _, _, _, _, rfl, rfl⟩)
    (case cOp => k_is)
    (case kOp => k_is)
    (case aCc => k_is)
    (case lCc => k_is)
    (case nCc' => exact ⟨_, _, _, _, _, _, _, _, rfl, rfl⟩)
    (case cCc => k_is)
    (case kCc => k_is)
    (case aAi => k_is)
    (case lAi => k_is)
    (case nAi' => exact ⟨_, _, _, _, _, _, _, _, rfl, rfl⟩)
    (case cAi => k_is)
    (case kAi => k_is)
    (case aIc => k_is)
    (case lIc => k_is)
    (case nIc' => exact ⟨_, _, _, _, _, _, _, _, rfl, rfl⟩)
    (case cIc => k_is)
    (case kIc => k_is)
    (case aLc => k_is)
    (case lLc => k_is)
    (case nLc' => exact ⟨_, _, _, _, _, _, _, _, rfl, rfl⟩)
    (case cLc => k_is)
    (case kLc => k_is)
    (case aFc => k_is)
    (case lFc => k_is)
    (case nFc' => exact ⟨_, _, _, _, _, _, _, _, rfl, rfl⟩)
    (case cFc => k_is)
    (case kFc => k_is)
    (case aVc => k_is)
    (case lVc => k_is)
    (case nVc' => exact ⟨_, _, _, _, _, _, _, _, rfl, rfl⟩)
    (case cVc => k_is)
    (case kVc => k_is)
    (case aCo => k_is)
    (case lCo => k_is)
    (case nCo' => exact ⟨_, _, _, _, _, _, _, _, rfl, rfl⟩)
    (case cCo => k_is)
    (case kCo => k_is)
    (case aKt => k_is)
    (case lKt => k_is)
    (case nKt' => exact ⟨_, _, _, _, _, _, _, _, rfl, rfl⟩)
    (case cKt => k_is)
    (case kKt => k_is)
    (case aCe => k_is)
    (case lCe => k_is)
    (case nCe' => exact ⟨_, _, _, _, _, _, _, _, rfl, rfl⟩)
    (case cCe => k_is)
    (case kCe => k_is)
    (case aDr => k_is)
    (case lDr => k_is)
    (case nDr' => exact ⟨_, _, _, _, _, _, _, _, rfl, rfl⟩)
    (case cDr => k_is)
    (case kDr => k_is)
    (case aLq => k_is)
    (case lLq => k_is)
    (case nLq' => exact ⟨_, _, _, _, _, _, _, _, rfl, rfl⟩)
    (case cLq => k_is)
    (case kLq => k_is)
    (case aNu => k_is)
    (case lNu => k_is)
    (case nNu' => exact ⟨_, _, _, _, _, _, _, _, rfl, rfl⟩)
    (case cNu => k_is)
    (case kNu => k_is)
    (case aLf => k_is)
    (case lLf => k_is)
    (case nLf' => exact ⟨_, _, _, _, _, _, _, _, rfl, rfl⟩)
    (case cLf => k_is)
    (case kLf => k_is)
    (case aBd => k_is)
    (case lBd => k_is)
    (case nBd' => exact ⟨_, _, _, _, _, _, _, _, rfl, rfl⟩)
    (case cBd => k_is)
    (case kBd => k_is)
    (case aTw => k_is)
    (case lTw => k_is)
    (case nTw' => exact ⟨_, _, _, _, _, _, _, _, rfl, rfl⟩)
    (case cTw => k_is)
    (case kTw => k_is)
    (case aOf => k_is)
    (case lOf => k_is)
    (case nOf' => exact ⟨_, _, _, _, _, _, _, _, rfl, rfl⟩)
    (case cOf => k_is)
    (case kOf => k_is)
    (case aLp => k_is)
    (case lLp => k_is)
    (case nLp' => exact ⟨_, _, _, _, _, _, _, _, rfl, rfl⟩)
    (case cLp => k_is)
    (case kLp => k_is)
    (case aPa => k_is)
    (case lPa => k_is)
    (case nPa' => exact ⟨_, _, _, _, _, _, _, _, rfl, rfl⟩)
    (case cPa => k_is)
    (case kPa => k_is)
    (case aUt => k_is)
    (case lUt => k_is)
    (case nUt' => exact ⟨_, _, _, _, _, _, _, _, rfl, rfl⟩)
    (case cUt => k_is)
    (case kUt => k_is)
    (case aAr => k_is)
    (case lAr => k_is)
    (case nAr' => exact ⟨_, _, _, _, _, _, _, _, rfl, rfl⟩)
    (case cAr => k_is)
    (case kAr => k_is)
    (case aLw => k_is)
    (case lLw => k_is)
    (case nLw' => exact ⟨_, _, _, _, _, _, _, _, rfl, rfl⟩)
    (case cLw => k_is)
    (case kLw => k_is)
    (case aPST => k_is)
    (case lPST => k_is)
    (case dPST => exact ⟨⟨rfl, rfl, rfl⟩, _, _, rfl, .cons rfl rfl (.cons rfl rfl (.cons rfl rfl (.cons rfl rfl (.cons rfl rfl (.cons rfl rfl (.cons rfl rfl (.cons rfl rfl (.cons rfl rfl (.cons rfl rfl (.cons rfl rfl (.cons rfl rfl (.cons rfl rfl (.cons rfl rfl (.cons rfl rfl (.cons rfl rfl (.cons rfl rfl (.cons rfl rfl (.cons rfl rfl (.cons rfl rfl (.cons rfl rfl (.cons rfl rfl (.cons rfl rfl .nil))))))))))))))))))))))⟩)
    (case sPST => decide)
    (case lpPS0 => k_is)
    (case tpPS0 => exact ⟨rfl, _, _, rfl, .cons ⟨_, rfl⟩ .nil⟩)
    (case lpPS1 => k_is)
    (case tpPS1 => exact ⟨rfl, _, _, rfl, .cons ⟨_, rfl⟩ (.cons ⟨_, rfl⟩ .nil)⟩)
    (case lpPS2 => k_is)
    (case tpPS2 => exact ⟨rfl, _, _, rfl, .cons ⟨_, rfl⟩ .nil⟩)
    (case lpPS3 => k_is)
    (case tpPS3 => exact ⟨rfl, _, _, rfl, .cons ⟨_, rfl⟩ .nil⟩)
    (case lpPS4 => k_is)
    (case tpPS4 => exact ⟨rfl, _, _, rfl, .cons ⟨_, rfl⟩ .nil⟩)
    (case lpPS5 => k_is)
    (case tpPS5 => exact ⟨rfl, _, _, rfl, .cons ⟨_, rfl⟩ (.cons ⟨_, rfl⟩ .nil)⟩)
    (case lpPS6 => k_is)
    (case tpPS6 => exact ⟨rfl, _, _, rfl, .cons ⟨_, rfl⟩ .nil⟩)
    (case lpPS7 => k_is)
    (case tpPS7 => exact ⟨rfl, _, _, rfl, .cons ⟨_, rfl⟩ .nil⟩)
    (case lpPS8 => k_is)
    (case tpPS8 => exact ⟨rfl, _, _, rfl, .cons ⟨_, rfl⟩ (.cons ⟨_, rfl⟩ (.cons ⟨_, rfl⟩ .nil))⟩)
    (case lpPS9 => k_is)
    (case tpPS9 => exact ⟨rfl, _, _, rfl, .cons ⟨_, rfl⟩ (.cons ⟨_, rfl⟩ (.cons ⟨_, rfl⟩ .nil))⟩)
    (case lpPS10 => k_is)
    (case tpPS10 => exact ⟨rfl, _, _, rfl, .cons ⟨_, rfl⟩ (.cons ⟨_, rfl⟩ (.cons ⟨_, rfl⟩ .nil))⟩)
    (case lpPS11 => k_is)
    (case tpPS11 => exact ⟨rfl, _, _, rfl, .cons ⟨_, rfl⟩ (.cons ⟨_, rfl⟩ (.cons ⟨_, rfl⟩ (.cons ⟨_, rfl⟩ (.cons ⟨_, rfl⟩ .nil))))⟩)
    (case lpPS12 => k_is)
    (case tpPS12 => exact ⟨rfl, _, _, rfl, .cons ⟨_, rfl⟩ (.cons ⟨_, rfl⟩ .nil)⟩)
    (case lpPS13 => k_is)
    (case tpPS13 => exact ⟨rfl, _, _, rfl, .cons ⟨_, rfl⟩ (.cons ⟨_, rfl⟩ .nil)⟩)
    (case lpPS14 => k_is)
    (case tpPS14 => exact ⟨rfl, _, _, rfl, .cons ⟨_, rfl⟩ (.cons ⟨_, rfl⟩ .nil)⟩)
    (case lpPS15 => k_is)
    (case tpPS15 => exact ⟨rfl, _, _, rfl, .cons ⟨_, rfl⟩ (.cons ⟨_, rfl⟩ .nil)⟩)
    (case lpPS16 => k_is)
    (case tpPS16 => exact ⟨rfl, _, _, rfl, .cons ⟨_, rfl⟩ (.cons ⟨_, rfl⟩ .nil)⟩)
    (case lpPS17 => k_is)
    (case tpPS17 => exact ⟨rfl, _, _, rfl, .cons ⟨_, rfl⟩ (.cons ⟨_, rfl⟩ .nil)⟩)
    (case lpPS18 => k_is)
    (case tpPS18 => exact ⟨rfl, _, _, rfl, .cons ⟨_, rfl⟩ (.cons ⟨_, rfl⟩ .nil)⟩)
    (case lpPS19 => k_is)
    (case tpPS19 => exact ⟨rfl, _, _, rfl, .cons ⟨_, rfl⟩ (.cons ⟨_, rfl⟩ .nil)⟩)
    (case lpPS20 => k_is)
    (case tpPS20 => exact ⟨rfl, _, _, rfl, .cons ⟨_, rfl⟩ (.cons ⟨_, rfl⟩ .nil)⟩)
    (case lpPS21 => k_is)
    (case tpPS21 => exact ⟨rfl, _, _, rfl, .cons ⟨_, rfl⟩ (.cons ⟨_, rfl⟩ .nil)⟩)
    (case lpPS22 => k_is)
    (case tpPS22 => exact ⟨rfl, _, _, rfl, .cons ⟨_, rfl⟩ .nil⟩)
    (case aBRT => k_is)
    (case lBRT => k_is)
    (case dBRT => exact ⟨⟨rfl, rfl, rfl⟩, _, _, rfl, .cons rfl rfl (.cons rfl rfl (.cons rfl rfl .nil))⟩)
    (case sBRT => decide)
    (case aKRT => k_is)
    (case lKRT => k_is)
    (case dKRT => exact ⟨⟨rfl, rfl, rfl⟩, _, _, rfl, .cons rfl rfl (.cons rfl rfl (.cons rfl rfl (.cons rfl rfl (.cons rfl rfl (.cons rfl rfl (.cons rfl rfl (.cons rfl rfl .nil)))))))⟩)
    (case sKRT => decide)
    (case aFKT => k_is)
    (case lFKT => k_is)
    (case dFKT => exact ⟨⟨rfl, rfl, rfl⟩, _, _, rfl, .cons rfl rfl (.cons rfl rfl (.cons rfl rfl (.cons rfl rfl (.cons rfl rfl (.cons rfl rfl (.cons rfl rfl (.cons rfl rfl (.cons rfl rfl (.cons rfl rfl (.cons rfl rfl (.cons rfl rfl .nil)))))))))))⟩)
    (case sFKT => decide)
    (case lpFK0 => k_is)
    (case tpFK0 => exact ⟨rfl, _, _, rfl, .cons ⟨_, rfl⟩ .nil⟩)
    (case lpFK1 => k_is)
    (case tpFK1 => exact ⟨rfl, _, _, rfl, .cons ⟨_, rfl⟩ .nil⟩)
    (case lpFK2 => k_is)
    (case tpFK2 => exact ⟨rfl, _, _, rfl, .cons ⟨_, rfl⟩ (.cons ⟨_, rfl⟩ (.cons ⟨_, rfl⟩ .nil))⟩)
    (case lpFK3 => k_is)
    (case tpFK3 => exact ⟨rfl, _, _, rfl, .cons ⟨_, rfl⟩ (.cons ⟨_, rfl⟩ (.cons ⟨_, rfl⟩ .nil))⟩)
    (case lpFK4 => k_is)
    (case tpFK4 => exact ⟨rfl, _, _, rfl, .cons ⟨_, rfl⟩ (.cons ⟨_, rfl⟩ (.cons ⟨_, rfl⟩ .nil))⟩)
    (case lpFK5 => k_is)
    (case tpFK5 => exact ⟨rfl, _, _, rfl, .cons ⟨_, rfl⟩ (.cons ⟨_, rfl⟩ (.cons ⟨_, rfl⟩ .nil))⟩)
    (case lpFK6 => k_is)
    (case tpFK6 => exact ⟨rfl, _, _, rfl, .cons ⟨_, rfl⟩ (.cons ⟨_, rfl⟩ (.cons ⟨_, rfl⟩ .nil))⟩)
    (case lpFK7 => k_is)
    (case tpFK7 => exact ⟨rfl, _, _, rfl, .cons ⟨_, rfl⟩ (.cons ⟨_, rfl⟩ (.cons ⟨_, rfl⟩ .nil))⟩)
    (case lpFK8 => k_is)
    (case tpFK8 => exact ⟨rfl, _, _, rfl, .cons ⟨_, rfl⟩ (.cons ⟨_, rfl⟩ (.cons ⟨_, rfl⟩ .nil))⟩)
    (case lpFK9 => k_is)
    (case tpFK9 => exact ⟨rfl, _, _, rfl, .cons ⟨_, rfl⟩ (.cons ⟨_, rfl⟩ (.cons ⟨_, rfl⟩ .nil))⟩)
    (case lpFK10 => k_is)
    (case tpFK10 => exact ⟨rfl, _, _, rfl, .cons ⟨_, rfl⟩ (.cons ⟨_, rfl⟩ (.cons ⟨_, rfl⟩ .nil))⟩)
    (case lpFK11 => k_is)
    (case tpFK11 => exact ⟨rfl, _, _, rfl, .cons ⟨_, rfl⟩ (.cons ⟨_, rfl⟩ .nil)⟩)
    (case aPCT => k_is)
    (case lPCT => k_is)
    (case dPCT => exact ⟨⟨rfl, rfl, rfl⟩, _, _, rfl, .cons rfl rfl (.cons rfl rfl (.cons rfl rfl (.cons rfl rfl (.cons rfl rfl .nil))))⟩)
    (case sPCT => decide)
    (case z_zip => k_is)
    (case z_dict => k_is)
    (case z_isinstance => k_is)
    (case z_tuple => k_is)
    (case z_list => k_is)
    (case z_enumerate => k_is)
    (case z_len => k_is)
    (case z_str => k_is)
    (case z_int => k_is)
    (case z_max => k_is)
    (case z_min => k_is)
    (case z_range => k_is)
