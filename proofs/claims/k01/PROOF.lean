import PyProof.Rows.All
import Wide.All
import OpenK.AllK
import Wide.FinOn
import HandS.ForMost
import HandS.Lambda
import HandS.ForExc
import HandS.ExcOwn
import HandS.TupAny
import HandS.Style
import HandS.Deep
import HandS.IsInst
import HandS.Zip
import HandS.More
import HandS.SortInts
import HandS.WideBits
import KE.SortData
import PyProof.ReprRoads
import HandS.ExcInit
import HandS.ExcField
import HandS.ExcIs
import HandS.TryMany
import KE.KRevSl
import PyProof.CallFns
import KE.KExcInit
import HandS.Defaults
import HandS.Head0
import HandS.Head1
import HandS.Head2
import HandS.HeadEnd
import HandS.HeadHook1
import HandS.HeadHook2
import HandS.TupLe
import HandS.HeadHook4
import HandS.EndBits
import KE.GoesEnum
import HandS.SortOrd
import HandS.List
import KE.KSortAsk
import KE.KSortTup
import HandS.NamedTupSort
import HandS.TupSets
import HandS.SortRule
import HandS.SetFor
import HandS.Strs
import HandS.Conv
import PyProof.ListCopy
import KE.OsArith
import KE.BitLaws
import PyProof.ReprLen
import KE.KStateDown
import PySem.Challenge.RW_turnsall_k01_whole_lowers
set_option Elab.async false
set_option linter.all false
set_option autoImplicit false
set_option maxRecDepth 100000
set_option maxHeartbeats 2000000
/-! Mp1: data over a store of cells; how they lie in the abstract heap. -/
namespace MP
open PySem PySem.Spec PyProof.Rows L2

/-- a value over a store: tuples by what is in them, read-only lists likewise, what changes by its place in the store -/
inductive D where
  | non
  | bl (b : Bool)
  | int (i : Int)
  | str (x : Str)
  | tup (xs : List D)
  | rol (xs : List D)
  | ref (n : Nat)
instance : Inhabited D := ⟨.non⟩
inductive Cell where
  | lst (xs : List D)
  | dct (kvs : List (Key × D))
abbrev Store := List Cell
abbrev Env := List (Option D)
abbrev Phi := List Addr

/-- a list that stands outside of the store -/
def RoL (K : PySem.W.Frag) (H : Hp) (a : Addr) (xs : List V) : Prop :=
  (∃ o, H a = some (.frz o (.lst xs))) ∨
    ∃ (o : Obj) (its : Array Value) (n : Nat), K.lookup a = some o ∧ o.cls = .type "list" ∧ o.dict = none ∧ o.data = .seq its n ∧ its.size ≤ sizeLine ∧ Vals xs its.toList
theorem RoL.sq {K : PySem.W.Frag} {H : Hp} {a : Addr} {xs : List V} (h : RoL K H a xs) : SqL K H a xs := by
  rcases h with ⟨o, h⟩ | h
  · exact .inl (.inr ⟨o, h⟩)
  · exact .inr h

mutual
def Rep (K : PySem.W.Frag) (φ : Phi) (H : Hp) : D → V → Prop
  | .non, v => v = .non
  | .bl b, v => v = .bl b
  | .int i, v => v = .int i
  | .str x, v => v = .str x
  | .tup ds, v => ∃ a vs, v = .ref a ∧ SqT K H a vs ∧ RepAll K φ H ds vs
  | .rol ds, v => ∃ a vs, v = .ref a ∧ RoL K H a vs ∧ RepAll K φ H ds vs
  | .ref n, v => ∃ a, v = .ref a ∧ φ[n]? = some a
def RepAll (K : PySem.W.Frag) (φ : Phi) (H : Hp) : List D → List V → Prop
  | [], vs => vs = []
  | d :: ds, vs => ∃ v r, vs = v :: r ∧ Rep K φ H d v ∧ RepAll K φ H ds r
end
def RepKV (K : PySem.W.Frag) (φ : Phi) (H : Hp) (kvs : List (Key × D)) (ws : List (Key × V)) : Prop := Paired (fun (p : Key × D) (q : Key × V) => p.1 = q.1 ∧ Rep K φ H p.2 q.2) kvs ws
def CellOk (K : PySem.W.Frag) (φ : Phi) (H : Hp) (a : Addr) : Cell → Prop
  | .lst ds => ∃ vs, H a = some (.lst vs) ∧ RepAll K φ H ds vs
  | .dct kvs => ∃ ws, H a = some (.dK ws) ∧ RepKV K φ H kvs ws
/-- a list or a dict; one of these, or a table of code objects -/
def Cel : Option HO → Prop
  | some (.lst _) => True
  | some (.dK _) => True
  | _ => False
def MutT : Option HO → Prop
  | some (.lst _) => True
  | some (.dK _) => True
  | some (.tbl _) => True
  | _ => False
/-- the tables of the defs that make lambdas: each with the name that the lambdas bear -/
def codeTab (K : PySem.W.Frag) (c : Addr) : Option Addr := match K.lookup c with
  | some ⟨_, _, .fields vs, _⟩ => (match (vs[11]? : Option Value) with
    | some (.ref P) => some P
    | _ => none)
  | _ => none
def defTab (K : PySem.W.Frag) (o : Obj) : Option (Addr × Str) := match o.data with
  | .func fd => (match fd.code with
    | .ref c => (codeTab K c).map fun P => (P, fd.qualname ++ ".<locals>." ++ "<lambda>")
    | _ => none)
  | _ => none
def tabsK (K : PySem.W.Frag) : List (Addr × Str) := K.filterMap fun p => defTab K p.2
abbrev TabsH (K : PySem.W.Frag) (H : Hp) : Prop := LamX.Tabs (tabsK K) H
theorem TabsH.old {K : PySem.W.Frag} {H H' : Hp} (t : TabsH K H) (e : ∀ b o, H b = some o → H' b = some o) : TabsH K H' := fun p hp => (t p hp).ext e
theorem TabsH.upd {K : PySem.W.Frag} {H : Hp} {D : Addr} {o : HO} (t : TabsH K H) (hm : ∀ u, H D = some u → Cel (some u)) : TabsH K (upd H D o) := fun p hp => by
  obtain ⟨ps, h1, h2, h3⟩ := t p hp
  refine ⟨ps, by rw [upd_ne (fun z => by rw [z] at h1; exact hm _ h1)]; exact h1, h2, fun pos cv hc => ?_⟩
  obtain ⟨c, e1, e2⟩ := h3 pos cv hc
  exact ⟨c, e1, by rw [upd_ne (fun z => by rw [z] at e2; exact hm _ e2)]; exact e2⟩
/-- the store lies in the heap at the addresses φ -/
structure RelH (K : PySem.W.Frag) (φ : Phi) (H : Hp) (st : Store) : Prop where
  len : φ.length = st.length
  nd : φ.Nodup
  cell : ∀ (n : Nat) (a : Addr) (c : Cell), φ[n]? = some a → st[n]? = some c → CellOk K φ H a c
  tab : TabsH K H
/-- what comes later: more places, all else as it was -/
structure Ext (φ : Phi) (H : Hp) (φ' : Phi) (H' : Hp) : Prop where
  pre : ∃ t, φ' = φ ++ t ∧ ∀ b ∈ t, H b = none ∧ b ∉ φ
  keep : ∀ b o, H b = some o → b ∉ φ → (∀ ps, o ≠ .tbl ps) → H' b = some o
  tbl : ∀ b ps, H b = some (.tbl ps) → b ∉ φ → ∃ qs, H' b = some (.tbl qs)
section
variable {K : PySem.W.Frag} {φ φ' φ'' : Phi} {H H' H'' : Hp} {st st' : Store}
theorem Ext.refl : Ext φ H φ H := ⟨⟨[], by simp, fun b hb => by simp at hb⟩, fun _ _ h _ _ => h, fun _ ps h _ => ⟨ps, h⟩⟩
theorem Ext.trans (a : Ext φ H φ' H') (b : Ext φ' H' φ'' H'') : Ext φ H φ'' H'' := by
  obtain ⟨t, e, ht⟩ := a.pre
  obtain ⟨t', e', ht'⟩ := b.pre
  have nin : ∀ c o, H c = some o → c ∉ φ → c ∉ φ' := fun c o hc hn hm => by
    rw [e] at hm
    rcases List.mem_append.mp hm with h | h
    · exact hn h
    · rw [(ht c h).1] at hc; cases hc
  refine ⟨⟨t ++ t', by rw [e', e, List.append_assoc], fun c hc => ?_⟩, fun c o hc hn ht => b.keep c o (a.keep c o hc hn ht) (nin c o hc hn) ht, fun c ps hc hn => (a.tbl c ps hc hn).elim fun qs hq => b.tbl c qs hq (nin c _ hc hn)⟩
  rcases List.mem_append.mp hc with h | h
  · exact ht c h
  · obtain ⟨h1, h2⟩ := ht' c h
    have h3 : c ∉ φ := fun hm => h2 (by rw [e]; exact List.mem_append_left _ hm)
    refine ⟨?_, h3⟩
    cases q : H c with
    | none => rfl
    | some o =>
      by_cases z : ∃ ps, o = .tbl ps
      · obtain ⟨ps, rfl⟩ := z
        obtain ⟨qs, hq⟩ := a.tbl c ps q h3
        rw [hq] at h1; cases h1
      · rw [a.keep c o q h3 fun ps hz => z ⟨ps, hz⟩] at h1; cases h1
theorem Ext.at (a : Ext φ H φ' H') {n : Nat} {x : Addr} (h : φ[n]? = some x) : φ'[n]? = some x := by
  obtain ⟨t, e, _⟩ := a.pre
  have hl := (List.getElem?_eq_some_iff.mp h).1
  rw [e, List.getElem?_append_left hl]; exact h
theorem Ext.mem (a : Ext φ H φ' H') {x : Addr} (h : x ∈ φ) : x ∈ φ' := by
  obtain ⟨t, e, _⟩ := a.pre
  rw [e]; exact List.mem_append_left _ h
theorem RelH.some_of (R : RelH K φ H st) {a : Addr} (h : a ∈ φ) : ∃ o, H a = some o ∧ Cel (some o) := by
  obtain ⟨n, hl, hn⟩ := List.mem_iff_getElem.mp h
  have h1 : φ[n]? = some a := by rw [List.getElem?_eq_getElem hl, hn]
  have h2 : n < st.length := by rw [← R.len]; exact hl
  have := R.cell n a st[n] h1 (List.getElem?_eq_getElem h2)
  cases hc : st[n] with
  | lst ds => rw [hc] at this; obtain ⟨vs, h3, _⟩ := this; exact ⟨_, h3, True.intro⟩
  | dct kvs => rw [hc] at this; obtain ⟨vs, h3, _⟩ := this; exact ⟨_, h3, True.intro⟩
/-- what cannot be written stays -/
def Stay (H H' : Hp) : Prop := ∀ a o, H a = some o → ¬ MutT (some o) → H' a = some o
theorem cel_mut {o : Option HO} (h : Cel o) : MutT o := by
  unfold Cel at h
  split at h
  · exact True.intro
  · exact True.intro
  · exact h.elim
theorem Ext.stay (R : RelH K φ H st) (E : Ext φ H φ' H') : Stay H H' := fun a o h n => E.keep a o h (fun hm => by
  obtain ⟨u, h1, h2⟩ := R.some_of hm
  rw [h] at h1; cases h1; exact n (cel_mut h2)) fun ps z => by
  subst z; exact n True.intro
theorem SqT.stay {a : Addr} {vs : List V} (E : Stay H H') (h : SqT K H a vs) : SqT K H' a vs := by
  rcases h with (h | ⟨o, h⟩) | h
  · exact .inl (.inl (E _ _ h fun z => z))
  · exact .inl (.inr ⟨o, E _ _ h fun z => z⟩)
  · exact .inr h
theorem RoL.stay {a : Addr} {vs : List V} (E : Stay H H') (h : RoL K H a vs) : RoL K H' a vs := by
  rcases h with ⟨o, h⟩ | h
  · exact .inl ⟨o, E _ _ h fun z => z⟩
  · exact .inr h
mutual
theorem Rep.go (hp : ∀ (n : Nat) (a : Addr), φ[n]? = some a → φ'[n]? = some a) (E : Stay H H') : ∀ (d : D) {v : V}, Rep K φ H d v → Rep K φ' H' d v
  | .non, _, h => h
  | .bl _, _, h => h
  | .int _, _, h => h
  | .str _, _, h => h
  | .tup ds, _, h => by
    unfold Rep at h ⊢
    obtain ⟨a, vs, e, h1, h2⟩ := h
    exact ⟨a, vs, e, SqT.stay E h1, RepAll.go hp E ds h2⟩
  | .rol ds, _, h => by
    unfold Rep at h ⊢
    obtain ⟨a, vs, e, h1, h2⟩ := h
    exact ⟨a, vs, e, h1.stay E, RepAll.go hp E ds h2⟩
  | .ref n, _, h => by
    unfold Rep at h ⊢
    obtain ⟨a, e, h1⟩ := h
    exact ⟨a, e, hp _ _ h1⟩
theorem RepAll.go (hp : ∀ (n : Nat) (a : Addr), φ[n]? = some a → φ'[n]? = some a) (E : Stay H H') : ∀ (ds : List D) {vs : List V}, RepAll K φ H ds vs → RepAll K φ' H' ds vs
  | [], _, h => h
  | d :: ds, _, h => by
    unfold RepAll at h ⊢
    obtain ⟨v, r, e, h1, h2⟩ := h
    exact ⟨v, r, e, Rep.go hp E d h1, RepAll.go hp E ds h2⟩
end
theorem SqT.ext {a : Addr} {vs : List V} (R : RelH K φ H st) (E : Ext φ H φ' H') (h : SqT K H a vs) : SqT K H' a vs := SqT.stay (E.stay R) h
theorem Rep.ext (R : RelH K φ H st) (E : Ext φ H φ' H') (d : D) {v : V} (h : Rep K φ H d v) : Rep K φ' H' d v := Rep.go (fun _ _ e => E.at e) (E.stay R) d h
theorem RepAll.ext (R : RelH K φ H st) (E : Ext φ H φ' H') (ds : List D) {vs : List V} (h : RepAll K φ H ds vs) : RepAll K φ' H' ds vs := RepAll.go (fun _ _ e => E.at e) (E.stay R) ds h
theorem RepKV.ext (R : RelH K φ H st) (E : Ext φ H φ' H') {kvs : List (Key × D)} {ws : List (Key × V)} (h : RepKV K φ H kvs ws) : RepKV K φ' H' kvs ws :=
  Paired.mapP h fun p q z => ⟨z.1, Rep.ext R E _ z.2⟩
theorem RepAll.length : ∀ {ds : List D} {vs : List V}, RepAll K φ H ds vs → ds.length = vs.length
  | [], _, h => by unfold RepAll at h; simp [h]
  | d :: ds, _, h => by
    unfold RepAll at h
    obtain ⟨v, r, e, h1, h2⟩ := h
    rw [e, List.length_cons, List.length_cons, RepAll.length h2]
theorem RepAll.get : ∀ {ds : List D} {vs : List V} {i : Nat} {d : D}, RepAll K φ H ds vs → ds[i]? = some d → ∃ v, vs[i]? = some v ∧ Rep K φ H d v
  | [], _, _, _, _, e => by simp at e
  | d :: ds, _, 0, _, h, e => by
    unfold RepAll at h
    obtain ⟨v, r, rfl, h1, h2⟩ := h
    simp at e; subst e
    exact ⟨v, rfl, h1⟩
  | d :: ds, _, i + 1, _, h, e => by
    unfold RepAll at h
    obtain ⟨v, r, rfl, h1, h2⟩ := h
    obtain ⟨w, a, b⟩ := RepAll.get (i := i) h2 (by simpa using e)
    exact ⟨w, by simpa using a, b⟩
theorem RepAll.get' : ∀ {ds : List D} {vs : List V} {i : Nat} {v : V}, RepAll K φ H ds vs → vs[i]? = some v → ∃ d, ds[i]? = some d ∧ Rep K φ H d v := by
  intro ds vs i v h e
  have hl := h.length
  have h1 := (List.getElem?_eq_some_iff.mp e).1
  have h2 : i < ds.length := by omega
  obtain ⟨w, a, b⟩ := h.get (List.getElem?_eq_getElem h2)
  rw [e] at a; cases a
  exact ⟨ds[i], List.getElem?_eq_getElem h2, b⟩
theorem RepAll.nil : RepAll K φ H [] [] := rfl
theorem RepAll.cons {d : D} {v : V} {ds : List D} {vs : List V} (h : Rep K φ H d v) (r : RepAll K φ H ds vs) : RepAll K φ H (d :: ds) (v :: vs) := by
  unfold RepAll; exact ⟨v, vs, rfl, h, r⟩
theorem RepAll.append : ∀ {ds es : List D} {vs ws : List V}, RepAll K φ H ds vs → RepAll K φ H es ws → RepAll K φ H (ds ++ es) (vs ++ ws)
  | [], _, _, _, h, h2 => by unfold RepAll at h; rw [h]; exact h2
  | d :: ds, _, _, _, h, h2 => by
    unfold RepAll at h
    obtain ⟨v, r, rfl, h1, h3⟩ := h
    exact RepAll.cons h1 (RepAll.append h3 h2)
theorem RepAll.take : ∀ {ds : List D} {vs : List V} (n : Nat), RepAll K φ H ds vs → RepAll K φ H (ds.take n) (vs.take n)
  | _, _, 0, _ => rfl
  | [], _, n + 1, h => by unfold RepAll at h; rw [h]; rfl
  | d :: ds, _, n + 1, h => by
    unfold RepAll at h
    obtain ⟨v, r, rfl, h1, h3⟩ := h
    exact RepAll.cons h1 (RepAll.take n h3)
theorem RepAll.drop : ∀ {ds : List D} {vs : List V} (n : Nat), RepAll K φ H ds vs → RepAll K φ H (ds.drop n) (vs.drop n)
  | _, _, 0, h => h
  | [], _, n + 1, h => by unfold RepAll at h; rw [h]; rfl
  | d :: ds, _, n + 1, h => by
    unfold RepAll at h
    obtain ⟨v, r, rfl, h1, h3⟩ := h
    exact RepAll.drop n h3
theorem RepAll.set {d : D} {v : V} (hd : Rep K φ H d v) : ∀ {ds : List D} {vs : List V} (n : Nat), RepAll K φ H ds vs → RepAll K φ H (ds.set n d) (vs.set n v)
  | [], _, _, h => by unfold RepAll at h; rw [h]; rfl
  | e :: ds, _, 0, h => by
    unfold RepAll at h
    obtain ⟨w, r, rfl, h1, h3⟩ := h
    exact RepAll.cons hd h3
  | e :: ds, _, n + 1, h => by
    unfold RepAll at h
    obtain ⟨w, r, rfl, h1, h3⟩ := h
    exact RepAll.cons h1 (RepAll.set hd n h3)
theorem RepAll.reverse : ∀ {ds : List D} {vs : List V}, RepAll K φ H ds vs → RepAll K φ H ds.reverse vs.reverse
  | [], _, h => by unfold RepAll at h; rw [h]; rfl
  | d :: ds, _, h => by
    unfold RepAll at h
    obtain ⟨v, r, rfl, h1, h3⟩ := h
    rw [List.reverse_cons, List.reverse_cons]
    exact RepAll.append (RepAll.reverse h3) (RepAll.cons h1 RepAll.nil)
theorem RelH.lookup (R : RelH K φ H st) {n : Nat} {a : Addr} {c : Cell} (h : φ[n]? = some a) (hc : st[n]? = some c) : CellOk K φ H a c := R.cell n a c h hc
/-- a new cell -/
theorem RelH.fresh (R : RelH K φ H st) {p : Addr} {o : HO} (hp : H p = none) : p ∉ φ := fun hm => by
  obtain ⟨o, h1, _⟩ := R.some_of hm
  rw [hp] at h1; cases h1
theorem Ext.new (R : RelH K φ H st) {p : Addr} {o : HO} (hp : H p = none) : Ext φ H (φ ++ [p]) (upd H p o) :=
  ⟨⟨[p], rfl, fun b hb => by simp at hb; subst hb; exact ⟨hp, R.fresh (o := o) hp⟩⟩, fun b u hb _ _ => by rw [upd_ne (ne_of_none hb hp)]; exact hb, fun b ps hb _ => ⟨ps, by rw [upd_ne (ne_of_none hb hp)]; exact hb⟩⟩
theorem Ext.newT {p : Addr} {o : HO} (hp : H p = none) : Ext φ H φ (upd H p o) :=
  ⟨⟨[], by simp, fun b hb => by simp at hb⟩, fun b u hb _ _ => by rw [upd_ne (ne_of_none hb hp)]; exact hb, fun b ps hb _ => ⟨ps, by rw [upd_ne (ne_of_none hb hp)]; exact hb⟩⟩
theorem CellOk.ext {a : Addr} (R : RelH K φ H st) (E : Ext φ H φ' H') (e : H' a = H a) : ∀ {c : Cell}, CellOk K φ H a c → CellOk K φ' H' a c
  | .lst _, ⟨vs, h1, h2⟩ => ⟨vs, e.trans h1, RepAll.ext R E _ h2⟩
  | .dct _, ⟨vs, h1, h2⟩ => ⟨vs, e.trans h1, RepKV.ext R E h2⟩
theorem RelH.tup (R : RelH K φ H st) {p : Addr} {o : HO} (hp : H p = none) : RelH K φ (upd H p o) st :=
  ⟨R.len, R.nd, fun n a c h hc => CellOk.ext R (Ext.newT hp) (upd_ne fun z => R.fresh (o := o) hp (by rw [← z]; exact List.mem_of_getElem? h)) (R.cell n a c h hc), R.tab.old fun b u hb => by rw [upd_ne (ne_of_none hb hp)]; exact hb⟩
theorem RelH.new (R : RelH K φ H st) {p : Addr} {o : HO} {c : Cell} (hp : H p = none) (hc : CellOk K (φ ++ [p]) (upd H p o) p c) : RelH K (φ ++ [p]) (upd H p o) (st ++ [c]) := by
  have nf : p ∉ φ := R.fresh (o := o) hp
  refine ⟨by simp [R.len], ?_, fun n a d h hd => ?_, R.tab.old fun b u hb => by rw [upd_ne (ne_of_none hb hp)]; exact hb⟩
  · rw [List.nodup_append]
    refine ⟨R.nd, by simp, fun x hx y hy => ?_⟩
    simp at hy; subst hy
    intro z; exact nf (z ▸ hx)
  · by_cases hn : n < φ.length
    · rw [List.getElem?_append_left hn] at h
      rw [List.getElem?_append_left (by rw [← R.len]; exact hn)] at hd
      exact CellOk.ext R (Ext.new R hp) (upd_ne fun z => nf (by rw [← z]; exact List.mem_of_getElem? h)) (R.cell n a d h hd)
    · have hl := (List.getElem?_eq_some_iff.mp h).1
      simp at hl
      have e : n = φ.length := by omega
      subst e
      rw [List.getElem?_append_right (Nat.le_refl _), Nat.sub_self] at h
      rw [List.getElem?_append_right (by rw [R.len]; exact Nat.le_refl _), R.len, Nat.sub_self] at hd
      simp at h hd
      subst h; subst hd
      exact hc
/-- a cell written -/
theorem Ext.write {a : Addr} {o : HO} (ha : a ∈ φ) : Ext φ H φ (upd H a o) :=
  ⟨⟨[], by simp, fun b hb => by simp at hb⟩, fun b u hb hn _ => by rw [upd_ne (fun z => hn (by rw [z]; exact ha))]; exact hb, fun b ps hb hn => ⟨ps, by rw [upd_ne (fun z => hn (by rw [z]; exact ha))]; exact hb⟩⟩
theorem RelH.write (R : RelH K φ H st) {n : Nat} {a : Addr} {o : HO} {c : Cell} (h : φ[n]? = some a) (hc : CellOk K φ (upd H a o) a c) : RelH K φ (upd H a o) (st.set n c) := by
  have ha : a ∈ φ := List.mem_of_getElem? h
  refine ⟨by simp [R.len], R.nd, fun m b d hb hd => ?_, R.tab.upd fun u hu => by
    obtain ⟨v, h1, h2⟩ := R.some_of ha
    rw [hu] at h1; cases h1; exact h2⟩
  by_cases hm : m = n
  · subst hm
    rw [h] at hb; cases hb
    have hl : m < st.length := by rw [← R.len]; exact (List.getElem?_eq_some_iff.mp h).1
    rw [List.getElem?_set_self hl] at hd; cases hd
    exact hc
  · rw [List.getElem?_set_ne (Ne.symm hm)] at hd
    have hne : b ≠ a := fun z => hm ((List.getElem?_inj (List.getElem?_eq_some_iff.mp hb).1 R.nd).mp (by rw [hb, h, z]))
    exact CellOk.ext R (Ext.write ha) (upd_ne hne) (R.cell m b d hb hd)
/-- the slots -/
structure RelS (K : PySem.W.Frag) (φ : Phi) (H : Hp) (σ : L2.St) (env : Env) : Prop where
  len : env.length = σ.length
  slot : ∀ (i : Nat) (d : D), env[i]? = some (some d) → ∃ v, σ[i]? = some (some v) ∧ Rep K φ H d v
theorem RelS.ext {σ : L2.St} {env : Env} (S : RelS K φ H σ env) (R : RelH K φ H st) (E : Ext φ H φ' H') : RelS K φ' H' σ env :=
  ⟨S.len, fun i d h => by
    obtain ⟨v, a, b⟩ := S.slot i d h
    exact ⟨v, a, Rep.ext R E d b⟩⟩
theorem RelS.set {σ : L2.St} {env : Env} (S : RelS K φ H σ env) {i : Nat} {d : D} {v : V} (h : Rep K φ H d v) : RelS K φ H (σ.set i (some v)) (env.set i (some d)) := by
  refine ⟨by simp [S.len], fun j e he => ?_⟩
  by_cases hj : j = i
  · subst hj
    have hl : j < env.length := by
      have := (List.getElem?_eq_some_iff.mp he).1
      simpa using this
    rw [List.getElem?_set_self hl] at he
    cases he
    exact ⟨v, by rw [List.getElem?_set_self (by rw [← S.len]; exact hl)], h⟩
  · rw [List.getElem?_set_ne (Ne.symm hj)] at he
    obtain ⟨w, a, b⟩ := S.slot j e he
    exact ⟨w, by rw [List.getElem?_set_ne (Ne.symm hj)]; exact a, b⟩
/-- an object outside is taken into the store -/
theorem RepKV.go (hp : ∀ (n : Nat) (a : Addr), φ[n]? = some a → φ'[n]? = some a) (E : Stay H H') {kvs : List (Key × D)} {ws : List (Key × V)} (h : RepKV K φ H kvs ws) : RepKV K φ' H' kvs ws :=
  Paired.mapP h fun p q z => ⟨z.1, Rep.go hp E _ z.2⟩
theorem Stay.refl : Stay H H := fun _ _ h _ => h
theorem CellOk.go {a : Addr} (hp : ∀ (n : Nat) (a : Addr), φ[n]? = some a → φ'[n]? = some a) (E : Stay H H') (e : H' a = H a) : ∀ {c : Cell}, CellOk K φ H a c → CellOk K φ' H' a c
  | .lst _, ⟨vs, h1, h2⟩ => ⟨vs, e.trans h1, RepAll.go hp E _ h2⟩
  | .dct _, ⟨vs, h1, h2⟩ => ⟨vs, e.trans h1, RepKV.go hp E h2⟩
theorem app_at {p : Addr} (n : Nat) (a : Addr) (h : φ[n]? = some a) : (φ ++ [p])[n]? = some a := by
  rw [List.getElem?_append_left (List.getElem?_eq_some_iff.mp h).1]; exact h
theorem RelH.adopt (R : RelH K φ H st) {p : Addr} {c : Cell} (nf : p ∉ φ) (hc : CellOk K φ H p c) : RelH K (φ ++ [p]) H (st ++ [c]) := by
  refine ⟨by simp [R.len], ?_, fun n a d h hd => ?_, R.tab⟩
  · rw [List.nodup_append]
    refine ⟨R.nd, by simp, fun x hx y hy => ?_⟩
    simp at hy; subst hy
    intro z; exact nf (z ▸ hx)
  · by_cases hn : n < φ.length
    · rw [List.getElem?_append_left hn] at h
      rw [List.getElem?_append_left (by rw [← R.len]; exact hn)] at hd
      exact CellOk.go app_at Stay.refl rfl (R.cell n a d h hd)
    · have hl := (List.getElem?_eq_some_iff.mp h).1
      simp at hl
      have e : n = φ.length := by omega
      subst e
      rw [List.getElem?_append_right (Nat.le_refl _), Nat.sub_self] at h
      rw [List.getElem?_append_right (by rw [R.len]; exact Nat.le_refl _), R.len, Nat.sub_self] at hd
      simp at h hd
      subst h; subst hd
      exact CellOk.go app_at Stay.refl rfl hc
end
end MP
set_option Elab.async false
set_option linter.all false
set_option autoImplicit false
set_option maxRecDepth 100000
set_option maxHeartbeats 2000000
/-! Mp2: what an expression, a test, a statement is worth over a store; rules. -/
namespace MP
open PySem PySem.Spec PyProof.Rows L2

inductive Out (α : Type) where
  | ok (a : α) (st : Store)
  | ex (c : Str) (fs : List D) (st : Store)
def rb {α β : Type} (r : Option (Out α)) (k : α → Store → Option (Out β)) : Option (Out β) :=
  match r with
  | none => none
  | some (.ok a st) => k a st
  | some (.ex c fs st) => some (.ex c fs st)
@[simp] theorem rb_ok {α β : Type} (a : α) (st : Store) (k : α → Store → Option (Out β)) : rb (some (.ok a st)) k = k a st := rfl
@[simp] theorem rb_ex {α β : Type} (c : Str) (fs : List D) (st : Store) (k : α → Store → Option (Out β)) : rb (some (.ex c fs st)) k = some (.ex c fs st) := rfl
@[simp] theorem rb_none {α β : Type} (k : α → Store → Option (Out β)) : rb (none : Option (Out α)) k = none := rfl
abbrev G := Env → Store → Option (Out D)
abbrev GT := Env → Store → Option (Out Bool)
abbrev GA := Env → Store → Option (Out (List D))
/-- how a statement ends -/
inductive Fl where
  | nx (env : Env)
  | rt (d : D)
  | bk (env : Env)
  | ct (env : Env)
  | xc (c : Str) (fs : List D) (env : Env)
abbrev GS := Env → Store → Option (Fl × Store)
/-- own errors: the class's address, the names of its fields -/
abbrev CTab := Str → Option (Addr × List Str)
def ExOk (CT : CTab) (K : PySem.W.Frag) (φ : Phi) (H : Hp) (c : Str) (fs : List D) (cv : Value) (dd : Option Addr) : Prop :=
  ∃ C names d vs, CT c = some (C, names) ∧ cv = .ref C ∧ dd = some d ∧ H d = some (.xd (names.zip vs)) ∧ RepAll K φ H fs vs
def Post {α β : Type} (rep : Phi → Hp → α → β → Prop) (K : PySem.W.Frag) (CT : CTab) (W : WX) (σ : L2.St) (φ : Phi) (H : Hp) (r : Option (Out α)) (Q : β → Hp → Prop) : Prop :=
  match r with
  | none => False
  | some (.ok a st') => ∀ φ' H' v, Ext φ H φ' H' → RelH K φ' H' st' → rep φ' H' a v → Q v H'
  | some (.ex c fs st') => ∀ φ' H' cv dd, Ext φ H φ' H' → RelH K φ' H' st' → ExOk CT K φ' H' c fs cv dd → W cv dd σ H'
def rpE (K : PySem.W.Frag) : Phi → Hp → D → V → Prop := fun φ H d v => Rep K φ H d v
def rpT : Phi → Hp → Bool → Bool → Prop := fun _ _ b c => c = b
def rpA (K : PySem.W.Frag) : Phi → Hp → List D → List V → Prop := fun φ H d v => RepAll K φ H d v
section
variable {α β γ δ : Type} {rep : Phi → Hp → α → β → Prop} {rep2 : Phi → Hp → γ → δ → Prop} {K : PySem.W.Frag} {CT : CTab} {W : WX} {σ : L2.St} {φ φ' : Phi} {H H' : Hp} {r : Option (Out α)} {Q Q' : β → Hp → Prop}
theorem Post.mono (h : Post rep K CT W σ φ H r Q) (i : ∀ v H', Q v H' → Q' v H') : Post rep K CT W σ φ H r Q' := by
  cases r with
  | none => exact h
  | some o => cases o with
    | ok a st => exact fun φ' H' v E R p => i _ _ (h φ' H' v E R p)
    | ex c fs st => exact h
theorem Post.ext (E : Ext φ H φ' H') (h : Post rep K CT W σ φ H r Q) : Post rep K CT W σ φ' H' r Q := by
  cases r with
  | none => exact h
  | some o => cases o with
    | ok a st => exact fun φ2 H2 v E2 R p => h φ2 H2 v (E.trans E2) R p
    | ex c fs st => exact fun φ2 H2 cv dd E2 R p => h φ2 H2 cv dd (E.trans E2) R p
theorem Post.split {k : α → Store → Option (Out γ)} {Q2 : δ → Hp → Prop} (h : Post rep2 K CT W σ φ H (rb r k) Q2) :
    Post rep K CT W σ φ H r fun v H1 => ∃ φ1 st1 a, Ext φ H φ1 H1 ∧ RelH K φ1 H1 st1 ∧ rep φ1 H1 a v ∧ Post rep2 K CT W σ φ1 H1 (k a st1) Q2 := by
  cases r with
  | none => exact h
  | some o => cases o with
    | ok a st => exact fun φ1 H1 v E R p => ⟨φ1, st, a, E, R, p, Post.ext E h⟩
    | ex c fs st => exact h
/-- nothing new -/
theorem Post.done {a : α} {st : Store} {v : β} (R : RelH K φ H st) (p : rep φ H a v) (h : Post rep K CT W σ φ H (some (.ok a st)) Q) : Q v H := h φ H v Ext.refl R p
end
def lE (K : PySem.W.Frag) (CT : CTab) (W : WX) (g : G) : TE := fun σ H Q => ∃ φ env st, RelH K φ H st ∧ RelS K φ H σ env ∧ Post (rpE K) K CT W σ φ H (g env st) Q
def lT (K : PySem.W.Frag) (CT : CTab) (W : WX) (g : GT) : TT := fun σ H Q => ∃ φ env st, RelH K φ H st ∧ RelS K φ H σ env ∧ Post rpT K CT W σ φ H (g env st) Q
def lA (K : PySem.W.Frag) (CT : CTab) (W : WX) (g : GA) : TA := fun σ H Q => ∃ φ env st, RelH K φ H st ∧ RelS K φ H σ env ∧ Post (rpA K) K CT W σ φ H (g env st) Q
def PostS (K : PySem.W.Frag) (W : WX) (CT : CTab) (D : Ends) (φ : Phi) (H : Hp) (r : Option (Fl × Store)) : Prop :=
  match r with
  | none => False
  | some (.nx env', st') => ∀ φ' H' σ', Ext φ H φ' H' → RelH K φ' H' st' → RelS K φ' H' σ' env' → D.nx σ' H'
  | some (.bk env', st') => ∀ φ' H' σ', Ext φ H φ' H' → RelH K φ' H' st' → RelS K φ' H' σ' env' → D.bk σ' H'
  | some (.ct env', st') => ∀ φ' H' σ', Ext φ H φ' H' → RelH K φ' H' st' → RelS K φ' H' σ' env' → D.ct σ' H'
  | some (.rt d, st') => ∀ φ' H' v, Ext φ H φ' H' → RelH K φ' H' st' → Rep K φ' H' d v → D.rt v H'
  | some (.xc c fs env', st') => ∀ φ' H' σ' cv dd, Ext φ H φ' H' → RelH K φ' H' st' → RelS K φ' H' σ' env' → ExOk CT K φ' H' c fs cv dd → W cv dd σ' H'
def lS (K : PySem.W.Frag) (CT : CTab) (W : WX) (g : GS) : TS := fun D σ H => ∃ φ env st, RelH K φ H st ∧ RelS K φ H σ env ∧ PostS K W CT D φ H (g env st)
theorem PostS.ext {K : PySem.W.Frag} {W : WX} {CT : CTab} {D : Ends} {φ φ' : Phi} {H H' : Hp} {r : Option (Fl × Store)} (E : Ext φ H φ' H') (h : PostS K W CT D φ H r) : PostS K W CT D φ' H' r := by
  cases r with
  | none => exact h
  | some o =>
    obtain ⟨f, st⟩ := o
    cases f with
    | nx e => exact fun φ2 H2 v E2 R p => h φ2 H2 v (E.trans E2) R p
    | bk e => exact fun φ2 H2 v E2 R p => h φ2 H2 v (E.trans E2) R p
    | ct e => exact fun φ2 H2 v E2 R p => h φ2 H2 v (E.trans E2) R p
    | rt e => exact fun φ2 H2 v E2 R p => h φ2 H2 v (E.trans E2) R p
    | xc c fs e => exact fun φ2 H2 σ2 cv dd E2 R S p => h φ2 H2 σ2 cv dd (E.trans E2) R S p
/-- an expression within a statement -/
def sb {α : Type} (env : Env) (r : Option (Out α)) (k : α → Store → Option (Fl × Store)) : Option (Fl × Store) :=
  match r with
  | none => none
  | some (.ok a st) => k a st
  | some (.ex c fs st) => some (.xc c fs env, st)
@[simp] theorem sb_ok {α : Type} (env : Env) (a : α) (st : Store) (k : α → Store → Option (Fl × Store)) : sb env (some (.ok a st)) k = k a st := rfl
@[simp] theorem sb_ex {α : Type} (env : Env) (c : Str) (fs : List D) (st : Store) (k : α → Store → Option (Fl × Store)) : sb env (some (.ex c fs st)) k = some (.xc c fs env, st) := rfl
@[simp] theorem sb_none {α : Type} (env : Env) (k : α → Store → Option (Fl × Store)) : sb env (none : Option (Out α)) k = none := rfl
theorem PostS.split {α β : Type} {rep : Phi → Hp → α → β → Prop} {K : PySem.W.Frag} {CT : CTab} {W : WX} {σ : L2.St} {φ : Phi} {H : Hp} {st : Store} {env : Env} {D : Ends} {r : Option (Out α)} {k : α → Store → Option (Fl × Store)} (R : RelH K φ H st) (S : RelS K φ H σ env) (h : PostS K W CT D φ H (sb env r k)) :
    Post rep K CT W σ φ H r fun v H1 => ∃ φ1 st1 a, Ext φ H φ1 H1 ∧ RelH K φ1 H1 st1 ∧ RelS K φ1 H1 σ env ∧ rep φ1 H1 a v ∧ PostS K W CT D φ1 H1 (k a st1) := by
  cases r with
  | none => exact h
  | some o => cases o with
    | ok a st' => exact fun φ1 H1 v E R1 p => ⟨φ1, st', a, E, R1, S.ext R E, p, PostS.ext E h⟩
    | ex c fs st' => exact fun φ1 H1 cv dd E R1 p => h φ1 H1 σ cv dd E R1 (S.ext R E) p

theorem _root_.L2.PE.imp {X : Cx} {e : Expr} {t t' : TE} (h : PE X e t) (i : ∀ σ H Q, t' σ H Q → t σ H Q) : PE X e t' := ⟨fun pins s σ H Q I q => h.run pins s σ H Q I (i _ _ _ q)⟩
theorem _root_.L2.PT.imp {X : Cx} {e : Expr} {t t' : TT} (h : PT X e t) (i : ∀ σ H Q, t' σ H Q → t σ H Q) : PT X e t' := ⟨fun pins s σ H Q I q => h.run pins s σ H Q I (i _ _ _ q)⟩
theorem _root_.L2.PW.imp {X : Cx} {e : Expr} {t t' : TT} (h : PW X e t) (i : ∀ σ H Q, t' σ H Q → t σ H Q) : PW X e t' := ⟨fun wh pins s σ H Q I q => h.run wh pins s σ H Q I (i _ _ _ q)⟩
theorem _root_.L2.PA.imp {X : Cx} {e : List Expr} {t t' : TA} (h : PA X e t) (i : ∀ σ H Q, t' σ H Q → t σ H Q) : PA X e t' := ⟨fun pos pins s σ H Q I q => h.run pos pins s σ H Q I (i _ _ _ q)⟩
theorem _root_.L2.PS.imp {X : Cx} {e : Stmt} {t t' : TS} (h : PS X e t) (i : ∀ D σ H, t' D σ H → t D σ H) : PS X e t' := ⟨fun pins s σ H D I q => h.run pins s σ H D I (i _ _ _ q)⟩
theorem _root_.L2.PSs.imp {X : Cx} {e : List Stmt} {t t' : TS} (h : PSs X e t) (i : ∀ D σ H, t' D σ H → t D σ H) : PSs X e t' := ⟨fun pins s σ H D I q => h.run pins s σ H D I (i _ _ _ q)⟩

/-! ### judgements -/
abbrev DE (CT : CTab) (W : WX) (X : Cx) (e : Expr) (g : G) : Prop := PE X e (lE X.K CT W g)
abbrev DT (CT : CTab) (W : WX) (X : Cx) (e : Expr) (g : GT) : Prop := PT X e (lT X.K CT W g)
abbrev DW (CT : CTab) (W : WX) (X : Cx) (e : Expr) (g : GT) : Prop := PW X e (lT X.K CT W g)
abbrev DA (CT : CTab) (W : WX) (X : Cx) (e : List Expr) (g : GA) : Prop := PA X e (lA X.K CT W g)
abbrev DS (CT : CTab) (W : WX) (X : Cx) (e : Stmt) (g : GS) : Prop := PS X e (lS X.K CT W g)
abbrev DSs (CT : CTab) (W : WX) (X : Cx) (e : List Stmt) (g : GS) : Prop := PSs X e (lS X.K CT W g)

/-! ### names, constants -/
def gv (i : Nat) : G := fun env st => match env[i]? with
  | some (some d) => some (.ok d st)
  | _ => none
def gc (d : D) : G := fun _ st => some (.ok d st)
section
variable {X : Cx} {CT : CTab} {W : WX} {a b c e : Expr} {es : List Expr} {ga gb g : G} {gA : GA} {pos : Pos}
theorem lE_var {K : PySem.W.Frag} {i : Nat} {σ : L2.St} {H : Hp} {Q : VK} (h : lE K CT W (gv i) σ H Q) : tVar i σ H Q := by
  obtain ⟨φ, env, st, R, S, q⟩ := h
  unfold gv at q
  split at q
  · rename_i d hd
    obtain ⟨v, h1, h2⟩ := S.slot i d hd
    exact ⟨v, h1, Post.done R h2 q⟩
  · exact q.elim
theorem d_var (i : Nat) {x : Str} (hN : X.N[i]? = some x := by rfl) (hv : Vis X.env.scope x := by first | exact Or.inl rfl | exact Or.inr (Or.inl rfl) | exact Or.inr (Or.inr rfl)) (hd : (x == ("__debug__" : Str)) = false := by decide) (hcd : (x == ("__classdict__" : Str)) = false := by decide) :
    DE CT W X (.Name x pos) (gv i) := (pe_var hN hv hd hcd).imp fun _ _ _ h => lE_var h
/-- the flat ones -/
def flatD : D → Option V
  | .non => some .non
  | .bl b => some (.bl b)
  | .int i => some (.int i)
  | .str x => some (.str x)
  | _ => none
theorem flatD_rep {K : PySem.W.Frag} {φ : Phi} {H : Hp} : ∀ {d : D} {v : V}, flatD d = some v → Rep K φ H d v
  | .non, _, h => by cases h; rfl
  | .bl _, _, h => by cases h; rfl
  | .int _, _, h => by cases h; rfl
  | .str _, _, h => by cases h; rfl
theorem lE_c {K : PySem.W.Frag} {d : D} {v : V} (hd : flatD d = some v) {σ : L2.St} {H : Hp} {Q : VK} (h : lE K CT W (gc d) σ H Q) : Q v H := by
  obtain ⟨φ, env, st, R, S, q⟩ := h
  exact Post.done R (flatD_rep hd) q
theorem d_int {i : Int} {j : Nat} : DE CT W X (.Constant (.int i) j pos) (gc (.int i)) := pe_int.imp fun _ _ _ h => lE_c rfl h
theorem d_bl {i : Bool} {j : Nat} : DE CT W X (.Constant (.bool i) j pos) (gc (.bl i)) := pe_bl.imp fun _ _ _ h => lE_c rfl h
theorem d_non {j : Nat} : DE CT W X (.Constant .none j pos) (gc .non) := pe_non.imp fun _ _ _ h => lE_c rfl h
theorem d_str {x : Str} {j : Nat} : DE CT W X (.Constant (.str x) j pos) (gc (.str x)) := pe_str.imp fun _ _ _ h => lE_c rfl h
/-- a constant of the module -/
theorem d_glob {x : Str} {d : D} {v : V} {u : Value} (hg : Gl X x) (hm : X.mg x = some u) (hd : flatD d = some v) (r : RelV v u) (hdb : (x == ("__debug__" : Str)) = false := by decide) : DE CT W X (.Name x pos) (gc d) :=
  (pe_glob hg hm r hdb).imp fun _ _ _ h => lE_c hd h

/-! ### two places -/
abbrev F2 := D → D → Store → Option (Out D)
def OpD (K : PySem.W.Frag) (r : R2) (f : F2) : Prop := ∀ (CT : CTab) (W : WX) (σ : L2.St) (φ : Phi) (H : Hp) (st : Store) (dx dy : D) (x y : V) (Q : VK), RelH K φ H st → Rep K φ H dx x → Rep K φ H dy y → Post (rpE K) K CT W σ φ H (f dx dy st) Q → r x y H Q
def g2 (f : F2) (ga gb : G) : G := fun env st => rb (ga env st) fun x st1 => rb (gb env st1) fun y st2 => f x y st2
theorem lE_g2 {K : PySem.W.Frag} {r : R2} {f : F2} (ho : OpD K r f) {σ : L2.St} {H : Hp} {Q : VK} (h : lE K CT W (g2 f ga gb) σ H Q) : tOp r (lE K CT W ga) (lE K CT W gb) σ H Q := by
  obtain ⟨φ, env, st, R, S, q⟩ := h
  refine ⟨φ, env, st, R, S, (Post.split q).mono ?_⟩
  rintro x H1 ⟨φ1, st1, dx, E1, R1, rx, q1⟩
  refine ⟨φ1, env, st1, R1, S.ext R E1, (Post.split q1).mono ?_⟩
  rintro y H2 ⟨φ2, st2, dy, E2, R2, ry, q2⟩
  exact ho CT W σ φ2 H2 st2 dx dy x y Q R2 (Rep.ext R1 E2 dx rx) ry q2
theorem d_op {op : Operator} {r : R2} {f : F2} (ho : OpR X (binaryOp op) r) (hf : OpD X.K r f) (ha : DE CT W X a ga) (hb : DE CT W X b gb) : DE CT W X (.BinOp a op b pos) (g2 f ga gb) := (pe_op ho ha hb).imp fun _ _ _ h => lE_g2 hf h
theorem d_cmp {op : CmpOp} {r : R2} {f : F2} (ho : OpR X (compareOp op) r) (hf : OpD X.K r f) (ha : DE CT W X a ga) (hb : DE CT W X b gb) (hm : behindInMarks op b = false) : DE CT W X (.Compare a [op] [b] pos) (g2 f ga gb) := (pe_cmpR ho ha hb hm).imp fun _ _ _ h => lE_g2 hf h
/-- a value that is a truth value -/
def gb1 (g : G) : GT := fun env st => rb (g env st) fun d st1 => match d with
  | .bl b => some (.ok b st1)
  | _ => none
theorem lT_bl {K : PySem.W.Frag} {σ : L2.St} {H : Hp} {Q : Bool → Hp → Prop} (h : lT K CT W (gb1 g) σ H Q) : lE K CT W g σ H fun x H' => ∃ k, x = .bl k ∧ Q k H' := by
  obtain ⟨φ, env, st, R, S, q⟩ := h
  refine ⟨φ, env, st, R, S, (Post.split q).mono ?_⟩
  rintro x H1 ⟨φ1, st1, dx, E1, R1, rx, q1⟩
  split at q1
  · rename_i d b
    exact ⟨b, rx, Post.done R1 rfl q1⟩
  · exact q1.elim
theorem t_cmp {op : CmpOp} {r : R2} {f : F2} (ho : OpR X (compareOp op) r) (hf : OpD X.K r f) (ha : DE CT W X a ga) (hb : DE CT W X b gb) (hm : behindInMarks op b = false) : DT CT W X (.Compare a [op] [b] pos) (gb1 (g2 f ga gb)) :=
  (pt_cmpR ho ha hb hm).imp fun σ H Q h => by
    have h1 := lT_bl h
    exact lE_g2 hf h1
theorem t_val (h : DE CT W X e g) (he : ∀ whole, isTrue e X.env whole = (do let v ← whole; standAt e.pos; holding [v] (truthy v)) := by intro _; rfl) : DT CT W X e (gb1 g) := (pt_val h he).imp fun σ H Q h => lT_bl h

/-! ### and, or, not, if -/
def gNotT (t : GT) : GT := fun env st => rb (t env st) fun b st1 => some (.ok (!b) st1)
def gAndT (t u : GT) : GT := fun env st => rb (t env st) fun b st1 => if b = true then u env st1 else some (.ok false st1)
def gOrT (t u : GT) : GT := fun env st => rb (t env st) fun b st1 => if b = true then some (.ok true st1) else u env st1
variable {t u : GT} {rest : List Expr}
theorem t_not (h : DT CT W X a t) : DT CT W X (.UnaryOp .Not a pos) (gNotT t) := (pt_not h).imp fun σ H Q h => by
  obtain ⟨φ, env, st, R, S, q⟩ := h
  refine ⟨φ, env, st, R, S, (Post.split q).mono ?_⟩
  rintro x H1 ⟨φ1, st1, dx, E1, R1, rx, q1⟩
  exact Post.done R1 (by rw [rx]; rfl) q1
theorem w_and1 (h : DT CT W X a t) : DW CT W X (.BoolOp .And [a] pos) t := pw_and1 h
theorem w_or1 (h : DT CT W X a t) : DW CT W X (.BoolOp .Or [a] pos) t := pw_or1 h
theorem w_and (h : DT CT W X a t) (h2 : DW CT W X (.BoolOp .And (b :: rest) pos) u) : DW CT W X (.BoolOp .And (a :: b :: rest) pos) (gAndT t u) := (pw_and h h2).imp fun σ H Q h => by
  obtain ⟨φ, env, st, R, S, q⟩ := h
  refine ⟨φ, env, st, R, S, (Post.split q).mono ?_⟩
  rintro x H1 ⟨φ1, st1, dx, E1, R1, rx, q1⟩
  obtain rfl : x = dx := rx
  cases x with
  | true => exact ⟨φ1, env, st1, R1, S.ext R E1, q1⟩
  | false => exact Post.done R1 rfl q1
theorem w_or (h : DT CT W X a t) (h2 : DW CT W X (.BoolOp .Or (b :: rest) pos) u) : DW CT W X (.BoolOp .Or (a :: b :: rest) pos) (gOrT t u) := (pw_or h h2).imp fun σ H Q h => by
  obtain ⟨φ, env, st, R, S, q⟩ := h
  refine ⟨φ, env, st, R, S, (Post.split q).mono ?_⟩
  rintro x H1 ⟨φ1, st1, dx, E1, R1, rx, q1⟩
  obtain rfl : x = dx := rx
  cases x with
  | false => exact ⟨φ1, env, st1, R1, S.ext R E1, q1⟩
  | true => exact Post.done R1 rfl q1
theorem t_w (h : DW CT W X a t) : DT CT W X a t := h.pt
/-- as values -/
def gNot (g : G) : G := fun env st => rb (gb1 g env st) fun b st1 => some (.ok (.bl (!b)) st1)
def gAnd (g h : G) : G := fun env st => rb (gb1 g env st) fun b st1 => if b = true then h env st1 else some (.ok (.bl false) st1)
def gOr (g h : G) : G := fun env st => rb (gb1 g env st) fun b st1 => if b = true then some (.ok (.bl true) st1) else h env st1
theorem d_not (h : DE CT W X a ga) : DE CT W X (.UnaryOp .Not a pos) (gNot ga) := (pe_not h).imp fun σ H Q h => by
  obtain ⟨φ, env, st, R, S, q⟩ := h
  refine lT_bl (Q := fun c H1 => Q (.bl (!c)) H1) ⟨φ, env, st, R, S, (Post.split (rep := rpT) q).mono ?_⟩
  rintro x H1 ⟨φ1, st1, dx, E1, R1, rx, q1⟩
  obtain rfl : x = dx := rx
  exact Post.done R1 (show Rep X.K φ1 H1 (.bl (!x)) (.bl (!x)) from rfl) q1
theorem d_one {op : BoolOp} (h : DE CT W X a ga) : DE CT W X (.BoolOp op [a] pos) ga := pe_one h
theorem d_and (h : DE CT W X a ga) (h2 : DE CT W X (.BoolOp .And (b :: rest) pos) gb) : DE CT W X (.BoolOp .And (a :: b :: rest) pos) (gAnd ga gb) := (pe_and h h2).imp fun σ H Q h => by
  obtain ⟨φ, env, st, R, S, q⟩ := h
  refine lT_bl (Q := fun c H1 => if c = true then lE X.K CT W gb σ H1 Q else Q (.bl false) H1) ⟨φ, env, st, R, S, (Post.split (rep := rpT) q).mono ?_⟩
  rintro x H1 ⟨φ1, st1, dx, E1, R1, rx, q1⟩
  obtain rfl : x = dx := rx
  cases x with
  | true => exact ⟨φ1, env, st1, R1, S.ext R E1, q1⟩
  | false => exact Post.done R1 (show Rep X.K φ1 H1 (.bl false) (.bl false) from rfl) q1
theorem d_or (h : DE CT W X a ga) (h2 : DE CT W X (.BoolOp .Or (b :: rest) pos) gb) : DE CT W X (.BoolOp .Or (a :: b :: rest) pos) (gOr ga gb) := (pe_or h h2).imp fun σ H Q h => by
  obtain ⟨φ, env, st, R, S, q⟩ := h
  refine lT_bl (Q := fun c H1 => if c = true then Q (.bl true) H1 else lE X.K CT W gb σ H1 Q) ⟨φ, env, st, R, S, (Post.split (rep := rpT) q).mono ?_⟩
  rintro x H1 ⟨φ1, st1, dx, E1, R1, rx, q1⟩
  obtain rfl : x = dx := rx
  cases x with
  | false => exact ⟨φ1, env, st1, R1, S.ext R E1, q1⟩
  | true => exact Post.done R1 (show Rep X.K φ1 H1 (.bl true) (.bl true) from rfl) q1
def gIf (t : GT) (g h : G) : G := fun env st => rb (t env st) fun b st1 => if b = true then g env st1 else h env st1
theorem d_ife (hc : DT CT W X c t) (ha : DE CT W X a ga) (hb : DE CT W X b gb) : DE CT W X (.IfExp c a b pos) (gIf t ga gb) := (pe_ifExp hc ha hb).imp fun σ H Q h => by
  obtain ⟨φ, env, st, R, S, q⟩ := h
  refine ⟨φ, env, st, R, S, (Post.split q).mono ?_⟩
  rintro x H1 ⟨φ1, st1, dx, E1, R1, rx, q1⟩
  obtain rfl : x = dx := rx
  cases x with
  | true => exact ⟨φ1, env, st1, R1, S.ext R E1, q1⟩
  | false => exact ⟨φ1, env, st1, R1, S.ext R E1, q1⟩

/-! ### lists of arguments; displays -/
def aNil : GA := fun _ st => some (.ok [] st)
def aCons (g : G) (h : GA) : GA := fun env st => rb (g env st) fun d st1 => rb (h env st1) fun ds st2 => some (.ok (d :: ds) st2)
theorem a_nil : DA CT W X [] aNil := pa_nil.imp fun σ H Q h => by
  obtain ⟨φ, env, st, R, S, q⟩ := h
  exact Post.done R (show RepAll X.K φ H [] [] from rfl) q
theorem a_cons (h : DE CT W X e g) (hr : DA CT W X es gA) (hs : starEach (e :: es) X.env = (false, eval e X.env) :: starEach es X.env := by rfl) : DA CT W X (e :: es) (aCons g gA) := (pa_cons h hr hs).imp fun σ H Q h => by
  obtain ⟨φ, env, st, R, S, q⟩ := h
  refine ⟨φ, env, st, R, S, (Post.split q).mono ?_⟩
  rintro x H1 ⟨φ1, st1, dx, E1, R1, rx, q1⟩
  refine ⟨φ1, env, st1, R1, S.ext R E1, (Post.split q1).mono ?_⟩
  rintro y H2 ⟨φ2, st2, dy, E2, R2, ry, q2⟩
  exact Post.done R2 (RepAll.cons (Rep.ext R1 E2 dx rx) ry) q2
/-- what is too long is none -/
def fits {α : Type} (l : List α) {β : Type} (r : Option β) : Option β := if l.length ≤ 16777216 then r else none
theorem fits_le {α : Type} {l : List α} (h : l.length ≤ 16777216) : l.length ≤ sizeLine := by rw [sizeLine_eq]; exact h
/-- a new tuple, a new list at a free address -/
theorem new_tup {K : PySem.W.Frag} {σ : L2.St} {φ : Phi} {H : Hp} {st : Store} {ds : List D} {vs : List V} {Q : VK} (R : RelH K φ H st) (r : RepAll K φ H ds vs) (h : Post (rpE K) K CT W σ φ H (some (.ok (.tup ds) st)) Q) :
    ∀ p, H p = none → Q (.ref p) (upd H p (.tup vs)) := fun p hp => by
  have E : Ext φ H φ (upd H p (.tup vs)) := Ext.newT hp
  refine h φ _ (.ref p) E (R.tup hp) ?_
  show Rep K φ _ (.tup ds) (.ref p)
  unfold Rep
  exact ⟨p, vs, rfl, .inl (.inl upd_same), RepAll.ext R E ds r⟩
theorem new_lst {K : PySem.W.Frag} {σ : L2.St} {φ : Phi} {H : Hp} {st : Store} {ds : List D} {vs : List V} {Q : VK} (R : RelH K φ H st) (r : RepAll K φ H ds vs) (h : Post (rpE K) K CT W σ φ H (some (.ok (.ref st.length) (st ++ [.lst ds]))) Q) :
    ∀ p, H p = none → Q (.ref p) (upd H p (.lst vs)) := fun p hp => by
  have E : Ext φ H (φ ++ [p]) (upd H p (.lst vs)) := Ext.new R hp
  refine h _ _ (.ref p) E (R.new hp ⟨vs, upd_same, RepAll.ext R E ds r⟩) ?_
  show Rep K _ _ (.ref st.length) (.ref p)
  unfold Rep
  exact ⟨p, rfl, by rw [← R.len]; simp⟩
def gTup (h : GA) : G := fun env st => rb (h env st) fun ds st1 => fits ds (some (.ok (.tup ds) st1))
def gLst (h : GA) : G := fun env st => rb (h env st) fun ds st1 => fits ds (some (.ok (.ref st1.length) (st1 ++ [.lst ds])))
theorem d_tup {x1 : Nat} (h : DA CT W X es gA) : DE CT W X (.Tuple es x1 pos) (gTup gA) := (pe_tup h).imp fun σ H Q h => by
  obtain ⟨φ, env, st, R, S, q⟩ := h
  refine ⟨φ, env, st, R, S, (Post.split q).mono ?_⟩
  rintro x H1 ⟨φ1, st1, dx, E1, R1, rx, q1⟩
  unfold fits at q1
  split at q1
  · rename_i hl
    refine ⟨?_, new_tup R1 rx q1⟩
    rw [← RepAll.length rx]; exact fits_le hl
  · exact q1.elim
theorem d_lst (h : DA CT W X es gA) : DE CT W X (.List es pos) (gLst gA) := (pe_lst h).imp fun σ H Q h => by
  obtain ⟨φ, env, st, R, S, q⟩ := h
  refine ⟨φ, env, st, R, S, (Post.split q).mono ?_⟩
  rintro x H1 ⟨φ1, st1, dx, E1, R1, rx, q1⟩
  unfold fits at q1
  split at q1
  · rename_i hl
    refine ⟨?_, new_lst R1 rx q1⟩
    rw [← RepAll.length rx]; exact fits_le hl
  · exact q1.elim
end
end MP
set_option Elab.async false
set_option linter.all false
set_option autoImplicit false
set_option maxRecDepth 100000
set_option maxHeartbeats 2000000
/-! Mp3: operators on the store's values. -/
namespace MP
open PySem PySem.Spec PyProof.Rows L2

section
variable {K : PySem.W.Frag} {X : Cx}
theorem OpD.or {r r' : R2} {f : F2} {p : D → D → Store → Bool} {f' : F2} (h : OpD K r f) (h' : OpD K r' f') : OpD K (fun x y H Q => r x y H Q ∨ r' x y H Q) (fun x y st => if p x y st = true then f x y st else f' x y st) := by
  intro CT W σ φ H st dx dy x y Q R rx ry q
  dsimp only at q
  split at q
  · exact .inl (h CT W σ φ H st dx dy x y Q R rx ry q)
  · exact .inr (h' CT W σ φ H st dx dy x y Q R rx ry q)

/-! ### ints -/
def fI (C : Int → Int → Bool) (g : Int → Int → Int) : F2
  | .int i, .int j, st => if C i j = true then some (.ok (.int (g i j)) st) else none
  | _, _, _ => none
def fB (g : Int → Int → Bool) : F2
  | .int i, .int j, st => some (.ok (.bl (g i j)) st)
  | _, _, _ => none
def cAny : Int → Int → Bool := fun _ _ => true
theorem repInt {φ : Phi} {H : Hp} {i : Int} {v : V} (h : Rep K φ H (.int i) v) : v = .int i := h
theorem repBl {φ : Phi} {H : Hp} {i : Bool} {v : V} (h : Rep K φ H (.bl i) v) : v = .bl i := h
theorem repStr {φ : Phi} {H : Hp} {i : Str} {v : V} (h : Rep K φ H (.str i) v) : v = .str i := h
theorem repNon {φ : Phi} {H : Hp} {v : V} (h : Rep K φ H .non v) : v = .non := h
theorem repTup {φ : Phi} {H : Hp} {ds : List D} {v : V} (h : Rep K φ H (.tup ds) v) : ∃ a vs, v = .ref a ∧ SqT K H a vs ∧ RepAll K φ H ds vs := by unfold Rep at h; exact h
theorem repRol {φ : Phi} {H : Hp} {ds : List D} {v : V} (h : Rep K φ H (.rol ds) v) : ∃ a vs, v = .ref a ∧ RoL K H a vs ∧ RepAll K φ H ds vs := by unfold Rep at h; exact h
theorem repRef {φ : Phi} {H : Hp} {n : Nat} {v : V} (h : Rep K φ H (.ref n) v) : ∃ a, v = .ref a ∧ φ[n]? = some a := by unfold Rep at h; exact h
theorem repTup' {φ : Phi} {H : Hp} {ds : List D} {a : Addr} {vs : List V} (h1 : SqT K H a vs) (h2 : RepAll K φ H ds vs) : Rep K φ H (.tup ds) (.ref a) := by unfold Rep; exact ⟨a, vs, rfl, h1, h2⟩
theorem od_I {C : Int → Int → Prop} {Cb : Int → Int → Bool} (hC : ∀ i j, Cb i j = true → C i j) (g : Int → Int → Int) : OpD K (rI C fun i j => .int (g i j)) (fI Cb g) := by
  intro CT W σ φ H st dx dy x y Q R rx ry q
  unfold fI at q
  split at q
  · rename_i st' i j
    split at q
    · rename_i hc
      exact ⟨i, j, repInt rx, repInt ry, hC i j hc, Post.done R (show Rep K φ H (.int (g i j)) (.int (g i j)) from rfl) q⟩
    · exact q.elim
  · exact q.elim
theorem od_I0 (g : Int → Int → Int) : OpD K (rI0 fun i j => .int (g i j)) (fI cAny g) := by
  intro CT W σ φ H st dx dy x y Q R rx ry q
  unfold fI at q
  split at q
  · rename_i st' i j
    exact ⟨i, j, repInt rx, repInt ry, Post.done R (show Rep K φ H (.int (g i j)) (.int (g i j)) from rfl) q⟩
  · exact q.elim
theorem od_B (g : Int → Int → Bool) : OpD K (rI0 fun i j => .bl (g i j)) (fB g) := by
  intro CT W σ φ H st dx dy x y Q R rx ry q
  unfold fB at q
  split at q
  · rename_i st' i j
    exact ⟨i, j, repInt rx, repInt ry, Post.done R (show Rep K φ H (.bl (g i j)) (.bl (g i j)) from rfl) q⟩
  · exact q.elim
def cMul (i j : Int) : Bool := decide (i.natAbs < 2 ^ 64) || decide (j.natAbs < 2 ^ 64)
theorem cMul_ok (i j : Int) (h : cMul i j = true) : CMul i j := by
  unfold cMul at h
  rw [Bool.or_eq_true] at h
  rcases h with h | h
  · have := of_decide_eq_true h; exact .inl (by omega)
  · have := of_decide_eq_true h; exact .inr (by omega)
def cDiv (i j : Int) : Bool := decide (0 < j) && decide (j < 1073741824)
theorem cDiv_ok (i j : Int) (h : cDiv i j = true) : CDiv i j := by
  unfold cDiv at h
  rw [Bool.and_eq_true] at h
  exact ⟨of_decide_eq_true h.1, of_decide_eq_true h.2⟩
def cPos (i j : Int) : Bool := decide (0 < j)
theorem cPos_ok (i j : Int) (h : cPos i j = true) : 0 < j := of_decide_eq_true h
def cNn (i j : Int) : Bool := decide (0 ≤ j)
theorem cNn_ok (i j : Int) (h : cNn i j = true) : 0 ≤ j := of_decide_eq_true h
def cPow (i j : Int) : Bool := decide (0 ≤ j) && decide (j ≤ 1000000) && decide (i.natAbs < 2 ^ 64)
theorem cPow_ok (i j : Int) (h : cPow i j = true) : CPow i j := by
  unfold cPow at h
  rw [Bool.and_eq_true, Bool.and_eq_true] at h
  exact ⟨of_decide_eq_true h.1.1, of_decide_eq_true h.1.2, of_decide_eq_true h.2⟩
abbrev fSub : F2 := fI cAny fun i j => i - j
abbrev fDiv : F2 := fI cDiv fun i j => i / j
abbrev fMod : F2 := fI cPos fun i j => i % j
abbrev fPow : F2 := fI cPow fun i j => i ^ j.toNat
abbrev fShl : F2 := fI cPow fun i j => i * 2 ^ j.toNat
abbrev fShr : F2 := fI cNn fun i j => i / 2 ^ j.toNat
abbrev fAnd : F2 := fI cAny fun i j => Builtin.bitAnd i j
abbrev fOr : F2 := fI cAny fun i j => Builtin.bitOr i j
abbrev fXor : F2 := fI cAny fun i j => Builtin.bitXor i j
abbrev fLe : F2 := fB fun i j => decide (i ≤ j)
abbrev fGt : F2 := fB fun i j => decide (j < i)
abbrev fGe : F2 := fB fun i j => decide (j ≤ i)

/-! ### + -/
/-- t + u of tuples -/
def fCatT : F2
  | .tup xs, .tup ys, st => fits (xs ++ ys) (some (.ok (.tup (xs ++ ys)) st))
  | _, _, _ => none
theorem repAll_nil {φ : Phi} {H : Hp} {vs : List V} (h : RepAll K φ H [] vs) : vs = [] := by unfold RepAll at h; exact h
theorem nil_repAll {φ : Phi} {H : Hp} {ds : List D} (h : RepAll K φ H ds []) : ds = [] := by
  have := h.length; simp at this; exact this
theorem od_catT : OpD K (rCatA K) fCatT := by
  intro CT W σ φ H st dx dy x y Q R rx ry q
  unfold fCatT at q
  split at q
  · rename_i xs ys st'
    obtain ⟨a, vs, e1, h1, r1⟩ := repTup rx
    obtain ⟨b, ws, e2, h2, r2⟩ := repTup ry
    unfold fits at q
    split at q
    · rename_i hl
      refine ⟨a, b, vs, ws, e1, e2, h1, h2, ?_, fun e => ?_, fun e e' => ?_, fun e e' => ?_⟩
      · rw [List.length_append, r1.length, r2.length] at hl
        exact fits_le (l := vs ++ ws) (by rw [List.length_append]; exact hl) |> fun h => by rw [List.length_append] at h; exact h
      · subst e
        have := nil_repAll r1; subst this
        exact Post.done R (repTup' h2 r2) q
      · subst e'
        have := nil_repAll r2; subst this
        rw [List.append_nil] at q
        exact Post.done R (repTup' h1 r1) q
      · exact new_tup R (RepAll.append r1 r2) q
    · exact q.elim
  · exact q.elim
/-- the list in the store at n -/
def cellL (st : Store) (n : Nat) : Option (List D) := match st[n]? with
  | some (.lst xs) => some xs
  | _ => none
theorem cellL_ok {φ : Phi} {H : Hp} {st : Store} {n : Nat} {a : Addr} {xs : List D} (R : RelH K φ H st) (h : φ[n]? = some a) (e : cellL st n = some xs) : ∃ vs, H a = some (.lst vs) ∧ RepAll K φ H xs vs := by
  unfold cellL at e
  split at e
  · rename_i ys hy
    cases e
    exact R.cell n a _ h hy
  · cases e
def fCatL : F2
  | .ref m, .ref n, st => match cellL st m, cellL st n with
    | some xs, some ys => fits (xs ++ ys) (some (.ok (.ref st.length) (st ++ [.lst (xs ++ ys)])))
    | _, _ => none
  | _, _, _ => none
theorem od_catL : OpD K rCat fCatL := by
  intro CT W σ φ H st dx dy x y Q R rx ry q
  unfold fCatL at q
  split at q
  · rename_i m n st'
    obtain ⟨a, e1, h1⟩ := repRef rx
    obtain ⟨b, e2, h2⟩ := repRef ry
    split at q
    · rename_i xs ys hx hy
      obtain ⟨vs, k1, r1⟩ := cellL_ok R h1 hx
      obtain ⟨ws, k2, r2⟩ := cellL_ok R h2 hy
      unfold fits at q
      split at q
      · rename_i hl
        refine ⟨a, b, vs, ws, e1, e2, k1, k2, ?_, new_lst R (RepAll.append r1 r2) q⟩
        rw [List.length_append, r1.length, r2.length] at hl
        rw [sizeLine_eq]; exact hl
      · exact q.elim
    · exact q.elim
  · exact q.elim
def isI : D → Bool
  | .int _ => true
  | _ => false
def isTp : D → Bool
  | .tup _ => true
  | _ => false
def fAdd : F2 := fun x y st => if isI x = true then fI cAny (fun i j => i + j) x y st else if isTp x = true then fCatT x y st else fCatL x y st
def rAddA (K : PySem.W.Frag) : R2 := fun x y H Q => rI0 (fun i j => .int (i + j)) x y H Q ∨ rCatA K x y H Q ∨ rCat x y H Q
theorem op_addA : OpR X (binaryOp .Add) (rAddA X.K) := op_add.or (op_catA.or op_cat)
theorem od_add : OpD K (rAddA K) fAdd := OpD.or (p := fun x _ _ => isI x) (od_I0 _) (OpD.or (p := fun x _ _ => isTp x) od_catT od_catL)

/-! ### * -/
def fRep : F2
  | .ref m, .int k, st => match cellL st m with
    | some xs => if 0 ≤ k ∧ xs.length * k.toNat ≤ 16777216 ∧ k < 2 ^ 62 then some (.ok (.ref st.length) (st ++ [.lst (List.replicate k.toNat xs).flatten])) else none
    | _ => none
  | _, _, _ => none
theorem RepAll.rep {φ : Phi} {H : Hp} {ds : List D} {vs : List V} (h : RepAll K φ H ds vs) : ∀ k : Nat, RepAll K φ H (List.replicate k ds).flatten (List.replicate k vs).flatten
  | 0 => rfl
  | k + 1 => by
    rw [List.replicate_succ, List.replicate_succ, List.flatten_cons, List.flatten_cons]
    exact RepAll.append h (RepAll.rep h k)
theorem od_rep : OpD K rRep fRep := by
  intro CT W σ φ H st dx dy x y Q R rx ry q
  unfold fRep at q
  split at q
  · rename_i st' m k
    obtain ⟨a, e1, h1⟩ := repRef rx
    split at q
    · rename_i xs hx
      obtain ⟨vs, k1, r1⟩ := cellL_ok R h1 hx
      split at q
      · rename_i hl
        obtain ⟨l1, l2, l3⟩ := hl
        refine ⟨a, k, vs, e1, repInt ry, k1, by omega, by omega, ?_, new_lst R (RepAll.rep r1 _) q⟩
        rw [← r1.length, sizeLine_eq]; exact l2
      · exact q.elim
    · exact q.elim
  · exact q.elim
def fMul : F2 := fun x y st => if isI x = true then fI cMul (fun i j => i * j) x y st else fRep x y st
def rMulA : R2 := fun x y H Q => rI CMul (fun i j => .int (i * j)) x y H Q ∨ rRep x y H Q
theorem op_mulA : OpR X (binaryOp .Mult) rMulA := op_mul.or op_rep
theorem od_mul : OpD K rMulA fMul := OpD.or (p := fun x _ _ => isI x) (od_I cMul_ok _) od_rep

/-! ### data -/
def optAll {α : Type} : List (Option α) → Option (List α)
  | [] => some []
  | some a :: r => match optAll r with
    | some l => some (a :: l)
    | none => none
  | none :: _ => none
def pd (st : Store) : Nat → D → Option PyData
  | _, .non => some .none
  | _, .bl b => some (.bool b)
  | _, .int i => some (.int i)
  | _, .str x => some (.str x)
  | k + 1, .tup ds => (optAll (ds.map (pd st k))).map .tuple
  | k + 1, .rol ds => (optAll (ds.map (pd st k))).map .list
  | k + 1, .ref n => match cellL st n with
    | some ds => (optAll (ds.map (pd st k))).map .list
    | none => none
  | 0, .tup _ => none
  | 0, .rol _ => none
  | 0, .ref _ => none
theorem optAll_dp {φ : Phi} {H : Hp} {f : D → Option PyData} (hf : ∀ d v p, f d = some p → Rep K φ H d v → Dp K H v p) : ∀ {ds : List D} {vs : List V} {ps : List PyData}, optAll (ds.map f) = some ps → RepAll K φ H ds vs → DpAll K H vs ps
  | [], _, _, e, h => by
    rw [repAll_nil h]
    simp only [List.map_nil, optAll, Option.some.injEq] at e
    subst e; exact .nil
  | d :: ds, _, _, e, h => by
    unfold RepAll at h
    obtain ⟨v, r, rfl, h1, h2⟩ := h
    rw [List.map_cons] at e
    unfold optAll at e
    split at e
    · rename_i e0; exact absurd e0 (by simp)
    · rename_i a r' hc
      split at e
      · rename_i l hl
        cases e
        rw [List.cons.injEq] at hc
        rw [← hc.2] at hl
        exact .cons (hf d v a hc.1 h1) (optAll_dp hf hl h2)
      · cases e
    · cases e
theorem pd_ok {φ : Phi} {H : Hp} {st : Store} (R : RelH K φ H st) : ∀ (k : Nat) (d : D) (v : V) (p : PyData), pd st k d = some p → Rep K φ H d v → Dp K H v p
  | k, .non, v, p, e, h => by
    unfold pd at e; cases e; rw [repNon h]; exact .non
  | k, .bl b, v, p, e, h => by
    unfold pd at e; cases e; rw [repBl h]; exact .bl b
  | k, .int b, v, p, e, h => by
    unfold pd at e; cases e; rw [repInt h]; exact .int b
  | k, .str b, v, p, e, h => by
    unfold pd at e; cases e; rw [repStr h]; exact .str b
  | k + 1, .tup ds, v, p, e, h => by
    unfold pd at e
    obtain ⟨ps, e1, e2⟩ := Option.map_eq_some_iff.mp e
    subst e2
    obtain ⟨a, vs, rfl, h1, h2⟩ := repTup h
    exact .tup h1 (optAll_dp (pd_ok R k) e1 h2)
  | k + 1, .rol ds, v, p, e, h => by
    unfold pd at e
    obtain ⟨ps, e1, e2⟩ := Option.map_eq_some_iff.mp e
    subst e2
    obtain ⟨a, vs, rfl, h1, h2⟩ := repRol h
    exact .lst h1.sq (optAll_dp (pd_ok R k) e1 h2)
  | k + 1, .ref n, v, p, e, h => by
    unfold pd at e
    split at e
    · rename_i ds hd
      obtain ⟨ps, e1, e2⟩ := Option.map_eq_some_iff.mp e
      subst e2
      obtain ⟨a, rfl, h1⟩ := repRef h
      obtain ⟨vs, h2, h3⟩ := cellL_ok R h1 hd
      exact .lst (SqL.of h2) (optAll_dp (pd_ok R k) e1 h3)
    · cases e
  | 0, .tup _, _, _, e, _ => by unfold pd at e; cases e
  | 0, .rol _, _, _, e, _ => by unfold pd at e; cases e
  | 0, .ref _, _, _, e, _ => by unfold pd at e; cases e
def fEqG (neg : Bool) : F2 := fun x y st => match pd st 16 x, pd st 16 y with
  | some d, some e => if SeqAt.shaped d = true ∧ SeqAt.shaped e = true then some (.ok (.bl (if neg then !PyData.eqv d e else PyData.eqv d e)) st) else none
  | _, _ => none
abbrev fEq : F2 := fEqG false
abbrev fNe : F2 := fEqG true
theorem od_eq : OpD K (rEqD K) fEq := by
  intro CT W σ φ H st dx dy x y Q R rx ry q
  unfold fEq fEqG at q
  split at q
  · rename_i d e hd he
    split at q
    · rename_i hs
      exact ⟨d, e, pd_ok R _ _ _ _ hd rx, pd_ok R _ _ _ _ he ry, hs.1, hs.2, Post.done R (show Rep K φ H (.bl _) (.bl _) from rfl) q⟩
    · exact q.elim
  · exact q.elim
theorem od_ne : OpD K (rNeD K) fNe := by
  intro CT W σ φ H st dx dy x y Q R rx ry q
  unfold fNe fEqG at q
  split at q
  · rename_i d e hd he
    split at q
    · rename_i hs
      exact ⟨d, e, pd_ok R _ _ _ _ hd rx, pd_ok R _ _ _ _ he ry, hs.1, hs.2, Post.done R (show Rep K φ H (.bl _) (.bl _) from rfl) q⟩
    · exact q.elim
  · exact q.elim

/-! ### < of ints and of tuples of ints -/
def asInt : D → Option Int
  | .int i => some i
  | _ => none
def asInts (ds : List D) : Option (List Int) := optAll (ds.map asInt)
theorem asInts_ok {φ : Phi} {H : Hp} : ∀ {ds : List D} {vs : List V} {ns : List Int}, asInts ds = some ns → RepAll K φ H ds vs → vs = ns.map V.int
  | [], _, _, e, h => by
    rw [repAll_nil h]
    unfold asInts at e
    simp only [List.map_nil, optAll, Option.some.injEq] at e
    subst e; rfl
  | d :: ds, _, _, e, h => by
    unfold RepAll at h
    obtain ⟨v, r, rfl, h1, h2⟩ := h
    unfold asInts at e
    rw [List.map_cons] at e
    unfold optAll at e
    split at e
    · rename_i e0; exact absurd e0 (by simp)
    · rename_i a r' hc
      split at e
      · rename_i l hl
        cases e
        rw [List.cons.injEq] at hc
        rw [← hc.2] at hl
        have e3 := asInts_ok (ds := ds) (ns := l) hl h2
        rw [e3]
        cases d with
        | int i =>
          have := hc.1
          unfold asInt at this
          cases this
          rw [repInt h1]; rfl
        | _ => exact absurd hc.1 (by simp [asInt])
      · cases e
    · cases e
def fLtT : F2
  | .tup xs, .tup ys, st => match asInts xs, asInts ys with
    | some ns, some ms => some (.ok (.bl (HT.lexLt ns ms)) st)
    | _, _ => none
  | _, _, _ => none
theorem od_ltT : OpD K (rLtT K) fLtT := by
  intro CT W σ φ H st dx dy x y Q R rx ry q
  unfold fLtT at q
  split at q
  · rename_i xs ys st'
    obtain ⟨a, vs, e1, h1, r1⟩ := repTup rx
    obtain ⟨b, ws, e2, h2, r2⟩ := repTup ry
    split at q
    · rename_i ns ms hn hm
      rw [asInts_ok hn r1] at h1
      rw [asInts_ok hm r2] at h2
      exact ⟨a, b, ns, ms, e1, e2, h1, h2, Post.done R (show Rep K φ H (.bl _) (.bl _) from rfl) q⟩
    · exact q.elim
  · exact q.elim
def fLt : F2 := fun x y st => if isI x = true then fB (fun i j => decide (i < j)) x y st else fLtT x y st
def rLtA (K : PySem.W.Frag) : R2 := fun x y H Q => rI0 (fun i j => .bl (decide (i < j))) x y H Q ∨ rLtT K x y H Q
theorem op_ltA (hu : X.A.units < cLine) : OpR X (compareOp .Lt) (rLtA X.K) := op_lt.or (op_ltT hu)
theorem od_lt : OpD K (rLtA K) fLt := OpD.or (p := fun x _ _ => isI x) (od_B _) od_ltT

/-! ### is -/
def isNon : D → Bool
  | .non => true
  | _ => false
theorem isNon_rep {φ : Phi} {H : Hp} : ∀ {d : D} {v : V}, Rep K φ H d v → isNon d = decide (v = .non)
  | .non, v, h => by rw [repNon h]; rfl
  | .bl _, v, h => by rw [repBl h]; rfl
  | .int _, v, h => by rw [repInt h]; simp [isNon]
  | .str _, v, h => by rw [repStr h]; simp [isNon]
  | .tup _, v, h => by obtain ⟨a, vs, rfl, _⟩ := repTup h; simp [isNon]
  | .rol _, v, h => by obtain ⟨a, vs, rfl, _⟩ := repRol h; simp [isNon]
  | .ref _, v, h => by obtain ⟨a, rfl, _⟩ := repRef h; simp [isNon]
def fIsN (neg : Bool) : F2 := fun x y st => if isNon y = true then some (.ok (.bl (if neg then !isNon x else isNon x)) st) else none
def fIsB (neg : Bool) : F2
  | .bl a, .bl b, st => some (.ok (.bl (if neg then !decide (a = b) else decide (a = b))) st)
  | _, _, _ => none
def fIs (neg : Bool) : F2 := fun x y st => if isNon y = true then fIsN neg x y st else fIsB neg x y st
def rIsA : R2 := fun x y H Q => (y = .non ∧ Q (.bl (decide (x = .non))) H) ∨ rIsB x y H Q
def rNotA : R2 := fun x y H Q => (y = .non ∧ Q (.bl (!decide (x = .non))) H) ∨ rNotB x y H Q
theorem op_isA : OpR X (compareOp .Is) rIsA := op_isN.or op_isBl
theorem op_notA : OpR X (compareOp .IsNot) rNotA := op_notN.or op_notBl
theorem od_is : OpD K rIsA (fIs false) := by
  refine OpD.or (p := fun _ y _ => isNon y) ?_ ?_
  · intro CT W σ φ H st dx dy x y Q R rx ry q
    unfold fIsN at q
    split at q
    · rename_i hy
      rw [isNon_rep ry] at hy
      refine ⟨of_decide_eq_true hy, ?_⟩
      rw [← isNon_rep rx]
      exact Post.done R (show Rep K φ H (.bl _) (.bl _) from rfl) q
    · exact q.elim
  · intro CT W σ φ H st dx dy x y Q R rx ry q
    unfold fIsB at q
    split at q
    · exact ⟨_, _, repBl rx, repBl ry, Post.done R (show Rep K φ H (.bl _) (.bl _) from rfl) q⟩
    · exact q.elim
theorem od_isnot : OpD K rNotA (fIs true) := by
  refine OpD.or (p := fun _ y _ => isNon y) ?_ ?_
  · intro CT W σ φ H st dx dy x y Q R rx ry q
    unfold fIsN at q
    split at q
    · rename_i hy
      rw [isNon_rep ry] at hy
      refine ⟨of_decide_eq_true hy, ?_⟩
      rw [← isNon_rep rx]
      exact Post.done R (show Rep K φ H (.bl _) (.bl _) from rfl) q
    · exact q.elim
  · intro CT W σ φ H st dx dy x y Q R rx ry q
    unfold fIsB at q
    split at q
    · exact ⟨_, _, repBl rx, repBl ry, Post.done R (show Rep K φ H (.bl _) (.bl _) from rfl) q⟩
    · exact q.elim

/-! ### in -/
def keyD : D → Option Key
  | .int i => some (.inl i)
  | .str x => some (.inr x)
  | _ => none
theorem keyD_ok {φ : Phi} {H : Hp} : ∀ {d : D} {v : V} {k : Key}, keyD d = some k → Rep K φ H d v → v = kV k
  | .int i, v, k, e, h => by unfold keyD at e; cases e; rw [repInt h]; rfl
  | .str i, v, k, e, h => by unfold keyD at e; cases e; rw [repStr h]; rfl
def cellD (st : Store) (n : Nat) : Option (List (Key × D)) := match st[n]? with
  | some (.dct xs) => some xs
  | _ => none
theorem cellD_ok {φ : Phi} {H : Hp} {st : Store} {n : Nat} {a : Addr} {xs : List (Key × D)} (R : RelH K φ H st) (h : φ[n]? = some a) (e : cellD st n = some xs) : ∃ vs, H a = some (.dK vs) ∧ RepKV K φ H xs vs := by
  unfold cellD at e
  split at e
  · rename_i ys hy
    cases e
    exact R.cell n a _ h hy
  · cases e
/-- d[k], where it is -/
def lookK (kvs : List (Key × D)) (k : Key) : Option D := match kvs with
  | [] => none
  | p :: r => if p.1 = k then some p.2 else lookK r k
def putD : List (Key × D) → Key → D → List (Key × D)
  | [], k, v => [(k, v)]
  | p :: r, k, v => if p.1 = k then (p.1, v) :: r else p :: putD r k v
theorem lookK_some {φ : Phi} {H : Hp} : ∀ {kvs : List (Key × D)} {ws : List (Key × V)} {k : Key} {d : D}, RepKV K φ H kvs ws → lookK kvs k = some d → ∃ v, valV ws k = some v ∧ Rep K φ H d v
  | _, _, k, d, .nil, e => by unfold lookK at e; cases e
  | p :: kvs, q :: ws, k, d, .cons h t, e => by
    unfold lookK at e
    split at e
    · rename_i hk
      cases e
      exact ⟨q.2, valV_pos (h.1.symm.trans hk), h.2⟩
    · rename_i hk
      obtain ⟨v, a, b⟩ := lookK_some t e
      exact ⟨v, by rw [valV_neg (fun z => hk (h.1.trans z))]; exact a, b⟩
theorem lookK_none {φ : Phi} {H : Hp} : ∀ {kvs : List (Key × D)} {ws : List (Key × V)} {k : Key}, RepKV K φ H kvs ws → lookK kvs k = none → valV ws k = none
  | _, _, k, .nil, e => rfl
  | p :: kvs, q :: ws, k, .cons h t, e => by
    unfold lookK at e
    split at e
    · cases e
    · rename_i hk
      rw [valV_neg (fun z => hk (h.1.trans z))]; exact lookK_none t e
theorem lookK_iso {φ : Phi} {H : Hp} {kvs : List (Key × D)} {ws : List (Key × V)} {k : Key} (h : RepKV K φ H kvs ws) : (lookK kvs k).isSome = (valV ws k).isSome := by
  cases e : lookK kvs k with
  | none => rw [lookK_none h e]; rfl
  | some d => obtain ⟨v, a, _⟩ := lookK_some h e; rw [a]; rfl
/-- == of flat values -/
def eqF : D → D → Option Bool
  | .non, .non => some true
  | .bl a, .bl b => some (a == b)
  | .bl a, .int b => some ((if a then 1 else 0) == b)
  | .int a, .bl b => some (a == (if b then 1 else 0))
  | .int a, .int b => some (a == b)
  | .str a, .str b => some (a == b)
  | .non, .bl _ | .non, .int _ | .non, .str _ | .bl _, .non | .bl _, .str _ | .int _, .non | .int _, .str _ | .str _, .non | .str _, .bl _ | .str _, .int _ => some false
  | _, _ => none
theorem eqF_ok {φ : Phi} {H : Hp} : ∀ {d e : D} {v w : V} {b : Bool}, eqF d e = some b → Rep K φ H d v → Rep K φ H e w → flatV v = true ∧ flatV w = true ∧ eqV v w = b := by
  intro d e v w b h r1 r2
  cases d <;> cases e <;> simp only [eqF, Option.some.injEq] at h <;> first
    | (cases r1; cases r2; subst h; exact ⟨rfl, rfl, rfl⟩)
    | (exact absurd h (by simp))
    | (cases h)
def anyF (d : D) : List D → Option Bool
  | [] => some false
  | e :: r => match eqF e d, anyF d r with
    | some a, some b => some (a || b)
    | _, _ => none
theorem anyF_ok {φ : Phi} {H : Hp} {d : D} {v : V} (rd : Rep K φ H d v) : ∀ {ds : List D} {vs : List V} {b : Bool}, anyF d ds = some b → RepAll K φ H ds vs → vs.all flatV = true ∧ inV v vs = b ∧ (ds ≠ [] → flatV v = true)
  | [], _, _, h, r => by
    rw [repAll_nil r]
    unfold anyF at h; cases h
    exact ⟨rfl, rfl, fun z => absurd rfl z⟩
  | e :: ds, _, _, h, r => by
    unfold RepAll at r
    obtain ⟨w, t, rfl, r1, r2⟩ := r
    unfold anyF at h
    split at h
    · rename_i a b ha hb
      cases h
      obtain ⟨f1, f2, f3⟩ := eqF_ok ha r1 rd
      obtain ⟨g1, g2, _⟩ := anyF_ok rd hb r2
      refine ⟨by rw [List.all_cons, f1, g1]; rfl, ?_, fun _ => f2⟩
      show ((w :: t).any fun y => eqV y v) = (a || b)
      rw [List.any_cons, f3]
      have g2' : (t.any fun y => eqV y v) = b := g2
      rw [g2']
    · cases h
def seqD (st : Store) : D → Option (List D)
  | .tup xs => some xs
  | .rol xs => some xs
  | .ref n => cellL st n
  | _ => none
theorem seqD_ok {φ : Phi} {H : Hp} {st : Store} (R : RelH K φ H st) : ∀ {d : D} {v : V} {xs : List D}, seqD st d = some xs → Rep K φ H d v → ∃ a vs, v = .ref a ∧ (SqL K H a vs ∨ SqT K H a vs) ∧ RepAll K φ H xs vs
  | .tup _, v, xs, e, h => by
    unfold seqD at e; cases e
    obtain ⟨a, vs, e1, h1, h2⟩ := repTup h
    exact ⟨a, vs, e1, .inr h1, h2⟩
  | .rol _, v, xs, e, h => by
    unfold seqD at e; cases e
    obtain ⟨a, vs, e1, h1, h2⟩ := repRol h
    exact ⟨a, vs, e1, .inl h1.sq, h2⟩
  | .ref n, v, xs, e, h => by
    unfold seqD at e
    obtain ⟨a, e1, h1⟩ := repRef h
    obtain ⟨vs, h2, h3⟩ := cellL_ok R h1 e
    exact ⟨a, vs, e1, .inl (SqL.of h2), h3⟩
def isFl (d : D) : Bool := match d with
  | .non | .bl _ | .int _ | .str _ => true
  | _ => false
theorem isFl_ok {φ : Phi} {H : Hp} : ∀ {d : D} {v : V}, isFl d = true → Rep K φ H d v → flatV v = true
  | .non, _, _, h => by cases h; rfl
  | .bl _, _, _, h => by cases h; rfl
  | .int _, _, _, h => by cases h; rfl
  | .str _, _, _, h => by cases h; rfl
  | .tup _, _, e, _ => by cases e
  | .rol _, _, e, _ => by cases e
  | .ref _, _, e, _ => by cases e
def fInF (neg : Bool) : F2 := fun x y st => match seqD st y with
  | some ds => if isFl x = true then (match anyF x ds with
    | some b => some (.ok (.bl (if neg then !b else b)) st)
    | none => none) else none
  | none => none
theorem od_inF (neg : Bool) : OpD K (rIn K neg) (fInF neg) := by
  intro CT W σ φ H st dx dy x y Q R rx ry q
  unfold fInF at q
  split at q
  · rename_i ds hs
    split at q
    · rename_i hf
      split at q
      · rename_i b hb
        obtain ⟨a, vs, e1, h1, h2⟩ := seqD_ok R hs ry
        obtain ⟨g1, g2, _⟩ := anyF_ok rx hb h2
        refine ⟨a, vs, e1, h1, isFl_ok hf rx, g1, ?_⟩
        rw [g2]
        exact Post.done R (show Rep K φ H (.bl _) (.bl _) from rfl) q
      · exact q.elim
    · exact q.elim
  · exact q.elim
/-- k in d -/
def rInK (neg : Bool) : R2 := fun x y H Q => ∃ a o, y = .ref a ∧ DGet H a x o ∧ Q (.bl (if neg then !o.isSome else o.isSome)) H
theorem op_inK (hu : X.A.units + 1 < cLine) : OpR X (compareOp .In) (rInK false) := by
  intro pins s σ H x y v u Q I rx ry h
  obtain ⟨a, o, rfl, g, q⟩ := h
  cases ry
  exact d_in hu I g rx fun s' I' => ⟨.bl o.isSome, H, I', rfl, q⟩
theorem op_notInK (hu : X.A.units + 1 < cLine) : OpR X (compareOp .NotIn) (rInK true) := by
  intro pins s σ H x y v u Q I rx ry h
  obtain ⟨a, o, rfl, g, q⟩ := h
  cases ry
  exact d_notIn hu I g rx fun s' I' => ⟨.bl (!o.isSome), H, I', rfl, q⟩
def fInK (neg : Bool) : F2
  | x, .ref n, st => match keyD x, cellD st n with
    | some k, some kvs => some (.ok (.bl (if neg then !(lookK kvs k).isSome else (lookK kvs k).isSome)) st)
    | _, _ => none
  | _, _, _ => none
theorem od_inK (neg : Bool) : OpD K (rInK neg) (fInK neg) := by
  intro CT W σ φ H st dx dy x y Q R rx ry q
  unfold fInK at q
  split at q
  · rename_i d n st'
    split at q
    · rename_i k kvs hk hc
      obtain ⟨a, e1, h1⟩ := repRef ry
      obtain ⟨ws, h2, h3⟩ := cellD_ok R h1 hc
      refine ⟨a, valV ws k, e1, by rw [keyD_ok hk rx]; exact DGet.k h2, ?_⟩
      rw [← lookK_iso h3]
      exact Post.done R (show Rep K φ H (.bl _) (.bl _) from rfl) q
    · exact q.elim
  · exact q.elim
def isDc (st : Store) : D → Bool
  | .ref n => (cellD st n).isSome
  | _ => false
/-- data in a list of data -/
def fInD (neg : Bool) : F2 := fun x y st => match pd st 16 x, pd st 16 y with
  | some d, some (.list ds) => if SeqAt.shaped d = true ∧ SeqAt.shaped (.list ds) = true then some (.ok (.bl (if neg then !(ds.any fun z => PyData.eqv z d) else (ds.any fun z => PyData.eqv z d))) st) else none
  | _, _ => none
theorem od_inD : OpD K (rInD K) (fInD false) := by
  intro CT W σ φ H st dx dy x y Q R rx ry q
  unfold fInD at q
  split at q
  · rename_i d ds hd he
    split at q
    · rename_i hs
      exact ⟨d, ds, pd_ok R _ _ _ _ hd rx, pd_ok R _ _ _ _ he ry, hs.1, hs.2, Post.done R (show Rep K φ H (.bl _) (.bl _) from rfl) q⟩
    · exact q.elim
  · exact q.elim
theorem od_notInD : OpD K (rNotInD K) (fInD true) := by
  intro CT W σ φ H st dx dy x y Q R rx ry q
  unfold fInD at q
  split at q
  · rename_i d ds hd he
    split at q
    · rename_i hs
      exact ⟨d, ds, pd_ok R _ _ _ _ hd rx, pd_ok R _ _ _ _ he ry, hs.1, hs.2, Post.done R (show Rep K φ H (.bl _) (.bl _) from rfl) q⟩
    · exact q.elim
  · exact q.elim
/-- data in a tuple of data -/
def rInU (K : PySem.W.Frag) (neg : Bool) : R2 := fun x y H Q => ∃ d ds, Dp K H x d ∧ Dp K H y (.tuple ds) ∧ SeqAt.shaped d = true ∧ SeqAt.shaped (.tuple ds) = true ∧ Q (.bl (if neg then !(ds.any fun z => PyData.eqv z d) else (ds.any fun z => PyData.eqv z d))) H
theorem op_inU (hu : X.A.units + 65 < cLine) : OpR X (compareOp .In) (rInU X.K false) := by
  intro pins s σ H x y v u Q I rx ry h
  obtain ⟨d, ds, hd, he, sd, se, q⟩ := h
  obtain ⟨as, r1⟩ := Dp.reads I d x v hd rx
  obtain ⟨bs, r2⟩ := Dp.reads I (.tuple ds) y u he ry
  exact SeqAt.in_tuple_reads r2 r1 (SeqAt.canLay_of_shaped se) (SeqAt.canLay_of_shaped sd) (room_in_shaped sd hu) ⟨.bl _, H, I, rfl, q⟩
theorem op_notInU (hu : X.A.units + 65 < cLine) : OpR X (compareOp .NotIn) (rInU X.K true) := by
  intro pins s σ H x y v u Q I rx ry h
  obtain ⟨d, ds, hd, he, sd, se, q⟩ := h
  obtain ⟨as, r1⟩ := Dp.reads I d x v hd rx
  obtain ⟨bs, r2⟩ := Dp.reads I (.tuple ds) y u he ry
  exact SeqAt.notIn_tuple_reads r2 r1 (SeqAt.canLay_of_shaped se) (SeqAt.canLay_of_shaped sd) (room_in_shaped sd hu) ⟨.bl _, H, I, rfl, q⟩
def fInU (neg : Bool) : F2 := fun x y st => match pd st 16 x, pd st 16 y with
  | some d, some (.tuple ds) => if SeqAt.shaped d = true ∧ SeqAt.shaped (.tuple ds) = true then some (.ok (.bl (if neg then !(ds.any fun z => PyData.eqv z d) else (ds.any fun z => PyData.eqv z d))) st) else none
  | _, _ => none
theorem od_inU (neg : Bool) : OpD K (rInU K neg) (fInU neg) := by
  intro CT W σ φ H st dx dy x y Q R rx ry q
  unfold fInU at q
  split at q
  · rename_i d ds hd he
    split at q
    · rename_i hs
      exact ⟨d, ds, pd_ok R _ _ _ _ hd rx, pd_ok R _ _ _ _ he ry, hs.1, hs.2, Post.done R (show Rep K φ H (.bl _) (.bl _) from rfl) q⟩
    · exact q.elim
  · exact q.elim
def fIn (neg : Bool) : F2 := fun x y st => if isDc st y = true then fInK neg x y st else if isFl x = true then fInF neg x y st else if isTp y = true then fInU neg x y st else fInD neg x y st
def rInA (K : PySem.W.Frag) : R2 := fun x y H Q => rInK false x y H Q ∨ rIn K false x y H Q ∨ rInU K false x y H Q ∨ rInD K x y H Q
def rNotInA (K : PySem.W.Frag) : R2 := fun x y H Q => rInK true x y H Q ∨ rIn K true x y H Q ∨ rInU K true x y H Q ∨ rNotInD K x y H Q
theorem op_inA (hu : X.A.units + 65 < cLine) : OpR X (compareOp .In) (rInA X.K) := (op_inK (by omega)).or (op_in_seq.or ((op_inU hu).or (op_inD hu)))
theorem op_notInA (hu : X.A.units + 65 < cLine) : OpR X (compareOp .NotIn) (rNotInA X.K) := (op_notInK (by omega)).or (op_notIn_seq.or ((op_notInU hu).or (op_notInD hu)))
theorem od_in : OpD K (rInA K) (fIn false) := OpD.or (p := fun _ y st => isDc st y) (od_inK false) (OpD.or (p := fun x _ _ => isFl x) (od_inF false) (OpD.or (p := fun _ y _ => isTp y) (od_inU false) od_inD))
theorem od_notIn : OpD K (rNotInA K) (fIn true) := OpD.or (p := fun _ y st => isDc st y) (od_inK true) (OpD.or (p := fun x _ _ => isFl x) (od_inF true) (OpD.or (p := fun _ y _ => isTp y) (od_inU true) od_notInD))
end
end MP
set_option Elab.async false
set_option linter.all false
set_option autoImplicit false
set_option maxRecDepth 100000
set_option maxHeartbeats 2000000
/-! Mp4: subscripts, slices, statements, what is walked, loops. -/
namespace MP
open PySem PySem.Spec PyProof.Rows L2

section
variable {K : PySem.W.Frag} {X : Cx} {CT : CTab} {W : WX} {a b c e : Expr} {es : List Expr} {ga gb g : G} {gA : GA} {pos : Pos}
/-! ### subscripts -/
theorem atI_rep {φ : Phi} {H : Hp} {ds : List D} {vs : List V} {i : Int} {d : D} (r : RepAll K φ H ds vs) (h : atI ds i = some d) : ∃ v, atI vs i = some v ∧ Rep K φ H d v := by
  unfold atI at h ⊢
  rw [r.length] at h
  obtain ⟨j, h1, h2⟩ := Option.bind_eq_some_iff.mp h
  obtain ⟨v, h3, h4⟩ := r.get h2
  exact ⟨v, Option.bind_eq_some_iff.mpr ⟨j, h1, h3⟩, h4⟩
def fIxT : F2
  | .tup xs, .int i, st => (atI xs i).map fun d => .ok d st
  | _, _, _ => none
def fIxL : F2
  | .rol xs, .int i, st => (atI xs i).map fun d => .ok d st
  | .ref n, .int i, st => match cellL st n with
    | some xs => (atI xs i).map fun d => .ok d st
    | none => none
  | _, _, _ => none
def fIxD : F2
  | .ref n, y, st => match cellD st n, keyD y with
    | some kvs, some k => (lookK kvs k).map fun d => .ok d st
    | _, _ => none
  | _, _, _ => none
theorem post_map {φ : Phi} {H : Hp} {σ : L2.St} {st : Store} {o : Option D} {Q : VK} (q : Post (rpE K) K CT W σ φ H (o.map fun d => Out.ok d st) Q) : ∃ d, o = some d ∧ Post (rpE K) K CT W σ φ H (some (.ok d st)) Q := by
  cases o with
  | none => exact q.elim
  | some d => exact ⟨d, rfl, q⟩
theorem od_ixT : OpD K (rIxT K) fIxT := by
  intro CT W σ φ H st dx dy x y Q R rx ry q
  unfold fIxT at q
  split at q
  · rename_i st' xs i
    obtain ⟨d, h1, q⟩ := post_map q
    obtain ⟨a, vs, e1, h2, r⟩ := repTup rx
    obtain ⟨v, h3, h4⟩ := atI_rep r h1
    exact ⟨a, vs, i, v, e1, repInt ry, h2, h3, Post.done R h4 q⟩
  · exact q.elim
theorem od_ixL : OpD K (rIxL K) fIxL := by
  intro CT W σ φ H st dx dy x y Q R rx ry q
  unfold fIxL at q
  split at q
  · rename_i st' xs i
    obtain ⟨d, h1, q⟩ := post_map q
    obtain ⟨a, vs, e1, h2, r⟩ := repRol rx
    obtain ⟨v, h3, h4⟩ := atI_rep r h1
    exact ⟨a, vs, i, v, e1, repInt ry, h2.sq, h3, Post.done R h4 q⟩
  · rename_i st' n i
    split at q
    · rename_i xs hx
      obtain ⟨d, h1, q⟩ := post_map q
      obtain ⟨a, e1, h2⟩ := repRef rx
      obtain ⟨vs, h5, r⟩ := cellL_ok R h2 hx
      obtain ⟨v, h3, h4⟩ := atI_rep r h1
      exact ⟨a, vs, i, v, e1, repInt ry, SqL.of h5, h3, Post.done R h4 q⟩
    · exact q.elim
  · exact q.elim
def rIxK : R2 := fun x y H Q => ∃ a v, x = .ref a ∧ DGet H a y (some v) ∧ Q v H
theorem od_ixD : OpD K rIxK fIxD := by
  intro CT W σ φ H st dx dy x y Q R rx ry q
  unfold fIxD at q
  split at q
  · rename_i st' n dy
    split at q
    · rename_i kvs k hc hk
      obtain ⟨d, h1, q⟩ := post_map q
      obtain ⟨a, e1, h2⟩ := repRef rx
      obtain ⟨ws, h5, r⟩ := cellD_ok R h2 hc
      obtain ⟨v, h3, h4⟩ := lookK_some r h1
      refine ⟨a, v, e1, ?_, Post.done R h4 q⟩
      rw [keyD_ok hk ry, ← h3]
      exact DGet.k h5
    · exact q.elim
  · exact q.elim
theorem ix_dict (hu : X.A.units + 1 < cLine) : IxR X rIxK := by
  intro value slice pins s σ H x y v u Q I rx ry h hs
  obtain ⟨a, w, rfl, g, q⟩ := h
  cases rx
  have hT := dict_typeIs I g
  unfold subscriptTail
  refine wpAny_bind ?_
  rw [getitemInPython_of_ne hT.not_modules]
  refine wpAny_bind (wpAny_specialOf hT PySem.F.slot_dict_getitem.lookup ?_)
  have fin : wpAny (model X.prog X.w) X.A (subscripted slice false (.ref a) u) (fun r s₃ => wpAny (model X.prog X.w) X.A (letTemporaryGo value (.ref a) r >>= fun _ => pure r) (EP X pins σ Q) X.xe s₃) X.xe s := by
    rw [hs]
    refine wpAny_operating (d_getItem hu I g ry fun w' s3 I3 rw' => wpAny_bind (wpAny_letTemporaryGo (wpAny_pure ⟨w, H, I3, rw', q⟩)))
  first
    | exact wpAny_pure (wpAny_bind fin)
    | exact wpAny_bind (wpAny_pure (wpAny_bind fin))
    | exact wpAny_bind fin
def fIx : F2 := fun x y st => if isDc st x = true then fIxD x y st else if isTp x = true then fIxT x y st else fIxL x y st
def rIxA (K : PySem.W.Frag) : R2 := fun x y H Q => rIxK x y H Q ∨ rIxT K x y H Q ∨ rIxL K x y H Q
theorem ix_all (hu : X.A.units + 1 < cLine) : IxR X (rIxA X.K) := (ix_dict hu).or (ix_tup.or ix_list)
theorem od_ix : OpD K (rIxA K) fIx := OpD.or (p := fun x _ st => isDc st x) od_ixD (OpD.or (p := fun x _ _ => isTp x) od_ixT od_ixL)
theorem d_ix (hu : X.A.units + 1 < cLine) (ha : DE CT W X a ga) (hb : DE CT W X b gb) (hs : PlainIx b := by intro _ _; rfl) : DE CT W X (.Subscript a b pos) (g2 fIx ga gb) := (pe_ix (ix_all hu) ha hb hs).imp fun _ _ _ h => lE_g2 od_ix h

/-! ### slices -/
abbrev GO := Env → Store → Option (Out (Option Int))
def rpO : Phi → Hp → Option Int → Option Int → Prop := fun _ _ b c => c = b
def lO (K : PySem.W.Frag) (CT : CTab) (W : WX) (g : GO) : TO := fun σ H Q => ∃ φ env st, RelH K φ H st ∧ RelS K φ H σ env ∧ Post rpO K CT W σ φ H (g env st) Q
abbrev DO (CT : CTab) (W : WX) (X : Cx) (e : Option Expr) (g : GO) : Prop := PO X e (lO X.K CT W g)
def gNoPart : GO := fun _ st => some (.ok none st)
def gPart (g : G) : GO := fun env st => rb (g env st) fun d st1 => match d with
  | .int i => some (.ok (some i) st1)
  | _ => none
theorem _root_.L2.PO.imp {X : Cx} {e : Option Expr} {t t' : TO} (h : PO X e t) (i : ∀ σ H Q, t' σ H Q → t σ H Q) : PO X e t' := ⟨fun pins s σ H Q I q => h.run pins s σ H Q I (i _ _ _ q)⟩
theorem o_none : DO CT W X none gNoPart := po_none.imp fun σ H Q h => by
  obtain ⟨φ, env, st, R, S, q⟩ := h
  exact Post.done R rfl q
theorem o_some (h : DE CT W X e g) : DO CT W X (some e) (gPart g) := (po_some h).imp fun σ H Q h => by
  obtain ⟨φ, env, st, R, S, q⟩ := h
  refine ⟨φ, env, st, R, S, (Post.split q).mono ?_⟩
  rintro x H1 ⟨φ1, st1, dx, E1, R1, rx, q1⟩
  split at q1
  · rename_i i
    exact ⟨i, rx, Post.done R1 rfl q1⟩
  · exact q1.elim
def cutD (xs : List D) (lo hi : Option Int) : List D := (xs.drop (HT.sIx xs.length 0 lo)).take (HT.sIx xs.length xs.length hi - HT.sIx xs.length 0 lo)
theorem cut_rep {φ : Phi} {H : Hp} {ds : List D} {vs : List V} (r : RepAll K φ H ds vs) (lo hi : Option Int) : RepAll K φ H (cutD ds lo hi) (cutV vs lo hi) := by
  unfold cutD cutV
  rw [r.length]
  exact RepAll.take _ (RepAll.drop _ r)
abbrev F3 := D → Option Int → Option Int → Store → Option (Out D)
def SlD (K : PySem.W.Frag) (r : V → Option Int → Option Int → Hp → VK → Prop) (f : F3) : Prop := ∀ (CT : CTab) (W : WX) (σ : L2.St) (φ : Phi) (H : Hp) (st : Store) (dx : D) (x : V) (lo hi : Option Int) (Q : VK), RelH K φ H st → Rep K φ H dx x → Post (rpE K) K CT W σ φ H (f dx lo hi st) Q → r x lo hi H Q
def fSl : F3
  | .tup xs, lo, hi, st => some (.ok (.tup (cutD xs lo hi)) st)
  | .rol xs, lo, hi, st => some (.ok (.ref st.length) (st ++ [.lst (cutD xs lo hi)]))
  | .ref n, lo, hi, st => match cellL st n with
    | some xs => some (.ok (.ref st.length) (st ++ [.lst (cutD xs lo hi)]))
    | none => none
  | _, _, _, _ => none
theorem sl_allD : SlD K (fun x lo hi H Q => rSlA K x lo hi H Q ∨ rSlL K x lo hi H Q) fSl := by
  intro CT W σ φ H st dx x lo hi Q R rx q
  unfold fSl at q
  split at q
  · rename_i xs lo' hi' st'
    obtain ⟨a, vs, e1, h2, r⟩ := repTup rx
    refine .inl ⟨a, vs, e1, h2, fun hw => ?_, fun hw => new_tup R (cut_rep r _ _) q⟩
    refine Post.done R ?_ q
    have e : cutV vs lo hi = vs := by
      unfold cutV
      rw [hw.1, hw.2]; simp
    have r' := cut_rep r lo hi
    rw [e] at r'
    exact repTup' h2 r'
  · rename_i xs lo' hi' st'
    obtain ⟨a, vs, e1, h2, r⟩ := repRol rx
    exact .inr ⟨a, vs, e1, h2.sq, new_lst R (cut_rep r _ _) q⟩
  · rename_i n lo' hi' st'
    split at q
    · rename_i xs hx
      obtain ⟨a, e1, h2⟩ := repRef rx
      obtain ⟨vs, h5, r⟩ := cellL_ok R h2 hx
      exact .inr ⟨a, vs, e1, SqL.of h5, new_lst R (cut_rep r _ _) q⟩
    · exact q.elim
  · exact q.elim
def gSl (f : F3) (g : G) (lo hi : GO) : G := fun env st => rb (g env st) fun d st1 => rb (lo env st1) fun l st2 => rb (hi env st2) fun h st3 => f d l h st3
theorem d_sl {lo hi : Option Expr} {gl gh : GO} {p2 : Pos} (he : DE CT W X e g) (hl : DO CT W X lo gl) (hu : DO CT W X hi gh) : DE CT W X (.Subscript e (.Slice lo hi none p2) pos) (gSl fSl g gl gh) :=
  (pe_slice (sl_tupA.or sl_list) he hl hu).imp fun σ H Q h => by
    obtain ⟨φ, env, st, R, S, q⟩ := h
    refine ⟨φ, env, st, R, S, (Post.split q).mono ?_⟩
    rintro x H1 ⟨φ1, st1, dx, E1, R1, rx, q1⟩
    refine ⟨φ1, env, st1, R1, S.ext R E1, (Post.split (rep := rpO) q1).mono ?_⟩
    rintro y H2 ⟨φ2, st2, dy, E2, R2, ry, q2⟩
    obtain rfl : y = dy := ry
    refine ⟨φ2, env, st2, R2, (S.ext R E1).ext R1 E2, (Post.split (rep := rpO) q2).mono ?_⟩
    rintro z H3 ⟨φ3, st3, dz, E3, R3, rz, q3⟩
    obtain rfl : z = dz := rz
    exact sl_allD CT W σ φ3 H3 st3 dx x y z Q R3 (Rep.ext R2 E3 dx (Rep.ext R1 E2 dx rx)) q3

/-! ### statements -/
variable {st1 : Stmt} {sts : List Stmt} {s t : GS} {tt : GT}
def sNext : GS := fun env st => some (.nx env, st)
def sSeq (s t : GS) : GS := fun env st => match s env st with
  | some (.nx env1, st1) => t env1 st1
  | r => r
theorem PostS.imp {D D' : Ends} {φ : Phi} {H : Hp} {r : Option (Fl × Store)} (h : PostS K W CT D φ H r) (i1 : ∀ σ H, D.nx σ H → D'.nx σ H) (i2 : ∀ v H, D.rt v H → D'.rt v H) (i3 : ∀ σ H, D.bk σ H → D'.bk σ H) (i4 : ∀ σ H, D.ct σ H → D'.ct σ H) : PostS K W CT D' φ H r := by
  cases r with
  | none => exact h
  | some o =>
    obtain ⟨f, st⟩ := o
    cases f with
    | nx e => exact fun φ2 H2 v E2 R p => i1 _ _ (h φ2 H2 v E2 R p)
    | bk e => exact fun φ2 H2 v E2 R p => i3 _ _ (h φ2 H2 v E2 R p)
    | ct e => exact fun φ2 H2 v E2 R p => i4 _ _ (h φ2 H2 v E2 R p)
    | rt e => exact fun φ2 H2 v E2 R p => i2 _ _ (h φ2 H2 v E2 R p)
    | xc c fs e => exact h
theorem s_nil : DSs CT W X [] sNext := pss_nil.imp fun D σ H h => by
  obtain ⟨φ, env, st, R, S, q⟩ := h
  exact q φ H σ Ext.refl R S
theorem lS_seq {D : Ends} {σ : L2.St} {H : Hp} (h : lS K CT W (sSeq s t) D σ H) : tSeq (lS K CT W s) (lS K CT W t) D σ H := by
  obtain ⟨φ, env, st, R, S, q⟩ := h
  refine ⟨φ, env, st, R, S, ?_⟩
  unfold sSeq at q
  cases hs : s env st with
  | none => rw [hs] at q; exact q
  | some o =>
    obtain ⟨f, st'⟩ := o
    rw [hs] at q
    cases f with
    | nx e => exact fun φ2 H2 σ2 E2 R2 S2 => ⟨φ2, e, st', R2, S2, PostS.ext E2 q⟩
    | bk e => exact q
    | ct e => exact q
    | rt e => exact q
    | xc c fs e => exact q
theorem s_cons (h1 : DS CT W X st1 s) (h2 : DSs CT W X sts t) : DSs CT W X (st1 :: sts) (sSeq s t) := (pss_cons h1 h2).imp fun D σ H h => lS_seq h
theorem s_one (h1 : DS CT W X st1 s) : DSs CT W X [st1] s := pss_one h1
theorem s_pass : DS CT W X (.Pass pos) sNext := ps_pass.imp fun D σ H h => by
  obtain ⟨φ, env, st, R, S, q⟩ := h
  exact q φ H σ Ext.refl R S
def sBreak : GS := fun env st => some (.bk env, st)
def sCont : GS := fun env st => some (.ct env, st)
theorem s_break : DS CT W X (.Break pos) sBreak := ps_break.imp fun D σ H h => by
  obtain ⟨φ, env, st, R, S, q⟩ := h
  exact q φ H σ Ext.refl R S
theorem s_cont : DS CT W X (.Continue pos) sCont := ps_continue.imp fun D σ H h => by
  obtain ⟨φ, env, st, R, S, q⟩ := h
  exact q φ H σ Ext.refl R S
def sExpr (g : G) : GS := fun env st => sb env (g env st) fun _ st1 => some (.nx env, st1)
theorem s_expr (he : DE CT W X e g) (hs : swapsWith e none pos.line X.env = pure false := by rfl) : DS CT W X (.Expr e pos) (sExpr g) := (ps_expr he hs).imp fun D σ H h => by
  obtain ⟨φ, env, st, R, S, q⟩ := h
  refine ⟨φ, env, st, R, S, (PostS.split R S q).mono ?_⟩
  rintro x H1 ⟨φ1, st1, dx, E1, R1, S1, rx, q1⟩
  exact q1 φ1 H1 σ Ext.refl R1 S1
def sRet (g : G) : GS := fun env st => sb env (g env st) fun d st1 => some (.rt d, st1)
theorem s_ret (he : DE CT W X e g) : DS CT W X (.Return (some e) pos) (sRet g) := (ps_ret he).imp fun D σ H h => by
  obtain ⟨φ, env, st, R, S, q⟩ := h
  refine ⟨φ, env, st, R, S, (PostS.split R S q).mono ?_⟩
  rintro x H1 ⟨φ1, st1, dx, E1, R1, S1, rx, q1⟩
  exact q1 φ1 H1 x Ext.refl R1 rx
def sRetN : GS := fun env st => some (.rt .non, st)
theorem s_retN : DS CT W X (.Return none pos) sRetN := ps_retN.imp fun D σ H h => by
  obtain ⟨φ, env, st, R, S, q⟩ := h
  exact q φ H .non Ext.refl R (show Rep X.K φ H .non .non from rfl)
def sIf (c : GT) (s t : GS) : GS := fun env st => sb env (c env st) fun b st1 => if b = true then s env st1 else t env st1
theorem s_if {sa sc : List Stmt} (hc : DT CT W X c tt) (ha : DSs CT W X sa s) (hb : DSs CT W X sc t) : DS CT W X (.If c sa sc pos) (sIf tt s t) := (ps_if hc ha hb).imp fun D σ H h => by
  obtain ⟨φ, env, st, R, S, q⟩ := h
  refine ⟨φ, env, st, R, S, (PostS.split R S q).mono ?_⟩
  rintro x H1 ⟨φ1, st1, dx, E1, R1, S1, rx, q1⟩
  obtain rfl : x = dx := rx
  cases x with
  | true => exact ⟨φ1, env, st1, R1, S1, q1⟩
  | false => exact ⟨φ1, env, st1, R1, S1, q1⟩
def sSet (i : Nat) (g : G) : GS := fun env st => sb env (g env st) fun d st1 => some (.nx (env.set i (some d)), st1)
theorem lS_set {i : Nat} {D : Ends} {σ : L2.St} {H : Hp} (h : lS K CT W (sSet i g) D σ H) : tAsg (lE K CT W g) (gName i) D σ H := by
  obtain ⟨φ, env, st, R, S, q⟩ := h
  refine ⟨φ, env, st, R, S, (PostS.split R S q).mono ?_⟩
  rintro x H1 ⟨φ1, st1, dx, E1, R1, S1, rx, q1⟩
  exact q1 φ1 H1 _ Ext.refl R1 (S1.set rx)
theorem s_set {i : Nat} {x : Str} {pos' : Pos} (hN : X.N.Nodup) (hi : X.N[i]? = some x) (hx : Loc X.env.scope x) (he : DE CT W X e g) (hs : swapsWith e (some (.Name x pos')) pos.line X.env = pure false := by rfl) (hf : X.fn x = true ∨ X.env.scope.names.lookup x = some .local := by first | exact .inl rfl | exact .inr rfl | assumption) :
    DS CT W X (.Assign [.Name x pos'] e pos) (sSet i g) := (ps_set hN hi hx he hs hf).imp fun D σ H h => lS_set h
def sAug (i : Nat) (f : F2) (g : G) : GS := fun env st => match env[i]? with
  | some (some d) => sb env (g env st) fun y st1 => sb env (f d y st1) fun z st2 => some (.nx (env.set i (some z)), st2)
  | _ => none
theorem s_aug {i : Nat} {x : Str} {pos' : Pos} {op : Operator} {r : R2} {f : F2} (hN : X.N.Nodup) (hi : X.N[i]? = some x) (hx : Loc X.env.scope x) (he : DE CT W X e g) (ho : OpR X (inplaceOp op) r) (hf2 : OpD X.K r f) (hf : X.fn x = true ∨ X.env.scope.names.lookup x = some .local := by first | exact .inl rfl | exact .inr rfl | assumption) :
    DS CT W X (.AugAssign (.Name x pos') op e pos) (sAug i f g) := (ps_aug hN hi hx he ho hf).imp fun D σ H h => by
  obtain ⟨φ, env, st, R, S, q⟩ := h
  unfold sAug at q
  split at q
  · rename_i d hd
    obtain ⟨v, h1, h2⟩ := S.slot i d hd
    refine ⟨v, h1, φ, env, st, R, S, (PostS.split R S q).mono ?_⟩
    rintro y H1 ⟨φ1, st1, dy, E1, R1, S1, ry, q1⟩
    refine hf2 CT W σ φ1 H1 st1 d dy v y _ R1 (Rep.ext R E1 d h2) ry ((PostS.split R1 S1 q1).mono ?_)
    rintro z H2 ⟨φ2, st2, dz, E2, R2, S2, rz, q2⟩
    exact q2 φ2 H2 _ Ext.refl R2 (S2.set rz)
  · exact q.elim

/-! ### o[i] = e -/
abbrev FS := D → D → D → Store → Option Store
def SetD (K : PySem.W.Frag) (t : TSet) (f : FS) : Prop := ∀ (φ : Phi) (H : Hp) (st : Store) (do_ di dv : D) (o i v : V) (Q : Hp → Prop), RelH K φ H st → Rep K φ H do_ o → Rep K φ H di i → Rep K φ H dv v →
  (match f do_ di dv st with
    | none => False
    | some st' => ∀ H', Ext φ H φ H' → RelH K φ H' st' → Q H') → t o i v H Q
def fSetL : FS
  | .ref n, .int k, v, st => match cellL st n with
    | some xs => match ixN xs.length k with
      | some j => some (st.set n (.lst (xs.set j v)))
      | none => none
    | none => none
  | _, _, _, _ => none
theorem sd_list : SetD K rSetL fSetL := by
  intro φ H st do_ di dv o i v Q R ro ri rv q
  unfold fSetL at q
  split at q
  · exact q.elim
  · rename_i st' hq
    split at hq
    · rename_i n k
      split at hq
      · rename_i xs hx
        split at hq
        · rename_i j hj
          cases hq
          obtain ⟨a, e1, h1⟩ := repRef ro
          obtain ⟨vs, h2, r⟩ := cellL_ok R h1 hx
          have ha : a ∈ φ := List.mem_of_getElem? h1
          refine ⟨a, vs, k, j, e1, repInt ri, h2, by rw [← r.length]; exact hj, q _ (Ext.write ha) (R.write h1 ⟨_, upd_same, ?_⟩)⟩
          exact RepAll.ext R (Ext.write ha) _ (RepAll.set rv j r)
        · cases hq
      · cases hq
    · cases hq
def rSetK : TSet := fun o i v H Q => ∃ a H', o = .ref a ∧ DPut H a i v H' ∧ Q H'
theorem set_dict (hu : X.A.units + 1 < cLine) : PSet X rSetK := by
  intro pins s σ H o i v ov iv u Q I ro ri rv h
  obtain ⟨a, H', rfl, g, q⟩ := h
  cases ro
  exact d_setItem hu I g ri rv fun s' I' => ⟨H', I', q⟩
theorem RepKV.put {φ : Phi} {H : Hp} {k : Key} {d : D} {v : V} (rd : Rep K φ H d v) : ∀ {kvs : List (Key × D)} {ws : List (Key × V)}, RepKV K φ H kvs ws → (kvs.map (·.1)).Nodup → RepKV K φ H (putD kvs k d) (putK ws k v) := by
  intro kvs ws h nd
  have aux : ∀ {kvs : List (Key × D)} {ws : List (Key × V)}, RepKV K φ H kvs ws → k ∉ kvs.map (·.1) → (ws.map fun kv => if kv.1 = k then (kv.1, v) else kv) = ws := by
    intro kvs ws h
    induction h with
    | nil => intro _; rfl
    | cons p t ih =>
      intro hn
      rename_i a b l1 l2
      rw [List.map_cons, List.mem_cons, not_or] at hn
      rw [List.map_cons, ih hn.2, if_neg (fun z => hn.1 (z.symm.trans p.1.symm))]
  induction h with
  | nil => exact .cons ⟨rfl, rd⟩ .nil
  | cons p t ih =>
    rename_i a b l1 l2
    rw [List.map_cons, List.nodup_cons] at nd
    unfold putD
    by_cases hk : a.1 = k
    · rw [if_pos hk]
      have hb : b.1 = k := p.1.symm.trans hk
      have e : putK (b :: l2) k v = (b.1, v) :: l2 := by
        unfold putK
        rw [if_pos (by simp [hb])]
        rw [List.map_cons, if_pos hb, aux t (by rw [← hk]; exact nd.1)]
      rw [e]
      exact .cons ⟨p.1, rd⟩ t
    · rw [if_neg hk]
      have hb : ¬ b.1 = k := fun z => hk (p.1.trans z)
      have e : putK (b :: l2) k v = b :: putK l2 k v := by
        unfold putK
        rw [List.any_cons, decide_eq_false hb, Bool.false_or]
        split
        · rw [List.map_cons, if_neg hb]
        · rfl
      rw [e]
      exact .cons p (ih nd.2)
def nodupK : List (Key × D) → Bool
  | [] => true
  | p :: r => !(r.any fun q => decide (q.1 = p.1)) && nodupK r
theorem nodupK_ok : ∀ {kvs : List (Key × D)}, nodupK kvs = true → (kvs.map (·.1)).Nodup
  | [], _ => List.nodup_nil
  | p :: r, h => by
    unfold nodupK at h
    rw [Bool.and_eq_true, Bool.not_eq_true'] at h
    rw [List.map_cons, List.nodup_cons]
    refine ⟨fun hm => ?_, nodupK_ok h.2⟩
    obtain ⟨q, hq, e⟩ := List.mem_map.mp hm
    have := List.any_eq_false.mp h.1 q hq
    rw [e] at this
    exact this (decide_eq_true rfl)
def fSetK : FS
  | .ref n, y, v, st => match cellD st n, keyD y with
    | some kvs, some k => if kvs.length < 16777216 ∧ nodupK kvs = true then some (st.set n (.dct (putD kvs k v))) else none
    | _, _ => none
  | _, _, _, _ => none
theorem sd_dict : SetD K rSetK fSetK := by
  intro φ H st do_ di dv o i v Q R ro ri rv q
  unfold fSetK at q
  split at q
  · exact q.elim
  · rename_i st' hq
    split at hq
    · rename_i n y
      split at hq
      · rename_i kvs k hx hk
        split at hq
        · rename_i hl
          cases hq
          obtain ⟨a, e1, h1⟩ := repRef ro
          obtain ⟨ws, h2, r⟩ := cellD_ok R h1 hx
          have ha : a ∈ φ := List.mem_of_getElem? h1
          have hlen : ws.length < sizeLine := by
            have : kvs.length = ws.length := Paired.length r
            rw [← this, sizeLine_eq]; exact hl.1
          refine ⟨a, _, e1, by rw [keyD_ok hk ri]; exact DPut.k h2 hlen, q _ (Ext.write ha) (R.write h1 ⟨_, upd_same, ?_⟩)⟩
          exact RepKV.ext R (Ext.write ha) (RepKV.put rv r (nodupK_ok hl.2))
        · cases hq
      · cases hq
    · cases hq
theorem SetD.or {r r' : TSet} {f f' : FS} {p : D → Store → Bool} (h : SetD K r f) (h' : SetD K r' f') : SetD K (fun o i v H Q => r o i v H Q ∨ r' o i v H Q) (fun o i v st => if p o st = true then f o i v st else f' o i v st) := by
  intro φ H st do_ di dv o i v Q R ro ri rv q
  dsimp only at q
  split at q
  · exact q.elim
  · rename_i st' hq
    by_cases hp : p do_ st = true
    · rw [if_pos hp] at hq
      exact .inl (h φ H st do_ di dv o i v Q R ro ri rv (by rw [hq]; exact q))
    · rw [if_neg hp] at hq
      exact .inr (h' φ H st do_ di dv o i v Q R ro ri rv (by rw [hq]; exact q))
theorem PSet.or {r r' : TSet} (h : PSet X r) (h' : PSet X r') : PSet X (fun o i v H Q => r o i v H Q ∨ r' o i v H Q) := by
  intro pins s σ H o i v ov iv u Q I ro ri rv q
  rcases q with q | q
  · exact h pins s σ H o i v ov iv u Q I ro ri rv q
  · exact h' pins s σ H o i v ov iv u Q I ro ri rv q
def fSetA : FS := fun o i v st => if isDc st o = true then fSetK o i v st else fSetL o i v st
def rSetA : TSet := fun o i v H Q => rSetK o i v H Q ∨ rSetL o i v H Q
theorem sd_all : SetD K rSetA fSetA := SetD.or (p := fun o st => isDc st o) sd_dict sd_list
theorem set_all (hu : X.A.units + 1 < cLine) : PSet X rSetA := PSet.or (set_dict hu) set_list
def sSetSub (go gi g : G) : GS := fun env st => sb env (g env st) fun v st1 => sb env (go env st1) fun o st2 => sb env (gi env st2) fun i st3 => match fSetA o i v st3 with
  | some st4 => some (.nx env, st4)
  | none => none
theorem set_post {Ds : Ends} {σ : L2.St} {φ : Phi} {H : Hp} {st : Store} {env : Env} {do_ di dv : D} {o i v : V} (R : RelH K φ H st) (S : RelS K φ H σ env) (ro : Rep K φ H do_ o) (ri : Rep K φ H di i) (rv : Rep K φ H dv v)
    (q : PostS K W CT Ds φ H (match fSetA do_ di dv st with | some st4 => some (.nx env, st4) | none => none)) : rSetA o i v H fun H' => Ds.nx σ H' := by
  refine sd_all φ H st do_ di dv o i v _ R ro ri rv ?_
  split at q
  · rename_i st4 h4
    rw [h4]
    exact fun H' E R' => q φ H' σ E R' (S.ext R E)
  · exact q.elim
theorem s_setsub {o i : Expr} {go gi : G} {p' : Pos} (hu : X.A.units + 1 < cLine) (ho : DE CT W X o go) (hi : DE CT W X i gi) (he : DE CT W X e g)
    (hs : swapsWithSole [.Subscript o i p'] e pos.line X.env = pure false := by rfl) (hw : swappedStores [.Subscript o i p'] e X.env = pure none := by rfl) (h1 : (assignEach [.Subscript o i p'] X.env).map (·.2) = [assign (.Subscript o i p') X.env] := by rfl)
    (ha : ∀ v, assign (.Subscript o i p') X.env v = (do
      let ov ← holding [v] (eval o X.env)
      let iv ← holding [v, ov] (eval i X.env)
      standAt p'
      holding [v, ov, iv] (setItem ov iv v)
      release [v, ov, iv] []) := by intro _; rfl) :
    DS CT W X (.Assign [.Subscript o i p'] e pos) (sSetSub go gi g) := (ps_asg he (pg_sub ho hi (set_all hu) ha) hs hw h1).imp fun D σ H h => by
  obtain ⟨φ, env, st, R, S, q⟩ := h
  refine ⟨φ, env, st, R, S, (PostS.split R S q).mono ?_⟩
  rintro v H1 ⟨φ1, st1, dv, E1, R1, S1, rv, q1⟩
  refine ⟨φ1, env, st1, R1, S1, (PostS.split R1 S1 q1).mono ?_⟩
  rintro x H2 ⟨φ2, st2, dx, E2, R2, S2, rx, q2⟩
  refine ⟨φ2, env, st2, R2, S2, (PostS.split R2 S2 q2).mono ?_⟩
  rintro y H3 ⟨φ3, st3, dy, E3, R3, S3, ry, q3⟩
  exact set_post R3 S3 (Rep.ext R2 E3 dx rx) ry (Rep.ext R2 E3 dv (Rep.ext R1 E2 dv rv)) q3
/-- o[i], by values, for op= -/
theorem get_list : PGet X (rIxL X.K) := by
  intro pins s σ H x y v u Q I rx ry h
  obtain ⟨p, xs, i, z, rfl, rfl, hq, he, q⟩ := h
  cases rx
  obtain ⟨t, rfl⟩ := ry
  obtain ⟨its, r, pl, hz⟩ := I.list hq
  obtain ⟨j, h1, h2, h3, h4, h5⟩ := atI_get he
  obtain ⟨w, ew, rw'⟩ := r.get h2
  have hl := r.length
  have hn := line63
  have fin : EP X pins σ Q w s := ⟨z, H, I, rw', q⟩
  by_cases h0 : 0 ≤ i
  · have hj : i.toNat = j := by
      rw [seqIndex_of h0 h5] at h1
      exact Option.some.inj h1
    exact wpAny_getItem_list (x := w) pl.isList h0 (by omega) (by rw [hj]; simpa using ew) fin
  · have hj : (i + (its.toArray.size : Int)).toNat = j := by
      rw [seqIndex_neg (by omega) h4] at h1
      rw [List.size_toArray, ← hl]
      exact Option.some.inj h1
    exact wpAny_getItem_list_neg (x := w) pl.isList (by omega) (by rw [List.size_toArray] <;> omega) (by omega) (by rw [hj]; simpa using ew) fin
def sAugSub (f : F2) (go gi g : G) : GS := fun env st => sb env (go env st) fun o st1 => sb env (gi env st1) fun i st2 => sb env (fIxL o i st2) fun x st3 => sb env (g env st3) fun y st4 => sb env (f x y st4) fun z st5 => match fSetL o i z st5 with
  | some st6 => some (.nx env, st6)
  | none => none
theorem s_augsub {o i : Expr} {go gi : G} {tpos : Pos} {op : Operator} {r : R2} {f : F2} (ho : DE CT W X o go) (hi : DE CT W X i gi) (he : DE CT W X e g) (hop : OpR X (inplaceOp op) r) (hf : OpD X.K r f)
    (ha : ∀ ov iv new, augStore i ov iv new = (do holding [new, ov, iv] (setItem ov iv new); release [new, ov, iv] []; pure .next) := by intros; rfl) : DS CT W X (.AugAssign (.Subscript o i tpos) op e pos) (sAugSub f go gi g) :=
  (ps_augS ho hi get_list he hop set_list ha).imp fun D σ H h => by
  obtain ⟨φ, env, st, R, S, q⟩ := h
  refine ⟨φ, env, st, R, S, (PostS.split R S q).mono ?_⟩
  rintro x H1 ⟨φ1, st1, dx, E1, R1, S1, rx, q1⟩
  refine ⟨φ1, env, st1, R1, S1, (PostS.split R1 S1 q1).mono ?_⟩
  rintro y H2 ⟨φ2, st2, dy, E2, R2, S2, ry, q2⟩
  refine od_ixL CT W σ φ2 H2 st2 dx dy x y _ R2 (Rep.ext R1 E2 dx rx) ry ((PostS.split R2 S2 q2).mono ?_)
  rintro z H3 ⟨φ3, st3, dz, E3, R3, S3, rz, q3⟩
  refine ⟨φ3, env, st3, R3, S3, (PostS.split R3 S3 q3).mono ?_⟩
  rintro w H4 ⟨φ4, st4, dw, E4, R4, S4, rw', q4⟩
  refine hf CT W σ φ4 H4 st4 dz dw z w _ R4 (Rep.ext R3 E4 dz rz) rw' ((PostS.split R4 S4 q4).mono ?_)
  rintro u H5 ⟨φ5, st5, du, E5, R5, S5, ru, q5⟩
  have rx5 := Rep.ext R4 E5 dx (Rep.ext R3 E4 dx (Rep.ext R2 E3 dx (Rep.ext R1 E2 dx rx)))
  have ry5 := Rep.ext R4 E5 dy (Rep.ext R3 E4 dy (Rep.ext R2 E3 dy ry))
  refine sd_list φ5 H5 st5 dx dy du x y u _ R5 rx5 ry5 ru ?_
  split at q5
  · rename_i st6 h6
    rw [h6]
    exact fun H' E R' => q5 φ5 H' σ E R' (S5.ext R5 E)
  · exact q5.elim
end
end MP
set_option Elab.async false
set_option linter.all false
set_option autoImplicit false
set_option maxRecDepth 100000
set_option maxHeartbeats 2000000
/-! Mp5: targets, what is walked, for, while, comprehensions. -/
namespace MP
open PySem PySem.Spec PyProof.Rows L2 RZ

section
variable {K : PySem.W.Frag} {X : Cx} {CT : CTab} {W : WX} {a b c e : Expr} {es : List Expr} {ga gb g : G} {gA : GA} {pos : Pos}
/-! ### targets -/
abbrev FT := D → Env → Option Env
abbrev FTs := List D → Env → Option Env
/-- the slots but these are as they were -/
def OnlyAt (is : List Nat) (σ σ' : L2.St) : Prop := σ'.length = σ.length ∧ ∀ j, j ∉ is → σ'[j]? = σ[j]?
theorem OnlyAt.refl (is : List Nat) (σ : L2.St) : OnlyAt is σ σ := ⟨rfl, fun _ _ => rfl⟩
theorem OnlyAt.set {i : Nat} {σ : L2.St} {v : Option V} : OnlyAt [i] σ (σ.set i v) := ⟨by simp, fun j hj => by rw [List.getElem?_set_ne (fun z => hj (by simp [z]))]⟩
theorem OnlyAt.trans {is js : List Nat} {σ σ1 σ2 : L2.St} (a : OnlyAt is σ σ1) (b : OnlyAt js σ1 σ2) : OnlyAt (is ++ js) σ σ2 :=
  ⟨b.1.trans a.1, fun j hj => (b.2 j fun z => hj (List.mem_append_right _ z)).trans (a.2 j fun z => hj (List.mem_append_left _ z))⟩
def TgOk (K : PySem.W.Frag) (t : TG) (f : FT) (is : List Nat) : Prop := ∀ (φ : Phi) (H : Hp) (st : Store) (env : Env) (σ : L2.St) (d : D) (v : V) (Q : L2.St → Hp → Prop), RelH K φ H st → RelS K φ H σ env → Rep K φ H d v →
  (∃ env', f d env = some env' ∧ ∀ σ', RelS K φ H σ' env' → OnlyAt is σ σ' → Q σ' H) → t v σ H Q
def TgsOk (K : PySem.W.Frag) (t : TGs) (f : FTs) (is : List Nat) : Prop := ∀ (φ : Phi) (H : Hp) (st : Store) (env : Env) (σ : L2.St) (d : List D) (v : List V) (Q : L2.St → Hp → Prop), RelH K φ H st → RelS K φ H σ env → RepAll K φ H d v →
  (∃ env', f d env = some env' ∧ ∀ σ', RelS K φ H σ' env' → OnlyAt is σ σ' → Q σ' H) → t v σ H Q
def tgName (i : Nat) : FT := fun d env => some (env.set i (some d))
theorem tg_name (i : Nat) : TgOk K (gName i) (tgName i) [i] := by
  intro φ H st env σ d v Q R S r h
  obtain ⟨env', e, q⟩ := h
  cases e
  exact q _ (S.set r) OnlyAt.set
def tgsNil : FTs := fun ds env => match ds with
  | [] => some env
  | _ => none
def tgsCons (f : FT) (h : FTs) : FTs := fun ds env => match ds with
  | d :: r => match f d env with
    | some env1 => h r env1
    | none => none
  | [] => none
theorem tgs_nil : TgsOk K gNil tgsNil [] := by
  intro φ H st env σ d v Q R S r h
  obtain ⟨env', e, q⟩ := h
  unfold tgsNil at e
  split at e
  · cases e
    rw [repAll_nil r]
    exact ⟨rfl, q _ S (OnlyAt.refl _ _)⟩
  · cases e
theorem tgs_cons {t : TG} {u : TGs} {f : FT} {h : FTs} {is js : List Nat} (h1 : TgOk K t f is) (h2 : TgsOk K u h js) : TgsOk K (gCons t u) (tgsCons f h) (is ++ js) := by
  intro φ H st env σ d v Q R S r hh
  obtain ⟨env', e, q⟩ := hh
  unfold tgsCons at e
  split at e
  · rename_i d0 ds
    split at e
    · rename_i env1 he
      unfold RepAll at r
      obtain ⟨w, vs, rfl, r1, r2⟩ := r
      exact ⟨w, vs, rfl, h1 φ H st env σ d0 w _ R S r1 ⟨env1, he, fun σ' S' o1 => h2 φ H st env1 σ' ds vs Q R S' r2 ⟨env', e, fun σ2 S2 o2 => q σ2 S2 (o1.trans o2)⟩⟩⟩
    · cases e
  · cases e
def tgTup (n : Nat) (h : FTs) : FT := fun d env => match d with
  | .tup ds => if ds.length = n then h ds env else none
  | _ => none
theorem tg_tup {n : Nat} {u : TGs} {h : FTs} {is : List Nat} (h2 : TgsOk K u h is) : TgOk K (L2.gTup K n u) (tgTup n h) is := by
  intro φ H st env σ d v Q R S r hh
  obtain ⟨env', e, q⟩ := hh
  unfold tgTup at e
  split at e
  · rename_i ds
    split at e
    · rename_i hl
      obtain ⟨p, vs, rfl, h3, r2⟩ := repTup r
      exact ⟨p, vs, rfl, h3, by rw [← r2.length]; exact hl, h2 φ H st env σ ds vs Q R S r2 ⟨env', e, q⟩⟩
    · cases e
  · cases e
/-- a target, with what it stores -/
structure DG (X : Cx) (tg : Expr) (f : FT) (is : List Nat) : Prop where
  ex : ∃ t, PG X tg t ∧ TgOk X.K t f is
structure DGs (X : Cx) (tg : List Expr) (f : FTs) (is : List Nat) : Prop where
  ex : ∃ t, PGs X tg t ∧ TgsOk X.K t f is
theorem g_name {i : Nat} {x : Str} (hN : X.N.Nodup) (hi : X.N[i]? = some x) (hx : Loc X.env.scope x) (hf : X.fn x = true ∨ X.env.scope.names.lookup x = some .local := by first | exact .inl rfl | exact .inr rfl | assumption) : DG X (.Name x pos) (tgName i) [i] :=
  ⟨_, pg_name hN hi hx hf, tg_name i⟩
theorem gs_nil : DGs X [] tgsNil [] := ⟨_, pgs_nil, tgs_nil⟩
theorem gs_cons {f : FT} {h : FTs} {is js : List Nat} (h1 : DG X e f is) (h2 : DGs X es h js) (hs : (assignEach (e :: es) X.env).map (·.2) = assign e X.env :: (assignEach es X.env).map (·.2) := by rfl) : DGs X (e :: es) (tgsCons f h) (is ++ js) := by
  obtain ⟨t, p, o⟩ := h1
  obtain ⟨u, p2, o2⟩ := h2
  exact ⟨_, pgs_cons p p2 hs, tgs_cons o o2⟩
theorem g_tup {k n : Nat} {h : FTs} {is : List Nat} (hc : X.calm = true) (h2 : DGs X es h is) (hn : (assignEach es X.env).length = n := by rfl) (hst : (assignEach es X.env).findIdx? (·.1) = none := by rfl) : DG X (.Tuple es k pos) (tgTup n h) is := by
  obtain ⟨u, p2, o2⟩ := h2
  exact ⟨_, pg_tup hc p2 hn hst, tg_tup o2⟩
/-- target = e (a tuple of names) -/
def sAsg (f : FT) (g : G) : GS := fun env st => sb env (g env st) fun d st1 => match f d env with
  | some env' => some (.nx env', st1)
  | none => none
theorem s_asg {tg : Expr} {f : FT} {is : List Nat} (he : DE CT W X e g) (hg : DG X tg f is) (hs : swapsWithSole [tg] e pos.line X.env = pure false := by rfl) (hw : swappedStores [tg] e X.env = pure none := by rfl)
    (h1 : (assignEach [tg] X.env).map (·.2) = [assign tg X.env] := by rfl) : DS CT W X (.Assign [tg] e pos) (sAsg f g) := by
  obtain ⟨t, p, o⟩ := hg
  refine (ps_asg he p hs hw h1).imp fun D σ H h => ?_
  obtain ⟨φ, env, st, R, S, q⟩ := h
  refine ⟨φ, env, st, R, S, (PostS.split R S q).mono ?_⟩
  rintro x H1 ⟨φ1, st1, dx, E1, R1, S1, rx, q1⟩
  split at q1
  · rename_i env' he'
    exact o φ1 H1 st1 env σ dx x _ R1 S1 rx ⟨env', he', fun σ' S' _ => q1 φ1 H1 σ' Ext.refl R1 S'⟩
  · exact q1.elim
/-- a, b = e1, e2 -/
def sPar (i j : Nat) (ga : GA) : GS := fun env st => sb env (ga env st) fun ds st1 => match ds with
  | [d, e] => some (.nx ((env.set i (some d)).set j (some e)), st1)
  | _ => none
theorem s_par {i j : Nat} {x y : Str} {px py pt : Pos} {kt k2 : Nat} {pt2 : Pos} (hc : X.calm = true) (hN : X.N.Nodup) (hi : X.N[i]? = some x) (hj : X.N[j]? = some y) (hij : i ≠ j)
    (hx : X.env.scope.names.lookup x = some .local) (hy : X.env.scope.names.lookup y = some .local) (ha : DA CT W X [a, b] gA)
    (hw : swappedStores [.Tuple [.Name x px, .Name y py] kt pt] (.Tuple [a, b] k2 pt2) X.env = pure (some [x, y]))
    (hs : swapsWithSole [.Tuple [.Name x px, .Name y py] kt pt] (.Tuple [a, b] k2 pt2) pos.line X.env = pure false := by rfl) :
    DS CT W X (.Assign [.Tuple [.Name x px, .Name y py] kt pt] (.Tuple [a, b] k2 pt2) pos) (sPar i j gA) := (ps_par hc hN hi hj hij hx hy ha hw hs).imp fun D σ H h => by
  obtain ⟨φ, env, st, R, S, q⟩ := h
  refine ⟨φ, env, st, R, S, (PostS.split R S q).mono ?_⟩
  rintro vs H1 ⟨φ1, st1, ds, E1, R1, S1, rx, q1⟩
  split at q1
  · rename_i ds' d e'
    unfold rpA at rx
    unfold RepAll at rx
    obtain ⟨v, r, rfl, r1, r2⟩ := rx
    unfold RepAll at r2
    obtain ⟨w, r', rfl, r3, r4⟩ := r2
    rw [repAll_nil r4]
    exact ⟨v, w, rfl, q1 φ1 H1 _ Ext.refl R1 ((S1.set r1).set r3)⟩
  · exact q1.elim

/-! ### what is walked -/
/-- the item at a turn: none: it cannot be said; some none: the end -/
abbrev ItF := Nat → Store → Option (Option D)
def ItOk (K : PySem.W.Frag) (J : It) (φ0 : Phi) (H0 : Hp) (it : ItF) : Prop := ∀ (i : Nat) (φ : Phi) (H : Hp) (st : Store), (∀ (n : Nat) (a : Addr), φ0[n]? = some a → φ[n]? = some a) → Stay H0 H → RelH K φ H st →
  (it i st = some none → J.stop i H) ∧ ∀ d, it i st = some (some d) → J.go i H ∧ ∀ x H', J.yld i H x H' → Ext φ H φ H' ∧ RelH K φ H' st ∧ Rep K φ H' d x
def rpI (K : PySem.W.Frag) : Phi → Hp → ItF × Nat → It → Prop := fun φ H p J => ItOk K J φ H p.1
abbrev GI := Env → Store → Option (Out (ItF × Nat))
def lI (K : PySem.W.Frag) (CT : CTab) (W : WX) (g : GI) : TI := fun σ H R => ∃ φ env st, RelH K φ H st ∧ RelS K φ H σ env ∧ Post (rpI K) K CT W σ φ H (g env st) R
abbrev DI (CT : CTab) (W : WX) (X : Cx) (tg iter : Expr) (g : GI) : Prop := PI X tg iter (lI X.K CT W g)
theorem _root_.L2.PI.imp {tg iter : Expr} {t t' : TI} (h : PI X tg iter t) (i : ∀ σ H Q, t' σ H Q → t σ H Q) : PI X tg iter t' := ⟨fun pins s σ H Q I q => h.run pins s σ H Q I (i _ _ _ q)⟩
theorem PI.or {tg iter : Expr} {t t' : TI} (h : PI X tg iter t) (h' : PI X tg iter t') : PI X tg iter (fun σ H R => t σ H R ∨ t' σ H R) := ⟨fun pins s σ H R I q => by
  rcases q with q | q
  · exact h.run pins s σ H R I q
  · exact h'.run pins s σ H R I q⟩
/-- items that stand -/
def itL (ds : List D) : ItF := fun i _ => some ds[i]?
/-- the list in the store -/
def itC (n : Nat) : ItF := fun i st => (cellL st n).map fun ds => ds[i]?
def seqIt (d : D) (st : Store) : Option (ItF × Nat) := match d with
  | .tup ds => some (itL ds, ds.length + 1)
  | .rol ds => some (itL ds, ds.length + 1)
  | .ref n => (cellL st n).map fun ds => (itC n, ds.length + 1)
  | _ => none
def gSeq (g : G) : GI := fun env st => rb (g env st) fun d st1 => (seqIt d st1).map fun p => .ok p st1
theorem itT_ok {φ : Phi} {H : Hp} {st : Store} {a : Addr} {ds : List D} {vs : List V} (R : RelH K φ H st) (h : SqT K H a vs) (r : RepAll K φ H ds vs) : ItOk K (Itt K a) φ H (itL ds) := by
  intro i φ' H' st' hp E R'
  have h' := SqT.stay E h
  have r' := RepAll.go hp E ds r
  refine ⟨fun e => ?_, fun d e => ?_⟩
  · have e := Option.some.inj e
    refine ⟨vs, h', ?_⟩
    rw [← r'.length]
    exact List.getElem?_eq_none_iff.mp e
  · have e := Option.some.inj e
    obtain ⟨v, h1, h2⟩ := r'.get e
    refine ⟨⟨vs, v, h', h1⟩, fun x H'' y => ?_⟩
    obtain ⟨rfl, y⟩ := y
    have := y vs h'
    rw [h1] at this; cases this
    exact ⟨Ext.refl, R', h2⟩
theorem itR_ok {φ : Phi} {H : Hp} {st : Store} {a : Addr} {ds : List D} {vs : List V} (R : RelH K φ H st) (h : RoL K H a vs) (r : RepAll K φ H ds vs) : ItOk K (Itl K a) φ H (itL ds) := by
  intro i φ' H' st' hp E R'
  have h' := (h.stay E).sq
  have r' := RepAll.go hp E ds r
  refine ⟨fun e => ?_, fun d e => ?_⟩
  · have e := Option.some.inj e
    refine ⟨vs, h', ?_⟩
    rw [← r'.length]
    exact List.getElem?_eq_none_iff.mp e
  · have e := Option.some.inj e
    obtain ⟨v, h1, h2⟩ := r'.get e
    refine ⟨⟨vs, v, h', h1⟩, fun x H'' y => ?_⟩
    obtain ⟨rfl, y⟩ := y
    have := y vs h'
    rw [h1] at this; cases this
    exact ⟨Ext.refl, R', h2⟩
theorem itC_ok {φ : Phi} {H : Hp} {a : Addr} {n : Nat} (h : φ[n]? = some a) : ItOk K (Itl K a) φ H (itC n) := by
  intro i φ' H' st' hp E R'
  have h' := hp _ _ h
  refine ⟨fun e => ?_, fun d e => ?_⟩
  · unfold itC at e
    obtain ⟨ds, h1, h2⟩ := Option.map_eq_some_iff.mp e
    obtain ⟨vs, h3, r⟩ := cellL_ok R' h' h1
    refine ⟨vs, SqL.of h3, ?_⟩
    rw [← r.length]
    exact List.getElem?_eq_none_iff.mp h2
  · unfold itC at e
    obtain ⟨ds, h1, h2⟩ := Option.map_eq_some_iff.mp e
    obtain ⟨vs, h3, r⟩ := cellL_ok R' h' h1
    obtain ⟨v, h4, h5⟩ := r.get h2
    refine ⟨⟨vs, v, SqL.of h3, h4⟩, fun x H'' y => ?_⟩
    obtain ⟨rfl, y⟩ := y
    have := y vs (SqL.of h3)
    rw [h4] at this; cases this
    exact ⟨Ext.refl, R', h5⟩
theorem i_seq {tg : Expr} (h : DE CT W X e g) : DI CT W X tg e (gSeq g) := (PI.or (pi_tup h) (pi_list h)).imp fun σ H Q hh => by
  obtain ⟨φ, env, st, R, S, q⟩ := hh
  unfold gSeq at q
  have key : ∀ (isT : Bool), (∀ d st1, g env st = some (.ok d st1) → isTp d = isT) → (if isT = true then iTup X.K (lE X.K CT W g) σ H Q else iList X.K (lE X.K CT W g) σ H Q) := by
    intro isT hT
    have main : ∀ (x : V) (H1 : Hp) (φ1 : Phi) (st1 : Store) (d : D), g env st = some (.ok d st1) → Ext φ H φ1 H1 → RelH X.K φ1 H1 st1 → Rep X.K φ1 H1 d x →
        (if isT = true then ∃ a, x = .ref a ∧ (∃ xs, SqT X.K H1 a xs) ∧ Q (Itt X.K a) H1 else ∃ a, x = .ref a ∧ (∃ xs, SqL X.K H1 a xs) ∧ Q (Itl X.K a) H1) := by
      intro x H1 φ1 st1 d hd E1 R1 rx
      rw [hd] at q
      have q1 : Post (rpI X.K) X.K CT W σ φ1 H1 ((seqIt d st1).map fun p => Out.ok p st1) Q := Post.ext E1 q
      have ht := hT d st1 hd
      cases d with
      | tup ds =>
        have : isT = true := ht.symm
        rw [if_pos this]
        obtain ⟨a, vs, rfl, h1, r⟩ := repTup rx
        exact ⟨a, rfl, ⟨vs, h1⟩, Post.done (rep := rpI X.K) (a := (itL ds, ds.length + 1)) R1 (itT_ok R1 h1 r) q1⟩
      | rol ds =>
        have : ¬ isT = true := by rw [← ht]; exact Bool.false_ne_true
        rw [if_neg this]
        obtain ⟨a, vs, rfl, h1, r⟩ := repRol rx
        exact ⟨a, rfl, ⟨vs, h1.sq⟩, Post.done (rep := rpI X.K) (a := (itL ds, ds.length + 1)) R1 (itR_ok R1 h1 r) q1⟩
      | ref n =>
        have : ¬ isT = true := by rw [← ht]; exact Bool.false_ne_true
        rw [if_neg this]
        obtain ⟨a, rfl, h1⟩ := repRef rx
        have q1 : Post (rpI X.K) X.K CT W σ φ1 H1 (((cellL st1 n).map fun ds => (itC n, ds.length + 1)).map fun p => Out.ok p st1) Q := q1
        cases hc : cellL st1 n with
        | none => rw [hc] at q1; exact q1.elim
        | some ds =>
          rw [hc] at q1
          obtain ⟨vs, h3, r⟩ := cellL_ok R1 h1 hc
          exact ⟨a, rfl, ⟨vs, SqL.of h3⟩, Post.done (rep := rpI X.K) (a := (itC n, ds.length + 1)) R1 (itC_ok h1) q1⟩
      | _ => exact q1.elim
    cases hg : g env st with
    | none => rw [hg] at q; exact q.elim
    | some o => cases o with
      | ok d st1 =>
        by_cases hi : isT = true
        · rw [if_pos hi]
          refine ⟨φ, env, st, R, S, ?_⟩
          rw [hg]
          intro φ1 H1 x E1 R1 rx
          have := main x H1 φ1 st1 d hg E1 R1 rx
          rw [if_pos hi] at this; exact this
        · rw [if_neg hi]
          refine ⟨φ, env, st, R, S, ?_⟩
          rw [hg]
          intro φ1 H1 x E1 R1 rx
          have := main x H1 φ1 st1 d hg E1 R1 rx
          rw [if_neg hi] at this; exact this
      | ex c fs st1 =>
        by_cases hi : isT = true
        · rw [if_pos hi]
          refine ⟨φ, env, st, R, S, ?_⟩
          rw [hg] at q ⊢; exact q
        · rw [if_neg hi]
          refine ⟨φ, env, st, R, S, ?_⟩
          rw [hg] at q ⊢; exact q
  cases hg : g env st with
  | none => rw [hg] at q; exact q.elim
  | some o => cases o with
    | ok d st1 =>
      have k := key (isTp d) (fun d' st' hd => by rw [hg] at hd; cases hd; rfl)
      by_cases hi : isTp d = true
      · rw [if_pos hi] at k; exact .inl k
      · rw [if_neg hi] at k; exact .inr k
    | ex c fs st1 =>
      have k := key true (fun d' st' hd => by rw [hg] at hd; cases hd)
      rw [if_pos rfl] at k; exact .inl k
/-! range -/
def itR (lo : Int) (n : Nat) : ItF := fun i _ => if i < n then some (some (.int (lo + i))) else some none
theorem itRng_ok {φ : Phi} {H : Hp} (lo : Int) (n : Nat) : ItOk K (Itr lo n) φ H (itR lo n) := by
  intro i φ' H' st' hp E R'
  refine ⟨fun e => ?_, fun d e => ?_⟩
  · unfold itR at e
    split at e
    · cases e
    · rename_i h; exact Nat.le_of_not_lt h
  · unfold itR at e
    split at e
    · rename_i h
      cases e
      refine ⟨h, fun x H'' y => ?_⟩
      obtain ⟨rfl, rfl⟩ := y
      exact ⟨Ext.refl, R', rfl⟩
    · cases e
def gRng1 (ga : GA) : GI := fun env st => rb (ga env st) fun ds st1 => match ds with
  | [.int j] => if -(2 ^ 62) ≤ j ∧ j < 2 ^ 62 then some (.ok (itR 0 j.toNat, j.toNat + 1) st1) else none
  | _ => none
def gRng2 (ga : GA) : GI := fun env st => rb (ga env st) fun ds st1 => match ds with
  | [.int i, .int j] => if (-(2 ^ 62) ≤ i ∧ i < 2 ^ 62) ∧ -(2 ^ 62) ≤ j ∧ j < 2 ^ 62 then some (.ok (itR i (j - i).toNat, (j - i).toNat + 1) st1) else none
  | _ => none
theorem i_rng1 {tg : Expr} {p : Pos} (hg : Gl X "range") (hm : X.mg "range" = none) (ha : DA CT W X [a] gA) (hs : starEach [a] X.env = [(false, eval a X.env)] := by rfl) : DI CT W X tg (.Call (.Name "range" p) [a] [] pos) (gRng1 gA) :=
  (pi_range1 hg hm ha hs).imp fun σ H Q h => by
    obtain ⟨φ, env, st, R, S, q⟩ := h
    refine ⟨φ, env, st, R, S, (Post.split q).mono ?_⟩
    rintro vs H1 ⟨φ1, st1, ds, E1, R1, rx, q1⟩
    split at q1
    · rename_i ds' j
      split at q1
      · rename_i hj
        unfold rpA at rx
        unfold RepAll at rx
        obtain ⟨v, r, rfl, r1, r2⟩ := rx
        rw [repAll_nil r2, repInt r1]
        exact ⟨j, rfl, hj.1, hj.2, Post.done (rep := rpI X.K) (a := (itR 0 j.toNat, j.toNat + 1)) R1 (itRng_ok _ _) q1⟩
      · exact q1.elim
    · exact q1.elim
theorem i_rng2 {tg : Expr} {p : Pos} (hg : Gl X "range") (hm : X.mg "range" = none) (ha : DA CT W X [a, b] gA) (hs : starEach [a, b] X.env = [(false, eval a X.env), (false, eval b X.env)] := by rfl) (hs2 : starEach [b] X.env = [(false, eval b X.env)] := by rfl) : DI CT W X tg (.Call (.Name "range" p) [a, b] [] pos) (gRng2 gA) :=
  (pi_range2 hg hm ha hs hs2).imp fun σ H Q h => by
    obtain ⟨φ, env, st, R, S, q⟩ := h
    refine ⟨φ, env, st, R, S, (Post.split q).mono ?_⟩
    rintro vs H1 ⟨φ1, st1, ds, E1, R1, rx, q1⟩
    split at q1
    · rename_i ds' i j
      split at q1
      · rename_i hj
        unfold rpA at rx
        unfold RepAll at rx
        obtain ⟨v, r, rfl, r1, r2⟩ := rx
        unfold RepAll at r2
        obtain ⟨v', r', rfl, r3, r4⟩ := r2
        rw [repAll_nil r4, repInt r1, repInt r3]
        exact ⟨i, j, rfl, ⟨hj.1.1, hj.1.2, hj.2.1, hj.2.2⟩, Post.done (rep := rpI X.K) (a := (itR i (j - i).toNat, (j - i).toNat + 1)) R1 (itRng_ok _ _) q1⟩
      · exact q1.elim
    · exact q1.elim
/-! enumerate(list), zip of two lists, of two tuples -/
def itE (n : Nat) : ItF := fun i st => (cellL st n).map fun ds => (ds[i]?).map fun d => .tup [.int (i : Nat), d]
def gEnum (ga : GA) : GI := fun env st => rb (ga env st) fun ds st1 => match ds with
  | [.ref n] => (cellL st1 n).map fun xs => .ok (itE n, xs.length + 1) st1
  | _ => none
theorem new_pair {φ : Phi} {H : Hp} {st : Store} {T : Addr} {ds : List D} {vs : List V} (R : RelH K φ H st) (hT : H T = none) (r : RepAll K φ H ds vs) : Ext φ H φ (upd H T (.tup vs)) ∧ RelH K φ (upd H T (.tup vs)) st ∧ Rep K φ (upd H T (.tup vs)) (.tup ds) (.ref T) :=
  ⟨Ext.newT hT, R.tup hT, repTup' (SqT.of upd_same) (RepAll.ext R (Ext.newT hT) _ r)⟩
theorem itE_ok {φ : Phi} {H : Hp} {a : Addr} {n : Nat} (h : φ[n]? = some a) : ItOk K (Ite K a) φ H (itE n) := by
  intro i φ' H' st' hp E R'
  have h' := hp _ _ h
  refine ⟨fun e => ?_, fun d e => ?_⟩
  · unfold itE at e
    obtain ⟨ds, h1, h2⟩ := Option.map_eq_some_iff.mp e
    obtain ⟨vs, h3, r⟩ := cellL_ok R' h' h1
    refine ⟨vs, SqL.of h3, ?_⟩
    rw [← r.length]
    exact List.getElem?_eq_none_iff.mp (Option.map_eq_none_iff.mp h2)
  · unfold itE at e
    obtain ⟨ds, h1, h2⟩ := Option.map_eq_some_iff.mp e
    obtain ⟨d0, h6, rfl⟩ := Option.map_eq_some_iff.mp h2
    obtain ⟨vs, h3, r⟩ := cellL_ok R' h' h1
    obtain ⟨v, h4, h5⟩ := r.get h6
    refine ⟨⟨vs, v, SqL.of h3, h4⟩, fun x H'' y => ?_⟩
    obtain ⟨T, w, rfl, hT, rfl, y⟩ := y
    have := y vs (SqL.of h3)
    rw [h4] at this; cases this
    exact new_pair R' hT (RepAll.cons rfl (RepAll.cons h5 RepAll.nil))
theorem i_enum {k : Nat} {p tpos : Pos} (hg : Gl X "enumerate") (hm : X.mg "enumerate" = none) (ha : DA CT W X [e] gA) (hs : starEach [e] X.env = [(false, eval e X.env)] := by rfl) : DI CT W X (.Tuple es k tpos) (.Call (.Name "enumerate" p) [e] [] pos) (gEnum gA) :=
  (pi_enum hg hm ha hs).imp fun σ H Q h => by
    obtain ⟨φ, env, st, R, S, q⟩ := h
    refine ⟨φ, env, st, R, S, (Post.split q).mono ?_⟩
    rintro vs H1 ⟨φ1, st1, ds, E1, R1, rx, q1⟩
    split at q1
    · rename_i ds' n
      cases hc : cellL st1 n with
      | none => rw [hc] at q1; exact q1.elim
      | some xs =>
        rw [hc] at q1
        unfold rpA at rx
        unfold RepAll at rx
        obtain ⟨v, r, rfl, r1, r2⟩ := rx
        rw [repAll_nil r2]
        obtain ⟨a, rfl, h1⟩ := repRef r1
        obtain ⟨ws, h3, r⟩ := cellL_ok R1 h1 hc
        exact ⟨a, ws, rfl, SqL.of h3, Post.done (rep := rpI X.K) (a := (itE n, xs.length + 1)) R1 (itE_ok h1) q1⟩
    · exact q1.elim
def zipAt (xs ys : List D) (i : Nat) : Option D := match xs[i]?, ys[i]? with
  | some x, some y => some (.tup [x, y])
  | _, _ => none
def itZL (m n : Nat) : ItF := fun i st => match cellL st m, cellL st n with
  | some xs, some ys => some (zipAt xs ys i)
  | _, _ => none
def itZT (xs ys : List D) : ItF := fun i _ => some (zipAt xs ys i)
def gZip (ga : GA) : GI := fun env st => rb (ga env st) fun ds st1 => match ds with
  | [.ref m, .ref n] => match cellL st1 m, cellL st1 n with
    | some xs, some ys => some (.ok (itZL m n, min xs.length ys.length + 1) st1)
    | _, _ => none
  | [.tup xs, .tup ys] => some (.ok (itZT xs ys, min xs.length ys.length + 1) st1)
  | _ => none
theorem zipAt_none {xs ys : List D} {i : Nat} (h : zipAt xs ys i = none) : xs.length ≤ i ∨ ys.length ≤ i := by
  unfold zipAt at h
  split at h
  · cases h
  · rename_i hn
    by_cases h1 : i < xs.length
    · by_cases h2 : i < ys.length
      · exact absurd (List.getElem?_eq_getElem h2) (fun z => hn _ _ (List.getElem?_eq_getElem h1) z)
      · exact .inr (Nat.le_of_not_lt h2)
    · exact .inl (Nat.le_of_not_lt h1)
theorem zipAt_some {xs ys : List D} {i : Nat} {d : D} (h : zipAt xs ys i = some d) : ∃ x y, xs[i]? = some x ∧ ys[i]? = some y ∧ d = .tup [x, y] := by
  unfold zipAt at h
  split at h
  · rename_i x y h1 h2
    cases h
    exact ⟨x, y, h1, h2, rfl⟩
  · cases h
theorem itZL_ok {φ : Phi} {H : Hp} {a b : Addr} {m n : Nat} (h : φ[m]? = some a) (h2 : φ[n]? = some b) : ItOk K (Itz K a b) φ H (itZL m n) := by
  intro i φ' H' st' hp E R'
  have ha := hp _ _ h
  have hb := hp _ _ h2
  refine ⟨fun e => ?_, fun d e => ?_⟩
  · unfold itZL at e
    split at e
    · rename_i xs ys hx hy
      obtain ⟨vs, k1, r1⟩ := cellL_ok R' ha hx
      obtain ⟨ws, k2, r2⟩ := cellL_ok R' hb hy
      refine ⟨vs, ws, SqL.of k1, SqL.of k2, ?_⟩
      rw [← r1.length, ← r2.length]
      exact zipAt_none (Option.some.inj e)
    · cases e
  · unfold itZL at e
    split at e
    · rename_i xs ys hx hy
      obtain ⟨vs, k1, r1⟩ := cellL_ok R' ha hx
      obtain ⟨ws, k2, r2⟩ := cellL_ok R' hb hy
      obtain ⟨x, y, e1, e2, rfl⟩ := zipAt_some (Option.some.inj e)
      obtain ⟨v, g1, g2⟩ := r1.get e1
      obtain ⟨w, g3, g4⟩ := r2.get e2
      refine ⟨⟨vs, ws, v, w, SqL.of k1, SqL.of k2, g1, g3⟩, fun z H'' yy => ?_⟩
      obtain ⟨T, v', w', rfl, hT, rfl, y1, y2⟩ := yy
      have z1 := y1 vs (SqL.of k1)
      rw [g1] at z1; cases z1
      have z2 := y2 ws (SqL.of k2)
      rw [g3] at z2; cases z2
      exact new_pair R' hT (RepAll.cons g2 (RepAll.cons g4 RepAll.nil))
    · cases e
theorem itZT_ok {φ : Phi} {H : Hp} {st : Store} {a b : Addr} {xs ys : List D} {vs ws : List V} (R : RelH K φ H st) (h : SqT K H a vs) (h2 : SqT K H b ws) (r1 : RepAll K φ H xs vs) (r2 : RepAll K φ H ys ws) : ItOk K (ItzT K a b) φ H (itZT xs ys) := by
  intro i φ' H' st' hp E R'
  have k1 := SqT.stay E h
  have k2 := SqT.stay E h2
  have q1 := RepAll.go hp E _ r1
  have q2 := RepAll.go hp E _ r2
  refine ⟨fun e => ?_, fun d e => ?_⟩
  · refine ⟨vs, ws, k1, k2, ?_⟩
    rw [← r1.length, ← r2.length]
    exact zipAt_none (Option.some.inj e)
  · obtain ⟨x, y, e1, e2, rfl⟩ := zipAt_some (Option.some.inj e)
    obtain ⟨v, g1, g2⟩ := q1.get e1
    obtain ⟨w, g3, g4⟩ := q2.get e2
    refine ⟨⟨vs, ws, v, w, k1, k2, g1, g3⟩, fun z H'' yy => ?_⟩
    obtain ⟨T, v', w', rfl, hT, rfl, y1, y2⟩ := yy
    have z1 := y1 vs k1
    rw [g1] at z1; cases z1
    have z2 := y2 ws k2
    rw [g3] at z2; cases z2
    exact new_pair R' hT (RepAll.cons g2 (RepAll.cons g4 RepAll.nil))
theorem i_zip {k : Nat} {p tpos : Pos} (hg : Gl X "zip") (hm : X.mg "zip" = none) (ha : DA CT W X [a, b] gA)
    (hs : starEach [a, b] X.env = (false, eval a X.env) :: starEach [b] X.env := by rfl) (hs2 : (backTo pos (starEach [b] X.env)).any (·.1) = false := by rfl) : DI CT W X (.Tuple es k tpos) (.Call (.Name "zip" p) [a, b] [] pos) (gZip gA) :=
  (pi_zipA hg hm ha hs hs2).imp fun σ H Q h => by
    obtain ⟨φ, env, st, R, S, q⟩ := h
    refine ⟨φ, env, st, R, S, (Post.split q).mono ?_⟩
    rintro vs H1 ⟨φ1, st1, ds, E1, R1, rx, q1⟩
    split at q1
    · rename_i ds' m n
      split at q1
      · rename_i xs ys hx hy
        unfold rpA at rx
        unfold RepAll at rx
        obtain ⟨v, r, rfl, r1, r2⟩ := rx
        unfold RepAll at r2
        obtain ⟨v', r', rfl, r3, r4⟩ := r2
        rw [repAll_nil r4]
        obtain ⟨a, rfl, h1⟩ := repRef r1
        obtain ⟨b, rfl, h2⟩ := repRef r3
        obtain ⟨w1, k1, _⟩ := cellL_ok R1 h1 hx
        obtain ⟨w2, k2, _⟩ := cellL_ok R1 h2 hy
        exact ⟨a, b, w1, w2, rfl, .inl ⟨SqL.of k1, SqL.of k2, Post.done (rep := rpI X.K) (a := (itZL m n, min xs.length ys.length + 1)) R1 (itZL_ok h1 h2) q1⟩⟩
      · exact q1.elim
    · rename_i ds' xs ys
      unfold rpA at rx
      unfold RepAll at rx
      obtain ⟨v, r, rfl, r1, r2⟩ := rx
      unfold RepAll at r2
      obtain ⟨v', r', rfl, r3, r4⟩ := r2
      rw [repAll_nil r4]
      obtain ⟨a, w1, rfl, k1, s1⟩ := repTup r1
      obtain ⟨b, w2, rfl, k2, s2⟩ := repTup r3
      exact ⟨a, b, w1, w2, rfl, .inr ⟨k1, k2, Post.done (rep := rpI X.K) (a := (itZT xs ys, min xs.length ys.length + 1)) R1 (itZT_ok R1 k1 k2 s1 s2) q1⟩⟩
    · exact q1.elim

/-! ### for -/
def forGo (it : ItF) (f : FT) (body : GS) : Nat → Nat → Env → Store → Option (Fl × Store)
  | 0, _, _, _ => none
  | k + 1, i, env, st => match it i st with
    | none => none
    | some none => some (.nx env, st)
    | some (some d) => match f d env with
      | none => none
      | some env1 => match body env1 st with
        | some (.nx env2, st2) => forGo it f body k (i + 1) env2 st2
        | some (.ct env2, st2) => forGo it f body k (i + 1) env2 st2
        | some (.bk env2, st2) => some (.nx env2, st2)
        | r => r
def sFor (gi : GI) (f : FT) (body : GS) : GS := fun env st => sb env (gi env st) fun p st1 => forGo p.1 f body p.2 0 env st1
theorem for_turn {J : It} {t : TG} {f : FT} {body : GS} {D : Ends} {it : ItF} {φ0 : Phi} {H0 : Hp} {is : List Nat} {st0 : Store} (R0 : RelH K φ0 H0 st0) (hi : ItOk K J φ0 H0 it) (ht : TgOk K t f is) :
    ∀ (i m : Nat) (σ : L2.St) (H : Hp), (∃ φ env st, Ext φ0 H0 φ H ∧ RelH K φ H st ∧ RelS K φ H σ env ∧ PostS K W CT D φ H (forGo it f body m i env st)) →
      (J.stop i H ∧ D.nx σ H) ∨ (J.go i H ∧ ∃ N : L2.St → Hp → Prop, (∀ σ' H', N σ' H' → ∃ m', m' < m ∧ ∃ φ env st, Ext φ0 H0 φ H' ∧ RelH K φ H' st ∧ RelS K φ H' σ' env ∧ PostS K W CT D φ H' (forGo it f body m' (i + 1) env st)) ∧
        ∀ x H', J.yld i H x H' → t x σ H' fun σ2 H2 => lS K CT W body { D with nx := N, ct := N, bk := D.nx } σ2 H2) := by
  intro i m σ H ⟨φ, env, st, E, R, S, q⟩
  cases m with
  | zero => exact q.elim
  | succ k =>
    unfold forGo at q
    obtain ⟨h1, h2⟩ := hi i φ H st (fun _ _ z => E.at z) (E.stay R0) R
    split at q
    · exact q.elim
    · rename_i hs
      exact .inl ⟨h1 hs, q φ H σ Ext.refl R S⟩
    · rename_i d hd
      obtain ⟨go, yl⟩ := h2 d hd
      refine .inr ⟨go, fun σ' H' => ∃ φ env st, Ext φ0 H0 φ H' ∧ RelH K φ H' st ∧ RelS K φ H' σ' env ∧ PostS K W CT D φ H' (forGo it f body k (i + 1) env st), fun σ' H' h => ⟨k, Nat.lt_succ_self k, h⟩, fun x H' hy => ?_⟩
      obtain ⟨E2, R2, rx⟩ := yl x H' hy
      split at q
      · exact q.elim
      · rename_i env1 hf
        refine ht φ H' st env σ d x _ R2 (S.ext R E2) rx ⟨env1, hf, fun σ' S' _ => ⟨φ, env1, st, R2, S', ?_⟩⟩
        cases hb : body env1 st with
        | none => rw [hb] at q; exact q.elim
        | some o =>
          obtain ⟨fl, st2⟩ := o
          rw [hb] at q
          cases fl with
          | nx env2 => exact fun φ3 H3 σ3 E3 R3 S3 => ⟨φ3, env2, st2, (E.trans E2).trans E3, R3, S3, PostS.ext (E2.trans E3) q⟩
          | ct env2 => exact fun φ3 H3 σ3 E3 R3 S3 => ⟨φ3, env2, st2, (E.trans E2).trans E3, R3, S3, PostS.ext (E2.trans E3) q⟩
          | bk env2 => exact fun φ3 H3 σ3 E3 R3 S3 => q φ3 H3 σ3 (E2.trans E3) R3 S3
          | rt d2 => exact fun φ3 H3 v E3 R3 r3 => q φ3 H3 v (E2.trans E3) R3 r3
          | xc c fs env2 => exact fun φ3 H3 σ3 cv dd E3 R3 S3 p3 => q φ3 H3 σ3 cv dd (E2.trans E3) R3 S3 p3
theorem s_for {iter tg : Expr} {body : List Stmt} {gi : GI} {f : FT} {s : GS} {is : List Nat} (hp : PassesOwn (model X.prog X.w) X.A X.env X.xe) (hc : X.calm = true) (hi : DI CT W X tg iter gi) (hg : DG X tg f is) (hb : DSs CT W X body s)
    (hs : ∀ x, foldedSetIterable iter X.env x = pure x := by intro _; rfl) : DS CT W X (.For tg iter body [] pos) (sFor gi f s) := by
  obtain ⟨t, p, o⟩ := hg
  refine (ps_for hp hc hi p hb hs).imp fun D σ H h => ?_
  obtain ⟨φ, env, st, R, S, q⟩ := h
  refine ⟨φ, env, st, R, S, (PostS.split R S q).mono ?_⟩
  rintro J H1 ⟨φ1, st1, pr, E1, R1, S1, rx, q1⟩
  exact ⟨fun i m σ H => ∃ φ env st, Ext φ1 H1 φ H ∧ RelH X.K φ H st ∧ RelS X.K φ H σ env ∧ PostS X.K W CT D φ H (forGo pr.1 f s m i env st), ⟨pr.2, φ1, env, st1, Ext.refl, R1, S1, q1⟩, for_turn R1 rx o⟩

/-! ### while -/
def whileGo (c : GT) (body : GS) : Nat → Env → Store → Option (Fl × Store)
  | 0, _, _ => none
  | k + 1, env, st => sb env (c env st) fun b st1 => if b = true then (match body env st1 with
    | some (.nx env2, st2) => whileGo c body k env2 st2
    | some (.ct env2, st2) => whileGo c body k env2 st2
    | some (.bk env2, st2) => some (.nx env2, st2)
    | r => r) else some (.nx env, st1)
/-- enough turns: n -/
def sWhile (n : Nat) (c : GT) (body : GS) : GS := fun env st => whileGo c body n env st
theorem s_while {n : Nat} {body : List Stmt} {tt : GT} {s : GS} (hp : PassesOwn (model X.prog X.w) X.A X.env X.xe) (hc : DT CT W X c tt) (hb : DSs CT W X body s) : DS CT W X (.While c body [] pos) (sWhile n tt s) := (ps_while hp hc hb).imp fun D σ H h => by
  obtain ⟨φ, env, st, R, S, q⟩ := h
  refine ⟨fun m σ H => ∃ φ env st, RelH X.K φ H st ∧ RelS X.K φ H σ env ∧ PostS X.K W CT D φ H (whileGo tt s m env st), ⟨n, φ, env, st, R, S, q⟩, ?_⟩
  rintro m σ H ⟨φ, env, st, R, S, q⟩
  cases m with
  | zero => exact q.elim
  | succ k =>
    unfold whileGo at q
    refine ⟨φ, env, st, R, S, (PostS.split R S q).mono ?_⟩
    rintro b H1 ⟨φ1, st1, dx, E1, R1, S1, rx, q1⟩
    obtain rfl : b = dx := rx
    cases b with
    | false => exact q1 φ1 H1 σ Ext.refl R1 S1
    | true =>
      refine ⟨fun σ H => ∃ φ env st, RelH X.K φ H st ∧ RelS X.K φ H σ env ∧ PostS X.K W CT D φ H (whileGo tt s k env st), fun σ' H' h => ⟨k, Nat.lt_succ_self k, h⟩, φ1, env, st1, R1, S1, ?_⟩
      rw [if_pos rfl] at q1
      cases hb : s env st1 with
      | none => rw [hb] at q1; exact q1.elim
      | some o =>
        obtain ⟨fl, st2⟩ := o
        rw [hb] at q1
        cases fl with
        | nx env2 => exact fun φ3 H3 σ3 E3 R3 S3 => ⟨φ3, env2, st2, R3, S3, PostS.ext E3 q1⟩
        | ct env2 => exact fun φ3 H3 σ3 E3 R3 S3 => ⟨φ3, env2, st2, R3, S3, PostS.ext E3 q1⟩
        | bk env2 => exact q1
        | rt d2 => exact q1
        | xc c fs env2 => exact q1

/-! ### comprehensions -/
def wipeD (env : Env) : List Nat → Env
  | [] => env
  | v :: vs => (wipeD env vs).set v none
def lcGo (it : ItF) (f : FT) (tt : GT) (e : G) (env : Env) : Nat → Nat → List D → Store → Option (List D × Store)
  | 0, _, _, _ => none
  | k + 1, i, acc, st => match it i st with
    | none => none
    | some none => some (acc, st)
    | some (some d) => match f d env with
      | none => none
      | some env1 => match tt env1 st with
        | some (.ok true st1) => match e env1 st1 with
          | some (.ok y st2) => if acc.length < 16777216 then lcGo it f tt e env k (i + 1) (acc ++ [y]) st2 else none
          | _ => none
        | some (.ok false st1) => lcGo it f tt e env k (i + 1) acc st1
        | _ => none
/-- the list that a comprehension has made -/
def lcNew (r : Option (List D × Store)) : Option (Out D) := match r with
  | some (ds, st) => some (.ok (.ref st.length) (st ++ [.lst ds]))
  | none => none
def gLc (gi : GI) (f : FT) (tt : GT) (e : G) (vs : List Nat) : G := fun env st => rb (gi env st) fun p st1 => lcNew (lcGo p.1 f tt e (wipeD env vs) p.2 0 [] st1)
def ttYes : GT := fun _ st => some (.ok true st)
theorem wipe_rel {φ : Phi} {H : Hp} {σ : L2.St} {env : Env} (S : RelS K φ H σ env) : ∀ vs : List Nat, RelS K φ H (wipe σ vs) (wipeD env vs)
  | [] => S
  | v :: vs => by
    have S' := wipe_rel S vs
    unfold wipe wipeD
    refine ⟨by simp [S'.len], fun i d h => ?_⟩
    by_cases hi : i = v
    · subst hi
      rw [List.getElem?_set] at h
      split at h
      · split at h <;> cases h
      · rename_i hh; exact absurd rfl hh
    · rw [List.getElem?_set_ne (Ne.symm hi)] at h
      obtain ⟨w, h1, h2⟩ := S'.slot i d h
      exact ⟨w, by rw [List.getElem?_set_ne (Ne.symm hi)]; exact h1, h2⟩
end
end MP
set_option Elab.async false
set_option linter.all false
set_option autoImplicit false
set_option maxRecDepth 100000
set_option maxHeartbeats 2000000
/-! Mp6: comprehensions; defs and their calls. -/
namespace MP
open PySem PySem.Spec PyProof.Rows L2

section
variable {K : PySem.W.Frag} {X : Cx} {CT : CTab} {W : WX} {a b c e : Expr} {es : List Expr} {ga gb g : G} {gA : GA} {pos : Pos}
theorem wipe_at {σ : L2.St} {j : Nat} : ∀ {vs : List Nat}, (wipe σ vs)[j]? = if j ∈ vs ∧ j < σ.length then some none else σ[j]?
  | [] => by simp [wipe]
  | v :: vs => by
    unfold wipe
    by_cases hj : j = v
    · subst hj
      rw [List.getElem?_set]
      simp only [List.mem_cons, true_or, true_and, if_true]
      rw [wipe_length]
      by_cases hl : j < σ.length
      · simp [hl]
      · simp only [hl, if_false]
        rw [List.getElem?_eq_none (by omega)]
    · rw [List.getElem?_set_ne (Ne.symm hj), wipe_at]
      simp [hj]
theorem wipe_only {is vs : List Nat} {σ σ' : L2.St} (o : OnlyAt is σ σ') (h : ∀ i ∈ is, i ∈ vs) : wipe σ' vs = wipe σ vs := by
  apply List.ext_getElem?
  intro j
  rw [wipe_at, wipe_at, o.1]
  by_cases hj : j ∈ vs
  · by_cases hl : j < σ.length
    · simp [hj, hl]
    · simp only [hl, and_false, if_false]
      rw [List.getElem?_eq_none (by rw [o.1]; omega), List.getElem?_eq_none (by omega)]
  · simp only [hj, false_and, if_false]
    exact o.2 j fun z => hj (h j z)
theorem wipe_wipe {vs : List Nat} {σ : L2.St} : wipe (wipe σ vs) vs = wipe σ vs := by
  apply List.ext_getElem?
  intro j
  rw [wipe_at, wipe_length]
  split
  · rename_i h; rw [wipe_at, if_pos h]
  · rfl
/-- what a comprehension has made so far lies at D -/
def LcAt (K : PySem.W.Frag) (W : WX) (CT : CTab) (φ0 : Phi) (H0 : Hp) (D : Addr) (wσ : L2.St) (we : Env) (σ : L2.St) (Q : VK) (it : ItF) (f : FT) (tt : GT) (e : G) (m i : Nat) (H : Hp) : Prop :=
  ∃ φ st acc vs, Ext φ0 H0 φ H ∧ RelH K φ H st ∧ RelS K φ H wσ we ∧ D ∉ φ ∧ H D = some (.lst vs) ∧ RepAll K φ H acc vs ∧
    Post (rpE K) K CT W σ φ0 H0 (lcNew (lcGo it f tt e we m i acc st)) Q
theorem notin_ext {φ φ' : Phi} {H H' : Hp} {D : Addr} {o : HO} (E : Ext φ H φ' H') (h : D ∉ φ) (hD : H D = some o) (hn : ∀ ps, o ≠ .tbl ps := by intro ps z; cases z) : D ∉ φ' ∧ H' D = some o := by
  obtain ⟨t, e, ht⟩ := E.pre
  refine ⟨fun hm => ?_, E.keep D o hD h hn⟩
  rw [e] at hm
  rcases List.mem_append.mp hm with z | z
  · exact h z
  · rw [(ht D z).1] at hD; cases hD
theorem Ext.updOut {φ0 φ : Phi} {H0 H : Hp} {D : Addr} {o : HO} (E : Ext φ0 H0 φ H) (h0 : H0 D = none) : Ext φ0 H0 φ (upd H D o) :=
  ⟨E.pre, fun b u hb hn ht => by rw [upd_ne (ne_of_none hb h0)]; exact E.keep b u hb hn ht, fun b ps hb hn => by rw [upd_ne (ne_of_none hb h0)]; exact E.tbl b ps hb hn⟩
theorem stay_updOut {H : Hp} {D : Addr} {o : HO} (hm : ∀ u, H D = some u → Cel (some u)) : Stay H (upd H D o) := fun b u hb hn => by
  rw [upd_ne (fun z => by subst z; exact hn (cel_mut (hm u hb)))]; exact hb
theorem RelH.updOut {φ : Phi} {H : Hp} {st : Store} {D : Addr} {o : HO} (R : RelH K φ H st) (hD : D ∉ φ) (hm : ∀ u, H D = some u → Cel (some u)) : RelH K φ (upd H D o) st :=
  ⟨R.len, R.nd, fun n a c h hc => CellOk.go (fun _ _ z => z) (stay_updOut hm) (upd_ne fun z => hD (by rw [← z]; exact List.mem_of_getElem? h)) (R.cell n a c h hc), R.tab.upd hm⟩
theorem RelS.stay {φ : Phi} {H H' : Hp} {σ : L2.St} {env : Env} (S : RelS K φ H σ env) (E : Stay H H') : RelS K φ H' σ env :=
  ⟨S.len, fun i d h => by
    obtain ⟨v, a, b⟩ := S.slot i d h
    exact ⟨v, a, Rep.go (fun _ _ z => z) E d b⟩⟩
def W0 : WX := fun _ _ _ _ => False
theorem lc_turn {J : It} {t : TG} {f : FT} {tt : GT} {e : G} {it : ItF} {φ0 : Phi} {H0 : Hp} {is vs : List Nat} {D : Addr} {σ : L2.St} {we : Env} {Q : VK} {st0 : Store} (R0 : RelH K φ0 H0 st0) (hi : ItOk K J φ0 H0 it) (ht : TgOk K t f is) (his : ∀ i ∈ is, i ∈ vs) (h0 : H0 D = none) (nD : D ∉ φ0) :
    ∀ (i m : Nat) (H : Hp), LcAt K W CT φ0 H0 D (wipe σ vs) we σ Q it f tt e m i H →
      (J.stop i H ∧ Q (.ref D) H) ∨ (J.go i H ∧ ∃ N : Hp → Prop, (∀ H', N H' → ∃ m', m' < m ∧ LcAt K W CT φ0 H0 D (wipe σ vs) we σ Q it f tt e m' (i + 1) H') ∧
        ∀ x H', J.yld i H x H' → t x (wipe σ vs) H' fun σ2 H2 => wipe σ2 vs = wipe σ vs ∧ lT K CT W0 tt σ2 H2 fun b H3 =>
          if b = true then lE K CT W0 e σ2 H3 fun y H4 => ∃ acc, H4 D = some (.lst acc) ∧ acc.length < sizeLine ∧ N (upd H4 D (.lst (acc ++ [y]))) else N H3) := by
  intro i m H ⟨φ, st, acc, ws, E, R, S, hD, hl, ra, q⟩
  cases m with
  | zero => exact q.elim
  | succ k =>
    unfold lcGo at q
    obtain ⟨h1, h2⟩ := hi i φ H st (fun _ _ z => E.at z) (E.stay R0) R
    split at q
    · exact q.elim
    · rename_i hs
      refine .inl ⟨h1 hs, ?_⟩
      have E' : Ext φ0 H0 (φ ++ [D]) H := by
        obtain ⟨t', e', ht'⟩ := E.pre
        refine ⟨⟨t' ++ [D], by rw [e', List.append_assoc], fun b hb => ?_⟩, E.keep, E.tbl⟩
        rcases List.mem_append.mp hb with z | z
        · exact ht' b z
        · have : b = D := by simpa using z
          subst this; exact ⟨h0, nD⟩
      refine q _ H (.ref D) E' (R.adopt hD ⟨ws, hl, ra⟩) ?_
      show Rep K _ H (.ref st.length) (.ref D)
      unfold Rep
      exact ⟨D, rfl, by rw [← R.len]; simp⟩
    · rename_i d hd
      obtain ⟨go, yl⟩ := h2 d hd
      refine .inr ⟨go, fun H' => LcAt K W CT φ0 H0 D (wipe σ vs) we σ Q it f tt e k (i + 1) H', fun H' h => ⟨k, Nat.lt_succ_self k, h⟩, fun x H' hy => ?_⟩
      obtain ⟨E2, R2, rx⟩ := yl x H' hy
      split at q
      · exact q.elim
      · rename_i env1 hf
        obtain ⟨hD2, hl2⟩ := notin_ext E2 hD hl
        have ra2 := RepAll.ext R E2 _ ra
        have S2 := S.ext R E2
        refine ht φ H' st we _ d x _ R2 S2 rx ⟨env1, hf, fun σ' S' o' => ⟨?_, φ, env1, st, R2, S', ?_⟩⟩
        · rw [wipe_only o' his, wipe_wipe]
        · split at q
          · rename_i st1 htt
            rw [htt]
            intro φ3 H3 b E3 R3 hb
            obtain rfl : b = true := hb
            rw [if_pos rfl]
            refine ⟨φ3, env1, st1, R3, S'.ext R2 E3, ?_⟩
            split at q
            · rename_i y st2 he
              rw [he]
              intro φ4 H4 v E4 R4 rv
              obtain ⟨hD3, hl3⟩ := notin_ext E3 hD2 hl2
              obtain ⟨hD4, hl4⟩ := notin_ext E4 hD3 hl3
              have ra4 := RepAll.ext R3 E4 _ (RepAll.ext R2 E3 _ ra2)
              split at q
              · rename_i hz
                refine ⟨ws, hl4, ?_, ?_⟩
                · rw [← ra.length, sizeLine_eq]; exact hz
                · have hm : ∀ u, H4 D = some u → Cel (some u) := fun u hu => by rw [hl4] at hu; cases hu; exact True.intro
                  have Ea : Ext φ0 H0 φ4 H4 := ((E.trans E2).trans E3).trans E4
                  refine ⟨φ4, st2, acc ++ [y], ws ++ [v], Ea.updOut h0, R4.updOut hD4 hm, RelS.stay (((S2.ext R2 E3)).ext R3 E4) (stay_updOut hm), hD4, upd_same, ?_, q⟩
                  exact RepAll.go (fun _ _ z => z) (stay_updOut hm) _ (RepAll.append ra4 (RepAll.cons rv RepAll.nil))
              · exact q.elim
            · exact q.elim
          · rename_i st1 htt
            rw [htt]
            intro φ3 H3 b E3 R3 hb
            obtain rfl : b = false := hb
            rw [if_neg Bool.false_ne_true]
            obtain ⟨hD3, hl3⟩ := notin_ext E3 hD2 hl2
            exact ⟨φ3, st1, acc, ws, (E.trans E2).trans E3, R3, S2.ext R2 E3, hD3, hl3, RepAll.ext R2 E3 _ ra2, q⟩
          · exact q.elim
abbrev DTs (CT : CTab) (W : WX) (X : Cx) (ifs : List Expr) (g : GT) : Prop := PTs X ifs (lT X.K CT W g)
theorem _root_.L2.PTs.imp {ifs : List Expr} {t t' : TT} (h : PTs X ifs t) (i : ∀ σ H Q, t' σ H Q → t σ H Q) : PTs X ifs t' := ⟨fun pins s σ H Q I q => h.run pins s σ H Q I (i _ _ _ q)⟩
theorem ts_nil : DTs CT W X [] ttYes := pts_nil.imp fun σ H Q h => by
  obtain ⟨φ, env, st, R, S, q⟩ := h
  exact Post.done R rfl q
theorem ts_one {t : GT} (h : DT CT W X c t) : DTs CT W X [c] t := pts_one h
theorem lc_read {gi : GI} {f : FT} {tt : GT} {g : G} {t : TG} {is vs : List Nat} (ht : TgOk K t f is) (his : ∀ i ∈ is, i ∈ vs) {σ : L2.St} {H : Hp} {Q : VK} (h : lE K CT W (gLc gi f tt g vs) σ H Q) :
    tLc (lI K CT W gi) t (lT K CT W0 tt) (lE K CT W0 g) vs σ H Q := by
  obtain ⟨φ, env, st, R, S, q⟩ := h
  refine ⟨φ, env, st, R, S, (Post.split (rep := rpI K) q).mono ?_⟩
  rintro J H1 ⟨φ1, st1, p, E1, R1, rx, q1⟩
  intro D hD
  have nD : D ∉ φ1 := R1.fresh (o := .lst []) hD
  refine ⟨fun i m H => LcAt K W CT φ1 H1 D (wipe σ vs) (wipeD env vs) σ Q p.1 f tt g m i H, ⟨p.2, φ1, st1, [], [], (Ext.refl).updOut hD, R1.updOut nD (fun u hu => by rw [hD] at hu; cases hu), ?_, nD, upd_same, RepAll.nil, q1⟩, lc_turn R1 rx ht his hD nD⟩
  exact RelS.stay (wipe_rel (S.ext R E1) vs) (fun b u hb hn => by rw [upd_ne (ne_of_none hb hD)]; exact hb)
theorem d_lc {elt tg iter : Expr} {ifs : List Expr} {scope : Scope} {own : List (Str × Nat)} {gi : GI} {f : FT} {tt : GT} {is : List Nat} (hc : X.calm = true) (hN : X.N.Nodup) (hi : DI CT W X tg iter gi) (ok : BlkOk X.N X.env.scope scope own) (his : ∀ i ∈ is, i ∈ own.map (·.2))
    (hg : ∃ t, TgOk X.K t f is ∧ ∀ (s : Shared) (H : Hp) (C : Addr) (cl : List (Str × Addr)) (fp : List Addr), PG (X.blk s H scope (compEnvC scope cl C X.env) fp) tg t)
    (ht : ∀ (s : Shared) (H : Hp) (C : Addr) (cl : List (Str × Addr)) (fp : List Addr), DTs CT W0 (X.blk s H scope (compEnvC scope cl C X.env) fp) ifs tt)
    (he : ∀ (s : Shared) (H : Hp) (C : Addr) (cl : List (Str × Addr)) (fp : List Addr), DE CT W0 (X.blk s H scope (compEnvC scope cl C X.env) fp) elt g) (hs : ∀ x, foldedSetIterable iter X.env x = pure x := by intro _; rfl) :
    DE CT W X (.ListComp elt [⟨tg, iter, ifs, 0⟩] scope pos) (gLc gi f tt g (own.map (·.2))) := by
  obtain ⟨t, o, hp⟩ := hg
  exact (pe_lc hc hN hi ok hp ht he hs).imp fun σ H Q h => lc_read o his h
theorem s_setLc {i : Nat} {y : Str} {py spos : Pos} {elt tg iter : Expr} {ifs : List Expr} {scope : Scope} {own : List (Str × Nat)} {gi : GI} {f : FT} {tt : GT} {is : List Nat} (hc : X.calm = true) (hN : X.N.Nodup) (hy : X.N[i]? = some y) (hyl : X.env.scope.names.lookup y = some .local)
    (hsw : swapsWith (.ListComp elt [⟨tg, iter, ifs, 0⟩] scope pos) (some (.Name y py)) spos.line X.env = pure true) (hi : DI CT W X tg iter gi) (ok : BlkOk X.N X.env.scope scope own) (his : ∀ i ∈ is, i ∈ own.map (·.2))
    (hg : ∃ t, TgOk X.K t f is ∧ ∀ (s : Shared) (H : Hp) (C : Addr) (cl : List (Str × Addr)) (fp : List Addr), PG (X.blk s H scope (compEnvC scope cl C X.env) fp) tg t)
    (ht : ∀ (s : Shared) (H : Hp) (C : Addr) (cl : List (Str × Addr)) (fp : List Addr), DTs CT W0 (X.blk s H scope (compEnvC scope cl C X.env) fp) ifs tt)
    (he : ∀ (s : Shared) (H : Hp) (C : Addr) (cl : List (Str × Addr)) (fp : List Addr), DE CT W0 (X.blk s H scope (compEnvC scope cl C X.env) fp) elt g) (hs : ∀ x, foldedSetIterable iter X.env x = pure x := by intro _; rfl) :
    DS CT W X (.Assign [.Name y py] (.ListComp elt [⟨tg, iter, ifs, 0⟩] scope pos) spos) (sSet i (gLc gi f tt g (own.map (·.2)))) := by
  obtain ⟨t, o, hp⟩ := hg
  refine (ps_setLc (wi := lI X.K CT W gi) (tt := lT X.K CT W0 tt) (te := lE X.K CT W0 g) hc hN hy hyl hsw hi ok hp ht he hs).imp fun D σ H h => ?_
  have h1 := lS_set h
  exact lc_read o his h1
/-- the target of a comprehension -/
theorem cg {scope : Scope} {tg : Expr} {t : TG} {f : FT} {is : List Nat} (o : TgOk X.K t f is) (hp : ∀ (s : Shared) (H : Hp) (C : Addr) (cl : List (Str × Addr)) (fp : List Addr), PG (X.blk s H scope (compEnvC scope cl C X.env) fp) tg t) :
    ∃ t, TgOk X.K t f is ∧ ∀ (s : Shared) (H : Hp) (C : Addr) (cl : List (Str × Addr)) (fp : List Addr), PG (X.blk s H scope (compEnvC scope cl C X.env) fp) tg t := ⟨t, o, hp⟩

/-! ### a def's promise by the function that says what it is worth -/
abbrev GF := List D → Store → Option (Out D)
def spG (K : PySem.W.Frag) (CT : CTab) (n : Nat) (gf : GF) : Sp := fun vs H Q E => ∃ φ ds st, ds.length = n ∧ RelH K φ H st ∧ RepAll K φ H ds vs ∧ Post (rpE K) K CT (fun c d _ H => E c d H) [] φ H (gf ds st) Q
/-- a body as a function of its arguments: n names in all -/
def gBody (n : Nat) (s : GS) : GF := fun ds st => match s (ds.map some ++ List.replicate (n - ds.length) none) st with
  | some (.rt d, st') => some (.ok d st')
  | some (.nx _, st') => some (.ok .non st')
  | some (.xc c fs _, st') => some (.ex c fs st')
  | _ => none
theorem start_rel {φ : Phi} {H : Hp} {N : List Str} {ds : List D} {vs : List V} (r : RepAll K φ H ds vs) : RelS K φ H (L2.start N vs) (ds.map some ++ List.replicate (N.length - ds.length) none) := by
  have hl := r.length
  refine ⟨by unfold L2.start; simp [hl], fun i d h => ?_⟩
  unfold L2.start
  by_cases hi : i < ds.length
  · rw [List.getElem?_append_left (by simp; exact hi), List.getElem?_map] at h
    obtain ⟨d', h1, h2⟩ := Option.map_eq_some_iff.mp h
    cases h2
    obtain ⟨v, h3, h4⟩ := r.get h1
    refine ⟨v, ?_, h4⟩
    rw [List.getElem?_append_left (by simp; omega), List.getElem?_map, h3]; rfl
  · rw [List.getElem?_append_right (by simp; omega)] at h
    have := List.mem_of_getElem? h
    rw [List.mem_replicate] at this
    cases this.2
theorem body_read {N : List Str} {gs : GS} {vs : List V} {H : Hp} {Q : VK} {E : XK} {k : Nat} (h : spG K CT k (gBody N.length gs) vs H Q E) :
    lS K CT (fun c d _ H => E c d H) gs { nx := fun _ H' => Q .non H', rt := Q } (L2.start N vs) H := by
  obtain ⟨φ, ds, st, hl, R, r, q⟩ := h
  refine ⟨φ, _, st, R, start_rel r, ?_⟩
  unfold gBody at q
  cases hs : gs (ds.map some ++ List.replicate (N.length - ds.length) none) st with
  | none => rw [hs] at q; exact q.elim
  | some o =>
    obtain ⟨fl, st'⟩ := o
    rw [hs] at q
    cases fl with
    | nx e => exact fun φ2 H2 σ2 E2 R2 S2 => q φ2 H2 .non E2 R2 (show Rep K φ2 H2 .non .non from rfl)
    | bk e => exact q.elim
    | ct e => exact q.elim
    | rt d => exact q
    | xc c fs e => exact fun φ2 H2 σ2 cv dd E2 R2 S2 p2 => q φ2 H2 cv dd E2 R2 p2
end
/-! ### calls where no repr runs (the guards are known to be none) -/
/-- as FnOk, from around that have no guards -/
structure FnG (P : Program) (w : World) (K : PySem.W.Frag) (mg : Str → Option Value) (base : Heap) (k : Nat) (f : Addr) (fd : FuncData) (ps : List Str) (sp : Sp) : Prop where
  len : ∀ vs H Q E, sp vs H Q E → vs.length = ps.length
  run : ∀ (A : Around) (outer : List PySem.Env) (s : Shared) (H : Hp) (args : Args) (us : List Value) (vs : List V) (Q : VK) (E : XK), Room k A → A.guards = some [] → Env0 P w K mg base A outer s H →
    BindsTo s fd args (ps.zip us) → Vals vs us → sp vs H Q E → codeAny (model P w) A (.call (.ref f) args) (CR (L2.CX P w) outer P w H s Q E) s
theorem FnG.mono {P : Program} {w : World} {K : PySem.W.Frag} {mg : Str → Option Value} {base : Heap} {j k : Nat} {f : Addr} {fd : FuncData} {ps : List Str} {sp : Sp} (F : FnG P w K mg base j f fd ps sp) (h : j ≤ k) : FnG P w K mg base k f fd ps sp :=
  ⟨F.len, fun A outer s H args us vs Q E hr => F.run A outer s H args us vs Q E (hr.mono h)⟩
section
variable {P : Program} {w : World} {K : PySem.W.Frag} {mg : Str → Option Value} {base : Heap}
theorem fn_g {k : Nat} {f : Addr} {name qual : Str} {params : Arguments} {body : List Stmt} {scope : Scope} {dV kV doc pm cdv ct oc : Value} {an od : Option Addr} {osl : Array (Option Value)} {N ps : List Str} {sp : Sp}
    (lk : K.lookup f = some ⟨oc, od, .func (PySem.W.fnOf name qual params body scope dV kV doc pm an cdv ct), osl⟩) (hcd : PySem.W.codeIn K cdv qual = true) (S : FnScope N ps scope) (len : ∀ vs H Q E, sp vs H Q E → vs.length = ps.length)
    (hbody : ∀ (A : Around) (outer : List PySem.Env) (s : Shared) (H : Hp) (vs : List V) (Q : VK) (E : XK), Room k (A.deeper (envOfC qual scope s.heap.objs.size f cdv)) → A.guards = some [] → sp vs H Q E →
      ∃ t, PSs (cxOf (L2.CX P w) P w K mg base N qual scope f cdv A outer s H E) body t ∧ t { nx := fun _ H' => Q .non H', rt := Q } (L2.start N vs) H) :
    FnG P w K mg base (k + 1) f (PySem.W.fnOf name qual params body scope dV kV doc pm an cdv ct) ps sp := by
  refine ⟨len, fun A outer s H args us vs Q E room gd e0 bnd rel hsp => ?_⟩
  have KX : K.In s.heap := e0.mod.kin.keeps fun b o e => (e0.bs b o e).1
  have lim : s.heap.NoLimit := e0.mod.nolimit.keeps fun b o e => (e0.bs b o e).1
  have kinds : ∀ y ∈ ps.zip us, scope.names.lookup y.1 = some .local ∨ (scope.names.lookup y.1 = some .cell ∧ ((cellsFrom (s.heap.objs.size + 1) scope.names []).lookup y.1).isSome = true) := by
    rintro ⟨n, v⟩ hy
    rcases S.par n (List.of_mem_zip hy).1 with q | q
    · exact .inl q
    · exact .inr ⟨q, PySem.W.cellsFrom_some _ _ _ (.inl q)⟩
  refine codeAny_call_function room.depth (KX _ _ lk) rfl S.co S.gen rfl (PySem.W.codeRec_of KX hcd) (bnd _ _ _ _ ?_)
  refine wpAny_newFunctionEnv_cells S.kind kinds fun env he s1 x => ?_
  subst he
  refine ⟨lim.keeps x.toInCall.keep, codeAny_func ?_⟩
  obtain ⟨t, ht, hq⟩ := hbody A outer s H vs Q E (room.deeper _) gd hsp
  have I0 : Inv (cxOf (L2.CX P w) P w K mg base N qual scope f cdv A outer s H E) [] (L2.start N vs) H s1 := inv_start S room.hd e0 (len _ _ _ _ hsp) rel x
  refine wpAny_mono (ht.run [] s1 (L2.start N vs) H _ I0 hq) (fun fl s' hs => ?_) fun _ _ hs => hs
  cases fl with
  | ret u =>
    obtain ⟨v, σ', H', J, rv, q⟩ := hs
    exact ⟨v, H', J.os, J.bare, J.base, J.hok, rv, q⟩
  | next =>
    obtain ⟨σ', H', J, q⟩ := hs
    exact ⟨V.non, H', J.os, J.bare, J.base, J.hok, rfl, q⟩
  | brk =>
    obtain ⟨_, _, _, q⟩ := hs
    exact q.elim
  | cont =>
    obtain ⟨_, _, _, q⟩ := hs
    exact q.elim
theorem run_g {X : Cx} {W : WX} {k : Nat} {f : Addr} {fd : FuncData} {ps : List Str} {sp : Sp} {pins : List (Addr × Obj)} {σ : L2.St} {H : Hp} {s : Shared} {Q : VK} {us : List Value} {vs : List V} (F : FnG X.prog X.w X.K X.mg X.base k f fd ps sp) (hr : Room k X.A) (gd : X.A.guards = some []) (hb : Binds X.K fd ps [])
    (tk : Takes X W) (I : Inv X pins σ H s) (r : Vals vs us) (h : sp vs H Q (WE W σ)) : wpAny (model X.prog X.w) X.A (call (.ref f) us) (EP X pins σ Q) X.xe s := by
  have hl : us.length = ps.length := by rw [← r.length]; exact F.len _ _ _ _ h
  have b := hb s us I.kIn (by rw [List.append_nil]; exact hl)
  rw [List.append_nil] at b
  refine wpAny_call (codeAny_mono (F.run X.A X.stack s H ⟨us, []⟩ us vs Q (WE W σ) hr gd I.env0 b r h) fun res s' hq => ?_)
  match res, hq with
  | .error e, hq => exact passAt tk σ pins H s e s' I hq
  | .ok (.ret u), hq => exact I.after hq
  | .ok .next, hq => exact hq.elim
  | .ok .brk, hq => exact hq.elim
  | .ok .cont, hq => exact hq.elim
theorem pe_g {X : Cx} {W : WX} {k : Nat} {f : Addr} {fd : FuncData} {ps : List Str} {sp : Sp} {x : Str} {p pos : Pos} {e : Expr} {es : List Expr} {t : TA} (F : FnG X.prog X.w X.K X.mg X.base k f fd ps sp) (hr : Room k X.A) (gd : X.A.guards = some []) (hg : Gl X x) (hm : X.mg x = some (.ref f)) (hk : PySem.W.keepIn X.K (.ref f) = true)
    (hb : Binds X.K fd ps []) (tk : Takes X W) (ha : PA X (e :: es) t) (hdb : (x == ("__debug__" : Str)) = false) (he : starEach (e :: es) X.env = (false, eval e X.env) :: starEach es X.env) (hpl : (backTo pos (starEach es X.env)).any (·.1) = false) :
    PE X (.Call (.Name x p) (e :: es) [] pos) (tCallS sp (WE W) t) := ⟨fun pins s σ H Q I h => wpAny_Call_Name_kw (ld_glob I hg hm
      (PySem.W.callWith_K (h₀ := X.base) I.ok.mod.kin hk (thn (ha.run pos pins s σ H _ I h) fun us s1 ⟨vs, H1, I1, r, q⟩ => ⟨I1.kIn, run_g F hr gd hb tk I1 r q⟩) he hpl) hdb)⟩
theorem pe_g0 {X : Cx} {W : WX} {k : Nat} {f : Addr} {fd : FuncData} {sp : Sp} {x : Str} {p pos : Pos} (F : FnG X.prog X.w X.K X.mg X.base k f fd [] sp) (hr : Room k X.A) (gd : X.A.guards = some []) (hg : Gl X x) (hm : X.mg x = some (.ref f)) (hk : PySem.W.keepIn X.K (.ref f) = true)
    (hb : Binds X.K fd [] []) (tk : Takes X W) (hdb : (x == ("__debug__" : Str)) = false) : PE X (.Call (.Name x p) [] [] pos) (tCallS sp (WE W) tNil) :=
  ⟨fun pins s σ H Q I h => wpAny_Call_Name_kw (ld_glob I hg hm (PySem.W.callWith_K0 I.kIn hk (run_g (us := []) F hr gd hb tk I .nil h)) hdb)⟩
end
section
variable {K : PySem.W.Frag} {X : Cx} {CT : CTab} {W : WX} {a b c e : Expr} {es : List Expr} {ga gb g : G} {gA : GA} {pos : Pos} {P : Program} {w : World} {mg : Str → Option Value} {base : Heap}
/-- THE RULE for a def -/
theorem def_ok {x qual : Str} {st : Stmt} {f : Addr} {fd : FuncData} {N ps : List Str} {k : Nat} {gs : GS} (F : Fun K x qual st f fd) (S : FnScope N ps (defScope st))
    (hb : ∀ (cdv : Value) (A : Around) (outer : List PySem.Env) (s : Shared) (H : Hp) (E : XK), Room k (A.deeper (envOfC qual (defScope st) s.heap.objs.size f cdv)) → A.guards = some [] →
      PSs (cxOf (L2.CX P w) P w K mg base N qual (defScope st) f cdv A outer s H E) (defBody st) (lS K CT (fun c d _ H => E c d H) gs)) :
    FnG P w K mg base (k + 1) f fd ps (spG K CT ps.length (gBody N.length gs)) := by
  obtain ⟨oc, od, kV, doc, pm, an, cdv, ct, osl, rfl, lk, hcd⟩ := F.ex
  refine fn_g lk hcd S (fun vs H Q E h => ?_) (fun A outer s H vs Q E hr gd h => ⟨_, hb cdv A outer s H E hr gd, body_read h⟩)
  obtain ⟨φ, ds, st', hl, R, r, q⟩ := h
  rw [← hl, r.length]
def gCall (n : Nat) (gf : GF) (ga : GA) : G := fun env st => rb (ga env st) fun ds st1 => if ds.length = n then gf ds st1 else none
theorem d_call {x : Str} {p : Pos} {k n : Nat} {f : Addr} {fd : FuncData} {ps : List Str} {gf : GF} (F : FnG X.prog X.w X.K X.mg X.base k f fd ps (spG X.K CT n gf)) (hr : Room k X.A) (gd : X.A.guards = some []) (hg : Gl X x) (hm : X.mg x = some (.ref f)) (hk : PySem.W.keepIn X.K (.ref f) = true) (hb : Binds X.K fd ps []) (tk : Takes X W)
    (ha : DA CT W X (e :: es) gA) (hdb : (x == ("__debug__" : Str)) = false := by decide) (he : starEach (e :: es) X.env = (false, eval e X.env) :: starEach es X.env := by rfl) (hpl : (backTo pos (starEach es X.env)).any (·.1) = false := by rfl) :
    DE CT W X (.Call (.Name x p) (e :: es) [] pos) (gCall n gf gA) := (pe_g F hr gd hg hm hk hb tk ha hdb he hpl).imp fun σ H Q h => by
  obtain ⟨φ, env, st, R, S, q⟩ := h
  refine ⟨φ, env, st, R, S, (Post.split q).mono ?_⟩
  rintro vs H1 ⟨φ1, st1, ds, E1, R1, rx, q1⟩
  split at q1
  · rename_i hl
    refine ⟨φ1, ds, st1, hl, R1, rx, ?_⟩
    cases hgf : gf ds st1 with
    | none => rw [hgf] at q1; exact q1
    | some o => cases o with
      | ok d s' => rw [hgf] at q1; exact q1
      | ex c fs s' => rw [hgf] at q1; exact q1
  · exact q1.elim
def gCall0 (gf : GF) : G := fun _ st => gf [] st
theorem d_call0 {x : Str} {p : Pos} {k : Nat} {f : Addr} {fd : FuncData} {gf : GF} (F : FnG X.prog X.w X.K X.mg X.base k f fd [] (spG X.K CT 0 gf)) (hr : Room k X.A) (gd : X.A.guards = some []) (hg : Gl X x) (hm : X.mg x = some (.ref f)) (hk : PySem.W.keepIn X.K (.ref f) = true) (hb : Binds X.K fd [] []) (tk : Takes X W) (hdb : (x == ("__debug__" : Str)) = false := by decide) :
    DE CT W X (.Call (.Name x p) [] [] pos) (gCall0 gf) := (pe_g0 F hr gd hg hm hk hb tk hdb).imp fun σ H Q h => by
  obtain ⟨φ, env, st, R, S, q⟩ := h
  refine ⟨φ, [], st, rfl, R, RepAll.nil, ?_⟩
  unfold gCall0 at q
  cases hgf : gf [] st with
  | none => rw [hgf] at q; exact q
  | some o => cases o with
    | ok d s' => rw [hgf] at q; exact q
    | ex c fs s' => rw [hgf] at q; exact q
end
end MP
set_option Elab.async false
set_option linter.all false
set_option autoImplicit false
set_option maxRecDepth 100000
set_option maxHeartbeats 2000000
/-! Mp7: built-in functions, types and methods. -/
namespace MP
open PySem PySem.Spec PyProof.Rows L2

section
variable {K : PySem.W.Frag} {X : Cx} {CT : CTab} {W : WX} {a b c e o : Expr} {es : List Expr} {ga gb g : G} {gA : GA} {pos : Pos}
def CallD (K : PySem.W.Frag) (r : List V → Hp → VK → Prop) (f : GF) : Prop := ∀ (CT : CTab) (W : WX) (σ : L2.St) (φ : Phi) (H : Hp) (st : Store) (ds : List D) (vs : List V) (Q : VK), RelH K φ H st → RepAll K φ H ds vs → Post (rpE K) K CT W σ φ H (f ds st) Q → r vs H Q
def gFn (f : GF) (ga : GA) : G := fun env st => rb (ga env st) fun ds st1 => f ds st1
theorem lE_fn {r : List V → Hp → VK → Prop} {f : GF} (hf : CallD K r f) {σ : L2.St} {H : Hp} {Q : VK} (h : lE K CT W (gFn f gA) σ H Q) : tCB r (lA K CT W gA) σ H Q := by
  obtain ⟨φ, env, st, R, S, q⟩ := h
  refine ⟨φ, env, st, R, S, (Post.split q).mono ?_⟩
  rintro vs H1 ⟨φ1, st1, ds, E1, R1, rx, q1⟩
  exact hf CT W σ φ1 H1 st1 ds vs Q R1 rx q1
theorem d_fnB {id : String} {x : Str} {p : Pos} {r : List V → Hp → VK → Prop} {f : GF} (hc : CallR X (.builtin id) r) (hf : CallD X.K r f) (hg : Gl X x) (hm : X.mg x = none) (hv : bootBuiltins x = some (.builtin id)) (ha : DA CT W X (e :: es) gA) (hn : x ≠ "__name__" := by decide) (hdb : (x == ("__debug__" : Str)) = false := by decide)
    (he : starEach (e :: es) X.env = (false, eval e X.env) :: starEach es X.env := by rfl) (hpl : (backTo pos (starEach es X.env)).any (·.1) = false := by rfl) : DE CT W X (.Call (.Name x p) (e :: es) [] pos) (gFn f gA) := (pe_callB hc hg hm hv ha hn hdb he hpl).imp fun _ _ _ h => lE_fn hf h
theorem d_fnT {T : String} {x : Str} {p : Pos} {r : List V → Hp → VK → Prop} {f : GF} (hc : CallR X (.type T) r) (hf : CallD X.K r f) (hg : Gl X x) (hm : X.mg x = none) (hv : bootBuiltins x = some (.type T)) (ha : DA CT W X (e :: es) gA) (hn : x ≠ "__name__" := by decide) (hdb : (x == ("__debug__" : Str)) = false := by decide)
    (he : starEach (e :: es) X.env = (false, eval e X.env) :: starEach es X.env := by rfl) (hpl : (backTo pos (starEach es X.env)).any (·.1) = false := by rfl) : DE CT W X (.Call (.Name x p) (e :: es) [] pos) (gFn f gA) := (pe_callTy hc hg hm hv ha hn hdb he hpl).imp fun _ _ _ h => lE_fn hf h
theorem one_rep {φ : Phi} {H : Hp} {d : D} {vs : List V} (h : RepAll K φ H [d] vs) : ∃ v, vs = [v] ∧ Rep K φ H d v := by
  unfold RepAll at h
  obtain ⟨v, r, rfl, h1, h2⟩ := h
  rw [repAll_nil h2]; exact ⟨v, rfl, h1⟩
theorem two_rep {φ : Phi} {H : Hp} {d e : D} {vs : List V} (h : RepAll K φ H [d, e] vs) : ∃ v w, vs = [v, w] ∧ Rep K φ H d v ∧ Rep K φ H e w := by
  unfold RepAll at h
  obtain ⟨v, r, rfl, h1, h2⟩ := h
  obtain ⟨w, rfl, h3⟩ := one_rep h2
  exact ⟨v, w, rfl, h1, h3⟩
/-! len -/
def fLen : GF
  | [d], st => match seqD st d with
    | some xs => some (.ok (.int xs.length) st)
    | none => none
  | _, _ => none
theorem cd_len : CallD K (fun xs H Q => ∃ p ys, xs = [.ref p] ∧ (SqL K H p ys ∨ SqT K H p ys) ∧ Q (.int ys.length) H) fLen := by
  intro CT W σ φ H st ds vs Q R r q
  unfold fLen at q
  split at q
  · rename_i st' d
    split at q
    · rename_i xs hx
      obtain ⟨v, rfl, h1⟩ := one_rep r
      obtain ⟨p, ws, rfl, h2, h3⟩ := seqD_ok R hx h1
      refine ⟨p, ws, rfl, h2, ?_⟩
      rw [← h3.length]
      exact Post.done R (show Rep K φ H (.int _) (.int _) from rfl) q
    · exact q.elim
  · exact q.elim
/-! list(..), tuple(..) -/
def fList : GF
  | [d], st => match seqD st d with
    | some xs => some (.ok (.ref st.length) (st ++ [.lst xs]))
    | none => none
  | _, _ => none
theorem cd_list : CallD K (fun xs H Q => ∃ p ys, xs = [.ref p] ∧ (SqL K H p ys ∨ SqT K H p ys) ∧ ∀ l, H l = none → Q (.ref l) (upd H l (.lst ys))) fList := by
  intro CT W σ φ H st ds vs Q R r q
  unfold fList at q
  split at q
  · rename_i st' d
    split at q
    · rename_i xs hx
      obtain ⟨v, rfl, h1⟩ := one_rep r
      obtain ⟨p, ws, rfl, h2, h3⟩ := seqD_ok R hx h1
      exact ⟨p, ws, rfl, h2, new_lst R h3 q⟩
    · exact q.elim
  · exact q.elim
def fTuple : GF
  | [d], st => match seqD st d with
    | some xs => some (.ok (.tup xs) st)
    | none => none
  | _, _ => none
theorem cd_tuple : CallD K (fun xs H Q => ∃ p ys, xs = [.ref p] ∧ ((SqL K H p ys ∧ ∀ l, H l = none → Q (.ref l) (upd H l (.tup ys))) ∨ (SqT K H p ys ∧ Q (.ref p) H))) fTuple := by
  intro CT W σ φ H st ds vs Q R r q
  unfold fTuple at q
  split at q
  · rename_i st' d
    split at q
    · rename_i xs hx
      obtain ⟨v, rfl, h1⟩ := one_rep r
      obtain ⟨p, ws, rfl, h2, h3⟩ := seqD_ok R hx h1
      rcases h2 with h2 | h2
      · exact ⟨p, ws, rfl, .inl ⟨h2, new_tup R h3 q⟩⟩
      · exact ⟨p, ws, rfl, .inr ⟨h2, Post.done R (repTup' h2 h3) q⟩⟩
    · exact q.elim
  · exact q.elim
/-! int(..), min, max of two, sum, all, any -/
def fInt : GF
  | [.int i], st => some (.ok (.int i) st)
  | [.bl k], st => some (.ok (.int (if k then 1 else 0)) st)
  | _, _ => none
theorem cd_int : CallD K (fun xs H Q => (∃ i, xs = [.int i] ∧ Q (.int i) H) ∨ ∃ k, xs = [.bl k] ∧ Q (.int (if k then 1 else 0)) H) fInt := by
  intro CT W σ φ H st ds vs Q R r q
  unfold fInt at q
  split at q
  · obtain ⟨v, rfl, h1⟩ := one_rep r
    rw [repInt h1]
    exact .inl ⟨_, rfl, Post.done R (show Rep K φ H (.int _) (.int _) from rfl) q⟩
  · obtain ⟨v, rfl, h1⟩ := one_rep r
    rw [repBl h1]
    exact .inr ⟨_, rfl, Post.done R (show Rep K φ H (.int _) (.int _) from rfl) q⟩
  · exact q.elim
def fMin2 : GF
  | [.int i, .int j], st => some (.ok (.int (if j < i then j else i)) st)
  | _, _ => none
theorem cd_min2 : CallD K (fun xs H Q => ∃ i j, xs = [.int i, .int j] ∧ Q (.int (if j < i then j else i)) H) fMin2 := by
  intro CT W σ φ H st ds vs Q R r q
  unfold fMin2 at q
  split at q
  · obtain ⟨v, w, rfl, h1, h2⟩ := two_rep r
    rw [repInt h1, repInt h2]
    exact ⟨_, _, rfl, Post.done R (show Rep K φ H (.int _) (.int _) from rfl) q⟩
  · exact q.elim
def fMax2 : GF
  | [.int i, .int j], st => some (.ok (.int (if j > i then j else i)) st)
  | _, _ => none
theorem cd_max2 : CallD K (fun xs H Q => ∃ i j, xs = [.int i, .int j] ∧ Q (.int (if j > i then j else i)) H) fMax2 := by
  intro CT W σ φ H st ds vs Q R r q
  unfold fMax2 at q
  split at q
  · obtain ⟨v, w, rfl, h1, h2⟩ := two_rep r
    rw [repInt h1, repInt h2]
    exact ⟨_, _, rfl, Post.done R (show Rep K φ H (.int _) (.int _) from rfl) q⟩
  · exact q.elim
/-- the items of a list (in the store or outside) -/
def listD (st : Store) : D → Option (List D)
  | .rol xs => some xs
  | .ref n => cellL st n
  | _ => none
theorem listD_ok {φ : Phi} {H : Hp} {st : Store} (R : RelH K φ H st) : ∀ {d : D} {v : V} {xs : List D}, listD st d = some xs → Rep K φ H d v → ∃ a vs, v = .ref a ∧ SqL K H a vs ∧ RepAll K φ H xs vs
  | .rol _, v, xs, e, h => by
    unfold listD at e; cases e
    obtain ⟨a, vs, e1, h1, h2⟩ := repRol h
    exact ⟨a, vs, e1, h1.sq, h2⟩
  | .ref n, v, xs, e, h => by
    unfold listD at e
    obtain ⟨a, e1, h1⟩ := repRef h
    obtain ⟨vs, h2, h3⟩ := cellL_ok R h1 e
    exact ⟨a, vs, e1, SqL.of h2, h3⟩
def asBl : D → Option Bool
  | .bl i => some i
  | _ => none
def asBls (ds : List D) : Option (List Bool) := optAll (ds.map asBl)
theorem asBls_ok {φ : Phi} {H : Hp} : ∀ {ds : List D} {vs : List V} {ns : List Bool}, asBls ds = some ns → RepAll K φ H ds vs → vs = ns.map V.bl
  | [], _, _, e, h => by
    rw [repAll_nil h]
    unfold asBls at e
    simp only [List.map_nil, optAll, Option.some.injEq] at e
    subst e; rfl
  | d :: ds, _, _, e, h => by
    unfold RepAll at h
    obtain ⟨v, r, rfl, h1, h2⟩ := h
    unfold asBls at e
    rw [List.map_cons] at e
    unfold optAll at e
    split at e
    · rename_i e0; exact absurd e0 (by simp)
    · rename_i a r' hc
      split at e
      · rename_i l hl
        cases e
        rw [List.cons.injEq] at hc
        rw [← hc.2] at hl
        have e3 := asBls_ok (ds := ds) (ns := l) hl h2
        rw [e3]
        cases d with
        | bl i =>
          have := hc.1
          unfold asBl at this
          cases this
          rw [repBl h1]; rfl
        | _ => exact absurd hc.1 (by simp [asBl])
      · cases e
    · cases e
def fAll : GF
  | [d], st => match listD st d with
    | some xs => match asBls xs with
      | some bs => some (.ok (.bl (bs.all id)) st)
      | none => none
    | none => none
  | _, _ => none
theorem cd_all : CallD K (rAll K) fAll := by
  intro CT W σ φ H st ds vs Q R r q
  unfold fAll at q
  split at q
  · rename_i st' d
    split at q
    · rename_i xs hx
      split at q
      · rename_i bs hb
        obtain ⟨v, rfl, h1⟩ := one_rep r
        obtain ⟨p, ws, rfl, h2, h3⟩ := listD_ok R hx h1
        rw [asBls_ok hb h3] at h2
        exact ⟨p, bs, rfl, h2, Post.done R (show Rep K φ H (.bl _) (.bl _) from rfl) q⟩
      · exact q.elim
    · exact q.elim
  · exact q.elim
def fAny : GF
  | [d], st => match listD st d with
    | some xs => match asBls xs with
      | some bs => some (.ok (.bl (bs.any id)) st)
      | none => none
    | none => none
  | _, _ => none
theorem cd_any : CallD K (rAny K) fAny := by
  intro CT W σ φ H st ds vs Q R r q
  unfold fAny at q
  split at q
  · rename_i st' d
    split at q
    · rename_i xs hx
      split at q
      · rename_i bs hb
        obtain ⟨v, rfl, h1⟩ := one_rep r
        obtain ⟨p, ws, rfl, h2, h3⟩ := listD_ok R hx h1
        rw [asBls_ok hb h3] at h2
        exact ⟨p, bs, rfl, h2, Post.done R (show Rep K φ H (.bl _) (.bl _) from rfl) q⟩
      · exact q.elim
    · exact q.elim
  · exact q.elim
def fSum : GF
  | [d], st => match listD st d with
    | some xs => match asInts xs with
      | some ns => some (.ok (.int ns.sum) st)
      | none => none
    | none => none
  | _, _ => none
theorem cd_sum : CallD K (rSum K) fSum := by
  intro CT W σ φ H st ds vs Q R r q
  unfold fSum at q
  split at q
  · rename_i st' d
    split at q
    · rename_i xs hx
      split at q
      · rename_i bs hb
        obtain ⟨v, rfl, h1⟩ := one_rep r
        obtain ⟨p, ws, rfl, h2, h3⟩ := listD_ok R hx h1
        rw [asInts_ok hb h3] at h2
        exact ⟨p, bs, rfl, h2, Post.done R (show Rep K φ H (.int _) (.int _) from rfl) q⟩
      · exact q.elim
    · exact q.elim
  · exact q.elim

/-! ### isinstance -/
def tyD (st : Store) : D → Option String
  | .non => some "NoneType"
  | .bl _ => some "bool"
  | .int _ => some "int"
  | .str _ => some "str"
  | .tup _ => some "tuple"
  | .rol _ => some "list"
  | .ref n => match st[n]? with
    | some (.lst _) => some "list"
    | some (.dct _) => some "dict"
    | none => none
theorem tyD_ok {φ : Phi} {H : Hp} {st : Store} (R : RelH K φ H st) : ∀ {d : D} {v : V} {T : String}, tyD st d = some T → Rep K φ H d v → TyX K H v (.type T)
  | .non, v, T, e, h => by unfold tyD at e; cases e; rw [repNon h]; exact .base .non
  | .bl i, v, T, e, h => by unfold tyD at e; cases e; rw [repBl h]; exact .base (.bl i)
  | .int i, v, T, e, h => by unfold tyD at e; cases e; rw [repInt h]; exact .base (.int i)
  | .str i, v, T, e, h => by unfold tyD at e; cases e; rw [repStr h]; exact .base (.str i)
  | .tup ds, v, T, e, h => by
    unfold tyD at e; cases e
    obtain ⟨a, vs, rfl, h1, _⟩ := repTup h
    rcases h1 with (h1 | ⟨o, h1⟩) | ⟨o, its, n, h1, h2, _⟩
    · exact .base (.tup h1)
    · exact .fTuple h1
    · exact .kTuple h1 h2
  | .rol ds, v, T, e, h => by
    unfold tyD at e; cases e
    obtain ⟨a, vs, rfl, h1, _⟩ := repRol h
    rcases h1 with ⟨o, h1⟩ | ⟨o, its, n, h1, h2, _⟩
    · exact .base (.frz h1)
    · exact .kList h1 h2
  | .ref n, v, T, e, h => by
    obtain ⟨a, rfl, h1⟩ := repRef h
    cases hc : st[n]? with
    | none => simp only [tyD, hc] at e; cases e
    | some c =>
      have := R.cell n a c h1 hc
      simp only [tyD, hc] at e
      cases c with
      | lst ds => cases e; obtain ⟨vs, h2, _⟩ := this; exact .base (.lst h2)
      | dct ds => cases e; obtain ⟨vs, h2, _⟩ := this; exact .base (.dK h2)
def isSub (a b : String) : Bool := a == b || (a == "bool" && b == "int")
def tyNames : List String := ["NoneType", "bool", "int", "str", "tuple", "list", "dict"]
def kitOkB (T : String) : Bool := tyNames.all fun a => decide (kitB a T = some (isSub a T))
theorem tyD_mem {st : Store} {d : D} {T : String} (h : tyD st d = some T) : T ∈ tyNames := by
  cases d with
  | ref n =>
    cases hc : st[n]? with
    | none => simp only [tyD, hc] at h; cases h
    | some c => simp only [tyD, hc] at h; cases c <;> (cases h; decide)
  | _ => unfold tyD at h; cases h; decide
def gIsI (T : String) (g : G) : G := fun env st => rb (g env st) fun d st1 => match tyD st1 d with
  | some U => some (.ok (.bl (isSub U T)) st1)
  | none => none
theorem d_isi {T : String} {tn : Str} {p p2 : Pos} (hT : kitOkB T = true) (hg : Gl X "isinstance") (hm : X.mg "isinstance" = none) (hg2 : Gl X tn) (hm2 : X.mg tn = none) (hv2 : bootBuiltins tn = some (.type T)) (he : DE CT W X e g) (hn2 : tn ≠ "__name__" := by decide) (hd2 : (tn == ("__debug__" : Str)) = false := by decide)
    (hs1 : starEach [e, .Name tn p2] X.env = (false, eval e X.env) :: starEach [.Name tn p2] X.env := by rfl) (hpl : (backTo pos (starEach [.Name tn p2] X.env)).any (·.1) = false := by rfl) :
    DE CT W X (.Call (.Name "isinstance" p) [e, .Name tn p2] [] pos) (gIsI T g) :=
  (pe_callB call_isi hg hm (by decide +kernel) (pa_cons he (pa_cons (pe_bltn (v := .ty T) hg2 hm2 hv2 rfl hn2 hd2) pa_nil) hs1) (by decide) (by decide) hs1 hpl).imp fun σ H Q h => by
    obtain ⟨φ, env, st, R, S, q⟩ := h
    refine ⟨φ, env, st, R, S, (Post.split q).mono ?_⟩
    rintro x H1 ⟨φ1, st1, dx, E1, R1, rx, q1⟩
    split at q1
    · rename_i U hU
      have h1 := List.all_eq_true.mp hT U (tyD_mem hU)
      exact ⟨x, .ty T, .type U, .type T, isSub U T, rfl, .ty T, tyD_ok R1 hU rx, kit_ty (of_decide_eq_true h1), Post.done R1 (show Rep X.K φ1 H1 (.bl _) (.bl _) from rfl) q1⟩
    · exact q1.elim

/-! ### repr -/
def rRepr (K : PySem.W.Frag) : List V → Hp → VK → Prop := fun xs H Q => ∃ x d, xs = [x] ∧ Dp K H x d ∧ d.showable = true ∧ d.hasDict = false ∧ d.shown.length ≤ sizeLine ∧ d.depth ≤ 64 ∧ (∃ a, x = .ref a) ∧ Q (.str d.shown) H
theorem call_reprD (hu : X.A.units + 66 < cLine) (gd : X.A.guards = some []) : CallR X (.builtin "repr") (rRepr X.K) := by
  intro pins s σ H xs us Q I r h
  obtain ⟨x, d, rfl, hd, h1, h2, h3, h4, ⟨a, rfl⟩, q⟩ := h
  obtain ⟨u, rfl, ru⟩ := vals1 r
  obtain rfl : u = Value.ref a := ru
  obtain ⟨as, rd⟩ := Dp.reads I d _ _ hd (show RelV (.ref a) (.ref a) from rfl)
  exact PySem.repr_of_reads' rd h1 (fun e => by rw [h2] at e; cases e) gd (by omega) (fun _ _ e => e) (fun h' u tk hk => ⟨.str d.shown, H, I.kept hk, ⟨_, rfl⟩, q⟩) h3
def isRef : D → Bool
  | .tup _ => true
  | .rol _ => true
  | .ref _ => true
  | _ => false
theorem isRef_ok {φ : Phi} {H : Hp} : ∀ {d : D} {v : V}, isRef d = true → Rep K φ H d v → ∃ a, v = .ref a
  | .tup _, v, _, h => by obtain ⟨a, vs, e, _⟩ := repTup h; exact ⟨a, e⟩
  | .rol _, v, _, h => by obtain ⟨a, vs, e, _⟩ := repRol h; exact ⟨a, e⟩
  | .ref _, v, _, h => by obtain ⟨a, e, _⟩ := repRef h; exact ⟨a, e⟩
def fRepr : GF
  | [x], st => if isRef x = true then (match pd st 16 x with
    | some d => if d.showable = true ∧ d.hasDict = false ∧ d.shown.length ≤ 16777216 ∧ d.depth ≤ 64 then some (.ok (.str d.shown) st) else none
    | none => none) else none
  | _, _ => none
theorem cd_repr : CallD K (rRepr K) fRepr := by
  intro CT W σ φ H st ds vs Q R r q
  unfold fRepr at q
  split at q
  · rename_i st' d
    split at q
    · rename_i hr
      split at q
      · rename_i p hp
        split at q
        · rename_i hh
          obtain ⟨v, rfl, h1⟩ := one_rep r
          exact ⟨v, p, rfl, pd_ok R _ _ _ _ hp h1, hh.1, hh.2.1, by rw [sizeLine_eq]; exact hh.2.2.1, hh.2.2.2, isRef_ok hr h1, Post.done R (show Rep K φ H (.str _) (.str _) from rfl) q⟩
        · exact q.elim
      · exact q.elim
    · exact q.elim
  · exact q.elim

/-! ### methods -/
def gMeth (f : D → List D → Store → Option (Out D)) (go : G) (ga : GA) : G := fun env st => rb (go env st) fun o st1 => rb (ga env st1) fun ds st2 => f o ds st2
def MethD (K : PySem.W.Frag) (r : V → List V → Hp → VK → Prop) (f : D → List D → Store → Option (Out D)) : Prop := ∀ (CT : CTab) (W : WX) (σ : L2.St) (φ : Phi) (H : Hp) (st : Store) (d : D) (v : V) (ds : List D) (vs : List V) (Q : VK), RelH K φ H st → Rep K φ H d v → RepAll K φ H ds vs → Post (rpE K) K CT W σ φ H (f d ds st) Q → r v vs H Q
/-- a list's method: the receiver is a list in the store already ahead of the arguments -/
def gMethL (f : D → List D → Store → Option (Out D)) (go : G) (ga : GA) : G := fun env st => rb (go env st) fun o st1 => match listD st1 o with
  | some _ => rb (ga env st1) fun ds st2 => f o ds st2
  | none => none
theorem lE_methL {r : V → List V → Hp → VK → Prop} {f : D → List D → Store → Option (Out D)} (hf : MethD K r f) {σ : L2.St} {H : Hp} {Q : VK} (h : lE K CT W (gMethL f g gA) σ H Q) : tBM K "list" r (lE K CT W g) (lA K CT W gA) σ H Q := by
  obtain ⟨φ, env, st, R, S, q⟩ := h
  refine ⟨φ, env, st, R, S, (Post.split q).mono ?_⟩
  rintro x H1 ⟨φ1, st1, dx, E1, R1, rx, q1⟩
  split at q1
  · rename_i xs hx
    obtain ⟨p, ws, rfl, h2, h3⟩ := listD_ok R1 hx rx
    refine ⟨.inl ⟨rfl, ws, h2⟩, φ1, env, st1, R1, S.ext R E1, (Post.split q1).mono ?_⟩
    rintro vs H2 ⟨φ2, st2, ds, E2, R2, rs, q2⟩
    exact hf CT W σ φ2 H2 st2 dx _ ds vs Q R2 (Rep.ext R1 E2 dx rx) rs q2
  · exact q1.elim
def fAppend : D → List D → Store → Option (Out D)
  | .ref n, [y], st => match cellL st n with
    | some xs => if xs.length < 16777216 then some (.ok .non (st.set n (.lst (xs ++ [y])))) else none
    | none => none
  | _, _, _ => none
theorem post_write {φ : Phi} {H : Hp} {σ : L2.St} {st : Store} {n : Nat} {a : Addr} {ds : List D} {vs : List V} {Q : VK} (R : RelH K φ H st) (h : φ[n]? = some a) (r : RepAll K φ H ds vs) (q : Post (rpE K) K CT W σ φ H (some (.ok .non (st.set n (.lst ds)))) Q) : Q .non (upd H a (.lst vs)) :=
  have ha : a ∈ φ := List.mem_of_getElem? h
  q φ _ .non (Ext.write ha) (R.write h ⟨vs, upd_same, RepAll.ext R (Ext.write ha) _ r⟩) (show Rep K φ _ .non .non from rfl)
theorem md_append : MethD K rAppend fAppend := by
  intro CT W σ φ H st d v ds vs Q R rd rs q
  unfold fAppend at q
  split at q
  · rename_i st' n y
    split at q
    · rename_i xs hx
      split at q
      · rename_i hz
        obtain ⟨a, rfl, h1⟩ := repRef rd
        obtain ⟨ws, h2, h3⟩ := cellL_ok R h1 hx
        obtain ⟨w, rfl, r1⟩ := one_rep rs
        exact ⟨a, ws, w, rfl, rfl, h2, by rw [← h3.length, sizeLine_eq]; exact hz, post_write R h1 (RepAll.append h3 (RepAll.cons r1 RepAll.nil)) q⟩
      · exact q.elim
    · exact q.elim
  · exact q.elim
def fExtend : D → List D → Store → Option (Out D)
  | .ref n, [.ref m], st => match cellL st n, cellL st m with
    | some xs, some ys => if xs.length + ys.length ≤ 16777216 then some (.ok .non (st.set n (.lst (xs ++ ys)))) else none
    | _, _ => none
  | _, _, _ => none
theorem md_extend : MethD K rExtend fExtend := by
  intro CT W σ φ H st d v ds vs Q R rd rs q
  unfold fExtend at q
  split at q
  · rename_i st' n m
    split at q
    · rename_i xs ys hx hy
      split at q
      · rename_i hz
        obtain ⟨a, rfl, h1⟩ := repRef rd
        obtain ⟨ws, h2, h3⟩ := cellL_ok R h1 hx
        obtain ⟨w, rfl, r1⟩ := one_rep rs
        obtain ⟨b, rfl, h4⟩ := repRef r1
        obtain ⟨zs, h5, h6⟩ := cellL_ok R h4 hy
        exact ⟨a, b, ws, zs, rfl, rfl, h2, h5, by rw [← h3.length, ← h6.length, sizeLine_eq]; exact hz, post_write R h1 (RepAll.append h3 h6) q⟩
      · exact q.elim
    · exact q.elim
  · exact q.elim
theorem MtM.mt {id : String} {r : V → List V → Hp → VK → Prop} (h : MtM X id r) : MtR X id r := h
theorem d_append {p apos : Pos} (ho : DE CT W X o g) (ha : DA CT W X (e :: es) gA) (hbase : attributeBase o "append" X.env (eval o X.env) = eval o X.env := by rfl)
    (hfew : ((backTo pos (starEach (e :: es) X.env)).all (fun x => !x.1) && (backToKw pos (keywordEach [] X.env)).all (fun x => x.1.isSome) && decide ((e :: es).length + ([] : List Keyword).length + (if ([] : List Keyword).isEmpty then 0 else 1) < 30)) = true := by rfl)
    (hline : (apos.endLine == pos.line) = true := by rfl) (hs : starEach (e :: es) X.env = (false, eval e X.env) :: starEach es X.env := by rfl) (hplain : (backTo pos (starEach es X.env)).any (·.1) = false := by rfl) :
    DE CT W X (.Call (.Attribute o "append" apos) (e :: es) [] pos) (gMethL fAppend g gA) := (pe_bm PySem.F.plainAttrs_list PySem.F.slot_list_append PySem.F.type_list_append (MtM.mt mt_append) ho ha hbase hfew hline hs hplain).imp fun _ _ _ h => lE_methL md_append h
theorem d_extend {p apos : Pos} (ho : DE CT W X o g) (ha : DA CT W X (e :: es) gA) (hbase : attributeBase o "extend" X.env (eval o X.env) = eval o X.env := by rfl)
    (hfew : ((backTo pos (starEach (e :: es) X.env)).all (fun x => !x.1) && (backToKw pos (keywordEach [] X.env)).all (fun x => x.1.isSome) && decide ((e :: es).length + ([] : List Keyword).length + (if ([] : List Keyword).isEmpty then 0 else 1) < 30)) = true := by rfl)
    (hline : (apos.endLine == pos.line) = true := by rfl) (hs : starEach (e :: es) X.env = (false, eval e X.env) :: starEach es X.env := by rfl) (hplain : (backTo pos (starEach es X.env)).any (·.1) = false := by rfl) :
    DE CT W X (.Call (.Attribute o "extend" apos) (e :: es) [] pos) (gMethL fExtend g gA) := (pe_bm PySem.F.plainAttrs_list PySem.F.slot_list_extend PySem.F.type_list_extend (MtM.mt mt_extend) ho ha hbase hfew hline hs hplain).imp fun _ _ _ h => lE_methL md_extend h
def gBits (g : G) : G := fun env st => rb (g env st) fun d st1 => match d with
  | .int i => some (.ok (.int (Builtin.Int.intBits i : Nat)) st1)
  | _ => none
theorem d_bits {apos : Pos} (ho : DE CT W X o g) (hbase : attributeBase o "bit_length" X.env (eval o X.env) = eval o X.env := by rfl) (hline : (apos.endLine == pos.line) = true := by rfl) : DE CT W X (.Call (.Attribute o "bit_length" apos) [] [] pos) (gBits g) := (pe_bits ho hbase hline).imp fun σ H Q h => by
  obtain ⟨φ, env, st, R, S, q⟩ := h
  refine ⟨φ, env, st, R, S, (Post.split q).mono ?_⟩
  rintro x H1 ⟨φ1, st1, dx, E1, R1, rx, q1⟩
  split at q1
  · exact ⟨_, rx, Post.done R1 (show Rep X.K φ1 H1 (.int _) (.int _) from rfl) q1⟩
  · exact q1.elim
def asStr : D → Option Str
  | .str i => some i
  | _ => none
/-- sep.join([one text]) -/
def gJoin1 (go g : G) : G := fun env st => rb (go env st) fun o st1 => match o with
  | .str z => rb (g env st1) fun d st2 => match listD st2 d with
    | some [.str x] => if x.length + z.length ≤ 16777216 then some (.ok (.str (Txt.join z [x])) st2) else none
    | _ => none
  | _ => none
theorem d_join1 {apos : Pos} (ho : DE CT W X o gb) (he : DE CT W X e g) (hs : starEach [e] X.env = [(false, eval e X.env)] := by rfl) (hbase : attributeBase o "join" X.env (eval o X.env) = eval o X.env := by rfl) (hline : (apos.endLine == pos.line) = true := by rfl) :
    DE CT W X (.Call (.Attribute o "join" apos) [e] [] pos) (gJoin1 gb g) := (pe_join ho he hs hbase hline).imp fun σ H Q h => by
  obtain ⟨φ, env, st, R, S, q⟩ := h
  refine ⟨φ, env, st, R, S, (Post.split q).mono ?_⟩
  rintro x H1 ⟨φ1, st1, dx, E1, R1, rx, q1⟩
  split at q1
  · rename_i z
    have ex : x = .str z := rx
    refine ⟨⟨z, ex⟩, φ1, env, st1, R1, S.ext R E1, (Post.split q1).mono ?_⟩
    rintro y H2 ⟨φ2, st2, dy, E2, R2, ry, q2⟩
    split at q2
    · rename_i t hx
      split at q2
      · rename_i hz
        obtain ⟨p, ws, rfl, h2, h3⟩ := listD_ok R2 hx ry
        obtain ⟨w, rfl, h4⟩ := one_rep h3
        rw [repStr h4] at h2
        refine ⟨z, p, [t], ex, rfl, .inl h2, ?_, Post.done R2 (show Rep X.K φ2 H2 (.str _) (.str _) from rfl) q2⟩
        simp only [List.map_cons, List.map_nil, List.sum_cons, List.sum_nil, List.length_cons, List.length_nil]
        omega
      · exact q2.elim
    · exact q2.elim
  · exact q1.elim

/-! ### sorted -/
def pds (st : Store) (ds : List D) : Option (List PyData) := optAll (ds.map (pd st 16))
def alikeB (ps : List PyData) : Bool := ps.all fun p => ps.all fun q => PySem.W.alike p q
def ssortB (ps : List PyData) : Bool := (ps.all fun p => match p with | .tuple (_ :: _) => true | _ => false) || (ps.all fun p => match p with | .none => false | .tuple _ => false | _ => true)
theorem ssortB_ok {ps : List PyData} (h : ssortB ps = true) : PySem.W.Sortable ps := by
  unfold ssortB at h
  rw [Bool.or_eq_true] at h
  rcases h with h | h
  · refine .inl fun d hd => ?_
    have := List.all_eq_true.mp h d hd
    split at this
    · exact ⟨_, _, rfl⟩
    · cases this
  · refine .inr fun d hd => ?_
    have := List.all_eq_true.mp h d hd
    split at this
    · cases this
    · cases this
    · rename_i h1 h2
      exact ⟨fun z => h1 z, fun xs z => h2 xs z⟩
theorem alikeB_ok {ps : List PyData} (h : alikeB ps = true) : PySem.W.AllAlike ps := fun d hd d' hd' => List.all_eq_true.mp (List.all_eq_true.mp h d hd) d' hd'
abbrev leD : (PyData) → (PyData) → Bool := PySem.W.dataLe false id
def rSortD (K : PySem.W.Frag) : List V → Hp → VK → Prop := fun vs H Q => ∃ (a : Addr) (xs : List V) (ps : List PyData), vs = [.ref a] ∧ SqL K H a xs ∧ DpAll K H xs ps ∧ PySem.W.AllAlike ps ∧ PySem.W.Sortable ps ∧ (∀ p ∈ ps, p.depth ≤ 60) ∧
  ∀ p, H p = none → Q (.ref p) (upd H p (.lst (((xs.zip ps).mergeSort (PySem.W.dataLe false Prod.snd)).map (·.1))))
theorem vals_each {γ : Type} {R : Value → V × γ → Prop} : ∀ {us : List Value} {zs : List (V × γ)}, PySem.W.EachIs (fun u z => RelV z.1 u) us zs → Vals (zs.map (·.1)) us
  | _, _, .nil => .nil
  | _, _, .cons r t => .cons r (vals_each (R := R) t)
theorem each_vals : ∀ {us : List Value} {xs : List V} {ps : List PyData}, Vals xs us → xs.length = ps.length → PySem.W.EachIs (fun u (z : V × PyData) => RelV z.1 u) us (xs.zip ps)
  | _, _, [], .nil, _ => .nil
  | _, _, p :: ps, .cons r t, h => .cons r (each_vals t (by simpa using h))
theorem dp_length {H : Hp} : ∀ {xs : List V} {ps : List PyData}, DpAll K H xs ps → xs.length = ps.length
  | _, _, .nil => rfl
  | _, _, .cons _ t => by rw [List.length_cons, List.length_cons, dp_length t]
theorem each_reads {pins : List (Addr × Obj)} {σ : L2.St} {H : Hp} {s : Shared} (I : Inv X pins σ H s) : ∀ {us : List Value} {xs : List V} {ps : List PyData}, Vals xs us → DpAll X.K H xs ps → PySem.W.EachIs (fun u (z : V × PyData) => ∃ as, Reads s.heap u z.2 as) us (xs.zip ps)
  | _, _, _, .nil, .nil => .nil
  | _, _, _, .cons r t, .cons h d => .cons (Dp.reads I _ _ _ h r) (each_reads I t d)
theorem zip_snd {α β : Type} : ∀ {xs : List α} {ys : List β}, xs.length = ys.length → (xs.zip ys).map (·.2) = ys
  | [], [], _ => rfl
  | x :: xs, y :: ys, h => by simp [zip_snd (xs := xs) (ys := ys) (by simpa using h)]
theorem call_sortD (hu : X.A.units + 64 < cLine) : CallR X (.builtin "sorted") (rSortD X.K) := by
  intro pins s σ H vs us Q I r h
  obtain ⟨a, xs, ps, rfl, hs, hd, hal, hk, hdep, q⟩ := h
  obtain ⟨u, rfl, ru⟩ := vals1 r
  obtain rfl : u = Value.ref a := ru
  obtain ⟨its, rv, hl, hz⟩ := I.list hs
  have hlen := dp_length hd
  have hsnd : (xs.zip ps).map (fun z : V × PyData => z.2) = ps := zip_snd hlen
  refine PySem.W.sorted_data (R := fun u (z : V × PyData) => RelV z.1 u) (bs := xs.zip ps) (enc := fun z => z.2) hl.isList (each_vals rv hlen) (each_reads I rv hd) (by rw [hsnd]; exact hal) (by rw [hsnd]; exact hk) ?_ (fun b hb => ?_) fun out ho eo => ?_
  · rw [List.length_zip]
    exact Nat.le_trans (Nat.min_le_left _ _) hz
  · have : b.2 ∈ ps := by rw [← hsnd]; exact List.mem_map.mpr ⟨b, hb, rfl⟩
    have := hdep _ this
    omega
  · have hn : H (s.heap.objs.size + 1) = none := I.hok.fresh (Nat.le_succ _)
    obtain ⟨n, hn2⟩ := PyProof.Rows.sortedAll_at s.heap its out.toArray
    refine ⟨.ref (s.heap.objs.size + 1), upd H (s.heap.objs.size + 1) (.lst (((xs.zip ps).mergeSort (PySem.W.dataLe false Prod.snd)).map (·.1))), I.laid (t' := s.toks) (fun b ob hb => PyProof.Rows.sortedAll_old hb) (Nat.le_succ _) ⟨?_, out, n, vals_each (R := fun _ _ => True) eo, hn2⟩, rfl, q _ hn⟩
    rw [List.length_map, List.length_mergeSort, List.length_zip]
    exact Nat.le_trans (Nat.min_le_left _ _) hz
def fSort : GF
  | [d], st => match listD st d with
    | some xs => match pds st xs with
      | some ps => if alikeB ps = true ∧ ssortB ps = true ∧ (ps.all fun p => decide (p.depth ≤ 60)) = true then some (.ok (.ref st.length) (st ++ [.lst (((xs.zip ps).mergeSort (PySem.W.dataLe false Prod.snd)).map (·.1))])) else none
      | none => none
    | none => none
  | _, _ => none
/-- three rows that go together -/
theorem rep_zip {φ : Phi} {H : Hp} : ∀ {ds : List D} {vs : List V} {zs : List (D × V)}, zs.map (·.1) = ds → zs.map (·.2) = vs → (∀ z ∈ zs, Rep K φ H z.1 z.2) → RepAll K φ H ds vs
  | _, _, [], rfl, rfl, _ => rfl
  | _, _, z :: zs, rfl, rfl, h => RepAll.cons (h z (List.mem_cons_self)) (rep_zip (zs := zs) rfl rfl fun y hy => h y (List.mem_cons_of_mem _ hy))
theorem repAll_mem {φ : Phi} {H : Hp} : ∀ {ds : List D} {vs : List V}, RepAll K φ H ds vs → ∀ z ∈ ds.zip vs, Rep K φ H z.1 z.2
  | [], _, _, z, hz => by simp at hz
  | d :: ds, vs, h, z, hz => by
    unfold RepAll at h
    obtain ⟨v, r, rfl, h1, h2⟩ := h
    rw [List.zip_cons_cons, List.mem_cons] at hz
    rcases hz with rfl | hz
    · exact h1
    · exact repAll_mem h2 z hz
theorem sort_rep {φ : Phi} {H : Hp} {ds : List D} {vs : List V} {ps : List PyData} (h : RepAll K φ H ds vs) (hl : ds.length = ps.length) : RepAll K φ H (((ds.zip ps).mergeSort (PySem.W.dataLe false Prod.snd)).map (·.1)) (((vs.zip ps).mergeSort (PySem.W.dataLe false Prod.snd)).map (·.1)) := by
  have hl2 := h.length
  have a1 : ((ds.zip vs).zip ps).map (fun z => (z.1.1, z.2)) = ds.zip ps := by
    apply List.ext_getElem
    · simp; omega
    · intro i h1 h2; simp
  have a2 : ((ds.zip vs).zip ps).map (fun z => (z.1.2, z.2)) = vs.zip ps := by
    apply List.ext_getElem
    · simp; omega
    · intro i h1 h2; simp
  have b1 := PySem.W.sort_maps (r := PySem.W.dataLe false (fun z : (D × V) × PyData => z.2)) (s := PySem.W.dataLe false (Prod.snd : D × PyData → PyData)) (fun z => (z.1.1, z.2)) (l := (ds.zip vs).zip ps) (fun _ _ _ _ => rfl)
  have b2 := PySem.W.sort_maps (r := PySem.W.dataLe false (fun z : (D × V) × PyData => z.2)) (s := PySem.W.dataLe false (Prod.snd : V × PyData → PyData)) (fun z => (z.1.2, z.2)) (l := (ds.zip vs).zip ps) (fun _ _ _ _ => rfl)
  rw [← a1, ← a2, ← b1, ← b2, List.map_map, List.map_map]
  refine rep_zip (zs := (((ds.zip vs).zip ps).mergeSort (PySem.W.dataLe false fun z => z.2)).map (·.1)) (by rw [List.map_map]; rfl) (by rw [List.map_map]; rfl) fun z hz => ?_
  obtain ⟨y, hy, rfl⟩ := List.mem_map.mp hz
  have hy2 := List.mem_mergeSort.mp hy
  exact repAll_mem h y.1 (List.of_mem_zip hy2).1
theorem optAll_length {α : Type} : ∀ {l : List (Option α)} {r : List α}, optAll l = some r → l.length = r.length
  | [], _, h => by unfold optAll at h; cases h; rfl
  | some a :: l, _, h => by
    unfold optAll at h
    split at h
    · rename_i l' hl; cases h; rw [List.length_cons, List.length_cons, optAll_length hl]
    · cases h
  | none :: l, _, h => by unfold optAll at h; cases h
theorem cd_sort : CallD K (rSortD K) fSort := by
  intro CT W σ φ H st ds vs Q R r q
  unfold fSort at q
  split at q
  · rename_i st' d
    split at q
    · rename_i xs hx
      split at q
      · rename_i ps hp
        split at q
        · rename_i hh
          obtain ⟨v, rfl, h1⟩ := one_rep r
          obtain ⟨p, ws, rfl, h2, h3⟩ := listD_ok R hx h1
          have hl : xs.length = ps.length := by have := optAll_length hp; simpa using this
          exact ⟨p, ws, ps, rfl, h2, optAll_dp (pd_ok R 16) hp h3, alikeB_ok hh.1, ssortB_ok hh.2.1, fun p hp => of_decide_eq_true (List.all_eq_true.mp hh.2.2 p hp), new_lst R (sort_rep h3 hl) q⟩
        · exact q.elim
      · exact q.elim
    · exact q.elim
  · exact q.elim
/-! sorted of a dict with int keys -/
def keyInts : List (Key × D) → Option (List Int)
  | [] => some []
  | (.inl i, _) :: r => match keyInts r with
    | some l => some (i :: l)
    | none => none
  | (.inr _, _) :: _ => none
theorem keyInts_ok {φ : Phi} {H : Hp} : ∀ {kvs : List (Key × D)} {ws : List (Key × V)} {ks : List Int}, RepKV K φ H kvs ws → keyInts kvs = some ks → ws.map (·.1) = ks.map Sum.inl
  | _, _, _, .nil, e => by unfold keyInts at e; cases e; rfl
  | (k, d) :: kvs, w :: ws, ks, .cons p t, e => by
    cases k with
    | inl i =>
      unfold keyInts at e
      split at e
      · rename_i l hl
        cases e
        rw [List.map_cons, List.map_cons, keyInts_ok t hl, ← p.1]
      · cases e
    | inr x => unfold keyInts at e; cases e
def rSortDI (X : Cx) : List V → Hp → VK → Prop := fun xs H Q => ∃ (a : Addr) (kvs : List (Key × V)) (ks : List Int), xs = [.ref a] ∧ Rd H a (.dK kvs) ∧ kvs.map (·.1) = ks.map Sum.inl ∧ ks.length < 64 ∧
  ∀ (ys : List Int) (p : Addr), ys.Perm ks → ys.Pairwise (· ≤ ·) → H p = none → Q (.ref p) (upd H p (.lst (ys.map V.int)))
def fSortDI : GF
  | [.ref n], st => match cellD st n with
    | some kvs => match keyInts kvs with
      | some ks => if ks.length < 64 then some (.ok (.ref st.length) (st ++ [.lst ((ks.mergeSort (fun a b => decide (a ≤ b))).map D.int)])) else none
      | none => none
    | none => none
  | _, _ => none
theorem ints_rep {φ : Phi} {H : Hp} : ∀ (ns : List Int), RepAll K φ H (ns.map D.int) (ns.map V.int)
  | [] => rfl
  | n :: ns => RepAll.cons rfl (ints_rep ns)
theorem sort_ints_one {ys ks : List Int} (h1 : ys.Perm ks) (h2 : ys.Pairwise (· ≤ ·)) : ys = ks.mergeSort (fun a b => decide (a ≤ b)) := by
  have p2 : (ks.mergeSort (fun a b => decide (a ≤ b))).Pairwise (· ≤ ·) := by
    have := List.pairwise_mergeSort (le := fun a b : Int => decide (a ≤ b)) (fun a b c h1 h2 => by simp at *; omega) (fun a b => by simp; omega) ks
    exact this.imp fun h => of_decide_eq_true h
  exact (h1.trans (List.mergeSort_perm ks _).symm).eq_of_pairwise (fun a b _ _ h1 h2 => Int.le_antisymm h1 h2) h2 p2
theorem cd_sortDI : CallD K (rSortDI X) fSortDI := by
  intro CT W σ φ H st ds vs Q R r q
  unfold fSortDI at q
  split at q
  · rename_i st' n
    split at q
    · rename_i kvs hx
      split at q
      · rename_i ks hk
        split at q
        · rename_i hh
          obtain ⟨v, rfl, h1⟩ := one_rep r
          obtain ⟨a, rfl, h2⟩ := repRef h1
          obtain ⟨ws, h3, h4⟩ := cellD_ok R h2 hx
          refine ⟨a, ws, ks, rfl, .inl h3, keyInts_ok h4 hk, hh, fun ys p p1 p2 hp => ?_⟩
          rw [sort_ints_one p1 p2]
          exact new_lst R (ints_rep _) q p hp
        · exact q.elim
      · exact q.elim
    · exact q.elim
  · exact q.elim
theorem CallD.or {r r' : List V → Hp → VK → Prop} {f f' : GF} {p : List D → Store → Bool} (h : CallD K r f) (h' : CallD K r' f') : CallD K (fun xs H Q => r xs H Q ∨ r' xs H Q) (fun ds st => if p ds st = true then f ds st else f' ds st) := by
  intro CT W σ φ H st ds vs Q R rs q
  dsimp only at q
  split at q
  · exact .inl (h CT W σ φ H st ds vs Q R rs q)
  · exact .inr (h' CT W σ φ H st ds vs Q R rs q)
def fSorted : GF := fun ds st => if (match ds with | [d] => isDc st d | _ => false) = true then fSortDI ds st else fSort ds st
def rSortedA (X : Cx) : List V → Hp → VK → Prop := fun xs H Q => rSortDI X xs H Q ∨ rSortD X.K xs H Q
theorem call_sortedA (hc : X.calm = true) (hu : X.A.units + 64 < cLine) : CallR X (.builtin "sorted") (rSortedA X) := (call_sortedDI hc).or (call_sortD hu)
theorem cd_sorted : CallD X.K (rSortedA X) fSorted := CallD.or (p := fun ds st => match ds with | [d] => isDc st d | _ => false) cd_sortDI cd_sort
end
end MP
set_option Elab.async false
set_option linter.all false
set_option autoImplicit false
set_option maxRecDepth 100000
set_option maxHeartbeats 2000000
/-! Mp8: chains, signs, displayed dicts, comprehensions of two clauses, errors. -/
namespace MP
open PySem PySem.Spec PyProof.Rows L2

section
variable {K : PySem.W.Frag} {X : Cx} {CT : CTab} {W : WX} {a b c e o : Expr} {es : List Expr} {ga gb gc' g : G} {gA : GA} {pos : Pos}
/-! a < b < c -/
def gChain (f f' : F2) (ga gb gc : G) : G := fun env st => rb (ga env st) fun x st1 => rb (gb env st1) fun y st2 => rb (f x y st2) fun z st3 => match z with
  | .bl true => rb (gc env st3) fun w st4 => f' y w st4
  | .bl false => some (.ok (.bl false) st3)
  | _ => none
theorem lE_chain {r r' : R2} {f f' : F2} (h1 : OpD K r f) (h2 : OpD K r' f') {σ : L2.St} {H : Hp} {Q : VK} (h : lE K CT W (gChain f f' ga gb gc') σ H Q) : tChain r r' (lE K CT W ga) (lE K CT W gb) (lE K CT W gc') σ H Q := by
  obtain ⟨φ, env, st, R, S, q⟩ := h
  refine ⟨φ, env, st, R, S, (Post.split q).mono ?_⟩
  rintro x H1 ⟨φ1, st1, dx, E1, R1, rx, q1⟩
  refine ⟨φ1, env, st1, R1, S.ext R E1, (Post.split q1).mono ?_⟩
  rintro y H2 ⟨φ2, st2, dy, E2, R2, ry, q2⟩
  refine h1 CT W σ φ2 H2 st2 dx dy x y _ R2 (Rep.ext R1 E2 dx rx) ry ((Post.split q2).mono ?_)
  rintro z H3 ⟨φ3, st3, dz, E3, R3, rz, q3⟩
  split at q3
  · refine ⟨true, rz, ?_⟩
    rw [if_pos rfl]
    refine ⟨φ3, env, st3, R3, ((S.ext R E1).ext R1 E2).ext R2 E3, (Post.split q3).mono ?_⟩
    rintro w H4 ⟨φ4, st4, dw, E4, R4, rw', q4⟩
    exact h2 CT W σ φ4 H4 st4 dy dw y w Q R4 (Rep.ext R3 E4 dy (Rep.ext R2 E3 dy ry)) rw' q4
  · refine ⟨false, rz, ?_⟩
    rw [if_neg Bool.false_ne_true]
    exact Post.done R3 (show Rep K φ3 H3 (.bl false) (.bl false) from rfl) q3
  · exact q3.elim
theorem d_chain {op op' : CmpOp} {r r' : R2} {f f' : F2} (ho : OpR X (compareOp op) r) (ho' : OpR X (compareOp op') r') (h1 : OpD X.K r f) (h2 : OpD X.K r' f') (ha : DE CT W X a ga) (hb : DE CT W X b gb) (hc : DE CT W X c gc')
    (hm : lastMarks [op, op'] [b, c] = false := by with_unfolding_all rfl) : DE CT W X (.Compare a [op, op'] [b, c] pos) (gChain f f' ga gb gc') := (pe_chain ho ho' ha hb hc hm).imp fun _ _ _ h => lE_chain h1 h2 h
theorem t_chain {op op' : CmpOp} {r r' : R2} {f f' : F2} (ho : OpR X (compareOp op) r) (ho' : OpR X (compareOp op') r') (h1 : OpD X.K r f) (h2 : OpD X.K r' f') (ha : DE CT W X a ga) (hb : DE CT W X b gb) (hc : DE CT W X c gc')
    (hm : lastMarks [op, op'] [b, c] = false := by with_unfolding_all rfl) : DT CT W X (.Compare a [op, op'] [b, c] pos) (gb1 (gChain f f' ga gb gc')) := (pt_chain ho ho' ha hb hc hm).imp fun _ _ _ h => lE_chain h1 h2 (lT_bl h)
/-! -a, ~a -/
def gUn (f : Int → Int) (g : G) : G := fun env st => rb (g env st) fun d st1 => match d with
  | .int i => some (.ok (.int (f i)) st1)
  | _ => none
theorem d_un {op : UnaryOp} {f : Int → Int} (ho : UnR X (unaryOp op) (rU fun i => .int (f i))) (ha : DE CT W X a ga) : DE CT W X (.UnaryOp op a pos) (gUn f ga) := (pe_un ho ha).imp fun σ H Q h => by
  obtain ⟨φ, env, st, R, S, q⟩ := h
  refine ⟨φ, env, st, R, S, (Post.split q).mono ?_⟩
  rintro x H1 ⟨φ1, st1, dx, E1, R1, rx, q1⟩
  split at q1
  · exact ⟨_, rx, Post.done R1 (show Rep X.K φ1 H1 (.int _) (.int _) from rfl) q1⟩
  · exact q1.elim
/-! {}, {k: v, ..} with written text keys -/
def gD0 : G := fun _ st => some (.ok (.ref st.length) (st ++ [.dct []]))
theorem d_d0 : DE CT W X (.Dict [] [] pos) gD0 := pe_dnewK.imp fun σ H Q h => by
  obtain ⟨φ, env, st, R, S, q⟩ := h
  intro p hp
  have E : Ext φ H (φ ++ [p]) (upd H p (.dK [])) := Ext.new R hp
  refine q _ _ (.ref p) E (R.new hp ⟨[], upd_same, .nil⟩) ?_
  show Rep X.K _ _ (.ref st.length) (.ref p)
  unfold Rep
  exact ⟨p, rfl, by rw [← R.len]; simp⟩
/-- the values of a displayed dict, with their keys -/
abbrev GKs := Env → Store → Option (Out (List (Key × D)))
def kNil : GKs := fun _ st => some (.ok [] st)
def kCons (x : Str) (g : G) (r : GKs) : GKs := fun env st => rb (g env st) fun d st1 => rb (r env st1) fun l st2 => some (.ok ((Sum.inr x, d) :: l) st2)
def mergeD (more : List (Key × D)) : List (Key × D) := more.foldl (fun acc kv => putD acc kv.1 kv.2) []
def gDisp (r : GKs) : G := fun env st => rb (r env st) fun l st1 => if l.length ≤ 15 ∧ nodupK l = true then some (.ok (.ref st1.length) (st1 ++ [.dct l])) else none
def rpK (K : PySem.W.Frag) : Phi → Hp → List (Key × D) → List (Key × V) → Prop := fun φ H l ws => RepKV K φ H l ws
/-- the readings of the pairs -/
structure DKs (CT : CTab) (W : WX) (X : Cx) (pos : Pos) (keys : List (Option Expr)) (values : List Expr) (r : GKs) : Prop where
  ex : ∃ trs, PPs X pos keys values trs ∧ ∀ (σ : L2.St) (φ : Phi) (H : Hp) (env : Env) (st : Store) (p : Addr) (Q : List (V × V) → Hp → Prop), p ∉ φ → H p = some (.dK []) → RelH X.K φ H st → RelS X.K φ H σ env →
    Post (rpK X.K) X.K CT W σ φ H (r env st) (fun kvs H2 => H2 p = some (.dK []) → Q (kvs.map fun kv => (kV kv.1, kv.2)) H2) → tPairs trs σ H Q
theorem k_nil : DKs CT W X pos [] [] kNil := ⟨[], pps_nil, fun σ φ H env st p Q hp hd R S q => Post.done (rep := rpK X.K) (a := []) (v := []) R .nil q hd⟩
theorem k_cons {x : Str} {j : Nat} {p2 : Pos} {ks : List (Option Expr)} {vs : List Expr} {r : GKs} (hv : DE CT W X e g) (hr : DKs CT W X pos ks vs r) : DKs CT W X pos (some (.Constant (.str x) j p2) :: ks) (e :: vs) (kCons x g r) := by
  obtain ⟨trs, h1, h2⟩ := hr
  refine ⟨_, pps_cons pe_str hv h1, fun σ φ H env st p Q hp hd R S q => ?_⟩
  show lE X.K CT W g σ H _
  refine ⟨φ, env, st, R, S, (Post.split q).mono ?_⟩
  rintro v H1 ⟨φ1, st1, d, E1, R1, rv, q1⟩
  obtain ⟨hp1, hd1⟩ := notin_ext E1 hp hd
  refine h2 σ φ1 H1 env st1 p _ hp1 hd1 R1 (S.ext R E1) ((Post.split (rep := rpK X.K) q1).mono ?_)
  rintro kvs H2 ⟨φ2, st2, l, E2, R2, rl, q2⟩ hd2
  exact Post.done (rep := rpK X.K) (v := (Sum.inr x, v) :: kvs) R2 (.cons ⟨rfl, Rep.ext R1 E2 d rv⟩ rl) q2 hd2
theorem valV_out {k : Key} : ∀ {ws : List (Key × V)}, k ∉ ws.map (·.1) → valV ws k = none
  | [], _ => rfl
  | w :: ws, h => by
    rw [List.map_cons, List.mem_cons, not_or] at h
    rw [valV_neg (fun z => h.1 z.symm)]
    exact valV_out h.2
theorem merge_new : ∀ {more acc : List (Key × V)}, ((acc ++ more).map (·.1)).Nodup → mergeK acc more = acc ++ more
  | [], acc, _ => by unfold mergeK; simp
  | m :: more, acc, h => by
    have hn : m.1 ∉ acc.map (·.1) := by
      rw [List.map_append, List.nodup_append] at h
      intro z
      exact h.2.2 _ z m.1 (by simp) rfl
    have e1 : mergeK acc (m :: more) = mergeK (acc ++ [m]) more := by
      unfold mergeK
      rw [List.foldl_cons, putK_new _ (valV_out hn)]
    rw [e1, merge_new (by rw [List.append_assoc]; exact h), List.append_assoc]; rfl
theorem repKV_keys {φ : Phi} {H : Hp} {l : List (Key × D)} {ws : List (Key × V)} (h : RepKV K φ H l ws) : ws.map (·.1) = l.map (·.1) := by
  induction h with
  | nil => rfl
  | cons p t ih => rw [List.map_cons, List.map_cons, ih, p.1]
theorem d_disp {keys : List (Option Expr)} {values : List Expr} {r : GKs} (h : DKs CT W X pos keys values r) (hall : keys.all (·.isSome) = true) (hl : keys.length = values.length) (h0 : keys ≠ []) (h15 : keys.length ≤ 15) : DE CT W X (.Dict keys values pos) (gDisp r) := by
  obtain ⟨trs, h1, h2⟩ := h
  refine (pe_disp h1 hall hl h0 h15).imp fun σ H Q h => ?_
  obtain ⟨φ, env, st, R, S, q⟩ := h
  intro p hp
  have nf : p ∉ φ := R.fresh (o := .dK []) hp
  have hm : ∀ u, H p = some u → Cel (some u) := fun u hu => by rw [hp] at hu; cases hu
  refine h2 σ φ _ env st p _ nf upd_same (R.updOut nf hm) (S.stay (stay_updOut hm)) ?_
  have back : ∀ {φ2 : Phi} {H2 : Hp}, Ext φ (upd H p (.dK [])) φ2 H2 → Ext φ H φ2 H2 := fun {φ2 H2} E2 => by
    obtain ⟨t, e, ht⟩ := E2.pre
    refine ⟨⟨t, e, fun b hb => ⟨?_, (ht b hb).2⟩⟩, fun b u hb hn ht => E2.keep b u (by rw [upd_ne (ne_of_none hb hp)]; exact hb) hn ht, fun b ps hb hn => E2.tbl b ps (by rw [upd_ne (ne_of_none hb hp)]; exact hb) hn⟩
    have h1 := (ht b hb).1
    by_cases z : b = p
    · subst z; rw [upd_same] at h1; cases h1
    · rw [upd_ne z] at h1; exact h1
  unfold gDisp at q
  cases hr : r env st with
  | none => rw [hr] at q; exact q.elim
  | some o => cases o with
    | ex c fs st2 =>
      rw [hr] at q
      exact fun φ2 H2 cv dd E2 R2 x => q φ2 H2 cv dd (back E2) R2 x
    | ok l st2 =>
      rw [hr, rb_ok] at q
      intro φ2 H2 kvs E2 R2 rl hd2
      split at q
      · rename_i hz
        have hlen : l.length = kvs.length := Paired.length rl
        refine ⟨hd2, kvs, rfl, by rw [← hlen]; exact hz.1, ?_⟩
        have nd : (kvs.map (·.1)).Nodup := by rw [repKV_keys rl]; exact nodupK_ok hz.2
        rw [merge_new (acc := []) (by simpa using nd), List.nil_append]
        obtain ⟨hp2, _⟩ := notin_ext E2 nf upd_same
        have hm2 : ∀ u, H2 p = some u → Cel (some u) := fun u hu => by rw [hd2] at hu; cases hu; exact True.intro
        have R3 : RelH X.K φ2 (upd H2 p (.dK kvs)) st2 := R2.updOut hp2 hm2
        have R4 : RelH X.K (φ2 ++ [p]) (upd H2 p (.dK kvs)) (st2 ++ [.dct l]) := R3.adopt hp2 ⟨kvs, upd_same, RepKV.go (fun _ _ z => z) (stay_updOut hm2) rl⟩
        have E3 := back E2
        have E4 : Ext φ H (φ2 ++ [p]) (upd H2 p (.dK kvs)) := by
          obtain ⟨t, e', ht⟩ := E3.pre
          refine ⟨⟨t ++ [p], by rw [e', List.append_assoc], fun b hb => ?_⟩, fun b u hb hn ht => by rw [upd_ne (ne_of_none hb hp)]; exact E3.keep b u hb hn ht, fun b ps hb hn => by rw [upd_ne (ne_of_none hb hp)]; exact E3.tbl b ps hb hn⟩
          rcases List.mem_append.mp hb with z | z
          · exact ht b z
          · have : b = p := by simpa using z
            subst this; exact ⟨hp, nf⟩
        refine q _ _ (.ref p) E4 R4 ?_
        show Rep X.K _ _ (.ref st2.length) (.ref p)
        unfold Rep
        exact ⟨p, rfl, by rw [← R2.len]; simp⟩
      · exact q.elim

/-! ### comprehensions of two clauses -/
def lc2Go (it : ItF) (f : FT) (tt : GT) (gi1 : GI) (f1 : FT) (tt1 : GT) (e : G) (vs1 : List Nat) (env : Env) : Nat → Nat → List D → Store → Option (List D × Store)
  | 0, _, _, _ => none
  | k + 1, i, acc, st => match it i st with
    | none => none
    | some none => some (acc, st)
    | some (some d) => match f d env with
      | none => none
      | some env1 => match tt env1 st with
        | some (.ok true st1) => match gi1 env1 st1 with
          | some (.ok p st2) => match lcGo p.1 f1 tt1 e (wipeD env1 vs1) p.2 0 acc st2 with
            | some (acc', st3) => lc2Go it f tt gi1 f1 tt1 e vs1 env k (i + 1) acc' st3
            | none => none
          | _ => none
        | some (.ok false st1) => lc2Go it f tt gi1 f1 tt1 e vs1 env k (i + 1) acc st1
        | _ => none
def gLc2 (gi : GI) (f : FT) (tt : GT) (gi1 : GI) (f1 : FT) (tt1 : GT) (e : G) (vs vs1 : List Nat) : G := fun env st => rb (gi env st) fun p st1 => lcNew (lc2Go p.1 f tt gi1 f1 tt1 e vs1 (wipeD env vs) p.2 0 [] st1)
/-- the outer loop's state -/
def Lc2At (K : PySem.W.Frag) (W : WX) (CT : CTab) (φ0 : Phi) (H0 : Hp) (D0 : Addr) (wσ : L2.St) (we : Env) (σ : L2.St) (Q : VK) (go : Nat → Nat → List D → Store → Option (List D × Store)) (m i : Nat) (H : Hp) : Prop :=
  ∃ φ st acc vs, Ext φ0 H0 φ H ∧ RelH K φ H st ∧ RelS K φ H wσ we ∧ D0 ∉ φ ∧ H D0 = some (.lst vs) ∧ RepAll K φ H acc vs ∧ Post (rpE K) K CT W σ φ0 H0 (lcNew (go m i acc st)) Q
theorem adopt_end {φ0 φ : Phi} {H0 H : Hp} {st : Store} {acc : List D} {ws : List V} {D0 : Addr} {σ : L2.St} {Q : VK} (E : Ext φ0 H0 φ H) (R : RelH K φ H st) (h0 : H0 D0 = none) (nD : D0 ∉ φ0) (hD : D0 ∉ φ) (hl : H D0 = some (.lst ws)) (ra : RepAll K φ H acc ws)
    (q : Post (rpE K) K CT W σ φ0 H0 (lcNew (some (acc, st))) Q) : Q (.ref D0) H := by
  have E' : Ext φ0 H0 (φ ++ [D0]) H := by
    obtain ⟨t', e', ht'⟩ := E.pre
    refine ⟨⟨t' ++ [D0], by rw [e', List.append_assoc], fun b hb => ?_⟩, E.keep, E.tbl⟩
    rcases List.mem_append.mp hb with z | z
    · exact ht' b z
    · have : b = D0 := by simpa using z
      subst this; exact ⟨h0, nD⟩
  refine q _ H (.ref D0) E' (R.adopt hD ⟨ws, hl, ra⟩) ?_
  show Rep K _ H (.ref st.length) (.ref D0)
  unfold Rep
  exact ⟨D0, rfl, by rw [← R.len]; simp⟩
theorem in_turn {J : It} {t : TG} {f : FT} {tt : GT} {e : G} {it : ItF} {φ0 φ1 : Phi} {H0 H1 : Hp} {is vs : List Nat} {D0 : Addr} {σ0 σ : L2.St} {we : Env} {Q : VK} {wσ' : L2.St} {we' : Env} {rest : List D → Store → Option (List D × Store)} {Nx : Hp → Prop} (hi : ItOk K J φ1 H1 it) (ht : TgOk K t f is) (his : ∀ i ∈ is, i ∈ vs) (h0 : H0 D0 = none)
    (hNx : ∀ H φ st acc ws, Ext φ0 H0 φ H → RelH K φ H st → RelS K φ H wσ' we' → D0 ∉ φ → H D0 = some (.lst ws) → RepAll K φ H acc ws → Post (rpE K) K CT W σ0 φ0 H0 (lcNew (rest acc st)) Q → Nx H) :
    ∀ (j m : Nat) (H : Hp), (∃ φ st acc ws, Ext φ0 H0 φ H ∧ (∀ (n : Nat) (a : Addr), φ1[n]? = some a → φ[n]? = some a) ∧ Stay H1 H ∧ RelH K φ H st ∧ RelS K φ H (wipe σ vs) we ∧ RelS K φ H wσ' we' ∧ D0 ∉ φ ∧ H D0 = some (.lst ws) ∧ RepAll K φ H acc ws ∧
        Post (rpE K) K CT W σ0 φ0 H0 (lcNew (match lcGo it f tt e we m j acc st with | some (acc', st3) => rest acc' st3 | none => none)) Q) →
      (J.stop j H ∧ Nx H) ∨ (J.go j H ∧ ∃ N : Hp → Prop, (∀ H', N H' → ∃ m', m' < m ∧ ∃ φ st acc ws, Ext φ0 H0 φ H' ∧ (∀ (n : Nat) (a : Addr), φ1[n]? = some a → φ[n]? = some a) ∧ Stay H1 H' ∧ RelH K φ H' st ∧ RelS K φ H' (wipe σ vs) we ∧ RelS K φ H' wσ' we' ∧ D0 ∉ φ ∧ H' D0 = some (.lst ws) ∧ RepAll K φ H' acc ws ∧
            Post (rpE K) K CT W σ0 φ0 H0 (lcNew (match lcGo it f tt e we m' (j + 1) acc st with | some (acc', st3) => rest acc' st3 | none => none)) Q) ∧
        ∀ x H', J.yld j H x H' → t x (wipe σ vs) H' fun σ2 H2 => wipe σ2 vs = wipe σ vs ∧ lT K CT W0 tt σ2 H2 fun b H3 =>
          if b = true then lE K CT W0 e σ2 H3 fun y H4 => ∃ acc, H4 D0 = some (.lst acc) ∧ acc.length < sizeLine ∧ N (upd H4 D0 (.lst (acc ++ [y]))) else N H3) := by
  intro j m H ⟨φ, st, acc, ws, E, hp, sy, R, S, S', hD, hl, ra, q⟩
  cases m with
  | zero => exact q.elim
  | succ k =>
    unfold lcGo at q
    obtain ⟨h1, h2⟩ := hi j φ H st hp sy R
    cases hit : it j st with
    | none => rw [hit] at q; exact q.elim
    | some od =>
      rw [hit] at q
      cases od with
      | none => exact .inl ⟨h1 hit, hNx H φ st acc ws E R S' hD hl ra q⟩
      | some d =>
        obtain ⟨go, yl⟩ := h2 d hit
        refine .inr ⟨go, fun H' => ∃ φ st acc ws, Ext φ0 H0 φ H' ∧ (∀ (n : Nat) (a : Addr), φ1[n]? = some a → φ[n]? = some a) ∧ Stay H1 H' ∧ RelH K φ H' st ∧ RelS K φ H' (wipe σ vs) we ∧ RelS K φ H' wσ' we' ∧ D0 ∉ φ ∧ H' D0 = some (.lst ws) ∧ RepAll K φ H' acc ws ∧
            Post (rpE K) K CT W σ0 φ0 H0 (lcNew (match lcGo it f tt e we k (j + 1) acc st with | some (acc', st3) => rest acc' st3 | none => none)) Q, fun H' h => ⟨k, Nat.lt_succ_self k, h⟩, fun x H' hy => ?_⟩
        obtain ⟨E2, R2, rx⟩ := yl x H' hy
        dsimp only at q
        cases hf : f d we with
        | none => rw [hf] at q; exact q.elim
        | some env1 =>
          rw [hf] at q
          dsimp only at q
          obtain ⟨hD2, hl2⟩ := notin_ext E2 hD hl
          have ra2 := RepAll.ext R E2 _ ra
          have S2 := S.ext R E2
          have sy2 : Stay H1 H' := fun b u hb hn => E2.stay R b u (sy b u hb hn) hn
          refine ht φ H' st we _ d x _ R2 S2 rx ⟨env1, hf, fun σ' Sx o' => ⟨?_, φ, env1, st, R2, Sx, ?_⟩⟩
          · rw [wipe_only o' his, wipe_wipe]
          · cases htt : tt env1 st with
            | none => rw [htt] at q; exact q.elim
            | some ob => cases ob with
              | ex c fs st1 => rw [htt] at q; exact q.elim
              | ok b st1 =>
                rw [htt] at q
                intro φ3 H3 b' E3 R3 hb
                obtain rfl : b' = b := hb
                obtain ⟨hD3, hl3⟩ := notin_ext E3 hD2 hl2
                cases b' with
                | true =>
                  rw [if_pos rfl]
                  dsimp only at q
                  refine ⟨φ3, env1, st1, R3, Sx.ext R2 E3, ?_⟩
                  cases he : e env1 st1 with
                  | none => rw [he] at q; exact q.elim
                  | some oy => cases oy with
                    | ex c fs st2 => rw [he] at q; exact q.elim
                    | ok y st2 =>
                      rw [he] at q
                      dsimp only at q
                      intro φ4 H4 v E4 R4 rv
                      obtain ⟨hD4, hl4⟩ := notin_ext E4 hD3 hl3
                      have ra4 := RepAll.ext R3 E4 _ (RepAll.ext R2 E3 _ ra2)
                      by_cases hz : acc.length < 16777216
                      · rw [if_pos hz] at q
                        refine ⟨ws, hl4, by rw [← ra.length, sizeLine_eq]; exact hz, ?_⟩
                        have hm : ∀ u, H4 D0 = some u → Cel (some u) := fun u hu => by rw [hl4] at hu; cases hu; exact True.intro
                        have Ea : Ext φ0 H0 φ4 H4 := ((E.trans E2).trans E3).trans E4
                        refine ⟨φ4, st2, acc ++ [y], ws ++ [v], Ea.updOut h0, fun n a z => E4.at (E3.at (E2.at (hp n a z))), fun b u hb hn => stay_updOut hm b u (E4.stay R3 b u (E3.stay R2 b u (sy2 b u hb hn) hn) hn) hn, R4.updOut hD4 hm, RelS.stay ((S2.ext R2 E3).ext R3 E4) (stay_updOut hm), RelS.stay (((S'.ext R E2).ext R2 E3).ext R3 E4) (stay_updOut hm), hD4, upd_same, ?_, q⟩
                        exact RepAll.go (fun _ _ z => z) (stay_updOut hm) _ (RepAll.append ra4 (RepAll.cons rv RepAll.nil))
                      · rw [if_neg hz] at q; exact q.elim
                | false =>
                  rw [if_neg Bool.false_ne_true]
                  dsimp only at q
                  exact ⟨φ3, st1, acc, ws, (E.trans E2).trans E3, fun n a z => E3.at (E2.at (hp n a z)), fun b u hb hn => E3.stay R2 b u (sy2 b u hb hn) hn, R3, S2.ext R2 E3, (S'.ext R E2).ext R2 E3, hD3, hl3, RepAll.ext R2 E3 _ ra2, q⟩
theorem lc2_read {gi gi1 : GI} {f f1 : FT} {tt tt1 : GT} {g : G} {t t1 : TG} {is vs is1 vs1 : List Nat} (ht : TgOk K t f is) (his : ∀ i ∈ is, i ∈ vs) (ht1 : TgOk K t1 f1 is1) (his1 : ∀ i ∈ is1, i ∈ vs1) {σ : L2.St} {H : Hp} {Q : VK} (h : lE K CT W (gLc2 gi f tt gi1 f1 tt1 g vs vs1) σ H Q) :
    tLc2 (lI K CT W gi) t (lT K CT W0 tt) (lI K CT W0 gi1) t1 (lT K CT W0 tt1) (lE K CT W0 g) vs vs1 σ H Q := by
  obtain ⟨φ, env, st, R, S, q⟩ := h
  refine ⟨φ, env, st, R, S, (Post.split (rep := rpI K) q).mono ?_⟩
  rintro J H1 ⟨φ1, st1, p, E1, R1, rx, q1⟩
  intro D0 h0
  have nD : D0 ∉ φ1 := R1.fresh (o := .lst []) h0
  refine ⟨fun i m H => Lc2At K W CT φ1 H1 D0 (wipe σ vs) (wipeD env vs) σ Q (lc2Go p.1 f tt gi1 f1 tt1 g vs1 (wipeD env vs)) m i H, ⟨p.2, φ1, st1, [], [], (Ext.refl).updOut h0, R1.updOut nD (fun u hu => by rw [h0] at hu; cases hu), ?_, nD, upd_same, RepAll.nil, q1⟩, ?_⟩
  · exact RelS.stay (wipe_rel (S.ext R E1) vs) (fun b u hb hn => by rw [upd_ne (ne_of_none hb h0)]; exact hb)
  intro i m H ⟨φ2, st2, acc, ws, E, R2, S2, hD, hl, ra, q2⟩
  cases m with
  | zero => exact q2.elim
  | succ k =>
    unfold lc2Go at q2
    obtain ⟨w1, w2⟩ := rx i φ2 H st2 (fun _ _ z => E.at z) (E.stay R1) R2
    cases hit : p.1 i st2 with
    | none => rw [hit] at q2; exact q2.elim
    | some od =>
      rw [hit] at q2
      cases od with
      | none => exact .inl ⟨w1 hit, adopt_end E R2 h0 nD hD hl ra q2⟩
      | some d =>
        obtain ⟨go, yl⟩ := w2 d hit
        refine .inr ⟨go, fun H' => Lc2At K W CT φ1 H1 D0 (wipe σ vs) (wipeD env vs) σ Q (lc2Go p.1 f tt gi1 f1 tt1 g vs1 (wipeD env vs)) k (i + 1) H', fun H' h => ⟨k, Nat.lt_succ_self k, h⟩, fun x H' hy => ?_⟩
        obtain ⟨E2, R3, rxx⟩ := yl x H' hy
        dsimp only at q2
        cases hf : f d (wipeD env vs) with
        | none => rw [hf] at q2; exact q2.elim
        | some env1 =>
          rw [hf] at q2
          dsimp only at q2
          obtain ⟨hD2, hl2⟩ := notin_ext E2 hD hl
          have ra2 := RepAll.ext R2 E2 _ ra
          have S3 := S2.ext R2 E2
          refine ht φ2 H' st2 _ _ d x _ R3 S3 rxx ⟨env1, hf, fun σ' Sx o' => ⟨?_, φ2, env1, st2, R3, Sx, ?_⟩⟩
          · rw [wipe_only o' his, wipe_wipe]
          · cases htt : tt env1 st2 with
            | none => rw [htt] at q2; exact q2.elim
            | some ob => cases ob with
              | ex c fs st1 => rw [htt] at q2; exact q2.elim
              | ok b st3 =>
                rw [htt] at q2
                intro φ3 H3 b' E3 R4 hb
                obtain rfl : b' = b := hb
                obtain ⟨hD3, hl3⟩ := notin_ext E3 hD2 hl2
                have ra3 := RepAll.ext R3 E3 _ ra2
                cases b' with
                | false =>
                  rw [if_neg Bool.false_ne_true]
                  dsimp only at q2
                  exact ⟨φ3, st3, acc, ws, (E.trans E2).trans E3, R4, S3.ext R3 E3, hD3, hl3, ra3, q2⟩
                | true =>
                  rw [if_pos rfl]
                  dsimp only at q2
                  refine ⟨φ3, env1, st3, R4, Sx.ext R3 E3, ?_⟩
                  cases hgi : gi1 env1 st3 with
                  | none => rw [hgi] at q2; exact q2.elim
                  | some op => cases op with
                    | ex c fs st4 => rw [hgi] at q2; exact q2.elim
                    | ok p1 st4 =>
                      rw [hgi] at q2
                      dsimp only at q2
                      intro φ4 H4 J1 E4 R5 rx1
                      obtain ⟨hD4, hl4⟩ := notin_ext E4 hD3 hl3
                      refine ⟨fun j m H => ∃ φ st acc ws, Ext φ1 H1 φ H ∧ (∀ (n : Nat) (a : Addr), φ4[n]? = some a → φ[n]? = some a) ∧ Stay H4 H ∧ RelH K φ H st ∧ RelS K φ H (wipe σ' vs1) (wipeD env1 vs1) ∧ RelS K φ H (wipe σ vs) (wipeD env vs) ∧ D0 ∉ φ ∧ H D0 = some (.lst ws) ∧ RepAll K φ H acc ws ∧
                          Post (rpE K) K CT W σ φ1 H1 (lcNew (match lcGo p1.1 f1 tt1 g (wipeD env1 vs1) m j acc st with | some (acc', st3) => lc2Go p.1 f tt gi1 f1 tt1 g vs1 (wipeD env vs) k (i + 1) acc' st3 | none => none)) Q,
                        ⟨p1.2, φ4, st4, acc, ws, ((E.trans E2).trans E3).trans E4, fun _ _ z => z, Stay.refl, R5, wipe_rel ((Sx.ext R3 E3).ext R4 E4) vs1, (S3.ext R3 E3).ext R4 E4, hD4, hl4, RepAll.ext R4 E4 _ ra3, q2⟩,
                        in_turn rx1 ht1 his1 h0 fun H φ st acc ws a1 a2 a3 a4 a5 a6 a7 => ⟨φ, st, acc, ws, a1, a2, a3, a4, a5, a6, a7⟩⟩
theorem d_lc2 {elt tg iter tg1 iter1 : Expr} {ifs ifs1 : List Expr} {scope : Scope} {own : List (Str × Nat)} {vs1 : List Nat} {gi gi1 : GI} {f f1 : FT} {tt tt1 : GT} {is is1 : List Nat} (hc : X.calm = true) (hN : X.N.Nodup) (hi : DI CT W X tg iter gi) (ok : BlkOk X.N X.env.scope scope own) (hv : ∀ i ∈ vs1, i ∈ own.map (·.2)) (his : ∀ i ∈ is, i ∈ own.map (·.2)) (his1 : ∀ i ∈ is1, i ∈ vs1)
    (hg : ∃ t, TgOk X.K t f is ∧ ∀ (s : Shared) (H : Hp) (C : Addr) (cl : List (Str × Addr)) (fp : List Addr), PG (X.blk s H scope (compEnvC scope cl C X.env) fp) tg t) (ht : ∀ (s : Shared) (H : Hp) (C : Addr) (cl : List (Str × Addr)) (fp : List Addr), DTs CT W0 (X.blk s H scope (compEnvC scope cl C X.env) fp) ifs tt)
    (hi1 : ∀ (s : Shared) (H : Hp) (C : Addr) (cl : List (Str × Addr)) (fp : List Addr), DI CT W0 (X.blk s H scope (compEnvC scope cl C X.env) fp) tg1 iter1 gi1)
    (hg1 : ∃ t, TgOk X.K t f1 is1 ∧ ∀ (s : Shared) (H : Hp) (C : Addr) (cl : List (Str × Addr)) (fp : List Addr), PG (X.blk s H scope (compEnvC scope cl C X.env) fp) tg1 t) (ht1 : ∀ (s : Shared) (H : Hp) (C : Addr) (cl : List (Str × Addr)) (fp : List Addr), DTs CT W0 (X.blk s H scope (compEnvC scope cl C X.env) fp) ifs1 tt1)
    (he : ∀ (s : Shared) (H : Hp) (C : Addr) (cl : List (Str × Addr)) (fp : List Addr), DE CT W0 (X.blk s H scope (compEnvC scope cl C X.env) fp) elt g) (hs : ∀ x, foldedSetIterable iter X.env x = pure x := by intro _; rfl) (hs1 : ∀ env x, foldedSetIterable iter1 env x = pure x := by intro _ _; rfl) :
    DE CT W X (.ListComp elt [⟨tg, iter, ifs, 0⟩, ⟨tg1, iter1, ifs1, 0⟩] scope pos) (gLc2 gi f tt gi1 f1 tt1 g (own.map (·.2)) vs1) := by
  obtain ⟨t, o1, hp⟩ := hg
  obtain ⟨t1, o2, hp1⟩ := hg1
  exact (pe_lc2 (wi := lI X.K CT W gi) (wi1 := lI X.K CT W0 gi1) (tt := lT X.K CT W0 tt) (tt1 := lT X.K CT W0 tt1) (te := lE X.K CT W0 g) hc hN hi ok hv hp ht hi1 hp1 ht1 he hs hs1).imp fun σ H Q h => lc2_read o1 his o2 his1 h
theorem s_setLc2 {i : Nat} {y : Str} {py spos : Pos} {elt tg iter tg1 iter1 : Expr} {ifs ifs1 : List Expr} {scope : Scope} {own : List (Str × Nat)} {vs1 : List Nat} {gi gi1 : GI} {f f1 : FT} {tt tt1 : GT} {is is1 : List Nat} (hc : X.calm = true) (hN : X.N.Nodup) (hy : X.N[i]? = some y) (hyl : X.env.scope.names.lookup y = some .local)
    (hsw : swapsWith (.ListComp elt [⟨tg, iter, ifs, 0⟩, ⟨tg1, iter1, ifs1, 0⟩] scope pos) (some (.Name y py)) spos.line X.env = pure true) (hi : DI CT W X tg iter gi) (ok : BlkOk X.N X.env.scope scope own) (hv : ∀ i ∈ vs1, i ∈ own.map (·.2)) (his : ∀ i ∈ is, i ∈ own.map (·.2)) (his1 : ∀ i ∈ is1, i ∈ vs1)
    (hg : ∃ t, TgOk X.K t f is ∧ ∀ (s : Shared) (H : Hp) (C : Addr) (cl : List (Str × Addr)) (fp : List Addr), PG (X.blk s H scope (compEnvC scope cl C X.env) fp) tg t) (ht : ∀ (s : Shared) (H : Hp) (C : Addr) (cl : List (Str × Addr)) (fp : List Addr), DTs CT W0 (X.blk s H scope (compEnvC scope cl C X.env) fp) ifs tt)
    (hi1 : ∀ (s : Shared) (H : Hp) (C : Addr) (cl : List (Str × Addr)) (fp : List Addr), DI CT W0 (X.blk s H scope (compEnvC scope cl C X.env) fp) tg1 iter1 gi1)
    (hg1 : ∃ t, TgOk X.K t f1 is1 ∧ ∀ (s : Shared) (H : Hp) (C : Addr) (cl : List (Str × Addr)) (fp : List Addr), PG (X.blk s H scope (compEnvC scope cl C X.env) fp) tg1 t) (ht1 : ∀ (s : Shared) (H : Hp) (C : Addr) (cl : List (Str × Addr)) (fp : List Addr), DTs CT W0 (X.blk s H scope (compEnvC scope cl C X.env) fp) ifs1 tt1)
    (he : ∀ (s : Shared) (H : Hp) (C : Addr) (cl : List (Str × Addr)) (fp : List Addr), DE CT W0 (X.blk s H scope (compEnvC scope cl C X.env) fp) elt g) (hs : ∀ x, foldedSetIterable iter X.env x = pure x := by intro _; rfl) (hs1 : ∀ env x, foldedSetIterable iter1 env x = pure x := by intro _ _; rfl) :
    DS CT W X (.Assign [.Name y py] (.ListComp elt [⟨tg, iter, ifs, 0⟩, ⟨tg1, iter1, ifs1, 0⟩] scope pos) spos) (sSet i (gLc2 gi f tt gi1 f1 tt1 g (own.map (·.2)) vs1)) := by
  obtain ⟨t, o1, hp⟩ := hg
  obtain ⟨t1, o2, hp1⟩ := hg1
  refine (ps_setLc2 (wi := lI X.K CT W gi) (wi1 := lI X.K CT W0 gi1) (tt := lT X.K CT W0 tt) (tt1 := lT X.K CT W0 tt1) (te := lE X.K CT W0 g) hc hN hy hyl hsw hi ok hv hp ht hi1 hp1 ht1 he hs hs1).imp fun D σ H h => ?_
  have h1 := lS_set h
  exact lc2_read o1 his o2 his1 h1
end
end MP
set_option Elab.async false
set_option linter.all false
set_option autoImplicit false
set_option maxRecDepth 100000
set_option maxHeartbeats 2000000
/-! MpE: an own error with an own __init__, over any built-in error. -/
namespace PySem.MpE
open PySem PySem.W PySem.Calls PyProof.Rows PySem.HandSPX Builtin Builtin.ObjectAttr
/-- own classes, then the built-in ones of tl -/
def refsT (tl : List Value) : List Value → Bool
  | .ref _ :: r => refsT tl r
  | l => l == tl
theorem refsT_split {tl : List Value} : ∀ l : List Value, refsT tl l = true → ∃ cs : List Addr, l = cs.map Value.ref ++ tl
  | [], h => ⟨[], (beq_iff_eq.mp h)⟩
  | v :: r, h => by
    cases v with
    | ref c =>
      obtain ⟨cs, rfl⟩ := refsT_split r h
      exact ⟨c :: cs, rfl⟩
    | _ => exact ⟨[], beq_iff_eq.mp h⟩
theorem refs_contain {tl : List Value} (X : String) : ∀ cs : List Addr, (cs.map Value.ref ++ tl).contains (.type X) = tl.contains (.type X)
  | [] => rfl
  | c :: cs => by
    rw [List.map_cons, List.cons_append, List.contains_cons, refs_contain X cs]; rfl
theorem refs_pass {tl : List Value} {self : Value} (h : refuseLoop self "__setattr__" tl = pure ()) : ∀ cs : List Addr, refuseLoop self "__setattr__" (cs.map Value.ref ++ tl) = pure ()
  | [] => h
  | c :: cs => by
    rw [List.map_cons, List.cons_append, refuseLoop_ref]
    exact refs_pass h cs
section
variable {prog : Program} {w : World} {A : Around} {R : Result → Shared → Prop} {hp : Heap} {g : Array GenState} {d : Drawn} {t : Nat} {os : OsState}
/-- the first field of an error: whatever its built-in class is -/
theorem first_field {K : W.Frag} {f : Str} {tk : Tok} {v : Value} {x C : Addr} {fv : Array Value} {cd : ClassData} (KX : K.In hp) (at_ : hp.get? x = some { cls := .ref C, data := .fields fv }) (isC : W.clsIn K C = some cd)
    (pass : ∀ self, refuseLoop self "__setattr__" cd.mro = pure ()) (some_ : cd.mro.isEmpty = false) (obj : cd.mro.contains (.type "object") = true) (dict : cd.hasDict = true) (no : W.findIn K (.ref C) f = some none)
    (next : ∀ h' tk' dx, (∀ b o, b ≠ x → hp.get? b = some o → h'.get? b = some o) → hp.objs.size ≤ dx → dx ≠ x → h'.get? x = some { cls := .ref C, dict := some dx, data := .fields fv } →
      h'.Ns1 dx (fun y => if y = f then some v else none) → R (.ok (.ret .none)) ⟨h', g, d, tk', os⟩) :
    codeAny (model prog w) A (.call (.builtin "object.__setattr__") ⟨[.ref x, .str f tk, v], []⟩) R ⟨hp, g, d, t, os⟩ := by
  have inst : W.InstAt hp x { cls := .ref C, data := .fields fv } C none := ⟨at_, rfl, rfl, trivial⟩
  have st := F.store_object
  have newA : x ≠ hp.objs.size := Nat.ne_of_lt (Heap.lt_size at_)
  have isObj : W.Looks (model prog w) hp (isInstance (.ref x) (.type "object")) true := inst.type.andThen (W.looks_mroIn KX (by unfold W.mroIn; rw [isC, Option.bind_some, if_neg (by rw [some_]; decide), obj]))
  refine codeAny_call_builtin st.slot.plain st.entry (@W.check_slot (model prog w) _ _ ⟨hp, g, d, t, os⟩ "object.__setattr__" "object" "__setattr__" (.ref x) [.str f tk, v] [] _ st.kind st.split isObj (st.args (.ref x) (.str f tk) v) ?_)
  have lm : W.Looks (model prog w) hp (mroOf (.ref C)) cd.mro := (W.looks_clsIn KX isC).andThen .now
  have ls : W.Looks (model prog w) hp (storeTaker? none) none := .now
  have lc : W.Looks (model prog w) hp (classData C) cd := W.looks_clsIn KX isC
  rw [W.osa_eq, refuse_eq]
  refine wpAny_bind (wpAny_bind (inst.type.at (wpAny_bind (lm.at ?_))))
  rw [pass]
  refine wpAny_pure (wpAny_bind (inst.type.at (wpAny_bind ((W.looks_findIn KX no).at (wpAny_bind (ls.at ?_))))))
  show wpAny _ _ (storeInOwnDict (.ref x) (.ref C) (.str f tk) f v false) _ _ _
  obtain ⟨nm, bs, mro, ns, qn, hd, sn, sb, ab, col, del⟩ := cd
  dsimp only at dict
  subst dict
  unfold storeInOwnDict ownDictForStores
  repeat (first | with_reducible refine store_in_new ?_ ?_ | with_reducible refine wpAny_loadPart_at at_ ?_ | with_reducible refine lc.at ?_ | wp_step)
  · exact ⟨_, #[], _, (Heap.get?_update_ne _ _ _ _ newA.symm).trans (Heap.get?_push_at rfl rfl), rfl, fun e he => absurd he (by simp), fun _ => rfl⟩
  · intro h' tk' isNs same
    have pushed : (hp.push { cls := .type "dict", data := .dict #[] }).get? x = some { cls := .ref C, data := .fields fv } := Heap.get?_push_of_some _ at_
    refine next h' tk' hp.objs.size (fun b o nb hb => ?_) (Nat.le_refl _) newA.symm ((same.2 x newA).trans (Heap.get?_update_self _ pushed rfl)) isNs
    exact (same.2 b (Nat.ne_of_lt (Heap.lt_size hb))).trans ((Heap.get?_update_ne _ _ _ _ nb).trans (Heap.get?_push_of_some _ hb))
end
end PySem.MpE
namespace MP
open PySem PySem.Spec PyProof.Rows L2
/-- what the written part says of the class of an own error -/
structure OexG (K : PySem.W.Frag) (C : Addr) : Prop where
  cls : ∃ (nm q : Str) (N : Addr) (bs bm : List Value) (sn : List Str) (sub : List Value) (ab : Bool) (col : Option Bool) (dd : Option Addr) (k0 k1 k2 k3 k5 : Option Value) (B nw ini : String) (tl : List Value),
    K.lookup C = some (excClassObj nm q C N bs bm true sn sub ab col dd k0 k1 k2 k3 k5 nw) ∧ ExcBaseFacts B nw ini tl ∧ PySem.MpE.refsT tl bm = true ∧ tl.contains (.type "object") = true ∧ ∀ self, refuseLoop self "__setattr__" tl = pure ()
  sa : PySem.W.findIn K (.ref C) "__setattr__" = some (some (.builtin "object.__setattr__"))
  exC : PySem.W.subIn K (.ref C) (.type "BaseException") = some true
  tyC : PySem.W.typeIn K (.ref C) = some (.type "type")
  kC : PySem.W.keepIn K (.ref C) = true
section
variable {X : Cx} {pins : List (Addr × Obj)} {σ : L2.St} {H : Hp} {s : Shared} {a C dx : Addr} {f : Str} {y : V} {u : Value} {Q : Unit → Shared → Prop} {E : Value → Shared → Prop} {A : Around}
/-- self.f = y, nothing yet set -/
theorem set_first (T : OexG X.K C) (I : Inv X pins σ H s) (e : H a = some (exo a C none)) (no : PySem.W.findIn X.K (.ref C) f = some none) (ry : RelV y u)
    (h : ∀ dx s', H dx = none → dx ≠ a → Inv X pins σ (upd (upd H dx (exd dx [(f, y)])) a (exo a C (some dx))) s' → Q () s') : wpAny (model X.prog X.w) A (setAttr (.ref a) f u) Q E s := by
  obtain ⟨nm, q, N, bs, bm, sn, sub, ab, col, dd, k0, k1, k2, k3, k5, B, nw, ini, tl, inK, _, refs, obj, pass⟩ := T.cls
  obtain ⟨cs, rfl⟩ := PySem.MpE.refsT_split bm refs
  have isC : PySem.W.clsIn X.K C = some { name := nm, bases := bs, mro := .ref C :: (cs.map Value.ref ++ tl), ns := N, qualname := q, hasDict := true, slotNames := sn, subclasses := sub, abstract := ab, collection := col, hasDel := false } := by unfold PySem.W.clsIn; rw [inK] <;> rfl
  obtain ⟨t1, at_⟩ := exo_at I.hok e
  obtain ⟨hp, g, d, t, os⟩ := s
  refine PySem.W.set_plain I.kIn (ox := { cls := .ref C, dict := none, data := .fields #[.ref t1, .none, .none, .none, .bool false, .none] }) (od := none) ⟨at_, rfl, rfl, trivial⟩ T.sa ?_
  have obj2 : (Value.ref C :: (cs.map Value.ref ++ tl)).contains (.type "object") = true := by
    rw [List.contains_cons, PySem.MpE.refs_contain, obj, Bool.or_true]
  refine PySem.MpE.first_field I.kIn at_ isC (fun self => PySem.MpE.refs_pass (pass self) (C :: cs)) rfl obj2 rfl no (fun h' tk' dx k ge ne hx hn => ?_)
  have fresh : H dx = none := I.hok.fresh ge
  have old : ∀ {b : Addr} {o : Obj}, hp.get? b = some o → b ≠ dx := fun {b o} z => Nat.ne_of_lt (Nat.lt_of_lt_of_le (Heap.lt_size z) ge)
  have notA : ∀ {b : Addr}, H b = none → b ≠ a := fun {b} n z => by
    rw [z, e] at n
    cases n
  have un : Un X.fs [] H (upd (upd H dx (exd dx [(f, y)])) a (exo a C (some dx))) hp h' := {
    keep := fun b o z n _ _ => k b o (notA n) z
    slot := fun b o z n _ _ => ⟨o.slots, k b o (notA n) z⟩
    free := fun b o z n _ => by rw [upd_ne (notA n), upd_ne (old z)]; exact n
    there := fun b o z _ => by
      by_cases w : b = a
      · exact ⟨_, by rw [w]; exact hx⟩
      · exact ⟨o, k b o w z⟩
    tups := fun b xs z => by rw [upd_ne (at_ne e z exo_tup), upd_ne (ne_of_none z fresh)]; exact z
    frzs := fun b o v z => by rw [upd_ne (at_ne e z exo_frz), upd_ne (ne_of_none z fresh)]; exact z
    tbls := fun b ps z => ⟨#[], by rw [upd_ne (at_ne e z exo_tbl), upd_ne (ne_of_none z fresh), z]; simp⟩ }
  refine h dx _ fresh ne (I.un (t' := tk') un fun b o z => ?_)
  by_cases w : b = a
  · subst w
    rw [upd_same] at z
    cases z
    exact exo_ok hx
  · rw [upd_ne w] at z
    by_cases w2 : b = dx
    · subst w2
      rw [upd_same] at z
      cases z
      exact exd_ok hn (relO_put (fs := []) ry fun _ => True.intro)
    · rw [upd_ne w2] at z
      refine (I.hok b o z).stay (fun c v hc zz => k c v ?_ zz) (fun c hc => ?_) (fun c xs hc => ?_)
      · rcases hc with hc | hc
        · rw [hc]; exact w
        · exact at_ne e hc exo_own
      · rw [upd_ne (at_ne e hc exo_own), upd_ne (ne_of_none hc fresh)]; exact hc
      · rw [upd_ne (at_ne e hc exo_tup), upd_ne (ne_of_none hc fresh)]; exact hc
end
/-- self.f = e, the first one -/
def tFst (K : PySem.W.Frag) (f : Str) (to te : TE) : TS := fun D σ H => te σ H fun y H1 => to σ H1 fun x H2 => ∃ a C : Addr, x = .ref a ∧ OexG K C ∧ PySem.W.findIn K (.ref C) f = some none ∧
  H2 a = some (exo a C none) ∧ ∀ dx, H2 dx = none → dx ≠ a → D.nx σ (upd (upd H2 dx (exd dx [(f, y)])) a (exo a C (some dx)))
section
variable {X : Cx} {o e : Expr} {es : List Expr} {to te : TE} {ta : TA} {f : Str} {p p' p1 p2 pos : Pos}
theorem ps_fst (ho : PE X o to) (he : PE X e te) (hs : swapsWith e (some (.Attribute o f p')) pos.line X.env = pure false := by rfl) : PS X (.Assign [.Attribute o f p'] e pos) (tFst X.K f to te) := by
  refine ⟨fun pins s σ H D I h => ?_⟩
  refine plainObj_wpAny_Assign_Attribute (thn (he.run pins s σ H _ I h) fun v s1 ⟨y, H1, I1, ry, q1⟩ => thn (ho.run pins s1 σ H1 _ I1 q1) fun u s2 ⟨x, H2, I2, rx, a, C, ex, T, no, ea, q⟩ => ?_) hs
  subst ex
  obtain rfl : u = Value.ref a := rx
  exact set_first T I2 ea no ry fun dx s' n ne J => ⟨σ, _, J, q dx n ne⟩
theorem pmk_gen {CX : CXT} {x : Str} {C fI : Addr} {k : Nat} {fd : FuncData} {ps : List Str} {sp : Sp} {ds : List Value} {dvs : List V} (T : OexG X.K C) (iC : PySem.W.findIn X.K (.ref C) "__init__" = some (some (.ref fI))) (tI : PySem.W.typeIn X.K (.ref fI) = some (.type "function"))
    (F1 : FnOk X.prog X.w X.K X.mg X.base CX k fI fd ps sp) (hr : Room (k + 1) X.A) (hb : Binds X.K fd ps ds) (hd : Vals dvs ds) (hx : Passes CX X (fun _ _ _ => False)) (hg : Gl X x) (hm : X.mg x = some (.ref C)) (ha : PA X (e :: es) ta)
    (hdb : (x == ("__debug__" : Str)) = false := by decide) (he : starEach (e :: es) X.env = (false, eval e X.env) :: starEach es X.env := by rfl) (hpl : (backTo pos (starEach es X.env)).any (·.1) = false := by rfl) :
    PMk X (.Call (.Name x p) (e :: es) [] pos) (tMkO C sp dvs ta) := by
  intro pins s σ H Q I h
  obtain ⟨nm, q, N, bs, bm, sn, sub, ab, col, dd, k0, k1, k2, k3, k5, B, nw, ini, tl, inK, base, refs, _, _⟩ := T.cls
  obtain ⟨cs, rfl⟩ := PySem.MpE.refsT_split bm refs
  refine wpAny_Call_Name_kw (ld_glob I hg hm ?_ hdb)
  refine PySem.W.callWith_K (h₀ := X.base) I.ok.mod.kin T.kC (thn (ha.run pos pins s σ H _ I h) fun us s1 ⟨vs, H1, I1, r1, few, q1⟩ => ⟨I1.kIn, ?_⟩) he hpl
  show wpAny _ _ (call (.ref C) us) _ _ _
  obtain ⟨hp, g, dr, tk, os⟩ := s1
  have le1 : hp.objs.size ≤ hp.objs.size + 1 := Nat.le_succ _
  have q2 := q1 (hp.objs.size + 1) (I1.hok.fresh le1)
  have kept : ∀ b o, hp.get? b = some o → ((hp.push (PySem.W.kdv_tup us)).push (PySem.HandSPX.excO C hp.objs.size)).get? b = some o := fun b o z => Heap.get?_push_of_some _ (Heap.get?_push_of_some _ z)
  have made : ((hp.push (PySem.W.kdv_tup us)).push (PySem.HandSPX.excO C hp.objs.size)).get? (hp.objs.size + 1) = some (PySem.HandSPX.excO C hp.objs.size) := by heap_get
  have I2 := I1.laid (t' := tk) (a := hp.objs.size + 1) (o := exo (hp.objs.size + 1) C none) (h' := (hp.push (PySem.W.kdv_tup us)).push (PySem.HandSPX.excO C hp.objs.size)) kept le1 (exo_ok made)
  have vals : Vals (V.ref (hp.objs.size + 1) :: (vs ++ dvs)) (Value.ref (hp.objs.size + 1) :: (us ++ ds)) := .cons rfl (r1.append hd)
  have len : (Value.ref (hp.objs.size + 1) :: us ++ ds).length = ps.length := by
    have z := vals.length
    rw [F1.len _ _ _ _ q2] at z
    exact z.symm
  have small : us.length ≤ sizeLine := by
    rw [← Paired.length r1, sizeLine_eq]
    omega
  refine wpAny_call (PySem.HandSPX.call_own base (fun Y => PySem.MpE.refs_contain Y cs) (I1.kIn _ _ inK) (PySem.W.looks_findIn I1.kIn iC) (fun self => PySem.W.bind_fn I1.kIn self tI) small
    (codeAny_mono (F1.run _ X.stack _ _ ⟨Value.ref (hp.objs.size + 1) :: us, []⟩ (Value.ref (hp.objs.size + 1) :: (us ++ ds)) _ _ (fun _ _ _ => False) (hr.make C us []) (I2.env0.make C us []) (hb _ (Value.ref (hp.objs.size + 1) :: us) I2.kIn len) vals q2) fun r s' hq => ?_))
  match r, hq with
  | .error er, hq => exact hx pins σ _ _ er s' I2 hq
  | .ok (.ret u), hq =>
    obtain ⟨v, H2, os2, bare2, un2, hok2, rv, ev, d, fs, ea, ed, hd1, q3⟩ := hq
    subst ev
    obtain ⟨h2, g2, d2, t2, os'⟩ := s'
    exact ⟨rv, mk_end (raises_own T.exC T.tyC) I1 le1 kept un2 hok2 os2 bare2 ea ed hd1 q3⟩
  | .ok .next, hq => exact False.elim hq
  | .ok .brk, hq => exact False.elim hq
  | .ok .cont, hq => exact False.elim hq
end
end MP
set_option Elab.async false
set_option linter.all false
set_option autoImplicit false
set_option maxRecDepth 100000
set_option maxHeartbeats 2000000
/-! Mp9: errors of the program's own: made, raised, caught. -/
namespace MP
open PySem PySem.Spec PyProof.Rows L2

section
variable {K : PySem.W.Frag} {X : Cx} {CT : CTab} {W : WX} {a b c e o : Expr} {es : List Expr} {ga gb g : G} {gA : GA} {pos : Pos}
/-! ### an error class with one field -/
/-- what its __init__ promises -/
def spInit (C : Addr) (f : Str) : Sp := fun vs H Q _ => ∃ (x : Addr) (y : V), vs = [.ref x, y] ∧ H x = some (exo x C none) ∧ ∀ dx, H dx = none → dx ≠ x → Q .non (upd (upd H dx (exd dx [(f, y)])) x (exo x C (some dx)))
structure ErrC (P : Program) (w : World) (K : PySem.W.Frag) (mg : Str → Option Value) (base : Heap) (x f : Str) (C fI : Addr) (fd : FuncData) (ps : List Str) : Prop where
  gC : mg x = some (.ref C)
  oex : OexG K C
  iC : PySem.W.findIn K (.ref C) "__init__" = some (some (.ref fI))
  tI : PySem.W.typeIn K (.ref fI) = some (.type "function")
  F : FnOk P w K mg base (L2.CX P w) 1 fI fd ps (spInit C f)
  B : Binds K fd ps []
/-- raise x(e) -/
def sRaise (x : Str) (ga : GA) : GS := fun env st => sb env (ga env st) fun ds st1 => if ds.length = 1 then some (.xc x ds env, st1) else none
theorem s_raise {x f : Str} {C fI : Addr} {fd : FuncData} {ps : List Str} {p p2 : Pos} (T : ErrC X.prog X.w X.K X.mg X.base x f C fI fd ps) (hct : CT x = some (C, [f])) (hc : X.calm = true) (tk : Takes X W) (hr : Room 2 X.A) (hg : Gl X x) (ha : DA CT W X (e :: es) gA)
    (hdb : (x == ("__debug__" : Str)) = false := by decide) (he : starEach (e :: es) X.env = (false, eval e X.env) :: starEach es X.env := by rfl) (hpl : (backTo p2 (starEach es X.env)).any (·.1) = false := by rfl) :
    DS CT W X (.Raise (some (.Call (.Name x p) (e :: es) [] p2)) none pos) (sRaise x gA) := (ps_raise hc tk (pmk_gen (CX := L2.CX X.prog X.w) T.oex T.iC T.tI T.F hr T.B .nil (fun _ _ _ _ _ _ _ h => by obtain ⟨_, _, _, _, _, _, _, _, _, _, _, _, z⟩ := h; exact z.elim) hg T.gC ha hdb he hpl)).imp fun D σ H h => by
  obtain ⟨φ, env, st, R, S, q⟩ := h
  refine ⟨φ, env, st, R, S, (PostS.split R S q).mono ?_⟩
  rintro vs H1 ⟨φ1, st1, ds, E1, R1, S1, rx, q1⟩
  split at q1
  · rename_i hl
    have hlv : vs.length = 1 := by rw [← RepAll.length rx]; exact hl
    obtain ⟨y, rfl⟩ : ∃ y, vs = [y] := by
      match vs, hlv with
      | [y], _ => exact ⟨y, rfl⟩
    refine ⟨by simp, fun x0 hx0 => ⟨x0, y, rfl, upd_same, fun dx hdx hne => ⟨rfl, dx, [(f, y)], upd_same, ?_, ?_, ?_⟩⟩⟩
    · rw [upd_ne hne, upd_same]
    · rw [upd_ne hne] at hdx; exact hdx
    · have hdx1 : H1 dx = none := by rw [upd_ne hne] at hdx; exact hdx
      -- the heap behind it: the error's own dict is new, all else as it was
      have hH : ∀ bb u, H1 bb = some u → upd (del (upd (upd (upd H1 x0 (exo x0 C none)) dx (exd dx [(f, y)])) x0 (exo x0 C (some dx))) x0) dx (.xd [(f, y)]) bb = some u := fun bb u hb => by
        have n1 : bb ≠ dx := ne_of_none hb hdx1
        have n2 : bb ≠ x0 := ne_of_none hb hx0
        rw [upd_ne n1, del_ne n2, upd_ne n2, upd_ne n1, upd_ne n2]; exact hb
      have E2 : Ext φ1 H1 φ1 (upd (del (upd (upd (upd H1 x0 (exo x0 C none)) dx (exd dx [(f, y)])) x0 (exo x0 C (some dx))) x0) dx (.xd [(f, y)])) := ⟨⟨[], by simp, fun b hb => by simp at hb⟩, fun bb u hb _ _ => hH bb u hb, fun bb ps hb _ => ⟨ps, hH bb _ hb⟩⟩
      have sy : Stay H1 (upd (del (upd (upd (upd H1 x0 (exo x0 C none)) dx (exd dx [(f, y)])) x0 (exo x0 C (some dx))) x0) dx (.xd [(f, y)])) := fun bb u hb _ => hH bb u hb
      have R2 : RelH X.K φ1 (upd (del (upd (upd (upd H1 x0 (exo x0 C none)) dx (exd dx [(f, y)])) x0 (exo x0 C (some dx))) x0) dx (.xd [(f, y)])) st1 := ⟨R1.len, R1.nd, fun n aa cc h1 h2 => by
        have hc0 := R1.cell n aa cc h1 h2
        refine CellOk.go (fun _ _ z => z) sy ?_ hc0
        obtain ⟨u, hu, _⟩ := R1.some_of (List.mem_of_getElem? h1)
        rw [hu]; exact hH aa u hu, R1.tab.old hH⟩
      refine q1 φ1 _ σ (.ref C) (some dx) E2 R2 (S1.stay sy) ⟨C, [f], dx, [y], hct, rfl, rfl, upd_same, ?_⟩
      exact RepAll.go (fun _ _ z => z) sy _ rx
  · exact q1.elim
/-! ### try .. except: clauses with a name and without -/
abbrev Cl := Value × Option Nat × (Addr → Value → Option Addr → TS)
def endsClr (i : Nat) (D : Ends) : Ends := { nx := fun σ' H' => D.nx (σ'.set i none) H', rt := D.rt, bk := fun σ' H' => D.bk (σ'.set i none) H', ct := fun σ' H' => D.ct (σ'.set i none) H' }
def wX (K : PySem.W.Frag) (Wout : WX) (D : Ends) : List Cl → WX
  | [] => Wout
  | (c, none, ts) :: r => fun cls d σ H => ∃ b, PySem.W.exmOne K cls c = some b ∧ (b = true → ∀ a, H a = none → ts a cls d D σ H) ∧ (b = false → wX K Wout D r cls d σ H)
  | (c, some i, ts) :: r => fun cls d σ H => ∃ b, PySem.W.exmOne K cls c = some b ∧ (b = true → ∀ a, H a = none → ts a cls d (endsClr i D) (σ.set i (some (.ref a))) H) ∧ (b = false → wX K Wout D r cls d σ H)
abbrev SuOk (X : Cx) (suite : List Stmt) (ts : Addr → Value → Option Addr → TS) : Prop := ∀ (a : Addr) (oe : Obj) (cls : Value) (d : Option Addr) (pn : List (Addr × Obj)), Zc cls d oe → (∃ vs, oe.data = .fields vs) → PSs (X.suite a ((a, oe) :: pn)) suite (ts a cls d)
inductive ClsOk (X : Cx) : List ExceptHandler → List Cl → Prop
  | nil : ClsOk X [] []
  | bare {x : Str} {c : Value} {ts : Addr → Value → Option Addr → TS} {b₀ : Stmt} {suite : List Stmt} {np pos' : Pos} {hds : List ExceptHandler} {l : List Cl} (hc : Names X x c) (hsu : SuOk X (b₀ :: suite) ts) (r : ClsOk X hds l) :
      ClsOk X (.ExceptHandler (some (.Name x np)) none (b₀ :: suite) pos' :: hds) ((c, none, ts) :: l)
  | named {x n : Str} {i : Nat} {c : Value} {ts : Addr → Value → Option Addr → TS} {b₀ : Stmt} {suite : List Stmt} {np pos' : Pos} {hds : List ExceptHandler} {l : List Cl} (hi : X.N[i]? = some n) (hln : X.env.kindOf n = some .local) (hc : Names X x c) (hsu : SuOk X (b₀ :: suite) ts) (r : ClsOk X hds l) :
      ClsOk X (.ExceptHandler (some (.Name x np)) (some n) (b₀ :: suite) pos' :: hds) ((c, some i, ts) :: l)
theorem ps_tryX {body : List Stmt} {h₀ : ExceptHandler} {hds : List ExceptHandler} {l : List Cl} {tb : WX → TS} {Wout : WX} (hs : X.stack = X.env :: X.outer) (hf : X.env.frame = some X.env.locals) (hN : X.N.Nodup) (tk : Takes X Wout)
    (hb : ∀ (W : WX) (pn : List (Addr × Obj)) (xe : Value → Shared → Prop), Takes (X.tr pn xe) W → PassesOwn (model X.prog X.w) X.A X.env xe → PSs (X.tr pn xe) body (tb W)) (hh : ClsOk X (h₀ :: hds) l) :
    PS X (.Try body (h₀ :: hds) [] [] pos) (fun D σ H => tb (wX X.K Wout D l) D σ H) := by
  refine ⟨fun pins s σ H D I h => ?_⟩
  have ok := I.ok
  have frame1 : X.A.frames = some (X.env :: X.outer) := ok.frames.trans (by rw [hs])
  refine wpAny_Try_except ?_
  refine wpAny_mono ((hb (wX X.K Wout D l) (X.pn ++ pins) (fun er s₁ => wpAny (model X.prog X.w) X.A (noteFrame er X.env) (fun _ s₂ => wpAny (model X.prog X.w) X.A (setFlight er none) (fun _ s₃ => wpAny (model X.prog X.w) X.A (handleBy er X.env (h₀ :: hds)) (SP X pins D) X.xe s₃) X.xe s₂) X.xe s₁)
    (fun u s' xx => ?_) PassesOwn.looking).run [] s σ H D (I.toTry _) h) (fun fl s1 hsp => ?_) (fun _ _ he => he)
  · obtain ⟨x0, B, sI, pins', σ', H', cls, d, rfl, J', nb, up, sky, na, os, ag, w⟩ := xx
    have J := J'.ofTry ok
    rw [hs] at sky
    show wpAny (model X.prog X.w) X.A (noteFrame (.ref x0) X.env) _ _ _
    refine Sky.land Zc.steady frame1 hf sky fun h3 fl3 up3 => ?_
    have J3 : Inv X pins σ' H' { s' with heap := h3 } := J.landed nb fl3.1 (up.trans up3) os ag
    obtain ⟨oe3, vs3, he3, hz3, hd3⟩ := fl3.there
    have nfr : x0 ∉ frs (X.env :: X.outer) := fun hm => by
      obtain ⟨_, o', e', hnf⟩ := fl3.2.2.1.mem hm
      rw [he3] at e'; cases e'
      exact hnf _ hd3
    have nL : x0 ≠ X.env.locals := fun z => nfr (List.mem_filterMap.mpr ⟨X.env, List.mem_cons_self, by rw [hf, z]⟩)
    have nF : x0 ∉ X.fs := fun hm => by
      obtain ⟨er, her, q⟩ := List.mem_filterMap.mp hm
      exact nfr (List.mem_filterMap.mpr ⟨er, List.mem_cons_of_mem _ her, q⟩)
    have S3 := J3.suite he3 hd3 na nL nF
    have isName : ∀ {y : Str} {cv : Value} {np : Pos} {Q : Value → Shared → Prop} {E : Value → Shared → Prop}, Names X y cv → Q cv { s' with heap := h3 } → wpAny (model X.prog X.w) (X.A.mark (some (.ref x0))) (eval (.Name y np) X.env) Q E { s' with heap := h3 } := fun {y cv np Q E} hc q => by
      obtain ⟨hg, hdbg, hm | ⟨hm, hv, hnn⟩⟩ := hc
      · exact ld_glob (X := X.suite x0 ((x0, oe3) :: (X.pn ++ pins))) S3 hg hm q hdbg
      · exact ld_blt (X := X.suite x0 ((x0, oe3) :: (X.pn ++ pins))) S3 hg hm hv q hnn hdbg
    have LT : PySem.W.Looks (model X.prog X.w) h3 (typeOf (.ref x0)) cls := fun A Q E s k q => wpAny_typeOf_ref (k _ _ he3) (by rw [hz3.1]; exact q)
    have go : ∀ {hds' : List ExceptHandler} {l' : List Cl}, ClsOk X hds' l' → wX X.K Wout D l' cls d σ' H' → wpAny (model X.prog X.w) X.A (handleBy (.ref x0) X.env hds') (SP X pins D) X.xe { s' with heap := h3 } := by
      intro hds' l' hk
      induction hk with
      | nil =>
        intro w
        refine wpAny_handleBy_nil ?_
        obtain ⟨k1, k2, k3, oe, vs, T, oT, ts', he, hz, hd, h1, hr⟩ := id fl3
        unfold PySem.passOn
        refine wpAny_bind (wpAny_field he hd h1 ?_)
        rw [if_neg (show ¬ ((Value.ref T == Value.none) = true) from by simp)]
        have fin : wpAny (model X.prog X.w) X.A (setFlight (.ref x0) X.env.frame) (fun _ s4 => wpAny (model X.prog X.w) X.A (throw (.ref x0) : Sem Flow) (SP X pins D) X.xe s4) X.xe { s' with heap := h3 } := by
          rw [hf]
          refine HandSPX.setFlight_upZ fl3 fun h4 hh4 up4 => wpAny_throw (tk _ _ ?_)
          exact ⟨x0, B, sI, pins, σ', H', cls, d, rfl, J, nb, (up.trans up3).trans up4, .inr (.inr (by rw [hs]; exact hh4)), na, os, ag, w⟩
        first
          | exact wpAny_bind (wpAny_pure (wpAny_bind fin))
          | exact wpAny_bind fin
      | @bare y cv ts b₀ suite np pos' hds2 l2 hc hsu r ih =>
        intro w
        obtain ⟨bb, hb1, hyes, hno⟩ := w
        refine wpAny_handleBy_cons (codeAny_handlers_test ?_) (by intro q; cases q)
        refine isName hc ((PySem.W.exm_one (M := model X.prog X.w) J3.kIn LT hb1).here ?_)
        cases bb with
        | true =>
          refine codeAny_handlers_suite (HandSPX.lands_againZ fl3 fun h4 fl4 up4 => ?_)
          have J4 : Inv X pins σ' H' { s' with heap := h4 } := J.landed nb fl4.1 ((up.trans up3).trans up4) os ag
          obtain ⟨oe4, vs4, he4, hz4, hd4⟩ := fl4.there
          refine wpAny_mono ((hsu x0 oe4 cls d (X.pn ++ pins) hz4 ⟨_, hd4⟩).run [] _ _ H' _ (J4.suite he4 hd4 na nL nF) (hyes rfl x0 na)) (fun fl s6 hsp => ?_) (fun _ _ z => False.elim z)
          match fl, hsp with
          | .next, ⟨σ6, H6, S6, q6⟩ => exact ⟨_, _, S6.unsuite ok, q6⟩
          | .brk, ⟨σ6, H6, S6, q6⟩ => exact ⟨_, _, S6.unsuite ok, q6⟩
          | .cont, ⟨σ6, H6, S6, q6⟩ => exact ⟨_, _, S6.unsuite ok, q6⟩
          | .ret u, ⟨v6, σ6, H6, S6, r6, q6⟩ => exact ⟨_, _, _, S6.unsuite ok, r6, q6⟩
        | false =>
          show wpAny _ X.A (handleBy (.ref x0) X.env hds2) _ _ _
          exact ih (hno rfl)
      | @named y n i cv ts b₀ suite np pos' hds2 l2 hi hln hc hsu r ih =>
        intro w
        obtain ⟨bb, hb1, hyes, hno⟩ := w
        refine wpAny_handleBy_cons (codeAny_handlers_test ?_) (by intro q; cases q)
        refine isName hc ((PySem.W.exm_one (M := model X.prog X.w) J3.kIn LT hb1).here ?_)
        cases bb with
        | true =>
          refine codeAny_handlers_suite_as (HandSPX.lands_againZ fl3 fun h4 fl4 up4 => ?_)
          have J4 : Inv X pins σ' H' { s' with heap := h4 } := J.landed nb fl4.1 ((up.trans up3).trans up4) os ag
          obtain ⟨oe4, vs4, he4, hz4, hd4⟩ := fl4.there
          refine store_ok (X := X.suite x0 ((x0, oe4) :: (X.pn ++ pins))) (v := .ref x0) (J4.suite he4 hd4 na nL nF) hN hi (.inl hln) rfl (fun s5 S5 => ?_) (.inr hln)
          refine wpAny_mono ((hsu x0 oe4 cls d (X.pn ++ pins) hz4 ⟨_, hd4⟩).run [] s5 _ H' _ S5 (hyes rfl x0 na)) (fun fl s6 hsp => ?_) (fun _ _ z => False.elim z)
          have clr : ∀ {σ6 : L2.St} {H6 : Hp} {Q : Shared → Prop}, Inv (X.suite x0 ((x0, oe4) :: (X.pn ++ pins))) [] σ6 H6 s6 → (∀ s7, Inv X pins (σ6.set i none) H6 s7 → Q s7) →
              wpAny (model X.prog X.w) X.A (do bindName X.env n .none; unbindBehindTheSuite X.env n pos') (fun _ s7 => Q s7) X.xe s6 := fun S6 hq => gone_ok (S6.unsuite ok) hN hi hln hq
          match fl, hsp with
          | .next, ⟨σ6, H6, S6, q6⟩ => exact clr S6 fun s7 J7 => ⟨_, _, J7, q6⟩
          | .brk, ⟨σ6, H6, S6, q6⟩ => exact clr S6 fun s7 J7 => ⟨_, _, J7, q6⟩
          | .cont, ⟨σ6, H6, S6, q6⟩ => exact clr S6 fun s7 J7 => ⟨_, _, J7, q6⟩
          | .ret u, ⟨v6, σ6, H6, S6, r6, q6⟩ => exact clr S6 fun s7 J7 => ⟨_, _, _, J7, r6, q6⟩
        | false =>
          show wpAny _ X.A (handleBy (.ref x0) X.env hds2) _ _ _
          exact ih (hno rfl)
    exact go hh w
  · match fl, hsp with
    | .next, ⟨σ', H', J', q⟩ => exact wpAny_execs_nil ⟨σ', H', J'.ofTry ok, q⟩
    | .brk, ⟨σ', H', J', q⟩ => exact ⟨σ', H', J'.ofTry ok, q⟩
    | .cont, ⟨σ', H', J', q⟩ => exact ⟨σ', H', J'.ofTry ok, q⟩
    | .ret u, ⟨v, σ', H', J', r, q⟩ => exact ⟨v, σ', H', J'.ofTry ok, r, q⟩
end
end MP
set_option Elab.async false
set_option linter.all false
set_option autoImplicit false
set_option maxRecDepth 100000
set_option maxHeartbeats 2000000
/-! Mp10: t[::-1]; repr of a text, of a truth value; try; the fields of a caught error. -/
namespace MP
open PySem PySem.Spec PyProof.Rows L2

section
variable {prog : Program} {w : World} {A : Around} {E : Value → Shared → Prop} {s : Shared}
theorem places_rev (n : Nat) : Builtin.Slice.slicePlaces ((n : Int) - 1) (-1) (-1) = n := by
  unfold Builtin.Slice.slicePlaces
  rw [if_neg (by decide)]
  by_cases h : (n : Int) - 1 > -1
  · rw [if_pos h, show (-(-1) : Int) = 1 by decide, Int.ediv_one]; omega
  · rw [if_neg h]; omega
theorem sliceApplied_rev {sl : Addr} {vl vu vs : Value} {n : Nat} {Q : Int × Int × Nat → Shared → Prop} (hs : s.heap.IsSliceOf sl vl vu vs) (pl : IsPart vl none) (pu : IsPart vu none) (ps : IsPart vs (some (-1)))
    (h : Q ((n : Int) - 1, -1, n) s) : wpAny (model prog w) A (Builtin.Slice.sliceApplied (.ref sl) (pure (n : Int))) Q E s := by
  obtain ⟨os, hos, hcs, hds⟩ := id hs
  unfold Builtin.Slice.sliceApplied Builtin.Slice.sliceFields
  refine wpAny_bind (wpAny_bind (wpAny_field hos hds (x := vl) rfl (wpAny_bind (wpAny_field hos hds (x := vu) rfl (wpAny_bind (wpAny_field hos hds (x := vs) rfl (wpAny_pure ?_)))))))
  refine wpAny_bind (HT.slicePart_ ps ?_)
  show wpAny _ _ (if ((-1 : Int) == 0) = true then _ else _) _ _ s
  rw [if_neg (by decide)]
  refine wpAny_bind (HT.slicePart_ pl (wpAny_bind (HT.slicePart_ pu (wpAny_bind (wpAny_pure ?_)))))
  show wpAny _ _ (pure ((n : Int) - 1, (-1 : Int), Builtin.Slice.slicePlaces ((n : Int) - 1) (-1) (-1))) _ _ s
  rw [places_rev]
  exact wpAny_pure h
theorem pick_rev (xs : Array Value) : ((List.range xs.size).filterMap fun (m : Nat) => xs[(((xs.size : Int) - 1) + (m : Int) * (-1)).toNat]?).toArray = xs.toList.reverse.toArray := by
  have e : ((List.range xs.size).map fun (m : Nat) => (((xs.size : Int) - 1) + (m : Int) * (-1)).toNat) = (List.range xs.size).map fun k => xs.size - 1 - k := by
    apply List.map_congr_left
    intro k hk
    have := List.mem_range.mp hk
    omega
  have e2 : ((List.range xs.size).filterMap fun (m : Nat) => xs[(((xs.size : Int) - 1) + (m : Int) * (-1)).toNat]?) = ((List.range xs.size).map fun (m : Nat) => (((xs.size : Int) - 1) + (m : Int) * (-1)).toNat).filterMap (xs[·]?) := by
    rw [List.filterMap_map]
    rfl
  rw [e2, e]
  have h := PySem.W.krv_range xs.size
  rw [h, List.filterMap_reverse, PySem.W.krv_all]
theorem getItem_tuple_rev {t sl : Addr} {items : Array Value} {vl vu vs : Value} {Q : Value → Shared → Prop} (ht : IsTup s.heap t items) (hs : s.heap.IsSliceOf sl vl vu vs) (pl : IsPart vl none) (pu : IsPart vu none) (ps : IsPart vs (some (-1)))
    (h : Q (.ref s.heap.objs.size) { s with heap := s.heap.push { cls := .type "tuple", data := .seq items.toList.reverse.toArray } })
    (hsz : items.size ≤ sizeLine) : wpAny (model prog w) A (getItem (.ref t) (.ref sl)) Q E s := by
  have htake : sizeOk (.seq items.toList.reverse.toArray) := by
    show items.toList.reverse.toArray.size ≤ sizeLine
    rw [List.size_toArray, List.length_reverse, Array.length_toList]; exact hsz
  obtain ⟨os, hos, hcs, hds⟩ := id hs
  have hTs : s.TypeIs (.ref sl) "slice" := ⟨os, hos, hcs⟩
  unfold getItem
  try with_reducible refine wpAny_holding ?_
  first | refine wpAny_bind (wpAny_pure ?_) | skip
  refine wpAny_bind (wpAny_sequenceKey ht.typeIs (by decide) ?_)
  refine wpAny_bind (wpAny_callSpecial?_slot (name := Str.ofString "__getitem__") ht.typeIs PyProof.Rows.slot_tuple_getitem
    (wpAny_call_entry PyProof.Rows.slot_tuple_getitem ht.typeIs entry_tuple_getitem ?_ (args_tuple_getitem _ _)))
  show wpAny _ _ (Builtin.Tuple.tupleItemsOf (.ref t) >>= _) _ _ s
  refine wpAny_bind (tupleItemsOf_ ht ?_)
  refine wpAny_bind (wpAny_typeOf hTs ?_)
  rw [if_pos (by decide)]
  refine wpAny_bind (sliceApplied_rev hs pl pu ps ?_)
  have hno : ¬ ((((items.size : Int) - 1) == 0 && (-1 : Int) == 1 && items.size == items.size) = true) := by
    intro q
    rw [Bool.and_eq_true, Bool.and_eq_true] at q
    exact absurd q.1.2 (by decide)
  show wpAny _ _ (if ((((items.size : Int) - 1) == 0 && (-1 : Int) == 1 && items.size == items.size)) = true then _ else _) _ _ s
  rw [if_neg hno, pick_rev]
  first
    | exact wpAny_bind (m := Builtin.Tuple.tupleExact _) (wpAny_newObj_type (wpAny_pure ⟨_, rfl, wpAny_pure h⟩) htake)
    | exact wpAny_bind (m := Builtin.Tuple.tupleExact _) (wpAny_newObj_type (wpAny_bind (wpAny_pure (wpAny_pure ⟨_, rfl, wpAny_pure h⟩))) htake)
    | exact wpAny_bind (wpAny_bind (m := Builtin.Tuple.tupleExact _) (wpAny_newObj_type (wpAny_pure (wpAny_pure ⟨_, rfl, wpAny_pure h⟩)) htake))
    | exact wpAny_bind (wpAny_bind (m := Builtin.Tuple.tupleExact _) (wpAny_newObj_type (wpAny_pure ⟨_, rfl, wpAny_pure h⟩) htake))
end
section
variable {K : PySem.W.Frag} {X : Cx} {CT : CTab} {W : WX} {a b c e o : Expr} {es : List Expr} {ga gb g : G} {gA : GA} {pos : Pos}
def tRevT (K : PySem.W.Frag) (te : TE) : TE := fun σ H Q => te σ H fun x H1 => ∃ a xs, x = .ref a ∧ SqT K H1 a xs ∧ ∀ p, H1 p = none → Q (.ref p) (upd H1 p (.tup xs.reverse))
theorem pe_revT {e : Expr} {te : TE} {k : Nat} {p1 p2 p3 pos : Pos} (he : PE X e te) : PE X (.Subscript e (.Slice none none (some (.UnaryOp .USub (.Constant (.int 1) k p1) p2)) p3) pos) (tRevT X.K te) := by
  refine ⟨fun pins s σ H Q I h => ?_⟩
  refine Subscript_ (thn (he.run pins s σ H _ I h) fun v s1 ⟨x, H1, I1, r1, q1⟩ => ?_)
  obtain ⟨a, xs, ex, hx, q⟩ := q1
  subst ex
  cases r1
  have hst : PO X (some (.UnaryOp .USub (.Constant (.int 1) k p1) p2)) (tPart (tUn (rU fun i => .int (-i)) (tC (.int 1)))) := po_some (pe_un un_neg pe_int)
  refine wpAny_Slice (thn (po_none.run pins s1 σ H1 (fun o H2 => o = none ∧ H2 = H1) I1 ⟨rfl, rfl⟩) fun vl s2 ⟨l, H2, I2, pl, el, e2⟩ => ?_)
  subst el e2
  refine thn (po_none.run pins s2 σ H2 (fun o H3 => o = none ∧ H3 = H2) I2 ⟨rfl, rfl⟩) fun vu s3 ⟨u, H3, I3, pu, eu, e3⟩ => ?_
  subst eu e3
  refine thn (hst.run pins s3 σ H3 (fun o H4 => o = some (-1) ∧ H4 = H3) I3 ⟨1, rfl, -1, rfl, rfl, rfl⟩) fun vs s4 ⟨o, H4, I4, ps, eo, e4⟩ => ?_
  subst eo e4
  have I5 : Inv X pins σ H4 { s4 with heap := s4.heap.push { cls := .type "slice", data := .fields #[vl, vu, vs] } } := I4.kept (t' := s4.toks) fun b ob q => Heap.get?_push_of_some _ q
  obtain ⟨its, r, ht, hz⟩ := I5.tuple hx
  have hlen := r.length
  show wpAny (model X.prog X.w) X.A (subscriptTail e (.Slice none none (some (.UnaryOp .USub (.Constant (.int 1) k p1) p2)) p3) (.ref a) (.ref s4.heap.objs.size)) (EP X pins σ Q) X.xe { s4 with heap := s4.heap.push { cls := .type "slice", data := .fields #[vl, vu, vs] } }
  refine tail_any (ops := [.ref a, .ref s4.heap.objs.size]) ht.typeIs (PyProof.Rows.slot_tuple_getitem.lookup) ?_ (by with_unfolding_all rfl)
  refine getItem_tuple_rev ht (Heap.IsSliceOf.new _ vl vu vs) pl pu ps ?_ (by rw [List.size_toArray]; omega)
  refine ⟨.ref _, _, I5.laid (t' := s4.toks) (o := .tup xs.reverse) (fun b ob q => Heap.get?_push_of_some _ q) (Nat.le_refl _) ?_, rfl, q _ (I5.hok.fresh (Nat.le_refl _))⟩
  exact ⟨by rw [List.length_reverse]; exact hz, _, r.reverse, IsTup.new _ _⟩
/-- t[::-1] -/
def gRevT (g : G) : G := fun env st => rb (g env st) fun d st1 => match d with
  | .tup ds => some (.ok (.tup ds.reverse) st1)
  | _ => none
theorem d_revT {k : Nat} {p1 p2 p3 : Pos} (he : DE CT W X e g) : DE CT W X (.Subscript e (.Slice none none (some (.UnaryOp .USub (.Constant (.int 1) k p1) p2)) p3) pos) (gRevT g) := (pe_revT he).imp fun σ H Q h => by
  obtain ⟨φ, env, st, R, S, q⟩ := h
  refine ⟨φ, env, st, R, S, (Post.split q).mono ?_⟩
  rintro x H1 ⟨φ1, st1, dx, E1, R1, rx, q1⟩
  cases dx with
  | tup ds =>
    obtain ⟨a, vs, rfl, h1, h2⟩ := repTup rx
    exact ⟨a, vs, rfl, h1, new_tup R1 h2.reverse q1⟩
  | _ => exact q1.elim

/-! ### repr of what is no object -/
def rReprF : List V → Hp → VK → Prop := fun xs H Q => (∃ x : Str, xs = [.str x] ∧ (reprText x).length ≤ sizeLine ∧ Q (.str (reprText x)) H) ∨ (∃ b : Bool, xs = [.bl b] ∧ Q (.str (if b then "True" else "False")) H) ∨ (xs = [.non] ∧ Q (.str "None") H)
theorem call_reprF : CallR X (.builtin "repr") rReprF := by
  intro pins s σ H xs us Q I r h
  rcases h with ⟨x, rfl, hl, q⟩ | ⟨b, rfl, q⟩ | ⟨rfl, q⟩
  · obtain ⟨u, rfl, ru⟩ := vals1 r
    obtain ⟨t, rfl⟩ : ∃ t, u = Value.str x t := ru
    exact P.repr_of_str ⟨.str (reprText x), H, I.tok _, ⟨_, rfl⟩, q⟩ hl
  · obtain ⟨u, rfl, ru⟩ := vals1 r
    obtain rfl : u = Value.bool b := ru
    exact P.repr_of_bool ⟨.str (if b then "True" else "False"), H, I.tok _, ⟨_, rfl⟩, q⟩
  · obtain ⟨u, rfl, ru⟩ := vals1 r
    obtain rfl : u = Value.none := ru
    exact P.repr_of_none ⟨.str "None", H, I.tok _, ⟨_, rfl⟩, q⟩
def fReprF : GF
  | [.str x], st => if (reprText x).length ≤ 16777216 then some (.ok (.str (reprText x)) st) else none
  | [.bl b], st => some (.ok (.str (if b then "True" else "False")) st)
  | [.non], st => some (.ok (.str "None") st)
  | _, _ => none
theorem cd_reprF : CallD K rReprF fReprF := by
  intro CT W σ φ H st ds vs Q R r q
  unfold fReprF at q
  split at q
  · rename_i st' x
    obtain ⟨v, rfl, h1⟩ := one_rep r
    obtain rfl := repStr h1
    split at q
    · rename_i hl
      exact .inl ⟨x, rfl, by rw [sizeLine_eq]; exact hl, Post.done R (show Rep K φ H (.str _) (.str _) from rfl) q⟩
    · exact q.elim
  · rename_i st' b
    obtain ⟨v, rfl, h1⟩ := one_rep r
    obtain rfl := repBl h1
    exact .inr (.inl ⟨b, rfl, Post.done R (show Rep K φ H (.str _) (.str _) from rfl) q⟩)
  · rename_i st'
    obtain ⟨v, rfl, h1⟩ := one_rep r
    obtain rfl := repNon h1
    exact .inr (.inr ⟨rfl, Post.done R (show Rep K φ H (.str _) (.str _) from rfl) q⟩)
  · exact q.elim
def isRef1 (ds : List D) : Bool := match ds with
  | [d] => isRef d
  | _ => false
def fReprA : GF := fun ds st => if isRef1 ds = true then fRepr ds st else fReprF ds st
def rReprA (K : PySem.W.Frag) : List V → Hp → VK → Prop := fun xs H Q => rRepr K xs H Q ∨ rReprF xs H Q
theorem call_reprA (hu : X.A.units + 66 < cLine) (gd : X.A.guards = some []) : CallR X (.builtin "repr") (rReprA X.K) := (call_reprD hu gd).or call_reprF
theorem cd_reprA : CallD K (rReprA K) fReprA := CallD.or (p := fun ds _ => isRef1 ds) cd_repr cd_reprF
end
end MP
set_option Elab.async false
set_option linter.all false
set_option autoImplicit false
set_option maxRecDepth 100000
set_option maxHeartbeats 2000000
/-! Mp11: try over the store; the fields of a caught error. -/
namespace MP
open PySem PySem.Spec PyProof.Rows L2

section
variable {K : PySem.W.Frag} {X : Cx} {CT : CTab} {W : WX} {a b c e o : Expr} {es : List Expr} {ga gb g : G} {gA : GA} {pos : Pos}
/-! ### what a suite knows of the error that it holds -/
structure Su where
  i : Nat
  a : Addr
  dd : Addr
  names : List Str
  fs : List D
def SuF (K : PySem.W.Frag) (u : Su) (φ : Phi) (σ : L2.St) (H : Hp) : Prop := σ[u.i]? = some (some (.ref u.a)) ∧ ∃ vs, H u.dd = some (.xd (u.names.zip vs)) ∧ RepAll K φ H u.fs vs
theorem SuF.ext {u : Su} {φ φ' : Phi} {σ : L2.St} {H H' : Hp} {st : Store} (R : RelH K φ H st) (E : Ext φ H φ' H') (h : SuF K u φ σ H) : SuF K u φ' σ H' := by
  obtain ⟨h1, vs, h2, h3⟩ := h
  exact ⟨h1, vs, E.stay R _ _ h2 (fun z => z), RepAll.ext R E _ h3⟩
def lU (K : PySem.W.Frag) (CT : CTab) (W : WX) (u : Su) (g : G) : TE := fun σ H Q => ∃ φ env st, RelH K φ H st ∧ RelS K φ H σ env ∧ SuF K u φ σ H ∧ Post (rpE K) K CT W σ φ H (g env st) Q
def lUA (K : PySem.W.Frag) (CT : CTab) (W : WX) (u : Su) (g : GA) : TA := fun σ H Q => ∃ φ env st, RelH K φ H st ∧ RelS K φ H σ env ∧ SuF K u φ σ H ∧ Post (rpA K) K CT W σ φ H (g env st) Q
def lUS (K : PySem.W.Frag) (CT : CTab) (W : WX) (u : Su) (g : GS) : TS := fun D σ H => ∃ φ env st, RelH K φ H st ∧ RelS K φ H σ env ∧ SuF K u φ σ H ∧ PostS K W CT D φ H (g env st)
theorem u_e {u : Su} (h : DE CT W X e g) : PE X e (lU X.K CT W u g) := PE.imp h fun σ H Q ⟨φ, env, st, R, S, _, q⟩ => ⟨φ, env, st, R, S, q⟩
theorem ua_nil {u : Su} : PA X [] (lUA X.K CT W u aNil) := pa_nil.imp fun σ H Q h => by
  obtain ⟨φ, env, st, R, S, _, q⟩ := h
  exact Post.done R (show RepAll X.K φ H [] [] from rfl) q
theorem ua_cons {u : Su} (h : PE X e (lU X.K CT W u g)) (hr : PA X es (lUA X.K CT W u gA)) (hs : starEach (e :: es) X.env = (false, eval e X.env) :: starEach es X.env := by rfl) : PA X (e :: es) (lUA X.K CT W u (aCons g gA)) := (pa_cons h hr hs).imp fun σ H Q h => by
  obtain ⟨φ, env, st, R, S, F, q⟩ := h
  refine ⟨φ, env, st, R, S, F, (Post.split q).mono ?_⟩
  rintro x H1 ⟨φ1, st1, dx, E1, R1, rx, q1⟩
  refine ⟨φ1, env, st1, R1, S.ext R E1, F.ext R E1, (Post.split q1).mono ?_⟩
  rintro y H2 ⟨φ2, st2, dy, E2, R2, ry, q2⟩
  exact Post.done R2 (RepAll.cons (Rep.ext R1 E2 dx rx) ry) q2
theorem u_tup {u : Su} {x1 : Nat} (h : PA X es (lUA X.K CT W u gA)) : PE X (.Tuple es x1 pos) (lU X.K CT W u (gTup gA)) := (pe_tup h).imp fun σ H Q h => by
  obtain ⟨φ, env, st, R, S, F, q⟩ := h
  refine ⟨φ, env, st, R, S, F, (Post.split q).mono ?_⟩
  rintro x H1 ⟨φ1, st1, dx, E1, R1, rx, q1⟩
  unfold fits at q1
  split at q1
  · rename_i hl
    refine ⟨?_, new_tup R1 rx q1⟩
    rw [← RepAll.length rx]; exact fits_le hl
  · exact q1.elim
theorem u_lst {u : Su} (h : PA X es (lUA X.K CT W u gA)) : PE X (.List es pos) (lU X.K CT W u (gLst gA)) := (pe_lst h).imp fun σ H Q h => by
  obtain ⟨φ, env, st, R, S, F, q⟩ := h
  refine ⟨φ, env, st, R, S, F, (Post.split q).mono ?_⟩
  rintro x H1 ⟨φ1, st1, dx, E1, R1, rx, q1⟩
  unfold fits at q1
  split at q1
  · rename_i hl
    refine ⟨?_, new_lst R1 rx q1⟩
    rw [← RepAll.length rx]; exact fits_le hl
  · exact q1.elim
/-- n.f -/
def gFld (names : List Str) (fs : List D) (f : Str) : G := fun _ st => match (names.zip fs).lookup f with
  | some d => some (.ok d st)
  | none => none
theorem lookup_zip {φ : Phi} {H : Hp} {f : Str} {d : D} : ∀ {names : List Str} {fs : List D} {vs : List V}, RepAll K φ H fs vs → (names.zip fs).lookup f = some d → ∃ v, (names.zip vs).lookup f = some v ∧ Rep K φ H d v
  | [], fs, vs, _, h => by simp at h
  | n :: names, [], vs, _, h => by simp at h
  | n :: names, x :: fs, vs, r, h => by
    unfold RepAll at r
    obtain ⟨v, r', rfl, h1, h2⟩ := r
    rw [List.zip_cons_cons, List.lookup_cons] at h
    rw [List.zip_cons_cons, List.lookup_cons]
    cases hh : f == n with
    | true => rw [hh] at h; cases h; exact ⟨v, rfl, h1⟩
    | false => rw [hh] at h; exact lookup_zip h2 h
structure CTok (K : PySem.W.Frag) (CT : CTab) : Prop where
  ok : ∀ c C names, CT c = some (C, names) → XfC K C ∧ ∀ f ∈ names, PySem.W.findIn K (.ref C) f = some none
theorem u_f {i a0 C dd : Nat} {oe : Obj} {pn : List (Addr × Obj)} {n f : Str} {p : Pos} {names : List Str} {fs : List D} {c0 : Str} (T : CTok X.K CT) (hc : CT c0 = some (C, names)) (hz : Zc (.ref C) (some dd) oe) (hf : ∃ vs, oe.data = .fields vs)
    (hN : X.N[i]? = some n) (hv : Vis X.env.scope n) (hd : (n == ("__debug__" : Str)) = false := by decide) (hcd : (n == ("__classdict__" : Str)) = false := by decide)
    (hmem : f ∈ names := by decide) (hb : attributeBase (.Name n p) f X.env (eval (.Name n p) X.env) = eval (.Name n p) X.env := by rfl) :
    PE (X.suite a0 ((a0, oe) :: pn)) (.Attribute (.Name n p) f pos) (lU X.K CT W ⟨i, a0, dd, names, fs⟩ (gFld names fs f)) :=
  (pe_xf (X := X) (T.ok _ _ _ hc).1 ((T.ok _ _ _ hc).2 f hmem) hz hf (pe_var (X := X.suite a0 ((a0, oe) :: pn)) hN hv hd hcd) hb).imp fun σ H Q h => by
    obtain ⟨φ, env, st, R, S, ⟨F1, vs, F2, F3⟩, q⟩ := h
    refine ⟨.ref a0, F1, rfl, rfl, dd, names.zip vs, ?_⟩
    unfold gFld at q
    split at q
    · rename_i d hd
      obtain ⟨v, h1, h2⟩ := lookup_zip F3 hd
      exact ⟨v, rfl, F2, h1, Post.done R h2 q⟩
    · exact q.elim
theorem us_ret {u : Su} (he : PE X e (lU X.K CT W u g)) : PS X (.Return (some e) pos) (lUS X.K CT W u (sRet g)) := (ps_ret he).imp fun D σ H h => by
  obtain ⟨φ, env, st, R, S, F, q⟩ := h
  refine ⟨φ, env, st, R, S, F, (PostS.split R S q).mono ?_⟩
  rintro x H1 ⟨φ1, st1, dx, E1, R1, S1, rx, q1⟩
  exact q1 φ1 H1 x Ext.refl R1 rx
theorem us_set {u : Su} {i : Nat} {x : Str} {pos' : Pos} (hN : X.N.Nodup) (hi : X.N[i]? = some x) (hx : Loc X.env.scope x) (he : PE X e (lU X.K CT W u g)) (hs : swapsWith e (some (.Name x pos')) pos.line X.env = pure false := by rfl) (hf : X.fn x = true ∨ X.env.scope.names.lookup x = some .local := by first | exact .inl rfl | exact .inr rfl) :
    PS X (.Assign [.Name x pos'] e pos) (lUS X.K CT W u (sSet i g)) := (ps_set hN hi hx he hs hf).imp fun D σ H h => by
  obtain ⟨φ, env, st, R, S, F, q⟩ := h
  refine ⟨φ, env, st, R, S, F, (PostS.split R S q).mono ?_⟩
  rintro x H1 ⟨φ1, st1, dx, E1, R1, S1, rx, q1⟩
  exact q1 φ1 H1 _ Ext.refl R1 (S1.set rx)
theorem us_s {u : Su} {s : Stmt} {gs : GS} (h : DS CT W X s gs) : PS X s (lUS X.K CT W u gs) := PS.imp h fun D σ H ⟨φ, env, st, R, S, _, q⟩ => ⟨φ, env, st, R, S, q⟩
theorem us_one {u : Su} {s : Stmt} {gs : GS} (h : PS X s (lUS X.K CT W u gs)) : PSs X [s] (lUS X.K CT W u gs) := pss_one h

/-! ### the clauses -/
abbrev DCl := (Str → Option Bool) × Option Nat × (List Str → List D → GS)
def clrFl (i : Nat) : Option (Fl × Store) → Option (Fl × Store)
  | some (.nx e, st) => some (.nx (e.set i none), st)
  | some (.bk e, st) => some (.bk (e.set i none), st)
  | some (.ct e, st) => some (.ct (e.set i none), st)
  | some (.rt d, st) => some (.rt d, st)
  | _ => none
def noXc : Option (Fl × Store) → Option (Fl × Store)
  | some (.xc _ _ _, _) => none
  | r => r
def gHand (nt : Str → List Str) : List DCl → Str → List D → GS
  | [], c, fs => fun env st => some (.xc c fs env, st)
  | (m, none, gs) :: r, c, fs => fun env st => match m c with
    | some true => noXc (gs (nt c) fs env st)
    | some false => gHand nt r c fs env st
    | none => none
  | (m, some i, gs) :: r, c, fs => fun env st => match m c with
    | some true => if i < env.length then clrFl i (gs (nt c) fs (env.set i none) st) else none
    | some false => gHand nt r c fs env st
    | none => none
def sTry (nt : Str → List Str) (gb : GS) (dl : List DCl) : GS := fun env st => match gb env st with
  | some (.xc c fs env', st') => gHand nt dl c fs env' st'
  | r => r
theorem RelS.unset {φ : Phi} {H : Hp} {σ : L2.St} {env : Env} (S : RelS K φ H σ env) (i : Nat) (x : Option V) : RelS K φ H (σ.set i x) (env.set i none) := by
  refine ⟨by simp [S.len], fun j d hd => ?_⟩
  by_cases hj : j = i
  · subst hj
    rw [List.getElem?_set] at hd
    simp at hd
  · rw [List.getElem?_set_ne (Ne.symm hj)] at hd
    obtain ⟨v, h1, h2⟩ := S.slot j d hd
    exact ⟨v, by rw [List.getElem?_set_ne (Ne.symm hj)]; exact h1, h2⟩
def HandOk (K : PySem.W.Frag) (CT : CTab) (nt : Str → List Str) (dl : List DCl) (l : List Cl) : Prop :=
  ∀ (Ds : Ends) (Wout : WX) (c : Str) (C : Addr) (names : List Str) (fs : List D) (φ : Phi) (H : Hp) (σ : L2.St) (env : Env) (st : Store) (vs : List V) (dd : Addr), CT c = some (C, names) → H dd = some (.xd (names.zip vs)) → RepAll K φ H fs vs → RelH K φ H st → RelS K φ H σ env →
    PostS K Wout CT Ds φ H (gHand nt dl c fs env st) → wX K Wout Ds l (.ref C) (some dd) σ H
def DH (X : Cx) (CT : CTab) (nt : Str → List Str) (hds : List ExceptHandler) (dl : List DCl) : Prop := ∃ l, ClsOk X hds l ∧ HandOk X.K CT nt dl l
theorem h_nil {nt : Str → List Str} : DH X CT nt [] [] := ⟨[], .nil, fun D Wout c C names fs φ H σ env st vs dd hc hd r R S q => q φ H σ (.ref C) (some dd) Ext.refl R S ⟨C, names, dd, vs, hc, rfl, rfl, hd, r⟩⟩
def MOk (K : PySem.W.Frag) (CT : CTab) (cv : Value) (m : Str → Option Bool) : Prop := ∀ c C names b, CT c = some (C, names) → m c = some b → PySem.W.exmOne K (.ref C) cv = some b
theorem h_bare {nt : Str → List Str} {x : Str} {cv : Value} {b₀ : Stmt} {suite : List Stmt} {np pos' : Pos} {hds : List ExceptHandler} {dl : List DCl} {m : Str → Option Bool} {gs : GS} (hc : Names X x cv) (hm : MOk X.K CT cv m)
    (hsu : ∀ (a : Addr) (oe : Obj) (pn : List (Addr × Obj)), DSs CT W0 (X.suite a ((a, oe) :: pn)) (b₀ :: suite) gs) (r : DH X CT nt hds dl) :
    DH X CT nt (.ExceptHandler (some (.Name x np)) none (b₀ :: suite) pos' :: hds) ((m, none, fun _ _ => gs) :: dl) := by
  obtain ⟨l, hl, ho⟩ := r
  refine ⟨(cv, none, fun a cls d => lS X.K CT W0 gs) :: l, .bare hc (fun a oe cls d pn _ _ => hsu a oe pn) hl, ?_⟩
  intro Ds Wout c C names fs φ H σ env st vs dd hct hd rr R S q
  unfold gHand at q
  try dsimp only at q
  unfold wX
  cases hmc : m c with
  | none => rw [hmc] at q; exact q.elim
  | some bb =>
    rw [hmc] at q
    refine ⟨bb, hm _ _ _ _ hct hmc, fun e => ?_, fun e => ?_⟩
    · subst e
      intro a ha
      refine ⟨φ, env, st, R, S, ?_⟩
      try dsimp only at q
      cases hg : gs env st with
      | none => rw [hg] at q; exact q.elim
      | some o =>
        rw [hg] at q
        obtain ⟨f, s1⟩ := o
        cases f with
        | xc c1 f1 e1 => exact q.elim
        | nx e1 => exact q
        | bk e1 => exact q
        | ct e1 => exact q
        | rt d1 => exact q
    · subst e
      exact ho Ds Wout c C names fs φ H σ env st vs dd hct hd rr R S q
theorem h_named {nt : Str → List Str} {x n : Str} {i : Nat} {cv : Value} {b₀ : Stmt} {suite : List Stmt} {np pos' : Pos} {hds : List ExceptHandler} {dl : List DCl} {m : Str → Option Bool} {gs : List Str → List D → GS} (hnt : ∀ c C names, CT c = some (C, names) → nt c = names) (hi : X.N[i]? = some n) (hln : X.env.kindOf n = some .local) (hc : Names X x cv) (hm : MOk X.K CT cv m)
    (hsu : ∀ (a0 C dd : Addr) (oe : Obj) (pn : List (Addr × Obj)) (c0 : Str) (names : List Str) (fs : List D), m c0 = some true → CT c0 = some (C, names) → Zc (.ref C) (some dd) oe → (∃ vs, oe.data = .fields vs) → PSs (X.suite a0 ((a0, oe) :: pn)) (b₀ :: suite) (lUS X.K CT W0 ⟨i, a0, dd, names, fs⟩ (gs names fs))) (r : DH X CT nt hds dl) :
    DH X CT nt (.ExceptHandler (some (.Name x np)) (some n) (b₀ :: suite) pos' :: hds) ((m, some i, gs) :: dl) := by
  obtain ⟨l, hl, ho⟩ := r
  refine ⟨(cv, some i, fun a cls d D σ H => ∃ c C names fs dd, cls = .ref C ∧ d = some dd ∧ m c = some true ∧ CT c = some (C, names) ∧ lUS X.K CT W0 ⟨i, a, dd, names, fs⟩ (gs names fs) D σ H) :: l,
    .named hi hln hc (fun a oe cls d pn hz hf => ⟨fun pins s σ H D I h => ?_⟩) hl, ?_⟩
  · obtain ⟨c, C, names, fs, dd, rfl, rfl, hmt, hct, h⟩ := h
    exact (hsu a C dd oe pn c names fs hmt hct hz hf).run pins s σ H D I h
  intro Ds Wout c C names fs φ H σ env st vs dd hct hd rr R S q
  unfold gHand at q
  try dsimp only at q
  unfold wX
  cases hmc : m c with
  | none => rw [hmc] at q; exact q.elim
  | some bb =>
    rw [hmc] at q
    refine ⟨bb, hm _ _ _ _ hct hmc, fun e => ?_, fun e => ?_⟩
    · subst e
      intro a ha
      try dsimp only at q
      split at q
      case isFalse => exact q.elim
      rename_i hl
      refine ⟨c, C, names, fs, dd, rfl, rfl, hmc, hct, φ, env.set i none, st, R, S.unset i _, ⟨?_, vs, hd, rr⟩, ?_⟩
      · have hl2 : i < σ.length := by rw [← S.len]; exact hl
        show (σ.set i (some (.ref a)))[i]? = some (some (.ref a))
        rw [List.getElem?_set_self hl2]
      · rw [hnt c C names hct] at q
        cases hg : gs names fs (env.set i none) st with
        | none => rw [hg] at q; exact q.elim
        | some o =>
          rw [hg] at q
          obtain ⟨f, s1⟩ := o
          cases f with
          | xc c1 f1 e1 => exact q.elim
          | nx e1 => exact fun φ2 H2 σ2 E2 R2 S2 => q φ2 H2 (σ2.set i none) E2 R2 (S2.unset i none)
          | bk e1 => exact fun φ2 H2 σ2 E2 R2 S2 => q φ2 H2 (σ2.set i none) E2 R2 (S2.unset i none)
          | ct e1 => exact fun φ2 H2 σ2 E2 R2 S2 => q φ2 H2 (σ2.set i none) E2 R2 (S2.unset i none)
          | rt d1 => exact q
    · subst e
      exact ho Ds Wout c C names fs φ H σ env st vs dd hct hd rr R S q
theorem s_try {nt : Str → List Str} {body : List Stmt} {h₀ : ExceptHandler} {hds : List ExceptHandler} {dl : List DCl} {gb : GS} (hs : X.stack = X.env :: X.outer) (hf : X.env.frame = some X.env.locals) (hN : X.N.Nodup) (tk : Takes X W)
    (hb : ∀ (W' : WX) (pn : List (Addr × Obj)) (xe : Value → Shared → Prop), Takes (X.tr pn xe) W' → PassesOwn (model X.prog X.w) X.A X.env xe → DSs CT W' (X.tr pn xe) body gb) (hh : DH X CT nt (h₀ :: hds) dl) :
    DS CT W X (.Try body (h₀ :: hds) [] [] pos) (sTry nt gb dl) := by
  obtain ⟨l, hl, ho⟩ := hh
  refine (ps_tryX (tb := fun W' => lS X.K CT W' gb) (Wout := W) hs hf hN tk hb hl).imp fun D σ H h => ?_
  obtain ⟨φ, env, st, R, S, q⟩ := h
  refine ⟨φ, env, st, R, S, ?_⟩
  unfold sTry at q
  cases hg : gb env st with
  | none => rw [hg] at q; exact q.elim
  | some o =>
    rw [hg] at q
    obtain ⟨f, s1⟩ := o
    cases f with
    | nx e1 => exact q
    | bk e1 => exact q
    | ct e1 => exact q
    | rt d1 => exact q
    | xc c fs e1 =>
      intro φ2 H2 σ2 cv dd E2 R2 S2 ⟨C, names, d, vs, hct, ecv, edd, hd, rr⟩
      subst ecv edd
      exact ho D W c C names fs φ2 H2 σ2 e1 s1 vs d hct hd rr R2 S2 (PostS.ext E2 q)
end
end MP
set_option Elab.async false
set_option linter.all false
set_option autoImplicit false
set_option maxRecDepth 100000
set_option maxHeartbeats 2000000
/-! Mp12: what the head tells; a def from it; the law's end. -/
namespace MP
open PySem PySem.Spec PyProof.Rows L2

/-! ### an error class by the written part -/
def oeTail : List Value := [.type "OverflowError", .type "ArithmeticError", .type "Exception", .type "BaseException", .type "object"]
def veTl : List Value := [.type "ValueError", .type "Exception", .type "BaseException", .type "object"]
def excT (K : PySem.W.Frag) (C : Addr) : Bool := match K.lookup C with
  | some ⟨.type "type", _, .cls cd, sl⟩ => (match cd.mro, sl.toList with
    | .ref C' :: bm, [_, _, _, _, some (.builtin n), _] => C' == C && !cd.hasDel && cd.hasDict && ((n == "ValueError.__new__" && PySem.MpE.refsT veTl bm) || (n == "OverflowError.__new__" && PySem.MpE.refsT oeTail bm))
    | _, _ => false)
  | _ => false
theorem base_facts {n : String} {bm : List Value} (h : ((n == "ValueError.__new__" && PySem.MpE.refsT veTl bm) || (n == "OverflowError.__new__" && PySem.MpE.refsT oeTail bm)) = true) :
    ∃ B ini tl, ExcBaseFacts B n ini tl ∧ PySem.MpE.refsT tl bm = true ∧ tl.contains (.type "object") = true ∧ ∀ self, refuseLoop self "__setattr__" tl = pure () := by
  rcases Bool.or_eq_true_iff.mp h with h | h
  · obtain ⟨h1, h2⟩ := Bool.and_eq_true_iff.mp h
    obtain rfl := beq_iff_eq.mp h1
    exact ⟨_, _, veTl, PySem.F.excBase_ValueError, h2, by decide +kernel, PySem.F.store_ValueError.passes⟩
  · obtain ⟨h1, h2⟩ := Bool.and_eq_true_iff.mp h
    obtain rfl := beq_iff_eq.mp h1
    exact ⟨_, _, oeTail, PySem.F.excBase_OverflowError, h2, by decide +kernel, PySem.F.store_OverflowError.passes⟩
theorem excT_ok {K : PySem.W.Frag} {C : Addr} (q : excT K C = true) : ∃ (nm qn : Str) (N : Addr) (bs bm : List Value) (sn : List Str) (sub : List Value) (ab : Bool) (col : Option Bool) (dd : Option Addr) (k0 k1 k2 k3 k5 : Option Value) (B nw ini : String) (tl : List Value),
    K.lookup C = some (excClassObj nm qn C N bs bm true sn sub ab col dd k0 k1 k2 k3 k5 nw) ∧ ExcBaseFacts B nw ini tl ∧ PySem.MpE.refsT tl bm = true ∧ tl.contains (.type "object") = true ∧ ∀ self, refuseLoop self "__setattr__" tl = pure () := by
  unfold excT at q
  split at q
  · rename_i dd cd sl ho
    split at q
    · rename_i C' bm k0 k1 k2 k3 n k5 hm hs
      simp only [Bool.and_eq_true, beq_iff_eq, Bool.not_eq_true'] at q
      obtain ⟨⟨⟨rfl, hdel⟩, hdict⟩, ht⟩ := q
      obtain ⟨B, ini, tl, f1, f2, f3, f4⟩ := base_facts ht
      obtain ⟨nm, bs, mro, ns, qn, hd, sn, sub, ab, col, del⟩ := cd
      dsimp only at hm hdel hdict
      subst hm hdel hdict
      have hsl : sl = #[k0, k1, k2, k3, some (.builtin n), k5] := by
        obtain ⟨l⟩ := sl
        simp only at hs
        rw [hs]
      subst hsl
      exact ⟨nm, qn, ns, bs, bm, sn, sub, ab, col, dd, k0, k1, k2, k3, k5, B, n, ini, tl, ho, f1, f2, f3, f4⟩
    · cases q
  · cases q
/-- what is looked at of an error class x with the fields fs -/
def excB (K : PySem.W.Frag) (p : Str × List Str) : Bool :=
  excT K (He.ga K p.1) && (decide (PySem.W.findIn K (.ref (He.ga K p.1)) "__setattr__" = some (some (.builtin "object.__setattr__"))) && (decide (PySem.W.typeIn K (.ref (He.ga K p.1)) = some (.type "type")) && (PySem.W.keepIn K (.ref (He.ga K p.1)) &&
    (xfB K (He.ga K p.1) && (p.2.all fun f => decide (PySem.W.findIn K (.ref (He.ga K p.1)) f = some none))))))
theorem excB_ok {K : PySem.W.Frag} {p : Str × List Str} (h : excB K p = true) : OexG K (He.ga K p.1) ∧ XfC K (He.ga K p.1) ∧ ∀ f ∈ p.2, PySem.W.findIn K (.ref (He.ga K p.1)) f = some none := by
  obtain ⟨h1, h⟩ := Bool.and_eq_true_iff.mp h
  obtain ⟨h2, h⟩ := Bool.and_eq_true_iff.mp h
  obtain ⟨h3, h⟩ := Bool.and_eq_true_iff.mp h
  obtain ⟨h4, h⟩ := Bool.and_eq_true_iff.mp h
  obtain ⟨h5, h6⟩ := Bool.and_eq_true_iff.mp h
  have x := xfB_ok h5
  exact ⟨⟨excT_ok h1, of_decide_eq_true h2, x.exC, of_decide_eq_true h3, h4⟩, x, fun f hf => of_decide_eq_true (List.all_eq_true.mp h6 f hf)⟩
/-- its own __init__ -/
def iniB (K : PySem.W.Frag) (x : Str) : Bool := decide (PySem.W.findIn K (.ref (He.ga K x)) "__init__" = some (some (.ref (He.ma K (He.ga K x) "__init__")))) && decide (PySem.W.typeIn K (.ref (He.ma K (He.ga K x) "__init__")) = some (.type "function"))
/-- the errors: own ones, the names of their fields -/
abbrev Excs := List (Str × List Str)
def ctOf (K : PySem.W.Frag) (es : Excs) : CTab := fun c => (es.lookup c).map fun fs => (He.ga K c, fs)
def ntOf (es : Excs) : Str → List Str := fun c => (es.lookup c).getD []
theorem lookup_mem' {es : Excs} {c : Str} {fs : List Str} (h : es.lookup c = some fs) : (c, fs) ∈ es := by
  induction es with
  | nil => simp at h
  | cons p r ih =>
    obtain ⟨a, b⟩ := p
    rw [List.lookup_cons] at h
    cases hh : c == a with
    | true => rw [hh] at h; cases h; rw [eq_of_beq hh]; exact List.mem_cons_self
    | false => rw [hh] at h; exact List.mem_cons_of_mem _ (ih h)
theorem ctOf_some {K : PySem.W.Frag} {es : Excs} {c : Str} {C : Addr} {names : List Str} (h : ctOf K es c = some (C, names)) : (c, names) ∈ es ∧ C = He.ga K c ∧ ntOf es c = names := by
  unfold ctOf at h
  cases hh : es.lookup c with
  | none => rw [hh] at h; cases h
  | some fs =>
    rw [hh] at h; cases h
    exact ⟨lookup_mem' hh, rfl, by unfold ntOf; rw [hh]; rfl⟩
theorem ntOf_ct {K : PySem.W.Frag} {es : Excs} : ∀ c C names, ctOf K es c = some (C, names) → ntOf es c = names := fun c C names h => (ctOf_some h).2.2
theorem ctOk_of {K : PySem.W.Frag} {es : Excs} (h : es.all (excB K) = true) : CTok K (ctOf K es) := ⟨fun c C names hc => by
  obtain ⟨h1, rfl, _⟩ := ctOf_some hc
  obtain ⟨_, h2, h3⟩ := excB_ok (List.all_eq_true.mp h _ h1)
  exact ⟨h2, h3⟩⟩
/-- who is caught by a clause that names y: looked up in a table -/
abbrev Catch := List (Str × Str × Bool)
def mOf (cs : Catch) (y : Str) : Str → Option Bool := fun c => (cs.find? fun p => p.1 == c && p.2.1 == y).map (·.2.2)
def exmB (K : PySem.W.Frag) (p : Str × Str × Bool) : Bool := decide (PySem.W.exmOne K (.ref (He.ga K p.1)) (.ref (He.ga K p.2.1)) = some p.2.2)
theorem mOf_ok {K : PySem.W.Frag} {es : Excs} {cs : Catch} (h : cs.all (exmB K) = true) (y : Str) : MOk K (ctOf K es) (.ref (He.ga K y)) (mOf cs y) := fun c C names b hc hm => by
  obtain ⟨_, rfl, _⟩ := ctOf_some hc
  unfold mOf at hm
  cases hf : cs.find? fun p => p.1 == c && p.2.1 == y with
  | none => rw [hf] at hm; cases hm
  | some p =>
    rw [hf] at hm
    have h1 := List.find?_some hf
    have h2 := List.mem_of_find?_eq_some hf
    obtain ⟨e1, e2⟩ := Bool.and_eq_true_iff.mp h1
    have e3 := of_decide_eq_true (List.all_eq_true.mp h _ h2)
    rw [eq_of_beq e1, eq_of_beq e2] at e3
    cases hm
    exact e3
/-! ### the hook -/
structure Ask where
  fa : List He.Fa
  es : Excs
  ini : List Str
  cs : Catch
  fn : List He.DefD
def Ask.ok (q : Ask) (K : PySem.W.Frag) : Bool := (q.fa.all fun f => f.ok K) && (q.es.all (excB K) && (q.ini.all (iniB K) && (q.cs.all (exmB K) && q.fn.all fun d => d.ok K)))
def Ask.obs (q : Ask) (K : PySem.W.Frag) : He.AlD := (q.ok K, q.fn.map fun d => He.fnW K d.at_)
def Ask.says (q : Ask) (K : PySem.W.Frag) : Prop := q.obs K = He.valD q.fn
def Ask.obsG (q : Ask) (n : Nat) (g : Addr → Option Obj) : He.AlD := q.obs (He.frG g (He.asD g n))
def Ask.hook (q : Ask) (n : Nat) : PySem.W.Hook where
  α := He.AlD
  obs := fun s => q.obsG n s.heap.get?
  val := fun _ => He.valD q.fn
  says := fun _ h => ∃ K : PySem.W.Frag, K.In h ∧ q.says K
  of := fun _ _ e => ⟨_, He.frG_in, e⟩
  keeps := fun _ _ _ ⟨K, hK, c⟩ k => ⟨K, PySem.W.Frag.In.keeps hK k, c⟩
theorem Ask.obs_eq {q : Ask} {n : Nat} {g : Addr → Option Obj} {s : Shared} (h : ∀ a, g a = s.heap.get? a) : q.obsG n g = (q.hook n).obs s := by
  have e : g = s.heap.get? := funext h
  rw [e] <;> rfl
structure Told (q : Ask) (K : PySem.W.Frag) : Prop where
  fa : ∀ f ∈ q.fa, f.ok K = true
  es : q.es.all (excB K) = true
  ini : ∀ x ∈ q.ini, iniB K x = true
  cs : q.cs.all (exmB K) = true
  fn : ∀ d ∈ q.fn, ∃ fd, FunD K d.name d.qual d.params d.body d.scope (d.dvs K) (d.kws K) (He.fAd K d.at_) fd
theorem Ask.says.told {q : Ask} {K : PySem.W.Frag} (c : q.says K) : Told q K := by
  have c1 : q.ok K = true := congrArg (fun z : He.AlD => z.1) c
  have e : q.fn.map (fun d => He.fnW K d.at_) = q.fn.map He.DefD.val := congrArg (fun z : He.AlD => z.2) c
  obtain ⟨h1, h⟩ := Bool.and_eq_true_iff.mp c1
  obtain ⟨h2, h⟩ := Bool.and_eq_true_iff.mp h
  obtain ⟨h3, h⟩ := Bool.and_eq_true_iff.mp h
  obtain ⟨h4, h5⟩ := Bool.and_eq_true_iff.mp h
  refine ⟨fun f hf => List.all_eq_true.mp h1 f hf, h2, fun x hx => List.all_eq_true.mp h3 x hx, h4, fun d hd => ?_⟩
  exact He.DefD.funD (List.map_inj_left.mp e d hd) (List.all_eq_true.mp h5 d hd)
section
variable {P : Program} {w : World} {K : PySem.W.Frag} {mg : Str → Option Value} {base : Heap} {CT : CTab}
/-- THE RULE for a def, as the head tells of it -/
theorem def_okD {x qual : Str} {params : Arguments} {body : List Stmt} {scope : Scope} {f : Addr} {fd : FuncData} {N ps : List Str} {k : Nat} {gs : GS} {dvs : List V} {kws : List (Str × V)} (F : FunD K x qual params body scope dvs kws f fd) (S : FnScope N ps scope)
    (hb : ∀ (cdv : Value) (A : Around) (outer : List PySem.Env) (s : Shared) (H : Hp) (E : XK), Room k (A.deeper (envOfC qual scope s.heap.objs.size f cdv)) → A.guards = some [] →
      PSs (cxOf (L2.CX P w) P w K mg base N qual scope f cdv A outer s H E) body (lS K CT (fun c d _ H => E c d H) gs)) :
    FnG P w K mg base (k + 1) f fd ps (spG K CT ps.length (gBody N.length gs)) := by
  obtain ⟨oc, od, dV, kV, doc, pm, an, cdv, ct, osl, rfl, lk, hcd, _, _⟩ := F.ex
  refine fn_g lk hcd S (fun vs H Q E h => ?_) (fun A outer s H vs Q E hr gd h => ⟨_, hb cdv A outer s H E hr gd, body_read h⟩)
  obtain ⟨φ, ds, st', hl, R, r, q⟩ := h
  rw [← hl, r.length]
theorem init_okD {qual : Str} {params : Arguments} {body : List Stmt} {scope : Scope} {fI C : Addr} {fd : FuncData} {f p1 p2 : Str} {q1 q2 q3 q4 : Pos} (F : FunD K "__init__" qual params body scope [] [] fI fd) (S : FnScope [p1, p2] [p1, p2] scope)
    (hb : body = [.Assign [.Attribute (.Name p1 q1) f q2] (.Name p2 q3) q4]) (l1 : Vis scope p1) (l2 : Vis scope p2) (d1 : (p1 == ("__debug__" : Str)) = false) (d2 : (p2 == ("__debug__" : Str)) = false) (d3 : (p1 == ("__classdict__" : Str)) = false) (d4 : (p2 == ("__classdict__" : Str)) = false)
    (T : OexG K C) (hno : PySem.W.findIn K (.ref C) f = some none) : FnOk P w K mg base (L2.CX P w) 1 fI fd [p1, p2] (spInit C f) := by
  refine F.ok S (fun vs H Q E h => ?_) (fun cdv A outer s H vs Q E hr h => ⟨_, by rw [hb]; exact pss_one (ps_fst (pe_var (i := 0) rfl l1 d1 d3) (pe_var (i := 1) rfl l2 d2 d4)), ?_⟩)
  · obtain ⟨x, y, rfl, _⟩ := h; rfl
  · obtain ⟨x, y, rfl, hx, q⟩ := h
    exact ⟨y, rfl, .ref x, rfl, x, C, rfl, T, hno, hx, fun dx h1 h2 => q dx h1 h2⟩
end
/-! ### the end of a law -/
theorem RelH.nil {K : PySem.W.Frag} {H : Hp} (t : TabsH K H) : RelH K [] H [] := ⟨rfl, List.nodup_nil, fun n a c h _ => (by simp at h), t⟩
theorem rep_ints {K : PySem.W.Frag} {φ : Phi} {H : Hp} : ∀ ns : List Int, RepAll K φ H (ns.map D.int) (ns.map V.int)
  | [] => RepAll.nil
  | n :: r => RepAll.cons rfl (rep_ints r)
end MP
set_option Elab.async false
set_option linter.all false
set_option autoImplicit false
set_option maxRecDepth 100000
set_option maxHeartbeats 2000000
/-! Mp13: a def of the program: its promise and all that a call of it wants. -/
namespace MP
open PySem PySem.Spec PyProof.Rows L2

structure Def (P : Program) (w : World) (K : PySem.W.Frag) (mg : Str → Option Value) (base : Heap) (k : Nat) (x : Str) (n : Nat) (CT : CTab) (gf : GF) : Prop where
  ex : ∃ fd ps, ps.length = n ∧ FnG P w K mg base k (He.ga K x) fd ps (spG K CT n gf) ∧ Binds K fd ps []
  kp : PySem.W.keepIn K (.ref (He.ga K x)) = true
  gm : mg x = some (.ref (He.ga K x))
section
variable {P : Program} {w : World} {K : PySem.W.Frag} {mg : Str → Option Value} {base : Heap} {CT : CTab}
theorem Def.mono {j k n : Nat} {x : Str} {gf : GF} (D : Def P w K mg base j x n CT gf) (h : j ≤ k) : Def P w K mg base k x n CT gf := by
  obtain ⟨⟨fd, ps, h1, h2, h3⟩, h4, h5⟩ := D
  exact ⟨⟨fd, ps, h1, h2.mono h, h3⟩, h4, h5⟩
theorem def_mk {x nm qual : Str} {params : Arguments} {body : List Stmt} {scope : Scope} {N ps : List Str} {k : Nat} {gs : GS} (F : ∃ fd, FunD K nm qual params body scope [] [] (He.ga K x) fd) (gm : mg x = some (.ref (He.ga K x))) (S : FnScope N ps scope)
    (bind : ∀ (kV doc pm : Value) (an : Option Addr) (cdv ct : Value) (us : List Value), us.length = ps.length → bindArgs (PySem.W.fnOf nm qual params body scope .none kV doc pm an cdv ct) ⟨us, []⟩ = pure (ps.zip us))
    (hb : ∀ (f : Addr) (cdv : Value) (A : Around) (outer : List PySem.Env) (s : Shared) (H : Hp) (E : XK), Room k (A.deeper (envOfC qual scope s.heap.objs.size f cdv)) → A.guards = some [] →
      PSs (cxOf (L2.CX P w) P w K mg base N qual scope f cdv A outer s H E) body (lS K CT (fun c d _ H => E c d H) gs)) :
    Def P w K mg base (k + 1) x ps.length CT (gBody N.length gs) := by
  obtain ⟨fd, F⟩ := F
  exact ⟨⟨fd, ps, rfl, def_okD F S (fun cdv A outer s H E hr gd => hb _ cdv A outer s H E hr gd), F.bindsN bind⟩, F.kp, gm⟩
/-- no promise at all: where a recursion has no more room -/
theorem def_none {x nm qual : Str} {params : Arguments} {body : List Stmt} {scope : Scope} {ps : List Str} (F : ∃ fd, FunD K nm qual params body scope [] [] (He.ga K x) fd) (gm : mg x = some (.ref (He.ga K x)))
    (bind : ∀ (kV doc pm : Value) (an : Option Addr) (cdv ct : Value) (us : List Value), us.length = ps.length → bindArgs (PySem.W.fnOf nm qual params body scope .none kV doc pm an cdv ct) ⟨us, []⟩ = pure (ps.zip us)) {k : Nat} : Def P w K mg base k x ps.length CT (fun _ _ => none) := by
  obtain ⟨fd, F⟩ := F
  exact ⟨⟨fd, ps, rfl, ⟨fun vs H Q E h => by obtain ⟨_, _, _, _, _, _, q⟩ := h; exact q.elim, fun A outer s H args us vs Q E _ _ _ _ _ h => by obtain ⟨_, _, _, _, _, _, q⟩ := h; exact q.elim⟩, F.bindsN bind⟩, F.kp, gm⟩
theorem takes_def {N : List Str} {qual : Str} {scope : Scope} {f : Addr} {cd : Value} {A : Around} {outer : List PySem.Env} {s : Shared} {H : Hp} {E : XK} : Takes (cxOf (L2.CX P w) P w K mg base N qual scope f cd A outer s H E) (fun c d _ H => E c d H) := takes_of rfl rfl rfl rfl
theorem passes_def {N : List Str} {qual : Str} {scope : Scope} {f : Addr} {cd : Value} {A : Around} {outer : List PySem.Env} {s : Shared} {H : Hp} {E : XK} :
    PassesOwn (model P w) (cxOf (L2.CX P w) P w K mg base N qual scope f cd A outer s H E).A (cxOf (L2.CX P w) P w K mg base N qual scope f cd A outer s H E).env (cxOf (L2.CX P w) P w K mg base N qual scope f cd A outer s H E).xe := passes_of (X := cxOf (L2.CX P w) P w K mg base N qual scope f cd A outer s H E) rfl
end
section
variable {X : Cx} {CT : CTab} {W : WX} {e : Expr} {es : List Expr} {gA : GA} {pos : Pos}
theorem takesW0 : Takes X W0 := fun u s' ⟨_, _, _, _, _, _, _, _, _, _, _, _, _, _, _, _, h⟩ => h.elim
theorem d_def {x : Str} {p : Pos} {k n : Nat} {gf : GF} (D : Def X.prog X.w X.K X.mg X.base k x n CT gf) (hr : Room k X.A) (gd : X.A.guards = some []) (tk : Takes X W) (ha : DA CT W X (e :: es) gA) (hg : Gl X x := by rfl)
    (hdb : (x == ("__debug__" : Str)) = false := by decide) (he : starEach (e :: es) X.env = (false, eval e X.env) :: starEach es X.env := by rfl) (hpl : (backTo pos (starEach es X.env)).any (·.1) = false := by rfl) :
    DE CT W X (.Call (.Name x p) (e :: es) [] pos) (gCall n gf gA) := by
  obtain ⟨⟨fd, ps, h1, h2, h3⟩, h4, h5⟩ := D
  exact d_call h2 hr gd hg h5 h4 h3 tk ha hdb he hpl
theorem d_def0 {x : Str} {p : Pos} {k : Nat} {gf : GF} (D : Def X.prog X.w X.K X.mg X.base k x 0 CT gf) (hr : Room k X.A) (gd : X.A.guards = some []) (tk : Takes X W) (hg : Gl X x := by rfl) (hdb : (x == ("__debug__" : Str)) = false := by decide) :
    DE CT W X (.Call (.Name x p) [] [] pos) (gCall0 gf) := by
  obtain ⟨⟨fd, ps, h1, h2, h3⟩, h4, h5⟩ := D
  obtain rfl : ps = [] := List.eq_nil_of_length_eq_zero h1
  exact d_call0 h2 hr gd hg h5 h4 h3 tk hdb
end
section
variable {P : Program} {w : World} {K : PySem.W.Frag} {mg : Str → Option Value} {base : Heap}
/-- an own error with one field -/
def ErrD (P : Program) (w : World) (K : PySem.W.Frag) (mg : Str → Option Value) (base : Heap) (x f : Str) : Prop := ∃ fd ps, ErrC P w K mg base x f (He.ga K x) (He.ma K (He.ga K x) "__init__") fd ps
theorem errD_mk {q : Ask} (T : Told q K) {x qual f p1 p2 : Str} {params : Arguments} {body : List Stmt} {scope : Scope} {q1 q2 q3 q4 : Pos} (gm : mg x = some (.ref (He.ga K x))) (hx : (x, [f]) ∈ q.es) (hi : x ∈ q.ini) (F : ∃ fd, FunD K "__init__" qual params body scope [] [] (He.ma K (He.ga K x) "__init__") fd)
    (S : FnScope [p1, p2] [p1, p2] scope) (hb : body = [.Assign [.Attribute (.Name p1 q1) f q2] (.Name p2 q3) q4]) (l1 : Vis scope p1) (l2 : Vis scope p2)
    (bind : ∀ (kV doc pm : Value) (an : Option Addr) (cdv ct : Value) (us : List Value), us.length = [p1, p2].length → bindArgs (PySem.W.fnOf "__init__" qual params body scope .none kV doc pm an cdv ct) ⟨us, []⟩ = pure ([p1, p2].zip us))
    (d1 : (p1 == ("__debug__" : Str)) = false := by decide) (d2 : (p2 == ("__debug__" : Str)) = false := by decide) (d3 : (p1 == ("__classdict__" : Str)) = false := by decide) (d4 : (p2 == ("__classdict__" : Str)) = false := by decide) : ErrD P w K mg base x f := by
  obtain ⟨fd, F⟩ := F
  obtain ⟨o, xf, no⟩ := excB_ok (List.all_eq_true.mp T.es _ hx)
  obtain ⟨i1, i2⟩ := Bool.and_eq_true_iff.mp (T.ini x hi)
  exact ⟨fd, [p1, p2], gm, o, of_decide_eq_true i1, of_decide_eq_true i2, init_okD F S hb l1 l2 d1 d2 d3 d4 o (no f (by simp)), F.bindsN bind⟩
end
section
variable {X : Cx} {CT : CTab} {W : WX} {e : Expr} {es : List Expr} {gA : GA} {pos : Pos}
theorem s_raiseE {x f : Str} {p p2 : Pos} (T : ErrD X.prog X.w X.K X.mg X.base x f) (hct : CT x = some (He.ga X.K x, [f])) (hc : X.calm = true) (tk : Takes X W) (hr : Room 2 X.A) (ha : DA CT W X (e :: es) gA) (hg : Gl X x := by rfl)
    (hdb : (x == ("__debug__" : Str)) = false := by decide) (he : starEach (e :: es) X.env = (false, eval e X.env) :: starEach es X.env := by rfl) (hpl : (backTo p2 (starEach es X.env)).any (·.1) = false := by rfl) :
    DS CT W X (.Raise (some (.Call (.Name x p) (e :: es) [] p2)) none pos) (sRaise x gA) := by
  obtain ⟨fd, ps, T⟩ := T
  exact s_raise T hct hc tk hr hg ha hdb he hpl
end
end MP
set_option Elab.async false
set_option linter.all false
set_option autoImplicit false
set_option maxRecDepth 100000
set_option maxHeartbeats 2000000
/-! Mp14: >= of tuples of ints; what a law's facts are called; room. -/
namespace MP
open PySem PySem.Spec PyProof.Rows L2
section
variable {K : PySem.W.Frag} {X : Cx} {CT : CTab} {W : WX}
abbrev geAt (ns ms : List Int) : Bool := Ob.lexAt (fun j => decide (ns.getD j 0 = ms.getD j 0)) (fun j => decide (ms.getD j 0 ≤ ns.getD j 0)) (decide (ns.length ≥ ms.length)) 0 (min ns.length ms.length)
def rGeT (K : PySem.W.Frag) : R2 := fun x y H Q => ∃ (a b : Addr) (ns ms : List Int), x = .ref a ∧ y = .ref b ∧ SqT K H a (ns.map V.int) ∧ SqT K H b (ms.map V.int) ∧ Q (.bl (geAt ns ms)) H
theorem int_there {us : List Value} {ns : List Int} (r : Vals (ns.map V.int) us) (j : Nat) (h : j < us.toArray.size) : ∃ t, us.toArray[j] = .int (ns.getD j 0) t :=
  PyProof.Rows.IntsAre.int_at (Vals.ints r) _ _ (by simp at h; simp [h])
theorem eqAt_dec {A : Around} {s : Shared} (i j : Int) (t u : Tok) : SeqAt.EqAt A s (.int i t) (.int j u) (decide (i = j)) := by
  have z : (i == j) = decide (i = j) := by
    by_cases q : i = j
    · rw [decide_eq_true q]; exact beq_iff_eq.mpr q
    · rw [decide_eq_false q]; exact beq_eq_false_iff_ne.mpr q
  rw [← z]
  exact SeqAt.EqAt.int_int _ _ _ _
theorem op_geT (hu : X.A.units < cLine) : OpR X (compareOp .GtE) (rGeT X.K) := by
  intro pins s σ H x y v u Q I rx ry h
  obtain ⟨a, b, ns, ms, rfl, rfl, ha, hb, q⟩ := h
  obtain rfl : v = Value.ref a := rx
  obtain rfl : u = Value.ref b := ry
  obtain ⟨us, r1, p1, _⟩ := I.tuple ha
  obtain ⟨ws, r2, p2, _⟩ := I.tuple hb
  have R := Ob.RcOp.tuples_ge (A := X.A) (s := s) (e := fun j => decide (ns.getD j 0 = ms.getD j 0)) (r := fun j => decide (ms.getD j 0 ≤ ns.getD j 0)) p1 p2 hu
    (fun j h1 h2 => by
      obtain ⟨t, et⟩ := int_there r1 j h1
      obtain ⟨t', et'⟩ := int_there r2 j h2
      rw [et, et']; exact eqAt_dec _ _ _ _)
    (fun j h1 h2 _ => by
      obtain ⟨t, et⟩ := int_there r1 j h1
      obtain ⟨t', et'⟩ := int_there r2 j h2
      rw [et, et']; exact Ob.RcOp.ge_int _ _ _ _)
  have l1 : us.toArray.size = ns.length := by rw [List.size_toArray, (Vals.ints r1).length]
  have l2 : ws.toArray.size = ms.length := by rw [List.size_toArray, (Vals.ints r2).length]
  rw [l1, l2] at R
  exact R X.prog X.w X.xe (EP X pins σ Q) ⟨.bl _, H, I, rfl, q⟩
def fGeT : F2
  | .tup xs, .tup ys, st => match asInts xs, asInts ys with
    | some ns, some ms => some (.ok (.bl (geAt ns ms)) st)
    | _, _ => none
  | _, _, _ => none
theorem od_geT : OpD K (rGeT K) fGeT := by
  intro CT W σ φ H st dx dy x y Q R rx ry q
  unfold fGeT at q
  split at q
  · rename_i xs ys st'
    obtain ⟨a, vs, e1, h1, r1⟩ := repTup rx
    obtain ⟨b, ws, e2, h2, r2⟩ := repTup ry
    split at q
    · rename_i ns ms hn hm
      rw [asInts_ok hn r1] at h1
      rw [asInts_ok hm r2] at h2
      exact ⟨a, b, ns, ms, e1, e2, h1, h2, Post.done R (show Rep K φ H (.bl _) (.bl _) from rfl) q⟩
    · exact q.elim
  · exact q.elim
def fGeA : F2 := fun x y st => if isI x = true then fGe x y st else fGeT x y st
def rGeA (K : PySem.W.Frag) : R2 := fun x y H Q => rI0 (fun i j => .bl (decide (j ≤ i))) x y H Q ∨ rGeT K x y H Q
theorem op_geA (hu : X.A.units < cLine) : OpR X (compareOp .GtE) (rGeA X.K) := op_ge.or (op_geT hu)
theorem od_ge : OpD K (rGeA K) fGeA := OpD.or (p := fun x _ _ => isI x) (od_B _) od_geT
abbrev fAddI : F2 := fI cAny fun i j => i + j
abbrev fMulI : F2 := fI cMul fun i j => i * j
end
/-! ### room -/
section
variable {k : Nat} {A : Around}
theorem Rm.u0 (r : Room k A) : A.units < cLine := by have := r.un; omega
theorem Rm.u1 (r : Room k A) : A.units + 1 < cLine := by have := r.un; omega
theorem Rm.u64 (r : Room k A) : A.units + 64 < cLine := by have := r.un; omega
theorem Rm.u65 (r : Room k A) : A.units + 65 < cLine := by have := r.un; omega
theorem Rm.u66 (r : Room k A) : A.units + 66 < cLine := by have := r.un; omega
end
/-- a law's facts, by the places in what was asked -/
structure Tx (q : Ask) (K : PySem.W.Frag) (mg : Str → Option Value) : Prop where
  told : Told q K
  g : ∀ (i : Nat) {x : Str}, q.fa[i]? = some (.glo x) → mg x = some (.ref (He.ga K x))
  f : ∀ (i : Nat) {x : Str}, q.fa[i]? = some (.free x) → mg x = none
  i : ∀ (i : Nat) {x : Str} {v : Int}, q.fa[i]? = some (.int x v) → ∃ t, mg x = some (.int v t)
  s : ∀ (i : Nat) {x z : Str}, q.fa[i]? = some (.str x z) → ∃ t, mg x = some (.str z t)
theorem tx_mk {q : Ask} {K : PySem.W.Frag} {mg : Str → Option Value} {h : Heap} (X : K.In h) (G : h.Ns mainGlobals mg) (c : q.says K) : Tx q K mg :=
  ⟨c.told, fun i {x} e => He.glo_ok X G (c.told.fa _ (List.mem_of_getElem? e)), fun i {x} e => He.free_ok X G (c.told.fa _ (List.mem_of_getElem? e)),
    fun i {x v} e => He.int_ok X G (c.told.fa _ (List.mem_of_getElem? e)), fun i {x z} e => He.str_ok X G (c.told.fa _ (List.mem_of_getElem? e))⟩
theorem Tx.fn {q : Ask} {K : PySem.W.Frag} {mg : Str → Option Value} (T : Tx q K mg) (i : Nat) {d : He.DefD} (e : q.fn[i]? = some d) : ∃ fd, FunD K d.name d.qual d.params d.body d.scope (d.dvs K) (d.kws K) (He.fAd K d.at_) fd := T.told.fn d (List.mem_of_getElem? e)
section
variable {X : Cx} {CT : CTab} {W : WX} {pos : Pos}
theorem d_gInt {x : Str} {v : Int} (h : ∃ t, X.mg x = some (.int v t)) (hg : Gl X x := by rfl) (hdb : (x == ("__debug__" : Str)) = false := by decide) : DE CT W X (.Name x pos) (gc (.int v)) := by
  obtain ⟨t, e⟩ := h
  exact d_glob (v := .int v) hg e rfl ⟨t, rfl⟩ hdb
theorem d_gStr {x z : Str} (h : ∃ t, X.mg x = some (.str z t)) (hg : Gl X x := by rfl) (hdb : (x == ("__debug__" : Str)) = false := by decide) : DE CT W X (.Name x pos) (gc (.str z)) := by
  obtain ⟨t, e⟩ := h
  exact d_glob (v := .str z) hg e rfl ⟨t, rfl⟩ hdb
end
end MP
set_option Elab.async false
set_option linter.all false
set_option autoImplicit false
set_option maxRecDepth 100000
set_option maxHeartbeats 2000000
/-! Mp16: a lambda is made: with no parameter, or with one that has a default. -/
namespace MP
open PySem PySem.Spec PyProof.Rows L2

abbrev lamFd (q : Str) (ar : Arguments) (e : Expr) (sc : Scope) (cl : List (Str × Addr)) (pm cdv ct dV : Value) : FuncData :=
  { name := "<lambda>", qualname := q, params := ar, body := .expr e, scope := sc, globals := mainGlobals, closure := cl, defaults := dV, kwdefaults := .none,
    doc := .none, pyModule := pm, annotations := none, code := cdv, closureTuple := ct, builtins := builtinsNs }
abbrev lamO (q : Str) (ar : Arguments) (e : Expr) (sc : Scope) (cl : List (Str × Addr)) (pm cdv ct dV : Value) : Obj := { cls := .type "function", data := .func (lamFd q ar e sc cl pm cdv ct dV) }
/-- the last steps of its making -/
def lamRest (env : PySem.Env) (pos : Pos) (q : Str) (ar : Arguments) (e : Expr) (sc : Scope) (cl : List (Str × Addr)) (ct dV : Value) : Sem Value := do
  let fd : FuncData := { name := "<lambda>", qualname := q, params := ar, body := .expr e, scope := sc, globals := env.globals, closure := cl, closureTuple := ct,
                         code := ← functionCode env pos pos.line "<lambda>" q ar sc (.expr e), builtins := ← builtinsFor env.globals env.builtins,
                         defaults := dV, kwdefaults := .none, annotations := none, pyModule := (← nsGet env.globals "__name__").getD .none,
                         doc := ← pure .none }
  newObj (.type "function") (.func fd)
theorem tail_eq (env : PySem.Env) (pos : Pos) (q : Str) (ar : Arguments) (e : Expr) (sc : Scope) (dV : Value) : makeTail "<lambda>" q ar (.expr e) sc env dV .none none pos pos.line =
    (closureFor sc env >>= fun cl => if cl.isEmpty = true then (pure Value.none >>= fun ct => lamRest env pos q ar e sc cl ct dV)
      else newTextTuple ((cl.mergeSort fun a b => a.1.cps.toList ≤ b.1.cps.toList).map (.ref ·.2)) >>= fun ct => lamRest env pos q ar e sc cl ct dV) := rfl
/-- what the heap that is told has won -/
structure Won (K : PySem.W.Frag) (H H1 : Hp) : Prop where
  old : ∀ b o, H b = some o → (∀ ps, o ≠ .tbl ps) → H1 b = some o
  tbl : ∀ b ps, H b = some (.tbl ps) → ∃ qs, H1 b = some (.tbl qs)
  tab : TabsH K H1
theorem Won.ext {K : PySem.W.Frag} {H H1 : Hp} {φ : Phi} (w : Won K H H1) : Ext φ H φ H1 := ⟨⟨[], by simp, fun b hb => by simp at hb⟩, fun b o h _ n => w.old b o h n, fun b ps h _ => w.tbl b ps h⟩
theorem Won.rel {K : PySem.W.Frag} {H H1 : Hp} {φ : Phi} {st : Store} (w : Won K H H1) (R : RelH K φ H st) : RelH K φ H1 st :=
  ⟨R.len, R.nd, fun n a c h hc => by
    have ok := R.cell n a c h hc
    refine CellOk.ext R w.ext ?_ ok
    obtain ⟨u, hu, cu⟩ := R.some_of (List.mem_of_getElem? h)
    rw [hu]
    exact w.old a u hu fun ps z => by subst z; exact cu, w.tab⟩
/-- the lambda stands: its object at f, its code object at c' -/
structure Stands (X : Cx) (pins : List (Addr × Obj)) (σ : L2.St) (H H1 : Hp) (s s' : Shared) (q : Str) (ar : Arguments) (e : Expr) (sc : Scope) (dV : Value) (f c' : Addr) : Prop where
  inv : Inv X pins σ H1 s'
  won : Won X.K H H1
  obj : ∃ pm ct, s'.heap.get? f = some (lamO q ar e sc (cloFrom X.env.cells sc.names []) pm (.ref c') ct dV)
  out : H1 f = none
  fr : f ∉ frs X.stack
  code : H1 c' = some (LamX.CodeO c' q)
  stay : ∀ b o, s.heap.get? b = some o → H b = none → s'.heap.get? b = some o ∧ H1 b = none
section
variable {X : Cx} {pins : List (Addr × Obj)} {σ : L2.St} {H : Hp} {s : Shared} {M : Model} {A : Around} {E : Value → Shared → Prop} {Q : Value → Shared → Prop}
theorem lam_rest {c P : Addr} {q : Str} {ar : Arguments} {e : Expr} {sc : Scope} {pos : Pos} {ct dV : Value} (I : Inv X pins σ H s) (tabs : TabsH X.K H) (TB : LamX.TabB X.base X.mg c P) (hcode : X.env.code = .ref c) (mem : (P, q) ∈ tabsK X.K)
    (one : ∀ p ∈ tabsK X.K, p.1 = P → p.2 = q) (h : ∀ (f c' : Addr) (H1 : Hp) (s' : Shared), Stands X pins σ H H1 s s' q ar e sc dV f c' → Q (.ref f) s') :
    wpAny M A (lamRest X.env pos q ar e sc (cloFrom X.env.cells sc.names []) ct dV) Q E s := by
  obtain ⟨ps, atP, trip, among⟩ := tabs _ mem
  have heapP : s.heap.get? P = some { cls := .none, data := .fields ps } := I.hok P _ atP
  have hd := TB.code.keeps I.bk
  have ns : s.heap.Ns mainGlobals X.mg := I.mod.glob.keeps I.bk
  obtain ⟨bm, ob, b1, b2, b3, b4, b5, b6, b7, b8⟩ := TB.bm.keeps I.bk
  have noFrame : ∀ f, s.heap.objs.size ≤ f → f ∉ frs X.stack := fun f hf z => by
    rcases List.mem_cons.mp (I.stkSub _ z) with z1 | z1
    · have lt := I.lt
      rw [← z1] at lt
      exact absurd (Nat.lt_of_lt_of_le lt hf) (Nat.lt_irrefl _)
    · exact I.nofs hf z1
  have globE : X.env.globals = mainGlobals := I.ok.glob
  unfold lamRest
  rw [globE]
  cases found : codeAmong pos ps.toList with
  | some cv =>
    obtain ⟨c', rfl, isCode⟩ := among pos cv found
    refine wpAny_bind (wpAny_functionCode_hit hcode (hd.code heapP trip) found ?_)
    refine wpAny_bind (wpAny_builtinsFor ns b1 b2 b5 b6 b7 b8 (wpAny_bind (wpAny_nsGet ns ?_)))
    refine wpAny_bind (wpAny_pure (wpAny_newObj_type (h s.heap.objs.size c' H _ ⟨?_, ⟨fun b o z _ => z, fun b qs z => ⟨qs, z⟩, tabs⟩, ⟨_, _, Heap.get?_push_size _ rfl⟩, I.hok.fresh (Nat.le_refl _), noFrame _ (Nat.le_refl _), isCode, fun b o z n => ⟨Heap.get?_push_of_some _ z, n⟩⟩) (by size_fits)))
    exact I.kept (t' := s.toks) fun b o z => Heap.get?_push_of_some _ z
  | none =>
    refine wpAny_bind (wpAny_functionCodeX hcode (hd.code heapP trip) (hd.tab heapP) found fun c' h' tk but ge lt _ isRec newTab _ => ?_)
    have ns' := ns.extBut but TB.gP
    refine wpAny_bind (wpAny_builtinsFor ns' b1 b2 (but _ _ b4 b5) b6 b7 b8 (wpAny_bind (wpAny_nsGet ns' ?_)))
    refine wpAny_bind (wpAny_pure (wpAny_newObj_type ?_ (by size_fits)))
    obtain ⟨c2, oc, us, t, e2, hoc, hd2, hv⟩ := isRec
    cases e2
    have free : H c' = none := I.hok.fresh ge
    have sz : s.heap.objs.size ≤ h'.objs.size := Nat.le_trans ge (Nat.le_of_lt lt)
    have inv1 := LamX.inv_table (q := q) (t' := tk) (more := #[rawInt pos.line, rawInt pos.col, .ref c']) (h' := h'.push (lamO q ar e sc (cloFrom X.env.cells sc.names []) ((X.mg "__name__").getD .none) (.ref c') ct dV)) I atP
      (fun b o nb z => Heap.get?_push_of_some _ (but b o nb z)) (Heap.get?_push_of_some _ newTab.2) ge ⟨oc, us, t, Heap.get?_push_of_some _ hoc, hd2, hv⟩
    have nPc : P ≠ c' := ne_of_none atP free
    have same : ∀ b, b ≠ P → b ≠ c' → upd (upd H P (.tbl (ps ++ #[rawInt pos.line, rawInt pos.col, .ref c']))) c' (LamX.CodeO c' q) b = H b := fun b n1 n2 => by rw [upd_ne n2, upd_ne n1]
    have keepsO : ∀ b o, H b = some o → (∀ ps, o ≠ .tbl ps) → upd (upd H P (.tbl (ps ++ #[rawInt pos.line, rawInt pos.col, .ref c']))) c' (LamX.CodeO c' q) b = some o := fun b o z n => by
      rw [same b (fun w => by rw [w, atP] at z; exact n ps (Option.some.inj z).symm) (ne_of_none z free)]
      exact z
    have listE : (ps ++ #[rawInt pos.line, rawInt pos.col, .ref c']).toList = ps.toList ++ [rawInt pos.line, rawInt pos.col, .ref c'] := by simp
    refine h h'.objs.size c' _ _ ⟨inv1, ⟨keepsO, fun b qs z => ?_, fun p hp => ?_⟩, ⟨_, _, Heap.get?_push_size _ rfl⟩, ?_, noFrame _ sz, upd_same, fun b o z n => ⟨Heap.get?_push_of_some _ (but b o (fun w => by rw [w, atP] at n; cases n) z), ?_⟩⟩
    · by_cases w : b = P
      · subst w
        exact ⟨_, by rw [upd_ne nPc, upd_same]⟩
      · exact ⟨qs, by rw [same b w (ne_of_none z free)]; exact z⟩
    · by_cases w : p.1 = P
      · rw [one p hp w, w]
        refine ⟨_, by rw [upd_ne nPc, upd_same], by rw [listE]; exact PySem.TriplesOk_snoc _ _ _ _ trip, fun at2 cv z => ?_⟩
        rw [listE] at z
        rcases LamX.among_app _ trip z with z | z
        · obtain ⟨c0, e0, h0⟩ := among at2 cv z
          exact ⟨c0, e0, keepsO _ _ h0 LamX.codeO_ne⟩
        · exact ⟨c', z, upd_same⟩
      · obtain ⟨qs, a1, a2, a3⟩ := tabs p hp
        refine ⟨qs, by rw [same _ w (ne_of_none a1 free)]; exact a1, a2, fun at2 cv z => ?_⟩
        obtain ⟨c0, e0, h0⟩ := a3 at2 cv z
        exact ⟨c0, e0, keepsO _ _ h0 LamX.codeO_ne⟩
    · have n1 : h'.objs.size ≠ P := Nat.ne_of_gt (Nat.lt_of_lt_of_le (Heap.lt_size heapP) sz)
      rw [same _ n1 (Nat.ne_of_gt lt)]
      exact I.hok.fresh sz
    · rw [same b (fun w => by rw [w, atP] at n; cases n) (fun w => by rw [w] at z; exact Nat.lt_irrefl _ (Nat.lt_of_lt_of_le (Heap.lt_size z) ge))]
      exact n
end
end MP
set_option Elab.async false
set_option linter.all false
set_option autoImplicit false
set_option maxRecDepth 100000
set_option maxHeartbeats 2000000
/-! Mp17: a lambda is made and called. -/
namespace MP
open PySem PySem.Spec PyProof.Rows L2
/-- no default, or one whole number -/
def DflKind (ar : Arguments) (env : PySem.Env) : Option Int → Prop
  | none => defaultsOf ar env = ([], [])
  | some v => ∃ k p, defaultsOf ar env = ([eval (.Constant (.int v) k p) env], [])
def DflAt (X : Cx) (H : Hp) (s : Shared) (dV : Value) : Option Int → Prop
  | none => dV = .none
  | some v => ∃ t tok, dV = .ref t ∧ s.heap.get? t = some { cls := .type "tuple", data := .seq #[.int v tok] } ∧ H t = none ∧ t ∉ frs X.stack
section
variable {X : Cx} {pins : List (Addr × Obj)} {σ : L2.St} {H : Hp} {s : Shared}
theorem not_frame (I : Inv X pins σ H s) {f : Addr} (hf : s.heap.objs.size ≤ f) : f ∉ frs X.stack := fun z => by
  rcases List.mem_cons.mp (I.stkSub _ z) with z1 | z1
  · have lt := I.lt
    rw [← z1] at lt
    exact absurd (Nat.lt_of_lt_of_le lt hf) (Nat.lt_irrefl _)
  · exact I.nofs hf z1
theorem lam_tail {c P : Addr} {q : Str} {ar : Arguments} {e : Expr} {sc : Scope} {pos : Pos} {dV : Value} {E : Value → Shared → Prop} {Q : Value → Shared → Prop} (I : Inv X pins σ H s) (tabs : TabsH X.K H) (TB : LamX.TabB X.base X.mg c P) (hcode : X.env.code = .ref c)
    (mem : (P, q) ∈ tabsK X.K) (one : ∀ p ∈ tabsK X.K, p.1 = P → p.2 = q) (hfree : ∀ y ∈ sc.names, y.2 = .free → ∃ c, X.env.cells.lookup y.1 = some c)
    (h : ∀ (f c' : Addr) (H1 : Hp) (s2 s' : Shared), (∀ b o, s.heap.get? b = some o → s2.heap.get? b = some o) → Stands X pins σ H H1 s2 s' q ar e sc dV f c' → Q (.ref f) s') :
    wpAny (model X.prog X.w) X.A (makeTail "<lambda>" q ar (.expr e) sc X.env dV .none none pos pos.line) Q E s := by
  rw [tail_eq, closure_ok hfree]
  refine wpAny_bind (wpAny_pure ?_)
  by_cases em : (cloFrom X.env.cells sc.names []).isEmpty = true
  · rw [if_pos em]
    exact wpAny_bind (wpAny_pure (lam_rest I tabs TB hcode mem one fun f c' H1 s' S => h f c' H1 s s' (fun _ _ z => z) S))
  · rw [if_neg em]
    refine wpAny_bind (wpAny_newTextTuple ?_)
    have kp : ∀ (o' : Obj) b o, s.heap.get? b = some o → (s.heap.push o').get? b = some o := fun o' b o z => Heap.get?_push_of_some _ z
    exact lam_rest (I.kept (t' := s.toks) (kp _)) tabs TB hcode mem one fun f c' H1 s' S => h f c' H1 _ s' (kp _) S
theorem lam_make {c P : Addr} {ar : Arguments} {e : Expr} {sc : Scope} {pos : Pos} {d : Option Int} {E : Value → Shared → Prop} {Q : Value → Shared → Prop} (I : Inv X pins σ H s) (tabs : TabsH X.K H) (TB : LamX.TabB X.base X.mg c P) (hcode : X.env.code = .ref c)
    (mem : (P, X.env.qual ++ "<lambda>") ∈ tabsK X.K) (one : ∀ p ∈ tabsK X.K, p.1 = P → p.2 = X.env.qual ++ "<lambda>") (hfree : ∀ y ∈ sc.names, y.2 = .free → ∃ c, X.env.cells.lookup y.1 = some c) (dk : DflKind ar X.env d)
    (hE : ∀ v s', X.xe v s' → E v s')
    (h : ∀ (f c' : Addr) (H1 : Hp) (s2 s' : Shared) (dV : Value), Stands X pins σ H H1 s2 s' (X.env.qual ++ "<lambda>") ar e sc dV f c' → DflAt X H1 s' dV d → Q (.ref f) s') :
    wpAny (model X.prog X.w) X.A (eval (.Lambda ar e sc pos) X.env) Q E s := by
  rw [arm_eval_Lambda]
  cases d with
  | none =>
    rw [show defaultsOf ar X.env = ([], []) from dk]
    refine wpAny_bind (wpAny_pure (wpAny_bind (wpAny_holding (wpAny_pure ?_))))
    rw [makeFunction_eq]
    simp only [List.zip_nil_right, List.filterMap_nil, List.isEmpty_nil, if_true, pure_bind]
    exact lam_tail I tabs TB hcode mem one hfree fun f c' H1 s2 s' _ S => h f c' H1 s2 s' .none S rfl
  | some v =>
    obtain ⟨k, p, e1⟩ := dk
    rw [e1]
    refine wpAny_bind (wpAny_bind (wpAny_mono ((pe_int (X := X) (j := k) (pos := p)).run pins s σ H (fun w H' => w = .int v ∧ H' = H) I ⟨rfl, rfl⟩) ?_ hE))
    rintro u s1 ⟨w, H', I1, rel, rfl, rfl⟩
    obtain ⟨tok, rfl⟩ : ∃ tok, u = Value.int v tok := rel
    refine wpAny_bind (wpAny_holding (wpAny_pure (wpAny_pure (wpAny_bind (wpAny_holding (wpAny_pure ?_))))))
    rw [makeFunction_eq]
    simp only [List.zip_nil_right, List.filterMap_nil, List.isEmpty_cons, List.isEmpty_nil, if_true, Bool.false_eq_true, if_false, pure_bind]
    refine wpAny_bind (wpAny_newTextTuple ?_)
    have kp : ∀ (o' : Obj) b o, s1.heap.get? b = some o → (s1.heap.push o').get? b = some o := fun o' b o z => Heap.get?_push_of_some _ z
    refine lam_tail (I1.kept (t' := s1.toks) (kp _)) tabs TB hcode mem one hfree fun f c' H1 s2 s' more S => h f c' H1 s2 s' _ S ?_
    have here := more _ _ (Heap.get?_push_size s1.heap rfl)
    obtain ⟨a1, a2⟩ := S.stay _ _ here (I1.hok.fresh (Nat.le_refl _))
    exact ⟨s1.heap.objs.size, tok, rfl, a1, a2, not_frame I1 (Nat.le_refl _)⟩
end
end MP
set_option Elab.async false
set_option linter.all false
set_option autoImplicit false
set_option maxRecDepth 100000
set_option maxHeartbeats 2000000
/-! Mp18: a lambda's own frame; its call. -/
namespace MP
open PySem PySem.Spec PyProof.Rows L2
/-- its names: captured ones, globals, and one of its own that the def does not have -/
structure LamOk (N : List Str) (outer sc : Scope) (d : Option (Str × Int)) : Prop where
  kind : sc.kind = .function
  co : sc.isCoroutine = false
  gen : sc.isGenerator = false
  noc : ∀ y ∈ sc.names, y.2 ≠ .cell
  loc : ∀ y ∈ sc.names, y.2 = .local → y.1 ∉ N
  free : ∀ y ∈ sc.names, y.2 = .free → outer.names.lookup y.1 = some .cell ∨ outer.names.lookup y.1 = some .free
  own : ∀ x v, d = some (x, v) → sc.names.lookup x = some .local
def lamOkB (N : List Str) (outer sc : Scope) (d : Option (Str × Int)) : Bool :=
  decide (sc.kind = .function) && (!sc.isCoroutine && (!sc.isGenerator && ((sc.names.all fun y => !decide (y.2 = .cell)) && ((sc.names.all fun y => !decide (y.2 = .local) || !decide (y.1 ∈ N)) &&
    ((sc.names.all fun y => !decide (y.2 = .free) || (decide (outer.names.lookup y.1 = some .cell) || decide (outer.names.lookup y.1 = some .free))) && (match d with
      | none => true
      | some (x, _) => decide (sc.names.lookup x = some .local)))))))
theorem lamOk_by {N : List Str} {outer sc : Scope} {d : Option (Str × Int)} (h : lamOkB N outer sc d = true) : LamOk N outer sc d := by
  unfold lamOkB at h
  simp only [Bool.and_eq_true, Bool.or_eq_true, Bool.not_eq_true', decide_eq_true_eq, decide_eq_false_iff_not, List.all_eq_true] at h
  obtain ⟨h1, h2, h3, h4, h5, h6, h7⟩ := h
  refine ⟨h1, h2, h3, h4, fun y hy e => ?_, fun y hy e => ?_, fun x v e => ?_⟩
  · rcases h5 y hy with z | z
    · exact absurd e z
    · exact z
  · rcases h6 y hy with z | z
    · exact absurd e z
    · exact z
  · subst e
    exact of_decide_eq_true h7
/-- what a call without arguments binds -/
def LamBind (ar : Arguments) : Option (Str × Int) → Prop
  | none => ∀ (q : Str) (e : Expr) (sc : Scope) (cl : List (Str × Addr)) (pm cdv ct : Value), bindArgs (lamFd q ar e sc cl pm cdv ct .none) ⟨[], []⟩ = pure []
  | some (x, _) => ∀ (q : Str) (e : Expr) (sc : Scope) (cl : List (Str × Addr)) (pm cdv ct : Value) (T : Addr) (u : Value), ∃ k, bindArgs (lamFd q ar e sc cl pm cdv ct (.ref T)) ⟨[], []⟩ = seqItems? (.ref T) >>= k ∧ k (some #[u]) = pure [(x, u)]
theorem lam_binds {ar : Arguments} {d : Option (Str × Int)} {s : Shared} {q : Str} {e : Expr} {sc : Scope} {cl : List (Str × Addr)} {pm cdv ct dV : Value} (hb : LamBind ar d)
    (hd : match d with | none => dV = .none | some (_, v) => ∃ t tok, dV = .ref t ∧ s.heap.get? t = some { cls := .type "tuple", data := .seq #[.int v tok] }) :
    ∃ binds : List (Str × Value), BindsTo s (lamFd q ar e sc cl pm cdv ct dV) ⟨[], []⟩ binds ∧ ∀ y ∈ binds, ∃ v, d = some (y.1, v) := by
  cases d with
  | none =>
    subst hd
    exact ⟨[], BindsTo.of_eq (hb q e sc cl pm cdv ct), fun y hy => absurd hy List.not_mem_nil⟩
  | some p =>
    obtain ⟨x, v⟩ := p
    obtain ⟨t, tok, rfl, at_⟩ := hd
    obtain ⟨k, e1, e2⟩ := hb q e sc cl pm cdv ct t (.int v tok)
    refine ⟨[(x, .int v tok)], fun M A E Q z => ?_, fun y hy => ⟨v, by simp at hy; subst hy; rfl⟩⟩
    rw [e1]
    refine wpAny_bind (wpAny_seqItems at_ rfl ?_)
    rw [e2]
    exact wpAny_pure z
section
variable {X : Cx} {pins : List (Addr × Obj)} {σ : L2.St} {H HZ : Hp} {s s1 : Shared}
theorem lam_inv {A : Around} {outer : List PySem.Env} {E : XK} {sc : Scope} {d : Option (Str × Int)} {f c' : Addr} {h1 : Heap} {tk : Nat} {binds : List (Str × Value)} (I : Inv X pins σ H s) (L : LamOk X.N X.env.scope sc d) (e0 : Env0 X.prog X.w X.K X.mg X.base A outer s1 HZ)
    (hd : A.handled = none) (un : Un (frs X.stack) [] H HZ s.heap s1.heap) (hns : h1.Ns s1.heap.objs.size fun y => binds.reverse.lookup y) (kp : ∀ b o, s1.heap.get? b = some o → h1.get? b = some o) :
    Inv (LamX.lamCx X A outer s1 HZ E sc f c') [] σ HZ { s1 with heap := h1, toks := tk } := by
  have hasFree : ∀ y ∈ sc.names, y.2 = .free → ∃ c, X.env.cells.lookup y.1 = some c := fun y hy z => (L.free y hy z).elim (fun w => I.ok.has _ (.inl w)) fun w => I.ok.has _ (.inr w)
  have back : ∀ {y c}, (cloFrom X.env.cells sc.names []).lookup y = some c → X.env.cells.lookup y = some c := fun {y c} z => by
    rcases cloFrom_mem (PySem.mem_of_lookup z) with hm | ⟨w1, w2⟩
    · cases hm
    · obtain ⟨c1, hc⟩ := hasFree _ w1 rfl
      have hc' : X.env.cells.lookup y = some c1 := hc
      have same : c = c1 := by rw [w2, hc'] <;> rfl
      rw [same]; exact hc'
  have there : ∀ {y}, sc.names.lookup y = some .free → ∃ c, (cloFrom X.env.cells sc.names []).lookup y = some c := fun {y} hl => by
    have hy : (y, NameKind.free) ∈ sc.names := PySem.mem_of_lookup hl
    obtain ⟨c, hc⟩ := hasFree _ hy rfl
    exact mem_lookup (cloFrom_has (cells := X.env.cells) (acc := []) hy)
  have cellStays : ∀ {c : Addr} {v : Option Value}, H c = none → s.heap.IsCell c v → h1.IsCell c v := fun {c v} n ⟨o, ho, hdt⟩ => by
    obtain ⟨sl, z⟩ := un.any ho n (by simp)
    exact ⟨_, kp _ _ z, hdt⟩
  have none_ex : ∀ b : Addr, b ∉ (LamX.lamCx X A outer s1 HZ E sc f c').ex := fun b z => absurd (show b ∈ ([] : List Addr) from z) (by simp)
  have ok : (LamX.lamCx X A outer s1 HZ E sc f c').Ok := {
    mod := e0.mod, kind := L.kind, glob := rfl, blt := rfl, above := Nat.le_refl _
    inj := fun y z c z1 z2 => I.ok.inj y z c (back z1) (back z2)
    has := fun y hy => by
      have hy' : sc.names.lookup y = some .cell ∨ sc.names.lookup y = some .free := hy
      rcases hy' with w | w
      · exact absurd rfl (L.noc _ (PySem.mem_of_lookup w))
      · exact there w
    cab := fun y c z _ => by
      have z' : false = true := z
      cases z'
    hd := fun _ => hd
    frames := Around.frames_deeper e0.frames
    stk := .inr ⟨rfl, rfl⟩
    exf := fun b z => absurd z (none_ex b)
    bs := e0.bs
    bsz := e0.bsz
    noex := fun b _ _ => none_ex b
    exfs := fun b z => absurd z (none_ex b)
    funs := e0.funs
    frf := e0.frf }
  refine { ok := ok, os := rfl, bare := e0.bare, base := Un.kept kp, loc := ⟨_, hns, fun i y v z1 z2 z3 => ?_⟩, cell := fun y c z => ?_, free := e0.hok.fresh (Nat.le_refl _), freeC := fun y c z => ?_,
           pin := fun p hp => absurd (show p ∈ ([] : List (Addr × Obj)) ++ [] from hp) (by simp), hok := e0.hok.kept kp, len := I.len }
  · have z3' : Vis sc y := z3
    rcases z3' with w | w | w
    · exact absurd (List.mem_of_getElem? z1) (L.loc _ (PySem.mem_of_lookup w) rfl)
    · exact absurd rfl (L.noc _ (PySem.mem_of_lookup w))
    · obtain ⟨m, _, hl⟩ := I.loc
      have vis : Vis X.env.scope y := (L.free _ (PySem.mem_of_lookup w) rfl).elim (fun u => .inr (.inl u)) (fun u => .inr (.inr u))
      obtain ⟨u, r, lk⟩ := hl i y v z1 z2 vis
      obtain ⟨c2, h2⟩ := there w
      refine ⟨u, r, .inr ⟨.inr w, c2, h2, ?_⟩⟩
      have h3 := back h2
      rcases lk with ⟨k1, _⟩ | ⟨_, c3, k2, k3⟩
      · have k1' : X.env.scope.names.lookup y = some .local := k1
        rcases L.free _ (PySem.mem_of_lookup w) rfl with k4 | k4 <;> rw [show X.env.scope.names.lookup y = _ from k4] at k1' <;> cases k1'
      · rw [h3] at k2
        cases k2
        exact cellStays (I.freeC y _ h3) k3
  · obtain ⟨u, w⟩ := I.cell y c (back z)
    exact ⟨u, cellStays (I.freeC y c (back z)) w⟩
  · obtain ⟨v, o, ho, hdt⟩ := I.cell y c (back z)
    exact un.free c o ho (I.freeC y c (back z)) (by simp)
end
end MP
set_option Elab.async false
set_option linter.all false
set_option autoImplicit false
set_option maxRecDepth 100000
set_option maxHeartbeats 2000000
/-! Mp19: what a def makes of a lambda that it gets. -/
namespace MP
open PySem PySem.Spec PyProof.Rows L2
section
variable {X : Cx} {pins : List (Addr × Obj)} {σ : L2.St} {H0 H1 : Hp} {s2 s : Shared} {CT : CTab}
abbrev gotCx (X : Cx) (Ng : List Str) (qg : Str) (sg : Scope) (g : Addr) (cdg : Value) (s : Shared) (H : Hp) (Eg : XK) : Cx := cxOf (L2.CX X.prog X.w) X.prog X.w X.K X.mg X.base Ng qg sg g cdg X.A X.stack s H Eg
/-- the lambda is called, in the def that got it -/
theorem lam_act {ar : Arguments} {e : Expr} {sc : Scope} {dV : Value} {f c' : Addr} {d : Option (Str × Int)} {Ng : List Str} {qg : Str} {sg : Scope} {g : Addr} {cdg : Value} {Eg : XK} {pn : List (Addr × Obj)} {xe : Value → Shared → Prop} {W : WX} {i k : Nat} {a : Str} {gb : G} {p1 p2 : Pos}
    (S : Stands X pins σ H0 H1 s2 s (X.env.qual ++ "<lambda>") ar e sc dV f c') (DF : DflAt X H1 s dV (d.map (·.2))) (L : LamOk X.N X.env.scope sc d) (hb : LamBind ar d) (gd : X.A.guards = some [])
    (tk : Takes ((gotCx X Ng qg sg g cdg s H1 Eg).tr pn xe) W) (hr : Room (k + 1) (X.A.deeper (envOfC qg sg s.heap.objs.size g cdg)))
    (hbody : ∀ (A : Around) (outer : List PySem.Env) (s : Shared) (H : Hp) (E : XK), Room k (A.deeper (LamX.lamEnv X sc s.heap.objs.size f c')) → A.guards = some [] → PE (LamX.lamCx X A outer s H E sc f c') e (lE X.K CT (fun c d _ H => E c d H) gb))
    (hN : Ng[i]? = some a) (hv : Vis sg a) (hd : (a == ("__debug__" : Str)) = false) (hcd : (a == ("__classdict__" : Str)) = false) :
    PE ((gotCx X Ng qg sg g cdg s H1 Eg).tr pn xe) (.Call (.Name a p1) [] [] p2)
      (fun σZ HZ Q => σZ[i]? = some (some (.ref f)) ∧ HZ c' = some (LamX.CodeO c' (X.env.qual ++ "<lambda>")) ∧ lE X.K CT (fun c d _ H => W c d σZ H) gb σ HZ Q) := by
  refine ⟨fun pinsZ sZ σZ HZ Q IZ h => ?_⟩
  obtain ⟨slot, code, reading⟩ := h
  have look := (pe_var (pos := p1) (i := i) hN hv hd hcd).run pinsZ sZ σZ HZ (fun v H' => v = .ref f ∧ H' = HZ) IZ ⟨.ref f, slot, rfl, rfl⟩
  refine wpAny_Call_Name_kw (thn look fun u s1 ⟨v, H', I1, r1, q1, q2⟩ => ?_)
  rw [q2] at I1
  rw [q1] at r1
  obtain rfl : u = Value.ref f := r1
  obtain ⟨pm, ct, obj⟩ := S.obj
  have stays : ∀ (b : Addr) (o : Obj), s.heap.get? b = some o → H1 b = none → b ∉ frs X.stack → s1.heap.get? b = some o := fun b o z n nf => I1.base.keep b o z n nf (fun w => nomatch (show b ∈ ([] : List Addr) from w))
  have obj1 := stays f _ obj S.out S.fr
  obtain ⟨binds, bound, own⟩ := lam_binds (s := s1) (q := X.env.qual ++ "<lambda>") (e := e) (sc := sc) (cl := cloFrom X.env.cells sc.names []) (pm := pm) (cdv := .ref c') (ct := ct) (dV := dV) hb (by
    cases d with
    | none => exact DF
    | some p =>
      obtain ⟨t, tok, e1, e2, e3, e4⟩ := DF
      exact ⟨t, tok, e1, stays t _ e2 e3 e4⟩)
  refine PySem.W.callWith_F0 ⟨_, _, _, _, obj1⟩ ?_
  have un : Un (frs X.stack) [] H1 HZ s.heap s1.heap := I1.base
  obtain ⟨⟨oc, vs, t, hoc, hdc, hvc⟩, _, _⟩ := I1.hok c' _ code
  have ran : codeAny (model X.prog X.w) (X.A.deeper (envOfC qg sg s.heap.objs.size g cdg)) (.call (.ref f) ⟨[], []⟩) (CR (L2.CX X.prog X.w) (envOfC qg sg s.heap.objs.size g cdg :: X.stack) X.prog X.w HZ s1 Q (WE W σZ)) s1 := by
    refine PySem.W.kla_callFunE hr.depth obj1 rfl L.co L.gen rfl ⟨c', oc, vs, t, rfl, hoc, hdc, hvc⟩ (bound _ _ _ _ ?_)
    refine wpAny_newFunctionEnv L.noc (fun y hy => (own y hy).elim fun v z => L.own _ _ z) (fun h1 hns hsb => ⟨I1.nolimit.fresh _ hsb, ?_⟩) L.kind
    show codeAny _ _ (.expr e (LamX.lamEnv X sc s1.heap.objs.size f c')) _ _
    have kp : ∀ b o, s1.heap.get? b = some o → h1.get? b = some o := fun b o z => hsb.extBut b o (Nat.ne_of_lt (Heap.lt_size z)) (Heap.get?_push_of_some _ z)
    have J := lam_inv (A := X.A.deeper (envOfC qg sg s.heap.objs.size g cdg)) (outer := envOfC qg sg s.heap.objs.size g cdg :: X.stack) (E := WE W σZ) (f := f) (c' := c') (tk := s1.toks + binds.length) S.inv L I1.env0 hr.hd un hns kp
    refine PySem.W.kla_codeExpr (wpAny_mono ((hbody _ _ s1 HZ (WE W σZ) (hr.deeper _) gd).run [] _ _ HZ Q J reading) (fun v s' hq => ?_) fun e' s' hq => hq)
    obtain ⟨w', H', J', rv, q⟩ := hq
    exact ⟨w', H', J'.os, J'.bare, J'.base, J'.hok, rv, q⟩
  refine wpAny_call (codeAny_mono ran fun r s' hq => ?_)
  match r, hq with
  | .error e', hq => exact passAt tk σZ pinsZ HZ s1 e' s' I1 hq
  | .ok (.ret u), hq => exact I1.after hq
  | .ok .next, hq => exact hq.elim
  | .ok .brk, hq => exact hq.elim
  | .ok .cont, hq => exact hq.elim
end
/-! ### the def that gets it: readings that know the lambda -/
structure Lm where
  f : Addr
  c : Addr
  q : Str
  so : L2.St
  eo : Env
  g : G
structure LmF (K : PySem.W.Frag) (u : Lm) (φ : Phi) (σ : L2.St) (H : Hp) : Prop where
  slot : σ[0]? = some (some (.ref u.f))
  code : H u.c = some (LamX.CodeO u.c u.q)
  rel : RelS K φ H u.so u.eo
theorem LmF.ext {K : PySem.W.Frag} {u : Lm} {φ φ' : Phi} {σ : L2.St} {H H' : Hp} {st : Store} (R : RelH K φ H st) (E : Ext φ H φ' H') (h : LmF K u φ σ H) : LmF K u φ' σ H' :=
  ⟨h.slot, E.stay R _ _ h.code (fun z => z), h.rel.ext R E⟩
def lM (K : PySem.W.Frag) (CT : CTab) (W : WX) (u : Lm) (g : G) : TE := fun σ H Q => ∃ φ env st, RelH K φ H st ∧ RelS K φ H σ env ∧ LmF K u φ σ H ∧ Post (rpE K) K CT W σ φ H (g env st) Q
def lMA (K : PySem.W.Frag) (CT : CTab) (W : WX) (u : Lm) (g : GA) : TA := fun σ H Q => ∃ φ env st, RelH K φ H st ∧ RelS K φ H σ env ∧ LmF K u φ σ H ∧ Post (rpA K) K CT W σ φ H (g env st) Q
def lMS (K : PySem.W.Frag) (CT : CTab) (W : WX) (u : Lm) (g : GS) : TS := fun D σ H => ∃ φ env st, RelH K φ H st ∧ RelS K φ H σ env ∧ LmF K u φ σ H ∧ PostS K W CT D φ H (g env st)
/-- a(), whatever stands in the slots -/
def gThk (th : Store → Option (Out D)) : G := fun _ st => th st
section
variable {X : Cx} {CT : CTab} {W : WX} {u : Lm} {e : Expr} {es : List Expr} {g : G} {gA : GA} {pos : Pos}
theorem m_call {a : Str} {p1 p2 : Pos} (act : PE X (.Call (.Name a p1) [] [] p2) (fun σZ HZ Q => σZ[0]? = some (some (.ref u.f)) ∧ HZ u.c = some (LamX.CodeO u.c u.q) ∧ lE X.K CT (fun c d _ H => W c d σZ H) u.g u.so HZ Q)) :
    PE X (.Call (.Name a p1) [] [] p2) (lM X.K CT W u (gThk (u.g u.eo))) := act.imp fun σ H Q h => by
  obtain ⟨φ, env, st, R, S, F, q⟩ := h
  refine ⟨F.slot, F.code, φ, u.eo, st, R, F.rel, ?_⟩
  have q' : Post (rpE X.K) X.K CT W σ φ H (u.g u.eo st) Q := q
  cases hg : u.g u.eo st with
  | none => rw [hg] at q'; exact q'
  | some o =>
    rw [hg] at q'
    cases o with
    | ok dd s1 => exact q'
    | ex c fs s1 => exact q'
theorem ma_nil : PA X [] (lMA X.K CT W u aNil) := pa_nil.imp fun σ H Q h => by
  obtain ⟨φ, env, st, R, S, _, q⟩ := h
  exact Post.done R (show RepAll X.K φ H [] [] from rfl) q
theorem ma_cons (h : PE X e (lM X.K CT W u g)) (hr : PA X es (lMA X.K CT W u gA)) (hs : starEach (e :: es) X.env = (false, eval e X.env) :: starEach es X.env := by rfl) : PA X (e :: es) (lMA X.K CT W u (aCons g gA)) := (pa_cons h hr hs).imp fun σ H Q h => by
  obtain ⟨φ, env, st, R, S, F, q⟩ := h
  refine ⟨φ, env, st, R, S, F, (Post.split q).mono ?_⟩
  rintro x Ha ⟨φ1, st1, dx, E1, R1, rx, q1⟩
  refine ⟨φ1, env, st1, R1, S.ext R E1, F.ext R E1, (Post.split q1).mono ?_⟩
  rintro y Hb ⟨φ2, st2, dy, E2, R2, ry, q2⟩
  exact Post.done R2 (RepAll.cons (Rep.ext R1 E2 dx rx) ry) q2
theorem m_lst (h : PA X es (lMA X.K CT W u gA)) : PE X (.List es pos) (lM X.K CT W u (gLst gA)) := (pe_lst h).imp fun σ H Q h => by
  obtain ⟨φ, env, st, R, S, F, q⟩ := h
  refine ⟨φ, env, st, R, S, F, (Post.split q).mono ?_⟩
  rintro x Ha ⟨φ1, st1, dx, E1, R1, rx, q1⟩
  unfold fits at q1
  split at q1
  · rename_i hl
    refine ⟨?_, new_lst R1 rx q1⟩
    rw [← RepAll.length rx]; exact fits_le hl
  · exact q1.elim
theorem m_ret (he : PE X e (lM X.K CT W u g)) : PS X (.Return (some e) pos) (lMS X.K CT W u (sRet g)) := (ps_ret he).imp fun D σ H h => by
  obtain ⟨φ, env, st, R, S, F, q⟩ := h
  refine ⟨φ, env, st, R, S, F, (PostS.split R S q).mono ?_⟩
  rintro x Ha ⟨φ1, st1, dx, E1, R1, S1, rx, q1⟩
  exact q1 φ1 Ha x Ext.refl R1 rx
theorem m_one {s : Stmt} {gs : GS} (h : PS X s (lMS X.K CT W u gs)) : PSs X [s] (lMS X.K CT W u gs) := pss_one h
theorem m_try {nt : Str → List Str} {body : List Stmt} {h₀ : ExceptHandler} {hds : List ExceptHandler} {dl : List DCl} {gb : GS} (hs : X.stack = X.env :: X.outer) (hf : X.env.frame = some X.env.locals) (hN : X.N.Nodup) (tk : Takes X W)
    (hb : ∀ (W' : WX) (pn : List (Addr × Obj)) (xe : Value → Shared → Prop), Takes (X.tr pn xe) W' → PSs (X.tr pn xe) body (lMS X.K CT W' u gb)) (hh : DH X CT nt (h₀ :: hds) dl) :
    PS X (.Try body (h₀ :: hds) [] [] pos) (lMS X.K CT W u (sTry nt gb dl)) := by
  obtain ⟨l, hl, ho⟩ := hh
  refine (ps_tryX (tb := fun W' => lMS X.K CT W' u gb) (Wout := W) hs hf hN tk (fun W' pn xe t _ => hb W' pn xe t) hl).imp fun D σ H h => ?_
  obtain ⟨φ, env, st, R, S, F, q⟩ := h
  refine ⟨φ, env, st, R, S, F, ?_⟩
  unfold sTry at q
  cases hg : gb env st with
  | none => rw [hg] at q; exact q.elim
  | some o =>
    rw [hg] at q
    obtain ⟨fl, s1⟩ := o
    cases fl with
    | nx e1 => exact q
    | bk e1 => exact q
    | ct e1 => exact q
    | rt d1 => exact q
    | xc c fs e1 =>
      intro φ2 Hb σ2 cv dd E2 R2 S2 ⟨C, names, d, vs, hct, ecv, edd, hd, rr⟩
      subst ecv edd
      exact ho D W c C names fs φ2 Hb σ2 e1 s1 vs d hct hd rr R2 S2 (PostS.ext E2 q)
end
end MP
set_option Elab.async false
set_option linter.all false
set_option autoImplicit false
set_option maxRecDepth 100000
set_option maxHeartbeats 2000000
/-! Mp20: x(lambda: e), of a def with one parameter that it calls. -/
namespace MP
open PySem PySem.Spec PyProof.Rows L2
abbrev Thk := Store → Option (Out D)
section
variable {P : Program} {w : World} {K : PySem.W.Frag} {mg : Str → Option Value} {base : Heap} {CT : CTab}
/-- the body of such a def, whatever it got -/
def LamBody (P : Program) (w : World) (K : PySem.W.Frag) (mg : Str → Option Value) (base : Heap) (k : Nat) (x a : Str) (N : List Str) (body : List Stmt) (scope : Scope) (CT : CTab) (gs : Thk → GS) : Prop :=
  ∀ (g : Addr) (cdv : Value) (A : Around) (outer : List PySem.Env) (s : Shared) (H : Hp) (E : XK) (u : Lm), Room k (A.deeper (envOfC x scope s.heap.objs.size g cdv)) → A.guards = some [] →
    (∀ (W : WX) (pn : List (Addr × Obj)) (xe : Value → Shared → Prop) (p1 p2 : Pos), Takes ((cxOf (L2.CX P w) P w K mg base N x scope g cdv A outer s H E).tr pn xe) W →
      PE ((cxOf (L2.CX P w) P w K mg base N x scope g cdv A outer s H E).tr pn xe) (.Call (.Name a p1) [] [] p2) (fun σZ HZ Q => σZ[0]? = some (some (.ref u.f)) ∧ HZ u.c = some (LamX.CodeO u.c u.q) ∧ lE K CT (fun c d _ H => W c d σZ H) u.g u.so HZ Q)) →
    PSs (cxOf (L2.CX P w) P w K mg base N x scope g cdv A outer s H E) body (lMS K CT (fun c d _ H => E c d H) u (gs (u.g u.eo)))
structure LamDef (P : Program) (w : World) (K : PySem.W.Frag) (mg : Str → Option Value) (base : Heap) (k : Nat) (x : Str) (n : Nat) (CT : CTab) (gs : Thk → GS) : Prop where
  ex : ∃ (params : Arguments) (body : List Stmt) (scope : Scope) (N : List Str) (a : Str) (fd : FuncData), N.length = n ∧ FunD K x x params body scope [] [] (He.ga K x) fd ∧ FnScope N [a] scope ∧ Binds K fd [a] [] ∧ N[0]? = some a ∧ Vis scope a ∧
    (a == ("__debug__" : Str)) = false ∧ (a == ("__classdict__" : Str)) = false ∧ LamBody P w K mg base k x a N body scope CT gs
  kp : PySem.W.keepIn K (.ref (He.ga K x)) = true
  gm : mg x = some (.ref (He.ga K x))
theorem lamdef_mk {x a : Str} {params : Arguments} {body : List Stmt} {scope : Scope} {N : List Str} {k : Nat} {gs : Thk → GS} (F : ∃ fd, FunD K x x params body scope [] [] (He.ga K x) fd) (gm : mg x = some (.ref (He.ga K x))) (S : FnScope N [a] scope)
    (bind : ∀ (kV doc pm : Value) (an : Option Addr) (cdv ct : Value) (us : List Value), us.length = [a].length → bindArgs (PySem.W.fnOf x x params body scope .none kV doc pm an cdv ct) ⟨us, []⟩ = pure ([a].zip us))
    (h0 : N[0]? = some a) (hv : Vis scope a) (hb : LamBody P w K mg base k x a N body scope CT gs) (hd : (a == ("__debug__" : Str)) = false := by decide) (hcd : (a == ("__classdict__" : Str)) = false := by decide) : LamDef P w K mg base k x N.length CT gs := by
  obtain ⟨fd, F⟩ := F
  exact ⟨⟨params, body, scope, N, a, fd, rfl, F, S, F.bindsN bind, h0, hv, hd, hcd, hb⟩, F.kp, gm⟩
theorem LamDef.mono {j k n : Nat} {x : Str} {gs : Thk → GS} (D : LamDef P w K mg base j x n CT gs) (h : j ≤ k) : LamDef P w K mg base k x n CT gs := by
  obtain ⟨⟨params, body, scope, N, a, fd, h1, h2, h3, h4, h5, h6, h7, h8, h9⟩, kp, gm⟩ := D
  exact ⟨⟨params, body, scope, N, a, fd, h1, h2, h3, h4, h5, h6, h7, h8, fun g cdv A outer s H E u r => h9 g cdv A outer s H E u (r.mono h)⟩, kp, gm⟩
end
theorem empty_rel {K : PySem.W.Frag} {φ : Phi} {H : Hp} {N : List Str} {a : Str} {v : V} (h0 : N[0]? = some a) : RelS K φ H (L2.start N [v]) (([] : List D).map some ++ List.replicate (N.length - ([] : List D).length) none) := by
  have pos := (List.getElem?_eq_some_iff.mp h0).1
  refine ⟨by unfold L2.start; simp; omega, fun i d h => ?_⟩
  have := List.mem_of_getElem? h
  simp at this
/-- x(lambda: e) -/
def gLamC (n : Nat) (gs : Thk → GS) (gb : G) : G := fun env st => gBody n (gs (gb env)) [] st
section
variable {X : Cx} {CT : CTab} {W : WX}
theorem d_lam {x : Str} {n m : Nat} {gs : Thk → GS} {gb : G} {ar : Arguments} {e : Expr} {sc : Scope} {c P : Addr} {p lpos pos : Pos} (d : Option (Str × Int)) (Dl : LamDef X.prog X.w X.K X.mg X.base (m + 1) x n CT gs) (hr : Room (m + 2) X.A) (gd : X.A.guards = some []) (tk : Takes X W)
    (TB : LamX.TabB X.base X.mg c P) (hcode : X.env.code = .ref c) (mem : (P, X.env.qual ++ "<lambda>") ∈ tabsK X.K) (one : ∀ p ∈ tabsK X.K, p.1 = P → p.2 = X.env.qual ++ "<lambda>") (L : LamOk X.N X.env.scope sc d) (dk : DflKind ar X.env (d.map (·.2))) (hb : LamBind ar d)
    (hbody : ∀ (A : Around) (outer : List PySem.Env) (s : Shared) (H : Hp) (E : XK) (f c' : Addr), Room m (A.deeper (LamX.lamEnv X sc s.heap.objs.size f c')) → A.guards = some [] → PE (LamX.lamCx X A outer s H E sc f c') e (lE X.K CT (fun c d _ H => E c d H) gb))
    (hg : Gl X x := by rfl) (hdb : (x == ("__debug__" : Str)) = false := by decide) : DE CT W X (.Call (.Name x p) [.Lambda ar e sc lpos] [] pos) (gLamC n gs gb) := by
  obtain ⟨⟨params, body, scope, N, a, fd, rfl, F, FS, bind, h0, hv, hd, hcd, hB⟩, kp, gm⟩ := Dl
  obtain ⟨oc, od, dV0, kV, doc, pm, an, cdv, ct, osl, rfl, lk, hcg, _, _⟩ := F.ex
  refine ⟨fun pins s σ H Q I h => ?_⟩
  obtain ⟨φ, env, st, R, Sl, q⟩ := h
  have hfree : ∀ y ∈ sc.names, y.2 = .free → ∃ c, X.env.cells.lookup y.1 = some c := fun y hy z => (L.free y hy z).elim (fun w => I.ok.has _ (.inl w)) fun w => I.ok.has _ (.inr w)
  refine wpAny_Call_Name_kw (ld_glob I hg gm ?_ hdb)
  refine PySem.W.callWith_K (h₀ := X.base) I.ok.mod.kin kp ?_ (by rfl) (by rfl)
  show wpAny _ _ (spliced ((false, eval (.Lambda ar e sc lpos) X.env) :: backTo pos (starEach [] X.env))) _ _ s
  refine Calls.spliced_cons (lam_make I R.tab TB hcode mem one hfree dk (fun _ _ z => z) fun f c' H1 s2 s' dV St DF => ?_)
  refine Calls.spliced_nil ⟨St.inv.kIn, ?_⟩
  have R1 := St.won.rel R
  have S1 := Sl.ext R St.won.ext
  have bound := bind s' [.ref f] St.inv.kIn rfl
  rw [List.append_nil] at bound
  have ran : codeAny (model X.prog X.w) X.A (.call (.ref (He.ga X.K x)) ⟨[.ref f], []⟩) (CR (L2.CX X.prog X.w) X.stack X.prog X.w H1 s' Q (WE W σ)) s' := by
    refine LamX.run_ofS (CX := L2.CX X.prog X.w) (us := [.ref f]) (vs := [.ref f]) lk hcg FS hr St.inv.env0 bound (.cons rfl .nil) rfl fun hr1 => ?_
    refine ⟨_, hB (He.ga X.K x) cdv X.A X.stack s' H1 (WE W σ) ⟨f, c', X.env.qual ++ "<lambda>", σ, env, gb⟩ hr1 gd (fun W2 pn xe p1 p2 tk2 => lam_act St DF L hb gd tk2 hr1 (fun A outer s H E r g => hbody A outer s H E f c' r g) h0 hv hd hcd), ?_⟩
    refine ⟨φ, _, st, R1, empty_rel h0, ⟨rfl, St.code, S1⟩, ?_⟩
    have q1 := Post.ext (St.won.ext (φ := φ)) q
    unfold gLamC gBody at q1
    cases hs : gs (gb env) (([] : List D).map some ++ List.replicate (N.length - ([] : List D).length) none) st with
    | none => rw [hs] at q1; exact q1.elim
    | some o =>
      obtain ⟨fl, st'⟩ := o
      rw [hs] at q1
      cases fl with
      | nx e1 => exact fun φ2 H2 σ2 E2 R2 S2 => q1 φ2 H2 .non E2 R2 (show Rep X.K φ2 H2 .non .non from rfl)
      | bk e1 => exact q1.elim
      | ct e1 => exact q1.elim
      | rt dd => exact q1
      | xc cc fs e1 => exact fun φ2 H2 σ2 cv dd E2 R2 S2 p2 => q1 φ2 H2 cv dd E2 R2 p2
  refine wpAny_call (codeAny_mono ran fun r s3 hq => ?_)
  match r, hq with
  | .error e', hq => exact passAt tk σ pins H1 s' e' s3 St.inv hq
  | .ok (.ret v), hq => exact St.inv.after hq
  | .ok .next, hq => exact hq.elim
  | .ok .brk, hq => exact hq.elim
  | .ok .cont, hq => exact hq.elim
end
end MP
set_option Elab.async false
set_option linter.all false
set_option autoImplicit false
set_option maxRecDepth 100000
set_option maxHeartbeats 2000000
/-! Mp21: tables in what the head tells; a def that makes lambdas; the end of a law. -/
namespace MP
open PySem PySem.Spec PyProof.Rows L2
/-- the code objects of the defs, with their tables -/
def defCode (K : PySem.W.Frag) (o : Obj) : Option (Addr × Addr) := match o.data with
  | .func fd => (match fd.code with
    | .ref c => (codeTab K c).map fun P => (c, P)
    | _ => none)
  | _ => none
def codesK (K : PySem.W.Frag) : List (Addr × Addr) := K.filterMap fun p => defCode K p.2
theorem tab_code {K : PySem.W.Frag} {p : Addr × Str} (h : p ∈ tabsK K) : ∃ c, (c, p.1) ∈ codesK K := by
  unfold tabsK at h
  obtain ⟨r, hr, e⟩ := List.mem_filterMap.mp h
  unfold defTab at e
  split at e
  · rename_i fd hd
    split at e
    · rename_i c hc
      obtain ⟨P, hP, e2⟩ := Option.map_eq_some_iff.mp e
      subst e2
      refine ⟨c, List.mem_filterMap.mpr ⟨r, hr, ?_⟩⟩
      unfold defCode
      rw [hd]
      dsimp only
      rw [hc]
      dsimp only
      rw [hP]; rfl
    · cases e
  · cases e
def tabOkB (g : Addr → Option Obj) (K : PySem.W.Frag) : Bool := ((codesK K).all fun p => PySem.W.codeHdIn K p.1 p.2 && (match g p.2 with
    | some o => He.emptyTab o
    | none => false)) && ((tabsK K).all fun p => (tabsK K).all fun r => !decide (p.1 = r.1) || decide (p.2 = r.2))
/-- a def whose code object has a table -/
def lamB (K : PySem.W.Frag) (p : Str × Option Str) : Bool := match K.lookup (He.fAd K p) with
  | some ⟨_, _, .func fd, _⟩ => (match fd.code with
    | .ref c => (codeTab K c).isSome
    | _ => false)
  | _ => false
structure AskT where
  q : Ask
  lam : List (Str × Option Str)
def AskT.obs (a : AskT) (g : Addr → Option Obj) (K : PySem.W.Frag) : He.AlD := (a.q.ok K && (a.lam.all (lamB K) && tabOkB g K), a.q.fn.map fun d => He.fnW K d.at_)
def AskT.obsG (a : AskT) (n : Nat) (g : Addr → Option Obj) : He.AlD := a.obs g (He.frT g (He.asD g n))
structure SaysT (a : AskT) (h : Heap) (K : PySem.W.Frag) : Prop where
  says : a.q.says K
  lam : ∀ p ∈ a.lam, lamB K p = true
  codes : ∀ p ∈ codesK K, PySem.W.codeHdIn K p.1 p.2 = true
  empty : ∀ p ∈ codesK K, h.get? p.2 = some { cls := .none, data := .fields #[] }
  out : ∀ p ∈ codesK K, K.lookup p.2 = none
  one : ∀ p ∈ tabsK K, ∀ r ∈ tabsK K, p.1 = r.1 → p.2 = r.2
theorem saysT_of {a : AskT} {n : Nat} {h : Heap} (e : a.obsG n h.get? = He.valD a.q.fn) : SaysT a h (He.frT h.get? (He.asD h.get? n)) := by
  have e1 : (a.q.ok (He.frT h.get? (He.asD h.get? n)) && (a.lam.all (lamB (He.frT h.get? (He.asD h.get? n))) && tabOkB h.get? (He.frT h.get? (He.asD h.get? n)))) = true := congrArg (fun z : He.AlD => z.1) e
  have e2 : a.q.fn.map (fun d => He.fnW (He.frT h.get? (He.asD h.get? n)) d.at_) = a.q.fn.map He.DefD.val := congrArg (fun z : He.AlD => z.2) e
  obtain ⟨k1, k⟩ := Bool.and_eq_true_iff.mp e1
  obtain ⟨k2, k3⟩ := Bool.and_eq_true_iff.mp k
  obtain ⟨k4, k5⟩ := Bool.and_eq_true_iff.mp k3
  have tabs : ∀ p ∈ codesK (He.frT h.get? (He.asD h.get? n)), PySem.W.codeHdIn (He.frT h.get? (He.asD h.get? n)) p.1 p.2 = true ∧ ∃ o, h.get? p.2 = some o ∧ He.emptyTab o = true := fun p hp => by
    obtain ⟨m1, m2⟩ := Bool.and_eq_true_iff.mp (List.all_eq_true.mp k4 p hp)
    refine ⟨m1, ?_⟩
    cases z : h.get? p.2 with
    | none => rw [z] at m2; cases m2
    | some o => rw [z] at m2; exact ⟨o, rfl, m2⟩
  refine ⟨?_, fun p hp => List.all_eq_true.mp k2 p hp, fun p hp => (tabs p hp).1, fun p hp => ?_, fun p hp => ?_, fun p hp r hr z => ?_⟩
  · show (a.q.ok _, a.q.fn.map _) = (true, a.q.fn.map He.DefD.val)
    rw [k1, e2]
  · obtain ⟨_, o, z, t⟩ := tabs p hp
    rw [z, He.emptyTab_eq t]
  · obtain ⟨_, o, z, t⟩ := tabs p hp
    exact He.frT_none z t
  · have m := List.all_eq_true.mp (List.all_eq_true.mp k5 p hp) r hr
    rw [decide_eq_true z] at m
    exact of_decide_eq_true (by simpa using m)
def AskT.hook (a : AskT) (n : Nat) : PySem.W.Hook where
  α := He.AlD
  obs := fun s => a.obsG n s.heap.get?
  val := fun _ => He.valD a.q.fn
  says := fun _ h => ∃ K : PySem.W.Frag, K.In h ∧ SaysT a h K
  of := fun _ _ e => ⟨_, He.frT_in, saysT_of e⟩
  keeps := fun _ _ _ ⟨K, hK, c⟩ k => ⟨K, PySem.W.Frag.In.keeps hK k, ⟨c.says, c.lam, c.codes, fun p hp => k _ _ (c.empty p hp), c.out, c.one⟩⟩
theorem AskT.obs_eq {a : AskT} {n : Nat} {g : Addr → Option Obj} {s : Shared} (h : ∀ b, g b = s.heap.get? b) : a.obsG n g = (a.hook n).obs s := by
  have e : g = s.heap.get? := funext h
  rw [e] <;> rfl
/-! ### a def that makes lambdas -/
/-- what holds of the tables over the base -/
structure Tabd (a : AskT) (K : PySem.W.Frag) (mg : Str → Option Value) (base : Heap) : Prop where
  kin : K.In base
  lam : ∀ p ∈ a.lam, lamB K p = true
  codes : ∀ p ∈ codesK K, PySem.W.codeHdIn K p.1 p.2 = true
  one : ∀ p ∈ tabsK K, ∀ r ∈ tabsK K, p.1 = r.1 → p.2 = r.2
  bm : ∀ p ∈ codesK K, base.BuiltinsAt mg p.2 ∧ mainGlobals ≠ p.2
/-- the def at f makes lambdas: its code object, its table -/
structure Makes (K : PySem.W.Frag) (mg : Str → Option Value) (base : Heap) (qual : Str) (cdv : Value) (c P : Addr) : Prop where
  cd : cdv = .ref c
  tb : LamX.TabB base mg c P
  mem : (P, qual ++ ".<locals>." ++ "<lambda>") ∈ tabsK K
  one : ∀ p ∈ tabsK K, p.1 = P → p.2 = qual ++ ".<locals>." ++ "<lambda>"
theorem Tabd.makes {a : AskT} {K : PySem.W.Frag} {mg : Str → Option Value} {base : Heap} (T : Tabd a K mg base) {p : Str × Option Str} (hp : p ∈ a.lam) {oc : Value} {od : Option Addr} {osl : Array (Option Value)} {fd : FuncData} (lk : K.lookup (He.fAd K p) = some ⟨oc, od, .func fd, osl⟩) :
    ∃ c P, Makes K mg base fd.qualname fd.code c P := by
  have h := T.lam p hp
  unfold lamB at h
  rw [lk] at h
  dsimp only at h
  cases hc : fd.code with
  | ref c =>
    rw [hc] at h
    dsimp only at h
    obtain ⟨P, hP⟩ := Option.isSome_iff_exists.mp h
    have inK := He.lookup_mem lk
    have mem1 : (c, P) ∈ codesK K := List.mem_filterMap.mpr ⟨_, inK, by unfold defCode; dsimp only; rw [hc]; dsimp only; rw [hP]; rfl⟩
    have mem2 : (P, fd.qualname ++ ".<locals>." ++ "<lambda>") ∈ tabsK K := List.mem_filterMap.mpr ⟨_, inK, by unfold defTab; dsimp only; rw [hc]; dsimp only; rw [hP]; rfl⟩
    obtain ⟨b1, b2⟩ := T.bm _ mem1
    exact ⟨c, P, rfl, ⟨PySem.W.codeHd_of_K T.kin (T.codes _ mem1), b1, b2⟩, mem2, fun p hp z => T.one p hp _ mem2 z⟩
  | _ => rw [hc] at h; cases h
theorem def_mkL {P : Program} {w : World} {K : PySem.W.Frag} {mg : Str → Option Value} {base : Heap} {CT : CTab} {x : Str} {params : Arguments} {body : List Stmt} {scope : Scope} {N ps : List Str} {k : Nat} {gs : GS} {a : AskT} (T : Tabd a K mg base) (hp : (x, none) ∈ a.lam)
    (F : ∃ fd, FunD K x x params body scope [] [] (He.fAd K (x, none)) fd) (gm : mg x = some (.ref (He.ga K x))) (S : FnScope N ps scope)
    (bind : ∀ (kV doc pm : Value) (an : Option Addr) (cdv ct : Value) (us : List Value), us.length = ps.length → bindArgs (PySem.W.fnOf x x params body scope .none kV doc pm an cdv ct) ⟨us, []⟩ = pure (ps.zip us))
    (hb : ∀ (f : Addr) (cdv : Value) (A : Around) (outer : List PySem.Env) (s : Shared) (H : Hp) (E : XK) (c P0 : Addr), Makes K mg base x cdv c P0 → Room k (A.deeper (envOfC x scope s.heap.objs.size f cdv)) → A.guards = some [] →
      PSs (cxOf (L2.CX P w) P w K mg base N x scope f cdv A outer s H E) body (lS K CT (fun c d _ H => E c d H) gs)) :
    Def P w K mg base (k + 1) x ps.length CT (gBody N.length gs) := by
  obtain ⟨fd, F⟩ := F
  have F' : FunD K x x params body scope [] [] (He.ga K x) fd := F
  refine ⟨⟨fd, ps, rfl, ?_, F'.bindsN bind⟩, F'.kp, gm⟩
  obtain ⟨oc, od, dV, kV, doc, pm, an, cdv, ct, osl, rfl, lk, hcd, _, _⟩ := F'.ex
  obtain ⟨c, P0, M⟩ := T.makes hp lk
  refine fn_g lk hcd S (fun vs H Q E h => ?_) (fun A outer s H vs Q E hr gd h => ⟨_, hb _ cdv A outer s H E c P0 M hr gd, body_read h⟩)
  obtain ⟨φ, ds, st', hl, R, r, q⟩ := h
  rw [← hl, r.length]
end MP
set_option Elab.async false
set_option linter.all false
set_option autoImplicit false
set_option maxRecDepth 100000
set_option maxHeartbeats 2000000
/-! Mp22: the end of a law, with the tables tracked. -/
namespace MP
open PySem PySem.Spec PyProof.Rows L2
abbrev tab0 : Obj := { cls := .none, data := .fields #[] }
/-- what is tracked at the start: the tables, the script unless it is the module's own -/
def trk (cs : List Addr) (a : Addr) (o : Option HO) : Hp := fun b => if b ∈ cs then some (.tbl #[]) else if b = a then o else none
theorem trk_tab {cs : List Addr} {a b : Addr} {o : Option HO} (h : b ∈ cs) : trk cs a o b = some (.tbl #[]) := if_pos h
theorem trk_at {cs : List Addr} {a : Addr} {o : Option HO} (h : a ∉ cs) : trk cs a o a = o := (if_neg h).trans (if_pos rfl)
theorem trk_off {cs : List Addr} {a b : Addr} {o : Option HO} (h : b ∉ cs) (n : b ≠ a) : trk cs a o b = none := (if_neg h).trans (if_neg n)
theorem run_lawT {P : Program} {w : World} {K : PySem.W.Frag} {mg : Str → Option Value} {CT : CTab} {k : Nat} {fa a : Addr} {x : Str} {gf : GF} {s₁ : Shared} {ns : List Int} {base : Heap} {H : Hp} {cs : List Addr} (hr : Room k callerA) (F : Def P w K mg base k x 1 CT gf) (hfa : mg x = some (.ref fa)) (KX : K.In s₁.heap)
    (hlaw : ∃ st', gf [.rol (ns.map .int)] [] = some (.ok (.bl true) st')) (e0 : Env0 P w K mg base callerA [] s₁ H) (hok : HOk P w H s₁.heap) (tabs : TabsH K H) (only : ∀ b, H b = none ∨ b ∈ cs ∨ ∃ o xs, H b = some (.frz o (.lst xs)))
    (emp : ∀ b ∈ cs, H b = some (.tbl #[]) ∧ s₁.heap.get? b = some tab0 ∧ isCodeTable s₁.heap b) (script : RoL K H a (ns.map V.int)) :
    codeAny (model P w) callerA (.call (.ref fa) ⟨[.ref a], []⟩) (fun r s' => r = .ok (.ret (.bool true)) ∧ OldK s₁.heap s'.heap ∧ s'.os = s₁.os ∧ AllBare s'.gens) s₁ := by
  have promise : spG K CT 1 gf [.ref a] H (fun v _ => v = .bl true) (fun _ _ _ => False) := by
    obtain ⟨st', e⟩ := hlaw
    refine ⟨[], [.rol (ns.map .int)], [], rfl, RelH.nil tabs, RepAll.cons ?_ RepAll.nil, ?_⟩
    · unfold Rep
      exact ⟨a, ns.map V.int, rfl, script, rep_ints ns⟩
    · rw [e]; exact fun _ _ v _ _ r => r
  obtain ⟨⟨fd, ps, one, G, B⟩, _, at_⟩ := F
  obtain rfl : He.ga K x = fa := by rw [at_] at hfa; cases hfa; rfl
  have bound := B s₁ [.ref a] KX (by rw [one]; rfl)
  rw [List.append_nil] at bound
  have ran := G.run callerA [] s₁ H ⟨[.ref a], []⟩ [.ref a] [.ref a] _ _ hr rfl e0 bound (.cons rfl .nil) promise
  refine codeAny_mono ran ?_
  rintro (e | fl) s' z
  · obtain ⟨_, _, _, _, _, _, _, _, _, _, _, _, no⟩ := z
    exact no.elim
  · cases fl
    case ret u =>
      obtain ⟨v, H', os, bare, un, hok', rel, rfl⟩ := z
      obtain rfl : u = Value.bool true := rel
      have plain : ∀ b o, b ∉ cs → s₁.heap.get? b = some o → s'.heap.get? b = some o := fun b o nb here => by
        rcases only b with free | inT | ⟨ob, xs, fr⟩
        · exact un.keep b o here free (fun m => by cases m) (by simp)
        · exact absurd inT nb
        · have there := (hok' b _ (un.frzs b ob _ fr)).1
          have now := (hok b _ fr).1
          rw [here] at now
          cases now
          exact there
      have grown : ∀ b ∈ cs, ∃ more : Array Value, s'.heap.get? b = some { cls := .none, data := .fields (#[] ++ more) } := fun b hb => by
        obtain ⟨more, z⟩ := un.tbls b #[] (emp b hb).1
        exact ⟨more, hok' b _ z⟩
      refine ⟨rfl, ⟨fun b o here => ?_, fun b o here => ?_⟩, os, bare⟩
      · by_cases hb : b ∈ cs
        · obtain ⟨_, at0, isT⟩ := emp b hb
          obtain ⟨more, hm⟩ := grown b hb
          rw [at0] at here
          cases here
          exact .inr (.inl ⟨isT, rfl, #[], more, rfl, hm⟩)
        · exact .inl (plain b o hb here)
      · by_cases hb : b ∈ cs
        · obtain ⟨more, hm⟩ := grown b hb
          exact ⟨_, hm⟩
        · exact ⟨o, plain b o hb here⟩
    all_goals exact False.elim z
theorem law_callT {P : Program} {w : World} {K : PySem.W.Frag} {mg mb : Str → Option Value} {CT : CTab} {k : Nat} {fa a : Addr} {x : Str} {gf : GF} {s₁ : Shared} {vs : List Value} {ns : List Int} {q : AskT}
    (KX : K.In s₁.heap) (T : SaysT q s₁.heap K) (hns : s₁.heap.Ns mainGlobals mg) (hb : s₁.heap.Ns builtinsNs mb) (hbb : ∀ x : Str, x ≠ "__name__" → mb x = bootBuiltins x) (hlim : s₁.heap.NoLimit) (hg : s₁.gens = #[])
    (hbm : ∃ (bm : Addr) (ob : Obj), mg "__builtins__" = some (.ref bm) ∧ bm ≠ builtinsNs ∧ s₁.heap.get? bm = some ob ∧ ob.cls = .type "module" ∧ ob.dict = some builtinsNs ∧ ob.data = .plain)
    (ha : s₁.heap.get? a = some { cls := .type "list", data := .seq vs.toArray }) (hi : IntsAre vs ns) (hl : ns.length ≤ sizeLine) (hr : Room k callerA)
    (F : ∀ base : Heap, Tabd q K mg base → base.Ns mainGlobals mg → Def P w K mg base k x 1 CT gf) (hfa : mg x = some (.ref fa))
    (hlaw : ∃ st', gf [.rol (ns.map .int)] [] = some (.ok (.bl true) st')) :
    codeAny (model P w) callerA (.call (.ref fa) ⟨[.ref a], []⟩) (fun r s' => r = .ok (.ret (.bool true)) ∧ OldK s₁.heap s'.heap ∧ s'.os = s₁.os ∧ AllBare s'.gens) s₁ := by
  have rel := vals_ints hi
  have isTab : ∀ b ∈ (codesK K).map (·.2), s₁.heap.get? b = some tab0 ∧ K.lookup b = none ∧ isCodeTable s₁.heap b := fun b hb => by
    obtain ⟨p, hp, rfl⟩ := List.mem_map.mp hb
    exact ⟨T.empty p hp, T.out p hp, ((PySem.W.codeHd_of_K KX (T.codes p hp)).tab (T.empty p hp)).isCodeTable⟩
  have notTab : a ∉ (codesK K).map (·.2) := fun z => by
    have h := (isTab a z).1
    rw [ha] at h
    cases h
  -- what is neither a list nor empty fields is not tracked
  have seen : ∀ (o : Option HO) {b : Addr} {u : Obj}, s₁.heap.get? b = some u → (∀ l n, u.data ≠ .seq l n) → u.data ≠ .fields #[] → trk ((codesK K).map (·.2)) a o b = none := fun o b u e n1 n2 => by
    refine trk_off (fun z => ?_) fun z => ?_
    · have h := (isTab b z).1
      rw [e] at h
      cases h
      exact n2 rfl
    · rw [z, ha] at e
      cases e
      exact n1 _ _ rfl
  have go : ∀ (o : Option HO), (∀ u, o = some u → ∃ ob xs, u = .frz ob (.lst xs)) → (o = none ∨ K.lookup a = none) → HOk P w (trk ((codesK K).map (·.2)) a o) s₁.heap → RoL K (trk ((codesK K).map (·.2)) a o) a (ns.map V.int) →
      codeAny (model P w) callerA (.call (.ref fa) ⟨[.ref a], []⟩) (fun r s' => r = .ok (.ret (.bool true)) ∧ OldK s₁.heap s'.heap ∧ s'.os = s₁.os ∧ AllBare s'.gens) s₁ := by
    intro o frz own hok script
    have atB : ∀ {b : Addr} {u : Obj}, s₁.heap.get? b = some u → trk ((codesK K).map (·.2)) a o b = none → (hidT s₁.heap (trk ((codesK K).map (·.2)) a o)).get? b = some u := fun e n => hidT_get e n
    have nsB : ∀ {b : Addr} {m : Str → Option Value}, s₁.heap.Ns b m → (hidT s₁.heap (trk ((codesK K).map (·.2)) a o)).Ns b m := by
      rintro b m ⟨u, es, ep, e, d, r⟩
      refine ⟨u, es, ep, atB e (seen o e (fun l n z => ?_) fun z => ?_), d, r⟩
      · rw [d] at z; cases z
      · rw [d] at z; cases z
    have kin : K.In (hidT s₁.heap (trk ((codesK K).map (·.2)) a o)) := fun b u e => by
      have nb : b ∉ (codesK K).map (·.2) := fun z => by rw [(isTab b z).2.1] at e; cases e
      by_cases z : b = a
      · subst z
        rcases own with w1 | w1
        · exact atB (KX b u e) (by rw [trk_at nb]; exact w1)
        · rw [w1] at e; cases e
      · exact atB (KX b u e) (trk_off nb z)
    have bmB : ∀ p ∈ codesK K, (hidT s₁.heap (trk ((codesK K).map (·.2)) a o)).BuiltinsAt mg p.2 ∧ mainGlobals ≠ p.2 := fun p hp => by
      have t := T.empty p hp
      obtain ⟨gu, es, ep, ge, gd, _⟩ := hns
      have nG : mainGlobals ≠ p.2 := fun z => by
        rw [z, t] at ge
        cases ge
        cases gd
      obtain ⟨bm, ob, b1, b2, b3, b4, b5, b6⟩ := hbm
      refine ⟨⟨bm, ob, b1, b2, fun z => ?_, fun z => ?_, atB b3 (seen o b3 (fun l n z => ?_) fun z => ?_), b4, b5, b6⟩, nG⟩
      · rw [z, ge] at b3
        cases b3
        rw [gd] at b6; cases b6
      · rw [z, t] at b3
        cases b3
        cases b6
      · rw [b6] at z; cases z
      · rw [b6] at z; cases z
    obtain ⟨ml, l1, l2⟩ := hlim
    refine run_lawT (cs := (codesK K).map (·.2)) hr (F _ ⟨kin, T.lam, T.codes, T.one, bmB⟩ (nsB hns)) hfa KX hlaw ⟨rfl, ⟨kin, nsB hns, ⟨mb, nsB hb, hbb⟩, ⟨ml, nsB l1, l2⟩⟩, fun b u e => of_hidT e, Nat.le_of_eq (hidT_size _ _), trivial, fun b m => (by cases m), hok, .of_eq hg⟩ hok (fun p hp => ?_) (fun b => ?_)
      (fun b hb => ⟨trk_tab hb, (isTab b hb).1, (isTab b hb).2.2⟩) script
    · obtain ⟨c, hc⟩ := tab_code hp
      exact LamX.TabS.nil (trk_tab (List.mem_map.mpr ⟨_, hc, rfl⟩))
    · by_cases h1 : b ∈ (codesK K).map (·.2)
      · exact .inr (.inl h1)
      · by_cases h2 : b = a
        · subst h2
          rw [trk_at h1]
          cases o with
          | none => exact .inl rfl
          | some u =>
            obtain ⟨ob, xs, rfl⟩ := frz u rfl
            exact .inr (.inr ⟨ob, xs, rfl⟩)
        · exact .inl (trk_off h1 h2)
  have okAt : ∀ o : Option HO, (∀ u, o = some u → ∀ H : Hp, ObjOk P w H s₁.heap a u) → HOk P w (trk ((codesK K).map (·.2)) a o) s₁.heap := fun o ho b u z => by
    by_cases h1 : b ∈ (codesK K).map (·.2)
    · rw [trk_tab h1] at z
      cases z
      exact (isTab b h1).1
    · by_cases h2 : b = a
      · subst h2
        rw [trk_at h1] at z
        subst z
        exact ho u rfl _
      · rw [trk_off h1 h2] at z; cases z
  cases hk : K.lookup a with
  | some o =>
    obtain rfl : o = { cls := .type "list", data := .seq vs.toArray } := Option.some.inj ((KX a o hk).symm.trans ha)
    refine go none (fun u z => by cases z) (.inl rfl) (okAt none fun u z => by cases z) (.inr ⟨_, vs.toArray, _, hk, rfl, rfl, rfl, by rw [List.size_toArray, hi.length]; exact hl, rel⟩)
  | none =>
    have fit : (ns.map V.int).length ≤ sizeLine := by rw [List.length_map]; exact hl
    refine go (some (.frz { cls := .type "list", data := .seq vs.toArray } (.lst (ns.map V.int)))) (fun u z => ⟨_, _, (Option.some.inj z).symm⟩) (.inr hk) (okAt _ fun u z H => ?_) (.inl ⟨_, trk_at notTab⟩)
    cases z
    exact ⟨ha, fit, vs, _, rel, ha⟩
theorem walk_T {l : PySem.W.OpenLaw} {n k : Nat} {q : Program} {loose : List Str} {XP : (Str → Option Value) → Heap → Prop} {YP : World → Heap → Prop} {d : DefRec} {x : Str} {gf : GF} {ak : AskT}
    (hn : l.most = some n) (hn2 : n ≤ sizeLine) (hdf : d.params.defaults = []) (hr : Room k callerA)
    (F : ∀ (w : World) (mg : Str → Option Value) (fa : Addr) (h : Heap), YP w h → h.Ns mainGlobals mg → mg d.name = some (.ref fa) →
      ∃ (K : PySem.W.Frag) (CT : CTab), K.In h ∧ SaysT ak h K ∧ mg x = some (.ref fa) ∧ ∀ base : Heap, Tabd ak K mg base → base.Ns mainGlobals mg → Def l.prog w K mg base k x 1 CT gf)
    (hlaw : ∀ ns : List Int, ns.length ≤ n → ∃ st', gf [.rol (ns.map .int)] [] = some (.ok (.bl true) st')) :
    PySem.W.WalkO q loose XP YP l.row.toRowW d [] (fun f vs => PySem.call f vs) := by
  refine Att.attach_call hn hdf fun w s₀ s₁ mg mb fa o pm cd doc a vs ns G Y ho hd hcd hmg hobj hints hlen hg => ?_
  obtain ⟨K, CT, KX, S, hfa, hF⟩ := F w mg fa _ Y G.T.g hmg
  exact law_callT KX S G.T.g G.T.b G.T.builtins G.T.nolimit hg G.T.bmain hobj hints (Nat.le_trans hlen hn2) hr hF hfa (hlaw ns hlen)
end MP
set_option Elab.async false
set_option linter.all false
set_option autoImplicit false
set_option maxRecDepth 100000
set_option maxHeartbeats 2000000
/-! Mp23: l.index(x); the truth of lists and numbers. -/
namespace MP
open PySem PySem.Spec PyProof.Rows L2
section
variable {K : PySem.W.Frag} {X : Cx} {CT : CTab} {W : WX} {o e : Expr} {es : List Expr} {g : G} {gA : GA} {pos : Pos}
/-- the first place of an equal one -/
def placeOf (d : PyData) : List PyData → Nat → Option Nat
  | [], _ => none
  | z :: r, i => if PyData.eqv z d = true then some i else placeOf d r (i + 1)
theorem placeOf_ok {d : PyData} : ∀ {ds : List PyData} {i j : Nat}, placeOf d ds i = some j → i ≤ j ∧ ∃ z, ds[j - i]? = some z ∧ PyData.eqv z d = true ∧ ∀ (m : Nat) (z' : PyData), m < j - i → ds[m]? = some z' → PyData.eqv z' d = false
  | [], i, j, h => by cases h
  | z :: r, i, j, h => by
    unfold placeOf at h
    by_cases q : PyData.eqv z d = true
    · rw [if_pos q] at h
      cases h
      exact ⟨Nat.le_refl _, z, by rw [Nat.sub_self]; rfl, q, fun m z' hm _ => by omega⟩
    · rw [if_neg q] at h
      obtain ⟨h1, y, h2, h3, h4⟩ := placeOf_ok h
      have e : j - i = (j - (i + 1)) + 1 := by omega
      refine ⟨by omega, y, by rw [e, List.getElem?_cons_succ]; exact h2, h3, fun m z' hm hz => ?_⟩
      cases m with
      | zero =>
        rw [List.getElem?_cons_zero] at hz
        cases hz
        simpa using q
      | succ m =>
        rw [List.getElem?_cons_succ] at hz
        exact h4 m z' (by omega) hz
def fIndex : D → List D → Store → Option (Out D)
  | .ref n, [y], st => match pd st 16 (.ref n), pd st 16 y with
    | some (.list ds), some d => if SeqAt.shaped (.list ds) = true ∧ SeqAt.shaped d = true then (match placeOf d ds 0 with
      | some j => some (.ok (.int (j : Nat)) st)
      | none => none) else none
    | _, _ => none
  | _, _, _ => none
theorem md_index : MethD K (rIndexD K) fIndex := by
  intro CT W σ φ H st d v ds vs Q R rd rs q
  unfold fIndex at q
  split at q
  · rename_i st' n y
    split at q
    · rename_i zs dd h1 h2
      split at q
      · rename_i hs
        split at q
        · rename_i j hj
          obtain ⟨a, rfl, h3⟩ := repRef rd
          obtain ⟨w, rfl, r1⟩ := one_rep rs
          obtain ⟨_, z, k1, k2, k3⟩ := placeOf_ok hj
          rw [Nat.sub_zero] at k1 k3
          exact ⟨a, w, dd, zs, j, z, rfl, rfl, pd_ok R _ _ _ _ h1 rd, pd_ok R _ _ _ _ h2 r1, hs.1, hs.2, k1, k2, k3, Post.done R (show Rep K φ H (.int _) (.int _) from rfl) q⟩
        · exact q.elim
      · exact q.elim
    · exact q.elim
  · exact q.elim
theorem d_index {p apos : Pos} (hu : X.A.units + 65 < cLine) (ho : DE CT W X o g) (ha : DA CT W X (e :: es) gA) (hbase : attributeBase o "index" X.env (eval o X.env) = eval o X.env := by rfl)
    (hfew : ((backTo pos (starEach (e :: es) X.env)).all (fun x => !x.1) && (backToKw pos (keywordEach [] X.env)).all (fun x => x.1.isSome) && decide ((e :: es).length + ([] : List Keyword).length + (if ([] : List Keyword).isEmpty then 0 else 1) < 30)) = true := by rfl)
    (hline : (apos.endLine == pos.line) = true := by rfl) (hs : starEach (e :: es) X.env = (false, eval e X.env) :: starEach es X.env := by rfl) (hplain : (backTo pos (starEach es X.env)).any (·.1) = false := by rfl) :
    DE CT W X (.Call (.Attribute o "index" apos) (e :: es) [] pos) (gMethL fIndex g gA) := (pe_bm PySem.F.plainAttrs_list PySem.F.slot_list_index PySem.F.type_list_index (mt_indexD hu) ho ha hbase hfew hline hs hplain).imp fun _ _ _ h => lE_methL md_index h
/-- the truth of a list, a number, a truth value -/
def truD (st : Store) : D → Option Bool
  | .bl b => some b
  | .int i => some (i != 0)
  | .ref n => (cellL st n).map fun xs => !xs.isEmpty
  | .tup xs => some (!xs.isEmpty)
  | .non => some false
  | _ => none
def gTru (g : G) : GT := fun env st => rb (g env st) fun d st1 => match truD st1 d with
  | some b => some (.ok b st1)
  | none => none
theorem rep_empty {φ : Phi} {H : Hp} : ∀ {ds : List D} {vs : List V}, RepAll K φ H ds vs → ds.isEmpty = vs.isEmpty
  | [], vs, r => by unfold RepAll at r; rw [r]; rfl
  | d :: ds, vs, r => by
    unfold RepAll at r
    obtain ⟨v, l, rfl, _⟩ := r
    rfl
theorem t_tru (h : DE CT W X e g) (he : ∀ whole, isTrue e X.env whole = (do let v ← whole; standAt e.pos; holding [v] (truthy v)) := by intro _; rfl) : DT CT W X e (gTru g) := (pt_truth h he).imp fun σ H Q q => by
  obtain ⟨φ, env, st, R, S, q⟩ := q
  refine ⟨φ, env, st, R, S, (Post.split q).mono ?_⟩
  rintro x H1 ⟨φ1, st1, dx, E1, R1, rx, q1⟩
  split at q1
  · rename_i b hb
    refine ⟨b, ?_, Post.done R1 rfl q1⟩
    cases dx with
    | bl c => cases hb; rw [repBl rx]; exact rfl
    | int i => cases hb; rw [repInt rx]; exact rfl
    | non => cases hb; rw [repNon rx]; exact rfl
    | tup ds =>
      cases hb
      obtain ⟨a, vs, rfl, h1, h2⟩ := repTup rx
      exact .inr (.inl ⟨vs, h1, by rw [rep_empty h2]⟩)
    | ref n =>
      obtain ⟨xs, h1, h2⟩ := Option.map_eq_some_iff.mp hb
      obtain ⟨a, rfl, h3⟩ := repRef rx
      obtain ⟨vs, h4, h5⟩ := cellL_ok R1 h3 h1
      exact .inl ⟨vs, SqL.of h4, by rw [← h2, rep_empty h5]⟩
    | str x => cases hb
    | rol x => cases hb
  · exact q1.elim
end
end MP
set_option Elab.async false
set_option linter.all false
set_option autoImplicit false
set_option maxRecDepth 100000
set_option maxHeartbeats 2000000
/-! Mp24: what a lambda's frame lets out. -/
namespace MP
open PySem PySem.Spec PyProof.Rows L2
theorem takes_lam {X : Cx} {A : Around} {outer : List PySem.Env} {s : Shared} {H : Hp} {E : XK} {sc : Scope} {f c' : Addr} : Takes (LamX.lamCx X A outer s H E sc f c') (fun c d _ H => E c d H) := takes_of rfl rfl rfl rfl
end MP
set_option Elab.async false
set_option linter.all false
set_option autoImplicit false
set_option maxRecDepth 100000
set_option maxHeartbeats 2000000
/-! Mp25: enumerate over a tuple: the library's lemmas of what begins and what is drawn, put to the walks of the machine. -/
namespace MP
open PySem PySem.Spec PyProof.Rows L2 RZ
/-- the enumerate just made over the iterator at m -/
def enmO (m : Addr) : Obj := { cls := .type "enumerate", data := .fields #[.none, .bool false, .ref m, rawInt 0, .none, .none] }
def enmH (h : Heap) (o : Obj) : Heap := (h.push o).push (enmO h.objs.size)
theorem enm_made {v : Value} {o : Obj} {Z : Heap → Prop} (B : Begins v o Z) : Meets (Builtin.«enumerate.__new__» ⟨[.type "enumerate", v], []⟩)
    (fun _ R s => Z s.heap ∧ R (.ok (.ret (.ref (s.heap.push o).objs.size))) { s with heap := enmH s.heap o }) := by
  refine .of_wp fun P u Y R st both => ?_
  obtain ⟨h0, gs, dr, tk, os⟩ := st
  have subE := sub_enumerate
  have go : ∀ {Y' : Around} {F : Value → Shared → Prop} {T : Value → Shared → Prop}, T (.ref h0.objs.size) ⟨h0.push o, gs, dr, tk, os⟩ → wpAny (model P u) Y' (pyIter v) T F ⟨h0, gs, dr, tk, os⟩ := fun z => B.iter P u _ _ _ _ both.1 z
  wp_walk using go
  refine wpAny_stack_any fun _ => ?_
  refine wpAny_pure ?_
  split <;> try (rename_i k _ _ _ _ _; cases k == Value.type "enumerate")
  all_goals
    wp_walk using go
    exact ⟨_, rfl, both.2⟩
section
variable {P : Program} {u : World} {Y : Around} {X0 : Value → Shared → Prop} {s : Shared}
theorem enm_call {v : Value} {o : Obj} {Z : Heap → Prop} {T : Value → Shared → Prop} (B : Begins v o Z) (hz : Z s.heap)
    (k : IsEnum (enmH s.heap o) (s.heap.objs.size + 1) s.heap.objs.size 0 .none → (enmH s.heap o).get? s.heap.objs.size = some o → (∀ b q, s.heap.get? b = some q → (enmH s.heap o).get? b = some q) → T (.ref (s.heap.objs.size + 1)) { s with heap := enmH s.heap o }) :
    wpAny (model P u) Y (call (.type "enumerate") [v]) T X0 s := by
  have two : (s.heap.push o).objs.size = s.heap.objs.size + 1 := Heap.size_push _ _
  have top : IsEnum (enmH s.heap o) (s.heap.objs.size + 1) s.heap.objs.size 0 .none := by
    rw [← two]; exact Heap.get?_push_size (o := enmO s.heap.objs.size) _ rfl
  have it0 : (enmH s.heap o).get? s.heap.objs.size = some o := Heap.get?_push_of_some _ (Heap.get?_push_size _ B.free)
  have old : ∀ b q, s.heap.get? b = some q → (enmH s.heap o).get? b = some q := fun b q z => Heap.get?_push_of_some _ (Heap.get?_push_of_some _ z)
  have made := enm_made B
  refine callType_new PySem.F.called_enumerate (by decide)
    (PySem.F.typeCall_enumerate_1 _) (PySem.F.newCall_enumerate_1 _)
    (fun ob => PySem.F.args_object_init_2 ob _) PySem.F.entry_enumerate_new made ?_
  refine ⟨hz, ?_⟩
  rw [two]
  exact ⟨⟨_, top, rfl⟩, k top it0 old⟩
end
/-- the tuple at a, each item in a new pair -/
def Itx (K : PySem.W.Frag) (a : Addr) : It where
  go := fun i H => ∃ (vs : List V) (v : V), SqT K H a vs ∧ vs[i]? = some v
  yld := fun i H p H' => ∃ T v, p = .ref T ∧ H T = none ∧ H' = upd H T (.tup [.int (i : Nat), v]) ∧ ∀ vs, SqT K H a vs → vs[i]? = some v
  stop := fun i H => ∃ vs : List V, SqT K H a vs ∧ vs.length ≤ i
/-- how the enumerate at e over the iterator at m stands at turn i -/
def EnmAt (e m a : Addr) (i : Nat) (h : Heap) : Prop := (∃ was, IsEnum h e m ((i : Nat) : Int) was) ∧ h.IsTupleIter m a i ∧ e ≠ m ∧ a ≠ m ∧ e ≠ a
theorem turn_enumT {P : Program} {u : World} {K : PySem.W.Frag} {ts : List Expr} {n : Nat} {tp : Pos} (a e m : Addr) : Turn P u K (.Tuple ts n tp) (Itx K a) [e, m] e (EnmAt e m a) where
  mem := List.mem_cons_self ..
  obj := fun i h z b hb => by
    obtain ⟨⟨was, top⟩, ⟨oi, goi, _, doi⟩, _⟩ := z
    rcases List.mem_cons.mp hb with rfl | hb
    · exact ⟨_, top, fun _ q => nomatch q⟩
    · obtain rfl := List.mem_singleton.mp hb
      exact ⟨oi, goi, fun _ q => nomatch doi.symm.trans q⟩
  keep := fun i h h' z k => ⟨z.1.elim fun was top => ⟨was, k e (by simp) _ top⟩, z.2.1.at fun o q => k m (by simp) o q, z.2.2⟩
  item := by
    rintro X rfl rfl rfl hc i pins s σ H E I far ⟨⟨was, top⟩, iter, em, am, ea⟩ ⟨vs, v, sq, at_⟩
    obtain ⟨us, rep, held, _⟩ := I.tuple sq
    obtain ⟨w, hw, rw_⟩ := rep.get at_
    have tup : s.heap.IsTuple a us.toArray := held
    have less : i < us.toArray.size := by
      have := (List.getElem?_eq_some_iff.mp hw).1
      simpa using this
    have D := Draws.tuple (prog := X.prog) (w := X.w) (A := X.A.in1) (show X.A.in1.handled = none from I.ok.hd hc) m a am us.toArray
    refine wpAny_pyNext_enum_itemD D top ⟨iter, tup⟩ less em (by simp [em, ea]) fun y h1 t1 hy out nx new _ rest => ?_
    have same : y = w := by
      have h2 : us.toArray[i]? = some w := by simpa using hw
      exact Option.some.inj (hy.symm.trans h2)
    subst same
    have ltE : e < s.heap.objs.size := Heap.lt_size top
    have ltM : m < s.heap.objs.size := iter.elim fun _ q => Heap.lt_size q.1
    refine ⟨.ref s.heap.objs.size, rfl, ?_⟩
    refine wpAny_letOwnedTupleGo_enum (s := { s with heap := h1, toks := t1 + 1 }) out fun h2 top2 but => ?_
    have laid : h2.get? s.heap.objs.size = some { cls := .type "tuple", data := .seq #[.int i t1, y] } := by rw [but.2 _ (Nat.ne_of_gt ltE)]; exact new
    have none0 : H s.heap.objs.size = none := I.hok.fresh (Nat.le_refl _)
    have kept : ∀ b q, b ∉ [e, m] → s.heap.get? b = some q → h2.get? b = some q := by
      intro b q nb z
      have n1 : b ≠ e := fun r => nb (by rw [r]; simp)
      have n2 : b ≠ m := fun r => nb (by rw [r]; simp)
      rw [but.2 b n1]
      exact rest b q n1 n2 z
    have I2 : Inv X pins σ (upd H s.heap.objs.size (.tup [.int (i : Nat), v])) { s with heap := h2, toks := t1 + 1 } := by
      refine I.turnedNew kept far (Nat.le_refl _) ⟨?_, [.int i t1, y], ?_, _, laid, rfl, _, rfl⟩
      · show 2 ≤ sizeLine
        decide
      · exact .cons ⟨_, rfl⟩ (.cons rw_ .nil)
    have nextE : ((i + 1 : Nat) : Int) = ((i : Nat) : Int) + 1 := Int.natCast_succ i
    refine ⟨.ref s.heap.objs.size, _, I2, rfl, ⟨_, v, rfl, none0, rfl, fun zs hz => by rw [I.tuple_inj hz sq]; exact at_⟩, ⟨⟨_, by rw [nextE]; exact top2⟩, nx.1.at fun o q => by rw [but.2 m (Ne.symm em)]; exact q, em, am, ea⟩, ?_⟩
    intro b hb
    have small : b < s.heap.objs.size := by
      rcases List.mem_cons.mp hb with rfl | hb
      · exact ltE
      · rw [List.mem_singleton.mp hb]; exact ltM
    rw [upd_ne (Nat.ne_of_lt small)]; exact (far b hb).1
  done := by
    rintro X rfl rfl rfl hc i pins s σ H E I far ⟨⟨was, top⟩, iter, em, am, ea⟩ ⟨vs, sq, all_⟩
    obtain ⟨us, rep, held, _⟩ := I.tuple sq
    have tup : s.heap.IsTuple a us.toArray := held
    obtain ⟨f0, f1, _, f3, f4, f5⟩ := far m (List.mem_cons_of_mem _ (List.mem_singleton.mpr rfl))
    have over : us.toArray[i]? = none := Array.getElem?_eq_none (by have := rep.length; simp; omega)
    have D : Draws X.prog X.w X.A.in1 m [m, a] 0 (fun _ _ => False) (fun _ h => h.IsTupleIter m a i ∧ h.IsTuple a us.toArray) :=
      ⟨fun _ _ z => z.1.elim fun o q => ⟨o, q.1⟩, fun _ _ _ z k => ⟨z.1.at fun o q => k m (by simp) o q, z.2.at fun o q => k a (by simp) o q⟩, fun _ _ _ _ z => absurd z (Nat.not_lt_zero _),
        fun _ _ _ z k => wpAny_nextOf_tuple_end (show X.A.in1.handled = none from I.ok.hd hc) z.1 z.2 over k⟩
    exact wpAny_pyNext_enum_endD D top ⟨iter, tup⟩ fun h1 but => ⟨rfl, I.turned (t' := s.toks) (fun b q nb z => but b q nb z) f0 f1 f3 f4 f5⟩
  self := fun A i s Q E z q => z.1.elim fun _ top => wpAny_pyIter_enum top q
def iEnum2 (K : PySem.W.Frag) (ta : TA) : TI := fun σ H R => ta σ H fun vs H1 => ∃ a, vs = [.ref a] ∧ ((∃ xs, SqL K H1 a xs ∧ R (Ite K a) H1) ∨ ∃ xs, SqT K H1 a xs ∧ R (Itx K a) H1)
theorem pi_enum2 {X : Cx} {l : Expr} {ta : TA} {p0 p1 p2 : Pos} {ts : List Expr} {n : Nat} (hg : Gl X "enumerate") (hm : X.mg "enumerate" = none) (ha : PA X [l] ta) (hs : starEach [l] X.env = [(false, eval l X.env)] := by rfl) :
    PI X (.Tuple ts n p0) (.Call (.Name "enumerate" p1) [l] [] p2) (iEnum2 X.K ta) := by
  constructor
  intro pins s σ H R I want
  refine Call_ (ld_blt I hg hm boot_enumerate ?_)
  refine PyProof.Rows.callWith_type1 (thn (ha.run p2 pins s σ H _ I want) ?_) hs rfl
  rintro us st ⟨_, H1, I1, reps, a, rfl, two⟩
  cases reps with
  | cons one none_ =>
    cases none_
    obtain rfl := one
    have ahead : ∀ b, b = st.heap.objs.size + 1 ∨ b = st.heap.objs.size → FpOk X pins H1 b := fun b z => by
      have : st.heap.objs.size ≤ b := by omega
      exact I1.fpOk this (I1.hok.fresh this)
    rcases two with ⟨xs, sq, q⟩ | ⟨xs, sq, q⟩
    · obtain ⟨its, _, lst, _⟩ := I1.list sq
      refine call_enumerate_list lst.isList fun h1 top iter _ old => ?_
      refine wpAny_pyIter_enum top ⟨_, [st.heap.objs.size + 1, st.heap.objs.size], _, _, H1, rfl, I1.kept (t' := st.toks) old, turn_enum a _ _, ⟨⟨.none, top⟩, iter, Nat.succ_ne_self _⟩, fun b hb => ahead b (by simpa using hb), q⟩
    · obtain ⟨its, _, tup, _⟩ := I1.tuple sq
      have isT : st.heap.IsTuple a its.toArray := tup
      have ltA : a < st.heap.objs.size := isT.elim fun _ z => Heap.lt_size z.1
      refine enm_call (begins_tuple a its.toArray) isT fun top iter old => ?_
      refine wpAny_pyIter_enum top ⟨_, [st.heap.objs.size + 1, st.heap.objs.size], _, _, H1, rfl, I1.kept (t' := st.toks) old, turn_enumT a _ _, ⟨⟨.none, top⟩, ⟨_, iter, rfl, rfl⟩, Nat.succ_ne_self _, Nat.ne_of_lt ltA, Nat.ne_of_gt (Nat.lt_succ_of_lt ltA)⟩, fun b hb => ahead b (by simpa using hb), q⟩
section
variable {K : PySem.W.Frag} {X : Cx} {CT : CTab} {W : WX} {a b c e : Expr} {es : List Expr} {ga gb g : G} {gA : GA} {pos : Pos}
def pairAt (ds : List D) (i : Nat) : Option D := (ds[i]?).map fun d => .tup [.int (i : Nat), d]
def itX (ds : List D) : ItF := fun i _ => some (pairAt ds i)
def gEnum2 (ga : GA) : GI := fun env st => rb (ga env st) fun ds st1 => match ds with
  | [.ref n] => (cellL st1 n).map fun xs => .ok (itE n, xs.length + 1) st1
  | [.tup xs] => some (.ok (itX xs, xs.length + 1) st1)
  | _ => none
theorem itX_ok {φ : Phi} {H : Hp} {st : Store} {a : Addr} {ds : List D} {vs : List V} (R : RelH K φ H st) (h : SqT K H a vs) (r : RepAll K φ H ds vs) : ItOk K (Itx K a) φ H (itX ds) := by
  intro i φ' H' st' hp E R'
  have h' := SqT.stay E h
  have r' := RepAll.go hp E ds r
  refine ⟨fun e => ?_, fun d e => ?_⟩
  · unfold itX at e
    have e2 := Option.map_eq_none_iff.mp (Option.some.inj e)
    refine ⟨vs, h', ?_⟩
    rw [← r'.length]
    exact List.getElem?_eq_none_iff.mp e2
  · unfold itX at e
    obtain ⟨d0, h6, rfl⟩ := Option.map_eq_some_iff.mp (Option.some.inj e)
    obtain ⟨v, h4, h5⟩ := r'.get h6
    refine ⟨⟨vs, v, h', h4⟩, fun x H'' y => ?_⟩
    obtain ⟨T, w, rfl, hT, rfl, y⟩ := y
    have := y vs h'
    rw [h4] at this; cases this
    exact new_pair R' hT (RepAll.cons rfl (RepAll.cons h5 RepAll.nil))
theorem i_enum2 {k : Nat} {p tpos : Pos} (hg : Gl X "enumerate") (hm : X.mg "enumerate" = none) (ha : DA CT W X [e] gA) (hs : starEach [e] X.env = [(false, eval e X.env)] := by rfl) : DI CT W X (.Tuple es k tpos) (.Call (.Name "enumerate" p) [e] [] pos) (gEnum2 gA) :=
  (pi_enum2 hg hm ha hs).imp fun σ H Q h => by
    obtain ⟨φ, env, st, R, S, q⟩ := h
    refine ⟨φ, env, st, R, S, (Post.split q).mono ?_⟩
    rintro vs H1 ⟨φ1, st1, ds, E1, R1, rx, q1⟩
    split at q1
    · rename_i ds' n
      cases hc : cellL st1 n with
      | none => rw [hc] at q1; exact q1.elim
      | some xs =>
        rw [hc] at q1
        unfold rpA at rx
        unfold RepAll at rx
        obtain ⟨v, r, rfl, r1, r2⟩ := rx
        rw [repAll_nil r2]
        obtain ⟨a, rfl, h1⟩ := repRef r1
        obtain ⟨ws, h3, r⟩ := cellL_ok R1 h1 hc
        exact ⟨a, rfl, .inl ⟨ws, SqL.of h3, Post.done (rep := rpI X.K) (a := (itE n, xs.length + 1)) R1 (itE_ok h1) q1⟩⟩
    · rename_i ds' xs
      unfold rpA at rx
      unfold RepAll at rx
      obtain ⟨v, r, rfl, r1, r2⟩ := rx
      rw [repAll_nil r2]
      obtain ⟨a, ws, rfl, h1, r⟩ := repTup r1
      exact ⟨a, rfl, .inr ⟨ws, h1, Post.done (rep := rpI X.K) (a := (itX xs, xs.length + 1)) R1 (itX_ok R1 h1 r) q1⟩⟩
    · exact q1.elim
end
end MP
set_option Elab.async false
set_option linter.all false
set_option autoImplicit false
set_option maxRecDepth 100000
set_option maxHeartbeats 2000000
/-! Mp26: reversed over a list. -/
namespace MP
open PySem PySem.Spec PyProof.Rows L2 RZ
section
variable {K : PySem.W.Frag} {X : Cx} {CT : CTab} {W : WX} {a b c e : Expr} {es : List Expr} {ga gb g : G} {gA : GA} {pos : Pos}
/-- the list in cell n, of len items, from its end -/
def itV (n len : Nat) : ItF := fun i st => if i < len then (match cellL st n with | some ds => (ds[len - 1 - i]?).map some | none => none) else some none
def gRev (ga : GA) : GI := fun env st => rb (ga env st) fun ds st1 => match ds with
  | [.ref n] => (cellL st1 n).map fun xs => .ok (itV n xs.length, xs.length + 1) st1
  | _ => none
theorem itV_ok {φ : Phi} {H : Hp} {a : Addr} {n len : Nat} (h : φ[n]? = some a) : ItOk K (Itv K a len) φ H (itV n len) := by
  intro i φ1 H1 st1 same stay R1
  have ha := same _ _ h
  unfold itV
  by_cases hi : i < len
  · rw [if_pos hi]
    cases hc : cellL st1 n with
    | none => exact ⟨fun z => (nomatch z), fun d z => (nomatch z)⟩
    | some ds =>
      dsimp only
      obtain ⟨vs, hv, rep⟩ := cellL_ok R1 ha hc
      cases hd : ds[len - 1 - i]? with
      | none => exact ⟨fun z => (nomatch z), fun d z => (nomatch z)⟩
      | some d0 =>
        obtain ⟨v, hv2, r2⟩ := rep.get hd
        refine ⟨fun z => (nomatch Option.some.inj z), fun d z => ?_⟩
        cases z
        refine ⟨⟨hi, vs, v, SqL.of hv, hv2⟩, fun x H2 y => ?_⟩
        obtain ⟨rfl, y⟩ := y
        have := y vs (SqL.of hv)
        rw [hv2] at this
        cases this
        exact ⟨Ext.refl, R1, r2⟩
  · rw [if_neg hi]
    exact ⟨fun _ => Nat.le_of_not_lt hi, fun d z => (nomatch Option.some.inj z)⟩
theorem i_rev {tg : Expr} {p : Pos} (hg : Gl X "reversed") (hm : X.mg "reversed" = none) (ha : DA CT W X [e] gA) (hs : starEach [e] X.env = [(false, eval e X.env)] := by rfl) : DI CT W X tg (.Call (.Name "reversed" p) [e] [] pos) (gRev gA) :=
  (pi_reversed hg hm ha hs).imp fun σ H Q h => by
    obtain ⟨φ, env, st, R, S, q⟩ := h
    refine ⟨φ, env, st, R, S, (Post.split q).mono ?_⟩
    rintro vs H1 ⟨φ1, st1, ds, E1, R1, rx, q1⟩
    split at q1
    · rename_i _ n
      cases hc : cellL st1 n with
      | none => rw [hc] at q1; exact q1.elim
      | some xs =>
        rw [hc] at q1
        unfold rpA at rx
        unfold RepAll at rx
        obtain ⟨v, r, rfl, r1, r2⟩ := rx
        rw [repAll_nil r2]
        obtain ⟨a, rfl, h1⟩ := repRef r1
        obtain ⟨ws, h3, rr⟩ := cellL_ok R1 h1 hc
        refine ⟨a, ws, rfl, SqL.of h3, ?_⟩
        rw [← rr.length]
        exact Post.done (rep := rpI X.K) (a := (itV n xs.length, xs.length + 1)) R1 (itV_ok h1) q1
    · exact q1.elim
end
end MP
set_option Elab.async false
set_option linter.all false
set_option autoImplicit false
set_option maxRecDepth 100000
set_option maxHeartbeats 2000000
/-! Mp27: sorted of tuples of ints, the first of them empty. -/
namespace MP
open PySem PySem.Spec PyProof.Rows L2 RZ
open PySem.W (kas_first_eq Looks Looks.ld Looks.now)
/-- v is a tuple of these ints -/
def IsTI (h : Heap) (v : Value) (ns : List Int) : Prop := ∃ a vs, v = .ref a ∧ h.IsTuple a vs ∧ IntsAre vs.toList ns
theorem IsTI.kept {h h' : Heap} {v : Value} {ns : List Int} (x : IsTI h v ns) (k : ∀ a o, v = .ref a → h.get? a = some o → h'.get? a = some o) : IsTI h' v ns :=
  let ⟨a, vs, e, ⟨o, g, r⟩, i⟩ := x
  ⟨a, vs, e, ⟨o, k a o e g, r⟩, i⟩
section
variable {prog : Program} {w : World} {A : Around} {E : Value → Shared → Prop} {s : Shared}
theorem ti_lt {v u : Value} {ns ms : List Int} {Q : Bool → Shared → Prop} (room : A.units < cLine) (hv : IsTI s.heap v ns) (hw : IsTI s.heap u ms) (h : Q (HT.lexLt ns ms) s) : wpAny (model prog w) A (keyLt' oneType' v u) Q E s := by
  obtain ⟨a, xs, rfl, ⟨⟨c, dd, dat, sl⟩, ga, hc, n, hd⟩, ia⟩ := hv
  obtain ⟨b, ys, rfl, ⟨⟨c2, dd2, dat2, sl2⟩, gb, hc2, m, hd2⟩, ib⟩ := hw
  cases hc
  cases hc2
  cases hd
  cases hd2
  have tA : s.TypeIs (.ref a) "tuple" := ⟨_, ga, rfl⟩
  rw [keyLt'_oneType, oneLt'_eq]
  simp only [if_true]
  refine wpAny_bind ?_
  refine wpAny_cRoomFor room ?_
  refine wpAny_bind ?_
  refine wpAny_callSpecialIfBound?_slot tA PySem.F.slot_tuple_lt ?_
  exact call_meets PySem.F.slot_tuple_lt tA PySem.F.entry_tuple_lt (PySem.F.args_tuple_lt_2 _ _) (HT.tuple_lt_ints a b xs ys n m dd dd2 sl sl2 ns ms ia ib) ⟨ga, gb, wpAny_truthy_bool h⟩
/-- each item's own answer -/
theorem mapM_each {M : Model} {α β : Type} {f : α → Sem β} (r : α → β) {F : Value → Shared → Prop} : ∀ (l : List α) {T : List β → Shared → Prop}, (∀ v ∈ l, ∀ (T' : β → Shared → Prop), T' (r v) s → wpAny M A (f v) T' F s) → T (l.map r) s → wpAny M A (l.mapM f) T F s := by
  intro l
  induction l with
  | nil => intro T _ z; rw [List.mapM_nil]; exact wpAny_pure z
  | cons x l ih =>
    intro T each z
    rw [List.mapM_cons]
    refine wpAny_bind (each x (by simp) _ ?_)
    refine wpAny_bind (ih (fun v hv => each v (by simp [hv])) ?_)
    exact wpAny_pure z
/-- the first item of a tuple, as it stands in the heap -/
def headAt (h : Heap) : Value → Option Value
  | .ref a => match h.get? a with
    | some o => match o.data with
      | .seq xs _ => xs[0]?
      | _ => none
    | none => none
  | _ => none
theorem ti_head {v : Value} {ns : List Int} {M : Model} {T : Option Value → Shared → Prop} (hv : IsTI s.heap v ns) (z : T (headAt s.heap v) s) : wpAny M A (firstOfTuple' v) T E s := by
  obtain ⟨a, xs, rfl, ⟨o, g, hc, n, hd⟩, _⟩ := hv
  rw [kas_first_eq]
  have look : Looks M s.heap (typeOf (.ref a)) o.cls := (Looks.ld g).andThen .now
  refine wpAny_bind (look.here ?_)
  rw [hc, if_neg (by simp)]
  refine wpAny_bind (listItems_at g hd ?_)
  have e : headAt s.heap (.ref a) = xs[0]? := by
    unfold headAt
    simp only [g, hd]
  rw [← e]
  exact wpAny_pure z
theorem ti_kind {M : Model} {v : Value} {vs : List Value} {k : Value → List Int} {T : SortKind → Shared → Prop} (all_ : ∀ u ∈ v :: vs, IsTI s.heap u (k u)) (none_ : k v = []) (z : T oneType' s) : wpAny M A (keyKind' (v :: vs).toArray) T E s := by
  have typ : ∀ u ∈ v :: vs, Looks M s.heap (typeOf u) (.type "tuple") := fun u hu => by
    obtain ⟨a, xs, rfl, ⟨o, g, hc, _⟩, _⟩ := all_ u hu
    rw [← hc]
    exact (Looks.ld g).andThen .now
  have h0 : headAt s.heap v = none := by
    obtain ⟨a, xs, rfl, ⟨o, g, hc, n, hd⟩, i⟩ := all_ v (by simp)
    rw [none_] at i
    have : xs = #[] := by
      cases xs with
      | mk l =>
        cases l with
        | nil => rfl
        | cons y l => cases i
    unfold headAt
    simp only [g, hd, this]
    rfl
  rw [keyKind'_eq, List.mapM_toArray, map_eq_pure_bind]
  refine wpAny_bind (wpAny_bind (mapM_each (headAt s.heap) _ (fun u hu T' z' => ti_head (all_ u hu) z') (wpAny_pure ?_)))
  have n1 : ¬ (((v :: vs).map (headAt s.heap)).toArray.all fun x => x.isSome) = true := by
    rw [List.map_cons, h0]
    simp
  have n2 : ¬ ((((v :: vs).map (headAt s.heap)).toArray[0]?.bind id).isSome) = true := by
    rw [List.map_cons, h0]
    simp
  rw [if_neg n1, if_neg n2]
  rw [oneTypeOnly'_eq, List.mapM_toArray, map_eq_pure_bind]
  refine wpAny_bind (wpAny_bind (wpAny_bind (mapM_each (fun _ => Value.type "tuple") _ (fun u hu T' z' => (typ u hu).here z') (wpAny_pure ?_))))
  have at0 : (List.map (fun _ => Value.type "tuple") (v :: vs)).toArray[0]? = some (Value.type "tuple") := by simp
  have same : ((List.map (fun _ => Value.type "tuple") (v :: vs)).toArray.all fun x => x == Value.type "tuple") = true := by
    rw [List.all_toArray, List.all_map, List.all_eq_true]
    intro _ _
    rfl
  rw [at0]
  simp only [same, if_true]
  exact wpAny_pure (wpAny_pure z)
end
end MP
set_option Elab.async false
set_option linter.all false
set_option autoImplicit false
set_option maxRecDepth 100000
set_option maxHeartbeats 2000000
/-! Mp28: sorted of tuples of ints, the first of them empty, as a rule. -/
namespace MP
open PySem PySem.Spec PyProof.Rows L2 RZ
open SrtO (Srtd Stb SortableO sorted_ord)
section
variable {prog : Program} {w : World} {A : Around} {s : Shared}
theorem ti_sortable {a : Addr} {v : Value} {vs : List Value} {k : Value → List Int} (room : A.units < cLine) (all_ : ∀ u ∈ v :: vs, IsTI s.heap u (k u)) (none_ : k v = []) (not_ : ∀ u ∈ v :: vs, u ≠ .ref a) : SortableO prog w A s a (v :: vs) fun x y => HT.lexLt (k x) (k y) := by
  intro h1 stays
  have there : ∀ u ∈ v :: vs, IsTI h1 u (k u) := fun u hu => (all_ u hu).kept fun b o e g => stays b o (fun z => not_ u hu (by rw [e, z])) g
  refine ⟨oneType', fun Q E q => ti_kind (s := { s with heap := h1 }) there none_ q, ?_⟩
  intro p q hp hq
  exact ti_lt (s := { s with heap := h1 }) room (there p.1 hp) (there q.1 hq) ⟨rfl, rfl⟩
end
/-- sorted(xs), xs a list of tuples of ints, the first of them empty -/
def rSortTI (K : PySem.W.Frag) : List V → Hp → VK → Prop := fun vs H Q => ∃ (a : Addr) (t : Addr) (ks : List (Addr × List Int)), vs = [V.ref a] ∧ SqL K H a (((t, []) :: ks).map fun p => V.ref p.1) ∧ (∀ p ∈ (t, []) :: ks, SqT K H p.1 (p.2.map V.int)) ∧
  ∀ (L : List (Addr × List Int)) (p : Addr), L.Perm ((t, []) :: ks) → L.Pairwise (fun x y => HT.lexLt y.2 x.2 = false) → H p = none → Q (.ref p) (upd H p (.lst (L.map fun q => V.ref q.1)))
section
variable {X : Cx}
theorem ints_same : ∀ {l m : List Int}, l.map V.int = m.map V.int → l = m
  | [], [], _ => rfl
  | [], _ :: _, z => by cases z
  | _ :: _, [], z => by cases z
  | x :: l, y :: m, z => by
    rw [List.map_cons, List.map_cons] at z
    obtain ⟨z1, z2⟩ := List.cons.inj z
    cases z1
    rw [ints_same z2]
theorem call_sortTI (hu : X.A.units + 64 < cLine) : CallR X (.builtin "sorted") (rSortTI X.K) := by
  intro pins s σ H vs us Q I r h
  obtain ⟨a, t, ks, rfl, sq, each, fin⟩ := h
  obtain ⟨its, rv, lst, hz⟩ := I.list sq
  rw [Vals.ref1 r]
  have eits := refs_of_vals rv
  subst eits
  have isTI : ∀ p ∈ (t, []) :: ks, IsTI s.heap (.ref p.1) p.2 := fun p hp => by
    obtain ⟨ws, rw_, held, _⟩ := I.tuple (each p hp)
    exact ⟨p.1, ws.toArray, rfl, held, Vals.ints rw_⟩
  let key : Value → List Int := fun v => match v with
    | .ref b => (((t, []) :: ks).find? fun p => p.1 == b).elim [] fun p => p.2
    | _ => []
  have key_ : ∀ p ∈ (t, []) :: ks, key (.ref p.1) = p.2 := fun p hp => by
    show ((((t, []) :: ks).find? fun q => q.1 == p.1).elim [] fun q => q.2) = p.2
    cases hf : ((t, []) :: ks).find? fun q => q.1 == p.1 with
    | none => exact absurd (List.find?_eq_none.mp hf p hp) (by simp)
    | some q =>
      have hq := List.mem_of_find?_eq_some hf
      have e : q.1 = p.1 := by simpa using List.find?_some hf
      have h1 := each q hq
      rw [e] at h1
      have h2 := I.tuple_inj h1 (each p hp)
      show q.2 = p.2
      exact ints_same h2
  have all_ : ∀ u ∈ ((t, []) :: ks).map (fun p => Value.ref p.1), IsTI s.heap u (key u) := fun u hm => by
    obtain ⟨p, hp, rfl⟩ := List.mem_map.mp hm
    show IsTI s.heap (.ref p.1) (key (.ref p.1))
    rw [key_ p hp]
    exact isTI p hp
  refine sorted_ord (NtL.swo_lexL key) lst.isList ?_ ?_ ?_
  · have := rv.length
    rw [← this]; exact hz
  · intro two h1 b hb old
    refine ti_sortable (s := { s with heap := h1 }) (by show X.A.units + 1 + 1 < cLine; omega) (fun u hm => (all_ u hm).kept fun c o _ g => (old c o g).2) (key_ (t, []) (by simp)) ?_
    intro u hm e
    obtain ⟨c, xs, e2, ⟨o, g, _⟩, _⟩ := all_ u hm
    rw [e2] at e
    cases e
    exact (old _ o g).1 rfl
  · intro out hs hb
    have back : ∀ u ∈ out, ∃ p ∈ (t, []) :: ks, u = Value.ref p.1 := fun u hm => by
      obtain ⟨p, hp, e⟩ := List.mem_map.mp (hb.perm.mem_iff.mp hm)
      exact ⟨p, hp, e.symm⟩
    let g : Value → Addr × List Int := fun u => match u with | .ref b => (b, key u) | _ => (0, [])
    have g2 : ∀ u, (g u).2 = key u := fun u => by cases u <;> rfl
    have perm : (out.map g).Perm ((t, []) :: ks) := by
      have p1 := hb.perm.map g
      have e : (((t, []) :: ks).map fun p => Value.ref p.1).map g = (t, []) :: ks := by
        rw [List.map_map]
        conv => rhs; rw [← List.map_id ((t, []) :: ks)]
        refine List.map_congr_left fun p hp => ?_
        show (p.1, key (.ref p.1)) = p
        rw [key_ p hp]
      rwa [e] at p1
    have pw : (out.map g).Pairwise fun x y => HT.lexLt y.2 x.2 = false := by
      rw [List.pairwise_map]
      refine hs.imp fun {x y} z => ?_
      rw [g2, g2]; exact z
    have eo : out = (out.map g).map fun q => Value.ref q.1 := by
      rw [List.map_map]
      conv => lhs; rw [← List.map_id out]
      refine List.map_congr_left fun u hm => ?_
      obtain ⟨p, _, rfl⟩ := back u hm
      rfl
    have vals : Vals ((out.map g).map fun q => V.ref q.1) out := by
      have := vals_of_refs (out.map g)
      rwa [← eo] at this
    have few : ((out.map g).map fun q => V.ref q.1).length ≤ sizeLine := by
      rw [List.length_map, perm.length_eq]
      rwa [List.length_map] at hz
    obtain ⟨ep, at_⟩ := sortedAll_at s.heap (((t, []) :: ks).map fun p => Value.ref p.1) out.toArray
    exact ⟨.ref _, upd H (s.heap.objs.size + 1) (.lst ((out.map g).map fun q => V.ref q.1)), I.laid (t' := s.toks) (fun _ _ => sortedAll_old) (Nat.le_succ _) ⟨few, out, ep, vals, at_⟩, rfl, fin (out.map g) _ perm pw (I.hok.fresh (Nat.le_succ _))⟩
end
end MP
set_option Elab.async false
set_option linter.all false
set_option autoImplicit false
set_option maxRecDepth 100000
set_option maxHeartbeats 2000000
/-! Mp29: sorted, of tuples of ints too whose first is empty, on the machine. -/
namespace MP
open PySem PySem.Spec PyProof.Rows L2 RZ
section
variable {K : PySem.W.Frag} {X : Cx} {CT : CTab} {W : WX}
def intD : D → Option Int
  | .int i => some i
  | _ => none
def tiD : D → Option (List Int)
  | .tup ds => optAll (ds.map intD)
  | _ => none
def leL (a b : List Int) : Bool := !HT.lexLt b a
def tupL (ns : List Int) : D := .tup (ns.map .int)
theorem leL_trans (a b c : List Int) (h1 : leL a b = true) (h2 : leL b c = true) : leL a c = true := by
  unfold leL at *
  rw [Bool.not_eq_true'] at *
  exact NtL.lex_tr a b c h1 h2
theorem leL_total (a b : List Int) : (leL a b || leL b a) = true := by
  unfold leL
  cases h : HT.lexLt b a with
  | false => rfl
  | true => rw [NtL.lex_asym b a h]; rfl
theorem leL_anti : ∀ {a b : List Int}, HT.lexLt b a = false → HT.lexLt a b = false → a = b
  | [], [], _, _ => rfl
  | [], y :: b, _, h => by rw [HT.lexLt_nil_cons] at h; cases h
  | x :: a, [], h, _ => by rw [HT.lexLt_nil_cons] at h; cases h
  | x :: a, y :: b, h1, h2 => by
    rw [HT.lexLt_cons] at h1 h2
    by_cases e : x = y
    · subst e
      rw [if_pos rfl] at h1 h2
      rw [leL_anti h1 h2]
    · rw [if_neg (Ne.symm e)] at h1
      rw [if_neg e] at h2
      have a1 := of_decide_eq_false h1
      have a2 := of_decide_eq_false h2
      exact absurd (Int.le_antisymm (Int.not_lt.mp a1) (Int.not_lt.mp a2)) e
theorem sorted_one {l m : List (List Int)} (p : l.Perm m) (s : l.Pairwise fun x y => HT.lexLt y x = false) : l = m.mergeSort leL := by
  have s2 : (m.mergeSort leL).Pairwise fun x y => HT.lexLt y x = false := (List.pairwise_mergeSort leL_trans leL_total m).imp fun {a b} h => by
    unfold leL at h
    rwa [Bool.not_eq_true'] at h
  exact (p.trans (List.mergeSort_perm m _).symm).eq_of_pairwise (fun a b _ _ h1 h2 => leL_anti h1 h2) s s2
def fSortTI : GF
  | [d], st => match listD st d with
    | some xs => match optAll (xs.map tiD) with
      | some ([] :: r) => some (.ok (.ref st.length) (st ++ [.lst ((([] :: r).mergeSort leL).map tupL)]))
      | _ => none
    | none => none
  | _, _ => none
theorem ints_of {ds : List D} : ∀ {ns : List Int}, optAll (ds.map intD) = some ns → ds = ns.map .int := by
  induction ds with
  | nil => intro ns h; cases h; rfl
  | cons d ds ih =>
    intro ns h
    rw [List.map_cons] at h
    cases d with
    | int i =>
      unfold intD optAll at h
      split at h
      · rename_i l hl
        cases h
        rw [ih hl]; rfl
      · cases h
    | _ => cases h
theorem tups_of {φ : Phi} {H : Hp} {xs : List D} : ∀ {vs : List V} {nss : List (List Int)}, optAll (xs.map tiD) = some nss → RepAll K φ H xs vs → ∃ ks : List (Addr × List Int), ks.map (·.2) = nss ∧ vs = ks.map (fun p => V.ref p.1) ∧ ∀ p ∈ ks, SqT K H p.1 (p.2.map V.int) := by
  induction xs with
  | nil =>
    intro vs nss h r
    cases h
    rw [repAll_nil r]
    exact ⟨[], rfl, rfl, by simp⟩
  | cons d xs ih =>
    intro vs nss h r
    unfold RepAll at r
    obtain ⟨v, rest, rfl, r1, r2⟩ := r
    rw [List.map_cons] at h
    cases d with
    | tup ds =>
      have ht : tiD (.tup ds) = optAll (ds.map intD) := rfl
      rw [ht] at h
      cases hd : optAll (ds.map intD) with
      | none => rw [hd] at h; cases h
      | some ns =>
        rw [hd] at h
        unfold optAll at h
        split at h
        · rename_i l hl
          cases h
          obtain ⟨ks, e1, e2, e3⟩ := ih hl r2
          obtain ⟨a, ws, rfl, sq, rw_⟩ := repTup r1
          rw [ints_of hd] at rw_
          have : ws = ns.map V.int := by
            clear hd r1 sq
            induction ns generalizing ws with
            | nil => exact repAll_nil rw_
            | cons n ns ihn =>
              rw [List.map_cons] at rw_
              unfold RepAll at rw_
              obtain ⟨w, wr, rfl, q1, q2⟩ := rw_
              rw [repInt q1, ihn _ q2]; rfl
          subst this
          refine ⟨(a, ns) :: ks, by rw [List.map_cons, e1], by rw [List.map_cons, e2], fun p hp => ?_⟩
          rcases List.mem_cons.mp hp with rfl | z
          · exact sq
          · exact e3 p z
        · cases h
    | _ => cases h
theorem cd_sortTI : CallD K (rSortTI K) fSortTI := by
  intro CT W σ φ H st ds vs Q R r q
  unfold fSortTI at q
  split at q
  · rename_i st' d
    split at q
    · rename_i xs hx
      split at q
      · rename_i rest hn
        obtain ⟨v, rfl, h1⟩ := one_rep r
        obtain ⟨p, ws, rfl, h2, h3⟩ := listD_ok R hx h1
        obtain ⟨ks, e1, rfl, e3⟩ := tups_of hn h3
        cases ks with
        | nil => cases e1
        | cons k0 ks =>
          obtain ⟨t, z0⟩ := k0
          obtain ⟨e0, e2⟩ := List.cons.inj e1
          dsimp only at e0
          subst e0
          refine ⟨p, t, ks, rfl, h2, e3, fun L b perm pw hb => ?_⟩
          have eq_ : L.map (·.2) = ([] :: rest).mergeSort leL := by
            refine sorted_one ?_ (List.pairwise_map.mpr pw)
            have := perm.map (·.2)
            rwa [List.map_cons, e2] at this
          rw [← eq_] at q
          refine new_lst R (rep_zip (zs := L.map fun u => (tupL u.2, V.ref u.1)) (by rw [List.map_map, List.map_map]; rfl) (by rw [List.map_map]; rfl) fun z hz => ?_) q b hb
          obtain ⟨u, hu, rfl⟩ := List.mem_map.mp hz
          exact repTup' (e3 u (perm.mem_iff.mp hu)) (ints_rep u.2)
      · exact q.elim
    · exact q.elim
  · exact q.elim
/-- is it a list of tuples of ints, the first of them empty -/
def isTIs (st : Store) : List D → Bool
  | [d] => match listD st d with
    | some (.tup [] :: _) => true
    | _ => false
  | _ => false
def fSorted2 : GF := fun ds st => if isTIs st ds = true then fSortTI ds st else fSorted ds st
def rSortedB (X : Cx) : List V → Hp → VK → Prop := fun xs H Q => rSortTI X.K xs H Q ∨ rSortedA X xs H Q
theorem call_sortedB (hc : X.calm = true) (hu : X.A.units + 64 < cLine) : CallR X (.builtin "sorted") (rSortedB X) := (call_sortTI hu).or (call_sortedA hc hu)
theorem cd_sorted2 : CallD X.K (rSortedB X) fSorted2 := CallD.or (p := fun ds st => isTIs st ds) cd_sortTI cd_sorted
end
end MP
set_option Elab.async false
set_option linter.all false
set_option autoImplicit false
set_option maxRecDepth 100000
set_option maxHeartbeats 2000000
/-! Mp30: sorted(set(t)), t a tuple of ints. -/
namespace MP
open PySem PySem.Spec PyProof.Rows L2 RZ
/-- put in, once, in order -/
def insU (x : Int) : List Int → List Int
  | [] => [x]
  | y :: l => if x < y then x :: y :: l else if x = y then y :: l else y :: insU x l
def sortU (ns : List Int) : List Int := ns.foldr insU []
theorem insU_mem {x k : Int} : ∀ {l : List Int}, k ∈ insU x l ↔ k = x ∨ k ∈ l := by
  intro l
  induction l with
  | nil => simp [insU]
  | cons y l ih =>
    unfold insU
    split
    · simp
    · split
      · rename_i e
        subst e
        simp
      · rw [List.mem_cons, ih, List.mem_cons]
        constructor
        · rintro (h | h | h)
          · exact .inr (.inl h)
          · exact .inl h
          · exact .inr (.inr h)
        · rintro (h | h | h)
          · exact .inr (.inl h)
          · exact .inl h
          · exact .inr (.inr h)
theorem insU_asc {x : Int} : ∀ {l : List Int}, l.Pairwise (· < ·) → (insU x l).Pairwise (· < ·) := by
  intro l
  induction l with
  | nil => intro _; simp [insU]
  | cons y l ih =>
    intro h
    obtain ⟨h1, h2⟩ := List.pairwise_cons.mp h
    unfold insU
    split
    · rename_i lt
      refine List.pairwise_cons.mpr ⟨fun z hz => ?_, h⟩
      rcases List.mem_cons.mp hz with rfl | q
      · exact lt
      · exact Int.lt_trans lt (h1 z q)
    · split
      · exact h
      · rename_i n1 n2
        refine List.pairwise_cons.mpr ⟨fun z hz => ?_, ih h2⟩
        rcases insU_mem.mp hz with rfl | q
        · omega
        · exact h1 z q
theorem sortU_spec : ∀ ns : List Int, (sortU ns).Pairwise (· < ·) ∧ ∀ k, k ∈ sortU ns ↔ k ∈ ns := by
  intro ns
  induction ns with
  | nil => exact ⟨List.Pairwise.nil, fun k => Iff.rfl⟩
  | cons x ns ih => exact ⟨insU_asc ih.1, fun k => by rw [List.mem_cons, ← ih.2 k]; exact insU_mem⟩
theorem strict_one : ∀ {l m : List Int}, l.Pairwise (· < ·) → m.Pairwise (· < ·) → (∀ k, k ∈ l ↔ k ∈ m) → l = m := by
  intro l
  induction l with
  | nil =>
    intro m _ _ h
    cases m with
    | nil => rfl
    | cons y m => exact absurd ((h y).mpr (by simp)) (by simp)
  | cons x l ih =>
    intro m h1 h2 h
    cases m with
    | nil => exact absurd ((h x).mp (by simp)) (by simp)
    | cons y m =>
      obtain ⟨a1, a2⟩ := List.pairwise_cons.mp h1
      obtain ⟨b1, b2⟩ := List.pairwise_cons.mp h2
      have e : x = y := by
        rcases List.mem_cons.mp ((h x).mp (by simp)) with q | q
        · exact q
        · rcases List.mem_cons.mp ((h y).mpr (by simp)) with r | r
          · exact r.symm
          · have := b1 x q
            have := a1 y r
            omega
      subst e
      rw [ih a2 b2 fun k => ?_]
      constructor
      · intro q
        rcases List.mem_cons.mp ((h k).mp (by simp [q])) with r | r
        · have := a1 k q; omega
        · exact r
      · intro q
        rcases List.mem_cons.mp ((h k).mpr (by simp [q])) with r | r
        · have := b1 k q; omega
        · exact r
section
variable {K : PySem.W.Frag} {X : Cx} {CT : CTab} {W : WX} {e : Expr} {gA : GA}
def rSetT (K : PySem.W.Frag) (w : World) : List V → Hp → VK → Prop := fun xs H Q => ∃ (p : Addr) (ns : List Int), xs = [.ref p] ∧ SqT K H p (ns.map V.int) ∧ ns.length < 64 ∧
  ∀ (a : Addr) (c : Nat), H a = none → c ≤ ns.length → Q (.ref a) (upd H a (SetO w a (fun j => decide (j ∈ ns)) c))
theorem call_setT (hc : X.calm = true) : CallR X (.type "set") (rSetT X.K X.w) := by
  intro pins s σ H xs us Q I r h
  obtain ⟨p, ns, rfl, sq, few, q⟩ := h
  rw [Vals.ref1 r]
  obtain ⟨ws, rv, held, _⟩ := I.tuple sq
  refine call_set_tupI ns (I.ok.hd hc) (show s.heap.IsTuple p ws.toArray from held) (Vals.ints rv) ?_ fun h1 tk c R small old => ?_
  · have : (64 : Nat) < scanBound := by decide
    omega
  · have free := I.hok.fresh (Nat.le_refl s.heap.objs.size)
    exact ⟨.ref s.heap.objs.size, _, I.laid (t' := tk) old (Nat.le_refl _) (setO_new R), rfl, q _ c free small⟩
def fSortSetT : GF
  | [.tup xs], st => match optAll (xs.map intD) with
    | some ns => if ns.length < 64 then some (.ok (.ref st.length) (st ++ [.lst ((sortU ns).map .int)])) else none
    | none => none
  | _, _ => none
theorem ints_back {φ : Phi} {H : Hp} : ∀ {ns : List Int} {ws : List V}, RepAll K φ H (ns.map D.int) ws → ws = ns.map V.int := by
  intro ns
  induction ns with
  | nil => intro ws h; exact repAll_nil h
  | cons n ns ih =>
    intro ws h
    rw [List.map_cons] at h
    unfold RepAll at h
    obtain ⟨w, wr, rfl, q1, q2⟩ := h
    rw [repInt q1, ih q2]; rfl
theorem d_sortSet {p1 p2 p3 p4 : Pos} (hc : X.calm = true) (hg : Gl X "sorted") (hm : X.mg "sorted" = none) (hg2 : Gl X "set") (hm2 : X.mg "set" = none) (ha : DA CT W X [e] gA) (hv : bootBuiltins "sorted" = some (.builtin "sorted")) (hv2 : bootBuiltins "set" = some (.type "set"))
    (he : starEach [e] X.env = [(false, eval e X.env)] := by rfl) (he2 : starEach [.Call (.Name "set" p2) [e] [] p3] X.env = [(false, eval (.Call (.Name "set" p2) [e] [] p3) X.env)] := by rfl) :
    DE CT W X (.Call (.Name "sorted" p1) [.Call (.Name "set" p2) [e] [] p3] [] p4) (gFn fSortSetT gA) := by
  have inner := pe_callTy (pos := p3) (p := p2) (call_setT hc) hg2 hm2 hv2 ha (by decide) (by decide) he rfl
  refine (pe_callB (pos := p4) (p := p1) (cr_sortedSet hc) hg hm hv (pa_cons inner pa_nil he2) (by decide) (by decide) he2 rfl).imp fun σ H Q h => ?_
  obtain ⟨φ, env, st, R, S, q⟩ := h
  refine ⟨φ, env, st, R, S, (Post.split q).mono ?_⟩
  rintro vs H1 ⟨φ1, st1, ds, E1, R1, rx, q1⟩
  unfold fSortSetT at q1
  split at q1
  · rename_i _ xs
    split at q1
    · rename_i ns hn
      split at q1
      · rename_i few
        obtain ⟨v, rfl, r1⟩ := one_rep rx
        obtain ⟨a, ws, rfl, sq, rw_⟩ := repTup r1
        rw [ints_of hn] at rw_
        rw [ints_back rw_] at sq
        refine ⟨a, ns, rfl, sq, few, fun b c free small => ?_⟩
        refine ⟨b, _, c, rfl, upd_same, Nat.lt_of_le_of_lt small few, fun ns1 d asc mem _ free2 => ?_⟩
        obtain ⟨s1, s2⟩ := sortU_spec ns
        have one : ns1 = sortU ns := strict_one asc s1 fun k => by
          rw [mem k, decide_eq_true_iff, s2 k]
        rw [one]
        exact new_lst (R1.tup free) (ints_rep _) (Post.ext (Ext.newT free) q1) d free2
      · exact q1.elim
    · exact q1.elim
  · exact q1.elim
end
end MP
set_option Elab.async false
set_option linter.all false
set_option autoImplicit false
set_option maxRecDepth 100000
set_option maxHeartbeats 6400000
/-! Mp31: set(l) of a list of ints. -/
namespace MP
open PySem PySem.Spec PyProof.Rows L2 RZ
section
variable {P : Program} {w : World} {Y : Around} {F : Value → Shared → Prop} {s : Shared}
/-- the empty set, just made -/
def empS (w : World) : Obj := { cls := .type "set", dict := none, data := .set #[] 0 (.fresh 0 0 (!w.params.followText "set-order")) }
def SetDone (w : World) (s : Shared) (ns : List Int) (s2 : Shared) : Prop := ∃ (h1 : Heap) (tk c : Nat), s2 = { s with heap := h1, toks := tk } ∧ SetR w h1 s.heap.objs.size (fun j => decide (j ∈ ns)) c ∧ c ≤ ns.length ∧ ∀ b o, s.heap.get? b = some o → h1.get? b = some o
theorem setL_made {l : Addr} {xs : Array Value} (ns : List Int) {T : Value → Shared → Prop} (calm : Y.handled = none) (lst : s.heap.IsList l xs) (int_ : IntsAre xs.toList ns) (room : ns.length + 1 < scanBound)
    (k : ∀ (h1 : Heap) (tk c : Nat), SetR w h1 s.heap.objs.size (fun j => decide (j ∈ ns)) c → c ≤ ns.length → (∀ b o, s.heap.get? b = some o → h1.get? b = some o) → T (.ref s.heap.objs.size) { s with heap := h1, toks := tk }) :
    wpAny (model P w) Y (call (.type "set") [.ref l]) T F s := by
  have size_ : xs.size = ns.length := by
    have := int_.length
    rwa [Array.length_toList] at this
  obtain ⟨c0, r0, order⟩ := PySem.F.called_set.mro
  have f1 := PySem.F.called_set.made
  have f2 := PySem.F.called_set.sub
  refine wpAny_call ?_
  refine codeAny_of_tree ?_
  show wpAny _ _ (callAny (.type "set") _) _ _ _
  refine wpAny_pure ⟨?_, ?_⟩
  · exact Code.quiet_builtin _ (by decide +kernel)
  refine codeAny_builtin PySem.F.entry_type_call ?_
  rw [Around.under_plain (weight_type_call_type "set" [.ref l] []) rfl]
  have f3 := PySem.F.called_set.notType
  have f4 := PySem.F.called_set.canCreate
  have f5 := PySem.F.typeCall_set_1 (.ref l)
  repeat
    any_goals
      first
      | assumption
      | wp_step
  refine codeAny_mono (code_set_led1 (.ref l) (E := F) (Q₁ := fun v s1 => v = .ref s.heap.objs.size ∧ s1 = { s with heap := s.heap.push (empS w) }) ⟨rfl, rfl⟩) fun r s1 hr => ?_
  cases r with
  | error e => exact hr
  | ok fl =>
    cases fl with
    | ret v =>
      obtain ⟨rfl, rfl⟩ := hr
      have new : (s.heap.push (empS w)).get? s.heap.objs.size = some (empS w) := Heap.get?_push_size _ rfl
      have typ : Shared.TypeIs { s with heap := s.heap.push (empS w) } (.ref s.heap.objs.size) "set" := ⟨_, new, rfl⟩
      have i1 := PySem.F.called_set.init.lookup
      have i2 := PySem.F.called_set.init.bind (.ref s.heap.objs.size)
      repeat
        any_goals
          first
          | assumption
          | wp_step
      refine codeAny_mono (codeAny_call_builtin (R := wants (fun r s2 => r = .none ∧ SetDone w s ns s2) F) PySem.F.called_set.init.plain PySem.F.entry_set_init (check_set_init_1 typ ?_)) fun r2 s2 hr2 => ?_
      · obtain ⟨⟨cl, dc, dt, sl⟩, at_, isC, n, isD⟩ := lst
        cases isC
        cases isD
        have at1 := Heap.get?_push_of_some (empS w) at_
        have lst1 : (s.heap.push (empS w)).IsList l xs := ⟨_, at1, rfl, n, rfl⟩
        have g1 := PySem.F.sub_list_set
        have g2 := PySem.F.sub_list_frozenset
        have g3 : (Value.type "list" == Value.type "dict") = false := by decide
        unfold Builtin.«set.__init__» noKeywords Builtin.Frozenset.updateFrom
        generalize walked : pyIter = it0
        wp_walk
        subst walked
        refine wpAny_pyIter_list lst1 (wpAny_bind (wpAny_runValue ?_))
        have ltl : l < s.heap.objs.size := Heap.lt_size at_
        have more : (s.heap.push (empS w)).objs.size = s.heap.objs.size + 1 := Heap.size_push _ _
        have apart : l ≠ (s.heap.push (empS w)).objs.size := by rw [more]; exact Nat.ne_of_lt (Nat.lt_succ_of_lt ltl)
        have out : s.heap.objs.size ∉ [(s.heap.push (empS w)).objs.size, l] := by
          rw [more]
          intro z
          rcases List.mem_cons.mp z with q | q
          · exact absurd q (Nat.ne_of_lt (Nat.lt_succ_self _))
          · exact absurd (List.mem_singleton.mp q) (Nat.ne_of_gt ltl)
        have val : ∀ (i : Nat) (v : Value), xs[i]? = some v → ∃ j t, ns[i]? = some j ∧ v = .int j t := by
          intro i v z
          obtain ⟨j, t, q1, q2⟩ := int_.at i v (by rw [Array.getElem?_toList]; exact z)
          exact ⟨j, t, q2, q1⟩
        have quiet : Y.in1.in1.in1.handled = none := by simp [calm]
        have W := (Walks.list (prog := P) (w := w) quiet (s.heap.push (empS w)).objs.size l apart xs).toS
        refine set_update_ints W s.heap.objs.size out ns size_ room val (xs.size - 0) 0 _ (by omega) (Nat.zero_le _) ⟨⟨_, Heap.get?_push_size _ rfl, rfl, rfl⟩, lst1.push _⟩ ⟨0, Nat.le_refl 0, setR_new_at (Heap.get?_push_of_some _ new)⟩ ?_
        intro s3 c mv small R
        obtain ⟨h3, gs3, dr3, tk3, os3⟩ := s3
        obtain rfl : gs3 = s.gens := mv.gens
        obtain rfl : dr3 = s.drawn := mv.drawn
        obtain rfl : os3 = s.os := mv.os
        show wpAny _ _ _ _ _ _
        refine wpAny_pure ?_
        show wpAny _ _ (ret Value.none) _ _ _
        rw [size_] at small
        refine wpAny_pure ⟨rfl, h3, tk3, c, rfl, R, small, fun b o z => ?_⟩
        have lb : b < s.heap.objs.size := Heap.lt_size z
        refine mv.heap b o (fun q => ?_) (Heap.get?_push_of_some _ (Heap.get?_push_of_some _ z))
        rcases List.mem_cons.mp q with e | e
        · exact absurd e (Nat.ne_of_lt lb)
        · have e2 := List.mem_singleton.mp e
          rw [more] at e2
          exact absurd e2 (Nat.ne_of_lt (Nat.lt_succ_of_lt lb))
      · cases r2 with
        | error e => exact hr2
        | ok fl2 =>
          cases fl2 with
          | ret r =>
            obtain ⟨rfl, h1, tk, c, rfl, R, small, old⟩ := hr2
            repeat
              any_goals
                first
                | assumption
                | wp_step
            exact k _ _ _ R small old
          | _ => exact hr2.elim
    | _ => exact hr.elim
end
end MP
set_option Elab.async false
set_option linter.all false
set_option autoImplicit false
set_option maxRecDepth 100000
set_option maxHeartbeats 2000000
/-! Mp32: sorted(set(x)), x a tuple or a list of ints. -/
namespace MP
open PySem PySem.Spec PyProof.Rows L2 RZ
section
variable {K : PySem.W.Frag} {X : Cx} {CT : CTab} {W : WX} {e : Expr} {gA : GA}
def rSetS (K : PySem.W.Frag) (w : World) : List V → Hp → VK → Prop := fun xs H Q => ∃ (p : Addr) (ns : List Int), xs = [.ref p] ∧ (SqT K H p (ns.map V.int) ∨ SqL K H p (ns.map V.int)) ∧ ns.length < 64 ∧
  ∀ (a : Addr) (c : Nat), H a = none → c ≤ ns.length → Q (.ref a) (upd H a (SetO w a (fun j => decide (j ∈ ns)) c))
theorem call_setS (hc : X.calm = true) : CallR X (.type "set") (rSetS X.K X.w) := by
  intro pins s σ H xs us Q I r h
  obtain ⟨p, ns, rfl, sq, few, q⟩ := h
  rcases sq with sq | sq
  · exact call_setT hc pins s σ H _ us Q I r ⟨p, ns, rfl, sq, few, q⟩
  · rw [Vals.ref1 r]
    obtain ⟨ws, rv, held, _⟩ := I.list sq
    refine setL_made ns (I.ok.hd hc) held.isList (Vals.ints rv) ?_ fun h1 tk c R small old => ?_
    · have : (64 : Nat) < scanBound := by decide
      omega
    · exact ⟨.ref s.heap.objs.size, _, I.laid (t' := tk) old (Nat.le_refl _) (setO_new R), rfl, q _ c (I.hok.fresh (Nat.le_refl s.heap.objs.size)) small⟩
def fSortSet : GF
  | [d], st => match seqD st d with
    | some xs => match optAll (xs.map intD) with
      | some ns => if ns.length < 64 then some (.ok (.ref st.length) (st ++ [.lst ((sortU ns).map .int)])) else none
      | none => none
    | none => none
  | _, _ => none
theorem d_sortSetS {p1 p2 p3 p4 : Pos} (hc : X.calm = true) (hg : Gl X "sorted") (hm : X.mg "sorted" = none) (hg2 : Gl X "set") (hm2 : X.mg "set" = none) (ha : DA CT W X [e] gA) (hv : bootBuiltins "sorted" = some (.builtin "sorted")) (hv2 : bootBuiltins "set" = some (.type "set"))
    (he : starEach [e] X.env = [(false, eval e X.env)] := by rfl) (he2 : starEach [.Call (.Name "set" p2) [e] [] p3] X.env = [(false, eval (.Call (.Name "set" p2) [e] [] p3) X.env)] := by rfl) :
    DE CT W X (.Call (.Name "sorted" p1) [.Call (.Name "set" p2) [e] [] p3] [] p4) (gFn fSortSet gA) := by
  have inner := pe_callTy (pos := p3) (p := p2) (call_setS hc) hg2 hm2 hv2 ha (by decide) (by decide) he rfl
  refine (pe_callB (pos := p4) (p := p1) (cr_sortedSet hc) hg hm hv (pa_cons inner pa_nil he2) (by decide) (by decide) he2 rfl).imp fun σ H Q h => ?_
  obtain ⟨φ, env, st, R, S, q⟩ := h
  refine ⟨φ, env, st, R, S, (Post.split q).mono ?_⟩
  rintro vs H1 ⟨φ1, st1, ds, E1, R1, rx, q1⟩
  unfold fSortSet at q1
  split at q1
  · rename_i _ d
    split at q1
    · rename_i xs hx
      split at q1
      · rename_i ns hn
        split at q1
        · rename_i few
          obtain ⟨v, rfl, r1⟩ := one_rep rx
          obtain ⟨a, ws, rfl, sq, rw_⟩ := seqD_ok R1 hx r1
          rw [ints_of hn] at rw_
          rw [ints_back rw_] at sq
          refine ⟨a, ns, rfl, sq.elim .inr .inl, few, fun b c free small => ?_⟩
          refine ⟨b, _, c, rfl, upd_same, Nat.lt_of_le_of_lt small few, fun ns1 d asc mem _ free2 => ?_⟩
          obtain ⟨s1, s2⟩ := sortU_spec ns
          have one : ns1 = sortU ns := strict_one asc s1 fun k => by
            rw [mem k, decide_eq_true_iff, s2 k]
          rw [one]
          exact new_lst (R1.tup free) (ints_rep _) (Post.ext (Ext.newT free) q1) d free2
        · exact q1.elim
      · exact q1.elim
    · exact q1.elim
  · exact q1.elim
end
end MP
set_option Elab.async false
set_option linter.all false
set_option autoImplicit false
set_option maxRecDepth 100000
set_option maxHeartbeats 2000000
/-! Mp33: tuple(range(n)). -/
namespace MP
open PySem PySem.Spec PyProof.Rows L2 RZ
section
variable {K : PySem.W.Frag} {X : Cx} {CT : CTab} {W : WX} {e : Expr} {g : G}
def rgD (n : Nat) : List D := (List.range n).map fun i => D.int (i : Nat)
def gTupRg (g : G) : G := fun env st => rb (g env st) fun d st1 => match d with
  | .int n => if 0 ≤ n ∧ n ≤ 16777216 then some (.ok (.tup (rgD n.toNat)) st1) else none
  | _ => none
theorem rg_rep {φ : Phi} {H : Hp} : ∀ (n : Nat), RepAll K φ H (rgD n) (rgV 0 n) := fun n => by
  have e : rgV 0 (n : Int) = (List.range n).map fun i => V.int (i : Nat) := by
    unfold rgV
    rw [show ((n : Int) - 0).toNat = n by omega]
    exact List.map_congr_left fun i _ => by rw [Int.zero_add]
  have e2 : rgD n = ((List.range n).map fun (i : Nat) => (i : Int)).map D.int := by unfold rgD; rw [List.map_map]; rfl
  have e3 : ((List.range n).map fun i => V.int (i : Nat)) = ((List.range n).map fun (i : Nat) => (i : Int)).map V.int := by rw [List.map_map]; rfl
  rw [e, e2, e3]
  exact ints_rep _
theorem d_tupRg {p1 p2 p3 p4 : Pos} (hc : X.calm = true) (hg : Gl X "tuple") (hm : X.mg "tuple" = none) (hg2 : Gl X "range") (hm2 : X.mg "range" = none) (he : DE CT W X e g)
    (na : starEach [e] X.env = (false, eval e X.env) :: starEach [] X.env := by rfl) (na2 : starEach [.Call (.Name "range" p2) [e] [] p3] X.env = (false, eval (.Call (.Name "range" p2) [e] [] p3) X.env) :: starEach [] X.env := by rfl) :
    DE CT W X (.Call (.Name "tuple" p1) [.Call (.Name "range" p2) [e] [] p3] [] p4) (gTupRg g) := by
  refine (pe_tupRg (p := p1) (pos := p4) hc hg hm (prg_1 (p := p2) (pos := p3) hg2 hm2 he na) na2).imp fun σ H Q h => ?_
  obtain ⟨φ, env, st, R, S, q⟩ := h
  refine ⟨φ, env, st, R, S, (Post.split q).mono ?_⟩
  rintro x H1 ⟨φ1, st1, d, E1, R1, rx, q1⟩
  split at q1
  · rename_i n
    split at q1
    · rename_i hn
      have rx' : x = .int n := repInt rx
      subst rx'
      refine ⟨n, rfl, RgOk.of_le (by omega) (by omega) (by omega) hn.1, ?_⟩
      have r := rg_rep (K := X.K) (φ := φ1) (H := H1) n.toNat
      rw [show ((n.toNat : Nat) : Int) = n by omega] at r
      exact new_tup R1 r q1
    · exact q1.elim
  · exact q1.elim
end
end MP
set_option Elab.async false
set_option linter.all false
set_option autoImplicit false
set_option maxRecDepth 100000
set_option maxHeartbeats 2000000
/-! Mp34: repr of a list of tuples, each of a text and an empty dict. -/
namespace MP
open PySem PySem.Spec PyProof.Rows L2 RZ
section
variable {X : Cx}
def DictT (K : PySem.W.Frag) (H : Hp) (t : V) (x : Str) : Prop := ∃ b c, t = V.ref b ∧ SqT K H b [V.str x, V.ref c] ∧ H c = some (.dK [])
def DictTs (K : PySem.W.Frag) (H : Hp) : List V → List Str → Prop
  | [], [] => True
  | t :: ts, x :: xs => DictT K H t x ∧ DictTs K H ts xs
  | _, _ => False
def pairE (x : Str) : PyData := .tuple [.str x, .dict []]
theorem reads_E {pins : List (Addr × Obj)} {σ : L2.St} {H : Hp} {s : Shared} (I : Inv X pins σ H s) : ∀ {ts : List V} {xs : List Str} {us : List Value}, DictTs X.K H ts xs → Vals ts us → ∃ as, ReadsAll s.heap us (xs.map pairE) as ∧ sysModules ∉ as := by
  intro ts
  induction ts with
  | nil =>
    intro xs us h v
    cases v
    cases xs with
    | nil => exact ⟨[], .nil, by simp⟩
    | cons _ _ => exact h.elim
  | cons t ts ih =>
    intro xs us h v
    cases xs with
    | nil => exact h.elim
    | cons x xs =>
      cases v with
      | cons v1 v2 =>
        obtain ⟨⟨b, c, rfl, sq, hc⟩, rest⟩ := h
        obtain ⟨as, more, no⟩ := ih rest v2
        obtain rfl : _ = Value.ref b := v1
        obtain ⟨its, rv, ⟨o, ho, cls, n, hd⟩, _⟩ := I.tuple sq
        obtain ⟨_, lo, vs, kv, od, es, ep, hg, exact_, data, _, ent, _⟩ := (show ObjOk X.prog X.w H s.heap c (.dK []) from I.hok c _ hc)
        cases kv
        have none_ : es.toList = [] := by
          cases hh : es.toList with
          | nil => rfl
          | cons _ _ => rw [hh] at ent; cases ent
        cases rv with
        | cons r1 r2 =>
          cases r2 with
          | cons r3 r4 =>
            cases r4
            obtain ⟨tk, rfl⟩ := r1
            obtain rfl : _ = Value.ref c := r3
            have dict_ : Reads s.heap (.ref c) (.dict []) (c :: [] ++ []) := .dict hg exact_.1 data (by rw [none_]; exact .nil) (by rw [none_]; exact .nil)
            refine ⟨_, .cons (.tuple ho cls hd (.cons (.str x tk) (.cons dict_ .nil))) more, fun m => ?_⟩
            simp only [List.nil_append, List.append_nil, List.cons_append, List.mem_cons] at m
            rcases m with e | m
            · rw [← e] at lo
              exact absurd lo (by decide)
            · exact no m
theorem depth_E : ∀ xs : List Str, PyData.depthAll (xs.map pairE) ≤ 2
  | [] => by simp [PyData.depthAll]
  | x :: xs => by
    have := depth_E xs
    rw [List.map_cons]
    simp only [PyData.depthAll]
    have e : (pairE x).depth = 2 := by unfold pairE; simp [PyData.depth, PyData.depthAll, PyData.depthKv]
    omega
theorem sho_E : ∀ xs : List Str, PyData.showableAll (xs.map pairE) = true
  | [] => rfl
  | x :: xs => by
    have := sho_E xs
    rw [List.map_cons]
    simp only [PyData.showableAll, this, Bool.and_true]
    unfold pairE
    simp [PyData.showable, PyData.showableAll, PyData.showableKv]
def toldE (xs : List Str) : PyData := .list (xs.map pairE)
def rReprE (K : PySem.W.Frag) : List V → Hp → VK → Prop := fun vs H Q => ∃ a ts x xs, vs = [V.ref a] ∧ SqL K H a ts ∧ DictTs K H ts (x :: xs) ∧ (toldE (x :: xs)).shown.length ≤ sizeLine ∧ Q (.str (toldE (x :: xs)).shown) H
theorem call_reprE (hu : X.A.units + 66 < cLine) (gd : X.A.guards = some []) : CallR X (.builtin "repr") (rReprE X.K) := by
  intro pins s σ H vs us Q I r h
  obtain ⟨a, ts, x, xs, rfl, sq, dt, few, q⟩ := h
  obtain ⟨u, rfl, ru⟩ := vals1 r
  obtain rfl : u = Value.ref a := ru
  obtain ⟨its, rv, ⟨o, n, ho, cls, _, hd⟩, _⟩ := I.list sq
  obtain ⟨as, all, no⟩ := reads_E I dt rv
  have few2 : (listText (PyData.shownAll ((x :: xs).map pairE))).length ≤ sizeLine := few
  obtain ⟨bs, most, ks⟩ := ReprAllK.of_readsAll (prog := X.prog) (w := X.w) all (sho_E _) (fun _ => no) fun t ht => Nat.le_trans (listText_mem_le ht) few2
  have deep := depth_E (x :: xs)
  have apart : a ∉ bs := not_mem_of_deeper (.list ho cls hd all) (by simp only [PyData.depth]; omega) most
  cases its with
  | nil =>
    cases rv
    exact dt.elim
  | cons i its =>
    refine call_repr_slot (by omega) ⟨o, ho, cls⟩ F.slot_list_repr.toG ?_
    refine call_list_reprK ho cls hd apart (by simpa using ks.length_eq) (fun j y e => ks.item j y (by simpa using e)) gd (fun b _ => Clear.nil b) ?_ (fun _ _ e => e) ?_ few2
    · show X.A.units + 1 + (_ + 1) < cLine
      omega
    · exact fun h' u tk hk => ⟨_, _, rfl, .str _, H, I.kept hk, ⟨_, rfl⟩, q⟩
/-! ### on the machine -/
def isE1 (st : Store) : D → Option Str
  | .tup [.str x, .ref n] => match st[n]? with
    | some (.dct []) => some x
    | _ => none
  | _ => none
def isEs (st : Store) : List D → Bool
  | [d] => match listD st d with
    | some (t :: _) => (isE1 st t).isSome
    | _ => false
  | _ => false
def fReprE : GF
  | [d], st => match listD st d with
    | some ts => match optAll (ts.map (isE1 st)) with
      | some (x :: xs) => if (toldE (x :: xs)).shown.length ≤ 16777216 then some (.ok (.str (toldE (x :: xs)).shown) st) else none
      | _ => none
    | none => none
  | _, _ => none
end
section
variable {K : PySem.W.Frag}
theorem isE1_ok {φ : Phi} {H : Hp} {st : Store} (R : RelH K φ H st) {d : D} {v : V} {x : Str} (e : isE1 st d = some x) (h : Rep K φ H d v) : DictT K H v x := by
  unfold isE1 at e
  split at e
  · rename_i y n
    split at e
    · rename_i hn
      cases e
      obtain ⟨a, vs, rfl, sq, all⟩ := repTup h
      unfold RepAll at all
      obtain ⟨v1, r1, rfl, h1, all⟩ := all
      unfold RepAll at all
      obtain ⟨v2, r2, rfl, h2, all⟩ := all
      rw [repAll_nil all] at sq
      obtain rfl := repStr h1
      obtain ⟨c, rfl, hc⟩ := repRef h2
      obtain ⟨ws, hw, kv⟩ := R.cell n c _ hc hn
      cases kv
      exact ⟨a, c, rfl, sq, hw⟩
    · cases e
  · cases e
theorem isEs_ok {φ : Phi} {H : Hp} {st : Store} (R : RelH K φ H st) : ∀ {ts : List D} {vs : List V} {xs : List Str}, optAll (ts.map (isE1 st)) = some xs → RepAll K φ H ts vs → DictTs K H vs xs
  | [], _, _, e, h => by
    rw [repAll_nil h]
    simp only [List.map_nil, optAll, Option.some.injEq] at e
    subst e
    trivial
  | t :: ts, _, _, e, h => by
    unfold RepAll at h
    obtain ⟨v, r, rfl, h1, h2⟩ := h
    rw [List.map_cons] at e
    cases q : isE1 st t with
    | none => rw [q] at e; cases e
    | some x =>
      rw [q] at e
      unfold optAll at e
      cases q2 : optAll (ts.map (isE1 st)) with
      | none => rw [q2] at e; cases e
      | some l =>
        rw [q2] at e
        cases e
        exact ⟨isE1_ok R q h1, isEs_ok R q2 h2⟩
theorem cd_reprE : CallD K (rReprE K) fReprE := by
  intro CT W σ φ H st ds vs Q R r q
  unfold fReprE at q
  split at q
  · rename_i st' d
    split at q
    · rename_i ts hts
      split at q
      · rename_i x xs hx
        split at q
        · rename_i few
          obtain ⟨v, rfl, h1⟩ := one_rep r
          obtain ⟨a, ws, rfl, sq, all⟩ := listD_ok R hts h1
          exact ⟨a, ws, x, xs, rfl, sq, isEs_ok R hx all, by rw [sizeLine_eq]; exact few, Post.done R (show Rep K φ H (.str _) (.str _) from rfl) q⟩
        · exact q.elim
      · exact q.elim
    · exact q.elim
  · exact q.elim
def fReprB : GF := fun ds st => if isEs st ds = true then fReprE ds st else fReprA ds st
def rReprB (K : PySem.W.Frag) : List V → Hp → VK → Prop := fun xs H Q => rReprE K xs H Q ∨ rReprA K xs H Q
theorem call_reprB {X : Cx} (hu : X.A.units + 66 < cLine) (gd : X.A.guards = some []) : CallR X (.builtin "repr") (rReprB X.K) := (call_reprE hu gd).or (call_reprA hu gd)
theorem cd_reprB : CallD K (rReprB K) fReprB := CallD.or (p := fun ds st => isEs st ds) cd_reprE cd_reprA
end
end MP
set_option Elab.async false
set_option linter.all false
set_option autoImplicit false
set_option maxRecDepth 100000
set_option maxHeartbeats 4000000
/-! Mp35: sorted of a tuple of ints. -/
namespace MP
open PySem PySem.Spec PyProof.Rows L2 RZ
section
variable {prog : Program} {w : World} {A : Around} {E : Value → Shared → Prop} {s : Shared}
abbrev gotH (h : Heap) (xs : Array Value) : Heap := (h.push (seqObj "list" #[] 0)).update h.objs.size (Obj.mapSeq (· ++ xs))
theorem gather_tup {l : Addr} {o : Obj} {xs : Array Value} {n : Nat} {Q : List Value → Shared → Prop} (ho : s.heap.get? l = some o) (hc : o.cls = .type "tuple") (hd : o.data = .seq xs n) (few : xs.size ≤ sizeLine) (h : Q xs.toList { s with heap := gotH s.heap xs }) : wpAny (model prog w) A (collect (.ref l)) Q E s := by
  have here : (s.heap.push (seqObj "list" #[] 0)).get? s.heap.objs.size = some (seqObj "list" #[] 0) := Heap.get?_push_size _ rfl
  have there : (s.heap.push (seqObj "list" #[] 0)).get? l = some o := Heap.get?_push_of_some _ ho
  unfold collect
  refine wpAny_bind (wpAny_runValue (codeAny_builtin F.entry_proto_collect ?_))
  rw [Around.under_plainId F.plain_proto_collect _]
  refine wpAny_bind (m := newList []) (wpAny_newList (wpAny_pure ⟨plainId_quiet F.plain_list_iadd _, codeAny_builtin F.entry_list_iadd ?_⟩))
  rw [Around.under_plainId F.plain_list_iadd _]
  have last : wpAny (model prog w) A (load s.heap.objs.size >>= fun o => match o.data with | .seq ys _ => pure ys.toList | _ => unsupported "internal:collect") Q E { s with heap := gotH s.heap xs } := by
    have e : ((#[] : Array Value) ++ xs).toList = xs.toList := by simp
    refine wpAny_bind (wpAny_load (get?_update_seq here _) ?_)
    show wpAny _ _ (pure ((#[] : Array Value) ++ xs).toList) Q E _
    rw [e]
    exact wpAny_pure h
  refine wpAny_mono (wpAny_extend_seq (A := A) (T := "tuple") (R := fun r t => r = .ok (.ret (.ref s.heap.objs.size)) ∧ t = { s with heap := gotH s.heap xs }) (s := { s with heap := s.heap.push (seqObj "list" #[] 0) }) s.heap.objs.size l (.ref s.heap.objs.size) 0 (.inr rfl) here there hc hd ⟨rfl, rfl⟩ few) (fun fin t k => ?_) (fun e t k => ?_)
  · cases fin with
    | done f =>
      obtain ⟨e, rfl⟩ := k
      cases e
      exact last
    | again c =>
      refine ⟨k.1, codeAny_mono k.2 fun r t2 k2 => ?_⟩
      obtain ⟨rfl, rfl⟩ := k2
      exact last
  · exact absurd k.1 (by simp)
open SrtO in
theorem sorted_tupI {l : Addr} {o : Obj} {vs : List Value} {n : Nat} {ns : List Int} {Q : Value → Shared → Prop} (ho : s.heap.get? l = some o) (hc : o.cls = .type "tuple") (hd : o.data = .seq vs.toArray n) (few : vs.length ≤ sizeLine) (hi : IntsAre vs ns)
    (h : ∀ out : List Value, Srtd ltIv out → Stb ltIv out vs → Q (.ref (s.heap.objs.size + 1)) { s with heap := sortedAll s.heap vs out.toArray }) : wpAny (model prog w) A (call (.builtin "sorted") [.ref l]) Q E s := by
  have big : (gotH s.heap vs.toArray).objs.size = s.heap.objs.size + 1 := by rw [show gotH s.heap vs.toArray = _ from rfl, Heap.size_update, size_push']
  have held : ((gotH s.heap vs.toArray).push (seqObj "list" vs.toArray 0)).get? (s.heap.objs.size + 1) = some (seqObj "list" vs.toArray 0) := by
    rw [← big]
    exact Heap.get?_push_size _ rfl
  apply Calls.call_function_entry kind_sorted plain_sorted entry_sorted (args_sorted1 _)
  unfold Builtin.«sorted»
  refine wpAny_bind (m := checkCount "sorted" 1 1 _) (wpAny_pure (wpAny_bind (gather_tup ho hc hd (by simpa using few) (wpAny_bind (wpAny_newList ?_ few)))))
  show wpAny _ _ _ _ _ { s with heap := (gotH s.heap vs.toArray).push (seqObj "list" vs.toArray 0) }
  rw [big]
  exact wpAny_bind (wpAny_holding (wpAny_call_entry slot_list_sort ⟨_, held, rfl⟩ entry_list_sort (list_sort_ord swo_int held few (fun two => ints_sortable hi two) fun out a b => ⟨_, rfl, wpAny_pure ⟨_, rfl, h out a b⟩⟩) (args_list_sort _)))
end
section
variable {X : Cx} {K : PySem.W.Frag}
def rSortTupI (K : PySem.W.Frag) : List V → Hp → VK → Prop := fun xs H Q => ∃ (a : Addr) (ns : List Int), xs = [V.ref a] ∧ SqT K H a (ns.map V.int) ∧ ∀ (ms : List Int) (p : Addr), ms.Perm ns → ms.Pairwise (· ≤ ·) → H p = none → Q (.ref p) (upd H p (.lst (ms.map V.int)))
theorem call_sortTupI : CallR X (.builtin "sorted") (rSortTupI X.K) := by
  intro pins s σ H xs us Q I r h
  obtain ⟨a, ns, rfl, sq, q⟩ := h
  obtain ⟨its, rv, ⟨o, ho, cls, n, hd⟩, len⟩ := I.tuple sq
  rw [Vals.ref1 r]
  have numb := rv.ints
  refine sorted_tupI ho cls hd (by rw [← rv.length]; exact len) numb fun out a1 a2 => ?_
  obtain ⟨k1, k2, k3⟩ := SrtO.ints_out numb a1 a2
  obtain ⟨ep, new_⟩ := PyProof.Rows.sortedAll_at s.heap its out.toArray
  have few : ((out.map SrtO.iv).map V.int).length ≤ sizeLine := by rw [List.length_map, k2.length_eq]; rw [List.length_map] at len; exact len
  refine ⟨.ref _, upd H (s.heap.objs.size + 1) (.lst ((out.map SrtO.iv).map V.int)), ?_, rfl, q _ _ k2 k3 (I.hok.fresh (Nat.le_succ _))⟩
  exact I.laid (t' := s.toks) (fun _ _ => PyProof.Rows.sortedAll_old) (Nat.le_succ _) ⟨few, out, ep, vals_of_ints k1, new_⟩
def isTupI : List D → Bool
  | [.tup _] => true
  | _ => false
def fSortTup : GF
  | [.tup ds], st => match optAll (ds.map intD) with
    | some ns => some (.ok (.ref st.length) (st ++ [.lst ((ns.mergeSort fun a b => decide (a ≤ b)).map .int)]))
    | none => none
  | _, _ => none
theorem cd_sortTup : CallD K (rSortTupI K) fSortTup := by
  intro CT W σ φ H st ds vs Q R r q
  unfold fSortTup at q
  split at q
  · rename_i st' xs
    split at q
    · rename_i ns hn
      obtain ⟨v, rfl, h1⟩ := one_rep r
      obtain ⟨a, ws, rfl, sq, all⟩ := repTup h1
      rw [ints_of hn] at all
      rw [ints_back all] at sq
      refine ⟨a, ns, rfl, sq, fun ms p p1 p2 hp => ?_⟩
      rw [sort_ints_one p1 p2]
      exact new_lst R (ints_rep _) q p hp
    · exact q.elim
  · exact q.elim
def fSorted3 : GF := fun ds st => if isTupI ds = true then fSortTup ds st else fSorted ds st
def rSortedC (X : Cx) : List V → Hp → VK → Prop := fun xs H Q => rSortTupI X.K xs H Q ∨ rSortedA X xs H Q
theorem call_sortedC (hc : X.calm = true) (hu : X.A.units + 64 < cLine) : CallR X (.builtin "sorted") (rSortedC X) := call_sortTupI.or (call_sortedA hc hu)
theorem cd_sorted3 : CallD X.K (rSortedC X) fSorted3 := CallD.or (p := fun ds _ => isTupI ds) cd_sortTup cd_sorted
end
end MP
set_option Elab.async false
set_option linter.all false
set_option autoImplicit false
set_option maxRecDepth 100000
set_option maxHeartbeats 0
namespace Mk01
open PySem PySem.Spec PyProof.Rows L2 MP
/-! ### where the defs stand -/
def top (i : Nat) : Stmt := PySem.Challenge.pw_turnsall_k01_whole_lowers.main.body.getD i (.Pass ⟨0, 0, 0, 0⟩)
def inClass (s : Stmt) : Stmt := match s with
  | .ClassDef (body := b) .. => b.getD 0 (.Pass ⟨0, 0, 0, 0⟩)
  | _ => .Pass ⟨0, 0, 0, 0⟩
abbrev s__law_begin : Stmt := top 46
abbrev s__law_mixed : Stmt := top 45
abbrev s__law_draw : Stmt := top 47
abbrev s__law_of : Stmt := top 48
abbrev s__law_bent : Stmt := top 59
abbrev s__law_heard : Stmt := top 56
abbrev s__law_aheads : Stmt := top 50
abbrev s__law_is_number : Stmt := top 53
abbrev s__law_is_lot : Stmt := top 54
abbrev s__law_is_lower : Stmt := top 55
abbrev s__law_lot : Stmt := top 52
abbrev s__law_lowers : Stmt := top 51
abbrev s__law_put_due : Stmt := top 57
abbrev s_has_bit : Stmt := top 9
abbrev s_is_within : Stmt := top 10
abbrev s_mask_of : Stmt := top 7
abbrev s_can_be_put : Stmt := top 13
abbrev s_lot_of : Stmt := top 8
abbrev s_masks_ahead : Stmt := top 11
abbrev s_is_ascending : Stmt := top 25
abbrev s_is_number : Stmt := top 23
abbrev s_is_lot : Stmt := top 26
abbrev s_is_lower_mask : Stmt := top 12
abbrev s_is_plain_lower : Stmt := top 33
abbrev s__copied : Stmt := top 22
abbrev s_plain : Stmt := top 21
abbrev s_wanted_lower : Stmt := top 32
abbrev s_is_tuple_of : Stmt := top 24
abbrev s__are_pairs : Stmt := top 30
abbrev s_wanted_order : Stmt := top 29
abbrev s_can_put : Stmt := top 37
abbrev s_can_be_taken : Stmt := top 14
abbrev s_can_take : Stmt := top 38
abbrev s_wanted_item : Stmt := top 31
abbrev s_put : Stmt := top 39
abbrev s_taken : Stmt := top 40
abbrev s__law_moves_good : Stmt := top 58
abbrev s__law_order : Stmt := top 49
abbrev s__add_lowers : Stmt := top 16
abbrev s_lowers_of : Stmt := top 15
abbrev s_all_lowers : Stmt := top 43
abbrev s_is_lower : Stmt := top 36
abbrev s_join : Stmt := top 42
abbrev s_meet : Stmt := top 41
abbrev s__law_good : Stmt := top 60
abbrev s_law : Stmt := top 61
abbrev s_BadLower_init : Stmt := inClass (top 4)
abbrev s_BadOrder_init : Stmt := inClass (top 2)
abbrev s_BadItem_init : Stmt := inClass (top 3)
abbrev s_TooMany_init : Stmt := inClass (top 5)
def d__law_begin : He.DefD := ⟨("_law_begin", none), "_law_begin", "_law_begin", defArgs s__law_begin, defBody s__law_begin, defScope s__law_begin, [], []⟩
def d__law_mixed : He.DefD := ⟨("_law_mixed", none), "_law_mixed", "_law_mixed", defArgs s__law_mixed, defBody s__law_mixed, defScope s__law_mixed, [], []⟩
def d__law_draw : He.DefD := ⟨("_law_draw", none), "_law_draw", "_law_draw", defArgs s__law_draw, defBody s__law_draw, defScope s__law_draw, [], []⟩
def d__law_of : He.DefD := ⟨("_law_of", none), "_law_of", "_law_of", defArgs s__law_of, defBody s__law_of, defScope s__law_of, [], []⟩
def d__law_bent : He.DefD := ⟨("_law_bent", none), "_law_bent", "_law_bent", defArgs s__law_bent, defBody s__law_bent, defScope s__law_bent, [], []⟩
def d__law_heard : He.DefD := ⟨("_law_heard", none), "_law_heard", "_law_heard", defArgs s__law_heard, defBody s__law_heard, defScope s__law_heard, [], []⟩
def d__law_aheads : He.DefD := ⟨("_law_aheads", none), "_law_aheads", "_law_aheads", defArgs s__law_aheads, defBody s__law_aheads, defScope s__law_aheads, [], []⟩
def d__law_is_number : He.DefD := ⟨("_law_is_number", none), "_law_is_number", "_law_is_number", defArgs s__law_is_number, defBody s__law_is_number, defScope s__law_is_number, [], []⟩
def d__law_is_lot : He.DefD := ⟨("_law_is_lot", none), "_law_is_lot", "_law_is_lot", defArgs s__law_is_lot, defBody s__law_is_lot, defScope s__law_is_lot, [], []⟩
def d__law_is_lower : He.DefD := ⟨("_law_is_lower", none), "_law_is_lower", "_law_is_lower", defArgs s__law_is_lower, defBody s__law_is_lower, defScope s__law_is_lower, [], []⟩
def d__law_lot : He.DefD := ⟨("_law_lot", none), "_law_lot", "_law_lot", defArgs s__law_lot, defBody s__law_lot, defScope s__law_lot, [], []⟩
def d__law_lowers : He.DefD := ⟨("_law_lowers", none), "_law_lowers", "_law_lowers", defArgs s__law_lowers, defBody s__law_lowers, defScope s__law_lowers, [], []⟩
def d__law_put_due : He.DefD := ⟨("_law_put_due", none), "_law_put_due", "_law_put_due", defArgs s__law_put_due, defBody s__law_put_due, defScope s__law_put_due, [], []⟩
def d_has_bit : He.DefD := ⟨("has_bit", none), "has_bit", "has_bit", defArgs s_has_bit, defBody s_has_bit, defScope s_has_bit, [], []⟩
def d_is_within : He.DefD := ⟨("is_within", none), "is_within", "is_within", defArgs s_is_within, defBody s_is_within, defScope s_is_within, [], []⟩
def d_mask_of : He.DefD := ⟨("mask_of", none), "mask_of", "mask_of", defArgs s_mask_of, defBody s_mask_of, defScope s_mask_of, [], []⟩
def d_can_be_put : He.DefD := ⟨("can_be_put", none), "can_be_put", "can_be_put", defArgs s_can_be_put, defBody s_can_be_put, defScope s_can_be_put, [], []⟩
def d_lot_of : He.DefD := ⟨("lot_of", none), "lot_of", "lot_of", defArgs s_lot_of, defBody s_lot_of, defScope s_lot_of, [], []⟩
def d_masks_ahead : He.DefD := ⟨("masks_ahead", none), "masks_ahead", "masks_ahead", defArgs s_masks_ahead, defBody s_masks_ahead, defScope s_masks_ahead, [], []⟩
def d_is_ascending : He.DefD := ⟨("is_ascending", none), "is_ascending", "is_ascending", defArgs s_is_ascending, defBody s_is_ascending, defScope s_is_ascending, [], []⟩
def d_is_number : He.DefD := ⟨("is_number", none), "is_number", "is_number", defArgs s_is_number, defBody s_is_number, defScope s_is_number, [], []⟩
def d_is_lot : He.DefD := ⟨("is_lot", none), "is_lot", "is_lot", defArgs s_is_lot, defBody s_is_lot, defScope s_is_lot, [], []⟩
def d_is_lower_mask : He.DefD := ⟨("is_lower_mask", none), "is_lower_mask", "is_lower_mask", defArgs s_is_lower_mask, defBody s_is_lower_mask, defScope s_is_lower_mask, [], []⟩
def d_is_plain_lower : He.DefD := ⟨("is_plain_lower", none), "is_plain_lower", "is_plain_lower", defArgs s_is_plain_lower, defBody s_is_plain_lower, defScope s_is_plain_lower, [], []⟩
def d__copied : He.DefD := ⟨("_copied", none), "_copied", "_copied", defArgs s__copied, defBody s__copied, defScope s__copied, [], []⟩
def d_plain : He.DefD := ⟨("plain", none), "plain", "plain", defArgs s_plain, defBody s_plain, defScope s_plain, [], []⟩
def d_wanted_lower : He.DefD := ⟨("wanted_lower", none), "wanted_lower", "wanted_lower", defArgs s_wanted_lower, defBody s_wanted_lower, defScope s_wanted_lower, [], []⟩
def d_is_tuple_of : He.DefD := ⟨("is_tuple_of", none), "is_tuple_of", "is_tuple_of", defArgs s_is_tuple_of, defBody s_is_tuple_of, defScope s_is_tuple_of, [], []⟩
def d__are_pairs : He.DefD := ⟨("_are_pairs", none), "_are_pairs", "_are_pairs", defArgs s__are_pairs, defBody s__are_pairs, defScope s__are_pairs, [], []⟩
def d_wanted_order : He.DefD := ⟨("wanted_order", none), "wanted_order", "wanted_order", defArgs s_wanted_order, defBody s_wanted_order, defScope s_wanted_order, [], []⟩
def d_can_put : He.DefD := ⟨("can_put", none), "can_put", "can_put", defArgs s_can_put, defBody s_can_put, defScope s_can_put, [], []⟩
def d_can_be_taken : He.DefD := ⟨("can_be_taken", none), "can_be_taken", "can_be_taken", defArgs s_can_be_taken, defBody s_can_be_taken, defScope s_can_be_taken, [], []⟩
def d_can_take : He.DefD := ⟨("can_take", none), "can_take", "can_take", defArgs s_can_take, defBody s_can_take, defScope s_can_take, [], []⟩
def d_wanted_item : He.DefD := ⟨("wanted_item", none), "wanted_item", "wanted_item", defArgs s_wanted_item, defBody s_wanted_item, defScope s_wanted_item, [], []⟩
def d_put : He.DefD := ⟨("put", none), "put", "put", defArgs s_put, defBody s_put, defScope s_put, [], []⟩
def d_taken : He.DefD := ⟨("taken", none), "taken", "taken", defArgs s_taken, defBody s_taken, defScope s_taken, [], []⟩
def d__law_moves_good : He.DefD := ⟨("_law_moves_good", none), "_law_moves_good", "_law_moves_good", defArgs s__law_moves_good, defBody s__law_moves_good, defScope s__law_moves_good, [], []⟩
def d__law_order : He.DefD := ⟨("_law_order", none), "_law_order", "_law_order", defArgs s__law_order, defBody s__law_order, defScope s__law_order, [], []⟩
def d__add_lowers : He.DefD := ⟨("_add_lowers", none), "_add_lowers", "_add_lowers", defArgs s__add_lowers, defBody s__add_lowers, defScope s__add_lowers, [], []⟩
def d_lowers_of : He.DefD := ⟨("lowers_of", none), "lowers_of", "lowers_of", defArgs s_lowers_of, defBody s_lowers_of, defScope s_lowers_of, [], []⟩
def d_all_lowers : He.DefD := ⟨("all_lowers", none), "all_lowers", "all_lowers", defArgs s_all_lowers, defBody s_all_lowers, defScope s_all_lowers, [], []⟩
def d_is_lower : He.DefD := ⟨("is_lower", none), "is_lower", "is_lower", defArgs s_is_lower, defBody s_is_lower, defScope s_is_lower, [], []⟩
def d_join : He.DefD := ⟨("join", none), "join", "join", defArgs s_join, defBody s_join, defScope s_join, [], []⟩
def d_meet : He.DefD := ⟨("meet", none), "meet", "meet", defArgs s_meet, defBody s_meet, defScope s_meet, [], []⟩
def d__law_good : He.DefD := ⟨("_law_good", none), "_law_good", "_law_good", defArgs s__law_good, defBody s__law_good, defScope s__law_good, [], []⟩
def d_law : He.DefD := ⟨("law", none), "law", "law", defArgs s_law, defBody s_law, defScope s_law, [], []⟩
def d_BadLower_init : He.DefD := ⟨("BadLower", some "__init__"), "__init__", "BadLower.__init__", defArgs s_BadLower_init, defBody s_BadLower_init, defScope s_BadLower_init, [], []⟩
def d_BadOrder_init : He.DefD := ⟨("BadOrder", some "__init__"), "__init__", "BadOrder.__init__", defArgs s_BadOrder_init, defBody s_BadOrder_init, defScope s_BadOrder_init, [], []⟩
def d_BadItem_init : He.DefD := ⟨("BadItem", some "__init__"), "__init__", "BadItem.__init__", defArgs s_BadItem_init, defBody s_BadItem_init, defScope s_BadItem_init, [], []⟩
def d_TooMany_init : He.DefD := ⟨("TooMany", some "__init__"), "__init__", "TooMany.__init__", defArgs s_TooMany_init, defBody s_TooMany_init, defScope s_TooMany_init, [], []⟩
def excs : Excs := [("BadLower", ["given"]), ("BadOrder", ["part"]), ("BadItem", ["given"]), ("TooMany", ["most"])]
def catches : Catch := [("BadLower", "TurnError", true), ("BadLower", "TooMany", false), ("BadLower", "BadLower", true), ("BadLower", "BadItem", false), ("BadOrder", "TurnError", true), ("BadOrder", "TooMany", false), ("BadOrder", "BadLower", false), ("BadOrder", "BadItem", false), ("BadItem", "TurnError", true), ("BadItem", "TooMany", false), ("BadItem", "BadLower", false), ("BadItem", "BadItem", true), ("TooMany", "TurnError", false), ("TooMany", "TooMany", true), ("TooMany", "BadLower", false), ("TooMany", "BadItem", false)]
def facts : List He.Fa := [.free "list",
  .glo "_law_begin",
  .free "int",
  .glo "_law_mixed",
  .free "len",
  .glo "_law_draw",
  .glo "_law_of",
  .glo "_law_bent",
  .glo "TurnError",
  .glo "TooMany",
  .glo "BadLower",
  .glo "BadItem",
  .glo "_law_heard",
  .free "range",
  .free "sorted",
  .glo "_law_aheads",
  .free "isinstance",
  .free "bool",
  .glo "_law_is_number",
  .free "tuple",
  .free "zip",
  .glo "_law_is_lot",
  .glo "_law_is_lower",
  .glo "_law_lot",
  .glo "_law_lowers",
  .glo "_law_put_due",
  .glo "has_bit",
  .glo "is_within",
  .glo "mask_of",
  .free "enumerate",
  .glo "can_be_put",
  .glo "lot_of",
  .glo "masks_ahead",
  .free "all",
  .glo "is_ascending",
  .glo "is_number",
  .glo "is_lot",
  .glo "is_lower_mask",
  .glo "is_plain_lower",
  .str "ALIEN" "",
  .free "str",
  .glo "_copied",
  .int "MOST_DEEP" (100),
  .int "MOST_THINGS" (200000),
  .glo "plain",
  .glo "wanted_lower",
  .glo "is_tuple_of",
  .glo "_are_pairs",
  .int "MOST_ITEMS" (20),
  .glo "wanted_order",
  .glo "can_put",
  .glo "can_be_taken",
  .glo "can_take",
  .glo "wanted_item",
  .glo "put",
  .glo "taken",
  .free "repr",
  .glo "_law_moves_good",
  .glo "_law_order",
  .glo "_add_lowers",
  .glo "lowers_of",
  .int "MOST_LOWERS" (400),
  .glo "all_lowers",
  .glo "is_lower",
  .glo "join",
  .glo "meet",
  .free "set",
  .glo "_law_good",
  .free "min",
  .glo "law",
  .glo "BadOrder"]
def fns : List He.DefD := [d__law_begin, d__law_mixed, d__law_draw, d__law_of, d__law_bent, d__law_heard, d__law_aheads, d__law_is_number, d__law_is_lot, d__law_is_lower, d__law_lot, d__law_lowers, d__law_put_due, d_has_bit, d_is_within, d_mask_of, d_can_be_put, d_lot_of, d_masks_ahead, d_is_ascending, d_is_number, d_is_lot, d_is_lower_mask, d_is_plain_lower, d__copied, d_plain, d_wanted_lower, d_is_tuple_of, d__are_pairs, d_wanted_order, d_can_put, d_can_be_taken, d_can_take, d_wanted_item, d_put, d_taken, d__law_moves_good, d__law_order, d__add_lowers, d_lowers_of, d_all_lowers, d_is_lower, d_join, d_meet, d__law_good, d_law, d_BadLower_init, d_BadOrder_init, d_BadItem_init, d_TooMany_init]
def ask : Ask := ⟨facts, excs, ["BadLower", "BadOrder", "BadItem", "TooMany"], catches, fns⟩
def askT : AskT := ⟨ask, [("_law_moves_good", none), ("_law_good", none), ("law", none)]⟩
/-! ### the mirror -/
def S__law_begin : GS :=
    (sSeq (sSet 1 (gIf (gb1 (g2 fNe (gv 0) (gLst aNil))) (gFn fList (aCons (gv 0) aNil)) (gLst (aCons (gc (.int 0)) aNil))))
    (sRet (gDisp (kCons "cells" (gv 1) (kCons "lefts" (gLc (gSeq (gv 1)) (tgName 2) ttYes (gIf (gb1 (g2 fGeA (gv 2) (g2 fPow (gc (.int 10)) (gc (.int 18))))) (gv 2) (gc (.int 0))) [2]) (kCons "at" (gc (.int 0)) (kCons "room" (gc (.int 0)) kNil)))))))
def G__law_begin : GF := gBody 3 S__law_begin
def S__law_mixed : GS :=
    (sSeq (sSet 0 (g2 fMod (gFn fInt (aCons (gv 0) aNil)) (gc (.int 2147483647))))
    (sRet (g2 fMod (g2 fMul (g2 fMod (g2 fAdd (g2 fAdd (g2 fMul (gv 0) (g2 fAdd (gc (.int 48271)) (g2 fMul (g2 fMul (gc (.int 2)) (gv 1)) (gv 1)))) (g2 fMul (gc (.int 69621)) (gv 1))) (gc (.int 11))) (gc (.int 2147483647))) (gc (.int 69621))) (gc (.int 2147483629)))))
def G__law_mixed : GF := gBody 2 S__law_mixed
def S__law_draw : GS :=
    (sSeq (sSet 2 (g2 fIx (gv 0) (gc (.str "at"))))
    (sSeq (sSetSub (gv 0) (gc (.str "at")) (g2 fAdd (gv 2) (gc (.int 1))))
    (sSeq (sSet 3 (g2 fMod (gFn fInt (aCons (gv 2) aNil)) (gFn fLen (aCons (g2 fIx (gv 0) (gc (.str "cells"))) aNil))))
    (sSeq (sSet 4 (g2 fIx (g2 fIx (gv 0) (gc (.str "lefts"))) (gv 3)))
    (sSeq (sIf (gb1 (g2 fGt (gv 4) (gc (.int 0)))) (sSeq (sSetSub (g2 fIx (gv 0) (gc (.str "lefts"))) (gv 3) (g2 fDiv (gv 4) (gv 1)))
    (sRet (g2 fMod (gFn fInt (aCons (gv 4) aNil)) (gv 1)))) sNext)
    (sSeq (sSet 5 (gCall 2 G__law_mixed (aCons (gCall 2 G__law_mixed (aCons (g2 fIx (g2 fIx (gv 0) (gc (.str "cells"))) (gv 3)) (aCons (gv 2) aNil))) (aCons (g2 fAdd (gc (.int 40)) (gv 2)) aNil))))
    (sRet (g2 fMod (g2 fDiv (gFn fInt (aCons (g2 fAdd (g2 fMul (gv 5) (gc (.int 2147483647))) (gCall 2 G__law_mixed (aCons (gv 5) (aCons (g2 fAdd (gc (.int 7)) (gv 2)) aNil)))) aNil)) (gc (.int 64))) (gv 1)))))))))
def G__law_draw : GF := gBody 6 S__law_draw
def S__law_of : GS :=
    (sRet (g2 fIx (gv 1) (gCall 2 G__law_draw (aCons (gv 0) (aCons (gFn fLen (aCons (gv 1) aNil)) aNil)))))
def G__law_of : GF := gBody 2 S__law_of
def S__law_bent : GS :=
    (sSeq (sPar 3 4 (aCons (gCall 2 G__law_draw (aCons (gv 0) (aCons (gc (.int 7)) aNil))) (aCons (gCall 2 G__law_draw (aCons (gv 0) (aCons (g2 fAdd (gFn fLen (aCons (gv 2) aNil)) (gc (.int 1))) aNil))) aNil)))
    (sSeq (sIf (gb1 (g2 fEq (gv 3) (gc (.int 0)))) (sRet (g2 fAdd (gSl fSl (gv 2) gNoPart (gPart (gv 4))) (gSl fSl (gv 2) (gPart (g2 fAdd (gv 4) (gc (.int 1)))) gNoPart))) sNext)
    (sSeq (sIf (gb1 (g2 fEq (gv 3) (gc (.int 1)))) (sRet (gRevT (gv 2))) sNext)
    (sSeq (sIf (gb1 (g2 fEq (gv 3) (gc (.int 2)))) (sRet (g2 fAdd (gv 2) (gSl fSl (gv 2) (gPart (gv 4)) (gPart (g2 fAdd (gv 4) (gc (.int 1))))))) sNext)
    (sSeq (sIf (gb1 (g2 fEq (gv 3) (gc (.int 3)))) (sRet (gFn fList (aCons (gv 2) aNil))) sNext)
    (sSeq (sIf (gb1 (g2 fEq (gv 3) (gc (.int 4)))) (sRet (g2 fAdd (gv 2) (gTup (aCons (gCall 2 G__law_of (aCons (gv 0) (aCons (gLst (aCons (gv 1) (aCons (gUn (fun i => -i) (gc (.int 1))) (aCons (gc .non) (aCons (gc (.str "0")) (aCons (gTup (aCons (gc (.int 0)) aNil)) aNil)))))) aNil))) aNil)))) sNext)
    (sSeq (sIf (gb1 (g2 fEq (gv 3) (gc (.int 5)))) (sRet (gCall 2 G__law_of (aCons (gv 0) (aCons (gLst (aCons (gc .non) (aCons (gv 1) (aCons (gc (.str "")) (aCons gD0 (aCons (gTup (aCons (gc (.bl true)) aNil)) (aCons (gTup (aCons (gc (.bl false)) aNil)) (aCons (gTup (aCons (gTup aNil) aNil)) aNil)))))))) aNil)))) sNext)
    (sRet (gv 2)))))))))
def G__law_bent : GF := gBody 5 S__law_bent
def S__law_heard (th : Thk) : GS :=
    (sTry (ntOf excs) (sRet (gLst (aCons (gThk th) aNil))) ((mOf catches "BadItem", some 1, fun names fs => (sRet (gTup (aCons (gc (.str "item")) (aCons (gFld names fs "given") aNil))))) :: ((mOf catches "BadLower", some 1, fun names fs => (sRet (gTup (aCons (gc (.str "lower")) (aCons (gFld names fs "given") aNil))))) :: ((mOf catches "TooMany", some 1, fun names fs => (sRet (gTup (aCons (gc (.str "many")) (aCons (gFld names fs "most") aNil))))) :: ((mOf catches "TurnError", none, fun _ _ => (sRet (gTup (aCons (gc (.str "other")) (aCons (gc .non) aNil))))) :: [])))))
def S__law_aheads : GS :=
    (sSeq (sSet 1 (gLst aNil))
    (sSeq (sFor (gRng1 (aCons (g2 fIx (gv 0) (gc (.int 0))) aNil)) (tgName 2) (sSeq (sSet 3 (gLc (gSeq (g2 fIx (gv 0) (gc (.int 1)))) (tgName 4) (gb1 (g2 fEq (g2 fIx (gv 4) (gc (.int 1))) (gv 2))) (g2 fIx (gv 4) (gc (.int 0))) [4]))
    (sSeq (sSet 5 gD0)
    (sSeq (sFor (gSeq (gv 3)) (tgName 6) (sSeq (sSetSub (gv 5) (gv 6) (gc (.bl true)))
    (sFor (gSeq (g2 fIx (gv 1) (gv 6))) (tgName 7) (sSetSub (gv 5) (gv 7) (gc (.bl true))))))
    (sExpr (gMethL fAppend (gv 1) (aCons (gFn fSorted (aCons (gv 5) aNil)) aNil)))))))
    (sRet (gv 1))))
def G__law_aheads : GF := gBody 8 S__law_aheads
def S__law_is_number : GS :=
    (sRet (gAnd (gIsI "int" (gv 0)) (gAnd (gNot (gIsI "bool" (gv 0))) (gChain fLe fLt (gc (.int 0)) (gv 0) (gv 1)))))
def G__law_is_number : GF := gBody 2 S__law_is_number
def S__law_is_lot : GS :=
    (sSeq (sIf (gOrT (gNotT (gb1 (gIsI "tuple" (gv 1)))) (gb1 (g2 fNe (gLc (gSeq (gv 1)) (tgName 2) (gNotT (gb1 (gCall 2 G__law_is_number (aCons (gv 2) (aCons (gv 0) aNil))))) (gv 2) [2]) (gLst aNil)))) (sRet (gc (.bl false))) sNext)
    (sRet (g2 fEq (gLc (gZip (aCons (gv 1) (aCons (gSl fSl (gv 1) (gPart (gc (.int 1))) gNoPart) aNil))) (tgTup 2 (tgsCons (tgName 3) (tgsCons (tgName 4) tgsNil))) (gb1 (g2 fGeA (gv 3) (gv 4))) (gc (.int 1)) [3, 4]) (gLst aNil))))
def G__law_is_lot : GF := gBody 5 S__law_is_lot
def S__law_is_lower : GS :=
    (sSeq (sIf (gNotT (gb1 (gCall 2 G__law_is_lot (aCons (g2 fIx (gv 0) (gc (.int 0))) (aCons (gv 1) aNil))))) (sRet (gc (.bl false))) sNext)
    (sSeq (sSet 2 (gCall 1 G__law_aheads (aCons (gv 0) aNil)))
    (sRet (g2 fEq (gLc (gSeq (gv 1)) (tgName 3) (gb1 (g2 fNe (gLc (gSeq (g2 fIx (gv 2) (gv 3))) (tgName 4) (gb1 (g2 (fIn true) (gv 4) (gv 1))) (gv 4) [4]) (gLst aNil))) (gv 3) [3]) (gLst aNil)))))
def G__law_is_lower : GF := gBody 5 S__law_is_lower
def S__law_lot : GS :=
    (sSeq (sSet 2 (g2 fAdd (gc (.int 1)) (gCall 2 G__law_draw (aCons (gv 0) (aCons (gc (.int 4)) aNil)))))
    (sRet (gFn fTuple (aCons (gLc (gRng1 (aCons (gv 1) aNil)) (tgName 3) (gb1 (g2 fLt (gCall 2 G__law_draw (aCons (gv 0) (aCons (gc (.int 5)) aNil))) (gv 2))) (gv 3) [3]) aNil))))
def G__law_lot : GF := gBody 4 S__law_lot
def S__law_lowers : GS :=
    (sSeq (sPar 1 2 (aCons (gCall 1 G__law_aheads (aCons (gv 0) aNil)) (aCons (gLst (aCons (gTup aNil) aNil)) aNil)))
    (sSeq (sFor (gRng1 (aCons (g2 fIx (gv 0) (gc (.int 0))) aNil)) (tgName 3) (sSeq (sSet 4 (gLst aNil))
    (sSeq (sFor (gSeq (gv 2)) (tgName 5) (sIf (gb1 (g2 fEq (gLc (gSeq (g2 fIx (gv 1) (gv 3))) (tgName 6) (gb1 (g2 (fIn true) (gv 6) (gv 5))) (gc (.int 1)) [6]) (gLst aNil))) (sExpr (gMethL fAppend (gv 4) (aCons (g2 fAdd (gv 5) (gTup (aCons (gv 3) aNil))) aNil))) sNext))
    (sSet 2 (g2 fAdd (gv 2) (gv 4))))))
    (sRet (gFn fSorted2 (aCons (gv 2) aNil)))))
def G__law_lowers : GF := gBody 7 S__law_lowers
def S__law_put_due : GS :=
    (sSeq (sSet 2 (gCall 1 G__law_aheads (aCons (gv 0) aNil)))
    (sSeq (sSet 3 (gLc (gRng1 (aCons (g2 fIx (gv 0) (gc (.int 0))) aNil)) (tgName 4) (gb1 (g2 (fIn true) (gv 4) (gv 1))) (gv 4) [4]))
    (sSeq (sSet 3 (gLc (gSeq (gv 3)) (tgName 4) (gb1 (g2 fEq (gLc (gSeq (g2 fIx (gv 2) (gv 4))) (tgName 5) (gb1 (g2 (fIn true) (gv 5) (gv 1))) (gv 5) [5]) (gLst aNil))) (gv 4) [4]))
    (sRet (gTup (aCons (gFn fTuple (aCons (gv 3) aNil)) (aCons (gFn fTuple (aCons (gLc (gSeq (gv 1)) (tgName 4) (gb1 (g2 fEq (gLc (gSeq (gv 1)) (tgName 6) (gb1 (g2 (fIn false) (gv 4) (g2 fIx (gv 2) (gv 6)))) (gv 6) [6]) (gLst aNil))) (gv 4) [4]) aNil)) aNil)))))))
def G__law_put_due : GF := gBody 7 S__law_put_due
def S_has_bit : GS :=
    (sRet (g2 fEq (g2 fAnd (g2 fShr (gv 0) (gv 1)) (gc (.int 1))) (gc (.int 1))))
def G_has_bit : GF := gBody 2 S_has_bit
def S_is_within : GS :=
    (sRet (g2 fEq (g2 fAnd (gv 0) (gv 1)) (gv 0)))
def G_is_within : GF := gBody 2 S_is_within
def S_mask_of : GS :=
    (sSeq (sSet 1 (gc (.int 0)))
    (sSeq (sFor (gSeq (gv 0)) (tgName 2) (sAug 1 fOr (g2 fShl (gc (.int 1)) (gv 2))))
    (sRet (gv 1))))
def G_mask_of : GF := gBody 3 S_mask_of
def S_can_be_put : GS :=
    (sSeq (sSet 2 (gCall 1 G_mask_of (aCons (gv 1) aNil)))
    (sRet (gFn fTuple (aCons (gLc (gEnum (aCons (gv 0) aNil)) (tgTup 2 (tgsCons (tgName 3) (tgsCons (tgName 4) tgsNil))) (gAndT (gNotT (gb1 (gCall 2 G_has_bit (aCons (gv 2) (aCons (gv 3) aNil))))) (gb1 (gCall 2 G_is_within (aCons (gv 4) (aCons (gv 2) aNil))))) (gv 3) [3, 4]) aNil))))
def G_can_be_put : GF := gBody 5 S_can_be_put
def S_lot_of : GS :=
    (sRet (gFn fTuple (aCons (gLc (gRng1 (aCons (gBits (gv 0)) aNil)) (tgName 1) (gb1 (gCall 2 G_has_bit (aCons (gv 0) (aCons (gv 1) aNil)))) (gv 1) [1]) aNil)))
def G_lot_of : GF := gBody 2 S_lot_of
def S_masks_ahead : GS :=
    (sSeq (sAsg (tgTup 2 (tgsCons (tgName 1) (tgsCons (tgName 2) tgsNil))) (gv 0))
    (sSeq (sSet 3 (g2 fMul (gLst (aCons (gc (.int 0)) aNil)) (gv 1)))
    (sSeq (sFor (gSeq (gv 2)) (tgTup 2 (tgsCons (tgName 4) (tgsCons (tgName 5) tgsNil))) (sAugSub fOr (gv 3) (gv 5) (g2 fShl (gc (.int 1)) (gv 4))))
    (sSeq (sSet 6 (gLst aNil))
    (sSeq (sFor (gRng1 (aCons (gv 1) aNil)) (tgName 4) (sSeq (sSet 7 (g2 fIx (gv 3) (gv 4)))
    (sSeq (sFor (gSeq (gCall 1 G_lot_of (aCons (g2 fIx (gv 3) (gv 4)) aNil))) (tgName 8) (sAug 7 fOr (g2 fIx (gv 6) (gv 8))))
    (sExpr (gMethL fAppend (gv 6) (aCons (gv 7) aNil))))))
    (sRet (gv 6)))))))
def G_masks_ahead : GF := gBody 9 S_masks_ahead
def S_is_ascending : GS :=
    (sRet (gFn fAll (aCons (gLc (gZip (aCons (gv 0) (aCons (gSl fSl (gv 0) (gPart (gc (.int 1))) gNoPart) aNil))) (tgTup 2 (tgsCons (tgName 1) (tgsCons (tgName 2) tgsNil))) ttYes (g2 fLt (gv 1) (gv 2)) [1, 2]) aNil)))
def G_is_ascending : GF := gBody 3 S_is_ascending
def S_is_number : GS :=
    (sRet (gAnd (gIsI "int" (gv 0)) (gChain fLe fLe (gv 1) (gv 0) (gv 2))))
def G_is_number : GF := gBody 3 S_is_number
def S_is_lot : GS :=
    (sSeq (sIf (gNotT (gb1 (gIsI "tuple" (gv 0)))) (sRet (gc (.bl false))) sNext)
    (sRet (gAnd (gFn fAll (aCons (gLc (gSeq (gv 0)) (tgName 2) ttYes (gCall 3 G_is_number (aCons (gv 2) (aCons (gc (.int 0)) (aCons (g2 fSub (gv 1) (gc (.int 1))) aNil)))) [2]) aNil)) (gCall 1 G_is_ascending (aCons (gv 0) aNil)))))
def G_is_lot : GF := gBody 3 S_is_lot
def S_is_lower_mask : GS :=
    (sRet (gFn fAll (aCons (gLc (gSeq (gCall 1 G_lot_of (aCons (gv 1) aNil))) (tgName 2) ttYes (gCall 2 G_is_within (aCons (g2 fIx (gv 0) (gv 2)) (aCons (gv 1) aNil))) [2]) aNil)))
def G_is_lower_mask : GF := gBody 3 S_is_lower_mask
def S_is_plain_lower : GS :=
    (sRet (gAnd (gCall 2 G_is_lot (aCons (gv 1) (aCons (g2 fIx (gv 0) (gc (.int 0))) aNil))) (gCall 2 G_is_lower_mask (aCons (gCall 1 G_masks_ahead (aCons (gv 0) aNil)) (aCons (gCall 1 G_mask_of (aCons (gv 1) aNil)) aNil)))))
def G_is_plain_lower : GF := gBody 2 S_is_plain_lower
def S__copied (G__copied : Nat → GF) (n : Nat) : GS :=
    (sSeq (sIf (gb1 (gIsI "int" (gv 0))) (sRet (gIf (gb1 (gIsI "bool" (gv 0))) (gc (.str "")) (gFn fInt (aCons (gv 0) aNil)))) sNext)
    (sSeq (sIf (gb1 (gIsI "tuple" (gv 0))) (sSeq (sAugSub fSub (gv 1) (gc (.int 0)) (gFn fLen (aCons (gv 0) aNil)))
    (sSeq (sIf (gOrT (gb1 (g2 fEq (gv 2) (gc (.int 0)))) (gb1 (g2 fLt (g2 fIx (gv 1) (gc (.int 0))) (gc (.int 0))))) (sRet (gc (.str ""))) sNext)
    (sRet (gFn fTuple (aCons (gLc (gSeq (gv 0)) (tgName 3) ttYes (gCall 3 (G__copied n) (aCons (gv 3) (aCons (gv 1) (aCons (g2 fSub (gv 2) (gc (.int 1))) aNil)))) [3]) aNil))))) sNext)
    (sSeq (sIf (gb1 (gIsI "str" (gv 0))) (sRet (gJoin1 (gc (.str "")) (gLst (aCons (gv 0) aNil)))) sNext)
    (sRet (gIf (gb1 (g2 (fIs false) (gv 0) (gc .non))) (gc .non) (gc (.str "")))))))
def G__copied : Nat → GF
  | 0 => fun _ _ => none
  | n + 1 => gBody 4 (S__copied (fun _ => G__copied n) 0)
def S_plain : GS :=
    (sRet (gCall 3 (G__copied 102) (aCons (gv 0) (aCons (gLst (aCons (gc (.int 200000)) aNil)) (aCons (gc (.int 100)) aNil)))))
def G_plain : GF := gBody 1 S_plain
def S_wanted_lower : GS :=
    (sSeq (sSet 2 (gCall 1 G_plain (aCons (gv 1) aNil)))
    (sSeq (sIf (gNotT (gb1 (gCall 2 G_is_plain_lower (aCons (gv 0) (aCons (gv 2) aNil))))) (sRaise "BadLower" (aCons (gv 1) aNil)) sNext)
    (sRet (gv 2))))
def G_wanted_lower : GF := gBody 3 S_wanted_lower
def S_is_tuple_of : GS :=
    (sRet (gAnd (gIsI "tuple" (gv 0)) (g2 fEq (gFn fLen (aCons (gv 0) aNil)) (gv 1))))
def G_is_tuple_of : GF := gBody 2 S_is_tuple_of
def S__are_pairs : GS :=
    (sSeq (sIf (gNotT (gb1 (gIsI "tuple" (gv 1)))) (sRet (gc (.bl false))) sNext)
    (sRet (gAnd (gFn fAll (aCons (gLc (gSeq (gv 1)) (tgName 2) ttYes (gAnd (gCall 2 G_is_tuple_of (aCons (gv 2) (aCons (gc (.int 2)) aNil))) (gCall 2 G_is_lot (aCons (gv 2) (aCons (gv 0) aNil)))) [2]) aNil)) (gCall 1 G_is_ascending (aCons (gv 1) aNil)))))
def G__are_pairs : GF := gBody 3 S__are_pairs
def S_wanted_order : GS :=
    (sSeq (sSet 1 (gCall 1 G_plain (aCons (gv 0) aNil)))
    (sSeq (sIf (gNotT (gb1 (gCall 2 G_is_tuple_of (aCons (gv 1) (aCons (gc (.int 2)) aNil))))) (sRaise "BadOrder" (aCons (gc (.str "form")) aNil)) sNext)
    (sSeq (sAsg (tgTup 2 (tgsCons (tgName 2) (tgsCons (tgName 3) tgsNil))) (gv 1))
    (sSeq (sIf (gNotT (gb1 (gCall 3 G_is_number (aCons (gv 2) (aCons (gc (.int 0)) (aCons (gc (.int 20)) aNil)))))) (sRaise "BadOrder" (aCons (gc (.str "many")) aNil)) sNext)
    (sSeq (sIf (gNotT (gb1 (gCall 2 G__are_pairs (aCons (gv 2) (aCons (gv 3) aNil))))) (sRaise "BadOrder" (aCons (gc (.str "pairs")) aNil)) sNext)
    (sRet (gv 1)))))))
def G_wanted_order : GF := gBody 4 S_wanted_order
def S_can_put : GS :=
    (sSeq (sSet 0 (gCall 1 G_wanted_order (aCons (gv 0) aNil)))
    (sRet (gCall 2 G_can_be_put (aCons (gCall 1 G_masks_ahead (aCons (gv 0) aNil)) (aCons (gCall 2 G_wanted_lower (aCons (gv 0) (aCons (gv 1) aNil))) aNil)))))
def G_can_put : GF := gBody 2 S_can_put
def S_can_be_taken : GS :=
    (sSeq (sSet 2 (gc (.int 0)))
    (sSeq (sFor (gSeq (gv 1)) (tgName 3) (sAug 2 fOr (g2 fIx (gv 0) (gv 3))))
    (sRet (gFn fTuple (aCons (gLc (gSeq (gv 1)) (tgName 3) (gNotT (gb1 (gCall 2 G_has_bit (aCons (gv 2) (aCons (gv 3) aNil))))) (gv 3) [3]) aNil)))))
def G_can_be_taken : GF := gBody 4 S_can_be_taken
def S_can_take : GS :=
    (sSeq (sSet 0 (gCall 1 G_wanted_order (aCons (gv 0) aNil)))
    (sRet (gCall 2 G_can_be_taken (aCons (gCall 1 G_masks_ahead (aCons (gv 0) aNil)) (aCons (gCall 2 G_wanted_lower (aCons (gv 0) (aCons (gv 1) aNil))) aNil)))))
def G_can_take : GF := gBody 2 S_can_take
def S_wanted_item : GS :=
    (sSeq (sSet 2 (gCall 1 G_plain (aCons (gv 1) aNil)))
    (sSeq (sIf (gNotT (gb1 (gCall 3 G_is_number (aCons (gv 2) (aCons (gc (.int 0)) (aCons (g2 fSub (g2 fIx (gv 0) (gc (.int 0))) (gc (.int 1))) aNil)))))) (sRaise "BadItem" (aCons (gv 1) aNil)) sNext)
    (sRet (gv 2))))
def G_wanted_item : GF := gBody 3 S_wanted_item
def S_put : GS :=
    (sSeq (sSet 0 (gCall 1 G_wanted_order (aCons (gv 0) aNil)))
    (sSeq (sSet 1 (gCall 2 G_wanted_lower (aCons (gv 0) (aCons (gv 1) aNil))))
    (sSeq (sSet 3 (gCall 2 G_wanted_item (aCons (gv 0) (aCons (gv 2) aNil))))
    (sSeq (sIf (gb1 (g2 (fIn true) (gv 3) (gCall 2 G_can_be_put (aCons (gCall 1 G_masks_ahead (aCons (gv 0) aNil)) (aCons (gv 1) aNil))))) (sRaise "BadItem" (aCons (gv 2) aNil)) sNext)
    (sRet (gCall 1 G_lot_of (aCons (gCall 1 G_mask_of (aCons (g2 fAdd (gv 1) (gTup (aCons (gv 3) aNil))) aNil)) aNil)))))))
def G_put : GF := gBody 4 S_put
def S_taken : GS :=
    (sSeq (sSet 0 (gCall 1 G_wanted_order (aCons (gv 0) aNil)))
    (sSeq (sSet 1 (gCall 2 G_wanted_lower (aCons (gv 0) (aCons (gv 1) aNil))))
    (sSeq (sSet 3 (gCall 2 G_wanted_item (aCons (gv 0) (aCons (gv 2) aNil))))
    (sSeq (sIf (gb1 (g2 (fIn true) (gv 3) (gCall 2 G_can_be_taken (aCons (gCall 1 G_masks_ahead (aCons (gv 0) aNil)) (aCons (gv 1) aNil))))) (sRaise "BadItem" (aCons (gv 2) aNil)) sNext)
    (sRet (gFn fTuple (aCons (gLc (gSeq (gv 1)) (tgName 4) (gb1 (g2 fNe (gv 4) (gv 3))) (gv 4) [4]) aNil)))))))
def G_taken : GF := gBody 5 S_taken
def S__law_moves_good : GS :=
    (sSeq (sAsg (tgTup 2 (tgsCons (tgName 2) (tgsCons (tgName 3) tgsNil))) (gCall 2 G__law_put_due (aCons (gv 0) (aCons (gv 1) aNil))))
    (sSeq (sIf (gb1 (g2 fNe (gFn fReprA (aCons (gLst (aCons (gCall 2 G_can_put (aCons (gv 0) (aCons (gv 1) aNil))) (aCons (gCall 2 G_can_take (aCons (gv 0) (aCons (gv 1) aNil))) aNil))) aNil)) (gFn fReprA (aCons (gLst (aCons (gv 2) (aCons (gv 3) aNil))) aNil)))) (sRet (gc (.bl false))) sNext)
    (sSeq (sFor (gRng1 (aCons (g2 fIx (gv 0) (gc (.int 0))) aNil)) (tgName 4) (sSeq (sSet 5 (gLst (aCons (gLamC 2 S__law_heard (gCall 3 G_put (aCons (gv 0) (aCons (gv 1) (aCons (gv 4) aNil))))) (aCons (gLamC 2 S__law_heard (gCall 3 G_taken (aCons (gv 0) (aCons (gv 1) (aCons (gv 4) aNil))))) aNil))))
    (sSeq (sSet 6 (gLst (aCons (gIf (gb1 (g2 (fIn false) (gv 4) (gv 2))) (gLst (aCons (gFn fTuple (aCons (gFn fSorted3 (aCons (g2 fAdd (gv 1) (gTup (aCons (gv 4) aNil))) aNil)) aNil)) aNil)) (gTup (aCons (gc (.str "item")) (aCons (gv 4) aNil)))) aNil)))
    (sSeq (sExpr (gMethL fAppend (gv 6) (aCons (gIf (gb1 (g2 (fIn false) (gv 4) (gv 3))) (gLst (aCons (gFn fTuple (aCons (gLc (gSeq (gv 1)) (tgName 7) (gb1 (g2 fNe (gv 7) (gv 4))) (gv 7) [7]) aNil)) aNil)) (gTup (aCons (gc (.str "item")) (aCons (gv 4) aNil)))) aNil)))
    (sIf (gb1 (g2 fNe (gFn fReprB (aCons (gv 5) aNil)) (gFn fReprA (aCons (gv 6) aNil)))) (sRet (gc (.bl false))) sNext)))))
    (sRet (gc (.bl true))))))
def G__law_moves_good : GF := gBody 8 S__law_moves_good
def S__law_order : GS :=
    (sSeq (sPar 2 3 (aCons (gCall 2 G__law_draw (aCons (gv 0) (aCons (gc (.int 6)) aNil))) (aCons (gCall 2 G__law_draw (aCons (gv 0) (aCons (g2 fAdd (gv 1) (gc (.int 1))) aNil))) aNil)))
    (sSeq (sSet 4 (gLst aNil))
    (sSeq (sFor (gRng1 (aCons (gv 3) aNil)) (tgName 5) (sFor (gRng1 (aCons (gv 5) aNil)) (tgName 6) (sIf (gOrT (gAndT (gb1 (g2 fEq (gv 2) (gc (.int 0)))) (gb1 (g2 fEq (g2 fAdd (gv 6) (gc (.int 1))) (gv 5)))) (gAndT (gb1 (g2 fGt (gv 2) (gc (.int 1)))) (gb1 (g2 fEq (gCall 2 G__law_draw (aCons (gv 0) (aCons (gc (.int 3)) aNil))) (gc (.int 0)))))) (sExpr (gMethL fAppend (gv 4) (aCons (gTup (aCons (gv 6) (aCons (gv 5) aNil))) aNil))) sNext)))
    (sRet (gTup (aCons (gv 3) (aCons (gFn fTuple (aCons (gFn fSorted (aCons (gv 4) aNil)) aNil)) aNil)))))))
def G__law_order : GF := gBody 7 S__law_order
def S__add_lowers (G__add_lowers : Nat → GF) (n : Nat) : GS :=
    (sSeq (sIf (gb1 (g2 fEq (gFn fLen (aCons (gv 2) aNil)) (gv 3))) (sRaise "TooMany" (aCons (gv 3) aNil)) sNext)
    (sSeq (sExpr (gMethL fAppend (gv 2) (aCons (gv 1) aNil)))
    (sFor (gSeq (gCall 2 G_can_be_put (aCons (gv 0) (aCons (gv 1) aNil)))) (tgName 4) (sIf (gOrT (gNotT (gTru (gv 1))) (gb1 (g2 fGt (gv 4) (g2 fIx (gv 1) (gUn (fun i => -i) (gc (.int 1))))))) (sExpr (gCall 4 (G__add_lowers n) (aCons (gv 0) (aCons (g2 fAdd (gv 1) (gTup (aCons (gv 4) aNil))) (aCons (gv 2) (aCons (gv 3) aNil)))))) sNext))))
def G__add_lowers : Nat → GF
  | 0 => fun _ _ => none
  | n + 1 => gBody 5 (S__add_lowers (fun _ => G__add_lowers n) 0)
def S_lowers_of : GS :=
    (sSeq (sSet 2 (gLst aNil))
    (sSeq (sExpr (gCall 4 (G__add_lowers 102) (aCons (gCall 1 G_masks_ahead (aCons (gv 0) aNil)) (aCons (gTup aNil) (aCons (gv 2) (aCons (gv 1) aNil))))))
    (sRet (gFn fTuple (aCons (gv 2) aNil)))))
def G_lowers_of : GF := gBody 3 S_lowers_of
def S_all_lowers : GS :=
    (sRet (gCall 2 G_lowers_of (aCons (gCall 1 G_wanted_order (aCons (gv 0) aNil)) (aCons (gc (.int 400)) aNil))))
def G_all_lowers : GF := gBody 1 S_all_lowers
def S_is_lower : GS :=
    (sRet (gCall 2 G_is_plain_lower (aCons (gCall 1 G_wanted_order (aCons (gv 0) aNil)) (aCons (gCall 1 G_plain (aCons (gv 1) aNil)) aNil))))
def G_is_lower : GF := gBody 2 S_is_lower
def S_join : GS :=
    (sSeq (sSet 0 (gCall 1 G_wanted_order (aCons (gv 0) aNil)))
    (sSeq (sSet 1 (gCall 2 G_wanted_lower (aCons (gv 0) (aCons (gv 1) aNil))))
    (sSeq (sSet 2 (gCall 2 G_wanted_lower (aCons (gv 0) (aCons (gv 2) aNil))))
    (sRet (gCall 1 G_lot_of (aCons (g2 fOr (gCall 1 G_mask_of (aCons (gv 1) aNil)) (gCall 1 G_mask_of (aCons (gv 2) aNil))) aNil))))))
def G_join : GF := gBody 3 S_join
def S_meet : GS :=
    (sSeq (sSet 0 (gCall 1 G_wanted_order (aCons (gv 0) aNil)))
    (sSeq (sSet 1 (gCall 2 G_wanted_lower (aCons (gv 0) (aCons (gv 1) aNil))))
    (sSeq (sSet 2 (gCall 2 G_wanted_lower (aCons (gv 0) (aCons (gv 2) aNil))))
    (sRet (gCall 1 G_lot_of (aCons (g2 fAnd (gCall 1 G_mask_of (aCons (gv 1) aNil)) (gCall 1 G_mask_of (aCons (gv 2) aNil))) aNil))))))
def G_meet : GF := gBody 3 S_meet
def S__law_good : GS :=
    (sSeq (sSet 1 (gCall 2 G__law_order (aCons (gv 0) (aCons (gc (.int 6)) aNil))))
    (sSeq (sSet 2 (gCall 1 G__law_lowers (aCons (gv 1) aNil)))
    (sSeq (sIf (gb1 (g2 fNe (gFn fReprA (aCons (gLst (aCons (gCall 1 G_all_lowers (aCons (gv 1) aNil)) (aCons (gCall 1 G_all_lowers (aCons (gv 1) aNil)) aNil))) aNil)) (gFn fReprA (aCons (g2 fMul (gLst (aCons (gFn fTuple (aCons (gv 2) aNil)) aNil)) (gc (.int 2))) aNil)))) (sRet (gc (.bl false))) sNext)
    (sSeq (sFor (gRng1 (aCons (gc (.int 6)) aNil)) (tgName 3) (sSeq (sAsg (tgTup 2 (tgsCons (tgName 4) (tgsCons (tgName 5) tgsNil))) (gTup (aCons (gCall 2 G__law_of (aCons (gv 0) (aCons (gv 2) aNil))) (aCons (gCall 2 G__law_of (aCons (gv 0) (aCons (gv 2) aNil))) aNil))))
    (sSeq (sSet 6 (gFn fTuple (aCons (gLc (gSeq (gv 4)) (tgName 7) (gb1 (g2 (fIn false) (gv 7) (gv 5))) (gv 7) [7]) aNil)))
    (sSeq (sSet 8 (gLst (aCons (gCall 3 G_meet (aCons (gv 1) (aCons (gv 4) (aCons (gv 5) aNil)))) (aCons (gCall 3 G_join (aCons (gv 1) (aCons (gv 4) (aCons (gv 5) aNil)))) (aCons (gCall 3 G_meet (aCons (gv 1) (aCons (gv 5) (aCons (gv 4) aNil)))) aNil)))))
    (sSeq (sIf (gOrT (gb1 (g2 fNe (gFn fReprA (aCons (gv 8) aNil)) (gFn fReprA (aCons (gLst (aCons (gv 6) (aCons (gFn fTuple (aCons (gFn fSortSet (aCons (g2 fAdd (gv 4) (gv 5)) aNil)) aNil)) (aCons (gv 6) aNil)))) aNil)))) (gNotT (gb1 (gCall 2 G__law_moves_good (aCons (gv 1) (aCons (gv 4) aNil)))))) (sRet (gc (.bl false))) sNext)
    (sSeq (sSet 9 (gCall 3 G__law_bent (aCons (gv 0) (aCons (g2 fIx (gv 1) (gc (.int 0))) (aCons (gCall 2 G__law_lot (aCons (gv 0) (aCons (g2 fIx (gv 1) (gc (.int 0))) aNil))) aNil)))))
    (sSeq (sSet 10 (gCall 2 G__law_is_lower (aCons (gv 1) (aCons (gv 9) aNil))))
    (sSeq (sIf (gOrT (gb1 (g2 fNe (gFn fReprA (aCons (gCall 2 G_is_lower (aCons (gv 1) (aCons (gv 9) aNil))) aNil)) (gFn fReprA (aCons (gv 10) aNil)))) (gb1 (g2 (fIs true) (gCall 2 G_is_lower (aCons (gv 1) (aCons (gv 4) aNil))) (gc (.bl true))))) (sRet (gc (.bl false))) sNext)
    (sSeq (sSet 11 (gLst (aCons (gLamC 2 S__law_heard (gCall 2 G_can_put (aCons (gv 1) (aCons (gv 9) aNil)))) (aCons (gLamC 2 S__law_heard (gCall 3 G_join (aCons (gv 1) (aCons (gv 4) (aCons (gv 9) aNil))))) aNil))))
    (sIf (gAndT (gNotT (gTru (gv 10))) (gb1 (g2 fNe (gFn fReprB (aCons (gv 11) aNil)) (gFn fReprB (aCons (g2 fMul (gLst (aCons (gTup (aCons (gc (.str "lower")) (aCons (gv 9) aNil))) aNil)) (gc (.int 2))) aNil))))) (sRet (gc (.bl false))) sNext))))))))))
    (sRet (gc (.bl true)))))))
def G__law_good : GF := gBody 12 S__law_good
def S_law : GS :=
    (sSeq (sAsg (tgTup 2 (tgsCons (tgName 1) (tgsCons (tgName 2) tgsNil))) (gTup (aCons (gTup (aCons (gc (.int 9)) (aCons (gTup aNil) aNil))) (aCons (gTup (aCons (gc (.int 20)) (aCons (gFn fTuple (aCons (gLc (gRng1 (aCons (gc (.int 19)) aNil)) (tgName 3) ttYes (gTup (aCons (gv 3) (aCons (g2 fAdd (gv 3) (gc (.int 1))) aNil))) [3]) aNil)) aNil))) aNil))))
    (sSeq (sIf (gOrT (gb1 (g2 fNe (gLamC 2 S__law_heard (gCall 1 G_all_lowers (aCons (gv 1) aNil))) (gTup (aCons (gc (.str "many")) (aCons (gc (.int 400)) aNil))))) (gb1 (g2 fNe (gFn fLen (aCons (gCall 1 G_all_lowers (aCons (gv 2) aNil)) aNil)) (gc (.int 21))))) (sRet (gc (.bl false))) sNext)
    (sSeq (sIf (gOrT (gb1 (g2 fNe (gCall 1 G_all_lowers (aCons (gTup (aCons (gc (.int 0)) (aCons (gTup aNil) aNil))) aNil)) (gTup (aCons (gTup aNil) aNil)))) (gb1 (g2 fNe (gCall 2 G_can_put (aCons (gTup (aCons (gc (.int 0)) (aCons (gTup aNil) aNil))) (aCons (gTup aNil) aNil))) (gTup aNil)))) (sRet (gc (.bl false))) sNext)
    (sSeq (sSet 4 (gTup (aCons (gc (.int 10)) (aCons (gTup (aCons (gTup (aCons (gc (.int 0)) (aCons (gc (.int 9)) aNil))) (aCons (gTup (aCons (gc (.int 1)) (aCons (gc (.int 9)) aNil))) (aCons (gTup (aCons (gc (.int 2)) (aCons (gc (.int 9)) aNil))) (aCons (gTup (aCons (gc (.int 3)) (aCons (gc (.int 9)) aNil))) (aCons (gTup (aCons (gc (.int 4)) (aCons (gc (.int 9)) aNil))) (aCons (gTup (aCons (gc (.int 5)) (aCons (gc (.int 9)) aNil))) (aCons (gTup (aCons (gc (.int 6)) (aCons (gc (.int 9)) aNil))) (aCons (gTup (aCons (gc (.int 7)) (aCons (gc (.int 9)) aNil))) (aCons (gTup (aCons (gc (.int 8)) (aCons (gc (.int 9)) aNil))) aNil)))))))))) aNil))))
    (sSeq (sIf (gOrT (gb1 (g2 fNe (gLamC 2 S__law_heard (gCall 1 G_all_lowers (aCons (gv 4) aNil))) (gTup (aCons (gc (.str "many")) (aCons (gc (.int 400)) aNil))))) (gb1 (g2 fNe (gCall 2 G_can_put (aCons (gv 4) (aCons (gTupRg (gc (.int 9))) aNil))) (gTup (aCons (gc (.int 9)) aNil))))) (sRet (gc (.bl false))) sNext)
    (sSeq (sIf (gOrT (gb1 (g2 fNe (gFn fLen (aCons (gCall 1 G_all_lowers (aCons (gTup (aCons (gc (.int 9)) (aCons (gTup (aCons (gTup (aCons (gc (.int 0)) (aCons (gc (.int 1)) aNil))) (aCons (gTup (aCons (gc (.int 2)) (aCons (gc (.int 3)) aNil))) aNil))) aNil))) aNil)) aNil)) (gc (.int 288)))) (gb1 (g2 (fIs true) (gCall 2 G_is_lower (aCons (gv 2) (aCons (gTup (aCons (gc (.int 1)) (aCons (gc (.int 2)) (aCons (gc (.int 3)) (aCons (gc (.int 4)) aNil))))) aNil))) (gc (.bl false))))) (sRet (gc (.bl false))) sNext)
    (sSeq (sIf (gOrT (gb1 (g2 fNe (gCall 2 G_can_put (aCons (gTup (aCons (gc (.int 3)) (aCons (gTup (aCons (gTup (aCons (gc (.int 0)) (aCons (gc (.int 2)) aNil))) (aCons (gTup (aCons (gc (.int 1)) (aCons (gc (.int 2)) aNil))) aNil))) aNil))) (aCons (gTup (aCons (gc (.int 0)) aNil)) aNil))) (gTup (aCons (gc (.int 1)) aNil)))) (gb1 (g2 fNe (gCall 2 G_can_take (aCons (gTup (aCons (gc (.int 2)) (aCons (gTup (aCons (gTup (aCons (gc (.int 0)) (aCons (gc (.int 1)) aNil))) aNil)) aNil))) (aCons (gTup (aCons (gc (.int 0)) aNil)) aNil))) (gTup (aCons (gc (.int 0)) aNil))))) (sRet (gc (.bl false))) sNext)
    (sSeq (sSet 5 (gTup (aCons (gTup (aCons (gc (.int 4)) (aCons (gc (.int 5)) aNil))) (aCons (gTup (aCons (gc (.int 5)) (aCons (gc (.int 6)) aNil))) (aCons (gTup (aCons (gc (.int 6)) (aCons (gc (.int 7)) aNil))) (aCons (gTup (aCons (gc (.int 8)) (aCons (gc (.int 9)) aNil))) (aCons (gTup (aCons (gc (.int 9)) (aCons (gc (.int 10)) aNil))) (aCons (gTup (aCons (gc (.int 10)) (aCons (gc (.int 11)) aNil))) aNil))))))))
    (sSeq (sIf (gb1 (g2 fNe (gFn fLen (aCons (gCall 1 G_all_lowers (aCons (gTup (aCons (gc (.int 12)) (aCons (gv 5) aNil))) aNil)) aNil)) (gc (.int 400)))) (sRet (gc (.bl false))) sNext)
    (sSeq (sIf (gb1 (g2 fNe (gLamC 2 S__law_heard (gCall 1 G_all_lowers (aCons (gTup (aCons (gc (.int 12)) (aCons (g2 fAdd (gTup (aCons (gTup (aCons (gc (.int 0)) (aCons (gc (.int 1)) aNil))) (aCons (gTup (aCons (gc (.int 2)) (aCons (gc (.int 3)) aNil))) (aCons (gTup (aCons (gc (.int 4)) (aCons (gc (.int 5)) aNil))) (aCons (gTup (aCons (gc (.int 6)) (aCons (gc (.int 7)) aNil))) aNil))))) (gSl fSl (gv 5) (gPart (gc (.int 3))) gNoPart)) aNil))) aNil))) (gTup (aCons (gc (.str "many")) (aCons (gc (.int 400)) aNil))))) (sRet (gc (.bl false))) sNext)
    (sSeq (sSet 6 (gCall 1 G__law_begin (aCons (gv 0) aNil)))
    (sSeq (sFor (gRng1 (aCons (g2 fAdd (gc (.int 2)) (gFn fMin2 (aCons (gFn fLen (aCons (gv 0) aNil)) (aCons (gc (.int 4)) aNil)))) aNil)) (tgName 7) (sIf (gNotT (gb1 (gCall 1 G__law_good (aCons (gv 6) aNil)))) (sRet (gc (.bl false))) sNext))
    (sRet (gc (.bl true)))))))))))))))
def G_law : GF := gBody 8 S_law
/-! ### each def is its mirror -/
section
variable {P : Program} {w : World} {K : PySem.W.Frag} {mg : Str → Option Value} {base : Heap}
theorem E_BadLower (T : Tx ask K mg) : ErrD P w K mg base "BadLower" "given" :=
  errD_mk T.told (p1 := "self") (p2 := "given") (qual := "BadLower.__init__") (params := defArgs s_BadLower_init) (body := defBody s_BadLower_init) (scope := defScope s_BadLower_init) (T.g 10 rfl) (by decide) (by decide) (T.fn 46 (d := d_BadLower_init) rfl) ⟨rfl, rfl, rfl, by decide +kernel, rfl, by decide +kernel, by decide +kernel⟩ rfl (Or.inl rfl) (Or.inl rfl)
    (fun _ _ _ _ _ _ us hl => match us, hl with | [_, _], _ => rfl)
theorem E_BadOrder (T : Tx ask K mg) : ErrD P w K mg base "BadOrder" "part" :=
  errD_mk T.told (p1 := "self") (p2 := "part") (qual := "BadOrder.__init__") (params := defArgs s_BadOrder_init) (body := defBody s_BadOrder_init) (scope := defScope s_BadOrder_init) (T.g 70 rfl) (by decide) (by decide) (T.fn 47 (d := d_BadOrder_init) rfl) ⟨rfl, rfl, rfl, by decide +kernel, rfl, by decide +kernel, by decide +kernel⟩ rfl (Or.inl rfl) (Or.inl rfl)
    (fun _ _ _ _ _ _ us hl => match us, hl with | [_, _], _ => rfl)
theorem E_BadItem (T : Tx ask K mg) : ErrD P w K mg base "BadItem" "given" :=
  errD_mk T.told (p1 := "self") (p2 := "given") (qual := "BadItem.__init__") (params := defArgs s_BadItem_init) (body := defBody s_BadItem_init) (scope := defScope s_BadItem_init) (T.g 11 rfl) (by decide) (by decide) (T.fn 48 (d := d_BadItem_init) rfl) ⟨rfl, rfl, rfl, by decide +kernel, rfl, by decide +kernel, by decide +kernel⟩ rfl (Or.inl rfl) (Or.inl rfl)
    (fun _ _ _ _ _ _ us hl => match us, hl with | [_, _], _ => rfl)
theorem E_TooMany (T : Tx ask K mg) : ErrD P w K mg base "TooMany" "most" :=
  errD_mk T.told (p1 := "self") (p2 := "most") (qual := "TooMany.__init__") (params := defArgs s_TooMany_init) (body := defBody s_TooMany_init) (scope := defScope s_TooMany_init) (T.g 9 rfl) (by decide) (by decide) (T.fn 49 (d := d_TooMany_init) rfl) ⟨rfl, rfl, rfl, by decide +kernel, rfl, by decide +kernel, by decide +kernel⟩ rfl (Or.inl rfl) (Or.inl rfl)
    (fun _ _ _ _ _ _ us hl => match us, hl with | [_, _], _ => rfl)
theorem fld_TooMany {c0 : Str} {C : Addr} {names : List Str} (hm : mOf catches "TooMany" c0 = some true) (hc : ctOf K excs c0 = some (C, names)) : ("most" : Str) ∈ names ∧ True := by
  obtain ⟨h1, _, _⟩ := ctOf_some hc
  simp only [excs, List.mem_cons, Prod.mk.injEq, List.mem_nil_iff, or_false] at h1
  rcases h1 with ⟨rfl, rfl⟩ | ⟨rfl, rfl⟩ | ⟨rfl, rfl⟩ | ⟨rfl, rfl⟩ <;> first | exact ⟨by decide, trivial⟩ | exact absurd hm (by decide)
theorem fld_BadLower {c0 : Str} {C : Addr} {names : List Str} (hm : mOf catches "BadLower" c0 = some true) (hc : ctOf K excs c0 = some (C, names)) : ("given" : Str) ∈ names ∧ True := by
  obtain ⟨h1, _, _⟩ := ctOf_some hc
  simp only [excs, List.mem_cons, Prod.mk.injEq, List.mem_nil_iff, or_false] at h1
  rcases h1 with ⟨rfl, rfl⟩ | ⟨rfl, rfl⟩ | ⟨rfl, rfl⟩ | ⟨rfl, rfl⟩ <;> first | exact ⟨by decide, trivial⟩ | exact absurd hm (by decide)
theorem fld_BadItem {c0 : Str} {C : Addr} {names : List Str} (hm : mOf catches "BadItem" c0 = some true) (hc : ctOf K excs c0 = some (C, names)) : ("given" : Str) ∈ names ∧ True := by
  obtain ⟨h1, _, _⟩ := ctOf_some hc
  simp only [excs, List.mem_cons, Prod.mk.injEq, List.mem_nil_iff, or_false] at h1
  rcases h1 with ⟨rfl, rfl⟩ | ⟨rfl, rfl⟩ | ⟨rfl, rfl⟩ | ⟨rfl, rfl⟩ <;> first | exact ⟨by decide, trivial⟩ | exact absurd hm (by decide)
theorem sc__law_begin : FnScope ["_law_script", "_law_cells_so", "_law_cell"] ["_law_script"] (defScope s__law_begin) := ⟨rfl, rfl, rfl, by decide +kernel, rfl, by decide +kernel, by decide +kernel⟩
theorem D__law_begin (T : Tx ask K mg) (B : Tabd askT K mg base) : Def P w K mg base 1 "_law_begin" 1 (ctOf K excs) G__law_begin := by
  refine (def_mk (N := ["_law_script", "_law_cells_so", "_law_cell"]) (x := "_law_begin") (k := 0) (gs := S__law_begin) (nm := "_law_begin") (qual := "_law_begin") (params := defArgs s__law_begin) (body := defBody s__law_begin) (scope := defScope s__law_begin) (ps := ["_law_script"]) (T.fn 0 (d := d__law_begin) rfl) (T.g 1 rfl) sc__law_begin (fun _ _ _ _ _ _ us hl => match us, hl with | [_], _ => rfl) (fun f cdv A outer s H E hr gd => ?_))
  have nd := sc__law_begin.nd
  have tk := takes_def (P := P) (w := w) (K := K) (mg := mg) (base := base) (N := ["_law_script", "_law_cells_so", "_law_cell"]) (qual := "_law_begin") (scope := defScope s__law_begin) (f := f) (cd := cdv) (A := A) (outer := outer) (s := s) (H := H) (E := E)
  have hp := passes_def (P := P) (w := w) (K := K) (mg := mg) (base := base) (N := ["_law_script", "_law_cells_so", "_law_cell"]) (qual := "_law_begin") (scope := defScope s__law_begin) (f := f) (cd := cdv) (A := A) (outer := outer) (s := s) (H := H) (E := E)
  exact (s_cons (s_set (i := 1) nd rfl (by first | exact Or.inl rfl | exact Or.inr rfl) (d_ife (t_cmp (op_neD (Rm.u64 hr)) od_ne (d_var 0) (d_lst a_nil) (nomark _)) (d_fnT call_list_of cd_list rfl (T.f 0 rfl) (by decide +kernel) (a_cons (d_var 0) a_nil)) (d_lst (a_cons d_int a_nil))))
    (s_one (s_ret (d_disp (k_cons (d_var 1) (k_cons (d_lc (own := [("_law_cell", 2)]) rfl nd (i_seq (d_var 1)) (blkOk_by (N := ["_law_script", "_law_cells_so", "_law_cell"]) (sc := defScope s__law_begin) (by decide +kernel)) (by decide) (cg (tg_name 2) (fun s H C cl fp => (pg_name (i := 2) nd rfl (by first | exact Or.inl rfl | exact Or.inr rfl)))) (fun s H C cl fp => ts_nil) (fun s H C cl fp => (d_ife (t_cmp (op_geA (Rm.u0 hr)) od_ge (d_var 2) (d_op op_pow (od_I cPow_ok _) d_int d_int) (nomark _)) (d_var 2) d_int))) (k_cons d_int (k_cons d_int k_nil)))) rfl rfl (by simp) (by decide)))))
theorem sc__law_mixed : FnScope ["_law_cell", "_law_k"] ["_law_cell", "_law_k"] (defScope s__law_mixed) := ⟨rfl, rfl, rfl, by decide +kernel, rfl, by decide +kernel, by decide +kernel⟩
theorem D__law_mixed (T : Tx ask K mg) (B : Tabd askT K mg base) : Def P w K mg base 1 "_law_mixed" 2 (ctOf K excs) G__law_mixed := by
  refine (def_mk (N := ["_law_cell", "_law_k"]) (x := "_law_mixed") (k := 0) (gs := S__law_mixed) (nm := "_law_mixed") (qual := "_law_mixed") (params := defArgs s__law_mixed) (body := defBody s__law_mixed) (scope := defScope s__law_mixed) (ps := ["_law_cell", "_law_k"]) (T.fn 1 (d := d__law_mixed) rfl) (T.g 3 rfl) sc__law_mixed (fun _ _ _ _ _ _ us hl => match us, hl with | [_, _], _ => rfl) (fun f cdv A outer s H E hr gd => ?_))
  have nd := sc__law_mixed.nd
  have tk := takes_def (P := P) (w := w) (K := K) (mg := mg) (base := base) (N := ["_law_cell", "_law_k"]) (qual := "_law_mixed") (scope := defScope s__law_mixed) (f := f) (cd := cdv) (A := A) (outer := outer) (s := s) (H := H) (E := E)
  have hp := passes_def (P := P) (w := w) (K := K) (mg := mg) (base := base) (N := ["_law_cell", "_law_k"]) (qual := "_law_mixed") (scope := defScope s__law_mixed) (f := f) (cd := cdv) (A := A) (outer := outer) (s := s) (H := H) (E := E)
  exact (s_cons (s_set (i := 0) nd rfl (by first | exact Or.inl rfl | exact Or.inr rfl) (d_op op_mod (od_I cPos_ok _) (d_fnT call_int1 cd_int rfl (T.f 2 rfl) (by decide +kernel) (a_cons (d_var 0) a_nil)) d_int))
    (s_one (s_ret (d_op op_mod (od_I cPos_ok _) (d_op op_mulA od_mul (d_op op_mod (od_I cPos_ok _) (d_op op_addA od_add (d_op op_addA od_add (d_op op_mulA od_mul (d_var 0) (d_op op_addA od_add d_int (d_op op_mulA od_mul (d_op op_mulA od_mul d_int (d_var 1)) (d_var 1)))) (d_op op_mulA od_mul d_int (d_var 1))) d_int) d_int) d_int) d_int))))
theorem sc__law_draw : FnScope ["_law_state", "_law_many", "_law_at", "_law_place", "_law_left", "_law_number"] ["_law_state", "_law_many"] (defScope s__law_draw) := ⟨rfl, rfl, rfl, by decide +kernel, rfl, by decide +kernel, by decide +kernel⟩
theorem D__law_draw (T : Tx ask K mg) (B : Tabd askT K mg base) : Def P w K mg base 2 "_law_draw" 2 (ctOf K excs) G__law_draw := by
  refine (def_mk (N := ["_law_state", "_law_many", "_law_at", "_law_place", "_law_left", "_law_number"]) (x := "_law_draw") (k := 1) (gs := S__law_draw) (nm := "_law_draw") (qual := "_law_draw") (params := defArgs s__law_draw) (body := defBody s__law_draw) (scope := defScope s__law_draw) (ps := ["_law_state", "_law_many"]) (T.fn 2 (d := d__law_draw) rfl) (T.g 5 rfl) sc__law_draw (fun _ _ _ _ _ _ us hl => match us, hl with | [_, _], _ => rfl) (fun f cdv A outer s H E hr gd => ?_))
  have nd := sc__law_draw.nd
  have tk := takes_def (P := P) (w := w) (K := K) (mg := mg) (base := base) (N := ["_law_state", "_law_many", "_law_at", "_law_place", "_law_left", "_law_number"]) (qual := "_law_draw") (scope := defScope s__law_draw) (f := f) (cd := cdv) (A := A) (outer := outer) (s := s) (H := H) (E := E)
  have hp := passes_def (P := P) (w := w) (K := K) (mg := mg) (base := base) (N := ["_law_state", "_law_many", "_law_at", "_law_place", "_law_left", "_law_number"]) (qual := "_law_draw") (scope := defScope s__law_draw) (f := f) (cd := cdv) (A := A) (outer := outer) (s := s) (H := H) (E := E)
  exact (s_cons (s_set (i := 2) nd rfl (by first | exact Or.inl rfl | exact Or.inr rfl) (d_ix (Rm.u1 hr) (d_var 0) d_str))
    (s_cons (s_setsub (Rm.u1 hr) (d_var 0) d_str (d_op op_addA od_add (d_var 2) d_int))
    (s_cons (s_set (i := 3) nd rfl (by first | exact Or.inl rfl | exact Or.inr rfl) (d_op op_mod (od_I cPos_ok _) (d_fnT call_int1 cd_int rfl (T.f 2 rfl) (by decide +kernel) (a_cons (d_var 2) a_nil)) (d_fnB call_len_seq cd_len rfl (T.f 4 rfl) (by decide +kernel) (a_cons (d_ix (Rm.u1 hr) (d_var 0) d_str) a_nil))))
    (s_cons (s_set (i := 4) nd rfl (by first | exact Or.inl rfl | exact Or.inr rfl) (d_ix (Rm.u1 hr) (d_ix (Rm.u1 hr) (d_var 0) d_str) (d_var 3)))
    (s_cons (s_if (t_cmp op_gt (od_B _) (d_var 4) d_int (nomark _)) (s_cons (s_setsub (Rm.u1 hr) (d_ix (Rm.u1 hr) (d_var 0) d_str) (d_var 3) (d_op op_fdiv (od_I cDiv_ok _) (d_var 4) (d_var 1)))
    (s_one (s_ret (d_op op_mod (od_I cPos_ok _) (d_fnT call_int1 cd_int rfl (T.f 2 rfl) (by decide +kernel) (a_cons (d_var 4) a_nil)) (d_var 1))))) s_nil)
    (s_cons (s_set (i := 5) nd rfl (by first | exact Or.inl rfl | exact Or.inr rfl) (d_def (D__law_mixed T B) (hr.mono (by omega)) gd tk (a_cons (d_def (D__law_mixed T B) (hr.mono (by omega)) gd tk (a_cons (d_ix (Rm.u1 hr) (d_ix (Rm.u1 hr) (d_var 0) d_str) (d_var 3)) (a_cons (d_var 2) a_nil))) (a_cons (d_op op_addA od_add d_int (d_var 2)) a_nil))))
    (s_one (s_ret (d_op op_mod (od_I cPos_ok _) (d_op op_fdiv (od_I cDiv_ok _) (d_fnT call_int1 cd_int rfl (T.f 2 rfl) (by decide +kernel) (a_cons (d_op op_addA od_add (d_op op_mulA od_mul (d_var 5) d_int) (d_def (D__law_mixed T B) (hr.mono (by omega)) gd tk (a_cons (d_var 5) (a_cons (d_op op_addA od_add d_int (d_var 2)) a_nil)))) a_nil)) d_int) (d_var 1))))))))))
theorem sc__law_of : FnScope ["_law_state", "_law_some"] ["_law_state", "_law_some"] (defScope s__law_of) := ⟨rfl, rfl, rfl, by decide +kernel, rfl, by decide +kernel, by decide +kernel⟩
theorem D__law_of (T : Tx ask K mg) (B : Tabd askT K mg base) : Def P w K mg base 3 "_law_of" 2 (ctOf K excs) G__law_of := by
  refine (def_mk (N := ["_law_state", "_law_some"]) (x := "_law_of") (k := 2) (gs := S__law_of) (nm := "_law_of") (qual := "_law_of") (params := defArgs s__law_of) (body := defBody s__law_of) (scope := defScope s__law_of) (ps := ["_law_state", "_law_some"]) (T.fn 3 (d := d__law_of) rfl) (T.g 6 rfl) sc__law_of (fun _ _ _ _ _ _ us hl => match us, hl with | [_, _], _ => rfl) (fun f cdv A outer s H E hr gd => ?_))
  have nd := sc__law_of.nd
  have tk := takes_def (P := P) (w := w) (K := K) (mg := mg) (base := base) (N := ["_law_state", "_law_some"]) (qual := "_law_of") (scope := defScope s__law_of) (f := f) (cd := cdv) (A := A) (outer := outer) (s := s) (H := H) (E := E)
  have hp := passes_def (P := P) (w := w) (K := K) (mg := mg) (base := base) (N := ["_law_state", "_law_some"]) (qual := "_law_of") (scope := defScope s__law_of) (f := f) (cd := cdv) (A := A) (outer := outer) (s := s) (H := H) (E := E)
  exact (s_one (s_ret (d_ix (Rm.u1 hr) (d_var 1) (d_def (D__law_draw T B) (hr.mono (by omega)) gd tk (a_cons (d_var 0) (a_cons (d_fnB call_len_seq cd_len rfl (T.f 4 rfl) (by decide +kernel) (a_cons (d_var 1) a_nil)) a_nil))))))
theorem sc__law_bent : FnScope ["_law_state", "_law_many", "_law_lot_here", "_law_choice", "_law_at"] ["_law_state", "_law_many", "_law_lot_here"] (defScope s__law_bent) := ⟨rfl, rfl, rfl, by decide +kernel, rfl, by decide +kernel, by decide +kernel⟩
theorem D__law_bent (T : Tx ask K mg) (B : Tabd askT K mg base) : Def P w K mg base 4 "_law_bent" 3 (ctOf K excs) G__law_bent := by
  refine (def_mk (N := ["_law_state", "_law_many", "_law_lot_here", "_law_choice", "_law_at"]) (x := "_law_bent") (k := 3) (gs := S__law_bent) (nm := "_law_bent") (qual := "_law_bent") (params := defArgs s__law_bent) (body := defBody s__law_bent) (scope := defScope s__law_bent) (ps := ["_law_state", "_law_many", "_law_lot_here"]) (T.fn 4 (d := d__law_bent) rfl) (T.g 7 rfl) sc__law_bent (fun _ _ _ _ _ _ us hl => match us, hl with | [_, _, _], _ => rfl) (fun f cdv A outer s H E hr gd => ?_))
  have nd := sc__law_bent.nd
  have tk := takes_def (P := P) (w := w) (K := K) (mg := mg) (base := base) (N := ["_law_state", "_law_many", "_law_lot_here", "_law_choice", "_law_at"]) (qual := "_law_bent") (scope := defScope s__law_bent) (f := f) (cd := cdv) (A := A) (outer := outer) (s := s) (H := H) (E := E)
  have hp := passes_def (P := P) (w := w) (K := K) (mg := mg) (base := base) (N := ["_law_state", "_law_many", "_law_lot_here", "_law_choice", "_law_at"]) (qual := "_law_bent") (scope := defScope s__law_bent) (f := f) (cd := cdv) (A := A) (outer := outer) (s := s) (H := H) (E := E)
  exact (s_cons (s_par (i := 3) (j := 4) rfl nd rfl rfl (by decide) rfl rfl (a_cons (d_def (D__law_draw T B) (hr.mono (by omega)) gd tk (a_cons (d_var 0) (a_cons d_int a_nil))) (a_cons (d_def (D__law_draw T B) (hr.mono (by omega)) gd tk (a_cons (d_var 0) (a_cons (d_op op_addA od_add (d_fnB call_len_seq cd_len rfl (T.f 4 rfl) (by decide +kernel) (a_cons (d_var 2) a_nil)) d_int) a_nil))) a_nil)) rfl)
    (s_cons (s_if (t_cmp (op_eqD (Rm.u64 hr)) od_eq (d_var 3) d_int (nomark _)) (s_one (s_ret (d_op op_addA od_add (d_sl (d_var 2) o_none (o_some (d_var 4))) (d_sl (d_var 2) (o_some (d_op op_addA od_add (d_var 4) d_int)) o_none)))) s_nil)
    (s_cons (s_if (t_cmp (op_eqD (Rm.u64 hr)) od_eq (d_var 3) d_int (nomark _)) (s_one (s_ret (d_revT (d_var 2)))) s_nil)
    (s_cons (s_if (t_cmp (op_eqD (Rm.u64 hr)) od_eq (d_var 3) d_int (nomark _)) (s_one (s_ret (d_op op_addA od_add (d_var 2) (d_sl (d_var 2) (o_some (d_var 4)) (o_some (d_op op_addA od_add (d_var 4) d_int)))))) s_nil)
    (s_cons (s_if (t_cmp (op_eqD (Rm.u64 hr)) od_eq (d_var 3) d_int (nomark _)) (s_one (s_ret (d_fnT call_list_of cd_list rfl (T.f 0 rfl) (by decide +kernel) (a_cons (d_var 2) a_nil)))) s_nil)
    (s_cons (s_if (t_cmp (op_eqD (Rm.u64 hr)) od_eq (d_var 3) d_int (nomark _)) (s_one (s_ret (d_op op_addA od_add (d_var 2) (d_tup (a_cons (d_def (D__law_of T B) (hr.mono (by omega)) gd tk (a_cons (d_var 0) (a_cons (d_lst (a_cons (d_var 1) (a_cons (d_un un_neg d_int) (a_cons d_non (a_cons d_str (a_cons (d_tup (a_cons d_int a_nil)) a_nil)))))) a_nil))) a_nil))))) s_nil)
    (s_cons (s_if (t_cmp (op_eqD (Rm.u64 hr)) od_eq (d_var 3) d_int (nomark _)) (s_one (s_ret (d_def (D__law_of T B) (hr.mono (by omega)) gd tk (a_cons (d_var 0) (a_cons (d_lst (a_cons d_non (a_cons (d_var 1) (a_cons d_str (a_cons d_d0 (a_cons (d_tup (a_cons d_bl a_nil)) (a_cons (d_tup (a_cons d_bl a_nil)) (a_cons (d_tup (a_cons (d_tup a_nil) a_nil)) a_nil)))))))) a_nil))))) s_nil)
    (s_one (s_ret (d_var 2))))))))))
theorem sc__law_heard : FnScope ["_law_call", "error"] ["_law_call"] (defScope s__law_heard) := ⟨rfl, rfl, rfl, by decide +kernel, rfl, by decide +kernel, by decide +kernel⟩
theorem L__law_heard (T : Tx ask K mg) (B : Tabd askT K mg base) : LamDef P w K mg base 0 "_law_heard" 2 (ctOf K excs) S__law_heard := by
  refine lamdef_mk (x := "_law_heard") (a := "_law_call") (params := defArgs s__law_heard) (body := defBody s__law_heard) (scope := defScope s__law_heard) (N := ["_law_call", "error"]) (k := 0) (gs := S__law_heard) (T.fn 5 (d := d__law_heard) rfl) (T.g 12 rfl) sc__law_heard (fun _ _ _ _ _ _ us hl => match us, hl with | [_], _ => rfl) rfl (Or.inl rfl) (fun g cdv A outer s H E u hr gd act => ?_)
  have nd := sc__law_heard.nd
  have tk := takes_def (P := P) (w := w) (K := K) (mg := mg) (base := base) (N := ["_law_call", "error"]) (qual := "_law_heard") (scope := defScope s__law_heard) (f := g) (cd := cdv) (A := A) (outer := outer) (s := s) (H := H) (E := E)
  exact (m_one (m_try rfl rfl nd tk (fun W1 pn xe tk1 => m_one (m_ret (m_lst (ma_cons (m_call (act W1 pn xe _ _ tk1)) ma_nil)))) (h_named ntOf_ct rfl rfl ⟨rfl, by decide, .inl (T.g 11 rfl)⟩ (mOf_ok T.told.cs "BadItem") (fun a0 C dd oe pn c0 names fs hm hct hz hf => us_one (us_ret (u_tup (ua_cons (u_e d_str) (ua_cons (u_f (ctOk_of T.told.es) hct hz hf (i := 1) rfl (by first | exact Or.inl rfl | exact Or.inr (Or.inl rfl) | exact Or.inr (Or.inr rfl)) (hmem := (fld_BadItem hm hct).1)) ua_nil))))) (h_named ntOf_ct rfl rfl ⟨rfl, by decide, .inl (T.g 10 rfl)⟩ (mOf_ok T.told.cs "BadLower") (fun a0 C dd oe pn c0 names fs hm hct hz hf => us_one (us_ret (u_tup (ua_cons (u_e d_str) (ua_cons (u_f (ctOk_of T.told.es) hct hz hf (i := 1) rfl (by first | exact Or.inl rfl | exact Or.inr (Or.inl rfl) | exact Or.inr (Or.inr rfl)) (hmem := (fld_BadLower hm hct).1)) ua_nil))))) (h_named ntOf_ct rfl rfl ⟨rfl, by decide, .inl (T.g 9 rfl)⟩ (mOf_ok T.told.cs "TooMany") (fun a0 C dd oe pn c0 names fs hm hct hz hf => us_one (us_ret (u_tup (ua_cons (u_e d_str) (ua_cons (u_f (ctOk_of T.told.es) hct hz hf (i := 1) rfl (by first | exact Or.inl rfl | exact Or.inr (Or.inl rfl) | exact Or.inr (Or.inr rfl)) (hmem := (fld_TooMany hm hct).1)) ua_nil))))) (h_bare ⟨rfl, by decide, .inl (T.g 8 rfl)⟩ (mOf_ok T.told.cs "TurnError") (fun a0 oe pn => (s_one (s_ret (d_tup (a_cons d_str (a_cons d_non a_nil)))))) h_nil))))))
theorem sc__law_aheads : FnScope ["_law_order_so", "_law_found_so", "_law_item", "_law_near", "_law_pair", "_law_lot_here", "_law_one", "_law_far"] ["_law_order_so"] (defScope s__law_aheads) := ⟨rfl, rfl, rfl, by decide +kernel, rfl, by decide +kernel, by decide +kernel⟩
theorem D__law_aheads (T : Tx ask K mg) (B : Tabd askT K mg base) : Def P w K mg base 1 "_law_aheads" 1 (ctOf K excs) G__law_aheads := by
  refine (def_mk (N := ["_law_order_so", "_law_found_so", "_law_item", "_law_near", "_law_pair", "_law_lot_here", "_law_one", "_law_far"]) (x := "_law_aheads") (k := 0) (gs := S__law_aheads) (nm := "_law_aheads") (qual := "_law_aheads") (params := defArgs s__law_aheads) (body := defBody s__law_aheads) (scope := defScope s__law_aheads) (ps := ["_law_order_so"]) (T.fn 6 (d := d__law_aheads) rfl) (T.g 15 rfl) sc__law_aheads (fun _ _ _ _ _ _ us hl => match us, hl with | [_], _ => rfl) (fun f cdv A outer s H E hr gd => ?_))
  have nd := sc__law_aheads.nd
  have tk := takes_def (P := P) (w := w) (K := K) (mg := mg) (base := base) (N := ["_law_order_so", "_law_found_so", "_law_item", "_law_near", "_law_pair", "_law_lot_here", "_law_one", "_law_far"]) (qual := "_law_aheads") (scope := defScope s__law_aheads) (f := f) (cd := cdv) (A := A) (outer := outer) (s := s) (H := H) (E := E)
  have hp := passes_def (P := P) (w := w) (K := K) (mg := mg) (base := base) (N := ["_law_order_so", "_law_found_so", "_law_item", "_law_near", "_law_pair", "_law_lot_here", "_law_one", "_law_far"]) (qual := "_law_aheads") (scope := defScope s__law_aheads) (f := f) (cd := cdv) (A := A) (outer := outer) (s := s) (H := H) (E := E)
  exact (s_cons (s_set (i := 1) nd rfl (by first | exact Or.inl rfl | exact Or.inr rfl) (d_lst a_nil))
    (s_cons (s_for hp rfl (i_rng1 rfl (T.f 13 rfl) (a_cons (d_ix (Rm.u1 hr) (d_var 0) d_int) a_nil)) (g_name (i := 2) nd rfl (by first | exact Or.inl rfl | exact Or.inr rfl)) (s_cons (s_setLc (i := 3) (own := [("_law_pair", 4)]) rfl nd rfl rfl (by rfl) (i_seq (d_ix (Rm.u1 hr) (d_var 0) d_int)) (blkOk_by (N := ["_law_order_so", "_law_found_so", "_law_item", "_law_near", "_law_pair", "_law_lot_here", "_law_one", "_law_far"]) (sc := defScope s__law_aheads) (by decide +kernel)) (by decide) (cg (tg_name 4) (fun s H C cl fp => (pg_name (i := 4) nd rfl (by first | exact Or.inl rfl | exact Or.inr rfl)))) (fun s H C cl fp => (ts_one (t_cmp (op_eqD (Rm.u64 hr)) od_eq (d_ix (Rm.u1 hr) (d_var 4) d_int) (d_var 2) (nomark _)))) (fun s H C cl fp => (d_ix (Rm.u1 hr) (d_var 4) d_int)))
    (s_cons (s_set (i := 5) nd rfl (by first | exact Or.inl rfl | exact Or.inr rfl) d_d0)
    (s_cons (s_for hp rfl (i_seq (d_var 3)) (g_name (i := 6) nd rfl (by first | exact Or.inl rfl | exact Or.inr rfl)) (s_cons (s_setsub (Rm.u1 hr) (d_var 5) (d_var 6) d_bl)
    (s_one (s_for hp rfl (i_seq (d_ix (Rm.u1 hr) (d_var 1) (d_var 6))) (g_name (i := 7) nd rfl (by first | exact Or.inl rfl | exact Or.inr rfl)) (s_one (s_setsub (Rm.u1 hr) (d_var 5) (d_var 7) d_bl))))))
    (s_one (s_expr (d_append (p := ⟨0, 0, 0, 0⟩) (d_var 1) (a_cons (d_fnB (call_sortedA rfl (Rm.u64 hr)) cd_sorted rfl (T.f 14 rfl) (by decide +kernel) (a_cons (d_var 5) a_nil)) a_nil))))))))
    (s_one (s_ret (d_var 1)))))
theorem sc__law_is_number : FnScope ["_law_thing", "_law_most"] ["_law_thing", "_law_most"] (defScope s__law_is_number) := ⟨rfl, rfl, rfl, by decide +kernel, rfl, by decide +kernel, by decide +kernel⟩
theorem D__law_is_number (T : Tx ask K mg) (B : Tabd askT K mg base) : Def P w K mg base 1 "_law_is_number" 2 (ctOf K excs) G__law_is_number := by
  refine (def_mk (N := ["_law_thing", "_law_most"]) (x := "_law_is_number") (k := 0) (gs := S__law_is_number) (nm := "_law_is_number") (qual := "_law_is_number") (params := defArgs s__law_is_number) (body := defBody s__law_is_number) (scope := defScope s__law_is_number) (ps := ["_law_thing", "_law_most"]) (T.fn 7 (d := d__law_is_number) rfl) (T.g 18 rfl) sc__law_is_number (fun _ _ _ _ _ _ us hl => match us, hl with | [_, _], _ => rfl) (fun f cdv A outer s H E hr gd => ?_))
  have nd := sc__law_is_number.nd
  have tk := takes_def (P := P) (w := w) (K := K) (mg := mg) (base := base) (N := ["_law_thing", "_law_most"]) (qual := "_law_is_number") (scope := defScope s__law_is_number) (f := f) (cd := cdv) (A := A) (outer := outer) (s := s) (H := H) (E := E)
  have hp := passes_def (P := P) (w := w) (K := K) (mg := mg) (base := base) (N := ["_law_thing", "_law_most"]) (qual := "_law_is_number") (scope := defScope s__law_is_number) (f := f) (cd := cdv) (A := A) (outer := outer) (s := s) (H := H) (E := E)
  exact (s_one (s_ret (d_and (d_isi (T := "int") (by decide +kernel) rfl (T.f 16 rfl) rfl (T.f 2 rfl) rfl (d_var 0)) (d_and (d_not (d_isi (T := "bool") (by decide +kernel) rfl (T.f 16 rfl) rfl (T.f 17 rfl) rfl (d_var 0))) (d_one (d_chain op_le (op_ltA (Rm.u0 hr)) (od_B _) od_lt d_int (d_var 0) (d_var 1)))))))
theorem sc__law_is_lot : FnScope ["_law_many", "_law_thing", "_law_one", "_law_near", "_law_far"] ["_law_many", "_law_thing"] (defScope s__law_is_lot) := ⟨rfl, rfl, rfl, by decide +kernel, rfl, by decide +kernel, by decide +kernel⟩
theorem D__law_is_lot (T : Tx ask K mg) (B : Tabd askT K mg base) : Def P w K mg base 2 "_law_is_lot" 2 (ctOf K excs) G__law_is_lot := by
  refine (def_mk (N := ["_law_many", "_law_thing", "_law_one", "_law_near", "_law_far"]) (x := "_law_is_lot") (k := 1) (gs := S__law_is_lot) (nm := "_law_is_lot") (qual := "_law_is_lot") (params := defArgs s__law_is_lot) (body := defBody s__law_is_lot) (scope := defScope s__law_is_lot) (ps := ["_law_many", "_law_thing"]) (T.fn 8 (d := d__law_is_lot) rfl) (T.g 21 rfl) sc__law_is_lot (fun _ _ _ _ _ _ us hl => match us, hl with | [_, _], _ => rfl) (fun f cdv A outer s H E hr gd => ?_))
  have nd := sc__law_is_lot.nd
  have tk := takes_def (P := P) (w := w) (K := K) (mg := mg) (base := base) (N := ["_law_many", "_law_thing", "_law_one", "_law_near", "_law_far"]) (qual := "_law_is_lot") (scope := defScope s__law_is_lot) (f := f) (cd := cdv) (A := A) (outer := outer) (s := s) (H := H) (E := E)
  have hp := passes_def (P := P) (w := w) (K := K) (mg := mg) (base := base) (N := ["_law_many", "_law_thing", "_law_one", "_law_near", "_law_far"]) (qual := "_law_is_lot") (scope := defScope s__law_is_lot) (f := f) (cd := cdv) (A := A) (outer := outer) (s := s) (H := H) (E := E)
  exact (s_cons (s_if (t_w (w_or (t_not (t_val (d_isi (T := "tuple") (by decide +kernel) rfl (T.f 16 rfl) rfl (T.f 19 rfl) rfl (d_var 1)))) (w_or1 (t_cmp (op_neD (Rm.u64 hr)) od_ne (d_lc (own := [("_law_one", 2)]) rfl nd (i_seq (d_var 1)) (blkOk_by (N := ["_law_many", "_law_thing", "_law_one", "_law_near", "_law_far"]) (sc := defScope s__law_is_lot) (by decide +kernel)) (by decide) (cg (tg_name 2) (fun s H C cl fp => (pg_name (i := 2) nd rfl (by first | exact Or.inl rfl | exact Or.inr rfl)))) (fun s H C cl fp => (ts_one (t_not (t_val (d_def (D__law_is_number T B) (hr.mono (by omega)) gd takesW0 (a_cons (d_var 2) (a_cons (d_var 0) a_nil))))))) (fun s H C cl fp => (d_var 2))) (d_lst a_nil) (nomark _))))) (s_one (s_ret d_bl)) s_nil)
    (s_one (s_ret (d_cmp (op_eqD (Rm.u64 hr)) od_eq (d_lc (own := [("_law_near", 3), ("_law_far", 4)]) rfl nd (i_zip rfl (T.f 20 rfl) (a_cons (d_var 1) (a_cons (d_sl (d_var 1) (o_some d_int) o_none) a_nil))) (blkOk_by (N := ["_law_many", "_law_thing", "_law_one", "_law_near", "_law_far"]) (sc := defScope s__law_is_lot) (by decide +kernel)) (by decide) (cg (tg_tup (tgs_cons (tg_name 3) (tgs_cons (tg_name 4) tgs_nil))) (fun s H C cl fp => (pg_tup (n := 2) rfl (pgs_cons (pg_name (i := 3) nd rfl (by first | exact Or.inl rfl | exact Or.inr rfl)) (pgs_cons (pg_name (i := 4) nd rfl (by first | exact Or.inl rfl | exact Or.inr rfl)) pgs_nil))))) (fun s H C cl fp => (ts_one (t_cmp (op_geA (Rm.u0 hr)) od_ge (d_var 3) (d_var 4) (nomark _)))) (fun s H C cl fp => d_int)) (d_lst a_nil) (nomark _)))))
theorem sc__law_is_lower : FnScope ["_law_order_here", "_law_thing", "_law_aheads_here", "_law_item", "_law_near"] ["_law_order_here", "_law_thing"] (defScope s__law_is_lower) := ⟨rfl, rfl, rfl, by decide +kernel, rfl, by decide +kernel, by decide +kernel⟩
theorem D__law_is_lower (T : Tx ask K mg) (B : Tabd askT K mg base) : Def P w K mg base 3 "_law_is_lower" 2 (ctOf K excs) G__law_is_lower := by
  refine (def_mk (N := ["_law_order_here", "_law_thing", "_law_aheads_here", "_law_item", "_law_near"]) (x := "_law_is_lower") (k := 2) (gs := S__law_is_lower) (nm := "_law_is_lower") (qual := "_law_is_lower") (params := defArgs s__law_is_lower) (body := defBody s__law_is_lower) (scope := defScope s__law_is_lower) (ps := ["_law_order_here", "_law_thing"]) (T.fn 9 (d := d__law_is_lower) rfl) (T.g 22 rfl) sc__law_is_lower (fun _ _ _ _ _ _ us hl => match us, hl with | [_, _], _ => rfl) (fun f cdv A outer s H E hr gd => ?_))
  have nd := sc__law_is_lower.nd
  have tk := takes_def (P := P) (w := w) (K := K) (mg := mg) (base := base) (N := ["_law_order_here", "_law_thing", "_law_aheads_here", "_law_item", "_law_near"]) (qual := "_law_is_lower") (scope := defScope s__law_is_lower) (f := f) (cd := cdv) (A := A) (outer := outer) (s := s) (H := H) (E := E)
  have hp := passes_def (P := P) (w := w) (K := K) (mg := mg) (base := base) (N := ["_law_order_here", "_law_thing", "_law_aheads_here", "_law_item", "_law_near"]) (qual := "_law_is_lower") (scope := defScope s__law_is_lower) (f := f) (cd := cdv) (A := A) (outer := outer) (s := s) (H := H) (E := E)
  exact (s_cons (s_if (t_not (t_val (d_def (D__law_is_lot T B) (hr.mono (by omega)) gd tk (a_cons (d_ix (Rm.u1 hr) (d_var 0) d_int) (a_cons (d_var 1) a_nil))))) (s_one (s_ret d_bl)) s_nil)
    (s_cons (s_set (i := 2) nd rfl (by first | exact Or.inl rfl | exact Or.inr rfl) (d_def (D__law_aheads T B) (hr.mono (by omega)) gd tk (a_cons (d_var 0) a_nil)))
    (s_one (s_ret (d_cmp (op_eqD (Rm.u64 hr)) od_eq (d_lc (own := [("_law_item", 3)]) rfl nd (i_seq (d_var 1)) (blkOk_by (N := ["_law_order_here", "_law_thing", "_law_aheads_here", "_law_item", "_law_near"]) (sc := defScope s__law_is_lower) (by decide +kernel)) (by decide) (cg (tg_name 3) (fun s H C cl fp => (pg_name (i := 3) nd rfl (by first | exact Or.inl rfl | exact Or.inr rfl)))) (fun s H C cl fp => (ts_one (t_cmp (op_neD (Rm.u64 hr)) od_ne (d_lc (own := [("_law_near", 4)]) rfl nd (i_seq (d_ix (Rm.u1 hr) (d_var 2) (d_var 3))) (blkOk_by (by kernel_rfl)) (by decide) (cg (tg_name 4) (fun s H C cl fp => (pg_name (i := 4) nd rfl (by first | exact Or.inl rfl | exact Or.inr rfl)))) (fun s H C cl fp => (ts_one (t_cmp (op_notInA (Rm.u65 hr)) od_notIn (d_var 4) (d_var 1) rfl))) (fun s H C cl fp => (d_var 4))) (d_lst a_nil) (nomark _)))) (fun s H C cl fp => (d_var 3))) (d_lst a_nil) (nomark _))))))
theorem sc__law_lot : FnScope ["_law_state", "_law_many", "_law_thick", "_law_item"] ["_law_state", "_law_many"] (defScope s__law_lot) := ⟨rfl, rfl, rfl, by decide +kernel, rfl, by decide +kernel, by decide +kernel⟩
theorem D__law_lot (T : Tx ask K mg) (B : Tabd askT K mg base) : Def P w K mg base 3 "_law_lot" 2 (ctOf K excs) G__law_lot := by
  refine (def_mk (N := ["_law_state", "_law_many", "_law_thick", "_law_item"]) (x := "_law_lot") (k := 2) (gs := S__law_lot) (nm := "_law_lot") (qual := "_law_lot") (params := defArgs s__law_lot) (body := defBody s__law_lot) (scope := defScope s__law_lot) (ps := ["_law_state", "_law_many"]) (T.fn 10 (d := d__law_lot) rfl) (T.g 23 rfl) sc__law_lot (fun _ _ _ _ _ _ us hl => match us, hl with | [_, _], _ => rfl) (fun f cdv A outer s H E hr gd => ?_))
  have nd := sc__law_lot.nd
  have tk := takes_def (P := P) (w := w) (K := K) (mg := mg) (base := base) (N := ["_law_state", "_law_many", "_law_thick", "_law_item"]) (qual := "_law_lot") (scope := defScope s__law_lot) (f := f) (cd := cdv) (A := A) (outer := outer) (s := s) (H := H) (E := E)
  have hp := passes_def (P := P) (w := w) (K := K) (mg := mg) (base := base) (N := ["_law_state", "_law_many", "_law_thick", "_law_item"]) (qual := "_law_lot") (scope := defScope s__law_lot) (f := f) (cd := cdv) (A := A) (outer := outer) (s := s) (H := H) (E := E)
  exact (s_cons (s_set (i := 2) nd rfl (by first | exact Or.inl rfl | exact Or.inr rfl) (d_op op_addA od_add d_int (d_def (D__law_draw T B) (hr.mono (by omega)) gd tk (a_cons (d_var 0) (a_cons d_int a_nil)))))
    (s_one (s_ret (d_fnT call_tuple_of cd_tuple rfl (T.f 19 rfl) (by decide +kernel) (a_cons (d_lc (own := [("_law_item", 3)]) rfl nd (i_rng1 rfl (T.f 13 rfl) (a_cons (d_var 1) a_nil)) (blkOk_by (N := ["_law_state", "_law_many", "_law_thick", "_law_item"]) (sc := defScope s__law_lot) (by decide +kernel)) (by decide) (cg (tg_name 3) (fun s H C cl fp => (pg_name (i := 3) nd rfl (by first | exact Or.inl rfl | exact Or.inr rfl)))) (fun s H C cl fp => (ts_one (t_cmp (op_ltA (Rm.u0 hr)) od_lt (d_def (D__law_draw T B) (hr.mono (by omega)) gd takesW0 (a_cons (d_var 0) (a_cons d_int a_nil))) (d_var 2) (nomark _)))) (fun s H C cl fp => (d_var 3))) a_nil)))))
theorem sc__law_lowers : FnScope ["_law_order_so", "_law_aheads_here", "_law_found_so", "_law_item", "_law_more", "_law_lot_here", "_law_one"] ["_law_order_so"] (defScope s__law_lowers) := ⟨rfl, rfl, rfl, by decide +kernel, rfl, by decide +kernel, by decide +kernel⟩
theorem D__law_lowers (T : Tx ask K mg) (B : Tabd askT K mg base) : Def P w K mg base 2 "_law_lowers" 1 (ctOf K excs) G__law_lowers := by
  refine (def_mk (N := ["_law_order_so", "_law_aheads_here", "_law_found_so", "_law_item", "_law_more", "_law_lot_here", "_law_one"]) (x := "_law_lowers") (k := 1) (gs := S__law_lowers) (nm := "_law_lowers") (qual := "_law_lowers") (params := defArgs s__law_lowers) (body := defBody s__law_lowers) (scope := defScope s__law_lowers) (ps := ["_law_order_so"]) (T.fn 11 (d := d__law_lowers) rfl) (T.g 24 rfl) sc__law_lowers (fun _ _ _ _ _ _ us hl => match us, hl with | [_], _ => rfl) (fun f cdv A outer s H E hr gd => ?_))
  have nd := sc__law_lowers.nd
  have tk := takes_def (P := P) (w := w) (K := K) (mg := mg) (base := base) (N := ["_law_order_so", "_law_aheads_here", "_law_found_so", "_law_item", "_law_more", "_law_lot_here", "_law_one"]) (qual := "_law_lowers") (scope := defScope s__law_lowers) (f := f) (cd := cdv) (A := A) (outer := outer) (s := s) (H := H) (E := E)
  have hp := passes_def (P := P) (w := w) (K := K) (mg := mg) (base := base) (N := ["_law_order_so", "_law_aheads_here", "_law_found_so", "_law_item", "_law_more", "_law_lot_here", "_law_one"]) (qual := "_law_lowers") (scope := defScope s__law_lowers) (f := f) (cd := cdv) (A := A) (outer := outer) (s := s) (H := H) (E := E)
  exact (s_cons (s_par (i := 1) (j := 2) rfl nd rfl rfl (by decide) rfl rfl (a_cons (d_def (D__law_aheads T B) (hr.mono (by omega)) gd tk (a_cons (d_var 0) a_nil)) (a_cons (d_lst (a_cons (d_tup a_nil) a_nil)) a_nil)) rfl)
    (s_cons (s_for hp rfl (i_rng1 rfl (T.f 13 rfl) (a_cons (d_ix (Rm.u1 hr) (d_var 0) d_int) a_nil)) (g_name (i := 3) nd rfl (by first | exact Or.inl rfl | exact Or.inr rfl)) (s_cons (s_set (i := 4) nd rfl (by first | exact Or.inl rfl | exact Or.inr rfl) (d_lst a_nil))
    (s_cons (s_for hp rfl (i_seq (d_var 2)) (g_name (i := 5) nd rfl (by first | exact Or.inl rfl | exact Or.inr rfl)) (s_one (s_if (t_cmp (op_eqD (Rm.u64 hr)) od_eq (d_lc (own := [("_law_one", 6)]) rfl nd (i_seq (d_ix (Rm.u1 hr) (d_var 1) (d_var 3))) (blkOk_by (N := ["_law_order_so", "_law_aheads_here", "_law_found_so", "_law_item", "_law_more", "_law_lot_here", "_law_one"]) (sc := defScope s__law_lowers) (by decide +kernel)) (by decide) (cg (tg_name 6) (fun s H C cl fp => (pg_name (i := 6) nd rfl (by first | exact Or.inl rfl | exact Or.inr rfl)))) (fun s H C cl fp => (ts_one (t_cmp (op_notInA (Rm.u65 hr)) od_notIn (d_var 6) (d_var 5) rfl))) (fun s H C cl fp => d_int)) (d_lst a_nil) (nomark _)) (s_one (s_expr (d_append (p := ⟨0, 0, 0, 0⟩) (d_var 4) (a_cons (d_op op_addA od_add (d_var 5) (d_tup (a_cons (d_var 3) a_nil))) a_nil)))) s_nil)))
    (s_one (s_set (i := 2) nd rfl (by first | exact Or.inl rfl | exact Or.inr rfl) (d_op op_addA od_add (d_var 2) (d_var 4)))))))
    (s_one (s_ret (d_fnB (call_sortedB rfl (Rm.u64 hr)) cd_sorted2 rfl (T.f 14 rfl) (by decide +kernel) (a_cons (d_var 2) a_nil))))))
theorem sc__law_put_due : FnScope ["_law_order_here", "_law_lower", "_law_aheads_here", "_law_some", "_law_item", "_law_near", "_law_far"] ["_law_order_here", "_law_lower"] (defScope s__law_put_due) := ⟨rfl, rfl, rfl, by decide +kernel, rfl, by decide +kernel, by decide +kernel⟩
theorem D__law_put_due (T : Tx ask K mg) (B : Tabd askT K mg base) : Def P w K mg base 2 "_law_put_due" 2 (ctOf K excs) G__law_put_due := by
  refine (def_mk (N := ["_law_order_here", "_law_lower", "_law_aheads_here", "_law_some", "_law_item", "_law_near", "_law_far"]) (x := "_law_put_due") (k := 1) (gs := S__law_put_due) (nm := "_law_put_due") (qual := "_law_put_due") (params := defArgs s__law_put_due) (body := defBody s__law_put_due) (scope := defScope s__law_put_due) (ps := ["_law_order_here", "_law_lower"]) (T.fn 12 (d := d__law_put_due) rfl) (T.g 25 rfl) sc__law_put_due (fun _ _ _ _ _ _ us hl => match us, hl with | [_, _], _ => rfl) (fun f cdv A outer s H E hr gd => ?_))
  have nd := sc__law_put_due.nd
  have tk := takes_def (P := P) (w := w) (K := K) (mg := mg) (base := base) (N := ["_law_order_here", "_law_lower", "_law_aheads_here", "_law_some", "_law_item", "_law_near", "_law_far"]) (qual := "_law_put_due") (scope := defScope s__law_put_due) (f := f) (cd := cdv) (A := A) (outer := outer) (s := s) (H := H) (E := E)
  have hp := passes_def (P := P) (w := w) (K := K) (mg := mg) (base := base) (N := ["_law_order_here", "_law_lower", "_law_aheads_here", "_law_some", "_law_item", "_law_near", "_law_far"]) (qual := "_law_put_due") (scope := defScope s__law_put_due) (f := f) (cd := cdv) (A := A) (outer := outer) (s := s) (H := H) (E := E)
  exact (s_cons (s_set (i := 2) nd rfl (by first | exact Or.inl rfl | exact Or.inr rfl) (d_def (D__law_aheads T B) (hr.mono (by omega)) gd tk (a_cons (d_var 0) a_nil)))
    (s_cons (s_setLc (i := 3) (own := [("_law_item", 4)]) rfl nd rfl rfl (by rfl) (i_rng1 rfl (T.f 13 rfl) (a_cons (d_ix (Rm.u1 hr) (d_var 0) d_int) a_nil)) (blkOk_by (N := ["_law_order_here", "_law_lower", "_law_aheads_here", "_law_some", "_law_item", "_law_near", "_law_far"]) (sc := defScope s__law_put_due) (by decide +kernel)) (by decide) (cg (tg_name 4) (fun s H C cl fp => (pg_name (i := 4) nd rfl (by first | exact Or.inl rfl | exact Or.inr rfl)))) (fun s H C cl fp => (ts_one (t_cmp (op_notInA (Rm.u65 hr)) od_notIn (d_var 4) (d_var 1) rfl))) (fun s H C cl fp => (d_var 4)))
    (s_cons (s_setLc (i := 3) (own := [("_law_item", 4)]) rfl nd rfl rfl (by rfl) (i_seq (d_var 3)) (blkOk_by (N := ["_law_order_here", "_law_lower", "_law_aheads_here", "_law_some", "_law_item", "_law_near", "_law_far"]) (sc := defScope s__law_put_due) (by decide +kernel)) (by decide) (cg (tg_name 4) (fun s H C cl fp => (pg_name (i := 4) nd rfl (by first | exact Or.inl rfl | exact Or.inr rfl)))) (fun s H C cl fp => (ts_one (t_cmp (op_eqD (Rm.u64 hr)) od_eq (d_lc (own := [("_law_near", 5)]) rfl nd (i_seq (d_ix (Rm.u1 hr) (d_var 2) (d_var 4))) (blkOk_by (by kernel_rfl)) (by decide) (cg (tg_name 5) (fun s H C cl fp => (pg_name (i := 5) nd rfl (by first | exact Or.inl rfl | exact Or.inr rfl)))) (fun s H C cl fp => (ts_one (t_cmp (op_notInA (Rm.u65 hr)) od_notIn (d_var 5) (d_var 1) rfl))) (fun s H C cl fp => (d_var 5))) (d_lst a_nil) (nomark _)))) (fun s H C cl fp => (d_var 4)))
    (s_one (s_ret (d_tup (a_cons (d_fnT call_tuple_of cd_tuple rfl (T.f 19 rfl) (by decide +kernel) (a_cons (d_var 3) a_nil)) (a_cons (d_fnT call_tuple_of cd_tuple rfl (T.f 19 rfl) (by decide +kernel) (a_cons (d_lc (own := [("_law_item", 4)]) rfl nd (i_seq (d_var 1)) (blkOk_by (N := ["_law_order_here", "_law_lower", "_law_aheads_here", "_law_some", "_law_item", "_law_near", "_law_far"]) (sc := defScope s__law_put_due) (by decide +kernel)) (by decide) (cg (tg_name 4) (fun s H C cl fp => (pg_name (i := 4) nd rfl (by first | exact Or.inl rfl | exact Or.inr rfl)))) (fun s H C cl fp => (ts_one (t_cmp (op_eqD (Rm.u64 hr)) od_eq (d_lc (own := [("_law_far", 6)]) rfl nd (i_seq (d_var 1)) (blkOk_by (by kernel_rfl)) (by decide) (cg (tg_name 6) (fun s H C cl fp => (pg_name (i := 6) nd rfl (by first | exact Or.inl rfl | exact Or.inr rfl)))) (fun s H C cl fp => (ts_one (t_cmp (op_inA (Rm.u65 hr)) od_in (d_var 4) (d_ix (Rm.u1 hr) (d_var 2) (d_var 6)) rfl))) (fun s H C cl fp => (d_var 6))) (d_lst a_nil) (nomark _)))) (fun s H C cl fp => (d_var 4))) a_nil)) a_nil))))))))
theorem sc_has_bit : FnScope ["mask", "item"] ["mask", "item"] (defScope s_has_bit) := ⟨rfl, rfl, rfl, by decide +kernel, rfl, by decide +kernel, by decide +kernel⟩
theorem D_has_bit (T : Tx ask K mg) (B : Tabd askT K mg base) : Def P w K mg base 1 "has_bit" 2 (ctOf K excs) G_has_bit := by
  refine (def_mk (N := ["mask", "item"]) (x := "has_bit") (k := 0) (gs := S_has_bit) (nm := "has_bit") (qual := "has_bit") (params := defArgs s_has_bit) (body := defBody s_has_bit) (scope := defScope s_has_bit) (ps := ["mask", "item"]) (T.fn 13 (d := d_has_bit) rfl) (T.g 26 rfl) sc_has_bit (fun _ _ _ _ _ _ us hl => match us, hl with | [_, _], _ => rfl) (fun f cdv A outer s H E hr gd => ?_))
  have nd := sc_has_bit.nd
  have tk := takes_def (P := P) (w := w) (K := K) (mg := mg) (base := base) (N := ["mask", "item"]) (qual := "has_bit") (scope := defScope s_has_bit) (f := f) (cd := cdv) (A := A) (outer := outer) (s := s) (H := H) (E := E)
  have hp := passes_def (P := P) (w := w) (K := K) (mg := mg) (base := base) (N := ["mask", "item"]) (qual := "has_bit") (scope := defScope s_has_bit) (f := f) (cd := cdv) (A := A) (outer := outer) (s := s) (H := H) (E := E)
  exact (s_one (s_ret (d_cmp (op_eqD (Rm.u64 hr)) od_eq (d_op op_and (od_I0 _) (d_op op_shr (od_I cNn_ok _) (d_var 0) (d_var 1)) d_int) d_int (nomark _))))
theorem sc_is_within : FnScope ["mask", "whole"] ["mask", "whole"] (defScope s_is_within) := ⟨rfl, rfl, rfl, by decide +kernel, rfl, by decide +kernel, by decide +kernel⟩
theorem D_is_within (T : Tx ask K mg) (B : Tabd askT K mg base) : Def P w K mg base 1 "is_within" 2 (ctOf K excs) G_is_within := by
  refine (def_mk (N := ["mask", "whole"]) (x := "is_within") (k := 0) (gs := S_is_within) (nm := "is_within") (qual := "is_within") (params := defArgs s_is_within) (body := defBody s_is_within) (scope := defScope s_is_within) (ps := ["mask", "whole"]) (T.fn 14 (d := d_is_within) rfl) (T.g 27 rfl) sc_is_within (fun _ _ _ _ _ _ us hl => match us, hl with | [_, _], _ => rfl) (fun f cdv A outer s H E hr gd => ?_))
  have nd := sc_is_within.nd
  have tk := takes_def (P := P) (w := w) (K := K) (mg := mg) (base := base) (N := ["mask", "whole"]) (qual := "is_within") (scope := defScope s_is_within) (f := f) (cd := cdv) (A := A) (outer := outer) (s := s) (H := H) (E := E)
  have hp := passes_def (P := P) (w := w) (K := K) (mg := mg) (base := base) (N := ["mask", "whole"]) (qual := "is_within") (scope := defScope s_is_within) (f := f) (cd := cdv) (A := A) (outer := outer) (s := s) (H := H) (E := E)
  exact (s_one (s_ret (d_cmp (op_eqD (Rm.u64 hr)) od_eq (d_op op_and (od_I0 _) (d_var 0) (d_var 1)) (d_var 0) (nomark _))))
theorem sc_mask_of : FnScope ["lot", "mask", "item"] ["lot"] (defScope s_mask_of) := ⟨rfl, rfl, rfl, by decide +kernel, rfl, by decide +kernel, by decide +kernel⟩
theorem D_mask_of (T : Tx ask K mg) (B : Tabd askT K mg base) : Def P w K mg base 1 "mask_of" 1 (ctOf K excs) G_mask_of := by
  refine (def_mk (N := ["lot", "mask", "item"]) (x := "mask_of") (k := 0) (gs := S_mask_of) (nm := "mask_of") (qual := "mask_of") (params := defArgs s_mask_of) (body := defBody s_mask_of) (scope := defScope s_mask_of) (ps := ["lot"]) (T.fn 15 (d := d_mask_of) rfl) (T.g 28 rfl) sc_mask_of (fun _ _ _ _ _ _ us hl => match us, hl with | [_], _ => rfl) (fun f cdv A outer s H E hr gd => ?_))
  have nd := sc_mask_of.nd
  have tk := takes_def (P := P) (w := w) (K := K) (mg := mg) (base := base) (N := ["lot", "mask", "item"]) (qual := "mask_of") (scope := defScope s_mask_of) (f := f) (cd := cdv) (A := A) (outer := outer) (s := s) (H := H) (E := E)
  have hp := passes_def (P := P) (w := w) (K := K) (mg := mg) (base := base) (N := ["lot", "mask", "item"]) (qual := "mask_of") (scope := defScope s_mask_of) (f := f) (cd := cdv) (A := A) (outer := outer) (s := s) (H := H) (E := E)
  exact (s_cons (s_set (i := 1) nd rfl (by first | exact Or.inl rfl | exact Or.inr rfl) d_int)
    (s_cons (s_for hp rfl (i_seq (d_var 0)) (g_name (i := 2) nd rfl (by first | exact Or.inl rfl | exact Or.inr rfl)) (s_one (s_aug (i := 1) nd rfl (by first | exact Or.inl rfl | exact Or.inr rfl) (d_op op_shl (od_I cPow_ok _) d_int (d_var 2)) iop_or (od_I0 _))))
    (s_one (s_ret (d_var 1)))))
theorem sc_can_be_put : FnScope ["ahead", "lower", "mask", "item", "needed"] ["ahead", "lower"] (defScope s_can_be_put) := ⟨rfl, rfl, rfl, by decide +kernel, rfl, by decide +kernel, by decide +kernel⟩
theorem D_can_be_put (T : Tx ask K mg) (B : Tabd askT K mg base) : Def P w K mg base 2 "can_be_put" 2 (ctOf K excs) G_can_be_put := by
  refine (def_mk (N := ["ahead", "lower", "mask", "item", "needed"]) (x := "can_be_put") (k := 1) (gs := S_can_be_put) (nm := "can_be_put") (qual := "can_be_put") (params := defArgs s_can_be_put) (body := defBody s_can_be_put) (scope := defScope s_can_be_put) (ps := ["ahead", "lower"]) (T.fn 16 (d := d_can_be_put) rfl) (T.g 30 rfl) sc_can_be_put (fun _ _ _ _ _ _ us hl => match us, hl with | [_, _], _ => rfl) (fun f cdv A outer s H E hr gd => ?_))
  have nd := sc_can_be_put.nd
  have tk := takes_def (P := P) (w := w) (K := K) (mg := mg) (base := base) (N := ["ahead", "lower", "mask", "item", "needed"]) (qual := "can_be_put") (scope := defScope s_can_be_put) (f := f) (cd := cdv) (A := A) (outer := outer) (s := s) (H := H) (E := E)
  have hp := passes_def (P := P) (w := w) (K := K) (mg := mg) (base := base) (N := ["ahead", "lower", "mask", "item", "needed"]) (qual := "can_be_put") (scope := defScope s_can_be_put) (f := f) (cd := cdv) (A := A) (outer := outer) (s := s) (H := H) (E := E)
  exact (s_cons (s_set (i := 2) nd rfl (by first | exact Or.inl rfl | exact Or.inr rfl) (d_def (D_mask_of T B) (hr.mono (by omega)) gd tk (a_cons (d_var 1) a_nil)))
    (s_one (s_ret (d_fnT call_tuple_of cd_tuple rfl (T.f 19 rfl) (by decide +kernel) (a_cons (d_lc (own := [("item", 3), ("needed", 4)]) rfl nd (i_enum rfl (T.f 29 rfl) (a_cons (d_var 0) a_nil)) (blkOk_by (N := ["ahead", "lower", "mask", "item", "needed"]) (sc := defScope s_can_be_put) (by decide +kernel)) (by decide) (cg (tg_tup (tgs_cons (tg_name 3) (tgs_cons (tg_name 4) tgs_nil))) (fun s H C cl fp => (pg_tup (n := 2) rfl (pgs_cons (pg_name (i := 3) nd rfl (by first | exact Or.inl rfl | exact Or.inr rfl)) (pgs_cons (pg_name (i := 4) nd rfl (by first | exact Or.inl rfl | exact Or.inr rfl)) pgs_nil))))) (fun s H C cl fp => (ts_one (t_w (w_and (t_not (t_val (d_def (D_has_bit T B) (hr.mono (by omega)) gd takesW0 (a_cons (d_var 2) (a_cons (d_var 3) a_nil))))) (w_and1 (t_val (d_def (D_is_within T B) (hr.mono (by omega)) gd takesW0 (a_cons (d_var 4) (a_cons (d_var 2) a_nil))))))))) (fun s H C cl fp => (d_var 3))) a_nil)))))
theorem sc_lot_of : FnScope ["mask", "item"] ["mask"] (defScope s_lot_of) := ⟨rfl, rfl, rfl, by decide +kernel, rfl, by decide +kernel, by decide +kernel⟩
theorem D_lot_of (T : Tx ask K mg) (B : Tabd askT K mg base) : Def P w K mg base 2 "lot_of" 1 (ctOf K excs) G_lot_of := by
  refine (def_mk (N := ["mask", "item"]) (x := "lot_of") (k := 1) (gs := S_lot_of) (nm := "lot_of") (qual := "lot_of") (params := defArgs s_lot_of) (body := defBody s_lot_of) (scope := defScope s_lot_of) (ps := ["mask"]) (T.fn 17 (d := d_lot_of) rfl) (T.g 31 rfl) sc_lot_of (fun _ _ _ _ _ _ us hl => match us, hl with | [_], _ => rfl) (fun f cdv A outer s H E hr gd => ?_))
  have nd := sc_lot_of.nd
  have tk := takes_def (P := P) (w := w) (K := K) (mg := mg) (base := base) (N := ["mask", "item"]) (qual := "lot_of") (scope := defScope s_lot_of) (f := f) (cd := cdv) (A := A) (outer := outer) (s := s) (H := H) (E := E)
  have hp := passes_def (P := P) (w := w) (K := K) (mg := mg) (base := base) (N := ["mask", "item"]) (qual := "lot_of") (scope := defScope s_lot_of) (f := f) (cd := cdv) (A := A) (outer := outer) (s := s) (H := H) (E := E)
  exact (s_one (s_ret (d_fnT call_tuple_of cd_tuple rfl (T.f 19 rfl) (by decide +kernel) (a_cons (d_lc (own := [("item", 1)]) rfl nd (i_rng1 rfl (T.f 13 rfl) (a_cons (d_bits (d_var 0)) a_nil)) (blkOk_by (N := ["mask", "item"]) (sc := defScope s_lot_of) (by decide +kernel)) (by decide) (cg (tg_name 1) (fun s H C cl fp => (pg_name (i := 1) nd rfl (by first | exact Or.inl rfl | exact Or.inr rfl)))) (fun s H C cl fp => (ts_one (t_val (d_def (D_has_bit T B) (hr.mono (by omega)) gd takesW0 (a_cons (d_var 0) (a_cons (d_var 1) a_nil)))))) (fun s H C cl fp => (d_var 1))) a_nil))))
theorem sc_masks_ahead : FnScope ["order", "many", "pairs", "straight", "item", "far", "ahead", "mask", "lesser"] ["order"] (defScope s_masks_ahead) := ⟨rfl, rfl, rfl, by decide +kernel, rfl, by decide +kernel, by decide +kernel⟩
theorem D_masks_ahead (T : Tx ask K mg) (B : Tabd askT K mg base) : Def P w K mg base 3 "masks_ahead" 1 (ctOf K excs) G_masks_ahead := by
  refine (def_mk (N := ["order", "many", "pairs", "straight", "item", "far", "ahead", "mask", "lesser"]) (x := "masks_ahead") (k := 2) (gs := S_masks_ahead) (nm := "masks_ahead") (qual := "masks_ahead") (params := defArgs s_masks_ahead) (body := defBody s_masks_ahead) (scope := defScope s_masks_ahead) (ps := ["order"]) (T.fn 18 (d := d_masks_ahead) rfl) (T.g 32 rfl) sc_masks_ahead (fun _ _ _ _ _ _ us hl => match us, hl with | [_], _ => rfl) (fun f cdv A outer s H E hr gd => ?_))
  have nd := sc_masks_ahead.nd
  have tk := takes_def (P := P) (w := w) (K := K) (mg := mg) (base := base) (N := ["order", "many", "pairs", "straight", "item", "far", "ahead", "mask", "lesser"]) (qual := "masks_ahead") (scope := defScope s_masks_ahead) (f := f) (cd := cdv) (A := A) (outer := outer) (s := s) (H := H) (E := E)
  have hp := passes_def (P := P) (w := w) (K := K) (mg := mg) (base := base) (N := ["order", "many", "pairs", "straight", "item", "far", "ahead", "mask", "lesser"]) (qual := "masks_ahead") (scope := defScope s_masks_ahead) (f := f) (cd := cdv) (A := A) (outer := outer) (s := s) (H := H) (E := E)
  exact (s_cons (s_asg (d_var 0) (g_tup (n := 2) rfl (gs_cons (g_name (i := 1) nd rfl (by first | exact Or.inl rfl | exact Or.inr rfl)) (gs_cons (g_name (i := 2) nd rfl (by first | exact Or.inl rfl | exact Or.inr rfl)) gs_nil))))
    (s_cons (s_set (i := 3) nd rfl (by first | exact Or.inl rfl | exact Or.inr rfl) (d_op op_mulA od_mul (d_lst (a_cons d_int a_nil)) (d_var 1)))
    (s_cons (s_for hp rfl (i_seq (d_var 2)) (g_tup (n := 2) rfl (gs_cons (g_name (i := 4) nd rfl (by first | exact Or.inl rfl | exact Or.inr rfl)) (gs_cons (g_name (i := 5) nd rfl (by first | exact Or.inl rfl | exact Or.inr rfl)) gs_nil))) (s_one (s_augsub (d_var 3) (d_var 5) (d_op op_shl (od_I cPow_ok _) d_int (d_var 4)) iop_or (od_I0 _))))
    (s_cons (s_set (i := 6) nd rfl (by first | exact Or.inl rfl | exact Or.inr rfl) (d_lst a_nil))
    (s_cons (s_for hp rfl (i_rng1 rfl (T.f 13 rfl) (a_cons (d_var 1) a_nil)) (g_name (i := 4) nd rfl (by first | exact Or.inl rfl | exact Or.inr rfl)) (s_cons (s_set (i := 7) nd rfl (by first | exact Or.inl rfl | exact Or.inr rfl) (d_ix (Rm.u1 hr) (d_var 3) (d_var 4)))
    (s_cons (s_for hp rfl (i_seq (d_def (D_lot_of T B) (hr.mono (by omega)) gd tk (a_cons (d_ix (Rm.u1 hr) (d_var 3) (d_var 4)) a_nil))) (g_name (i := 8) nd rfl (by first | exact Or.inl rfl | exact Or.inr rfl)) (s_one (s_aug (i := 7) nd rfl (by first | exact Or.inl rfl | exact Or.inr rfl) (d_ix (Rm.u1 hr) (d_var 6) (d_var 8)) iop_or (od_I0 _))))
    (s_one (s_expr (d_append (p := ⟨0, 0, 0, 0⟩) (d_var 6) (a_cons (d_var 7) a_nil)))))))
    (s_one (s_ret (d_var 6))))))))
theorem sc_is_ascending : FnScope ["things", "first", "second"] ["things"] (defScope s_is_ascending) := ⟨rfl, rfl, rfl, by decide +kernel, rfl, by decide +kernel, by decide +kernel⟩
theorem D_is_ascending (T : Tx ask K mg) (B : Tabd askT K mg base) : Def P w K mg base 1 "is_ascending" 1 (ctOf K excs) G_is_ascending := by
  refine (def_mk (N := ["things", "first", "second"]) (x := "is_ascending") (k := 0) (gs := S_is_ascending) (nm := "is_ascending") (qual := "is_ascending") (params := defArgs s_is_ascending) (body := defBody s_is_ascending) (scope := defScope s_is_ascending) (ps := ["things"]) (T.fn 19 (d := d_is_ascending) rfl) (T.g 34 rfl) sc_is_ascending (fun _ _ _ _ _ _ us hl => match us, hl with | [_], _ => rfl) (fun f cdv A outer s H E hr gd => ?_))
  have nd := sc_is_ascending.nd
  have tk := takes_def (P := P) (w := w) (K := K) (mg := mg) (base := base) (N := ["things", "first", "second"]) (qual := "is_ascending") (scope := defScope s_is_ascending) (f := f) (cd := cdv) (A := A) (outer := outer) (s := s) (H := H) (E := E)
  have hp := passes_def (P := P) (w := w) (K := K) (mg := mg) (base := base) (N := ["things", "first", "second"]) (qual := "is_ascending") (scope := defScope s_is_ascending) (f := f) (cd := cdv) (A := A) (outer := outer) (s := s) (H := H) (E := E)
  exact (s_one (s_ret (d_fnB (cr_all rfl) cd_all rfl (T.f 33 rfl) (by decide +kernel) (a_cons (d_lc (own := [("first", 1), ("second", 2)]) rfl nd (i_zip rfl (T.f 20 rfl) (a_cons (d_var 0) (a_cons (d_sl (d_var 0) (o_some d_int) o_none) a_nil))) (blkOk_by (N := ["things", "first", "second"]) (sc := defScope s_is_ascending) (by decide +kernel)) (by decide) (cg (tg_tup (tgs_cons (tg_name 1) (tgs_cons (tg_name 2) tgs_nil))) (fun s H C cl fp => (pg_tup (n := 2) rfl (pgs_cons (pg_name (i := 1) nd rfl (by first | exact Or.inl rfl | exact Or.inr rfl)) (pgs_cons (pg_name (i := 2) nd rfl (by first | exact Or.inl rfl | exact Or.inr rfl)) pgs_nil))))) (fun s H C cl fp => ts_nil) (fun s H C cl fp => (d_cmp (op_ltA (Rm.u0 hr)) od_lt (d_var 1) (d_var 2) (nomark _)))) a_nil))))
theorem sc_is_number : FnScope ["value", "low", "high"] ["value", "low", "high"] (defScope s_is_number) := ⟨rfl, rfl, rfl, by decide +kernel, rfl, by decide +kernel, by decide +kernel⟩
theorem D_is_number (T : Tx ask K mg) (B : Tabd askT K mg base) : Def P w K mg base 1 "is_number" 3 (ctOf K excs) G_is_number := by
  refine (def_mk (N := ["value", "low", "high"]) (x := "is_number") (k := 0) (gs := S_is_number) (nm := "is_number") (qual := "is_number") (params := defArgs s_is_number) (body := defBody s_is_number) (scope := defScope s_is_number) (ps := ["value", "low", "high"]) (T.fn 20 (d := d_is_number) rfl) (T.g 35 rfl) sc_is_number (fun _ _ _ _ _ _ us hl => match us, hl with | [_, _, _], _ => rfl) (fun f cdv A outer s H E hr gd => ?_))
  have nd := sc_is_number.nd
  have tk := takes_def (P := P) (w := w) (K := K) (mg := mg) (base := base) (N := ["value", "low", "high"]) (qual := "is_number") (scope := defScope s_is_number) (f := f) (cd := cdv) (A := A) (outer := outer) (s := s) (H := H) (E := E)
  have hp := passes_def (P := P) (w := w) (K := K) (mg := mg) (base := base) (N := ["value", "low", "high"]) (qual := "is_number") (scope := defScope s_is_number) (f := f) (cd := cdv) (A := A) (outer := outer) (s := s) (H := H) (E := E)
  exact (s_one (s_ret (d_and (d_isi (T := "int") (by decide +kernel) rfl (T.f 16 rfl) rfl (T.f 2 rfl) rfl (d_var 0)) (d_one (d_chain op_le op_le (od_B _) (od_B _) (d_var 1) (d_var 0) (d_var 2))))))
theorem sc_is_lot : FnScope ["value", "many", "thing"] ["value", "many"] (defScope s_is_lot) := ⟨rfl, rfl, rfl, by decide +kernel, rfl, by decide +kernel, by decide +kernel⟩
theorem D_is_lot (T : Tx ask K mg) (B : Tabd askT K mg base) : Def P w K mg base 2 "is_lot" 2 (ctOf K excs) G_is_lot := by
  refine (def_mk (N := ["value", "many", "thing"]) (x := "is_lot") (k := 1) (gs := S_is_lot) (nm := "is_lot") (qual := "is_lot") (params := defArgs s_is_lot) (body := defBody s_is_lot) (scope := defScope s_is_lot) (ps := ["value", "many"]) (T.fn 21 (d := d_is_lot) rfl) (T.g 36 rfl) sc_is_lot (fun _ _ _ _ _ _ us hl => match us, hl with | [_, _], _ => rfl) (fun f cdv A outer s H E hr gd => ?_))
  have nd := sc_is_lot.nd
  have tk := takes_def (P := P) (w := w) (K := K) (mg := mg) (base := base) (N := ["value", "many", "thing"]) (qual := "is_lot") (scope := defScope s_is_lot) (f := f) (cd := cdv) (A := A) (outer := outer) (s := s) (H := H) (E := E)
  have hp := passes_def (P := P) (w := w) (K := K) (mg := mg) (base := base) (N := ["value", "many", "thing"]) (qual := "is_lot") (scope := defScope s_is_lot) (f := f) (cd := cdv) (A := A) (outer := outer) (s := s) (H := H) (E := E)
  exact (s_cons (s_if (t_not (t_val (d_isi (T := "tuple") (by decide +kernel) rfl (T.f 16 rfl) rfl (T.f 19 rfl) rfl (d_var 0)))) (s_one (s_ret d_bl)) s_nil)
    (s_one (s_ret (d_and (d_fnB (cr_all rfl) cd_all rfl (T.f 33 rfl) (by decide +kernel) (a_cons (d_lc (own := [("thing", 2)]) rfl nd (i_seq (d_var 0)) (blkOk_by (N := ["value", "many", "thing"]) (sc := defScope s_is_lot) (by decide +kernel)) (by decide) (cg (tg_name 2) (fun s H C cl fp => (pg_name (i := 2) nd rfl (by first | exact Or.inl rfl | exact Or.inr rfl)))) (fun s H C cl fp => ts_nil) (fun s H C cl fp => (d_def (D_is_number T B) (hr.mono (by omega)) gd takesW0 (a_cons (d_var 2) (a_cons d_int (a_cons (d_op op_sub (od_I0 _) (d_var 1) d_int) a_nil)))))) a_nil)) (d_one (d_def (D_is_ascending T B) (hr.mono (by omega)) gd tk (a_cons (d_var 0) a_nil)))))))
theorem sc_is_lower_mask : FnScope ["ahead", "mask", "item"] ["ahead", "mask"] (defScope s_is_lower_mask) := ⟨rfl, rfl, rfl, by decide +kernel, rfl, by decide +kernel, by decide +kernel⟩
theorem D_is_lower_mask (T : Tx ask K mg) (B : Tabd askT K mg base) : Def P w K mg base 3 "is_lower_mask" 2 (ctOf K excs) G_is_lower_mask := by
  refine (def_mk (N := ["ahead", "mask", "item"]) (x := "is_lower_mask") (k := 2) (gs := S_is_lower_mask) (nm := "is_lower_mask") (qual := "is_lower_mask") (params := defArgs s_is_lower_mask) (body := defBody s_is_lower_mask) (scope := defScope s_is_lower_mask) (ps := ["ahead", "mask"]) (T.fn 22 (d := d_is_lower_mask) rfl) (T.g 37 rfl) sc_is_lower_mask (fun _ _ _ _ _ _ us hl => match us, hl with | [_, _], _ => rfl) (fun f cdv A outer s H E hr gd => ?_))
  have nd := sc_is_lower_mask.nd
  have tk := takes_def (P := P) (w := w) (K := K) (mg := mg) (base := base) (N := ["ahead", "mask", "item"]) (qual := "is_lower_mask") (scope := defScope s_is_lower_mask) (f := f) (cd := cdv) (A := A) (outer := outer) (s := s) (H := H) (E := E)
  have hp := passes_def (P := P) (w := w) (K := K) (mg := mg) (base := base) (N := ["ahead", "mask", "item"]) (qual := "is_lower_mask") (scope := defScope s_is_lower_mask) (f := f) (cd := cdv) (A := A) (outer := outer) (s := s) (H := H) (E := E)
  exact (s_one (s_ret (d_fnB (cr_all rfl) cd_all rfl (T.f 33 rfl) (by decide +kernel) (a_cons (d_lc (own := [("item", 2)]) rfl nd (i_seq (d_def (D_lot_of T B) (hr.mono (by omega)) gd tk (a_cons (d_var 1) a_nil))) (blkOk_by (N := ["ahead", "mask", "item"]) (sc := defScope s_is_lower_mask) (by decide +kernel)) (by decide) (cg (tg_name 2) (fun s H C cl fp => (pg_name (i := 2) nd rfl (by first | exact Or.inl rfl | exact Or.inr rfl)))) (fun s H C cl fp => ts_nil) (fun s H C cl fp => (d_def (D_is_within T B) (hr.mono (by omega)) gd takesW0 (a_cons (d_ix (Rm.u1 hr) (d_var 0) (d_var 2)) (a_cons (d_var 1) a_nil))))) a_nil))))
theorem sc_is_plain_lower : FnScope ["order", "value"] ["order", "value"] (defScope s_is_plain_lower) := ⟨rfl, rfl, rfl, by decide +kernel, rfl, by decide +kernel, by decide +kernel⟩
theorem D_is_plain_lower (T : Tx ask K mg) (B : Tabd askT K mg base) : Def P w K mg base 4 "is_plain_lower" 2 (ctOf K excs) G_is_plain_lower := by
  refine (def_mk (N := ["order", "value"]) (x := "is_plain_lower") (k := 3) (gs := S_is_plain_lower) (nm := "is_plain_lower") (qual := "is_plain_lower") (params := defArgs s_is_plain_lower) (body := defBody s_is_plain_lower) (scope := defScope s_is_plain_lower) (ps := ["order", "value"]) (T.fn 23 (d := d_is_plain_lower) rfl) (T.g 38 rfl) sc_is_plain_lower (fun _ _ _ _ _ _ us hl => match us, hl with | [_, _], _ => rfl) (fun f cdv A outer s H E hr gd => ?_))
  have nd := sc_is_plain_lower.nd
  have tk := takes_def (P := P) (w := w) (K := K) (mg := mg) (base := base) (N := ["order", "value"]) (qual := "is_plain_lower") (scope := defScope s_is_plain_lower) (f := f) (cd := cdv) (A := A) (outer := outer) (s := s) (H := H) (E := E)
  have hp := passes_def (P := P) (w := w) (K := K) (mg := mg) (base := base) (N := ["order", "value"]) (qual := "is_plain_lower") (scope := defScope s_is_plain_lower) (f := f) (cd := cdv) (A := A) (outer := outer) (s := s) (H := H) (E := E)
  exact (s_one (s_ret (d_and (d_def (D_is_lot T B) (hr.mono (by omega)) gd tk (a_cons (d_var 1) (a_cons (d_ix (Rm.u1 hr) (d_var 0) d_int) a_nil))) (d_one (d_def (D_is_lower_mask T B) (hr.mono (by omega)) gd tk (a_cons (d_def (D_masks_ahead T B) (hr.mono (by omega)) gd tk (a_cons (d_var 0) a_nil)) (a_cons (d_def (D_mask_of T B) (hr.mono (by omega)) gd tk (a_cons (d_var 1) a_nil)) a_nil)))))))
theorem sc__copied : FnScope ["value", "budget", "deep", "thing"] ["value", "budget", "deep"] (defScope s__copied) := ⟨rfl, rfl, rfl, by decide +kernel, rfl, by decide +kernel, by decide +kernel⟩
theorem D__copied (T : Tx ask K mg) (B : Tabd askT K mg base) : ∀ n : Nat, Def P w K mg base (n + 0) "_copied" 3 (ctOf K excs) (G__copied n)
  | 0 => def_none (x := "_copied") (nm := "_copied") (qual := "_copied") (params := defArgs s__copied) (body := defBody s__copied) (scope := defScope s__copied) (ps := ["value", "budget", "deep"]) (T.fn 24 (d := d__copied) rfl) (T.g 41 rfl) (fun _ _ _ _ _ _ us hl => match us, hl with | [_, _, _], _ => rfl)
  | n + 1 => by
    have ih := D__copied T B n
    refine (def_mk (N := ["value", "budget", "deep", "thing"]) (x := "_copied") (k := n + 0) (gs := S__copied (fun _ => G__copied n) 0) (nm := "_copied") (qual := "_copied") (params := defArgs s__copied) (body := defBody s__copied) (scope := defScope s__copied) (ps := ["value", "budget", "deep"]) (T.fn 24 (d := d__copied) rfl) (T.g 41 rfl) sc__copied (fun _ _ _ _ _ _ us hl => match us, hl with | [_, _, _], _ => rfl) (fun f cdv A outer s H E hr gd => ?_))
    have nd := sc__copied.nd
    have hr0 := hr
    have tk := takes_def (P := P) (w := w) (K := K) (mg := mg) (base := base) (N := ["value", "budget", "deep", "thing"]) (qual := "_copied") (scope := defScope s__copied) (f := f) (cd := cdv) (A := A) (outer := outer) (s := s) (H := H) (E := E)
    have hp := passes_def (P := P) (w := w) (K := K) (mg := mg) (base := base) (N := ["value", "budget", "deep", "thing"]) (qual := "_copied") (scope := defScope s__copied) (f := f) (cd := cdv) (A := A) (outer := outer) (s := s) (H := H) (E := E)
    exact (s_cons (s_if (t_val (d_isi (T := "int") (by decide +kernel) rfl (T.f 16 rfl) rfl (T.f 2 rfl) rfl (d_var 0))) (s_one (s_ret (d_ife (t_val (d_isi (T := "bool") (by decide +kernel) rfl (T.f 16 rfl) rfl (T.f 17 rfl) rfl (d_var 0))) (d_gStr (T.s 39 rfl)) (d_fnT call_int1 cd_int rfl (T.f 2 rfl) (by decide +kernel) (a_cons (d_var 0) a_nil))))) s_nil)
    (s_cons (s_if (t_val (d_isi (T := "tuple") (by decide +kernel) rfl (T.f 16 rfl) rfl (T.f 19 rfl) rfl (d_var 0))) (s_cons (s_augsub (d_var 1) d_int (d_fnB call_len_seq cd_len rfl (T.f 4 rfl) (by decide +kernel) (a_cons (d_var 0) a_nil)) iop_sub (od_I0 _))
    (s_cons (s_if (t_w (w_or (t_cmp (op_eqD (Rm.u64 hr)) od_eq (d_var 2) d_int (nomark _)) (w_or1 (t_cmp (op_ltA (Rm.u0 hr)) od_lt (d_ix (Rm.u1 hr) (d_var 1) d_int) d_int (nomark _))))) (s_one (s_ret (d_gStr (T.s 39 rfl)))) s_nil)
    (s_one (s_ret (d_fnT call_tuple_of cd_tuple rfl (T.f 19 rfl) (by decide +kernel) (a_cons (d_lc (own := [("thing", 3)]) rfl nd (i_seq (d_var 0)) (blkOk_by (N := ["value", "budget", "deep", "thing"]) (sc := defScope s__copied) (by decide +kernel)) (by decide) (cg (tg_name 3) (fun s H C cl fp => (pg_name (i := 3) nd rfl (by first | exact Or.inl rfl | exact Or.inr rfl)))) (fun s H C cl fp => ts_nil) (fun s H C cl fp => (d_def ih hr0 gd takesW0 (a_cons (d_var 3) (a_cons (d_var 1) (a_cons (d_op op_sub (od_I0 _) (d_var 2) d_int) a_nil)))))) a_nil)))))) s_nil)
    (s_cons (s_if (t_val (d_isi (T := "str") (by decide +kernel) rfl (T.f 16 rfl) rfl (T.f 40 rfl) rfl (d_var 0))) (s_one (s_ret (d_join1 d_str (d_lst (a_cons (d_var 0) a_nil))))) s_nil)
    (s_one (s_ret (d_ife (t_cmp op_isA od_is (d_var 0) d_non (nomark _)) d_non (d_gStr (T.s 39 rfl))))))))
theorem sc_plain : FnScope ["value"] ["value"] (defScope s_plain) := ⟨rfl, rfl, rfl, by decide +kernel, rfl, by decide +kernel, by decide +kernel⟩
theorem D_plain (T : Tx ask K mg) (B : Tabd askT K mg base) : Def P w K mg base 104 "plain" 1 (ctOf K excs) G_plain := by
  refine (def_mk (N := ["value"]) (x := "plain") (k := 103) (gs := S_plain) (nm := "plain") (qual := "plain") (params := defArgs s_plain) (body := defBody s_plain) (scope := defScope s_plain) (ps := ["value"]) (T.fn 25 (d := d_plain) rfl) (T.g 44 rfl) sc_plain (fun _ _ _ _ _ _ us hl => match us, hl with | [_], _ => rfl) (fun f cdv A outer s H E hr gd => ?_))
  have nd := sc_plain.nd
  have tk := takes_def (P := P) (w := w) (K := K) (mg := mg) (base := base) (N := ["value"]) (qual := "plain") (scope := defScope s_plain) (f := f) (cd := cdv) (A := A) (outer := outer) (s := s) (H := H) (E := E)
  have hp := passes_def (P := P) (w := w) (K := K) (mg := mg) (base := base) (N := ["value"]) (qual := "plain") (scope := defScope s_plain) (f := f) (cd := cdv) (A := A) (outer := outer) (s := s) (H := H) (E := E)
  exact (s_one (s_ret (d_def (D__copied T B 102) (hr.mono (by omega)) gd tk (a_cons (d_var 0) (a_cons (d_lst (a_cons (d_gInt (T.i 43 rfl)) a_nil)) (a_cons (d_gInt (T.i 42 rfl)) a_nil))))))
theorem sc_wanted_lower : FnScope ["order", "thing", "lower"] ["order", "thing"] (defScope s_wanted_lower) := ⟨rfl, rfl, rfl, by decide +kernel, rfl, by decide +kernel, by decide +kernel⟩
theorem D_wanted_lower (T : Tx ask K mg) (B : Tabd askT K mg base) : Def P w K mg base 105 "wanted_lower" 2 (ctOf K excs) G_wanted_lower := by
  refine (def_mk (N := ["order", "thing", "lower"]) (x := "wanted_lower") (k := 104) (gs := S_wanted_lower) (nm := "wanted_lower") (qual := "wanted_lower") (params := defArgs s_wanted_lower) (body := defBody s_wanted_lower) (scope := defScope s_wanted_lower) (ps := ["order", "thing"]) (T.fn 26 (d := d_wanted_lower) rfl) (T.g 45 rfl) sc_wanted_lower (fun _ _ _ _ _ _ us hl => match us, hl with | [_, _], _ => rfl) (fun f cdv A outer s H E hr gd => ?_))
  have nd := sc_wanted_lower.nd
  have tk := takes_def (P := P) (w := w) (K := K) (mg := mg) (base := base) (N := ["order", "thing", "lower"]) (qual := "wanted_lower") (scope := defScope s_wanted_lower) (f := f) (cd := cdv) (A := A) (outer := outer) (s := s) (H := H) (E := E)
  have hp := passes_def (P := P) (w := w) (K := K) (mg := mg) (base := base) (N := ["order", "thing", "lower"]) (qual := "wanted_lower") (scope := defScope s_wanted_lower) (f := f) (cd := cdv) (A := A) (outer := outer) (s := s) (H := H) (E := E)
  exact (s_cons (s_set (i := 2) nd rfl (by first | exact Or.inl rfl | exact Or.inr rfl) (d_def (D_plain T B) (hr.mono (by omega)) gd tk (a_cons (d_var 1) a_nil)))
    (s_cons (s_if (t_not (t_val (d_def (D_is_plain_lower T B) (hr.mono (by omega)) gd tk (a_cons (d_var 0) (a_cons (d_var 2) a_nil))))) (s_one (s_raiseE (E_BadLower T) rfl rfl tk (hr.mono (by omega)) (a_cons (d_var 1) a_nil))) s_nil)
    (s_one (s_ret (d_var 2)))))
theorem sc_is_tuple_of : FnScope ["value", "many"] ["value", "many"] (defScope s_is_tuple_of) := ⟨rfl, rfl, rfl, by decide +kernel, rfl, by decide +kernel, by decide +kernel⟩
theorem D_is_tuple_of (T : Tx ask K mg) (B : Tabd askT K mg base) : Def P w K mg base 1 "is_tuple_of" 2 (ctOf K excs) G_is_tuple_of := by
  refine (def_mk (N := ["value", "many"]) (x := "is_tuple_of") (k := 0) (gs := S_is_tuple_of) (nm := "is_tuple_of") (qual := "is_tuple_of") (params := defArgs s_is_tuple_of) (body := defBody s_is_tuple_of) (scope := defScope s_is_tuple_of) (ps := ["value", "many"]) (T.fn 27 (d := d_is_tuple_of) rfl) (T.g 46 rfl) sc_is_tuple_of (fun _ _ _ _ _ _ us hl => match us, hl with | [_, _], _ => rfl) (fun f cdv A outer s H E hr gd => ?_))
  have nd := sc_is_tuple_of.nd
  have tk := takes_def (P := P) (w := w) (K := K) (mg := mg) (base := base) (N := ["value", "many"]) (qual := "is_tuple_of") (scope := defScope s_is_tuple_of) (f := f) (cd := cdv) (A := A) (outer := outer) (s := s) (H := H) (E := E)
  have hp := passes_def (P := P) (w := w) (K := K) (mg := mg) (base := base) (N := ["value", "many"]) (qual := "is_tuple_of") (scope := defScope s_is_tuple_of) (f := f) (cd := cdv) (A := A) (outer := outer) (s := s) (H := H) (E := E)
  exact (s_one (s_ret (d_and (d_isi (T := "tuple") (by decide +kernel) rfl (T.f 16 rfl) rfl (T.f 19 rfl) rfl (d_var 0)) (d_one (d_cmp (op_eqD (Rm.u64 hr)) od_eq (d_fnB call_len_seq cd_len rfl (T.f 4 rfl) (by decide +kernel) (a_cons (d_var 0) a_nil)) (d_var 1) (nomark _))))))
theorem sc__are_pairs : FnScope ["many", "pairs", "pair"] ["many", "pairs"] (defScope s__are_pairs) := ⟨rfl, rfl, rfl, by decide +kernel, rfl, by decide +kernel, by decide +kernel⟩
theorem D__are_pairs (T : Tx ask K mg) (B : Tabd askT K mg base) : Def P w K mg base 3 "_are_pairs" 2 (ctOf K excs) G__are_pairs := by
  refine (def_mk (N := ["many", "pairs", "pair"]) (x := "_are_pairs") (k := 2) (gs := S__are_pairs) (nm := "_are_pairs") (qual := "_are_pairs") (params := defArgs s__are_pairs) (body := defBody s__are_pairs) (scope := defScope s__are_pairs) (ps := ["many", "pairs"]) (T.fn 28 (d := d__are_pairs) rfl) (T.g 47 rfl) sc__are_pairs (fun _ _ _ _ _ _ us hl => match us, hl with | [_, _], _ => rfl) (fun f cdv A outer s H E hr gd => ?_))
  have nd := sc__are_pairs.nd
  have tk := takes_def (P := P) (w := w) (K := K) (mg := mg) (base := base) (N := ["many", "pairs", "pair"]) (qual := "_are_pairs") (scope := defScope s__are_pairs) (f := f) (cd := cdv) (A := A) (outer := outer) (s := s) (H := H) (E := E)
  have hp := passes_def (P := P) (w := w) (K := K) (mg := mg) (base := base) (N := ["many", "pairs", "pair"]) (qual := "_are_pairs") (scope := defScope s__are_pairs) (f := f) (cd := cdv) (A := A) (outer := outer) (s := s) (H := H) (E := E)
  exact (s_cons (s_if (t_not (t_val (d_isi (T := "tuple") (by decide +kernel) rfl (T.f 16 rfl) rfl (T.f 19 rfl) rfl (d_var 1)))) (s_one (s_ret d_bl)) s_nil)
    (s_one (s_ret (d_and (d_fnB (cr_all rfl) cd_all rfl (T.f 33 rfl) (by decide +kernel) (a_cons (d_lc (own := [("pair", 2)]) rfl nd (i_seq (d_var 1)) (blkOk_by (N := ["many", "pairs", "pair"]) (sc := defScope s__are_pairs) (by decide +kernel)) (by decide) (cg (tg_name 2) (fun s H C cl fp => (pg_name (i := 2) nd rfl (by first | exact Or.inl rfl | exact Or.inr rfl)))) (fun s H C cl fp => ts_nil) (fun s H C cl fp => (d_and (d_def (D_is_tuple_of T B) (hr.mono (by omega)) gd takesW0 (a_cons (d_var 2) (a_cons d_int a_nil))) (d_one (d_def (D_is_lot T B) (hr.mono (by omega)) gd takesW0 (a_cons (d_var 2) (a_cons (d_var 0) a_nil))))))) a_nil)) (d_one (d_def (D_is_ascending T B) (hr.mono (by omega)) gd tk (a_cons (d_var 1) a_nil)))))))
theorem sc_wanted_order : FnScope ["thing", "order", "many", "pairs"] ["thing"] (defScope s_wanted_order) := ⟨rfl, rfl, rfl, by decide +kernel, rfl, by decide +kernel, by decide +kernel⟩
theorem D_wanted_order (T : Tx ask K mg) (B : Tabd askT K mg base) : Def P w K mg base 105 "wanted_order" 1 (ctOf K excs) G_wanted_order := by
  refine (def_mk (N := ["thing", "order", "many", "pairs"]) (x := "wanted_order") (k := 104) (gs := S_wanted_order) (nm := "wanted_order") (qual := "wanted_order") (params := defArgs s_wanted_order) (body := defBody s_wanted_order) (scope := defScope s_wanted_order) (ps := ["thing"]) (T.fn 29 (d := d_wanted_order) rfl) (T.g 49 rfl) sc_wanted_order (fun _ _ _ _ _ _ us hl => match us, hl with | [_], _ => rfl) (fun f cdv A outer s H E hr gd => ?_))
  have nd := sc_wanted_order.nd
  have tk := takes_def (P := P) (w := w) (K := K) (mg := mg) (base := base) (N := ["thing", "order", "many", "pairs"]) (qual := "wanted_order") (scope := defScope s_wanted_order) (f := f) (cd := cdv) (A := A) (outer := outer) (s := s) (H := H) (E := E)
  have hp := passes_def (P := P) (w := w) (K := K) (mg := mg) (base := base) (N := ["thing", "order", "many", "pairs"]) (qual := "wanted_order") (scope := defScope s_wanted_order) (f := f) (cd := cdv) (A := A) (outer := outer) (s := s) (H := H) (E := E)
  exact (s_cons (s_set (i := 1) nd rfl (by first | exact Or.inl rfl | exact Or.inr rfl) (d_def (D_plain T B) (hr.mono (by omega)) gd tk (a_cons (d_var 0) a_nil)))
    (s_cons (s_if (t_not (t_val (d_def (D_is_tuple_of T B) (hr.mono (by omega)) gd tk (a_cons (d_var 1) (a_cons d_int a_nil))))) (s_one (s_raiseE (E_BadOrder T) rfl rfl tk (hr.mono (by omega)) (a_cons d_str a_nil))) s_nil)
    (s_cons (s_asg (d_var 1) (g_tup (n := 2) rfl (gs_cons (g_name (i := 2) nd rfl (by first | exact Or.inl rfl | exact Or.inr rfl)) (gs_cons (g_name (i := 3) nd rfl (by first | exact Or.inl rfl | exact Or.inr rfl)) gs_nil))))
    (s_cons (s_if (t_not (t_val (d_def (D_is_number T B) (hr.mono (by omega)) gd tk (a_cons (d_var 2) (a_cons d_int (a_cons (d_gInt (T.i 48 rfl)) a_nil)))))) (s_one (s_raiseE (E_BadOrder T) rfl rfl tk (hr.mono (by omega)) (a_cons d_str a_nil))) s_nil)
    (s_cons (s_if (t_not (t_val (d_def (D__are_pairs T B) (hr.mono (by omega)) gd tk (a_cons (d_var 2) (a_cons (d_var 3) a_nil))))) (s_one (s_raiseE (E_BadOrder T) rfl rfl tk (hr.mono (by omega)) (a_cons d_str a_nil))) s_nil)
    (s_one (s_ret (d_var 1))))))))
theorem sc_can_put : FnScope ["order", "lower"] ["order", "lower"] (defScope s_can_put) := ⟨rfl, rfl, rfl, by decide +kernel, rfl, by decide +kernel, by decide +kernel⟩
theorem D_can_put (T : Tx ask K mg) (B : Tabd askT K mg base) : Def P w K mg base 106 "can_put" 2 (ctOf K excs) G_can_put := by
  refine (def_mk (N := ["order", "lower"]) (x := "can_put") (k := 105) (gs := S_can_put) (nm := "can_put") (qual := "can_put") (params := defArgs s_can_put) (body := defBody s_can_put) (scope := defScope s_can_put) (ps := ["order", "lower"]) (T.fn 30 (d := d_can_put) rfl) (T.g 50 rfl) sc_can_put (fun _ _ _ _ _ _ us hl => match us, hl with | [_, _], _ => rfl) (fun f cdv A outer s H E hr gd => ?_))
  have nd := sc_can_put.nd
  have tk := takes_def (P := P) (w := w) (K := K) (mg := mg) (base := base) (N := ["order", "lower"]) (qual := "can_put") (scope := defScope s_can_put) (f := f) (cd := cdv) (A := A) (outer := outer) (s := s) (H := H) (E := E)
  have hp := passes_def (P := P) (w := w) (K := K) (mg := mg) (base := base) (N := ["order", "lower"]) (qual := "can_put") (scope := defScope s_can_put) (f := f) (cd := cdv) (A := A) (outer := outer) (s := s) (H := H) (E := E)
  exact (s_cons (s_set (i := 0) nd rfl (by first | exact Or.inl rfl | exact Or.inr rfl) (d_def (D_wanted_order T B) (hr.mono (by omega)) gd tk (a_cons (d_var 0) a_nil)))
    (s_one (s_ret (d_def (D_can_be_put T B) (hr.mono (by omega)) gd tk (a_cons (d_def (D_masks_ahead T B) (hr.mono (by omega)) gd tk (a_cons (d_var 0) a_nil)) (a_cons (d_def (D_wanted_lower T B) (hr.mono (by omega)) gd tk (a_cons (d_var 0) (a_cons (d_var 1) a_nil))) a_nil))))))
theorem sc_can_be_taken : FnScope ["ahead", "lower", "needed", "item"] ["ahead", "lower"] (defScope s_can_be_taken) := ⟨rfl, rfl, rfl, by decide +kernel, rfl, by decide +kernel, by decide +kernel⟩
theorem D_can_be_taken (T : Tx ask K mg) (B : Tabd askT K mg base) : Def P w K mg base 2 "can_be_taken" 2 (ctOf K excs) G_can_be_taken := by
  refine (def_mk (N := ["ahead", "lower", "needed", "item"]) (x := "can_be_taken") (k := 1) (gs := S_can_be_taken) (nm := "can_be_taken") (qual := "can_be_taken") (params := defArgs s_can_be_taken) (body := defBody s_can_be_taken) (scope := defScope s_can_be_taken) (ps := ["ahead", "lower"]) (T.fn 31 (d := d_can_be_taken) rfl) (T.g 51 rfl) sc_can_be_taken (fun _ _ _ _ _ _ us hl => match us, hl with | [_, _], _ => rfl) (fun f cdv A outer s H E hr gd => ?_))
  have nd := sc_can_be_taken.nd
  have tk := takes_def (P := P) (w := w) (K := K) (mg := mg) (base := base) (N := ["ahead", "lower", "needed", "item"]) (qual := "can_be_taken") (scope := defScope s_can_be_taken) (f := f) (cd := cdv) (A := A) (outer := outer) (s := s) (H := H) (E := E)
  have hp := passes_def (P := P) (w := w) (K := K) (mg := mg) (base := base) (N := ["ahead", "lower", "needed", "item"]) (qual := "can_be_taken") (scope := defScope s_can_be_taken) (f := f) (cd := cdv) (A := A) (outer := outer) (s := s) (H := H) (E := E)
  exact (s_cons (s_set (i := 2) nd rfl (by first | exact Or.inl rfl | exact Or.inr rfl) d_int)
    (s_cons (s_for hp rfl (i_seq (d_var 1)) (g_name (i := 3) nd rfl (by first | exact Or.inl rfl | exact Or.inr rfl)) (s_one (s_aug (i := 2) nd rfl (by first | exact Or.inl rfl | exact Or.inr rfl) (d_ix (Rm.u1 hr) (d_var 0) (d_var 3)) iop_or (od_I0 _))))
    (s_one (s_ret (d_fnT call_tuple_of cd_tuple rfl (T.f 19 rfl) (by decide +kernel) (a_cons (d_lc (own := [("item", 3)]) rfl nd (i_seq (d_var 1)) (blkOk_by (N := ["ahead", "lower", "needed", "item"]) (sc := defScope s_can_be_taken) (by decide +kernel)) (by decide) (cg (tg_name 3) (fun s H C cl fp => (pg_name (i := 3) nd rfl (by first | exact Or.inl rfl | exact Or.inr rfl)))) (fun s H C cl fp => (ts_one (t_not (t_val (d_def (D_has_bit T B) (hr.mono (by omega)) gd takesW0 (a_cons (d_var 2) (a_cons (d_var 3) a_nil))))))) (fun s H C cl fp => (d_var 3))) a_nil))))))
theorem sc_can_take : FnScope ["order", "lower"] ["order", "lower"] (defScope s_can_take) := ⟨rfl, rfl, rfl, by decide +kernel, rfl, by decide +kernel, by decide +kernel⟩
theorem D_can_take (T : Tx ask K mg) (B : Tabd askT K mg base) : Def P w K mg base 106 "can_take" 2 (ctOf K excs) G_can_take := by
  refine (def_mk (N := ["order", "lower"]) (x := "can_take") (k := 105) (gs := S_can_take) (nm := "can_take") (qual := "can_take") (params := defArgs s_can_take) (body := defBody s_can_take) (scope := defScope s_can_take) (ps := ["order", "lower"]) (T.fn 32 (d := d_can_take) rfl) (T.g 52 rfl) sc_can_take (fun _ _ _ _ _ _ us hl => match us, hl with | [_, _], _ => rfl) (fun f cdv A outer s H E hr gd => ?_))
  have nd := sc_can_take.nd
  have tk := takes_def (P := P) (w := w) (K := K) (mg := mg) (base := base) (N := ["order", "lower"]) (qual := "can_take") (scope := defScope s_can_take) (f := f) (cd := cdv) (A := A) (outer := outer) (s := s) (H := H) (E := E)
  have hp := passes_def (P := P) (w := w) (K := K) (mg := mg) (base := base) (N := ["order", "lower"]) (qual := "can_take") (scope := defScope s_can_take) (f := f) (cd := cdv) (A := A) (outer := outer) (s := s) (H := H) (E := E)
  exact (s_cons (s_set (i := 0) nd rfl (by first | exact Or.inl rfl | exact Or.inr rfl) (d_def (D_wanted_order T B) (hr.mono (by omega)) gd tk (a_cons (d_var 0) a_nil)))
    (s_one (s_ret (d_def (D_can_be_taken T B) (hr.mono (by omega)) gd tk (a_cons (d_def (D_masks_ahead T B) (hr.mono (by omega)) gd tk (a_cons (d_var 0) a_nil)) (a_cons (d_def (D_wanted_lower T B) (hr.mono (by omega)) gd tk (a_cons (d_var 0) (a_cons (d_var 1) a_nil))) a_nil))))))
theorem sc_wanted_item : FnScope ["order", "thing", "item"] ["order", "thing"] (defScope s_wanted_item) := ⟨rfl, rfl, rfl, by decide +kernel, rfl, by decide +kernel, by decide +kernel⟩
theorem D_wanted_item (T : Tx ask K mg) (B : Tabd askT K mg base) : Def P w K mg base 105 "wanted_item" 2 (ctOf K excs) G_wanted_item := by
  refine (def_mk (N := ["order", "thing", "item"]) (x := "wanted_item") (k := 104) (gs := S_wanted_item) (nm := "wanted_item") (qual := "wanted_item") (params := defArgs s_wanted_item) (body := defBody s_wanted_item) (scope := defScope s_wanted_item) (ps := ["order", "thing"]) (T.fn 33 (d := d_wanted_item) rfl) (T.g 53 rfl) sc_wanted_item (fun _ _ _ _ _ _ us hl => match us, hl with | [_, _], _ => rfl) (fun f cdv A outer s H E hr gd => ?_))
  have nd := sc_wanted_item.nd
  have tk := takes_def (P := P) (w := w) (K := K) (mg := mg) (base := base) (N := ["order", "thing", "item"]) (qual := "wanted_item") (scope := defScope s_wanted_item) (f := f) (cd := cdv) (A := A) (outer := outer) (s := s) (H := H) (E := E)
  have hp := passes_def (P := P) (w := w) (K := K) (mg := mg) (base := base) (N := ["order", "thing", "item"]) (qual := "wanted_item") (scope := defScope s_wanted_item) (f := f) (cd := cdv) (A := A) (outer := outer) (s := s) (H := H) (E := E)
  exact (s_cons (s_set (i := 2) nd rfl (by first | exact Or.inl rfl | exact Or.inr rfl) (d_def (D_plain T B) (hr.mono (by omega)) gd tk (a_cons (d_var 1) a_nil)))
    (s_cons (s_if (t_not (t_val (d_def (D_is_number T B) (hr.mono (by omega)) gd tk (a_cons (d_var 2) (a_cons d_int (a_cons (d_op op_sub (od_I0 _) (d_ix (Rm.u1 hr) (d_var 0) d_int) d_int) a_nil)))))) (s_one (s_raiseE (E_BadItem T) rfl rfl tk (hr.mono (by omega)) (a_cons (d_var 1) a_nil))) s_nil)
    (s_one (s_ret (d_var 2)))))
theorem sc_put : FnScope ["order", "lower", "item", "number"] ["order", "lower", "item"] (defScope s_put) := ⟨rfl, rfl, rfl, by decide +kernel, rfl, by decide +kernel, by decide +kernel⟩
theorem D_put (T : Tx ask K mg) (B : Tabd askT K mg base) : Def P w K mg base 106 "put" 3 (ctOf K excs) G_put := by
  refine (def_mk (N := ["order", "lower", "item", "number"]) (x := "put") (k := 105) (gs := S_put) (nm := "put") (qual := "put") (params := defArgs s_put) (body := defBody s_put) (scope := defScope s_put) (ps := ["order", "lower", "item"]) (T.fn 34 (d := d_put) rfl) (T.g 54 rfl) sc_put (fun _ _ _ _ _ _ us hl => match us, hl with | [_, _, _], _ => rfl) (fun f cdv A outer s H E hr gd => ?_))
  have nd := sc_put.nd
  have tk := takes_def (P := P) (w := w) (K := K) (mg := mg) (base := base) (N := ["order", "lower", "item", "number"]) (qual := "put") (scope := defScope s_put) (f := f) (cd := cdv) (A := A) (outer := outer) (s := s) (H := H) (E := E)
  have hp := passes_def (P := P) (w := w) (K := K) (mg := mg) (base := base) (N := ["order", "lower", "item", "number"]) (qual := "put") (scope := defScope s_put) (f := f) (cd := cdv) (A := A) (outer := outer) (s := s) (H := H) (E := E)
  exact (s_cons (s_set (i := 0) nd rfl (by first | exact Or.inl rfl | exact Or.inr rfl) (d_def (D_wanted_order T B) (hr.mono (by omega)) gd tk (a_cons (d_var 0) a_nil)))
    (s_cons (s_set (i := 1) nd rfl (by first | exact Or.inl rfl | exact Or.inr rfl) (d_def (D_wanted_lower T B) (hr.mono (by omega)) gd tk (a_cons (d_var 0) (a_cons (d_var 1) a_nil))))
    (s_cons (s_set (i := 3) nd rfl (by first | exact Or.inl rfl | exact Or.inr rfl) (d_def (D_wanted_item T B) (hr.mono (by omega)) gd tk (a_cons (d_var 0) (a_cons (d_var 2) a_nil))))
    (s_cons (s_if (t_cmp (op_notInA (Rm.u65 hr)) od_notIn (d_var 3) (d_def (D_can_be_put T B) (hr.mono (by omega)) gd tk (a_cons (d_def (D_masks_ahead T B) (hr.mono (by omega)) gd tk (a_cons (d_var 0) a_nil)) (a_cons (d_var 1) a_nil))) rfl) (s_one (s_raiseE (E_BadItem T) rfl rfl tk (hr.mono (by omega)) (a_cons (d_var 2) a_nil))) s_nil)
    (s_one (s_ret (d_def (D_lot_of T B) (hr.mono (by omega)) gd tk (a_cons (d_def (D_mask_of T B) (hr.mono (by omega)) gd tk (a_cons (d_op op_addA od_add (d_var 1) (d_tup (a_cons (d_var 3) a_nil))) a_nil)) a_nil))))))))
theorem sc_taken : FnScope ["order", "lower", "item", "number", "other"] ["order", "lower", "item"] (defScope s_taken) := ⟨rfl, rfl, rfl, by decide +kernel, rfl, by decide +kernel, by decide +kernel⟩
theorem D_taken (T : Tx ask K mg) (B : Tabd askT K mg base) : Def P w K mg base 106 "taken" 3 (ctOf K excs) G_taken := by
  refine (def_mk (N := ["order", "lower", "item", "number", "other"]) (x := "taken") (k := 105) (gs := S_taken) (nm := "taken") (qual := "taken") (params := defArgs s_taken) (body := defBody s_taken) (scope := defScope s_taken) (ps := ["order", "lower", "item"]) (T.fn 35 (d := d_taken) rfl) (T.g 55 rfl) sc_taken (fun _ _ _ _ _ _ us hl => match us, hl with | [_, _, _], _ => rfl) (fun f cdv A outer s H E hr gd => ?_))
  have nd := sc_taken.nd
  have tk := takes_def (P := P) (w := w) (K := K) (mg := mg) (base := base) (N := ["order", "lower", "item", "number", "other"]) (qual := "taken") (scope := defScope s_taken) (f := f) (cd := cdv) (A := A) (outer := outer) (s := s) (H := H) (E := E)
  have hp := passes_def (P := P) (w := w) (K := K) (mg := mg) (base := base) (N := ["order", "lower", "item", "number", "other"]) (qual := "taken") (scope := defScope s_taken) (f := f) (cd := cdv) (A := A) (outer := outer) (s := s) (H := H) (E := E)
  exact (s_cons (s_set (i := 0) nd rfl (by first | exact Or.inl rfl | exact Or.inr rfl) (d_def (D_wanted_order T B) (hr.mono (by omega)) gd tk (a_cons (d_var 0) a_nil)))
    (s_cons (s_set (i := 1) nd rfl (by first | exact Or.inl rfl | exact Or.inr rfl) (d_def (D_wanted_lower T B) (hr.mono (by omega)) gd tk (a_cons (d_var 0) (a_cons (d_var 1) a_nil))))
    (s_cons (s_set (i := 3) nd rfl (by first | exact Or.inl rfl | exact Or.inr rfl) (d_def (D_wanted_item T B) (hr.mono (by omega)) gd tk (a_cons (d_var 0) (a_cons (d_var 2) a_nil))))
    (s_cons (s_if (t_cmp (op_notInA (Rm.u65 hr)) od_notIn (d_var 3) (d_def (D_can_be_taken T B) (hr.mono (by omega)) gd tk (a_cons (d_def (D_masks_ahead T B) (hr.mono (by omega)) gd tk (a_cons (d_var 0) a_nil)) (a_cons (d_var 1) a_nil))) rfl) (s_one (s_raiseE (E_BadItem T) rfl rfl tk (hr.mono (by omega)) (a_cons (d_var 2) a_nil))) s_nil)
    (s_one (s_ret (d_fnT call_tuple_of cd_tuple rfl (T.f 19 rfl) (by decide +kernel) (a_cons (d_lc (own := [("other", 4)]) rfl nd (i_seq (d_var 1)) (blkOk_by (N := ["order", "lower", "item", "number", "other"]) (sc := defScope s_taken) (by decide +kernel)) (by decide) (cg (tg_name 4) (fun s H C cl fp => (pg_name (i := 4) nd rfl (by first | exact Or.inl rfl | exact Or.inr rfl)))) (fun s H C cl fp => (ts_one (t_cmp (op_neD (Rm.u64 hr)) od_ne (d_var 4) (d_var 3) (nomark _)))) (fun s H C cl fp => (d_var 4))) a_nil))))))))
theorem sc__law_moves_good : FnScope ["_law_order_here", "_law_lower", "_law_puts", "_law_takes", "_law_item", "_law_heard_here", "_law_due", "_law_one"] ["_law_order_here", "_law_lower"] (defScope s__law_moves_good) := ⟨rfl, rfl, rfl, by decide +kernel, rfl, by decide +kernel, by decide +kernel⟩
theorem D__law_moves_good (T : Tx ask K mg) (B : Tabd askT K mg base) : Def P w K mg base 109 "_law_moves_good" 2 (ctOf K excs) G__law_moves_good := by
  refine (def_mkL (N := ["_law_order_here", "_law_lower", "_law_puts", "_law_takes", "_law_item", "_law_heard_here", "_law_due", "_law_one"]) (x := "_law_moves_good") (params := defArgs s__law_moves_good) (body := defBody s__law_moves_good) (scope := defScope s__law_moves_good) (ps := ["_law_order_here", "_law_lower"]) (k := 108) (gs := S__law_moves_good) B (by simp [askT]) (T.fn 36 (d := d__law_moves_good) rfl) (T.g 57 rfl) sc__law_moves_good (fun _ _ _ _ _ _ us hl => match us, hl with | [_, _], _ => rfl) (fun f cdv A outer s H E c P0 MK hr gd => ?_))
  have nd := sc__law_moves_good.nd
  have tk := takes_def (P := P) (w := w) (K := K) (mg := mg) (base := base) (N := ["_law_order_here", "_law_lower", "_law_puts", "_law_takes", "_law_item", "_law_heard_here", "_law_due", "_law_one"]) (qual := "_law_moves_good") (scope := defScope s__law_moves_good) (f := f) (cd := cdv) (A := A) (outer := outer) (s := s) (H := H) (E := E)
  have hp := passes_def (P := P) (w := w) (K := K) (mg := mg) (base := base) (N := ["_law_order_here", "_law_lower", "_law_puts", "_law_takes", "_law_item", "_law_heard_here", "_law_due", "_law_one"]) (qual := "_law_moves_good") (scope := defScope s__law_moves_good) (f := f) (cd := cdv) (A := A) (outer := outer) (s := s) (H := H) (E := E)
  exact (s_cons (s_asg (d_def (D__law_put_due T B) (hr.mono (by omega)) gd tk (a_cons (d_var 0) (a_cons (d_var 1) a_nil))) (g_tup (n := 2) rfl (gs_cons (g_name (i := 2) nd rfl (by first | exact Or.inl rfl | exact Or.inr rfl)) (gs_cons (g_name (i := 3) nd rfl (by first | exact Or.inl rfl | exact Or.inr rfl)) gs_nil))))
    (s_cons (s_if (t_cmp (op_neD (Rm.u64 hr)) od_ne (d_fnB (call_reprA (Rm.u66 hr) gd) cd_reprA rfl (T.f 56 rfl) (by decide +kernel) (a_cons (d_lst (a_cons (d_def (D_can_put T B) (hr.mono (by omega)) gd tk (a_cons (d_var 0) (a_cons (d_var 1) a_nil))) (a_cons (d_def (D_can_take T B) (hr.mono (by omega)) gd tk (a_cons (d_var 0) (a_cons (d_var 1) a_nil))) a_nil))) a_nil)) (d_fnB (call_reprA (Rm.u66 hr) gd) cd_reprA rfl (T.f 56 rfl) (by decide +kernel) (a_cons (d_lst (a_cons (d_var 2) (a_cons (d_var 3) a_nil))) a_nil)) (nomark _)) (s_one (s_ret d_bl)) s_nil)
    (s_cons (s_for hp rfl (i_rng1 rfl (T.f 13 rfl) (a_cons (d_ix (Rm.u1 hr) (d_var 0) d_int) a_nil)) (g_name (i := 4) nd rfl (by first | exact Or.inl rfl | exact Or.inr rfl)) (s_cons (s_set (i := 5) nd rfl (by first | exact Or.inl rfl | exact Or.inr rfl) (d_lst (a_cons (d_lam (m := 106) none ((L__law_heard T B).mono (by omega)) (hr.mono (by omega)) gd tk MK.tb MK.cd MK.mem MK.one (lamOk_by (N := ["_law_order_here", "_law_lower", "_law_puts", "_law_takes", "_law_item", "_law_heard_here", "_law_due", "_law_one"]) (outer := defScope s__law_moves_good) (by decide +kernel)) rfl (fun _ _ _ _ _ _ _ => rfl) (fun A1 outer1 s1 H1 E1 f1 c1 hrL gdL => (d_def (D_put T B) (hrL.mono (by omega)) gdL takes_lam (a_cons (d_var 0) (a_cons (d_var 1) (a_cons (d_var 4) a_nil)))))) (a_cons (d_lam (m := 106) (some ("_law_own", (0 : Int))) ((L__law_heard T B).mono (by omega)) (hr.mono (by omega)) gd tk MK.tb MK.cd MK.mem MK.one (lamOk_by (N := ["_law_order_here", "_law_lower", "_law_puts", "_law_takes", "_law_item", "_law_heard_here", "_law_due", "_law_one"]) (outer := defScope s__law_moves_good) (by decide +kernel)) ⟨_, _, rfl⟩ (fun _ _ _ _ _ _ _ _ _ => ⟨_, rfl, rfl⟩) (fun A1 outer1 s1 H1 E1 f1 c1 hrL gdL => (d_def (D_taken T B) (hrL.mono (by omega)) gdL takes_lam (a_cons (d_var 0) (a_cons (d_var 1) (a_cons (d_var 4) a_nil)))))) a_nil))))
    (s_cons (s_set (i := 6) nd rfl (by first | exact Or.inl rfl | exact Or.inr rfl) (d_lst (a_cons (d_ife (t_cmp (op_inA (Rm.u65 hr)) od_in (d_var 4) (d_var 2) rfl) (d_lst (a_cons (d_fnT call_tuple_of cd_tuple rfl (T.f 19 rfl) (by decide +kernel) (a_cons (d_fnB (call_sortedC rfl (Rm.u64 hr)) cd_sorted3 rfl (T.f 14 rfl) (by decide +kernel) (a_cons (d_op op_addA od_add (d_var 1) (d_tup (a_cons (d_var 4) a_nil))) a_nil)) a_nil)) a_nil)) (d_tup (a_cons d_str (a_cons (d_var 4) a_nil)))) a_nil)))
    (s_cons (s_expr (d_append (p := ⟨0, 0, 0, 0⟩) (d_var 6) (a_cons (d_ife (t_cmp (op_inA (Rm.u65 hr)) od_in (d_var 4) (d_var 3) rfl) (d_lst (a_cons (d_fnT call_tuple_of cd_tuple rfl (T.f 19 rfl) (by decide +kernel) (a_cons (d_lc (own := [("_law_one", 7)]) rfl nd (i_seq (d_var 1)) (blkOk_by (N := ["_law_order_here", "_law_lower", "_law_puts", "_law_takes", "_law_item", "_law_heard_here", "_law_due", "_law_one"]) (sc := defScope s__law_moves_good) (by decide +kernel)) (by decide) (cg (tg_name 7) (fun s H C cl fp => (pg_name (i := 7) nd rfl (by first | exact Or.inl rfl | exact Or.inr rfl)))) (fun s H C cl fp => (ts_one (t_cmp (op_neD (Rm.u64 hr)) od_ne (d_var 7) (d_var 4) (nomark _)))) (fun s H C cl fp => (d_var 7))) a_nil)) a_nil)) (d_tup (a_cons d_str (a_cons (d_var 4) a_nil)))) a_nil)))
    (s_one (s_if (t_cmp (op_neD (Rm.u64 hr)) od_ne (d_fnB (call_reprB (Rm.u66 hr) gd) cd_reprB rfl (T.f 56 rfl) (by decide +kernel) (a_cons (d_var 5) a_nil)) (d_fnB (call_reprA (Rm.u66 hr) gd) cd_reprA rfl (T.f 56 rfl) (by decide +kernel) (a_cons (d_var 6) a_nil)) (nomark _)) (s_one (s_ret d_bl)) s_nil))))))
    (s_one (s_ret d_bl)))))
theorem sc__law_order : FnScope ["_law_state", "_law_most", "_law_way", "_law_number", "_law_pairs", "_law_far", "_law_near"] ["_law_state", "_law_most"] (defScope s__law_order) := ⟨rfl, rfl, rfl, by decide +kernel, rfl, by decide +kernel, by decide +kernel⟩
theorem D__law_order (T : Tx ask K mg) (B : Tabd askT K mg base) : Def P w K mg base 3 "_law_order" 2 (ctOf K excs) G__law_order := by
  refine (def_mk (N := ["_law_state", "_law_most", "_law_way", "_law_number", "_law_pairs", "_law_far", "_law_near"]) (x := "_law_order") (k := 2) (gs := S__law_order) (nm := "_law_order") (qual := "_law_order") (params := defArgs s__law_order) (body := defBody s__law_order) (scope := defScope s__law_order) (ps := ["_law_state", "_law_most"]) (T.fn 37 (d := d__law_order) rfl) (T.g 58 rfl) sc__law_order (fun _ _ _ _ _ _ us hl => match us, hl with | [_, _], _ => rfl) (fun f cdv A outer s H E hr gd => ?_))
  have nd := sc__law_order.nd
  have tk := takes_def (P := P) (w := w) (K := K) (mg := mg) (base := base) (N := ["_law_state", "_law_most", "_law_way", "_law_number", "_law_pairs", "_law_far", "_law_near"]) (qual := "_law_order") (scope := defScope s__law_order) (f := f) (cd := cdv) (A := A) (outer := outer) (s := s) (H := H) (E := E)
  have hp := passes_def (P := P) (w := w) (K := K) (mg := mg) (base := base) (N := ["_law_state", "_law_most", "_law_way", "_law_number", "_law_pairs", "_law_far", "_law_near"]) (qual := "_law_order") (scope := defScope s__law_order) (f := f) (cd := cdv) (A := A) (outer := outer) (s := s) (H := H) (E := E)
  exact (s_cons (s_par (i := 2) (j := 3) rfl nd rfl rfl (by decide) rfl rfl (a_cons (d_def (D__law_draw T B) (hr.mono (by omega)) gd tk (a_cons (d_var 0) (a_cons d_int a_nil))) (a_cons (d_def (D__law_draw T B) (hr.mono (by omega)) gd tk (a_cons (d_var 0) (a_cons (d_op op_addA od_add (d_var 1) d_int) a_nil))) a_nil)) rfl)
    (s_cons (s_set (i := 4) nd rfl (by first | exact Or.inl rfl | exact Or.inr rfl) (d_lst a_nil))
    (s_cons (s_for hp rfl (i_rng1 rfl (T.f 13 rfl) (a_cons (d_var 3) a_nil)) (g_name (i := 5) nd rfl (by first | exact Or.inl rfl | exact Or.inr rfl)) (s_one (s_for hp rfl (i_rng1 rfl (T.f 13 rfl) (a_cons (d_var 5) a_nil)) (g_name (i := 6) nd rfl (by first | exact Or.inl rfl | exact Or.inr rfl)) (s_one (s_if (t_w (w_or (t_w (w_and (t_cmp (op_eqD (Rm.u64 hr)) od_eq (d_var 2) d_int (nomark _)) (w_and1 (t_cmp (op_eqD (Rm.u64 hr)) od_eq (d_op op_addA od_add (d_var 6) d_int) (d_var 5) (nomark _))))) (w_or1 (t_w (w_and (t_cmp op_gt (od_B _) (d_var 2) d_int (nomark _)) (w_and1 (t_cmp (op_eqD (Rm.u64 hr)) od_eq (d_def (D__law_draw T B) (hr.mono (by omega)) gd tk (a_cons (d_var 0) (a_cons d_int a_nil))) d_int (nomark _)))))))) (s_one (s_expr (d_append (p := ⟨0, 0, 0, 0⟩) (d_var 4) (a_cons (d_tup (a_cons (d_var 6) (a_cons (d_var 5) a_nil))) a_nil)))) s_nil)))))
    (s_one (s_ret (d_tup (a_cons (d_var 3) (a_cons (d_fnT call_tuple_of cd_tuple rfl (T.f 19 rfl) (by decide +kernel) (a_cons (d_fnB (call_sortedA rfl (Rm.u64 hr)) cd_sorted rfl (T.f 14 rfl) (by decide +kernel) (a_cons (d_var 4) a_nil)) a_nil)) a_nil))))))))
theorem sc__add_lowers : FnScope ["ahead", "lower", "found", "most", "item"] ["ahead", "lower", "found", "most"] (defScope s__add_lowers) := ⟨rfl, rfl, rfl, by decide +kernel, rfl, by decide +kernel, by decide +kernel⟩
theorem D__add_lowers (T : Tx ask K mg) (B : Tabd askT K mg base) : ∀ n : Nat, Def P w K mg base (n + 2) "_add_lowers" 4 (ctOf K excs) (G__add_lowers n)
  | 0 => def_none (x := "_add_lowers") (nm := "_add_lowers") (qual := "_add_lowers") (params := defArgs s__add_lowers) (body := defBody s__add_lowers) (scope := defScope s__add_lowers) (ps := ["ahead", "lower", "found", "most"]) (T.fn 38 (d := d__add_lowers) rfl) (T.g 59 rfl) (fun _ _ _ _ _ _ us hl => match us, hl with | [_, _, _, _], _ => rfl)
  | n + 1 => by
    have ih := D__add_lowers T B n
    refine (def_mk (N := ["ahead", "lower", "found", "most", "item"]) (x := "_add_lowers") (k := n + 2) (gs := S__add_lowers (fun _ => G__add_lowers n) 0) (nm := "_add_lowers") (qual := "_add_lowers") (params := defArgs s__add_lowers) (body := defBody s__add_lowers) (scope := defScope s__add_lowers) (ps := ["ahead", "lower", "found", "most"]) (T.fn 38 (d := d__add_lowers) rfl) (T.g 59 rfl) sc__add_lowers (fun _ _ _ _ _ _ us hl => match us, hl with | [_, _, _, _], _ => rfl) (fun f cdv A outer s H E hr gd => ?_))
    have nd := sc__add_lowers.nd
    have hr0 := hr
    have tk := takes_def (P := P) (w := w) (K := K) (mg := mg) (base := base) (N := ["ahead", "lower", "found", "most", "item"]) (qual := "_add_lowers") (scope := defScope s__add_lowers) (f := f) (cd := cdv) (A := A) (outer := outer) (s := s) (H := H) (E := E)
    have hp := passes_def (P := P) (w := w) (K := K) (mg := mg) (base := base) (N := ["ahead", "lower", "found", "most", "item"]) (qual := "_add_lowers") (scope := defScope s__add_lowers) (f := f) (cd := cdv) (A := A) (outer := outer) (s := s) (H := H) (E := E)
    exact (s_cons (s_if (t_cmp (op_eqD (Rm.u64 hr)) od_eq (d_fnB call_len_seq cd_len rfl (T.f 4 rfl) (by decide +kernel) (a_cons (d_var 2) a_nil)) (d_var 3) (nomark _)) (s_one (s_raiseE (E_TooMany T) rfl rfl tk (hr.mono (by omega)) (a_cons (d_var 3) a_nil))) s_nil)
    (s_cons (s_expr (d_append (p := ⟨0, 0, 0, 0⟩) (d_var 2) (a_cons (d_var 1) a_nil)))
    (s_one (s_for hp rfl (i_seq (d_def (D_can_be_put T B) (hr.mono (by omega)) gd tk (a_cons (d_var 0) (a_cons (d_var 1) a_nil)))) (g_name (i := 4) nd rfl (by first | exact Or.inl rfl | exact Or.inr rfl)) (s_one (s_if (t_w (w_or (t_not (t_tru (d_var 1))) (w_or1 (t_cmp op_gt (od_B _) (d_var 4) (d_ix (Rm.u1 hr) (d_var 1) (d_un un_neg d_int)) (nomark _))))) (s_one (s_expr (d_def ih hr0 gd tk (a_cons (d_var 0) (a_cons (d_op op_addA od_add (d_var 1) (d_tup (a_cons (d_var 4) a_nil))) (a_cons (d_var 2) (a_cons (d_var 3) a_nil))))))) s_nil))))))
theorem sc_lowers_of : FnScope ["order", "most", "found"] ["order", "most"] (defScope s_lowers_of) := ⟨rfl, rfl, rfl, by decide +kernel, rfl, by decide +kernel, by decide +kernel⟩
theorem D_lowers_of (T : Tx ask K mg) (B : Tabd askT K mg base) : Def P w K mg base 106 "lowers_of" 2 (ctOf K excs) G_lowers_of := by
  refine (def_mk (N := ["order", "most", "found"]) (x := "lowers_of") (k := 105) (gs := S_lowers_of) (nm := "lowers_of") (qual := "lowers_of") (params := defArgs s_lowers_of) (body := defBody s_lowers_of) (scope := defScope s_lowers_of) (ps := ["order", "most"]) (T.fn 39 (d := d_lowers_of) rfl) (T.g 60 rfl) sc_lowers_of (fun _ _ _ _ _ _ us hl => match us, hl with | [_, _], _ => rfl) (fun f cdv A outer s H E hr gd => ?_))
  have nd := sc_lowers_of.nd
  have tk := takes_def (P := P) (w := w) (K := K) (mg := mg) (base := base) (N := ["order", "most", "found"]) (qual := "lowers_of") (scope := defScope s_lowers_of) (f := f) (cd := cdv) (A := A) (outer := outer) (s := s) (H := H) (E := E)
  have hp := passes_def (P := P) (w := w) (K := K) (mg := mg) (base := base) (N := ["order", "most", "found"]) (qual := "lowers_of") (scope := defScope s_lowers_of) (f := f) (cd := cdv) (A := A) (outer := outer) (s := s) (H := H) (E := E)
  exact (s_cons (s_set (i := 2) nd rfl (by first | exact Or.inl rfl | exact Or.inr rfl) (d_lst a_nil))
    (s_cons (s_expr (d_def (D__add_lowers T B 102) (hr.mono (by omega)) gd tk (a_cons (d_def (D_masks_ahead T B) (hr.mono (by omega)) gd tk (a_cons (d_var 0) a_nil)) (a_cons (d_tup a_nil) (a_cons (d_var 2) (a_cons (d_var 1) a_nil))))))
    (s_one (s_ret (d_fnT call_tuple_of cd_tuple rfl (T.f 19 rfl) (by decide +kernel) (a_cons (d_var 2) a_nil))))))
theorem sc_all_lowers : FnScope ["order"] ["order"] (defScope s_all_lowers) := ⟨rfl, rfl, rfl, by decide +kernel, rfl, by decide +kernel, by decide +kernel⟩
theorem D_all_lowers (T : Tx ask K mg) (B : Tabd askT K mg base) : Def P w K mg base 107 "all_lowers" 1 (ctOf K excs) G_all_lowers := by
  refine (def_mk (N := ["order"]) (x := "all_lowers") (k := 106) (gs := S_all_lowers) (nm := "all_lowers") (qual := "all_lowers") (params := defArgs s_all_lowers) (body := defBody s_all_lowers) (scope := defScope s_all_lowers) (ps := ["order"]) (T.fn 40 (d := d_all_lowers) rfl) (T.g 62 rfl) sc_all_lowers (fun _ _ _ _ _ _ us hl => match us, hl with | [_], _ => rfl) (fun f cdv A outer s H E hr gd => ?_))
  have nd := sc_all_lowers.nd
  have tk := takes_def (P := P) (w := w) (K := K) (mg := mg) (base := base) (N := ["order"]) (qual := "all_lowers") (scope := defScope s_all_lowers) (f := f) (cd := cdv) (A := A) (outer := outer) (s := s) (H := H) (E := E)
  have hp := passes_def (P := P) (w := w) (K := K) (mg := mg) (base := base) (N := ["order"]) (qual := "all_lowers") (scope := defScope s_all_lowers) (f := f) (cd := cdv) (A := A) (outer := outer) (s := s) (H := H) (E := E)
  exact (s_one (s_ret (d_def (D_lowers_of T B) (hr.mono (by omega)) gd tk (a_cons (d_def (D_wanted_order T B) (hr.mono (by omega)) gd tk (a_cons (d_var 0) a_nil)) (a_cons (d_gInt (T.i 61 rfl)) a_nil)))))
theorem sc_is_lower : FnScope ["order", "value"] ["order", "value"] (defScope s_is_lower) := ⟨rfl, rfl, rfl, by decide +kernel, rfl, by decide +kernel, by decide +kernel⟩
theorem D_is_lower (T : Tx ask K mg) (B : Tabd askT K mg base) : Def P w K mg base 106 "is_lower" 2 (ctOf K excs) G_is_lower := by
  refine (def_mk (N := ["order", "value"]) (x := "is_lower") (k := 105) (gs := S_is_lower) (nm := "is_lower") (qual := "is_lower") (params := defArgs s_is_lower) (body := defBody s_is_lower) (scope := defScope s_is_lower) (ps := ["order", "value"]) (T.fn 41 (d := d_is_lower) rfl) (T.g 63 rfl) sc_is_lower (fun _ _ _ _ _ _ us hl => match us, hl with | [_, _], _ => rfl) (fun f cdv A outer s H E hr gd => ?_))
  have nd := sc_is_lower.nd
  have tk := takes_def (P := P) (w := w) (K := K) (mg := mg) (base := base) (N := ["order", "value"]) (qual := "is_lower") (scope := defScope s_is_lower) (f := f) (cd := cdv) (A := A) (outer := outer) (s := s) (H := H) (E := E)
  have hp := passes_def (P := P) (w := w) (K := K) (mg := mg) (base := base) (N := ["order", "value"]) (qual := "is_lower") (scope := defScope s_is_lower) (f := f) (cd := cdv) (A := A) (outer := outer) (s := s) (H := H) (E := E)
  exact (s_one (s_ret (d_def (D_is_plain_lower T B) (hr.mono (by omega)) gd tk (a_cons (d_def (D_wanted_order T B) (hr.mono (by omega)) gd tk (a_cons (d_var 0) a_nil)) (a_cons (d_def (D_plain T B) (hr.mono (by omega)) gd tk (a_cons (d_var 1) a_nil)) a_nil)))))
theorem sc_join : FnScope ["order", "lower", "other_lower"] ["order", "lower", "other_lower"] (defScope s_join) := ⟨rfl, rfl, rfl, by decide +kernel, rfl, by decide +kernel, by decide +kernel⟩
theorem D_join (T : Tx ask K mg) (B : Tabd askT K mg base) : Def P w K mg base 106 "join" 3 (ctOf K excs) G_join := by
  refine (def_mk (N := ["order", "lower", "other_lower"]) (x := "join") (k := 105) (gs := S_join) (nm := "join") (qual := "join") (params := defArgs s_join) (body := defBody s_join) (scope := defScope s_join) (ps := ["order", "lower", "other_lower"]) (T.fn 42 (d := d_join) rfl) (T.g 64 rfl) sc_join (fun _ _ _ _ _ _ us hl => match us, hl with | [_, _, _], _ => rfl) (fun f cdv A outer s H E hr gd => ?_))
  have nd := sc_join.nd
  have tk := takes_def (P := P) (w := w) (K := K) (mg := mg) (base := base) (N := ["order", "lower", "other_lower"]) (qual := "join") (scope := defScope s_join) (f := f) (cd := cdv) (A := A) (outer := outer) (s := s) (H := H) (E := E)
  have hp := passes_def (P := P) (w := w) (K := K) (mg := mg) (base := base) (N := ["order", "lower", "other_lower"]) (qual := "join") (scope := defScope s_join) (f := f) (cd := cdv) (A := A) (outer := outer) (s := s) (H := H) (E := E)
  exact (s_cons (s_set (i := 0) nd rfl (by first | exact Or.inl rfl | exact Or.inr rfl) (d_def (D_wanted_order T B) (hr.mono (by omega)) gd tk (a_cons (d_var 0) a_nil)))
    (s_cons (s_set (i := 1) nd rfl (by first | exact Or.inl rfl | exact Or.inr rfl) (d_def (D_wanted_lower T B) (hr.mono (by omega)) gd tk (a_cons (d_var 0) (a_cons (d_var 1) a_nil))))
    (s_cons (s_set (i := 2) nd rfl (by first | exact Or.inl rfl | exact Or.inr rfl) (d_def (D_wanted_lower T B) (hr.mono (by omega)) gd tk (a_cons (d_var 0) (a_cons (d_var 2) a_nil))))
    (s_one (s_ret (d_def (D_lot_of T B) (hr.mono (by omega)) gd tk (a_cons (d_op op_or (od_I0 _) (d_def (D_mask_of T B) (hr.mono (by omega)) gd tk (a_cons (d_var 1) a_nil)) (d_def (D_mask_of T B) (hr.mono (by omega)) gd tk (a_cons (d_var 2) a_nil))) a_nil)))))))
theorem sc_meet : FnScope ["order", "lower", "other_lower"] ["order", "lower", "other_lower"] (defScope s_meet) := ⟨rfl, rfl, rfl, by decide +kernel, rfl, by decide +kernel, by decide +kernel⟩
theorem D_meet (T : Tx ask K mg) (B : Tabd askT K mg base) : Def P w K mg base 106 "meet" 3 (ctOf K excs) G_meet := by
  refine (def_mk (N := ["order", "lower", "other_lower"]) (x := "meet") (k := 105) (gs := S_meet) (nm := "meet") (qual := "meet") (params := defArgs s_meet) (body := defBody s_meet) (scope := defScope s_meet) (ps := ["order", "lower", "other_lower"]) (T.fn 43 (d := d_meet) rfl) (T.g 65 rfl) sc_meet (fun _ _ _ _ _ _ us hl => match us, hl with | [_, _, _], _ => rfl) (fun f cdv A outer s H E hr gd => ?_))
  have nd := sc_meet.nd
  have tk := takes_def (P := P) (w := w) (K := K) (mg := mg) (base := base) (N := ["order", "lower", "other_lower"]) (qual := "meet") (scope := defScope s_meet) (f := f) (cd := cdv) (A := A) (outer := outer) (s := s) (H := H) (E := E)
  have hp := passes_def (P := P) (w := w) (K := K) (mg := mg) (base := base) (N := ["order", "lower", "other_lower"]) (qual := "meet") (scope := defScope s_meet) (f := f) (cd := cdv) (A := A) (outer := outer) (s := s) (H := H) (E := E)
  exact (s_cons (s_set (i := 0) nd rfl (by first | exact Or.inl rfl | exact Or.inr rfl) (d_def (D_wanted_order T B) (hr.mono (by omega)) gd tk (a_cons (d_var 0) a_nil)))
    (s_cons (s_set (i := 1) nd rfl (by first | exact Or.inl rfl | exact Or.inr rfl) (d_def (D_wanted_lower T B) (hr.mono (by omega)) gd tk (a_cons (d_var 0) (a_cons (d_var 1) a_nil))))
    (s_cons (s_set (i := 2) nd rfl (by first | exact Or.inl rfl | exact Or.inr rfl) (d_def (D_wanted_lower T B) (hr.mono (by omega)) gd tk (a_cons (d_var 0) (a_cons (d_var 2) a_nil))))
    (s_one (s_ret (d_def (D_lot_of T B) (hr.mono (by omega)) gd tk (a_cons (d_op op_and (od_I0 _) (d_def (D_mask_of T B) (hr.mono (by omega)) gd tk (a_cons (d_var 1) a_nil)) (d_def (D_mask_of T B) (hr.mono (by omega)) gd tk (a_cons (d_var 2) a_nil))) a_nil)))))))
theorem sc__law_good : FnScope ["_law_state", "_law_order_here", "_law_every", "_law_turn", "_law_one", "_law_far", "_law_both", "_law_item", "_law_told_so", "_law_thing", "_law_is_one", "_law_heard_here"] ["_law_state"] (defScope s__law_good) := ⟨rfl, rfl, rfl, by decide +kernel, rfl, by decide +kernel, by decide +kernel⟩
theorem D__law_good (T : Tx ask K mg) (B : Tabd askT K mg base) : Def P w K mg base 110 "_law_good" 1 (ctOf K excs) G__law_good := by
  refine (def_mkL (N := ["_law_state", "_law_order_here", "_law_every", "_law_turn", "_law_one", "_law_far", "_law_both", "_law_item", "_law_told_so", "_law_thing", "_law_is_one", "_law_heard_here"]) (x := "_law_good") (params := defArgs s__law_good) (body := defBody s__law_good) (scope := defScope s__law_good) (ps := ["_law_state"]) (k := 109) (gs := S__law_good) B (by simp [askT]) (T.fn 44 (d := d__law_good) rfl) (T.g 67 rfl) sc__law_good (fun _ _ _ _ _ _ us hl => match us, hl with | [_], _ => rfl) (fun f cdv A outer s H E c P0 MK hr gd => ?_))
  have nd := sc__law_good.nd
  have tk := takes_def (P := P) (w := w) (K := K) (mg := mg) (base := base) (N := ["_law_state", "_law_order_here", "_law_every", "_law_turn", "_law_one", "_law_far", "_law_both", "_law_item", "_law_told_so", "_law_thing", "_law_is_one", "_law_heard_here"]) (qual := "_law_good") (scope := defScope s__law_good) (f := f) (cd := cdv) (A := A) (outer := outer) (s := s) (H := H) (E := E)
  have hp := passes_def (P := P) (w := w) (K := K) (mg := mg) (base := base) (N := ["_law_state", "_law_order_here", "_law_every", "_law_turn", "_law_one", "_law_far", "_law_both", "_law_item", "_law_told_so", "_law_thing", "_law_is_one", "_law_heard_here"]) (qual := "_law_good") (scope := defScope s__law_good) (f := f) (cd := cdv) (A := A) (outer := outer) (s := s) (H := H) (E := E)
  exact (s_cons (s_set (i := 1) nd rfl (by first | exact Or.inl rfl | exact Or.inr rfl) (d_def (D__law_order T B) (hr.mono (by omega)) gd tk (a_cons (d_var 0) (a_cons d_int a_nil))))
    (s_cons (s_set (i := 2) nd rfl (by first | exact Or.inl rfl | exact Or.inr rfl) (d_def (D__law_lowers T B) (hr.mono (by omega)) gd tk (a_cons (d_var 1) a_nil)))
    (s_cons (s_if (t_cmp (op_neD (Rm.u64 hr)) od_ne (d_fnB (call_reprA (Rm.u66 hr) gd) cd_reprA rfl (T.f 56 rfl) (by decide +kernel) (a_cons (d_lst (a_cons (d_def (D_all_lowers T B) (hr.mono (by omega)) gd tk (a_cons (d_var 1) a_nil)) (a_cons (d_def (D_all_lowers T B) (hr.mono (by omega)) gd tk (a_cons (d_var 1) a_nil)) a_nil))) a_nil)) (d_fnB (call_reprA (Rm.u66 hr) gd) cd_reprA rfl (T.f 56 rfl) (by decide +kernel) (a_cons (d_op op_mulA od_mul (d_lst (a_cons (d_fnT call_tuple_of cd_tuple rfl (T.f 19 rfl) (by decide +kernel) (a_cons (d_var 2) a_nil)) a_nil)) d_int) a_nil)) (nomark _)) (s_one (s_ret d_bl)) s_nil)
    (s_cons (s_for hp rfl (i_rng1 rfl (T.f 13 rfl) (a_cons d_int a_nil)) (g_name (i := 3) nd rfl (by first | exact Or.inl rfl | exact Or.inr rfl)) (s_cons (s_asg (d_tup (a_cons (d_def (D__law_of T B) (hr.mono (by omega)) gd tk (a_cons (d_var 0) (a_cons (d_var 2) a_nil))) (a_cons (d_def (D__law_of T B) (hr.mono (by omega)) gd tk (a_cons (d_var 0) (a_cons (d_var 2) a_nil))) a_nil))) (g_tup (n := 2) rfl (gs_cons (g_name (i := 4) nd rfl (by first | exact Or.inl rfl | exact Or.inr rfl)) (gs_cons (g_name (i := 5) nd rfl (by first | exact Or.inl rfl | exact Or.inr rfl)) gs_nil))))
    (s_cons (s_set (i := 6) nd rfl (by first | exact Or.inl rfl | exact Or.inr rfl) (d_fnT call_tuple_of cd_tuple rfl (T.f 19 rfl) (by decide +kernel) (a_cons (d_lc (own := [("_law_item", 7)]) rfl nd (i_seq (d_var 4)) (blkOk_by (N := ["_law_state", "_law_order_here", "_law_every", "_law_turn", "_law_one", "_law_far", "_law_both", "_law_item", "_law_told_so", "_law_thing", "_law_is_one", "_law_heard_here"]) (sc := defScope s__law_good) (by decide +kernel)) (by decide) (cg (tg_name 7) (fun s H C cl fp => (pg_name (i := 7) nd rfl (by first | exact Or.inl rfl | exact Or.inr rfl)))) (fun s H C cl fp => (ts_one (t_cmp (op_inA (Rm.u65 hr)) od_in (d_var 7) (d_var 5) rfl))) (fun s H C cl fp => (d_var 7))) a_nil)))
    (s_cons (s_set (i := 8) nd rfl (by first | exact Or.inl rfl | exact Or.inr rfl) (d_lst (a_cons (d_def (D_meet T B) (hr.mono (by omega)) gd tk (a_cons (d_var 1) (a_cons (d_var 4) (a_cons (d_var 5) a_nil)))) (a_cons (d_def (D_join T B) (hr.mono (by omega)) gd tk (a_cons (d_var 1) (a_cons (d_var 4) (a_cons (d_var 5) a_nil)))) (a_cons (d_def (D_meet T B) (hr.mono (by omega)) gd tk (a_cons (d_var 1) (a_cons (d_var 5) (a_cons (d_var 4) a_nil)))) a_nil)))))
    (s_cons (s_if (t_w (w_or (t_cmp (op_neD (Rm.u64 hr)) od_ne (d_fnB (call_reprA (Rm.u66 hr) gd) cd_reprA rfl (T.f 56 rfl) (by decide +kernel) (a_cons (d_var 8) a_nil)) (d_fnB (call_reprA (Rm.u66 hr) gd) cd_reprA rfl (T.f 56 rfl) (by decide +kernel) (a_cons (d_lst (a_cons (d_var 6) (a_cons (d_fnT call_tuple_of cd_tuple rfl (T.f 19 rfl) (by decide +kernel) (a_cons (d_sortSetS rfl rfl (T.f 14 rfl) rfl (T.f 66 rfl) (a_cons (d_op op_addA od_add (d_var 4) (d_var 5)) a_nil) (by decide +kernel) (by decide +kernel)) a_nil)) (a_cons (d_var 6) a_nil)))) a_nil)) (nomark _)) (w_or1 (t_not (t_val (d_def (D__law_moves_good T B) (hr.mono (by omega)) gd tk (a_cons (d_var 1) (a_cons (d_var 4) a_nil)))))))) (s_one (s_ret d_bl)) s_nil)
    (s_cons (s_set (i := 9) nd rfl (by first | exact Or.inl rfl | exact Or.inr rfl) (d_def (D__law_bent T B) (hr.mono (by omega)) gd tk (a_cons (d_var 0) (a_cons (d_ix (Rm.u1 hr) (d_var 1) d_int) (a_cons (d_def (D__law_lot T B) (hr.mono (by omega)) gd tk (a_cons (d_var 0) (a_cons (d_ix (Rm.u1 hr) (d_var 1) d_int) a_nil))) a_nil)))))
    (s_cons (s_set (i := 10) nd rfl (by first | exact Or.inl rfl | exact Or.inr rfl) (d_def (D__law_is_lower T B) (hr.mono (by omega)) gd tk (a_cons (d_var 1) (a_cons (d_var 9) a_nil))))
    (s_cons (s_if (t_w (w_or (t_cmp (op_neD (Rm.u64 hr)) od_ne (d_fnB (call_reprA (Rm.u66 hr) gd) cd_reprA rfl (T.f 56 rfl) (by decide +kernel) (a_cons (d_def (D_is_lower T B) (hr.mono (by omega)) gd tk (a_cons (d_var 1) (a_cons (d_var 9) a_nil))) a_nil)) (d_fnB (call_reprA (Rm.u66 hr) gd) cd_reprA rfl (T.f 56 rfl) (by decide +kernel) (a_cons (d_var 10) a_nil)) (nomark _)) (w_or1 (t_cmp op_notA od_isnot (d_def (D_is_lower T B) (hr.mono (by omega)) gd tk (a_cons (d_var 1) (a_cons (d_var 4) a_nil))) d_bl (nomark _))))) (s_one (s_ret d_bl)) s_nil)
    (s_cons (s_set (i := 11) nd rfl (by first | exact Or.inl rfl | exact Or.inr rfl) (d_lst (a_cons (d_lam (m := 106) none ((L__law_heard T B).mono (by omega)) (hr.mono (by omega)) gd tk MK.tb MK.cd MK.mem MK.one (lamOk_by (N := ["_law_state", "_law_order_here", "_law_every", "_law_turn", "_law_one", "_law_far", "_law_both", "_law_item", "_law_told_so", "_law_thing", "_law_is_one", "_law_heard_here"]) (outer := defScope s__law_good) (by decide +kernel)) rfl (fun _ _ _ _ _ _ _ => rfl) (fun A1 outer1 s1 H1 E1 f1 c1 hrL gdL => (d_def (D_can_put T B) (hrL.mono (by omega)) gdL takes_lam (a_cons (d_var 1) (a_cons (d_var 9) a_nil))))) (a_cons (d_lam (m := 106) (some ("_law_own", (0 : Int))) ((L__law_heard T B).mono (by omega)) (hr.mono (by omega)) gd tk MK.tb MK.cd MK.mem MK.one (lamOk_by (N := ["_law_state", "_law_order_here", "_law_every", "_law_turn", "_law_one", "_law_far", "_law_both", "_law_item", "_law_told_so", "_law_thing", "_law_is_one", "_law_heard_here"]) (outer := defScope s__law_good) (by decide +kernel)) ⟨_, _, rfl⟩ (fun _ _ _ _ _ _ _ _ _ => ⟨_, rfl, rfl⟩) (fun A1 outer1 s1 H1 E1 f1 c1 hrL gdL => (d_def (D_join T B) (hrL.mono (by omega)) gdL takes_lam (a_cons (d_var 1) (a_cons (d_var 4) (a_cons (d_var 9) a_nil)))))) a_nil))))
    (s_one (s_if (t_w (w_and (t_not (t_tru (d_var 10))) (w_and1 (t_cmp (op_neD (Rm.u64 hr)) od_ne (d_fnB (call_reprB (Rm.u66 hr) gd) cd_reprB rfl (T.f 56 rfl) (by decide +kernel) (a_cons (d_var 11) a_nil)) (d_fnB (call_reprB (Rm.u66 hr) gd) cd_reprB rfl (T.f 56 rfl) (by decide +kernel) (a_cons (d_op op_mulA od_mul (d_lst (a_cons (d_tup (a_cons d_str (a_cons (d_var 9) a_nil))) a_nil)) d_int) a_nil)) (nomark _))))) (s_one (s_ret d_bl)) s_nil)))))))))))
    (s_one (s_ret d_bl))))))
theorem sc_law : FnScope ["_law_script", "_law_nine", "_law_row", "_law_item", "_law_wide", "_law_rows", "_law_state", "_law_turn"] ["_law_script"] (defScope s_law) := ⟨rfl, rfl, rfl, by decide +kernel, rfl, by decide +kernel, by decide +kernel⟩
theorem D_law (T : Tx ask K mg) (B : Tabd askT K mg base) : Def P w K mg base 111 "law" 1 (ctOf K excs) G_law := by
  refine (def_mkL (N := ["_law_script", "_law_nine", "_law_row", "_law_item", "_law_wide", "_law_rows", "_law_state", "_law_turn"]) (x := "law") (params := defArgs s_law) (body := defBody s_law) (scope := defScope s_law) (ps := ["_law_script"]) (k := 110) (gs := S_law) B (by simp [askT]) (T.fn 45 (d := d_law) rfl) (T.g 69 rfl) sc_law (fun _ _ _ _ _ _ us hl => match us, hl with | [_], _ => rfl) (fun f cdv A outer s H E c P0 MK hr gd => ?_))
  have nd := sc_law.nd
  have tk := takes_def (P := P) (w := w) (K := K) (mg := mg) (base := base) (N := ["_law_script", "_law_nine", "_law_row", "_law_item", "_law_wide", "_law_rows", "_law_state", "_law_turn"]) (qual := "law") (scope := defScope s_law) (f := f) (cd := cdv) (A := A) (outer := outer) (s := s) (H := H) (E := E)
  have hp := passes_def (P := P) (w := w) (K := K) (mg := mg) (base := base) (N := ["_law_script", "_law_nine", "_law_row", "_law_item", "_law_wide", "_law_rows", "_law_state", "_law_turn"]) (qual := "law") (scope := defScope s_law) (f := f) (cd := cdv) (A := A) (outer := outer) (s := s) (H := H) (E := E)
  exact (s_cons (s_asg (d_tup (a_cons (d_tup (a_cons d_int (a_cons (d_tup a_nil) a_nil))) (a_cons (d_tup (a_cons d_int (a_cons (d_fnT call_tuple_of cd_tuple rfl (T.f 19 rfl) (by decide +kernel) (a_cons (d_lc (own := [("_law_item", 3)]) rfl nd (i_rng1 rfl (T.f 13 rfl) (a_cons d_int a_nil)) (blkOk_by (N := ["_law_script", "_law_nine", "_law_row", "_law_item", "_law_wide", "_law_rows", "_law_state", "_law_turn"]) (sc := defScope s_law) (by decide +kernel)) (by decide) (cg (tg_name 3) (fun s H C cl fp => (pg_name (i := 3) nd rfl (by first | exact Or.inl rfl | exact Or.inr rfl)))) (fun s H C cl fp => ts_nil) (fun s H C cl fp => (d_tup (a_cons (d_var 3) (a_cons (d_op op_addA od_add (d_var 3) d_int) a_nil))))) a_nil)) a_nil))) a_nil))) (g_tup (n := 2) rfl (gs_cons (g_name (i := 1) nd rfl (by first | exact Or.inl rfl | exact Or.inr rfl)) (gs_cons (g_name (i := 2) nd rfl (by first | exact Or.inl rfl | exact Or.inr rfl)) gs_nil))))
    (s_cons (s_if (t_w (w_or (t_cmp (op_neD (Rm.u64 hr)) od_ne (d_lam (m := 107) none ((L__law_heard T B).mono (by omega)) (hr.mono (by omega)) gd tk MK.tb MK.cd MK.mem MK.one (lamOk_by (N := ["_law_script", "_law_nine", "_law_row", "_law_item", "_law_wide", "_law_rows", "_law_state", "_law_turn"]) (outer := defScope s_law) (by decide +kernel)) rfl (fun _ _ _ _ _ _ _ => rfl) (fun A1 outer1 s1 H1 E1 f1 c1 hrL gdL => (d_def (D_all_lowers T B) (hrL.mono (by omega)) gdL takes_lam (a_cons (d_var 1) a_nil)))) (d_tup (a_cons d_str (a_cons d_int a_nil))) (nomark _)) (w_or1 (t_cmp (op_neD (Rm.u64 hr)) od_ne (d_fnB call_len_seq cd_len rfl (T.f 4 rfl) (by decide +kernel) (a_cons (d_def (D_all_lowers T B) (hr.mono (by omega)) gd tk (a_cons (d_var 2) a_nil)) a_nil)) d_int (nomark _))))) (s_one (s_ret d_bl)) s_nil)
    (s_cons (s_if (t_w (w_or (t_cmp (op_neD (Rm.u64 hr)) od_ne (d_def (D_all_lowers T B) (hr.mono (by omega)) gd tk (a_cons (d_tup (a_cons d_int (a_cons (d_tup a_nil) a_nil))) a_nil)) (d_tup (a_cons (d_tup a_nil) a_nil)) (nomark _)) (w_or1 (t_cmp (op_neD (Rm.u64 hr)) od_ne (d_def (D_can_put T B) (hr.mono (by omega)) gd tk (a_cons (d_tup (a_cons d_int (a_cons (d_tup a_nil) a_nil))) (a_cons (d_tup a_nil) a_nil))) (d_tup a_nil) (nomark _))))) (s_one (s_ret d_bl)) s_nil)
    (s_cons (s_set (i := 4) nd rfl (by first | exact Or.inl rfl | exact Or.inr rfl) (d_tup (a_cons d_int (a_cons (d_tup (a_cons (d_tup (a_cons d_int (a_cons d_int a_nil))) (a_cons (d_tup (a_cons d_int (a_cons d_int a_nil))) (a_cons (d_tup (a_cons d_int (a_cons d_int a_nil))) (a_cons (d_tup (a_cons d_int (a_cons d_int a_nil))) (a_cons (d_tup (a_cons d_int (a_cons d_int a_nil))) (a_cons (d_tup (a_cons d_int (a_cons d_int a_nil))) (a_cons (d_tup (a_cons d_int (a_cons d_int a_nil))) (a_cons (d_tup (a_cons d_int (a_cons d_int a_nil))) (a_cons (d_tup (a_cons d_int (a_cons d_int a_nil))) a_nil)))))))))) a_nil))))
    (s_cons (s_if (t_w (w_or (t_cmp (op_neD (Rm.u64 hr)) od_ne (d_lam (m := 107) none ((L__law_heard T B).mono (by omega)) (hr.mono (by omega)) gd tk MK.tb MK.cd MK.mem MK.one (lamOk_by (N := ["_law_script", "_law_nine", "_law_row", "_law_item", "_law_wide", "_law_rows", "_law_state", "_law_turn"]) (outer := defScope s_law) (by decide +kernel)) rfl (fun _ _ _ _ _ _ _ => rfl) (fun A1 outer1 s1 H1 E1 f1 c1 hrL gdL => (d_def (D_all_lowers T B) (hrL.mono (by omega)) gdL takes_lam (a_cons (d_var 4) a_nil)))) (d_tup (a_cons d_str (a_cons d_int a_nil))) (nomark _)) (w_or1 (t_cmp (op_neD (Rm.u64 hr)) od_ne (d_def (D_can_put T B) (hr.mono (by omega)) gd tk (a_cons (d_var 4) (a_cons (d_tupRg rfl rfl (T.f 19 rfl) rfl (T.f 13 rfl) d_int) a_nil))) (d_tup (a_cons d_int a_nil)) (nomark _))))) (s_one (s_ret d_bl)) s_nil)
    (s_cons (s_if (t_w (w_or (t_cmp (op_neD (Rm.u64 hr)) od_ne (d_fnB call_len_seq cd_len rfl (T.f 4 rfl) (by decide +kernel) (a_cons (d_def (D_all_lowers T B) (hr.mono (by omega)) gd tk (a_cons (d_tup (a_cons d_int (a_cons (d_tup (a_cons (d_tup (a_cons d_int (a_cons d_int a_nil))) (a_cons (d_tup (a_cons d_int (a_cons d_int a_nil))) a_nil))) a_nil))) a_nil)) a_nil)) d_int (nomark _)) (w_or1 (t_cmp op_notA od_isnot (d_def (D_is_lower T B) (hr.mono (by omega)) gd tk (a_cons (d_var 2) (a_cons (d_tup (a_cons d_int (a_cons d_int (a_cons d_int (a_cons d_int a_nil))))) a_nil))) d_bl (nomark _))))) (s_one (s_ret d_bl)) s_nil)
    (s_cons (s_if (t_w (w_or (t_cmp (op_neD (Rm.u64 hr)) od_ne (d_def (D_can_put T B) (hr.mono (by omega)) gd tk (a_cons (d_tup (a_cons d_int (a_cons (d_tup (a_cons (d_tup (a_cons d_int (a_cons d_int a_nil))) (a_cons (d_tup (a_cons d_int (a_cons d_int a_nil))) a_nil))) a_nil))) (a_cons (d_tup (a_cons d_int a_nil)) a_nil))) (d_tup (a_cons d_int a_nil)) (nomark _)) (w_or1 (t_cmp (op_neD (Rm.u64 hr)) od_ne (d_def (D_can_take T B) (hr.mono (by omega)) gd tk (a_cons (d_tup (a_cons d_int (a_cons (d_tup (a_cons (d_tup (a_cons d_int (a_cons d_int a_nil))) a_nil)) a_nil))) (a_cons (d_tup (a_cons d_int a_nil)) a_nil))) (d_tup (a_cons d_int a_nil)) (nomark _))))) (s_one (s_ret d_bl)) s_nil)
    (s_cons (s_set (i := 5) nd rfl (by first | exact Or.inl rfl | exact Or.inr rfl) (d_tup (a_cons (d_tup (a_cons d_int (a_cons d_int a_nil))) (a_cons (d_tup (a_cons d_int (a_cons d_int a_nil))) (a_cons (d_tup (a_cons d_int (a_cons d_int a_nil))) (a_cons (d_tup (a_cons d_int (a_cons d_int a_nil))) (a_cons (d_tup (a_cons d_int (a_cons d_int a_nil))) (a_cons (d_tup (a_cons d_int (a_cons d_int a_nil))) a_nil))))))))
    (s_cons (s_if (t_cmp (op_neD (Rm.u64 hr)) od_ne (d_fnB call_len_seq cd_len rfl (T.f 4 rfl) (by decide +kernel) (a_cons (d_def (D_all_lowers T B) (hr.mono (by omega)) gd tk (a_cons (d_tup (a_cons d_int (a_cons (d_var 5) a_nil))) a_nil)) a_nil)) d_int (nomark _)) (s_one (s_ret d_bl)) s_nil)
    (s_cons (s_if (t_cmp (op_neD (Rm.u64 hr)) od_ne (d_lam (m := 107) none ((L__law_heard T B).mono (by omega)) (hr.mono (by omega)) gd tk MK.tb MK.cd MK.mem MK.one (lamOk_by (N := ["_law_script", "_law_nine", "_law_row", "_law_item", "_law_wide", "_law_rows", "_law_state", "_law_turn"]) (outer := defScope s_law) (by decide +kernel)) rfl (fun _ _ _ _ _ _ _ => rfl) (fun A1 outer1 s1 H1 E1 f1 c1 hrL gdL => (d_def (D_all_lowers T B) (hrL.mono (by omega)) gdL takes_lam (a_cons (d_tup (a_cons d_int (a_cons (d_op op_addA od_add (d_tup (a_cons (d_tup (a_cons d_int (a_cons d_int a_nil))) (a_cons (d_tup (a_cons d_int (a_cons d_int a_nil))) (a_cons (d_tup (a_cons d_int (a_cons d_int a_nil))) (a_cons (d_tup (a_cons d_int (a_cons d_int a_nil))) a_nil))))) (d_sl (d_var 5) (o_some d_int) o_none)) a_nil))) a_nil)))) (d_tup (a_cons d_str (a_cons d_int a_nil))) (nomark _)) (s_one (s_ret d_bl)) s_nil)
    (s_cons (s_set (i := 6) nd rfl (by first | exact Or.inl rfl | exact Or.inr rfl) (d_def (D__law_begin T B) (hr.mono (by omega)) gd tk (a_cons (d_var 0) a_nil)))
    (s_cons (s_for hp rfl (i_rng1 rfl (T.f 13 rfl) (a_cons (d_op op_addA od_add d_int (d_fnB (call_min2 rfl) cd_min2 rfl (T.f 68 rfl) (by decide +kernel) (a_cons (d_fnB call_len_seq cd_len rfl (T.f 4 rfl) (by decide +kernel) (a_cons (d_var 0) a_nil)) (a_cons d_int a_nil)))) a_nil)) (g_name (i := 7) nd rfl (by first | exact Or.inl rfl | exact Or.inr rfl)) (s_one (s_if (t_not (t_val (d_def (D__law_good T B) (hr.mono (by omega)) gd tk (a_cons (d_var 6) a_nil)))) (s_one (s_ret d_bl)) s_nil)))
    (s_one (s_ret d_bl))))))))))))))
end
end Mk01
set_option Elab.async false
set_option linter.all false
set_option autoImplicit false
set_option maxRecDepth 100000
set_option maxHeartbeats 1000000
/-! Km1: running the machine: stores that grow, loops, comprehensions. -/
namespace MP
open PySem PySem.Spec
abbrev Pre (a b : Store) : Prop := a <+: b
theorem Pre.rfl {a : Store} : Pre a a := List.prefix_refl a
theorem Pre.tr {a b c : Store} (h : Pre a b) (k : Pre b c) : Pre a c := List.IsPrefix.trans h k
theorem Pre.push {a b : Store} (h : Pre a b) (x : List Cell) : Pre a (b ++ x) := h.tr (List.prefix_append _ _)
theorem Pre.at {a b : Store} (h : Pre a b) {i : Nat} {x : Cell} (e : a[i]? = some x) : b[i]? = some x := by
  obtain ⟨t, rfl⟩ := h
  rw [List.getElem?_append_left (List.getElem?_eq_some_iff.mp e).1]; exact e
theorem Pre.cell {a b : Store} (h : Pre a b) {n : Nat} {xs : List D} (e : cellL a n = some xs) : cellL b n = some xs := by
  unfold cellL at e ⊢
  cases q : a[n]? with
  | none => rw [q] at e; cases e
  | some c => rw [h.at q]; rw [q] at e; exact e
theorem cellL_new {st : Store} {xs : List D} : cellL (st ++ [.lst xs]) st.length = some xs := by
  unfold cellL; simp
/-- a comprehension of one clause over what is told by ds -/
theorem lc_run {it : ItF} {f : FT} {tt : GT} {e : G} {env : Env} {base : Store} {ds : List D} (tv : D → Bool) (ev : D → D) (hit : ∀ i st, Pre base st → it i st = some ds[i]?)
    (step : ∀ d ∈ ds, ∀ st, Pre base st → ∃ env1 st1, f d env = some env1 ∧ tt env1 st = some (.ok (tv d) st1) ∧ Pre st st1 ∧ (tv d = true → ∃ st2, e env1 st1 = some (.ok (ev d) st2) ∧ Pre st1 st2)) :
    ∀ (k i : Nat) (acc : List D) (st : Store), k + i = ds.length → acc.length + k < 16777216 → Pre base st → ∃ st', Pre st st' ∧ lcGo it f tt e env (k + 1) i acc st = some (acc ++ ((ds.drop i).filter tv).map ev, st')
  | 0, i, acc, st, hk, ha, hp => by
    refine ⟨st, Pre.rfl, ?_⟩
    have hi : ds[i]? = none := List.getElem?_eq_none (by omega)
    have hd : ds.drop i = [] := List.drop_eq_nil_of_le (by omega)
    simp only [lcGo, hit i st hp, hi, hd, List.filter_nil, List.map_nil, List.append_nil]
  | k + 1, i, acc, st, hk, ha, hp => by
    have hl : i < ds.length := by omega
    have hi : ds[i]? = some ds[i] := List.getElem?_eq_getElem hl
    obtain ⟨env1, st1, h1, h2, h3, h4⟩ := step ds[i] (List.getElem_mem hl) st hp
    have hd : ds.drop i = ds[i] :: ds.drop (i + 1) := List.drop_eq_getElem_cons hl
    cases hv : tv ds[i] with
    | true =>
      obtain ⟨st2, h5, h6⟩ := h4 hv
      obtain ⟨st', g1, g2⟩ := lc_run tv ev hit step k (i + 1) (acc ++ [ev ds[i]]) st2 (by omega) (by simp; omega) ((hp.tr h3).tr h6)
      refine ⟨st', (h3.tr h6).tr g1, ?_⟩
      unfold lcGo
      simp only [hit i st hp, hi, h1, h2, hv, h5, if_pos (show acc.length < 16777216 by omega)]
      rw [g2, hd, List.filter_cons_of_pos hv, List.map_cons, List.append_assoc]
      rfl
    | false =>
      obtain ⟨st', g1, g2⟩ := lc_run tv ev hit step k (i + 1) acc st1 (by omega) (by omega) (hp.tr h3)
      refine ⟨st', h3.tr g1, ?_⟩
      unfold lcGo
      simp only [hit i st hp, hi, h1, h2, hv]
      rw [g2, hd, List.filter_cons_of_neg (by simp [hv])]
theorem gLc_run {gi : GI} {it : ItF} {f : FT} {tt : GT} {e : G} {env : Env} {st base : Store} {ds : List D} {vs : List Nat} (tv : D → Bool) (ev : D → D) (hgi : gi env st = some (.ok (it, ds.length + 1) base)) (hb : Pre st base) (hl : ds.length < 16777216) (hit : ∀ i s, Pre base s → it i s = some ds[i]?)
    (step : ∀ d ∈ ds, ∀ s, Pre base s → ∃ env1 st1, f d (wipeD env vs) = some env1 ∧ tt env1 s = some (.ok (tv d) st1) ∧ Pre s st1 ∧ (tv d = true → ∃ st2, e env1 st1 = some (.ok (ev d) st2) ∧ Pre st1 st2)) :
    ∃ st' n, Pre st st' ∧ gLc gi f tt e vs env st = some (.ok (.ref n) st') ∧ cellL st' n = some ((ds.filter tv).map ev) ∧ st.length ≤ n := by
  obtain ⟨st', h1, h2⟩ := lc_run tv ev hit step ds.length 0 [] base (by omega) (by simpa using hl) Pre.rfl
  refine ⟨st' ++ [.lst ((ds.filter tv).map ev)], st'.length, (hb.tr h1).push _, ?_, cellL_new, ?_⟩
  · unfold gLc
    rw [hgi, rb_ok, h2]
    simp [lcNew]
  · exact (hb.tr h1).length_le
/-- a loop by its invariant -/
theorem for_run {it : ItF} {f : FT} {body : GS} {ds : List D} (Inv : Nat → Env → Store → Prop) (hit : ∀ i env st, Inv i env st → it i st = some ds[i]?)
    (step : ∀ i d env st, ds[i]? = some d → Inv i env st → ∃ env1 env2 st2, f d env = some env1 ∧ (body env1 st = some (.nx env2, st2) ∨ body env1 st = some (.ct env2, st2)) ∧ Inv (i + 1) env2 st2) :
    ∀ (k i : Nat) (env : Env) (st : Store), k + i = ds.length → Inv i env st → ∃ env' st', forGo it f body (k + 1) i env st = some (.nx env', st') ∧ Inv ds.length env' st'
  | 0, i, env, st, hk, hi => by
    have e : i = ds.length := by omega
    subst e
    refine ⟨env, st, ?_, hi⟩
    simp only [forGo, hit _ _ _ hi, List.getElem?_eq_none (Nat.le_refl _)]
  | k + 1, i, env, st, hk, hi => by
    have hl : i < ds.length := by omega
    have hd : ds[i]? = some ds[i] := List.getElem?_eq_getElem hl
    obtain ⟨env1, env2, st2, h1, h2, h3⟩ := step i _ env st hd hi
    obtain ⟨env', st', g1, g2⟩ := for_run Inv hit step k (i + 1) env2 st2 (by omega) h3
    refine ⟨env', st', ?_, g2⟩
    unfold forGo
    rcases h2 with h2 | h2 <;> simp only [hit i env st hi, hd, h1, h2, g1]
theorem sFor_run {gi : GI} {it : ItF} {f : FT} {body : GS} {ds : List D} {env : Env} {st base : Store} (Inv : Nat → Env → Store → Prop) (hgi : gi env st = some (.ok (it, ds.length + 1) base)) (h0 : Inv 0 env base) (hit : ∀ i env st, Inv i env st → it i st = some ds[i]?)
    (step : ∀ i d env st, ds[i]? = some d → Inv i env st → ∃ env1 env2 st2, f d env = some env1 ∧ (body env1 st = some (.nx env2, st2) ∨ body env1 st = some (.ct env2, st2)) ∧ Inv (i + 1) env2 st2) :
    ∃ env' st', sFor gi f body env st = some (.nx env', st') ∧ Inv ds.length env' st' := by
  obtain ⟨env', st', g1, g2⟩ := for_run Inv hit step ds.length 0 env base (by omega) h0
  refine ⟨env', st', ?_, g2⟩
  unfold sFor
  rw [hgi, sb_ok]
  exact g1
/-- the numbers from 0 on -/
def mpTo (n : Nat) : List D := (List.range n).map fun i => D.int (i : Nat)
theorem mpTo_length {n : Nat} : (mpTo n).length = n := by simp [mpTo]
theorem mpTo_at {n i : Nat} : (mpTo n)[i]? = if i < n then some (.int (i : Nat)) else none := by
  unfold mpTo
  rw [List.getElem?_map]
  by_cases h : i < n
  · rw [List.getElem?_range h, if_pos h]; rfl
  · rw [List.getElem?_eq_none (by simpa using h), if_neg h]; rfl
theorem itR_mpTo {n i : Nat} {st : Store} : itR 0 n i st = some (mpTo n)[i]? := by
  unfold itR
  rw [mpTo_at]
  by_cases h : i < n
  · rw [if_pos h, if_pos h]; simp
  · rw [if_neg h, if_neg h]
/-! ### bits -/
theorem bitAnd_nat (a b : Nat) : Builtin.bitAnd (a : Int) (b : Int) = ((a &&& b : Nat) : Int) := PySem.W.os_band a b
theorem bitOr_nat (a b : Nat) : Builtin.bitOr (a : Int) (b : Int) = ((a ||| b : Nat) : Int) := by
  unfold Builtin.bitOr Builtin.bitAnd Builtin.bitNot
  have h1 : decide (0 ≤ -(a : Int) - 1) = false := decide_eq_false (by omega)
  have h2 : decide (0 ≤ -(b : Int) - 1) = false := decide_eq_false (by omega)
  rw [h1, h2]
  have h3 : (-(-(a : Int) - 1) - 1).toNat = a := by omega
  have h4 : (-(-(b : Int) - 1) - 1).toNat = b := by omega
  simp only [h3, h4]
  omega
theorem and_add_xor : ∀ (n a b : Nat), a ≤ n → (a &&& b) + (a ^^^ (a &&& b)) = a
  | 0, a, b, h => by
    have : a = 0 := by omega
    subst this; simp
  | n + 1, a, b, h => by
    by_cases h0 : a = 0
    · subst h0; simp
    · have ih := and_add_xor n (a / 2) (b / 2) (by omega)
      have e1 : (a &&& b) / 2 = a / 2 &&& b / 2 := Nat.and_div_two
      have e2 : (a ^^^ (a &&& b)) / 2 = a / 2 ^^^ (a / 2 &&& b / 2) := by rw [Nat.xor_div_two, e1]
      have m1 : (a &&& b) % 2 = (if a % 2 = 1 ∧ b % 2 = 1 then 1 else 0) := by
        have q := @Nat.and_mod_two_eq_one a b
        by_cases c : a % 2 = 1 ∧ b % 2 = 1
        · rw [if_pos c]; exact q.mpr c
        · rw [if_neg c]; have := mt q.mp c; omega
      have m2 : (a ^^^ (a &&& b)) % 2 = (a % 2 + (a &&& b) % 2) % 2 := by
        have t := Nat.testBit_xor (x := a) (y := a &&& b) (i := 0)
        simp only [Nat.testBit_zero] at t
        have z1 : (a ^^^ (a &&& b)) % 2 = 0 ∨ (a ^^^ (a &&& b)) % 2 = 1 := by omega
        have z2 : a % 2 = 0 ∨ a % 2 = 1 := by omega
        have z3 : (a &&& b) % 2 = 0 ∨ (a &&& b) % 2 = 1 := by omega
        rcases z1 with z1 | z1 <;> rcases z2 with z2 | z2 <;> rcases z3 with z3 | z3 <;> rw [z1, z2, z3] at t <;> first | omega | exact absurd t (by decide)
      have d1 := Nat.div_add_mod (a &&& b) 2
      have d2 := Nat.div_add_mod (a ^^^ (a &&& b)) 2
      have d3 := Nat.div_add_mod a 2
      rw [e1] at d1; rw [e2] at d2
      split at m1 <;> omega
def andNot (a b : Nat) : Nat := a ^^^ (a &&& b)
theorem bitAndNot_nat (a b : Nat) : Builtin.bitAnd (a : Int) (Builtin.bitNot (b : Int)) = (andNot a b : Int) := by
  unfold Builtin.bitAnd Builtin.bitNot andNot
  have h1 : decide (0 ≤ (a : Int)) = true := decide_eq_true (by omega)
  have h2 : decide (0 ≤ -(b : Int) - 1) = false := decide_eq_false (by omega)
  rw [h1, h2]
  have h3 : (-(-(b : Int) - 1) - 1).toNat = b := by omega
  have h4 : (a : Int).toNat = a := by omega
  simp only [h3, h4]
  have h5 : (a &&& b) + (a ^^^ (a &&& b)) = a := and_add_xor a a b (Nat.le_refl _)
  omega
theorem andNot_test {a b i : Nat} : (andNot a b).testBit i = (a.testBit i && !b.testBit i) := by
  unfold andNot
  rw [Nat.testBit_xor, Nat.testBit_and]
  cases a.testBit i <;> cases b.testBit i <;> rfl
/-- the places of the ones of m, of the first n -/
def bits (n m : Nat) : List Nat := (List.range n).filter fun i => m.testBit i
theorem bits_mem {n m i : Nat} : i ∈ bits n m ↔ i < n ∧ m.testBit i = true := by simp [bits]
theorem bits_grow {n m : Nat} (h : m < 2 ^ n) : ∀ k : Nat, bits (n + k) m = bits n m
  | 0 => rfl
  | k + 1 => by
    have e : bits (n + (k + 1)) m = bits (n + k) m ++ (if m.testBit (n + k) = true then [n + k] else []) := by
      unfold bits
      rw [show n + (k + 1) = n + k + 1 by omega, List.range_succ, List.filter_append]
      congr 1
      by_cases q : m.testBit (n + k) = true <;> simp [q]
    rw [e, bits_grow h k, Nat.testBit_lt_two_pow (Nat.lt_of_lt_of_le h (Nat.pow_le_pow_right (by decide) (by omega)))]
    simp
theorem bits_same {n k m : Nat} (h : m < 2 ^ n) (h2 : m < 2 ^ k) : bits n m = bits k m := by
  rcases Nat.le_total n k with q | q
  · obtain ⟨d, rfl⟩ := Nat.le.dest q
    exact (bits_grow h d).symm
  · obtain ⟨d, rfl⟩ := Nat.le.dest q
    exact bits_grow h2 d
theorem intBits_lt (m : Nat) : m < 2 ^ (Builtin.Int.intBits (m : Int)) := by
  unfold Builtin.Int.intBits
  by_cases h : m = 0
  · subst h; decide
  · have h1 : ((m : Int) == 0) = false := by simpa using h
    rw [h1]
    simpa using Nat.lt_log2_self
/-! ### running -/
theorem gBody_rt {n : Nat} {s : GS} {ds : List D} {st st' : Store} {d : D} {env : Env} (h : s env st = some (.rt d, st')) (he : ds.map some ++ List.replicate (n - ds.length) none = env := by rfl) : gBody n s ds st = some (.ok d st') := by
  subst he; unfold gBody; rw [h]
theorem gBody_xc {n : Nat} {s : GS} {ds : List D} {st st' : Store} {c : Str} {fs : List D} {e env : Env} (h : s env st = some (.xc c fs e, st')) (he : ds.map some ++ List.replicate (n - ds.length) none = env := by rfl) : gBody n s ds st = some (.ex c fs st') := by
  subst he; unfold gBody; rw [h]
theorem sSeq_nx {s t : GS} {env env' : Env} {st st' : Store} (h : s env st = some (.nx env', st')) : sSeq s t env st = t env' st' := by
  unfold sSeq; rw [h]
theorem sSeq_rt {s t : GS} {env : Env} {d : D} {st st' : Store} (h : s env st = some (.rt d, st')) : sSeq s t env st = some (.rt d, st') := by
  unfold sSeq; rw [h]
theorem sSeq_xc {s t : GS} {env e : Env} {c : Str} {fs : List D} {st st' : Store} (h : s env st = some (.xc c fs e, st')) : sSeq s t env st = some (.xc c fs e, st') := by
  unfold sSeq; rw [h]
theorem fEq_int {i j : Int} {st : Store} : fEq (.int i) (.int j) st = some (.ok (.bl (i == j)) st) := rfl
theorem fNe_int {i j : Int} {st : Store} : fNe (.int i) (.int j) st = some (.ok (.bl (!(i == j))) st) := rfl
theorem fShr_nat {i j : Nat} {st : Store} : fShr (.int i) (.int j) st = some (.ok (.int (i / 2 ^ j : Nat)) st) := by
  show (if cNn i j = true then some (Out.ok (D.int ((i : Int) / 2 ^ (j : Int).toNat)) st) else none) = _
  rw [if_pos (by unfold cNn; simp)]
  simp
theorem fShl_one {j : Nat} (h : j ≤ 1000000) {st : Store} : fShl (.int 1) (.int j) st = some (.ok (.int (2 ^ j : Nat)) st) := by
  show (if cPow 1 j = true then some (Out.ok (D.int ((1 : Int) * 2 ^ (j : Int).toNat)) st) else none) = _
  rw [if_pos (by unfold cPow; simp; omega)]
  simp
theorem fAnd_nat {i j : Nat} {st : Store} : fAnd (.int i) (.int j) st = some (.ok (.int (i &&& j : Nat)) st) := by
  show (if cAny i j = true then some (Out.ok (D.int (Builtin.bitAnd i j)) st) else none) = _
  rw [bitAnd_nat]; rfl
theorem fOr_nat {i j : Nat} {st : Store} : fOr (.int i) (.int j) st = some (.ok (.int (i ||| j : Nat)) st) := by
  show (if cAny i j = true then some (Out.ok (D.int (Builtin.bitOr i j)) st) else none) = _
  rw [bitOr_nat]; rfl
theorem fAdd_int {i j : Int} {st : Store} : fAdd (.int i) (.int j) st = some (.ok (.int (i + j)) st) := rfl
theorem fSub_int {i j : Int} {st : Store} : fSub (.int i) (.int j) st = some (.ok (.int (i - j)) st) := rfl
theorem fLt_int {i j : Int} {st : Store} : fLt (.int i) (.int j) st = some (.ok (.bl (decide (i < j))) st) := rfl
theorem fLe_int {i j : Int} {st : Store} : fLe (.int i) (.int j) st = some (.ok (.bl (decide (i ≤ j))) st) := rfl
theorem fGt_int {i j : Int} {st : Store} : fGt (.int i) (.int j) st = some (.ok (.bl (decide (j < i))) st) := rfl
theorem fIx_tup {xs : List D} {i : Nat} {d : D} {st : Store} (h : xs[i]? = some d) : fIx (.tup xs) (.int i) st = some (.ok d st) := by
  show (L2.atI xs (i : Int)).map (fun d => Out.ok d st) = _
  rw [L2.atI_nat h]; rfl
theorem cellD_none {n : Nat} {xs : List D} {st : Store} (h : cellL st n = some xs) : cellD st n = none := by
  unfold cellL at h
  unfold cellD
  cases q : st[n]? with
  | none => rfl
  | some c =>
    rw [q] at h
    cases c with
    | lst ds => rfl
    | dct kvs => cases h
theorem isDc_lst {n : Nat} {xs : List D} {st : Store} (h : cellL st n = some xs) : isDc st (.ref n) = false := by
  show (cellD st n).isSome = false
  rw [cellD_none h]; rfl
theorem fIx_ref {n i : Nat} {xs : List D} {d : D} {st : Store} (h : cellL st n = some xs) (h2 : xs[i]? = some d) : fIx (.ref n) (.int i) st = some (.ok d st) := by
  unfold fIx
  rw [isDc_lst h, if_neg Bool.false_ne_true]
  show (match cellL st n with | some xs => (L2.atI xs (i : Int)).map (fun d => Out.ok d st) | none => none) = _
  rw [h]
  show (L2.atI xs (i : Int)).map (fun d => Out.ok d st) = _
  rw [L2.atI_nat h2]; rfl
theorem gRng1_run {ga : GA} {env : Env} {st st1 : Store} {n : Nat} (h : ga env st = some (.ok [.int n] st1)) (hn : n < 2 ^ 62) : gRng1 ga env st = some (.ok (itR 0 n, n + 1) st1) := by
  unfold gRng1
  rw [h, rb_ok]
  show (if -(2 ^ 62) ≤ (n : Int) ∧ (n : Int) < 2 ^ 62 then some (Out.ok (itR 0 (n : Int).toNat, (n : Int).toNat + 1) st1) else none) = _
  rw [if_pos ⟨by omega, by omega⟩]; rfl
theorem gSeq_tup {g : G} {env : Env} {st st1 : Store} {ds : List D} (h : g env st = some (.ok (.tup ds) st1)) : gSeq g env st = some (.ok (itL ds, ds.length + 1) st1) := by
  unfold gSeq; rw [h]; rfl
theorem gSeq_ref {g : G} {env : Env} {st st1 : Store} {n : Nat} {ds : List D} (h : g env st = some (.ok (.ref n) st1)) (hc : cellL st1 n = some ds) : gSeq g env st = some (.ok (itC n, ds.length + 1) st1) := by
  unfold gSeq; rw [h, rb_ok]
  show ((cellL st1 n).map fun ds => (itC n, ds.length + 1)).map (fun p => Out.ok p st1) = _
  rw [hc]; rfl
theorem itC_pre {n : Nat} {ds : List D} {base st : Store} {i : Nat} (hc : cellL base n = some ds) (h : Pre base st) : itC n i st = some ds[i]? := by
  unfold itC; rw [h.cell hc]; rfl
theorem fTuple_ref {n : Nat} {ds : List D} {st : Store} (hc : cellL st n = some ds) : fTuple [.ref n] st = some (.ok (.tup ds) st) := by
  show (match seqD st (.ref n) with | some xs => some (Out.ok (D.tup xs) st) | none => none) = _
  rw [show seqD st (.ref n) = some ds from hc]
theorem asBls_map (bs : List Bool) : asBls (bs.map D.bl) = some bs := by
  unfold asBls
  induction bs with
  | nil => rfl
  | cons b r ih => simp only [List.map_cons, asBl, optAll, ih]
theorem fAll_bl {n : Nat} {bs : List Bool} {st : Store} (hc : cellL st n = some (bs.map D.bl)) : fAll [.ref n] st = some (.ok (.bl (bs.all id)) st) := by
  unfold fAll
  have e : listD st (.ref n) = some (bs.map D.bl) := hc
  simp only [e, asBls_map]
theorem gCall_of {n : Nat} {gf : GF} {ga : GA} {env : Env} {st st1 : Store} {ds : List D} (h : ga env st = some (.ok ds st1)) (hn : ds.length = n) : gCall n gf ga env st = gf ds st1 := by
  unfold gCall; rw [h, rb_ok, if_pos hn]
theorem Pre.set {a b : Store} (h : Pre a b) {q : Nat} (hq : a.length ≤ q) (c : Cell) : Pre a (b.set q c) := by
  obtain ⟨t, rfl⟩ := h
  rw [List.set_append_right _ _ hq]
  exact List.prefix_append _ _
theorem cellL_lt {s : Store} {q : Nat} {ys : List D} (h : cellL s q = some ys) : q < s.length := by
  unfold cellL at h
  cases e : s[q]? with
  | none => rw [e] at h; cases h
  | some c => exact (List.getElem?_eq_some_iff.mp e).1
theorem cellL_set {s : Store} {q : Nat} {xs ys : List D} (h : cellL s q = some ys) : cellL (s.set q (.lst xs)) q = some xs := by
  unfold cellL
  rw [List.getElem?_set_self (cellL_lt h)]
theorem cellL_set_ne {s : Store} {q k : Nat} {c : Cell} (h : k ≠ q) : cellL (s.set q c) k = cellL s k := by
  unfold cellL
  rw [List.getElem?_set_ne (Ne.symm h)]
theorem sAugSub_run {f : F2} {go gi g : G} {env : Env} {st : Store} {r i : Nat} {xs : List D} {x y z : D} (ho : go env st = some (.ok (.ref r) st)) (hi : gi env st = some (.ok (.int i) st)) (hc : cellL st r = some xs) (hx : xs[i]? = some x) (hg : g env st = some (.ok y st)) (hf : f x y st = some (.ok z st)) :
    sAugSub f go gi g env st = some (.nx env, st.set r (.lst (xs.set i z))) := by
  have h1 : fIxL (.ref r) (.int i) st = some (.ok x st) := by
    show (match cellL st r with | some xs => (L2.atI xs (i : Int)).map (fun d => Out.ok d st) | none => none) = _
    rw [hc]
    show (L2.atI xs (i : Int)).map (fun d => Out.ok d st) = _
    rw [L2.atI_nat hx]; rfl
  have h2 : fSetL (.ref r) (.int i) z st = some (st.set r (.lst (xs.set i z))) := by
    have hl : i < xs.length := (List.getElem?_eq_some_iff.mp hx).1
    have hj : L2.ixN xs.length (i : Int) = some i := by
      unfold L2.ixN
      rw [if_pos (by omega), if_pos (by omega)]; simp
    unfold fSetL
    simp only [hc, hj]
  unfold sAugSub
  rw [ho, sb_ok, hi, sb_ok, h1, sb_ok, hg, sb_ok, hf, sb_ok, h2]
theorem sAug_run {i : Nat} {f : F2} {g : G} {env : Env} {st st1 st2 : Store} {x y z : D} (hx : env[i]? = some (some x)) (hg : g env st = some (.ok y st1)) (hf : f x y st1 = some (.ok z st2)) : sAug i f g env st = some (.nx (env.set i (some z)), st2) := by
  unfold sAug; rw [hx]
  show sb env (g env st) _ = _
  rw [hg, sb_ok, hf, sb_ok]
theorem append_run {go g : G} {env : Env} {st : Store} {r : Nat} {xs : List D} {y : D} (ho : go env st = some (.ok (.ref r) st)) (hc : cellL st r = some xs) (hg : g env st = some (.ok y st)) (hl : xs.length < 16777216) :
    sExpr (gMethL fAppend go (aCons g aNil)) env st = some (.nx env, st.set r (.lst (xs ++ [y]))) := by
  have e : listD st (.ref r) = some xs := hc
  unfold sExpr gMethL aCons aNil
  simp only [ho, rb_ok, e, hg, fAppend, hc, if_pos hl, sb_ok]
theorem sSet_run {i : Nat} {g : G} {env : Env} {st st1 : Store} {d : D} (hg : g env st = some (.ok d st1)) : sSet i g env st = some (.nx (env.set i (some d)), st1) := by
  unfold sSet; rw [hg, sb_ok]
theorem sRet_run {g : G} {env : Env} {st st1 : Store} {d : D} (hg : g env st = some (.ok d st1)) : sRet g env st = some (.rt d, st1) := by
  unfold sRet; rw [hg, sb_ok]
theorem g2_run {f : F2} {ga gb : G} {env : Env} {st st1 st2 : Store} {x y : D} (ha : ga env st = some (.ok x st1)) (hb : gb env st1 = some (.ok y st2)) : g2 f ga gb env st = f x y st2 := by
  unfold g2; rw [ha, rb_ok, hb, rb_ok]
theorem gFn1_run {f : GF} {g : G} {env : Env} {st st1 : Store} {x : D} (h : g env st = some (.ok x st1)) : gFn f (aCons g aNil) env st = f [x] st1 := by
  unfold gFn aCons aNil; rw [h]; rfl
theorem gCall1_run {gf : GF} {g : G} {env : Env} {st st1 : Store} {x : D} (h : g env st = some (.ok x st1)) : gCall 1 gf (aCons g aNil) env st = gf [x] st1 := by
  unfold gCall aCons aNil; rw [h]; rfl
end MP
set_option Elab.async false
set_option linter.all false
set_option autoImplicit false
set_option maxRecDepth 100000
set_option maxHeartbeats 1000000
namespace Mk01
open PySem PySem.Spec MP
theorem has_bit_spec (m i : Nat) (st : Store) : G_has_bit [.int m, .int i] st = some (.ok (.bl (m.testBit i)) st) := by
  refine gBody_rt (env := [some (.int m), some (.int i)]) ?_
  have h1 : Builtin.bitAnd ((m : Int) / 2 ^ i) 1 = ((m / 2 ^ i % 2 : Nat) : Int) := by
    rw [PyProof.Rows.bitAnd_m1]; push_cast; rfl
  have h2 : (((m / 2 ^ i % 2 : Nat) : Int) == 1) = m.testBit i := by
    rw [Nat.testBit_eq_decide_div_mod_eq]
    by_cases h : m / 2 ^ i % 2 = 1
    · rw [h]; simp
    · have : m / 2 ^ i % 2 = 0 := by omega
      rw [this]; simp
  have h3 : fAnd (.int ((m / 2 ^ i : Nat) : Int)) (.int 1) st = some (.ok (.int (m / 2 ^ i % 2 : Nat)) st) := by
    show some (Out.ok (D.int (Builtin.bitAnd ((m / 2 ^ i : Nat) : Int) 1)) st) = _
    rw [PyProof.Rows.bitAnd_m1]; push_cast; rfl
  simp only [S_has_bit, sRet, g2, gv, gc, List.map_cons, List.map_nil, List.length_cons, List.length_nil, List.replicate, List.append_nil, List.cons_append, List.nil_append, List.getElem?_cons_zero, List.getElem?_cons_succ, rb_ok, sb_ok, fShr_nat, h3, fEq_int, h2]
theorem lot_of_spec (n m : Nat) (st : Store) (h : m < 2 ^ n) (hn : n < 10000) : ∃ st', Pre st st' ∧ G_lot_of [.int m] st = some (.ok (.tup ((bits n m).map fun (i : Nat) => .int i)) st') := by
  have hk : Builtin.Int.intBits (m : Int) ≤ n := by
    unfold Builtin.Int.intBits
    by_cases h0 : m = 0
    · subst h0; simp
    · have h1 : ((m : Int) == 0) = false := by simpa using h0
      rw [h1]
      have := (Nat.log2_lt h0).mpr h
      simp only [Bool.false_eq_true, if_false, Int.natAbs_natCast]; omega
  have step : ∀ d ∈ mpTo (Builtin.Int.intBits (m : Int)), ∀ s, Pre st s → ∃ env1 st1, tgName 1 d (wipeD [some (.int m), none] [1]) = some env1 ∧ gb1 (gCall 2 G_has_bit (aCons (gv 0) (aCons (gv 1) aNil))) env1 s = some (.ok ((fun d => match d with | .int i => m.testBit i.toNat | _ => false) d) st1) ∧ Pre s st1 ∧
      ((fun d => match d with | .int i => m.testBit i.toNat | _ => false) d = true → ∃ st2, gv 1 env1 st1 = some (.ok ((fun d => d) d) st2) ∧ Pre st1 st2) := by
    intro d hd s hp
    obtain ⟨i, hi, rfl⟩ := List.mem_map.mp hd
    refine ⟨[some (.int m), some (.int (i : Nat))], s, rfl, ?_, Pre.rfl, fun _ => ⟨s, rfl, Pre.rfl⟩⟩
    unfold gb1
    rw [show gCall 2 G_has_bit (aCons (gv 0) (aCons (gv 1) aNil)) [some (.int m), some (.int (i : Nat))] s = G_has_bit [.int m, .int (i : Nat)] s from rfl, has_bit_spec]
    rfl
  obtain ⟨st', k, h1, h2, h3, h4⟩ := gLc_run (gi := gRng1 (aCons (gBits (gv 0)) aNil)) (env := [some (.int m), none]) (st := st) (base := st) (vs := [1]) (e := gv 1) (f := tgName 1) (tt := gb1 (gCall 2 G_has_bit (aCons (gv 0) (aCons (gv 1) aNil)))) _ _ (by rw [mpTo_length]; exact gRng1_run rfl (by omega)) Pre.rfl (by rw [mpTo_length]; omega) (fun i s _ => itR_mpTo) step
  refine ⟨st', h1, gBody_rt (env := [some (.int m), none]) (sRet_run ?_)⟩
  have e : List.map (fun (d : D) => d) (List.filter (fun d => match d with | .int i => m.testBit i.toNat | _ => false) (mpTo (Builtin.Int.intBits (m : Int)))) = (bits (Builtin.Int.intBits (m : Int)) m).map fun (i : Nat) => D.int i := by
    unfold mpTo bits
    rw [List.filter_map, List.map_id']
    rfl
  rw [gFn1_run h2, fTuple_ref h3, bits_same h (intBits_lt m), ← e]
end Mk01
set_option Elab.async false
set_option linter.all false
set_option autoImplicit false
set_option maxRecDepth 100000
set_option maxHeartbeats 1000000
namespace Mk01
open PySem PySem.Spec MP
/-! ### masks_ahead -/
def pairD (p : Nat × Nat) : D := .tup [.int p.1, .int p.2]
def ordD (n : Nat) (ps : List (Nat × Nat)) : D := .tup [.int n, .tup (ps.map pairD)]
def mI (l : List Nat) : List D := l.map fun (m : Nat) => D.int m
theorem mI_at {l : List Nat} {i m : Nat} (h : l[i]? = some m) : (mI l)[i]? = some (.int m) := by unfold mI; rw [List.getElem?_map, h]; rfl
theorem mI_set {l : List Nat} {i m : Nat} : (mI l).set i (.int m) = mI (l.set i m) := by unfold mI; rw [List.map_set]
def straightM (n : Nat) (ps : List (Nat × Nat)) : List Nat := ps.foldl (fun l p => l.set p.2 (l.getD p.2 0 ||| 2 ^ p.1)) (List.replicate n 0)
def stepM (n sm : Nat) (prev : List Nat) : Nat := (bits n sm).foldl (fun m l => m ||| prev.getD l 0) sm
def aheadM (n : Nat) (sl : List Nat) : Nat → List Nat
  | 0 => []
  | k + 1 => aheadM n sl k ++ [stepM n (sl.getD k 0) (aheadM n sl k)]
def masksM (n : Nat) (ps : List (Nat × Nat)) : List Nat := aheadM n (straightM n ps) n
theorem aheadM_length {n : Nat} {sl : List Nat} : ∀ {k : Nat}, (aheadM n sl k).length = k
  | 0 => rfl
  | k + 1 => by unfold aheadM; rw [List.length_append, aheadM_length]; rfl
structure OrdOk (n : Nat) (ps : List (Nat × Nat)) : Prop where
  le : n ≤ 20
  in_ : ∀ p ∈ ps, p.1 < p.2 ∧ p.2 < n
theorem straight_len {n : Nat} : ∀ (ps : List (Nat × Nat)) (l : List Nat), (ps.foldl (fun l p => l.set p.2 (l.getD p.2 0 ||| 2 ^ p.1)) l).length = l.length
  | [], l => rfl
  | p :: r, l => by rw [List.foldl_cons, straight_len (n := n) r]; simp
theorem straight_lt {n : Nat} : ∀ (ps : List (Nat × Nat)) (l : List Nat), (∀ p ∈ ps, p.1 < n) → (∀ x ∈ l, x < 2 ^ n) → ∀ x ∈ ps.foldl (fun l p => l.set p.2 (l.getD p.2 0 ||| 2 ^ p.1)) l, x < 2 ^ n
  | [], l, _, h => h
  | p :: r, l, hp, h => by
    rw [List.foldl_cons]
    refine straight_lt r _ (fun q hq => hp q (List.mem_cons_of_mem _ hq)) fun x hx => ?_
    rcases List.mem_or_eq_of_mem_set hx with hx | hx
    · exact h x hx
    · subst hx
      refine Nat.or_lt_two_pow ?_ (Nat.pow_lt_pow_right (by decide) (hp p List.mem_cons_self))
      rw [List.getD_eq_getElem?_getD]
      cases q : l[p.2]? with
      | none => exact Nat.two_pow_pos n
      | some y => exact h y (List.mem_of_getElem? q)
theorem take_succ_get {α : Type} {l : List α} {i : Nat} {x : α} (h : l[i]? = some x) : l.take (i + 1) = l.take i ++ [x] := by
  rw [List.take_succ, h]; rfl
theorem straight_test {i l : Nat} : ∀ (ps : List (Nat × Nat)) (l0 : List Nat), i < l0.length → (((ps.foldl (fun l p => l.set p.2 (l.getD p.2 0 ||| 2 ^ p.1)) l0).getD i 0).testBit l = true ↔ (l0.getD i 0).testBit l = true ∨ (l, i) ∈ ps)
  | [], l0, _ => by simp
  | p :: r, l0, h => by
    rw [List.foldl_cons, straight_test r _ (by simpa using h)]
    have e : (l0.set p.2 (l0.getD p.2 0 ||| 2 ^ p.1)).getD i 0 = if p.2 = i then l0.getD i 0 ||| 2 ^ p.1 else l0.getD i 0 := by
      rw [List.getD_eq_getElem?_getD, List.getElem?_set]
      by_cases hi : p.2 = i
      · subst hi; simp [h]
      · simp [hi]
    rw [e]
    by_cases hi : p.2 = i
    · rw [if_pos hi, Nat.testBit_or, Nat.testBit_two_pow]
      obtain ⟨a, b⟩ := p
      dsimp only at hi ⊢
      subst hi
      by_cases ha : a = l
      · subst ha; simp
      · have : ¬ l = a := fun z => ha z.symm
        simp [ha, this]
    · rw [if_neg hi]
      obtain ⟨a, b⟩ := p
      dsimp only at hi
      have : ¬ (i = b) := fun z => hi z.symm
      simp [this]
theorem straight_iff {n i l : Nat} {ps : List (Nat × Nat)} (h : i < n) : ((straightM n ps).getD i 0).testBit l = true ↔ (l, i) ∈ ps := by
  unfold straightM
  rw [straight_test ps _ (by simpa using h)]
  have : (List.replicate n 0).getD i 0 = 0 := by
    rw [List.getD_eq_getElem?_getD, List.getElem?_replicate]; simp [h]
  rw [this]; simp
abbrev envM (n : Nat) (ps : List (Nat × Nat)) (r x y q z w : Option D) : MP.Env := [some (ordD n ps), some (.int n), some (.tup (ps.map pairD)), r, x, y, q, z, w]
theorem masks_ahead_spec {n : Nat} {ps : List (Nat × Nat)} (ok : OrdOk n ps) (st : Store) : ∃ st' r, Pre st st' ∧ G_masks_ahead [ordD n ps] st = some (.ok (.ref r) st') ∧ cellL st' r = some (mI (masksM n ps)) ∧ st.length ≤ r := by
  have hn := ok.le
  -- the first list
  have hlen : (straightM n ps).length = n := by unfold straightM; rw [straight_len (n := n)]; simp
  have e0 : (List.replicate n [D.int 0]).flatten = mI (List.replicate n 0) := by
    unfold mI; simp
  -- the first loop
  have L1 := sFor_run (gi := gSeq (gv 2)) (f := tgTup 2 (tgsCons (tgName 4) (tgsCons (tgName 5) tgsNil))) (body := sAugSub fOr (gv 3) (gv 5) (g2 fShl (gc (.int 1)) (gv 4))) (it := itL (ps.map pairD)) (ds := ps.map pairD)
    (env := (envM n ps (some (.ref (st.length + 1))) none none none none none)) (st := st ++ [.lst [.int 0]] ++ [.lst (mI (List.replicate n 0))]) (base := st ++ [.lst [.int 0]] ++ [.lst (mI (List.replicate n 0))])
    (fun i env s => ∃ x y, env = (envM n ps (some (.ref (st.length + 1))) x y none none none) ∧ Pre (st ++ [.lst [.int 0]]) s ∧ cellL s (st.length + 1) = some (mI (straightM n (ps.take i))))
    rfl ⟨none, none, rfl, List.prefix_append _ _, by
      have := cellL_new (st := st ++ [.lst [.int 0]]) (xs := mI (List.replicate n 0))
      rw [List.length_append] at this
      exact this⟩ (fun i env s _ => rfl) (by
      rintro i d env s hd ⟨x, y, rfl, hp, hc⟩
      rw [List.getElem?_map] at hd
      obtain ⟨p, hpi, rfl⟩ := Option.map_eq_some_iff.mp hd
      obtain ⟨h1, h2⟩ := ok.in_ p (List.mem_of_getElem? hpi)
      have hl : p.2 < (straightM n (ps.take i)).length := by unfold straightM; rw [straight_len (n := n)]; simpa using h2
      have hx : (straightM n (ps.take i))[p.2]? = some ((straightM n (ps.take i)).getD p.2 0) := by
        rw [List.getD_eq_getElem?_getD, List.getElem?_eq_getElem hl]; rfl
      refine ⟨(envM n ps (some (.ref (st.length + 1))) (some (.int p.1)) (some (.int p.2)) none none none), _, _, rfl, .inl (sAugSub_run rfl rfl hc (mI_at hx) ((g2_run rfl rfl).trans (fShl_one (by omega))) fOr_nat), some (.int p.1), some (.int p.2), rfl, hp.set (by simp) _, ?_⟩
      rw [cellL_set hc, mI_set, take_succ_get hpi]
      unfold straightM
      rw [List.foldl_append]; rfl)
  obtain ⟨env1, s1, r1, x1, y1, rfl, p1, c1⟩ := L1
  rw [List.length_map, List.take_length] at c1
  have hsl : ∀ x ∈ straightM n ps, x < 2 ^ n := straight_lt ps _ (fun p hp => by have := ok.in_ p hp; omega) (fun x hx => by
    rw [List.mem_replicate] at hx; rw [hx.2]; exact Nat.two_pow_pos n)
  -- the second loop
  have L2 := sFor_run (gi := gRng1 (aCons (gv 1) aNil)) (f := tgName 4) (body := sSeq (sSet 7 (g2 fIx (gv 3) (gv 4))) (sSeq (sFor (gSeq (gCall 1 G_lot_of (aCons (g2 fIx (gv 3) (gv 4)) aNil))) (tgName 8) (sAug 7 fOr (g2 fIx (gv 6) (gv 8)))) (sExpr (gMethL fAppend (gv 6) (aCons (gv 7) aNil)))))
    (it := itR 0 n) (ds := mpTo n) (env := (envM n ps (some (.ref (st.length + 1))) x1 y1 (some (.ref s1.length)) none none)) (st := s1 ++ [.lst []]) (base := s1 ++ [.lst []])
    (fun i env s => ∃ x y z w, env = (envM n ps (some (.ref (st.length + 1))) x y (some (.ref s1.length)) z w) ∧ Pre s1 s ∧ cellL s s1.length = some (mI (aheadM n (straightM n ps) i)))
    (by rw [mpTo_length]; exact gRng1_run rfl (by omega)) ⟨x1, y1, none, none, rfl, List.prefix_append _ _, cellL_new⟩ (fun i env s _ => itR_mpTo) (by
      rintro i d env s hd ⟨x, y, z, w, rfl, hp, hc⟩
      rw [mpTo_at] at hd
      have hi : i < n := by
        by_cases q : i < n
        · exact q
        · rw [if_neg q] at hd; cases hd
      rw [if_pos hi] at hd
      cases hd
      have hsm : (straightM n ps)[i]? = some ((straightM n ps).getD i 0) := by
        rw [List.getD_eq_getElem?_getD, List.getElem?_eq_getElem (by omega)]; rfl
      have hix : ∀ (e : MP.Env) (s' : Store), Pre s1 s' → e[3]? = some (some (D.ref (st.length + 1))) → e[4]? = some (some (D.int i)) → g2 fIx (gv 3) (gv 4) e s' = some (.ok (.int ((straightM n ps).getD i 0 : Nat)) s') := fun e s' h' h3 h4 => by
        have g3 : gv 3 e s' = some (.ok (.ref (st.length + 1)) s') := by unfold gv; rw [h3]
        have g4 : gv 4 e s' = some (.ok (.int i) s') := by unfold gv; rw [h4]
        exact (g2_run g3 g4).trans (fIx_ref (h'.cell c1) (mI_at hsm))
      obtain ⟨s2, q1, q2⟩ := lot_of_spec n ((straightM n ps).getD i 0) s (hsl _ (List.mem_of_getElem? hsm)) (by omega)
      have hc2 := q1.cell hc
      have L3 := sFor_run (gi := gSeq (gCall 1 G_lot_of (aCons (g2 fIx (gv 3) (gv 4)) aNil))) (f := tgName 8) (body := sAug 7 fOr (g2 fIx (gv 6) (gv 8))) (it := itL ((bits n ((straightM n ps).getD i 0)).map fun (i : Nat) => D.int i)) (ds := (bits n ((straightM n ps).getD i 0)).map fun (i : Nat) => D.int i)
        (env := (envM n ps (some (.ref (st.length + 1))) (some (.int i)) y (some (.ref s1.length)) (some (.int ((straightM n ps).getD i 0 : Nat))) w)) (st := s) (base := s2)
        (fun j env s' => s' = s2 ∧ ∃ w, env = (envM n ps (some (.ref (st.length + 1))) (some (.int i)) y (some (.ref s1.length)) (some (.int (((bits n ((straightM n ps).getD i 0)).take j).foldl (fun m l => m ||| (aheadM n (straightM n ps) i).getD l 0) ((straightM n ps).getD i 0) : Nat))) w))
        (gSeq_tup ((gCall1_run (hix _ s hp rfl rfl)).trans q2)) ⟨rfl, w, rfl⟩ (fun j env s' _ => rfl) (by
          rintro j d env s' hd ⟨rfl, w', rfl⟩
          rw [List.getElem?_map] at hd
          obtain ⟨l, hl, rfl⟩ := Option.map_eq_some_iff.mp hd
          have hlm := List.mem_of_getElem? hl
          have hli : l < i := (ok.in_ _ ((straight_iff hi).mp (bits_mem.mp hlm).2)).1
          have hal : (aheadM n (straightM n ps) i)[l]? = some ((aheadM n (straightM n ps) i).getD l 0) := by
            rw [List.getD_eq_getElem?_getD, List.getElem?_eq_getElem (by rw [aheadM_length]; exact hli)]; rfl
          refine ⟨(envM n ps (some (.ref (st.length + 1))) (some (.int i)) y (some (.ref s1.length)) (some (.int (((bits n ((straightM n ps).getD i 0)).take j).foldl (fun m l => m ||| (aheadM n (straightM n ps) i).getD l 0) ((straightM n ps).getD i 0) : Nat))) (some (.int l))), _, s', rfl,
            .inl (sAug_run rfl ((g2_run rfl rfl).trans (fIx_ref hc2 (mI_at hal))) fOr_nat), rfl, some (.int l), ?_⟩
          rw [take_succ_get hl, List.foldl_append]; rfl)
      obtain ⟨env3, s3, r3, rfl, w3, rfl⟩ := L3
      rw [List.length_map, List.take_length] at r3
      refine ⟨envM n ps (some (.ref (st.length + 1))) (some (.int i)) y (some (.ref s1.length)) z w, envM n ps (some (.ref (st.length + 1))) (some (.int i)) y (some (.ref s1.length)) (some (.int (stepM n ((straightM n ps).getD i 0) (aheadM n (straightM n ps) i) : Nat))) w3,
        s3.set s1.length (.lst (mI (aheadM n (straightM n ps) i) ++ [.int (stepM n ((straightM n ps).getD i 0) (aheadM n (straightM n ps) i) : Nat)])), rfl, .inl ?_, some (.int i), y, _, w3, rfl, (hp.tr q1).set (Nat.le_refl _) _, ?_⟩
      · rw [sSeq_nx (sSet_run (hix _ s hp rfl rfl))]
        refine (sSeq_nx r3).trans ?_
        exact append_run rfl hc2 rfl (by rw [show (mI (aheadM n (straightM n ps) i)).length = i by unfold mI; rw [List.length_map, aheadM_length]]; omega)
      · rw [cellL_set hc2]
        unfold mI
        rw [show aheadM n (straightM n ps) (i + 1) = aheadM n (straightM n ps) i ++ [stepM n ((straightM n ps).getD i 0) (aheadM n (straightM n ps) i)] from rfl, List.map_append]
        rfl)
  obtain ⟨env4, s4, r4, x4, y4, z4, w4, rfl, p4, c4⟩ := L2
  rw [mpTo_length] at c4
  refine ⟨s4, s1.length, ?_, gBody_rt (env := [some (ordD n ps), none, none, none, none, none, none, none, none]) ?_, c4, ?_⟩
  · exact ((List.prefix_append st _).trans p1).trans p4
  · unfold S_masks_ahead
    refine (sSeq_nx (env' := (envM n ps none none none none none none)) (st' := st) rfl).trans ?_
    refine (sSeq_nx (env' := (envM n ps (some (.ref (st.length + 1))) none none none none none)) (st' := st ++ [.lst [.int 0]] ++ [.lst (mI (List.replicate n 0))]) ?_).trans ?_
    · have h : fMul (.ref st.length) (.int n) (st ++ [.lst [.int 0]]) = some (.ok (.ref (st.length + 1)) (st ++ [.lst [.int 0]] ++ [.lst (mI (List.replicate n 0))])) := by
        show fRep (.ref st.length) (.int n) (st ++ [.lst [.int 0]]) = _
        unfold fRep
        dsimp only
        rw [cellL_new]
        dsimp only
        rw [if_pos ⟨by omega, by simp; omega, by omega⟩, Int.toNat_natCast, e0, List.length_append]
        rfl
      exact sSet_run ((g2_run rfl rfl).trans h)
    refine (sSeq_nx r1).trans ?_
    refine (sSeq_nx (env' := (envM n ps (some (.ref (st.length + 1))) x1 y1 (some (.ref s1.length)) none none)) (st' := s1 ++ [.lst []]) rfl).trans ?_
    refine (sSeq_nx r4).trans ?_
    exact sRet_run rfl
  · have := p1.length_le
    simp at this
    omega
/-! ### what is ahead of what -/
theorem fold_or_test {j : Nat} {g : Nat → Nat} : ∀ (ls : List Nat) (m : Nat), (ls.foldl (fun m l => m ||| g l) m).testBit j = true ↔ m.testBit j = true ∨ ∃ l ∈ ls, (g l).testBit j = true
  | [], m => by simp
  | l :: r, m => by
    rw [List.foldl_cons, fold_or_test r, Nat.testBit_or]
    simp [or_assoc]
theorem aheadM_pre {n : Nat} {sl : List Nat} {k : Nat} : ∀ d : Nat, ∀ i, i < k → (aheadM n sl (k + d)).getD i 0 = (aheadM n sl k).getD i 0
  | 0, i, h => rfl
  | d + 1, i, h => by
    rw [show k + (d + 1) = (k + d) + 1 by omega]
    show (aheadM n sl (k + d) ++ _).getD i 0 = _
    rw [List.getD_eq_getElem?_getD, List.getElem?_append_left (by rw [aheadM_length]; omega), ← List.getD_eq_getElem?_getD]
    exact aheadM_pre d i h
/-- the mask of i -/
def am (n : Nat) (ps : List (Nat × Nat)) (i : Nat) : Nat := (masksM n ps).getD i 0
theorem am_step {n : Nat} {ps : List (Nat × Nat)} {i : Nat} (ok : OrdOk n ps) (h : i < n) : am n ps i = (bits n ((straightM n ps).getD i 0)).foldl (fun m l => m ||| am n ps l) ((straightM n ps).getD i 0) := by
  have e : ∀ l, l < i → (aheadM n (straightM n ps) i).getD l 0 = am n ps l := fun l hl => by
    unfold am masksM
    obtain ⟨d, hd⟩ := Nat.le.dest (Nat.le_of_lt h)
    have := aheadM_pre (n := n) (sl := straightM n ps) (k := i) d l hl
    rw [hd] at this
    exact this.symm
  have e1 : am n ps i = stepM n ((straightM n ps).getD i 0) (aheadM n (straightM n ps) i) := by
    unfold am masksM
    obtain ⟨d, hd⟩ := Nat.le.dest (show i + 1 ≤ n from h)
    have := aheadM_pre (n := n) (sl := straightM n ps) (k := i + 1) d i (by omega)
    rw [hd] at this
    rw [this]
    show (aheadM n (straightM n ps) i ++ [_]).getD i 0 = _
    rw [List.getD_eq_getElem?_getD, List.getElem?_append_right (by rw [aheadM_length]; exact Nat.le_refl _), aheadM_length, Nat.sub_self]
    rfl
  rw [e1]
  unfold stepM
  have hb : ∀ l ∈ bits n ((straightM n ps).getD i 0), l < i := fun l hl => (ok.in_ _ ((straight_iff h).mp (bits_mem.mp hl).2)).1
  generalize (straightM n ps).getD i 0 = m at hb
  have gen : ∀ (ls : List Nat), (∀ l ∈ ls, l < i) → ∀ m, ls.foldl (fun m l => m ||| (aheadM n (straightM n ps) i).getD l 0) m = ls.foldl (fun m l => m ||| am n ps l) m := by
    intro ls
    induction ls with
    | nil => intro _ m; rfl
    | cons l r ih =>
      intro hl m
      rw [List.foldl_cons, List.foldl_cons, e l (hl l List.mem_cons_self)]
      exact ih (fun x hx => hl x (List.mem_cons_of_mem _ hx)) _
  exact gen _ hb m
theorem am_iff {n : Nat} {ps : List (Nat × Nat)} {i j : Nat} (ok : OrdOk n ps) (h : i < n) : (am n ps i).testBit j = true ↔ (j, i) ∈ ps ∨ ∃ l, (l, i) ∈ ps ∧ (am n ps l).testBit j = true := by
  rw [am_step ok h, fold_or_test, straight_iff h]
  constructor
  · rintro (a | ⟨l, hl, a⟩)
    · exact .inl a
    · exact .inr ⟨l, (straight_iff h).mp (bits_mem.mp hl).2, a⟩
  · rintro (a | ⟨l, hl, a⟩)
    · exact .inl a
    · have hk := ok.in_ _ hl
      exact .inr ⟨l, bits_mem.mpr ⟨by dsimp only at hk; omega, (straight_iff h).mpr hl⟩, a⟩
theorem am_lt {n : Nat} {ps : List (Nat × Nat)} (ok : OrdOk n ps) : ∀ (i : Nat), i < n → ∀ j, (am n ps i).testBit j = true → j < i := by
  intro i
  induction i using Nat.strongRecOn with
  | ind i ih =>
    intro h j hj
    rcases (am_iff ok h).mp hj with a | ⟨l, hl, a⟩
    · exact (ok.in_ _ a).1
    · have hk := ok.in_ _ hl
      dsimp only at hk
      exact Nat.lt_trans (ih l hk.1 (by omega) j a) hk.1
/-- what is ahead of what is ahead is ahead -/
theorem am_trans {n : Nat} {ps : List (Nat × Nat)} (ok : OrdOk n ps) : ∀ (i : Nat), i < n → ∀ l j, (am n ps i).testBit l = true → (am n ps l).testBit j = true → (am n ps i).testBit j = true := by
  intro i
  induction i using Nat.strongRecOn with
  | ind i ih =>
    intro h l j hl hj
    rcases (am_iff ok h).mp hl with a | ⟨k, hk, a⟩
    · exact (am_iff ok h).mpr (.inr ⟨l, a, hj⟩)
    · have hk2 := ok.in_ _ hk
      dsimp only at hk2
      exact (am_iff ok h).mpr (.inr ⟨k, hk, ih k hk2.1 (by omega) l j a hj⟩)
theorem am_small {n : Nat} {ps : List (Nat × Nat)} (ok : OrdOk n ps) {i : Nat} (h : i < n) : am n ps i < 2 ^ n := by
  refine Nat.lt_pow_two_of_testBit _ fun j hj => ?_
  cases q : (am n ps i).testBit j with
  | false => rfl
  | true => have := am_lt ok i h j q; omega
end Mk01
set_option Elab.async false
set_option linter.all false
set_option autoImplicit false
set_option maxRecDepth 100000
set_option maxHeartbeats 1000000
namespace MP
open PySem PySem.Spec
theorem sIf_t {c : GT} {s t : GS} {env : Env} {st st1 : Store} (h : c env st = some (.ok true st1)) : sIf c s t env st = s env st1 := by
  unfold sIf; rw [h, sb_ok, if_pos rfl]
theorem sIf_f {c : GT} {s t : GS} {env : Env} {st st1 : Store} (h : c env st = some (.ok false st1)) : sIf c s t env st = t env st1 := by
  unfold sIf; rw [h, sb_ok, if_neg Bool.false_ne_true]
theorem seqIf_f {c : GT} {s u : GS} {env : Env} {st st1 : Store} (h : c env st = some (.ok false st1)) : sSeq (sIf c s sNext) u env st = u env st1 := sSeq_nx ((sIf_f h).trans rfl)
theorem seqIf_t {c : GT} {s u : GS} {env : Env} {st st1 st2 : Store} {d : D} (h : c env st = some (.ok true st1)) (hs : s env st1 = some (.rt d, st2)) : sSeq (sIf c s sNext) u env st = some (.rt d, st2) := sSeq_rt ((sIf_t h).trans hs)
theorem seqIf_x {c : GT} {s u : GS} {env e : Env} {st st1 st2 : Store} {k : Str} {fs : List D} (h : c env st = some (.ok true st1)) (hs : s env st1 = some (.xc k fs e, st2)) : sSeq (sIf c s sNext) u env st = some (.xc k fs e, st2) := sSeq_xc ((sIf_t h).trans hs)
theorem gb1_run {g : G} {env : Env} {st st1 : Store} {b : Bool} (h : g env st = some (.ok (.bl b) st1)) : gb1 g env st = some (.ok b st1) := by
  unfold gb1; rw [h]; rfl
theorem gIsI_run {T U : String} {g : G} {env : Env} {st st1 : Store} {d : D} (h : g env st = some (.ok d st1)) (ht : tyD st1 d = some U) : gIsI T g env st = some (.ok (.bl (isSub U T)) st1) := by
  unfold gIsI; rw [h, rb_ok, ht]
/-- a comprehension by an invariant -/
theorem lcI_run {it : ItF} {f : FT} {tt : GT} {e : G} {env : Env} {ds : List D} (tv : D → Bool) (ev : D → D) (Inv : Nat → Store → Prop) (hit : ∀ i st, Inv i st → it i st = some ds[i]?)
    (step : ∀ i d st, ds[i]? = some d → Inv i st → ∃ env1 st1, f d env = some env1 ∧ tt env1 st = some (.ok (tv d) st1) ∧ (tv d = true → ∃ st2, e env1 st1 = some (.ok (ev d) st2) ∧ Inv (i + 1) st2) ∧ (tv d = false → Inv (i + 1) st1)) :
    ∀ (k i : Nat) (acc : List D) (st : Store), k + i = ds.length → acc.length + k < 16777216 → Inv i st → ∃ st', Inv ds.length st' ∧ lcGo it f tt e env (k + 1) i acc st = some (acc ++ ((ds.drop i).filter tv).map ev, st')
  | 0, i, acc, st, hk, ha, hp => by
    obtain rfl : i = ds.length := by omega
    refine ⟨st, hp, ?_⟩
    have hi : ds[ds.length]? = none := List.getElem?_eq_none (Nat.le_refl _)
    simp only [lcGo, hit _ st hp, hi, List.drop_length, List.filter_nil, List.map_nil, List.append_nil]
  | k + 1, i, acc, st, hk, ha, hp => by
    have hl : i < ds.length := by omega
    have hi : ds[i]? = some ds[i] := List.getElem?_eq_getElem hl
    obtain ⟨env1, st1, h1, h2, h4, h5⟩ := step i _ st hi hp
    have hd : ds.drop i = ds[i] :: ds.drop (i + 1) := List.drop_eq_getElem_cons hl
    cases hv : tv ds[i] with
    | true =>
      obtain ⟨st2, h6, h7⟩ := h4 hv
      obtain ⟨st', g1, g2⟩ := lcI_run tv ev Inv hit step k (i + 1) (acc ++ [ev ds[i]]) st2 (by omega) (by simp; omega) h7
      refine ⟨st', g1, ?_⟩
      unfold lcGo
      simp only [hit i st hp, hi, h1, h2, hv, h6, if_pos (show acc.length < 16777216 by omega)]
      rw [g2, hd, List.filter_cons_of_pos hv, List.map_cons, List.append_assoc]
      rfl
    | false =>
      obtain ⟨st', g1, g2⟩ := lcI_run tv ev Inv hit step k (i + 1) acc st1 (by omega) (by omega) (h5 hv)
      refine ⟨st', g1, ?_⟩
      unfold lcGo
      simp only [hit i st hp, hi, h1, h2, hv]
      rw [g2, hd, List.filter_cons_of_neg (by simp [hv])]
theorem gLcI_run {gi : GI} {it : ItF} {f : FT} {tt : GT} {e : G} {env : Env} {st base : Store} {ds : List D} {vs : List Nat} (tv : D → Bool) (ev : D → D) (Inv : Nat → Store → Prop) (hgi : gi env st = some (.ok (it, ds.length + 1) base)) (hb : Inv 0 base) (hl : ds.length < 16777216) (hit : ∀ i s, Inv i s → it i s = some ds[i]?)
    (step : ∀ i d st, ds[i]? = some d → Inv i st → ∃ env1 st1, f d (wipeD env vs) = some env1 ∧ tt env1 st = some (.ok (tv d) st1) ∧ (tv d = true → ∃ st2, e env1 st1 = some (.ok (ev d) st2) ∧ Inv (i + 1) st2) ∧ (tv d = false → Inv (i + 1) st1)) :
    ∃ st', Inv ds.length st' ∧ gLc gi f tt e vs env st = some (.ok (.ref st'.length) (st' ++ [.lst ((ds.filter tv).map ev)])) := by
  obtain ⟨st', h1, h2⟩ := lcI_run tv ev Inv hit step ds.length 0 [] base (by omega) (by simpa using hl) hb
  refine ⟨st', h1, ?_⟩
  unfold gLc
  rw [hgi, rb_ok, h2]
  simp [lcNew]
/-- all cells but b stay -/
structure Keep (b : Nat) (st st' : Store) : Prop where
  len : st.length ≤ st'.length
  at_ : ∀ i, i < st.length → i ≠ b → st'[i]? = st[i]?
theorem Keep.rfl {b : Nat} {st : Store} : Keep b st st := ⟨Nat.le_refl _, fun _ _ _ => Eq.refl _⟩
theorem Keep.tr {b : Nat} {s1 s2 s3 : Store} (h : Keep b s1 s2) (k : Keep b s2 s3) : Keep b s1 s3 := ⟨Nat.le_trans h.len k.len, fun i hi hb => (k.at_ i (Nat.lt_of_lt_of_le hi h.len) hb).trans (h.at_ i hi hb)⟩
theorem Keep.set {b : Nat} {st : Store} {c : Cell} : Keep b st (st.set b c) := ⟨by simp, fun i hi hb => List.getElem?_set_ne (Ne.symm hb)⟩
theorem Keep.push {b : Nat} {st : Store} {x : List Cell} : Keep b st (st ++ x) := ⟨by simp, fun i hi hb => List.getElem?_append_left hi⟩
theorem Keep.pre {base st st' : Store} {b : Nat} (h : Keep b st st') (hp : Pre base st) (hb : base.length ≤ b) : Pre base st' := by
  obtain ⟨t, rfl⟩ := hp
  show base <+: st'
  rw [List.prefix_iff_eq_take]
  apply List.ext_getElem?
  intro i
  rw [List.getElem?_take]
  by_cases hi : i < base.length
  · rw [if_pos hi, h.at_ i (by simp; omega) (by omega), List.getElem?_append_left hi]
  · rw [if_neg hi, List.getElem?_eq_none (by omega)]
mutual
/-- what plain makes of a value -/
def cop : D → D
  | .non => .non
  | .bl _ => .str ""
  | .int i => .int i
  | .str x => .str x
  | .tup ds => .tup (copAll ds)
  | .rol _ => .str ""
  | .ref _ => .str ""
def copAll : List D → List D
  | [] => []
  | d :: r => cop d :: copAll r
end
mutual
def szD : D → Nat
  | .tup ds => 1 + szAll ds
  | _ => 1
def szAll : List D → Nat
  | [] => 0
  | d :: r => szD d + szAll r
end
mutual
def depD : D → Nat
  | .tup ds => 1 + depAll ds
  | _ => 0
def depAll : List D → Nat
  | [] => 0
  | d :: r => max (depD d) (depAll r)
end
mutual
/-- every place that is named is there -/
def inSt (st : Store) : D → Prop
  | .tup ds => inAll st ds
  | .ref n => n < st.length
  | .str x => x.length ≤ 16777216
  | _ => True
def inAll (st : Store) : List D → Prop
  | [] => True
  | d :: r => inSt st d ∧ inAll st r
end
theorem copAll_eq : ∀ ds : List D, copAll ds = ds.map cop
  | [] => rfl
  | d :: r => by unfold copAll; rw [copAll_eq r]; rfl
theorem szAll_take {ds : List D} {i : Nat} {d : D} (h : ds[i]? = some d) : szAll (ds.take (i + 1)) = szAll (ds.take i) + szD d := by
  have gen : ∀ (l : List D) (x : D), szAll (l ++ [x]) = szAll l + szD x := by
    intro l x
    induction l with
    | nil => simp [szAll]
    | cons a r ih => simp [szAll, ih]; omega
  rw [List.take_succ, h]
  exact gen _ _
theorem szAll_le {ds : List D} : ∀ i, szAll (ds.take i) ≤ szAll ds := by
  intro i
  induction ds generalizing i with
  | nil => simp [szAll]
  | cons a r ih =>
    cases i with
    | zero => simp [szAll]
    | succ i => simp only [List.take_succ_cons, szAll]; have := ih i; omega
theorem depAll_mem {ds : List D} {d : D} (h : d ∈ ds) : depD d ≤ depAll ds := by
  induction ds with
  | nil => cases h
  | cons a r ih =>
    unfold depAll
    rcases List.mem_cons.mp h with rfl | h
    · omega
    · have := ih h; omega
theorem inAll_mem {st : Store} {ds : List D} {d : D} (h : inAll st ds) (hd : d ∈ ds) : inSt st d := by
  induction ds with
  | nil => cases hd
  | cons a r ih =>
    unfold inAll at h
    rcases List.mem_cons.mp hd with rfl | hd
    · exact h.1
    · exact ih h.2 hd
mutual
theorem inSt.le {st st' : Store} (h : st.length ≤ st'.length) : ∀ (d : D), inSt st d → inSt st' d
  | .non, _ => by unfold inSt; trivial
  | .bl _, _ => by unfold inSt; trivial
  | .int _, _ => by unfold inSt; trivial
  | .str _, k => by unfold inSt at k ⊢; exact k
  | .rol _, _ => by unfold inSt; trivial
  | .ref n, k => by unfold inSt at k ⊢; omega
  | .tup ds, k => by unfold inSt at k ⊢; exact inAll.le h ds k
theorem inAll.le {st st' : Store} (h : st.length ≤ st'.length) : ∀ (ds : List D), inAll st ds → inAll st' ds
  | [], _ => by unfold inAll; trivial
  | d :: r, k => by
    unfold inAll at k ⊢
    exact ⟨inSt.le h d k.1, inAll.le h r k.2⟩
end
theorem szAll_len {ds : List D} : ds.length ≤ szAll ds := by
  induction ds with
  | nil => simp [szAll]
  | cons a r ih =>
    have : 1 ≤ szD a := by cases a <;> unfold szD <;> omega
    simp only [szAll, List.length_cons]; omega
end MP
set_option Elab.async false
set_option linter.all false
set_option autoImplicit false
set_option maxRecDepth 100000
set_option maxHeartbeats 1000000
namespace MP
open PySem PySem.Spec
theorem szD_pos (d : D) : 1 ≤ szD d := by cases d <;> unfold szD <;> omega
theorem szAll_app (l r : List D) : szAll (l ++ r) = szAll l + szAll r := by
  induction l with
  | nil => simp [szAll]
  | cons a l ih => simp only [List.cons_append, szAll, ih]; omega
theorem szAll_rest {ds : List D} (i : Nat) : szAll (ds.take i) + (ds.length - i) ≤ szAll ds := by
  have h : szAll (ds.take i ++ ds.drop i) = _ := szAll_app _ _
  rw [List.take_append_drop] at h
  have := szAll_len (ds := ds.drop i)
  rw [List.length_drop] at this
  omega
theorem szAll_room {ds : List D} (i : Nat) : (ds.take i).length ≤ szAll (ds.take i) := szAll_len
theorem gIf_t {c : GT} {a b : G} {env : Env} {st st1 : Store} (h : c env st = some (.ok true st1)) : gIf c a b env st = a env st1 := by
  unfold gIf; rw [h, rb_ok, if_pos rfl]
theorem gIf_f {c : GT} {a b : G} {env : Env} {st st1 : Store} (h : c env st = some (.ok false st1)) : gIf c a b env st = b env st1 := by
  unfold gIf; rw [h, rb_ok, if_neg Bool.false_ne_true]
end MP
namespace Mk01
open PySem PySem.Spec MP
theorem copied_spec : ∀ (N : Nat) (d : D) (deep b B : Nat) (st : Store), depD d < N → depD d ≤ deep → szD d ≤ B + 1 → B ≤ 200000 → inSt st d → cellL st b = some [.int B] →
    ∃ st', G__copied N [d, .ref b, .int deep] st = some (.ok (cop d) st') ∧ cellL st' b = some [.int ((B + 1 - szD d : Nat) : Int)] ∧ Keep b st st'
  | 0, d, deep, b, B, st, h, _, _, _, _, _ => by omega
  | N + 1, d, deep, b, B, st, hN, hdeep, hB, hB2, hin, hc => by
    have isI : ∀ {U T : String}, tyD st d = some U → ∀ {x : Bool}, isSub U T = x → gb1 (gIsI T (gv 0)) [some d, some (.ref b), some (.int deep), none] st = some (.ok x st) := by
      intro U T ht x hx
      rw [← hx]; exact gb1_run (gIsI_run rfl ht)
    -- what is no tuple
    have flat : ∀ (r : D) (ex : Store), szD d = 1 → S__copied (fun _ => G__copied N) 0 [some d, some (.ref b), some (.int deep), none] st = some (.rt r, st ++ ex) → cop d = r →
        ∃ st', G__copied (N + 1) [d, .ref b, .int deep] st = some (.ok (cop d) st') ∧ cellL st' b = some [.int ((B + 1 - szD d : Nat) : Int)] ∧ Keep b st st' := by
      intro r ex hz hrun hr
      refine ⟨st ++ ex, ?_, by rw [hz]; exact Pre.cell (List.prefix_append st ex) hc, Keep.push⟩
      rw [hr]
      exact gBody_rt (env := [some d, some (.ref b), some (.int deep), none]) hrun
    have alien : ∀ {U : String}, tyD st d = some U → isSub U "int" = false → isSub U "tuple" = false → isSub U "str" = false → szD d = 1 → isNon d = false → cop d = .str "" →
        ∃ st', G__copied (N + 1) [d, .ref b, .int deep] st = some (.ok (cop d) st') ∧ cellL st' b = some [.int ((B + 1 - szD d : Nat) : Int)] ∧ Keep b st st' := by
      intro U ht e1 e2 e3 hz hnn hr
      refine flat _ [] hz ?_ hr
      rw [List.append_nil]
      unfold S__copied
      refine (seqIf_f (isI ht e1)).trans ((seqIf_f (isI ht e2)).trans ((seqIf_f (isI ht e3)).trans (sRet_run ?_)))
      refine (gIf_f (gb1_run ?_)).trans rfl
      rw [g2_run (x := d) rfl rfl]
      show some (Out.ok (D.bl (if false = true then !isNon d else isNon d)) st) = _
      rw [hnn]; rfl
    cases d with
    | non =>
      refine flat .non [] (by unfold szD; rfl) ?_ (by unfold cop; rfl)
      rw [List.append_nil]
      unfold S__copied
      exact (seqIf_f (isI (U := "NoneType") rfl (by decide))).trans ((seqIf_f (isI (U := "NoneType") rfl (by decide))).trans ((seqIf_f (isI (U := "NoneType") rfl (by decide))).trans rfl))
    | bl x =>
      refine flat (.str "") [] (by unfold szD; rfl) ?_ (by unfold cop; rfl)
      rw [List.append_nil]
      unfold S__copied
      exact seqIf_t (st1 := st) (isI (U := "bool") rfl (by decide)) (sRet_run ((gIf_t (isI (U := "bool") rfl (by decide))).trans rfl))
    | int i =>
      refine flat (.int i) [] (by unfold szD; rfl) ?_ (by unfold cop; rfl)
      rw [List.append_nil]
      unfold S__copied
      exact seqIf_t (st1 := st) (isI (U := "int") rfl (by decide)) (sRet_run ((gIf_f (isI (U := "int") rfl (by decide))).trans rfl))
    | str x =>
      unfold inSt at hin
      refine flat (.str x) [.lst [.str x]] (by unfold szD; rfl) ?_ (by unfold cop; rfl)
      unfold S__copied
      refine (seqIf_f (isI (U := "str") rfl (by decide))).trans ((seqIf_f (isI (U := "str") rfl (by decide))).trans (seqIf_t (st1 := st) (isI (U := "str") rfl (by decide)) (sRet_run ?_)))
      have hl : gLst (aCons (gv 0) aNil) [some (.str x), some (.ref b), some (.int deep), none] st = some (.ok (.ref st.length) (st ++ [.lst [.str x]])) := rfl
      unfold gJoin1
      show rb (some (Out.ok (D.str "") st)) _ = _
      rw [rb_ok]
      dsimp only
      rw [hl, rb_ok]
      have e : listD (st ++ [.lst [.str x]]) (.ref st.length) = some [.str x] := cellL_new
      rw [e]
      dsimp only
      rw [if_pos (show x.length + (Str.ofString "").length ≤ 16777216 from hin)]
      have j : Txt.join "" [x] = x := rfl
      rw [j]
    | rol xs => exact alien (U := "list") rfl (by decide) (by decide) (by decide) (by unfold szD; rfl) rfl (by unfold cop; rfl)
    | ref n =>
      unfold inSt at hin
      have hg : st[n]? = some st[n] := List.getElem?_eq_getElem hin
      cases q : st[n] with
      | lst ys =>
        rw [q] at hg
        exact alien (U := "list") (show (match st[n]? with | some (.lst _) => some "list" | some (.dct _) => some "dict" | none => none) = some "list" by rw [hg]) (by decide) (by decide) (by decide) (by unfold szD; rfl) rfl (by unfold cop; rfl)
      | dct ys =>
        rw [q] at hg
        exact alien (U := "dict") (show (match st[n]? with | some (.lst _) => some "list" | some (.dct _) => some "dict" | none => none) = some "dict" by rw [hg]) (by decide) (by decide) (by decide) (by unfold szD; rfl) rfl (by unfold cop; rfl)
    | tup ds =>
      have hd1 : depD (.tup ds) = 1 + depAll ds := by unfold depD; rfl
      have hz1 : szD (.tup ds) = 1 + szAll ds := by unfold szD; rfl
      unfold inSt at hin
      have hlen : ds.length ≤ szAll ds := szAll_len
      have g1v : gv 1 [some (.tup ds), some (.ref b), some (.int deep), none] st = some (.ok (.ref b) st) := rfl
      have hdec : sAugSub fSub (gv 1) (gc (.int 0)) (gFn fLen (aCons (gv 0) aNil)) [some (.tup ds), some (.ref b), some (.int deep), none] st = some (.nx [some (.tup ds), some (.ref b), some (.int deep), none], st.set b (.lst [.int ((B : Int) - ds.length)])) :=
        sAugSub_run (i := 0) (xs := [.int B]) (y := .int ds.length) g1v rfl hc rfl rfl rfl
      have hc1 : cellL (st.set b (.lst [.int ((B : Int) - ds.length)])) b = some [.int ((B : Int) - ds.length)] := cellL_set hc
      have hK : Keep b st (st.set b (.lst [.int ((B : Int) - ds.length)])) := Keep.set
      generalize hs1 : st.set b (.lst [.int ((B : Int) - ds.length)]) = s1 at hdec hc1 hK
      have hin1 : inAll s1 ds := inAll.le hK.len ds hin
      have hB' : cellL s1 b = some [.int ((B + 0 - ds.length - szAll (ds.take 0) : Nat) : Int)] := by rw [hc1, List.take_zero, szAll]; congr 3; omega
      have hlt : g2 fLt (g2 fIx (gv 1) (gc (.int 0))) (gc (.int 0)) [some (.tup ds), some (.ref b), some (.int deep), none] s1 = some (.ok (.bl false) s1) := by
        have g : g2 fIx (gv 1) (gc (.int 0)) [some (.tup ds), some (.ref b), some (.int deep), none] s1 = some (.ok (.int ((B : Int) - ds.length)) s1) := (g2_run rfl rfl).trans (fIx_ref (i := 0) hc1 rfl)
        rw [g2_run g rfl, fLt_int, decide_eq_false (by omega)]
      have hdp : g2 fEq (gv 2) (gc (.int 0)) [some (.tup ds), some (.ref b), some (.int deep), none] s1 = some (.ok (.bl false) s1) := by
        rw [g2_run rfl rfl, fEq_int]
        congr 3
        exact beq_eq_false_iff_ne.mpr (by omega)
      obtain ⟨s2, ⟨k2, c2⟩, r2⟩ := gLcI_run (gi := gSeq (gv 0)) (it := itL ds) (f := tgName 3) (tt := ttYes) (e := gCall 3 (G__copied N) (aCons (gv 3) (aCons (gv 1) (aCons (g2 fSub (gv 2) (gc (.int 1))) aNil)))) (env := [some (.tup ds), some (.ref b), some (.int deep), none]) (st := s1) (base := s1) (ds := ds) (vs := [3]) (fun _ => true) cop
        (fun i s => Keep b s1 s ∧ cellL s b = some [.int ((B + i - ds.length - szAll (ds.take i) : Nat) : Int)]) rfl ⟨Keep.rfl, hB'⟩ (by omega) (fun i s _ => rfl) (by
          rintro i d s hd ⟨hk, hcc⟩
          have hm := List.mem_of_getElem? hd
          have t0 := (List.getElem?_eq_some_iff.mp hd).1
          have t1 := szAll_take hd
          have t2 := szAll_rest (ds := ds) (i + 1)
          have t3 := depAll_mem hm
          have t4 := szD_pos d
          have t5 := szAll_room (ds := ds) i
          rw [List.length_take] at t5
          obtain ⟨s', g1, g2, g3⟩ := copied_spec N d (deep - 1) b (B + i - ds.length - szAll (ds.take i)) s (by omega) (by omega) (by omega) (by omega) (inSt.le hk.len d (inAll_mem hin1 hm)) hcc
          refine ⟨[some (.tup ds), some (.ref b), some (.int deep), some d], s, rfl, rfl, fun _ => ⟨s', ?_, hk.tr g3, ?_⟩, fun q => Bool.noConfusion q⟩
          · rw [← g1]
            have e : ((deep : Int) - 1) = ((deep - 1 : Nat) : Int) := by omega
            rw [← e]
            rfl
          · rw [g2, t1]; congr 3; omega)
      rw [show ds.filter (fun _ => true) = ds from List.filter_eq_self.mpr fun _ _ => rfl, ← copAll_eq] at r2
      refine ⟨s2 ++ [.lst (copAll ds)], ?_, ?_, (hK.tr k2).tr Keep.push⟩
      · refine gBody_rt (env := [some (.tup ds), some (.ref b), some (.int deep), none]) ?_
        unfold S__copied
        refine (seqIf_f (isI (U := "tuple") rfl (by decide))).trans (seqIf_t (st1 := st) (isI (U := "tuple") rfl (by decide)) ?_)
        refine (sSeq_nx hdec).trans ((seqIf_f (st1 := s1) ?_).trans (sRet_run ?_))
        · unfold gOrT
          rw [gb1_run hdp, rb_ok, if_neg Bool.false_ne_true]
          exact gb1_run hlt
        · rw [gFn1_run r2, fTuple_ref cellL_new]
          unfold cop; rfl
      · rw [hz1, Pre.cell (List.prefix_append s2 _) c2, List.take_length]
        congr 3; omega
theorem plain_spec (d : D) (st : Store) (h1 : depD d ≤ 100) (h2 : szD d ≤ 200000) (h3 : inSt st d) : ∃ st', Pre st st' ∧ G_plain [d] st = some (.ok (cop d) st') := by
  obtain ⟨s, g1, g2, g3⟩ := copied_spec 102 d 100 st.length 200000 (st ++ [.lst [.int 200000]]) (by omega) h1 (by omega) (Nat.le_refl _) (inSt.le (by simp) d h3) cellL_new
  refine ⟨s, g3.pre (List.prefix_append _ _) (Nat.le_refl _), gBody_rt (env := [some d]) (sRet_run ?_)⟩
  rw [← g1]
  rfl
end Mk01
set_option Elab.async false
set_option linter.all false
set_option autoImplicit false
set_option maxRecDepth 100000
set_option maxHeartbeats 1000000
namespace Mk01
open PySem PySem.Spec MP
/-- values as plain leaves them: no truth values, no objects -/
def bare0 : D → Bool
  | .non => true
  | .int _ => true
  | .str _ => true
  | .tup _ => true
  | _ => false
theorem cop_bare : ∀ d : D, bare0 (cop d) = true
  | .non => by unfold cop; rfl
  | .bl _ => by unfold cop; rfl
  | .int _ => by unfold cop; rfl
  | .str _ => by unfold cop; rfl
  | .tup _ => by unfold cop; rfl
  | .rol _ => by unfold cop; rfl
  | .ref _ => by unfold cop; rfl
def numB (d : D) (lo hi : Int) : Bool := match d with
  | .int i => decide (lo ≤ i) && decide (i ≤ hi)
  | _ => false
def tupB (d : D) (k : Nat) : Bool := match d with
  | .tup ds => ds.length == k
  | _ => false
theorem gAnd_f {g h : G} {env : MP.Env} {st st1 : Store} (hg : g env st = some (.ok (.bl false) st1)) : gAnd g h env st = some (.ok (.bl false) st1) := by
  unfold gAnd; rw [gb1_run hg, rb_ok, if_neg Bool.false_ne_true]
theorem gAnd_t {g h : G} {env : MP.Env} {st st1 : Store} (hg : g env st = some (.ok (.bl true) st1)) : gAnd g h env st = h env st1 := by
  unfold gAnd; rw [gb1_run hg, rb_ok, if_pos rfl]
theorem is_number_spec (d : D) (lo hi : Int) (st : Store) (h : bare0 d = true) : G_is_number [d, .int lo, .int hi] st = some (.ok (.bl (numB d lo hi)) st) := by
  refine gBody_rt (env := [some d, some (.int lo), some (.int hi)]) (sRet_run ?_)
  cases d with
  | bl _ => cases h
  | rol _ => cases h
  | ref _ => cases h
  | int i =>
    refine (gAnd_t (gIsI_run (U := "int") rfl rfl)).trans ?_
    unfold numB
    simp only [gChain, gv, List.getElem?_cons_zero, List.getElem?_cons_succ, rb_ok, fLe_int]
    cases q : decide (lo ≤ i) with
    | true => simp only [Bool.true_and]
    | false => simp only [Bool.false_and]
  | non => exact gAnd_f (gIsI_run (U := "NoneType") rfl rfl)
  | str _ => exact gAnd_f (gIsI_run (U := "str") rfl rfl)
  | tup _ => exact gAnd_f (gIsI_run (U := "tuple") rfl rfl)
theorem is_tuple_of_spec (d : D) (k : Nat) (st : Store) (h : bare0 d = true) : G_is_tuple_of [d, .int k] st = some (.ok (.bl (tupB d k)) st) := by
  refine gBody_rt (env := [some d, some (.int k)]) (sRet_run ?_)
  cases d with
  | bl _ => cases h
  | rol _ => cases h
  | ref _ => cases h
  | int i => exact gAnd_f (gIsI_run (U := "int") rfl rfl)
  | non => exact gAnd_f (gIsI_run (U := "NoneType") rfl rfl)
  | str _ => exact gAnd_f (gIsI_run (U := "str") rfl rfl)
  | tup ds =>
    refine (gAnd_t (gIsI_run (U := "tuple") rfl rfl)).trans ?_
    have hl : gFn fLen (aCons (gv 0) aNil) [some (.tup ds), some (.int k)] st = some (.ok (.int ds.length) st) := rfl
    rw [g2_run hl rfl, fEq_int]
    rw [show tupB (.tup ds) k = (ds.length == k) from rfl]
    congr 3
    by_cases q : ds.length = k
    · subst q; simp
    · have q2 : ¬ ((ds.length : Int) = (k : Int)) := by omega
      rw [beq_false_of_ne q, beq_false_of_ne q2]
/-! ### ascending -/
def ltD (x y : D) : Option Bool := match x, y with
  | .int i, .int j => some (decide (i < j))
  | .tup xs, .tup ys => (match asInts xs, asInts ys with
    | some ns, some ms => some (HT.lexLt ns ms)
    | _, _ => none)
  | _, _ => none
theorem fLt_of {x y : D} {b : Bool} {st : Store} (h : ltD x y = some b) : fLt x y st = some (.ok (.bl b) st) := by
  unfold ltD at h
  split at h
  · cases h; rfl
  · rename_i xs ys
    split at h
    · rename_i ns ms h1 h2
      cases h
      show fLtT (.tup xs) (.tup ys) st = _
      unfold fLtT
      dsimp only
      rw [h1, h2]
    · cases h
  · cases h
def zipN (xs ys : List D) : List D := List.zipWith (fun a b => D.tup [a, b]) xs ys
theorem zipAt_zip {xs ys : List D} {i : Nat} : zipAt xs ys i = (zipN xs ys)[i]? := by
  unfold zipAt zipN
  rw [List.getElem?_zipWith]
  cases xs[i]? <;> cases ys[i]? <;> rfl
theorem zipN_length {xs ys : List D} : (zipN xs ys).length = min xs.length ys.length := by unfold zipN; rw [List.length_zipWith]
def ascB (lt : D → D → Bool) (xs : List D) : Bool := (List.zipWith lt xs (xs.drop 1)).all id
theorem fSl_from1 {xs : List D} {st : Store} : fSl (.tup xs) (some 1) none st = some (.ok (.tup (xs.drop 1)) st) := by
  show some (Out.ok (D.tup (cutD xs (some 1) none)) st) = _
  congr 3
  unfold cutD
  rw [show HT.sIx xs.length 0 (some 1) = min 1 xs.length from HT.sIx_nat _ _ 1, HT.sIx_none]
  cases xs with
  | nil => rfl
  | cons a r =>
    have e : min 1 (a :: r).length = 1 := by simp
    rw [e]
    simp
theorem is_ascending_spec (lt : D → D → Bool) (xs : List D) (st : Store) (hlen : xs.length < 1000000) (h : ∀ i a b, xs[i]? = some a → xs[i + 1]? = some b → ltD a b = some (lt a b)) : ∃ st', Pre st st' ∧ G_is_ascending [.tup xs] st = some (.ok (.bl (ascB lt xs)) st') := by
  have hgi : gZip (aCons (gv 0) (aCons (gSl fSl (gv 0) (gPart (gc (.int 1))) gNoPart) aNil)) [some (.tup xs), none, none] st = some (.ok (itZT xs (xs.drop 1), (zipN xs (xs.drop 1)).length + 1) st) := by
    have h2 : gSl fSl (gv 0) (gPart (gc (.int 1))) gNoPart [some (.tup xs), none, none] st = some (.ok (.tup (xs.drop 1)) st) := by
      show fSl (.tup xs) (some 1) none st = _
      exact fSl_from1
    have h3 : aCons (gv 0) (aCons (gSl fSl (gv 0) (gPart (gc (.int 1))) gNoPart) aNil) [some (.tup xs), none, none] st = some (.ok [.tup xs, .tup (xs.drop 1)] st) := by
      unfold aCons
      show rb (some (Out.ok (D.tup xs) st)) _ = _
      rw [rb_ok]
      show rb (rb (gSl fSl (gv 0) (gPart (gc (.int 1))) gNoPart [some (.tup xs), none, none] st) _) _ = _
      rw [h2]; rfl
    unfold gZip
    rw [h3, rb_ok, zipN_length]
  obtain ⟨st', k, p1, r1, c1, _⟩ := gLc_run (gi := gZip (aCons (gv 0) (aCons (gSl fSl (gv 0) (gPart (gc (.int 1))) gNoPart) aNil))) (f := tgTup 2 (tgsCons (tgName 1) (tgsCons (tgName 2) tgsNil))) (tt := ttYes) (e := g2 fLt (gv 1) (gv 2)) (vs := [1, 2]) (fun _ => true)
    (fun d => match d with | .tup [a, b] => .bl (lt a b) | _ => .non) hgi Pre.rfl (by rw [zipN_length]; omega) (fun i s _ => by unfold itZT; rw [zipAt_zip]) (by
      intro d hd s hp
      obtain ⟨i, hi, hd2⟩ := List.mem_iff_getElem.mp hd
      have hd3 : (zipN xs (xs.drop 1))[i]? = some d := by rw [List.getElem?_eq_getElem hi, hd2]
      unfold zipN at hd3
      rw [List.getElem?_zipWith] at hd3
      cases hx : xs[i]? with
      | none => rw [hx] at hd3; cases hd3
      | some a =>
        cases hy : (xs.drop 1)[i]? with
        | none => rw [hx, hy] at hd3; cases hd3
        | some b =>
          rw [hx, hy] at hd3
          cases hd3
          rw [List.getElem?_drop] at hy
          have hl := h i a b hx (by rw [Nat.add_comm]; exact hy)
          exact ⟨[some (.tup xs), some a, some b], s, rfl, rfl, Pre.rfl, fun _ => ⟨s, (g2_run rfl rfl).trans (fLt_of hl), Pre.rfl⟩⟩)
  refine ⟨st', p1, gBody_rt (env := [some (.tup xs), none, none]) (sRet_run ?_)⟩
  rw [gFn1_run r1]
  refine fAll_bl ?_
  rw [c1, List.filter_eq_self.mpr fun _ _ => rfl]
  congr 1
  unfold zipN
  rw [List.map_zipWith, List.map_zipWith]
/-! ### lots, pairs -/
def ltI (x y : D) : Bool := (ltD x y).getD false
def lotB (d : D) (n : Int) : Bool := match d with
  | .tup xs => xs.all (fun x => numB x 0 (n - 1)) && ascB ltI xs
  | _ => false
theorem numB_int {x : D} {a b : Int} (h : numB x a b = true) : ∃ i, x = .int i ∧ a ≤ i ∧ i ≤ b := by
  cases x <;> first | exact absurd h (by decide) | (rename_i i; unfold numB at h; simp only [Bool.and_eq_true, decide_eq_true_eq] at h; exact ⟨i, rfl, h.1, h.2⟩) | (unfold numB at h; cases h)
theorem is_lot_spec (d : D) (n : Int) (st : Store) (h : bare0 d = true) (hb : ∀ xs, d = .tup xs → (∀ x ∈ xs, bare0 x = true) ∧ xs.length < 1000000) : ∃ st', Pre st st' ∧ G_is_lot [d, .int n] st = some (.ok (.bl (lotB d n)) st') := by
  have not_ : ∀ {U : String}, tyD st d = some U → isSub U "tuple" = false → lotB d n = false → ∃ st', Pre st st' ∧ G_is_lot [d, .int n] st = some (.ok (.bl (lotB d n)) st') := by
    intro U ht hs hl
    refine ⟨st, Pre.rfl, ?_⟩
    rw [hl]
    refine gBody_rt (env := [some d, some (.int n), none]) (seqIf_t (st1 := st) ?_ rfl)
    unfold gNotT
    rw [gb1_run (gIsI_run rfl ht), rb_ok, hs]; rfl
  cases d with
  | bl _ => cases h
  | rol _ => cases h
  | ref _ => cases h
  | int i => exact not_ (U := "int") rfl (by decide) rfl
  | non => exact not_ (U := "NoneType") rfl (by decide) rfl
  | str _ => exact not_ (U := "str") rfl (by decide) rfl
  | tup xs =>
    obtain ⟨hx, hlen⟩ := hb xs rfl
    obtain ⟨s1, k, p1, r1, c1, _⟩ := gLc_run (gi := gSeq (gv 0)) (it := itL xs) (f := tgName 2) (tt := ttYes) (e := gCall 3 G_is_number (aCons (gv 2) (aCons (gc (.int 0)) (aCons (g2 fSub (gv 1) (gc (.int 1))) aNil)))) (env := [some (.tup xs), some (.int n), none]) (st := st) (base := st) (ds := xs) (vs := [2]) (fun _ => true) (fun x => .bl (numB x 0 (n - 1)))
      rfl Pre.rfl (by omega) (fun i s _ => rfl) (fun x hm s hp => ⟨[some (.tup xs), some (.int n), some x], s, rfl, rfl, Pre.rfl, fun _ => ⟨s, is_number_spec x 0 (n - 1) s (hx x hm), Pre.rfl⟩⟩)
    rw [List.filter_eq_self.mpr fun _ _ => rfl] at c1
    have a1 : gFn fAll (aCons (gLc (gSeq (gv 0)) (tgName 2) ttYes (gCall 3 G_is_number (aCons (gv 2) (aCons (gc (.int 0)) (aCons (g2 fSub (gv 1) (gc (.int 1))) aNil)))) [2]) aNil) [some (.tup xs), some (.int n), none] st = some (.ok (.bl (xs.all fun x => numB x 0 (n - 1))) s1) := by
      rw [gFn1_run r1]
      have := fAll_bl (bs := xs.map fun x => numB x 0 (n - 1)) (st := s1) (n := k) (by rw [c1, List.map_map]; rfl)
      rw [this, List.all_map]; rfl
    have t0 : ∀ s2 r, gAnd (gFn fAll (aCons (gLc (gSeq (gv 0)) (tgName 2) ttYes (gCall 3 G_is_number (aCons (gv 2) (aCons (gc (.int 0)) (aCons (g2 fSub (gv 1) (gc (.int 1))) aNil)))) [2]) aNil)) (gCall 1 G_is_ascending (aCons (gv 0) aNil)) [some (.tup xs), some (.int n), none] st = some (.ok (.bl r) s2) → G_is_lot [.tup xs, .int n] st = some (.ok (.bl r) s2) := by
      intro s2 r hr
      refine gBody_rt (env := [some (.tup xs), some (.int n), none]) ((seqIf_f (st1 := st) ?_).trans (sRet_run hr))
      unfold gNotT
      rw [gb1_run (gIsI_run (U := "tuple") rfl rfl), rb_ok]; rfl
    cases q : xs.all fun x => numB x 0 (n - 1) with
    | false =>
      rw [q] at a1
      refine ⟨s1, p1, t0 _ _ ?_⟩
      rw [show lotB (.tup xs) n = ((xs.all fun x => numB x 0 (n - 1)) && ascB ltI xs) from rfl, q, Bool.false_and]
      exact gAnd_f a1
    | true =>
      rw [q] at a1
      have hq := List.all_eq_true.mp q
      obtain ⟨s2, p2, r2⟩ := is_ascending_spec ltI xs s1 hlen (fun i a b ha hb => by
        obtain ⟨x, rfl, _⟩ := numB_int (hq a (List.mem_of_getElem? ha))
        obtain ⟨y, rfl, _⟩ := numB_int (hq b (List.mem_of_getElem? hb))
        rfl)
      refine ⟨s2, p1.tr p2, t0 _ _ ?_⟩
      rw [show lotB (.tup xs) n = ((xs.all fun x => numB x 0 (n - 1)) && ascB ltI xs) from rfl, q, Bool.true_and]
      exact (gAnd_t a1).trans ((gCall1_run rfl).trans r2)
end Mk01
set_option Elab.async false
set_option linter.all false
set_option autoImplicit false
set_option maxRecDepth 100000
set_option maxHeartbeats 1000000
namespace Mk01
open PySem PySem.Spec MP
theorem cop_tup {e : D} {xs : List D} (h : cop e = .tup xs) : ∃ ds, e = .tup ds ∧ xs = ds.map cop := by
  cases e with
  | tup ds => unfold cop at h; rw [copAll_eq] at h; cases h; exact ⟨ds, rfl, rfl⟩
  | non => unfold cop at h; cases h
  | bl _ => unfold cop at h; cases h
  | int _ => unfold cop at h; cases h
  | str _ => unfold cop at h; cases h
  | rol _ => unfold cop at h; cases h
  | ref _ => unfold cop at h; cases h
theorem sz_tup {ds : List D} : szD (.tup ds) = 1 + szAll ds := by unfold szD; rfl
theorem sz_mem {ds : List D} {d : D} (h : d ∈ ds) : szD d ≤ szAll ds := by
  induction ds with
  | nil => cases h
  | cons a r ih =>
    unfold szAll
    rcases List.mem_cons.mp h with rfl | h
    · omega
    · have := ih h; omega
theorem is_lot_cop (e : D) (n : Int) (st : Store) (hz : szD e ≤ 200000) : ∃ st', Pre st st' ∧ G_is_lot [cop e, .int n] st = some (.ok (.bl (lotB (cop e) n)) st') :=
  is_lot_spec (cop e) n st (cop_bare e) fun xs h => by
    obtain ⟨ds, rfl, rfl⟩ := cop_tup h
    rw [sz_tup] at hz
    have := szAll_len (ds := ds)
    refine ⟨fun x hx => ?_, by rw [List.length_map]; omega⟩
    obtain ⟨d, _, rfl⟩ := List.mem_map.mp hx
    exact cop_bare d
def pairB (n : Int) (d : D) : Bool := tupB d 2 && lotB d n
def prsB (n : Int) (d : D) : Bool := match d with
  | .tup ps => ps.all (pairB n) && ascB ltI ps
  | _ => false
theorem pairB_int {n : Int} {d : D} (h : pairB n d = true) : ∃ i j, d = .tup [.int i, .int j] ∧ 0 ≤ i ∧ i < j ∧ j ≤ n - 1 := by
  unfold pairB at h
  obtain ⟨h1, h2⟩ := Bool.and_eq_true_iff.mp h
  cases d with
  | tup xs =>
    have hl : xs.length = 2 := eq_of_beq (show (xs.length == 2) = true from h1)
    obtain ⟨a, b, rfl⟩ : ∃ a b, xs = [a, b] := by
      match xs, hl with
      | [a, b], _ => exact ⟨a, b, rfl⟩
    rw [show lotB (.tup [a, b]) n = (([a, b].all fun x => numB x 0 (n - 1)) && ascB ltI [a, b]) from rfl] at h2
    obtain ⟨h3, h4⟩ := Bool.and_eq_true_iff.mp h2
    have h5 := List.all_eq_true.mp h3
    obtain ⟨i, rfl, i1, i2⟩ := numB_int (h5 a (by simp))
    obtain ⟨j, rfl, j1, j2⟩ := numB_int (h5 b (by simp))
    have h6 : decide (i < j) = true := by
      have : ascB ltI [.int i, .int j] = (decide (i < j) && true) := rfl
      rw [this, Bool.and_true] at h4
      exact h4
    exact ⟨i, j, rfl, i1, of_decide_eq_true h6, j2⟩
  | _ => cases h1
theorem are_pairs_spec (e : D) (n : Int) (st : Store) (hz : szD e ≤ 200000) : ∃ st', Pre st st' ∧ G__are_pairs [.int n, cop e] st = some (.ok (.bl (prsB n (cop e))) st') := by
  have not_ : ∀ {U : String}, tyD st (cop e) = some U → isSub U "tuple" = false → prsB n (cop e) = false → ∃ st', Pre st st' ∧ G__are_pairs [.int n, cop e] st = some (.ok (.bl (prsB n (cop e))) st') := by
    intro U ht hs hl
    refine ⟨st, Pre.rfl, ?_⟩
    rw [hl]
    refine gBody_rt (env := [some (.int n), some (cop e), none]) (seqIf_t (st1 := st) ?_ rfl)
    unfold gNotT
    rw [gb1_run (gIsI_run rfl ht), rb_ok, hs]; rfl
  have hbare := cop_bare e
  cases hd : cop e with
  | bl _ => rw [hd] at hbare; cases hbare
  | rol _ => rw [hd] at hbare; cases hbare
  | ref _ => rw [hd] at hbare; cases hbare
  | int i => rw [hd] at not_; exact not_ (U := "int") rfl (by decide) rfl
  | non => rw [hd] at not_; exact not_ (U := "NoneType") rfl (by decide) rfl
  | str _ => rw [hd] at not_; exact not_ (U := "str") rfl (by decide) rfl
  | tup xs =>
    obtain ⟨ds, rfl, rfl⟩ := cop_tup hd
    rw [sz_tup] at hz
    have hlen0 := szAll_len (ds := ds)
    have hlen : (ds.map cop).length < 1000000 := by rw [List.length_map]; omega
    obtain ⟨s1, k, p1, r1, c1, _⟩ := gLc_run (gi := gSeq (gv 1)) (it := itL (ds.map cop)) (f := tgName 2) (tt := ttYes) (e := gAnd (gCall 2 G_is_tuple_of (aCons (gv 2) (aCons (gc (.int 2)) aNil))) (gCall 2 G_is_lot (aCons (gv 2) (aCons (gv 0) aNil)))) (env := [some (.int n), some (.tup (ds.map cop)), none]) (st := st) (base := st) (ds := ds.map cop) (vs := [2]) (fun _ => true) (fun x => .bl (pairB n x))
      rfl Pre.rfl (by omega) (fun i s _ => rfl) (fun x hm s hp => by
        obtain ⟨d, hdm, rfl⟩ := List.mem_map.mp hm
        have hzd := sz_mem hdm
        have ht := is_tuple_of_spec (cop d) 2 s (cop_bare d)
        refine ⟨[some (.int n), some (.tup (ds.map cop)), some (cop d)], s, rfl, rfl, Pre.rfl, fun _ => ?_⟩
        unfold pairB
        cases q : tupB (cop d) 2 with
        | false =>
          rw [q] at ht
          rw [Bool.false_and]
          exact ⟨s, gAnd_f ht, Pre.rfl⟩
        | true =>
          rw [q] at ht
          rw [Bool.true_and]
          obtain ⟨s', p', r'⟩ := is_lot_cop d n s (by omega)
          exact ⟨s', (gAnd_t ht).trans r', p'⟩)
    rw [List.filter_eq_self.mpr fun _ _ => rfl] at c1
    have a1 : gFn fAll (aCons (gLc (gSeq (gv 1)) (tgName 2) ttYes (gAnd (gCall 2 G_is_tuple_of (aCons (gv 2) (aCons (gc (.int 2)) aNil))) (gCall 2 G_is_lot (aCons (gv 2) (aCons (gv 0) aNil)))) [2]) aNil) [some (.int n), some (.tup (ds.map cop)), none] st = some (.ok (.bl ((ds.map cop).all (pairB n))) s1) := by
      rw [gFn1_run r1]
      have := fAll_bl (bs := (ds.map cop).map (pairB n)) (st := s1) (n := k) (by rw [c1]; simp only [List.map_map]; rfl)
      rw [this, List.all_map]; rfl
    have t0 : ∀ s2 r, gAnd (gFn fAll (aCons (gLc (gSeq (gv 1)) (tgName 2) ttYes (gAnd (gCall 2 G_is_tuple_of (aCons (gv 2) (aCons (gc (.int 2)) aNil))) (gCall 2 G_is_lot (aCons (gv 2) (aCons (gv 0) aNil)))) [2]) aNil)) (gCall 1 G_is_ascending (aCons (gv 1) aNil)) [some (.int n), some (.tup (ds.map cop)), none] st = some (.ok (.bl r) s2) → G__are_pairs [.int n, .tup (ds.map cop)] st = some (.ok (.bl r) s2) := by
      intro s2 r hr
      refine gBody_rt (env := [some (.int n), some (.tup (ds.map cop)), none]) ((seqIf_f (st1 := st) ?_).trans (sRet_run hr))
      unfold gNotT
      rw [gb1_run (gIsI_run (U := "tuple") rfl rfl), rb_ok]; rfl
    cases q : (ds.map cop).all (pairB n) with
    | false =>
      rw [q] at a1
      refine ⟨s1, p1, t0 _ _ ?_⟩
      rw [show prsB n (.tup (ds.map cop)) = ((ds.map cop).all (pairB n) && ascB ltI (ds.map cop)) from rfl, q, Bool.false_and]
      exact gAnd_f a1
    | true =>
      rw [q] at a1
      have hq := List.all_eq_true.mp q
      obtain ⟨s2, p2, r2⟩ := is_ascending_spec ltI (ds.map cop) s1 hlen (fun i a b ha hb => by
        obtain ⟨x, y, rfl, _⟩ := pairB_int (hq a (List.mem_of_getElem? ha))
        obtain ⟨z, w, rfl, _⟩ := pairB_int (hq b (List.mem_of_getElem? hb))
        rfl)
      refine ⟨s2, p1.tr p2, t0 _ _ ?_⟩
      rw [show prsB n (.tup (ds.map cop)) = ((ds.map cop).all (pairB n) && ascB ltI (ds.map cop)) from rfl, q, Bool.true_and]
      exact (gAnd_t a1).trans ((gCall1_run rfl).trans r2)
/-! ### what an order is refused by -/
def partOf (t : D) : Option Str := match cop t with
  | .tup [m, p] => (match m with
    | .int n => if numB (.int n) 0 20 = true then (if prsB n p = true then none else some "pairs") else some "many"
    | _ => some "many")
  | _ => some "form"
theorem raise_run {c : Str} {g : G} {env : MP.Env} {st st1 : Store} {d : D} (h : g env st = some (.ok d st1)) : sRaise c (aCons g aNil) env st = some (.xc c [d] env, st1) := by
  unfold sRaise aCons aNil
  rw [h]; rfl
theorem wanted_order_spec (t : D) (st : Store) (h1 : depD t ≤ 100) (h2 : szD t ≤ 200000) (h3 : inSt st t) : ∃ st', Pre st st' ∧ G_wanted_order [t] st = (match partOf t with | none => some (.ok (cop t) st') | some p => some (.ex "BadOrder" [.str p] st')) := by
  obtain ⟨s1, p1, r1⟩ := plain_spec t st h1 h2 h3
  have tu := is_tuple_of_spec (cop t) 2 s1 (cop_bare t)
  have go : ∀ u env2 r, sSeq (sIf (gNotT (gb1 (gCall 2 G_is_tuple_of (aCons (gv 1) (aCons (gc (.int 2)) aNil))))) (sRaise "BadOrder" (aCons (gc (.str "form")) aNil)) sNext) u [some t, some (cop t), none, none] s1 = some (r, env2) → sSeq (sSet 1 (gCall 1 G_plain (aCons (gv 0) aNil))) (sSeq (sIf (gNotT (gb1 (gCall 2 G_is_tuple_of (aCons (gv 1) (aCons (gc (.int 2)) aNil))))) (sRaise "BadOrder" (aCons (gc (.str "form")) aNil)) sNext) u) [some t, none, none, none] st = some (r, env2) := by
    intro u env2 r h
    exact (sSeq_nx (sSet_run ((gCall1_run rfl).trans r1))).trans h
  have form : tupB (cop t) 2 = false → partOf t = some ("form" : Str) → ∃ st', Pre st st' ∧ G_wanted_order [t] st = (match partOf t with | none => some (.ok (cop t) st') | some p => some (.ex "BadOrder" [.str p] st')) := by
    intro hf hp
    rw [hf] at tu
    refine ⟨s1, p1, ?_⟩
    rw [hp]
    refine gBody_xc (env := [some t, none, none, none]) (e := [some t, some (cop t), none, none]) (go _ _ _ (seqIf_x (st1 := s1) ?_ (raise_run rfl)))
    unfold gNotT
    rw [gb1_run tu, rb_ok]; rfl
  have hb := cop_bare t
  cases hc : cop t with
  | bl _ => rw [hc] at hb; cases hb
  | rol _ => rw [hc] at hb; cases hb
  | ref _ => rw [hc] at hb; cases hb
  | int _ => rw [← hc]; exact form (by rw [hc]; rfl) (by unfold partOf; rw [hc])
  | non => rw [← hc]; exact form (by rw [hc]; rfl) (by unfold partOf; rw [hc])
  | str _ => rw [← hc]; exact form (by rw [hc]; rfl) (by unfold partOf; rw [hc])
  | tup xs =>
    match xs, hc with
    | [], hc => rw [← hc]; exact form (by rw [hc]; rfl) (by unfold partOf; rw [hc])
    | [_], hc => rw [← hc]; exact form (by rw [hc]; rfl) (by unfold partOf; rw [hc])
    | a :: b :: c :: r, hc => rw [← hc]; exact form (by rw [hc]; rfl) (by unfold partOf; rw [hc])
    | [m, p], hc =>
      obtain ⟨ds, rfl, e2⟩ := cop_tup hc
      obtain ⟨m', p', rfl⟩ : ∃ m' p', ds = [m', p'] := by
        match ds, e2 with
        | [m', p'], _ => exact ⟨m', p', rfl⟩
      simp only [List.map_cons, List.map_nil, List.cons.injEq, and_true] at e2
      obtain ⟨rfl, rfl⟩ := e2
      rw [hc] at tu go r1
      have hz : szD p' ≤ 200000 := by
        rw [sz_tup] at h2
        unfold szAll at h2; unfold szAll at h2; unfold szAll at h2; omega
      have pre : ∀ u r, u [some (.tup [m', p']), some (.tup [cop m', cop p']), some (cop m'), some (cop p')] s1 = some r → sSeq (sSet 1 (gCall 1 G_plain (aCons (gv 0) aNil))) (sSeq (sIf (gNotT (gb1 (gCall 2 G_is_tuple_of (aCons (gv 1) (aCons (gc (.int 2)) aNil))))) (sRaise "BadOrder" (aCons (gc (.str "form")) aNil)) sNext)
          (sSeq (sAsg (tgTup 2 (tgsCons (tgName 2) (tgsCons (tgName 3) tgsNil))) (gv 1)) u)) [some (.tup [m', p']), none, none, none] st = some r := by
        rintro u ⟨f, e⟩ h
        refine go _ _ _ ((seqIf_f (st1 := s1) ?_).trans ((sSeq_nx (env' := [some (.tup [m', p']), some (.tup [cop m', cop p']), some (cop m'), some (cop p')]) (st' := s1) rfl).trans h))
        unfold gNotT
        rw [gb1_run tu, rb_ok]; rfl
      have nm := is_number_spec (cop m') 0 20 s1 (cop_bare m')
      have nm2 : gNotT (gb1 (gCall 3 G_is_number (aCons (gv 2) (aCons (gc (.int 0)) (aCons (gc (.int 20)) aNil))))) [some (.tup [m', p']), some (.tup [cop m', cop p']), some (cop m'), some (cop p')] s1 = some (.ok (!numB (cop m') 0 20) s1) := by
        unfold gNotT
        rw [gb1_run nm, rb_ok]
      cases q : numB (cop m') 0 20 with
      | false =>
        rw [q] at nm2
        have hp : partOf (.tup [m', p']) = some ("many" : Str) := by
          unfold partOf
          rw [hc]
          cases hm : cop m' with
          | int n => rw [hm] at q; simp only [q]; rfl
          | _ => rfl
        refine ⟨s1, p1, ?_⟩
        rw [hp]
        exact gBody_xc (env := [some (.tup [m', p']), none, none, none]) (e := [some (.tup [m', p']), some (.tup [cop m', cop p']), some (cop m'), some (cop p')]) (pre _ _ (seqIf_x (st1 := s1) nm2 (raise_run rfl)))
      | true =>
        rw [q] at nm2
        obtain ⟨n, hn, _⟩ := numB_int q
        obtain ⟨s2, p2, r2⟩ := are_pairs_spec p' n s1 hz
        have ap : gNotT (gb1 (gCall 2 G__are_pairs (aCons (gv 2) (aCons (gv 3) aNil)))) [some (.tup [m', p']), some (.tup [cop m', cop p']), some (cop m'), some (cop p')] s1 = some (.ok (!prsB n (cop p')) s2) := by
          have : gCall 2 G__are_pairs (aCons (gv 2) (aCons (gv 3) aNil)) [some (.tup [m', p']), some (.tup [cop m', cop p']), some (cop m'), some (cop p')] s1 = some (.ok (.bl (prsB n (cop p'))) s2) := by
            rw [← r2, ← hn]; rfl
          unfold gNotT
          rw [gb1_run this, rb_ok]
        cases q2 : prsB n (cop p') with
        | false =>
          rw [q2] at ap
          have hp : partOf (.tup [m', p']) = some ("pairs" : Str) := by
            unfold partOf
            rw [hc, hn]
            rw [hn] at q
            simp only [q, q2]; rfl
          refine ⟨s2, p1.tr p2, ?_⟩
          rw [hp]
          exact gBody_xc (env := [some (.tup [m', p']), none, none, none]) (e := [some (.tup [m', p']), some (.tup [cop m', cop p']), some (cop m'), some (cop p')]) (pre _ _ ((seqIf_f nm2).trans (seqIf_x (st1 := s2) ap (raise_run rfl))))
        | true =>
          rw [q2] at ap
          have hp : partOf (.tup [m', p']) = none := by
            unfold partOf
            rw [hc, hn]
            rw [hn] at q
            simp only [q, q2]; rfl
          refine ⟨s2, p1.tr p2, ?_⟩
          rw [hp]
          exact gBody_rt (env := [some (.tup [m', p']), none, none, none]) (pre _ _ ((seqIf_f nm2).trans ((seqIf_f ap).trans (sRet_run rfl))))
/-! ### heard -/
theorem aCons1 {g : G} {env : MP.Env} {st st1 : Store} {x : D} (h : g env st = some (.ok x st1)) : aCons g aNil env st = some (.ok [x] st1) := by
  unfold aCons; rw [h]; rfl
theorem aCons1_ex {g : G} {env : MP.Env} {st st1 : Store} {c : Str} {fs : List D} (h : g env st = some (.ex c fs st1)) : aCons g aNil env st = some (.ex c fs st1) := by
  unfold aCons; rw [h]; rfl
end Mk01
set_option Elab.async false
set_option linter.all false
set_option autoImplicit false
set_option maxRecDepth 100000
set_option maxHeartbeats 1000000
namespace Mk01
open PySem PySem.Spec MP
def leP (p q : Nat × Nat) : Bool := decide (p.1 < q.1) || (decide (p.1 = q.1) && decide (p.2 ≤ q.2))
def pdP (p : Nat × Nat) : PyData := .tuple [.int p.1, .int p.2]
theorem dataLe_pair (p q : Nat × Nat) : PySem.W.dataLe false id (pdP p) (pdP q) = leP p q := by
  obtain ⟨a, b⟩ := p
  obtain ⟨c, d⟩ := q
  show (!PyProof.Rows.lexLt PyProof.Rows.itemOrd [Sum.inl 1, Sum.inl (c : Int), Sum.inl 1, Sum.inl (d : Int), Sum.inl 0] [Sum.inl 1, Sum.inl (a : Int), Sum.inl 1, Sum.inl (b : Int), Sum.inl 0]) = leP (a, b) (c, d)
  unfold leP
  simp only [PyProof.Rows.lexLt, PyProof.Rows.itemLt, Int.ofNat_lt]
  by_cases h1 : c < a
  · have h2 : ¬ a < c := by omega
    have h3 : ¬ a = c := by omega
    simp [h1, h2, h3]
  · by_cases h2 : a < c
    · simp [h1, h2]
    · have h3 : a = c := by omega
      subst h3
      by_cases h4 : d < b
      · have h5 : ¬ b ≤ d := by omega
        simp [h4, h5]
      · have h5 : b ≤ d := by omega
        simp [h4, h5]
theorem pd_pair {st : Store} {p : Nat × Nat} : pd st 16 (pairD p) = some (pdP p) := rfl
theorem pds_pairs {st : Store} : ∀ l : List (Nat × Nat), pds st (l.map pairD) = some (l.map pdP)
  | [] => rfl
  | p :: r => by
    have ih := pds_pairs (st := st) r
    unfold pds at ih ⊢
    simp only [List.map_cons, pd_pair, optAll, ih]
theorem alike_pairs (l : List (Nat × Nat)) : alikeB (l.map pdP) = true := by
  unfold alikeB
  rw [List.all_eq_true]
  intro x hx
  rw [List.all_eq_true]
  intro y hy
  obtain ⟨p, _, rfl⟩ := List.mem_map.mp hx
  obtain ⟨q, _, rfl⟩ := List.mem_map.mp hy
  rfl
theorem fSorted_pairs {k : Nat} {l : List (Nat × Nat)} {st : Store} (hc : cellL st k = some (l.map pairD)) : fSorted [.ref k] st = some (.ok (.ref st.length) (st ++ [.lst ((l.mergeSort leP).map pairD)])) := by
  have e : (((l.map pairD).zip (l.map pdP)).mergeSort (PySem.W.dataLe false Prod.snd)).map (·.1) = (l.mergeSort leP).map pairD := by
    have e : (l.map pairD).zip (l.map pdP) = l.map fun p => (pairD p, pdP p) := by
      clear hc
      induction l with
      | nil => rfl
      | cons a r ih => rw [List.map_cons, List.map_cons, List.zip_cons_cons, ih, List.map_cons]
    rw [e, ← List.map_mergeSort (r := leP) (s := PySem.W.dataLe false Prod.snd) (f := fun p => (pairD p, pdP p)) (fun a _ b _ => (dataLe_pair a b).symm), List.map_map]
    rfl
  have s1 : ssortB (l.map pdP) = true := by
    unfold ssortB
    rw [Bool.or_eq_true]
    left
    rw [List.all_eq_true]
    intro x hx
    obtain ⟨p, _, rfl⟩ := List.mem_map.mp hx
    rfl
  have s2 : ((l.map pdP).all fun p => decide (p.depth ≤ 60)) = true := by
    rw [List.all_eq_true]
    intro x hx
    obtain ⟨p, _, rfl⟩ := List.mem_map.mp hx
    rfl
  unfold fSorted
  dsimp only
  rw [if_neg (by rw [isDc_lst hc]; exact Bool.false_ne_true)]
  unfold fSort
  dsimp only
  rw [show listD st (.ref k) = some (l.map pairD) from hc]
  dsimp only
  rw [pds_pairs]
  dsimp only
  rw [if_pos ⟨alike_pairs l, s1, s2⟩, e]
theorem fLen_ref {k : Nat} {xs : List D} {st : Store} (hc : cellL st k = some xs) : fLen [.ref k] st = some (.ok (.int xs.length) st) := by
  unfold fLen
  dsimp only
  rw [show seqD st (.ref k) = some xs from hc]
theorem aConsN {g : G} {ga : GA} {env : MP.Env} {st st1 st2 : Store} {x : D} {xs : List D} (h : g env st = some (.ok x st1)) (h2 : ga env st1 = some (.ok xs st2)) : aCons g ga env st = some (.ok (x :: xs) st2) := by
  unfold aCons; rw [h, rb_ok, h2]; rfl
theorem gTup_run {ga : GA} {env : MP.Env} {st st1 : Store} {xs : List D} (h : ga env st = some (.ok xs st1)) (hl : xs.length ≤ 16777216) : gTup ga env st = some (.ok (.tup xs) st1) := by
  unfold gTup fits; rw [h, rb_ok, if_pos hl]
theorem gLst_run {ga : GA} {env : MP.Env} {st st1 : Store} {xs : List D} (h : ga env st = some (.ok xs st1)) (hl : xs.length ≤ 16777216) : gLst ga env st = some (.ok (.ref st1.length) (st1 ++ [.lst xs])) := by
  unfold gLst fits; rw [h, rb_ok, if_pos hl]
/-! ### comprehensions of two clauses -/
theorem lc2_run {it : ItF} {f : FT} {tt : GT} {gi1 : GI} {f1 : FT} {tt1 : GT} {e : G} {vs1 : List Nat} {env : MP.Env} {base : Store} {ds : List D} (inner : D → List D) (hit : ∀ i st, Pre base st → it i st = some ds[i]?)
    (step : ∀ d ∈ ds, ∀ acc st, Pre base st → acc.length + (inner d).length < 16777216 → ∃ env1 st1 p st2 st3, f d env = some env1 ∧ tt env1 st = some (.ok true st1) ∧ gi1 env1 st1 = some (.ok p st2) ∧ lcGo p.1 f1 tt1 e (wipeD env1 vs1) p.2 0 acc st2 = some (acc ++ inner d, st3) ∧ Pre st st3) :
    ∀ (k i : Nat) (acc : List D) (st : Store), k + i = ds.length → acc.length + ((ds.drop i).flatMap inner).length < 16777216 → Pre base st → ∃ st', Pre st st' ∧ lc2Go it f tt gi1 f1 tt1 e vs1 env (k + 1) i acc st = some (acc ++ (ds.drop i).flatMap inner, st')
  | 0, i, acc, st, hk, ha, hp => by
    refine ⟨st, Pre.rfl, ?_⟩
    have hi : ds[i]? = none := List.getElem?_eq_none (by omega)
    have hd : ds.drop i = [] := List.drop_eq_nil_of_le (by omega)
    simp only [lc2Go, hit i st hp, hi, hd, List.flatMap_nil, List.append_nil]
  | k + 1, i, acc, st, hk, ha, hp => by
    have hl : i < ds.length := by omega
    have hi : ds[i]? = some ds[i] := List.getElem?_eq_getElem hl
    have hd : ds.drop i = ds[i] :: ds.drop (i + 1) := List.drop_eq_getElem_cons hl
    rw [hd, List.flatMap_cons, List.length_append] at ha
    obtain ⟨env1, st1, p, st2, st3, h1, h2, h3, h4, h5⟩ := step ds[i] (List.getElem_mem hl) acc st hp (by omega)
    obtain ⟨st', g1, g2⟩ := lc2_run inner hit step k (i + 1) (acc ++ inner ds[i]) st3 (by omega) (by rw [List.length_append]; omega) (hp.tr h5)
    refine ⟨st', h5.tr g1, ?_⟩
    unfold lc2Go
    simp only [hit i st hp, hi, h1, h2, h3, h4, g2, hd, List.flatMap_cons, List.append_assoc]
/-! ### the closed form -/
def closedL (n : Nat) (ps : List (Nat × Nat)) : List (Nat × Nat) := (List.range n).flatMap fun far => (bits n (am n ps far)).map fun i => (i, far)
def enumD (l : List Nat) : List D := (List.range l.length).map fun (i : Nat) => D.tup [.int i, .int (l.getD i 0 : Nat)]
theorem itE_enum {k : Nat} {l : List Nat} {st : Store} {i : Nat} (hc : cellL st k = some (mI l)) : itE k i st = some (enumD l)[i]? := by
  unfold itE enumD
  rw [hc]
  show some (((mI l)[i]?).map fun d => D.tup [.int (i : Nat), d]) = _
  congr 1
  rw [List.getElem?_map]
  by_cases h : i < l.length
  · rw [List.getElem?_range h, mI_at (List.getElem?_eq_getElem h)]
    show some (D.tup [.int (i : Nat), .int (l[i] : Nat)]) = some (D.tup [.int (i : Nat), .int (l.getD i 0 : Nat)])
    rw [List.getD_eq_getElem?_getD, List.getElem?_eq_getElem h]; rfl
  · rw [List.getElem?_eq_none (by unfold mI; rw [List.length_map]; omega), List.getElem?_eq_none (by rw [List.length_range]; omega)]; rfl
theorem masksM_length {n : Nat} {ps : List (Nat × Nat)} : (masksM n ps).length = n := aheadM_length
theorem bits_len {n m : Nat} : (bits n m).length ≤ n := by
  unfold bits
  exact Nat.le_trans (List.length_filter_le _ _) (by rw [List.length_range]; exact Nat.le_refl _)
theorem flat_len {α β : Type} {f : α → List β} {b : Nat} : ∀ {l : List α}, (∀ x ∈ l, (f x).length ≤ b) → (l.flatMap f).length ≤ l.length * b
  | [], _ => by simp
  | a :: r, h => by
    rw [List.flatMap_cons, List.length_append, List.length_cons, Nat.add_mul]
    have h1 := h a List.mem_cons_self
    have h2 := flat_len (l := r) fun x hx => h x (List.mem_cons_of_mem _ hx)
    omega
def sorted (l : List (Nat × Nat)) : List (Nat × Nat) := l.mergeSort leP
end Mk01
set_option Elab.async false
set_option linter.all false
set_option autoImplicit false
set_option maxRecDepth 100000
set_option maxHeartbeats 1000000
namespace Mk01
open PySem PySem.Spec MP
/-! ### the bare form -/
def btw (n : Nat) (ps : List (Nat × Nat)) (far : Nat) : Nat := (bits n (am n ps far)).foldl (fun m l => m ||| am n ps l) 0
def bmask (n : Nat) (ps : List (Nat × Nat)) (far : Nat) : Nat := andNot (am n ps far) (btw n ps far)
theorem bmask_iff {n : Nat} {ps : List (Nat × Nat)} {far i : Nat} : (bmask n ps far).testBit i = true ↔ (am n ps far).testBit i = true ∧ ¬ ∃ l, l < n ∧ (am n ps far).testBit l = true ∧ (am n ps l).testBit i = true := by
  unfold bmask btw
  rw [andNot_test, Bool.and_eq_true, Bool.not_eq_true', ← Bool.not_eq_true, fold_or_test]
  constructor
  · rintro ⟨h1, h2⟩
    exact ⟨h1, fun ⟨l, hl, h3, h4⟩ => h2 (.inr ⟨l, bits_mem.mpr ⟨hl, h3⟩, h4⟩)⟩
  · rintro ⟨h1, h2⟩
    refine ⟨h1, ?_⟩
    rintro (h3 | ⟨l, hl, h4⟩)
    · simp at h3
    · exact h2 ⟨l, (bits_mem.mp hl).1, (bits_mem.mp hl).2, h4⟩
theorem bmask_small {n : Nat} {ps : List (Nat × Nat)} (ok : OrdOk n ps) {i : Nat} (h : i < n) : bmask n ps i < 2 ^ n := by
  refine Nat.lt_pow_two_of_testBit _ fun j hj => ?_
  cases q : (bmask n ps i).testBit j with
  | false => rfl
  | true =>
    have := am_lt ok i h j (bmask_iff.mp q).1
    omega
def bareL (n : Nat) (ps : List (Nat × Nat)) : List (Nat × Nat) := (List.range n).flatMap fun far => (bits n (bmask n ps far)).map fun i => (i, far)
abbrev bareUp (n : Nat) (ps : List (Nat × Nat)) (k : Nat) : List (Nat × Nat) := (List.range k).flatMap fun far => (bits n (bmask n ps far)).map fun i => (i, far)
theorem bareUp_len {n : Nat} {ps : List (Nat × Nat)} {k : Nat} : (bareUp n ps k).length ≤ k * n := by
  have := flat_len (b := n) (f := fun far => (bits n (bmask n ps far)).map fun i => (i, far)) (l := List.range k) (fun x _ => by rw [List.length_map]; exact bits_len)
  rwa [List.length_range] at this
theorem extend_run {g1 g2 : G} {env : MP.Env} {st st1 : Store} {r m : Nat} {xs ys : List D} (h1 : g1 env st = some (.ok (.ref r) st)) (h2 : g2 env st = some (.ok (.ref m) st1)) (c0 : cellL st r = some xs) (c1 : cellL st1 r = some xs) (c2 : cellL st1 m = some ys) (hl : xs.length + ys.length ≤ 16777216) :
    sExpr (gMethL fExtend g1 (aCons g2 aNil)) env st = some (.nx env, st1.set r (.lst (xs ++ ys))) := by
  have e : listD st (.ref r) = some xs := c0
  unfold sExpr gMethL
  simp only [h1, rb_ok, e, aCons1 h2, fExtend, c1, c2, if_pos hl, sb_ok]
end Mk01
set_option Elab.async false
set_option linter.all false
set_option autoImplicit false
set_option maxRecDepth 100000
set_option maxHeartbeats 1000000
namespace Mk01
open PySem PySem.Spec MP
/-! ### orders are what is told itself -/
def ltP (p q : Nat × Nat) : Prop := p.1 < q.1 ∨ (p.1 = q.1 ∧ p.2 < q.2)
def AscP (ps : List (Nat × Nat)) : Prop := ∀ i a b, ps[i]? = some a → ps[i + 1]? = some b → ltP a b
theorem cop_int {t : D} {i : Int} (h : cop t = .int i) : t = .int i := by
  cases t <;> unfold cop at h <;> first | exact h | cases h
theorem cop_pair {t : D} {i j : Int} (h : cop t = .tup [.int i, .int j]) : t = .tup [.int i, .int j] := by
  obtain ⟨ds, rfl, e⟩ := cop_tup h
  have hl : ds.length = 2 := by
    have := congrArg List.length e
    simpa using this.symm
  match ds, hl, e with
  | [a, b], _, e =>
    simp only [List.map_cons, List.map_nil, List.cons.injEq, and_true] at e
    rw [cop_int e.1.symm, cop_int e.2.symm]
theorem cop_pairs : ∀ {ds : List D} {ps : List (Nat × Nat)}, ds.map cop = ps.map pairD → ds = ps.map pairD
  | [], [], _ => rfl
  | [], _ :: _, h => by cases h
  | _ :: _, [], h => by cases h
  | d :: ds, p :: ps, h => by
    rw [List.map_cons, List.map_cons] at h
    injection h with h1 h2
    rw [List.map_cons, cop_pairs h2, cop_pair h1]
    rfl
theorem cop_ordD {t : D} {n : Nat} {ps : List (Nat × Nat)} (h : cop t = ordD n ps) : t = ordD n ps := by
  obtain ⟨ds, rfl, e⟩ := cop_tup h
  have hl : ds.length = 2 := by
    have := congrArg List.length e
    simpa using this.symm
  match ds, hl, e with
  | [a, b], _, e =>
    simp only [List.map_cons, List.map_nil, List.cons.injEq, and_true] at e
    obtain ⟨cs, rfl, e2⟩ := cop_tup e.2.symm
    rw [cop_int e.1.symm, cop_pairs e2.symm]
    rfl
theorem cop_of_ordD {n : Nat} {ps : List (Nat × Nat)} : cop (ordD n ps) = ordD n ps := by
  have e : cop (.tup (ps.map pairD)) = .tup (ps.map pairD) := by
    unfold cop
    rw [copAll_eq, List.map_map]
    rfl
  unfold ordD
  rw [show cop (.tup [.int n, .tup (ps.map pairD)]) = .tup [cop (.int n), cop (.tup (ps.map pairD))] by simp only [cop, copAll], e]
  simp only [cop]
theorem lexLt_pair {a b : Nat × Nat} : ltI (pairD a) (pairD b) = true ↔ ltP a b := by
  obtain ⟨x, y⟩ := a
  obtain ⟨z, w⟩ := b
  have e : ltI (pairD (x, y)) (pairD (z, w)) = HT.lexLt [(x : Int), (y : Int)] [(z : Int), (w : Int)] := rfl
  rw [e]
  unfold ltP
  rw [HT.lexLt_cons, HT.lexLt_cons, HT.lexLt_nil_nil]
  by_cases h1 : x = z
  · subst h1
    by_cases h2 : y = w
    · subst h2; simp
    · have h3 : ¬ ((y : Int) = w) := by omega
      simp [h3]
  · have h3 : ¬ ((x : Int) = z) := by omega
    simp [h1, h3]
theorem asc_iff {ps : List (Nat × Nat)} : ascB ltI (ps.map pairD) = true ↔ AscP ps := by
  unfold ascB AscP
  rw [List.all_eq_true]
  constructor
  · intro h i a b ha hb
    refine lexLt_pair.mp ?_
    refine h _ (List.mem_of_getElem? (i := i) ?_)
    rw [List.getElem?_zipWith, List.getElem?_map, ha, List.getElem?_drop, Nat.add_comm, List.getElem?_map, hb]
    rfl
  · intro h x hx
    obtain ⟨i, hi, rfl⟩ := List.mem_iff_getElem.mp hx
    have hg : (List.zipWith ltI (ps.map pairD) ((ps.map pairD).drop 1))[i]? = some ((List.zipWith ltI (ps.map pairD) ((ps.map pairD).drop 1))[i]) := List.getElem?_eq_getElem hi
    rw [List.getElem?_zipWith, List.getElem?_map, List.getElem?_drop, Nat.add_comm, List.getElem?_map] at hg
    cases ha : ps[i]? with
    | none => rw [ha] at hg; cases hg
    | some a =>
      cases hb : ps[i + 1]? with
      | none => rw [ha, hb] at hg; cases hg
      | some b =>
        rw [ha, hb] at hg
        have := Option.some.inj hg
        rw [← this]
        exact lexLt_pair.mpr (h i a b ha hb)
theorem pairB_iff {n : Nat} {p : Nat × Nat} : pairB n (pairD p) = true ↔ p.1 < p.2 ∧ p.2 < n := by
  constructor
  · intro h
    obtain ⟨i, j, e, h1, h2, h3⟩ := pairB_int h
    unfold pairD at e
    cases e
    omega
  · intro ⟨h1, h2⟩
    have e : pairB n (pairD p) = (true && (((decide ((0 : Int) ≤ (p.1 : Int)) && decide ((p.1 : Int) ≤ (n : Int) - 1)) && ((decide ((0 : Int) ≤ (p.2 : Int)) && decide ((p.2 : Int) ≤ (n : Int) - 1)) && true)) && (decide ((p.1 : Int) < (p.2 : Int)) && true))) := rfl
    rw [e]
    simp
    omega
theorem partOf_ord {n : Nat} {ps : List (Nat × Nat)} (ok : OrdOk n ps) (asc : AscP ps) : partOf (ordD n ps) = none := by
  unfold partOf
  rw [cop_of_ordD]
  unfold ordD
  dsimp only
  have h1 : numB (.int n) 0 20 = true := by
    unfold numB
    have := ok.le
    simp; omega
  have h2 : prsB n (.tup (ps.map pairD)) = true := by
    show ((ps.map pairD).all (pairB n) && ascB ltI (ps.map pairD)) = true
    rw [asc_iff.mpr asc, Bool.and_true, List.all_map, List.all_eq_true]
    intro p hp
    exact pairB_iff.mpr (ok.in_ p hp)
  rw [if_pos h1, if_pos h2]
theorem toNat_pairs {n : Int} : ∀ {xs : List D}, xs.all (pairB n) = true → ∃ ps : List (Nat × Nat), xs = ps.map pairD
  | [], _ => ⟨[], rfl⟩
  | x :: r, h => by
    rw [List.all_cons, Bool.and_eq_true] at h
    obtain ⟨ps, e⟩ := toNat_pairs h.2
    obtain ⟨i, j, e2, h1, h2, h3⟩ := pairB_int h.1
    refine ⟨(i.toNat, j.toNat) :: ps, ?_⟩
    rw [e, e2, List.map_cons]
    unfold pairD
    have a1 : ((i.toNat : Nat) : Int) = i := by omega
    have a2 : ((j.toNat : Nat) : Int) = j := by omega
    simp only [a1, a2]
/-- what is let by is an order -/
theorem ord_of_part {t : D} (h : partOf t = none) : ∃ n ps, t = ordD n ps ∧ OrdOk n ps ∧ AscP ps := by
  unfold partOf at h
  split at h
  · rename_i m p hc
    split at h
    · rename_i i
      split at h
      · rename_i hn
        split at h
        · rename_i hp
          obtain ⟨i', e, h0, h20⟩ := numB_int hn
          cases e
          cases p with
          | tup xs =>
            have hp2 : (xs.all (pairB i) && ascB ltI xs) = true := hp
            obtain ⟨hp3, hp4⟩ := Bool.and_eq_true_iff.mp hp2
            obtain ⟨ps, rfl⟩ := toNat_pairs hp3
            have hi : ((i.toNat : Nat) : Int) = i := by omega
            refine ⟨i.toNat, ps, cop_ordD ?_, ⟨by omega, fun p hpm => ?_⟩, asc_iff.mp hp4⟩
            · rw [hc]; unfold ordD; rw [hi]
            · have := List.all_eq_true.mp hp3 _ (List.mem_map_of_mem hpm)
              rw [← hi] at this
              exact pairB_iff.mp this
          | _ => cases hp
        · cases h
      · cases h
    · cases h
  · cases h
end Mk01
set_option Elab.async false
set_option linter.all false
set_option autoImplicit false
set_option maxRecDepth 100000
set_option maxHeartbeats 1000000
namespace Mk01
open PySem PySem.Spec MP
theorem sz_pair {p : Nat × Nat} : szD (pairD p) = 3 := by
  unfold pairD
  rw [sz_tup]
  simp [szAll, szD]
theorem sz_pairs : ∀ ps : List (Nat × Nat), szAll (ps.map pairD) = 3 * ps.length
  | [] => rfl
  | p :: r => by
    rw [List.map_cons]
    unfold szAll
    rw [sz_pairs r, sz_pair, List.length_cons]; omega
theorem sz_ord {n : Nat} {ps : List (Nat × Nat)} : szD (ordD n ps) = 3 + 3 * ps.length := by
  unfold ordD
  rw [sz_tup]
  simp only [szAll]
  rw [sz_tup, sz_pairs]
  simp [szD]; omega
theorem dep_pairs : ∀ ps : List (Nat × Nat), depAll (ps.map pairD) ≤ 1
  | [] => by simp [depAll]
  | p :: r => by
    have := dep_pairs r
    rw [List.map_cons]
    unfold depAll
    have e : depD (pairD p) = 1 := by unfold pairD depD; simp [depAll, depD]
    omega
theorem dep_ord {n : Nat} {ps : List (Nat × Nat)} : depD (ordD n ps) ≤ 100 := by
  have := dep_pairs ps
  unfold ordD depD
  simp only [depAll, depD]
  omega
theorem in_pairs {st : Store} : ∀ ps : List (Nat × Nat), inAll st (ps.map pairD)
  | [] => by unfold inAll; trivial
  | p :: r => by
    rw [List.map_cons]
    unfold inAll
    refine ⟨?_, in_pairs r⟩
    unfold pairD inSt
    simp [inAll, inSt]
theorem in_ord {st : Store} {n : Nat} {ps : List (Nat × Nat)} : inSt st (ordD n ps) := by
  unfold ordD inSt
  simp only [inAll, inSt]
  exact ⟨trivial, in_pairs ps, trivial⟩
/-- a good order, not too long -/
structure Good (n : Nat) (ps : List (Nat × Nat)) : Prop where
  ok : OrdOk n ps
  asc : AscP ps
  len : ps.length ≤ 1000
theorem wanted_good {n : Nat} {ps : List (Nat × Nat)} (g : Good n ps) (st : Store) : ∃ st', Pre st st' ∧ G_wanted_order [ordD n ps] st = some (.ok (ordD n ps) st') := by
  obtain ⟨s, p, r⟩ := wanted_order_spec (ordD n ps) st dep_ord (by rw [sz_ord]; have := g.len; omega) in_ord
  rw [partOf_ord g.ok g.asc, cop_of_ordD] at r
  exact ⟨s, p, r⟩
theorem masks_good {n : Nat} {ps : List (Nat × Nat)} (g : Good n ps) (st : Store) {env : MP.Env} {ga : G} {s0 : Store} (h : ga env s0 = some (.ok (ordD n ps) st)) : ∃ st' r, Pre st st' ∧ gCall 1 G_masks_ahead (aCons ga aNil) env s0 = some (.ok (.ref r) st') ∧ cellL st' r = some (mI (masksM n ps)) := by
  obtain ⟨s, r, p, e, c, _⟩ := masks_ahead_spec g.ok st
  exact ⟨s, r, p, (gCall1_run h).trans e, c⟩
theorem pd_masks {st : Store} {k : Nat} {l : List Nat} (hc : cellL st k = some (mI l)) : pd st 16 (.ref k) = some (.list (l.map fun (m : Nat) => PyData.int m)) := by
  show pd st (15 + 1) (.ref k) = _
  rw [pd, hc]
  have e : optAll ((mI l).map (pd st 15)) = some (l.map fun (m : Nat) => PyData.int m) := by
    clear hc
    unfold mI
    induction l with
    | nil => rfl
    | cons a r ih =>
      simp only [List.map_cons, pd, optAll] at ih ⊢
      rw [ih]
  show (optAll ((mI l).map (pd st 15))).map PyData.list = _
  rw [e]; rfl
theorem eqv_ints : ∀ l k : List Nat, PyData.eqvAll (l.map fun (m : Nat) => PyData.int m) (k.map fun (m : Nat) => PyData.int m) = decide (l = k)
  | [], [] => by simp [PyData.eqvAll]
  | [], b :: k => by simp [PyData.eqvAll]
  | a :: l, [] => by simp [PyData.eqvAll]
  | a :: l, b :: k => by
    rw [List.map_cons, List.map_cons]
    unfold PyData.eqvAll
    rw [eqv_ints l k]
    have e : PyData.eqv (.int (a : Int)) (.int (b : Int)) = decide (a = b) := by
      show ((a : Int) == (b : Int)) = _
      by_cases h : a = b
      · subst h; simp
      · have : ¬ ((a : Int) = b) := by omega
        rw [beq_false_of_ne this, decide_eq_false h]
    rw [e, ← Bool.decide_and]
    simp
theorem shaped_ints (l : List Nat) : SeqAt.shaped (.list (l.map fun (m : Nat) => PyData.int m)) = true := by
  unfold SeqAt.shaped
  rw [Bool.and_eq_true]
  constructor
  · induction l with
    | nil => rfl
    | cons a r ih =>
      rw [List.map_cons]
      simp only [PyData.canLay0, PyData.canLayAll0, Bool.true_and] at ih ⊢
      exact ih
  · have e : PyData.depthAll (l.map fun (m : Nat) => PyData.int m) = 0 := by
      induction l with
      | nil => rfl
      | cons a r ih =>
        rw [List.map_cons]
        simp only [PyData.depthAll, PyData.depth, ih]; rfl
    simp only [PyData.depth, e]
    rfl
end Mk01
set_option Elab.async false
set_option linter.all false
set_option autoImplicit false
set_option maxRecDepth 100000
set_option maxHeartbeats 1000000
namespace Mk01
open PySem PySem.Spec MP
open L2 (Key)
/-! ### a dict used as a set -/
def ins (ks : List Nat) (k : Nat) : List Nat := if k ∈ ks then ks else ks ++ [k]
def kvD (ks : List Nat) : List (Key × D) := ks.map fun (k : Nat) => (Sum.inl (k : Int), D.bl true)
theorem putD_ins (k : Nat) : ∀ ks : List Nat, putD (kvD ks) (.inl (k : Int)) (.bl true) = kvD (ins ks k)
  | [] => rfl
  | a :: r => by
    have ih := putD_ins k r
    show (if (Sum.inl (a : Int) : Key) = Sum.inl (k : Int) then (Sum.inl (a : Int), D.bl true) :: kvD r else (Sum.inl (a : Int), D.bl true) :: putD (kvD r) (.inl (k : Int)) (.bl true)) = _
    by_cases h : a = k
    · subst h
      rw [if_pos rfl]
      unfold ins
      rw [if_pos List.mem_cons_self]
      rfl
    · rw [if_neg (fun z => h (by injection z with z; omega)), ih]
      unfold ins
      by_cases h2 : k ∈ r
      · rw [if_pos h2, if_pos (List.mem_cons_of_mem _ h2)]; rfl
      · rw [if_neg h2, if_neg (fun z => by
          rcases List.mem_cons.mp z with z | z
          · exact h z.symm
          · exact h2 z)]
        rfl
theorem ins_mem {ks : List Nat} {k x : Nat} : x ∈ ins ks k ↔ x ∈ ks ∨ x = k := by
  unfold ins
  by_cases h : k ∈ ks
  · rw [if_pos h]
    constructor
    · exact .inl
    · rintro (q | rfl)
      · exact q
      · exact h
  · rw [if_neg h]; simp
theorem ins_nodup {ks : List Nat} {k : Nat} (h : ks.Nodup) : (ins ks k).Nodup := by
  unfold ins
  by_cases q : k ∈ ks
  · rw [if_pos q]; exact h
  · rw [if_neg q, List.nodup_append]
    refine ⟨h, by simp, fun x hx y hy => ?_⟩
    simp at hy; subst hy
    rintro rfl; exact q hx
theorem insAll_mem {x : Nat} : ∀ (l ks : List Nat), x ∈ l.foldl ins ks ↔ x ∈ ks ∨ x ∈ l
  | [], ks => by simp
  | a :: r, ks => by rw [List.foldl_cons, insAll_mem r, ins_mem]; simp [or_assoc]
theorem insAll_nodup : ∀ (l : List Nat) {ks : List Nat}, ks.Nodup → (l.foldl ins ks).Nodup
  | [], ks, h => h
  | a :: r, ks, h => by rw [List.foldl_cons]; exact insAll_nodup r (ins_nodup h)
theorem nodup_small : ∀ {n : Nat} {ks : List Nat}, ks.Nodup → (∀ x ∈ ks, x < n) → ks.length ≤ n
  | 0, [], _, _ => Nat.le_refl _
  | 0, a :: r, _, h => absurd (h a List.mem_cons_self) (Nat.not_lt_zero _)
  | n + 1, ks, h, hb => by
    by_cases q : n ∈ ks
    · have h1 : (ks.erase n).length ≤ n := nodup_small (h.erase n) fun x hx => by
        have h2 := (List.Nodup.mem_erase_iff h).mp hx
        have := hb x h2.2
        omega
      rw [List.length_erase_of_mem q] at h1
      have : 0 < ks.length := List.length_pos_of_mem q
      omega
    · have := nodup_small h fun x hx => by
        have := hb x hx
        have : x ≠ n := fun z => q (z ▸ hx)
        show x < n
        omega
      omega
def dctAt (st : Store) (d : Nat) (ks : List Nat) : Prop := st[d]? = some (.dct (kvD ks))
theorem dctAt.cellD {st : Store} {d : Nat} {ks : List Nat} (h : dctAt st d ks) : cellD st d = some (kvD ks) := by
  unfold MP.cellD; rw [h]
theorem dctAt.isDc {st : Store} {d : Nat} {ks : List Nat} (h : dctAt st d ks) : isDc st (.ref d) = true := by
  show (MP.cellD st d).isSome = true
  rw [h.cellD]
  rfl
theorem nodupK_kvD : ∀ {ks : List Nat}, ks.Nodup → nodupK (kvD ks) = true
  | [], _ => rfl
  | a :: r, h => by
    rw [List.nodup_cons] at h
    show (!((kvD r).any fun q => decide (q.1 = (Sum.inl (a : Int) : Key))) && nodupK (kvD r)) = true
    rw [nodupK_kvD h.2, Bool.and_true, Bool.not_eq_true', ← Bool.not_eq_true, List.any_eq_true]
    rintro ⟨q, hq, e⟩
    obtain ⟨x, hx, rfl⟩ := List.mem_map.mp hq
    have e2 := of_decide_eq_true e
    injection e2 with e3
    have : x = a := by omega
    exact h.1 (this ▸ hx)
theorem setD_run {go gi : G} {env : MP.Env} {st : Store} {d k : Nat} {ks : List Nat} (ho : go env st = some (.ok (.ref d) st)) (hi : gi env st = some (.ok (.int k) st)) (h : dctAt st d ks) (nd : ks.Nodup) (hl : ks.length < 16777216) :
    sSetSub go gi (gc (.bl true)) env st = some (.nx env, st.set d (.dct (kvD (ins ks k)))) := by
  unfold sSetSub
  rw [show gc (.bl true) env st = some (.ok (.bl true) st) from rfl, sb_ok, ho, sb_ok, hi, sb_ok]
  have e : fSetA (.ref d) (.int k) (.bl true) st = some (st.set d (.dct (kvD (ins ks k)))) := by
    unfold fSetA
    rw [if_pos h.isDc]
    unfold fSetK
    dsimp only
    rw [h.cellD]
    show (if (kvD ks).length < 16777216 ∧ nodupK (kvD ks) = true then some (st.set d (.dct (putD (kvD ks) (.inl (k : Int)) (.bl true)))) else none) = _
    rw [if_pos ⟨by unfold kvD; rw [List.length_map]; exact hl, nodupK_kvD nd⟩, putD_ins]
  rw [e]
theorem keyInts_kvD : ∀ ks : List Nat, keyInts (kvD ks) = some (ks.map fun (k : Nat) => (k : Int))
  | [] => rfl
  | a :: r => by
    show (match keyInts (kvD r) with | some l => some ((a : Int) :: l) | none => none) = _
    rw [keyInts_kvD r]; rfl
theorem bits_sorted {n m : Nat} : ((bits n m).map fun (k : Nat) => (k : Int)).Pairwise (· ≤ ·) := by
  rw [List.pairwise_map]
  unfold bits
  refine List.Pairwise.filter _ ?_
  refine List.Pairwise.imp ?_ List.pairwise_lt_range
  intro a b h; omega
theorem bits_nodup {n m : Nat} : (bits n m).Nodup := by
  unfold bits
  exact List.Pairwise.filter _ List.nodup_range
theorem sorted_is_bits {n m : Nat} {ks : List Nat} (h : ks.Nodup) (e : ∀ x, x ∈ ks ↔ x ∈ bits n m) : (ks.map fun (k : Nat) => (k : Int)).mergeSort (fun a b => decide (a ≤ b)) = (bits n m).map fun (k : Nat) => (k : Int) :=
  (sort_ints_one (List.Perm.map _ ((List.perm_ext_iff_of_nodup bits_nodup h).mpr fun x => (e x).symm)) bits_sorted).symm
theorem fSorted_set {n m d : Nat} {ks : List Nat} {st : Store} (hc : dctAt st d ks) (h : ks.Nodup) (e : ∀ x, x ∈ ks ↔ x ∈ bits n m) (hn : n ≤ 20) : fSorted [.ref d] st = some (.ok (.ref st.length) (st ++ [.lst ((bits n m).map fun (k : Nat) => D.int k)])) := by
  unfold fSorted
  dsimp only
  rw [if_pos hc.isDc]
  unfold fSortDI
  dsimp only
  rw [hc.cellD]
  dsimp only
  rw [keyInts_kvD]
  dsimp only
  have hl : (ks.map fun (k : Nat) => (k : Int)).length < 64 := by
    rw [List.length_map]
    have := nodup_small (n := n) h fun x hx => (bits_mem.mp ((e x).mp hx)).1
    omega
  rw [if_pos hl, sorted_is_bits h e, List.map_map]
  rfl
end Mk01
set_option Elab.async false
set_option linter.all false
set_option autoImplicit false
set_option maxRecDepth 100000
set_option maxHeartbeats 1000000
namespace Mk01
open PySem PySem.Spec MP
open L2 (Key)
/-! ### what the law tells to be ahead -/
def near (ps : List (Nat × Nat)) (i : Nat) : List Nat := (ps.filter fun p => p.2 == i).map (·.1)
def stepK (n : Nat) (ps : List (Nat × Nat)) (ks : List Nat) (one : Nat) : List Nat := (bits n (am n ps one)).foldl ins (ins ks one)
def allK (n : Nat) (ps : List (Nat × Nat)) (l : List Nat) : List Nat := l.foldl (stepK n ps) []
theorem near_mem {ps : List (Nat × Nat)} {i x : Nat} : x ∈ near ps i ↔ (x, i) ∈ ps := by
  unfold near
  rw [List.mem_map]
  constructor
  · rintro ⟨⟨a, b⟩, h, rfl⟩
    rw [List.mem_filter] at h
    have : b = i := eq_of_beq h.2
    subst this
    exact h.1
  · intro h
    exact ⟨(x, i), List.mem_filter.mpr ⟨h, by simp⟩, rfl⟩
theorem stepK_mem {n : Nat} {ps : List (Nat × Nat)} {ks : List Nat} {one x : Nat} : x ∈ stepK n ps ks one ↔ x ∈ ks ∨ x = one ∨ x ∈ bits n (am n ps one) := by
  unfold stepK
  rw [insAll_mem, ins_mem, or_assoc]
theorem allK_mem_aux {n : Nat} {ps : List (Nat × Nat)} {x : Nat} : ∀ (l ks : List Nat), x ∈ l.foldl (stepK n ps) ks ↔ x ∈ ks ∨ ∃ one ∈ l, x = one ∨ x ∈ bits n (am n ps one)
  | [], ks => by simp
  | a :: r, ks => by
    rw [List.foldl_cons, allK_mem_aux r, stepK_mem]
    simp [or_assoc]
theorem allK_nodup_aux {n : Nat} {ps : List (Nat × Nat)} : ∀ (l : List Nat) {ks : List Nat}, ks.Nodup → (l.foldl (stepK n ps) ks).Nodup
  | [], ks, h => h
  | a :: r, ks, h => by
    rw [List.foldl_cons]
    exact allK_nodup_aux r (insAll_nodup _ (ins_nodup h))
theorem allK_bits {n : Nat} {ps : List (Nat × Nat)} {i : Nat} (ok : OrdOk n ps) (h : i < n) : ∀ x, x ∈ allK n ps (near ps i) ↔ x ∈ bits n (am n ps i) := by
  intro x
  unfold allK
  rw [allK_mem_aux, bits_mem, am_iff ok h]
  constructor
  · rintro (q | ⟨one, h1, rfl | h2⟩)
    · cases q
    · have := ok.in_ _ (near_mem.mp h1)
      exact ⟨by dsimp only at this; omega, .inl (near_mem.mp h1)⟩
    · exact ⟨(bits_mem.mp h2).1, .inr ⟨one, near_mem.mp h1, (bits_mem.mp h2).2⟩⟩
  · rintro ⟨hx, q | ⟨l, h1, h2⟩⟩
    · exact .inr ⟨x, near_mem.mpr q, .inl rfl⟩
    · exact .inr ⟨l, near_mem.mpr h1, .inr (bits_mem.mpr ⟨hx, h2⟩)⟩
theorem Pre.dct {a b : Store} (h : Pre a b) {d : Nat} {ks : List Nat} (e : dctAt a d ks) : dctAt b d ks := h.at e
theorem dctAt_set {st : Store} {d : Nat} {ks k2 : List Nat} (h : dctAt st d ks) : dctAt (st.set d (.dct (kvD k2))) d k2 := by
  unfold dctAt at h ⊢
  rw [List.getElem?_set_self (List.getElem?_eq_some_iff.mp h).1]
abbrev envA (o : D) (q : Nat) (x2 x3 x5 x6 x7 : Option D) : MP.Env := [some o, some (.ref q), x2, x3, none, x5, x6, x7]
theorem near_len {ps : List (Nat × Nat)} {i : Nat} (h : ps.length ≤ 1000) : (near ps i).length ≤ 1000 := by
  unfold near
  rw [List.length_map]
  exact Nat.le_trans (List.length_filter_le _ _) h
theorem near_run {n i : Nat} {ps : List (Nat × Nat)} (hl : ps.length ≤ 1000) (q : Nat) (x3 x5 x6 x7 : Option D) (s : Store) : ∃ s2 r, Pre s s2 ∧ gLc (gSeq (g2 fIx (gv 0) (gc (.int 1)))) (tgName 4) (gb1 (g2 fEq (g2 fIx (gv 4) (gc (.int 1))) (gv 2))) (g2 fIx (gv 4) (gc (.int 0))) [4] (envA (ordD n ps) q (some (.int i)) x3 x5 x6 x7) s = some (.ok (.ref r) s2) ∧ cellL s2 r = some (mI (near ps i)) := by
  obtain ⟨s2, r, p1, r1, c1, _⟩ := gLc_run (gi := gSeq (g2 fIx (gv 0) (gc (.int 1)))) (it := itL (ps.map pairD)) (f := tgName 4) (tt := gb1 (g2 fEq (g2 fIx (gv 4) (gc (.int 1))) (gv 2))) (e := g2 fIx (gv 4) (gc (.int 0))) (env := envA (ordD n ps) q (some (.int i)) x3 x5 x6 x7) (st := s) (base := s) (ds := ps.map pairD) (vs := [4])
    (fun d => match d with | .tup [_, .int b] => b == (i : Int) | _ => false) (fun d => match d with | .tup [a, _] => a | _ => .non) (gSeq_tup ((g2_run (x := ordD n ps) (y := .int 1) rfl rfl).trans (fIx_tup (i := 1) rfl))) Pre.rfl (by rw [List.length_map]; omega) (fun j s _ => rfl) (by
      intro d hd s' hp
      obtain ⟨p, _, rfl⟩ := List.mem_map.mp hd
      refine ⟨[some (ordD n ps), some (.ref q), some (.int i), x3, some (pairD p), x5, x6, x7], s', rfl, ?_, Pre.rfl, fun _ => ⟨s', (g2_run (x := pairD p) (y := .int 0) rfl rfl).trans (fIx_tup (i := 0) rfl), Pre.rfl⟩⟩
      have h1 : g2 fIx (gv 4) (gc (.int 1)) [some (ordD n ps), some (.ref q), some (.int i), x3, some (pairD p), x5, x6, x7] s' = some (.ok (.int p.2) s') := (g2_run (x := pairD p) (y := .int 1) rfl rfl).trans (fIx_tup (i := 1) rfl)
      exact gb1_run ((g2_run h1 rfl).trans fEq_int))
  refine ⟨s2, r, p1, r1, ?_⟩
  rw [c1]
  unfold near mI
  rw [List.filter_map, List.map_map, List.map_map]
  congr 1
  have e : (fun d : D => match d with | .tup [_, .int b] => b == (i : Int) | _ => false) ∘ pairD = fun p => p.2 == i := by
    funext p
    show ((p.2 : Int) == (i : Int)) = (p.2 == i)
    by_cases h : p.2 = i
    · rw [h]; simp
    · have : ¬ ((p.2 : Int) = (i : Int)) := by omega
      rw [beq_false_of_ne h, beq_false_of_ne this]
  rw [e]
  rfl
end Mk01
set_option Elab.async false
set_option linter.all false
set_option autoImplicit false
set_option maxRecDepth 100000
set_option maxHeartbeats 1000000
namespace Mk01
open PySem PySem.Spec MP
open L2 (Key)
def inBound (n : Nat) (ks : List Nat) : Prop := ks.Nodup ∧ ∀ x ∈ ks, x < n
theorem inBound.len {n : Nat} {ks : List Nat} (h : inBound n ks) (hn : n ≤ 20) : ks.length < 16777216 := by
  have := nodup_small h.1 h.2
  omega
theorem inBound.ins {n k : Nat} {ks : List Nat} (h : inBound n ks) (hk : k < n) : inBound n (ins ks k) := ⟨ins_nodup h.1, fun x hx => by
  rcases ins_mem.mp hx with q | rfl
  · exact h.2 x q
  · exact hk⟩
theorem inBound.all {n : Nat} : ∀ {l ks : List Nat}, inBound n ks → (∀ x ∈ l, x < n) → inBound n (l.foldl Mk01.ins ks)
  | [], ks, h, _ => h
  | a :: r, ks, h, hl => by
    rw [List.foldl_cons]
    exact inBound.all (h.ins (hl a List.mem_cons_self)) fun x hx => hl x (List.mem_cons_of_mem _ hx)
theorem stepK_bound {n one : Nat} {ps : List (Nat × Nat)} {ks : List Nat} (h : inBound n ks) (ho : one < n) : inBound n (stepK n ps ks one) := (h.ins ho).all fun x hx => (bits_mem.mp hx).1
theorem allK_bound {n : Nat} {ps : List (Nat × Nat)} : ∀ {l ks : List Nat}, inBound n ks → (∀ x ∈ l, x < n) → inBound n (l.foldl (stepK n ps) ks)
  | [], ks, h, _ => h
  | a :: r, ks, h, hl => by
    rw [List.foldl_cons]
    exact allK_bound (stepK_bound h (hl a List.mem_cons_self)) fun x hx => hl x (List.mem_cons_of_mem _ hx)
/-- what is found so far -/
structure Found (n : Nat) (ps : List (Nat × Nat)) (q k : Nat) (s : Store) (refs : List Nat) : Prop where
  len : refs.length = k
  cell : cellL s q = some (refs.map D.ref)
  each : ∀ j r, refs[j]? = some r → q ≠ r ∧ cellL s r = some (mI (bits n (am n ps j)))
theorem Found.pre {n : Nat} {ps : List (Nat × Nat)} {q k : Nat} {s s' : Store} {refs : List Nat} (h : Found n ps q k s refs) (p : Pre s s') : Found n ps q k s' refs :=
  ⟨h.len, p.cell h.cell, fun j r e => ⟨(h.each j r e).1, p.cell (h.each j r e).2⟩⟩
/-- one of those near: it, and what is ahead of it -/
theorem one_run {n i one d q : Nat} {ps : List (Nat × Nat)} {s0 s : Store} {refs ks : List Nat} (hn : n ≤ 20) (hone : one < i) (hi : i < n) (F : Found n ps q i s0 refs) (hp : Pre s0 s) (hd0 : s0.length ≤ d) (hd : dctAt s d ks) (hb : inBound n ks) (x3 x7 : Option D) :
    ∃ x7' s', sSeq (sSetSub (gv 5) (gv 6) (gc (.bl true))) (sFor (gSeq (g2 fIx (gv 1) (gv 6))) (tgName 7) (sSetSub (gv 5) (gv 7) (gc (.bl true)))) (envA (ordD n ps) q (some (.int i)) x3 (some (.ref d)) (some (.int one)) x7) s =
      some (.nx (envA (ordD n ps) q (some (.int i)) x3 (some (.ref d)) (some (.int one)) x7'), s') ∧ Pre s0 s' ∧ dctAt s' d (stepK n ps ks one) := by
  have h1 := setD_run (go := gv 5) (gi := gv 6) (env := envA (ordD n ps) q (some (.int i)) x3 (some (.ref d)) (some (.int one)) x7) (st := s) (d := d) (k := one) (ks := ks) rfl rfl hd hb.1 (hb.len hn)
  have p1 : Pre s0 (s.set d (.dct (kvD (ins ks one)))) := hp.set hd0 _
  have d1 : dctAt (s.set d (.dct (kvD (ins ks one)))) d (ins ks one) := dctAt_set hd
  have b1 : inBound n (ins ks one) := hb.ins (by omega)
  have F1 := F.pre p1
  obtain ⟨ro, hr⟩ : ∃ ro, refs[one]? = some ro := ⟨_, List.getElem?_eq_getElem (by rw [F.len]; exact hone)⟩
  have hat : (refs.map D.ref)[one]? = some (.ref ro) := by rw [List.getElem?_map, hr]; rfl
  have hcell := (F1.each one _ hr).2
  have hlenb : (mI (bits n (am n ps one))).length = (bits n (am n ps one)).length := by unfold mI; rw [List.length_map]
  have L := sFor_run (gi := gSeq (g2 fIx (gv 1) (gv 6))) (f := tgName 7) (body := sSetSub (gv 5) (gv 7) (gc (.bl true))) (it := itC ro) (ds := mI (bits n (am n ps one))) (env := envA (ordD n ps) q (some (.int i)) x3 (some (.ref d)) (some (.int one)) x7) (st := s.set d (.dct (kvD (ins ks one)))) (base := s.set d (.dct (kvD (ins ks one))))
    (fun m env s' => ∃ x7, env = envA (ordD n ps) q (some (.int i)) x3 (some (.ref d)) (some (.int one)) x7 ∧ Pre s0 s' ∧ dctAt s' d (((bits n (am n ps one)).take m).foldl ins (ins ks one)))
    (gSeq_ref ((g2_run (x := .ref q) (y := .int one) rfl rfl).trans (fIx_ref F1.cell hat)) hcell) ⟨x7, rfl, p1, d1⟩
    (by rintro m env s' ⟨_, rfl, hp', _⟩; exact itC_pre (F.each one _ hr).2 hp') (by
      rintro m x env s' hx ⟨y7, rfl, hp', hd'⟩
      unfold mI at hx
      rw [List.getElem?_map] at hx
      obtain ⟨l, hl, rfl⟩ := Option.map_eq_some_iff.mp hx
      have hb' : inBound n (((bits n (am n ps one)).take m).foldl ins (ins ks one)) := b1.all fun x hx => (bits_mem.mp (List.mem_of_mem_take hx)).1
      refine ⟨envA (ordD n ps) q (some (.int i)) x3 (some (.ref d)) (some (.int one)) (some (.int l)), _, _, rfl, .inl (setD_run (go := gv 5) (gi := gv 7) (d := d) (k := l) rfl rfl hd' hb'.1 (hb'.len hn)), some (.int l), rfl, hp'.set hd0 _, ?_⟩
      rw [take_succ_get hl, List.foldl_append]
      exact dctAt_set hd')
  obtain ⟨env', s', r1, y7, rfl, hp', hd'⟩ := L
  rw [hlenb, List.take_length] at hd'
  exact ⟨y7, s', (sSeq_nx h1).trans r1, hp', hd'⟩
theorem aheads_fresh {n : Nat} {ps : List (Nat × Nat)} (ok : OrdOk n ps) (hl : ps.length ≤ 1000) (st : Store) : ∃ st' refs, Pre st st' ∧ G__law_aheads [ordD n ps] st = some (.ok (.ref st.length) st') ∧ Found n ps st.length n st' refs ∧ ∀ r ∈ refs, st.length < r := by
  have hn := ok.le
  have hp0 : Pre st (st ++ [.lst []]) := List.prefix_append _ _
  have hg : gRng1 (aCons (g2 fIx (gv 0) (gc (.int 0))) aNil) (envA (ordD n ps) st.length none none none none none) (st ++ [.lst []]) = some (.ok (itR 0 n, (mpTo n).length + 1) (st ++ [.lst []])) := by
    rw [mpTo_length]
    exact gRng1_run (aCons1 ((g2_run (x := ordD n ps) (y := .int 0) rfl rfl).trans (fIx_tup (i := 0) rfl))) (by omega)
  have L := sFor_run (gi := gRng1 (aCons (g2 fIx (gv 0) (gc (.int 0))) aNil)) (f := tgName 2)
    (body := sSeq (sSet 3 (gLc (gSeq (g2 fIx (gv 0) (gc (.int 1)))) (tgName 4) (gb1 (g2 fEq (g2 fIx (gv 4) (gc (.int 1))) (gv 2))) (g2 fIx (gv 4) (gc (.int 0))) [4]))
      (sSeq (sSet 5 gD0) (sSeq (sFor (gSeq (gv 3)) (tgName 6) (sSeq (sSetSub (gv 5) (gv 6) (gc (.bl true))) (sFor (gSeq (g2 fIx (gv 1) (gv 6))) (tgName 7) (sSetSub (gv 5) (gv 7) (gc (.bl true))))))
        (sExpr (gMethL fAppend (gv 1) (aCons (gFn fSorted (aCons (gv 5) aNil)) aNil))))))
    (fun i env s => ∃ x2 x3 x5 x6 x7 refs, env = envA (ordD n ps) st.length x2 x3 x5 x6 x7 ∧ Pre st s ∧ Found n ps st.length i s refs ∧ ∀ r ∈ refs, st.length < r) hg ⟨none, none, none, none, none, [], rfl, hp0, ⟨rfl, cellL_new, fun j r e => by simp at e⟩, by simp⟩
    (fun i env s _ => itR_mpTo) (by
      rintro i d env s hd ⟨x2, x3, x5, x6, x7, refs, rfl, hp, F, Fr⟩
      rw [mpTo_at] at hd
      have hi : i < n := by
        by_cases q : i < n
        · exact q
        · rw [if_neg q] at hd; cases hd
      rw [if_pos hi] at hd
      cases hd
      obtain ⟨s2, nr, p2, r2, c2⟩ := near_run (n := n) (i := i) hl st.length x3 x5 x6 x7 s
      have p3 : Pre s2 (s2 ++ [.dct []]) := List.prefix_append _ _
      have d3 : dctAt (s2 ++ [.dct []]) s2.length [] := by unfold dctAt; simp; rfl
      have hnl := near_len (i := i) hl
      have hmn : (mI (near ps i)).length = (near ps i).length := by unfold mI; rw [List.length_map]
      have L2 := sFor_run (gi := gSeq (gv 3)) (f := tgName 6) (body := sSeq (sSetSub (gv 5) (gv 6) (gc (.bl true))) (sFor (gSeq (g2 fIx (gv 1) (gv 6))) (tgName 7) (sSetSub (gv 5) (gv 7) (gc (.bl true))))) (it := itC nr) (ds := mI (near ps i))
        (env := envA (ordD n ps) st.length (some (.int i)) (some (.ref nr)) (some (.ref s2.length)) x6 x7) (st := s2 ++ [.dct []]) (base := s2 ++ [.dct []])
        (fun j env s' => ∃ x6 x7, env = envA (ordD n ps) st.length (some (.int i)) (some (.ref nr)) (some (.ref s2.length)) x6 x7 ∧ Pre s2 s' ∧ dctAt s' s2.length (allK n ps ((near ps i).take j)))
        (gSeq_ref rfl (p3.cell c2)) ⟨x6, x7, rfl, p3, d3⟩ (by rintro j env s' ⟨_, _, rfl, hp', _⟩; exact itC_pre c2 hp') (by
          rintro j x env s' hx ⟨y6, y7, rfl, hp', hd'⟩
          unfold mI at hx
          rw [List.getElem?_map] at hx
          obtain ⟨one, ho, rfl⟩ := Option.map_eq_some_iff.mp hx
          have hone : one < i := (ok.in_ _ (near_mem.mp (List.mem_of_getElem? ho))).1
          have hb : inBound n (allK n ps ((near ps i).take j)) := allK_bound ⟨List.nodup_nil, fun x hx => by cases hx⟩ fun x hx => by
            have := (ok.in_ _ (near_mem.mp (List.mem_of_mem_take hx))).1
            dsimp only at this
            omega
          obtain ⟨z7, s'', e1, e2, e3⟩ := one_run hn hone hi (F.pre p2) hp' (Nat.le_refl _) hd' hb (some (.ref nr)) y7
          refine ⟨envA (ordD n ps) st.length (some (.int i)) (some (.ref nr)) (some (.ref s2.length)) (some (.int one)) y7, _, s'', rfl, .inl e1, some (.int one), z7, rfl, e2, ?_⟩
          rw [take_succ_get ho]
          unfold allK
          rw [List.foldl_append]
          exact e3)
      obtain ⟨env4, s4, r4, y6, y7, rfl, p4, d4⟩ := L2
      rw [hmn, List.take_length] at d4
      have hnd : (allK n ps (near ps i)).Nodup := allK_nodup_aux _ List.nodup_nil
      have hsort := fSorted_set d4 hnd (allK_bits ok hi) hn
      have F4 := F.pre (p2.tr p4)
      have p5 : Pre s4 (s4 ++ [.lst ((bits n (am n ps i)).map fun (k : Nat) => D.int k)]) := List.prefix_append _ _
      have hq2 : st.length < s4.length := by
        have h1 := hp.length_le
        have h2 := cellL_lt F.cell
        have h3 := (p2.tr p4).length_le
        omega
      have hq : st.length ≠ s4.length := Nat.ne_of_lt hq2
      refine ⟨envA (ordD n ps) st.length (some (.int i)) x3 x5 x6 x7, envA (ordD n ps) st.length (some (.int i)) (some (.ref nr)) (some (.ref s2.length)) y6 y7,
        List.set (s4 ++ [Cell.lst ((bits n (am n ps i)).map fun (k : Nat) => D.int k)]) st.length (Cell.lst (refs.map D.ref ++ [D.ref s4.length])), rfl, .inl ?_, some (.int i), some (.ref nr), some (.ref s2.length), y6, y7, refs ++ [s4.length], rfl, (((hp.tr p2).tr p4).tr p5).set (Nat.le_refl _) _, ?_, fun r hr => (List.mem_append.mp hr).elim (Fr r) fun z => by rw [List.mem_singleton] at z; rw [z]; exact hq2⟩
      · refine (sSeq_nx (env' := envA (ordD n ps) st.length (some (.int i)) (some (.ref nr)) x5 x6 x7) (st' := s2) (sSet_run r2)).trans ?_
        refine (sSeq_nx (env' := envA (ordD n ps) st.length (some (.int i)) (some (.ref nr)) (some (.ref s2.length)) x6 x7) (st' := s2 ++ [.dct []]) rfl).trans ?_
        refine (sSeq_nx r4).trans ?_
        have e1 : listD s4 (.ref st.length) = some (refs.map D.ref) := F4.cell
        have e2 : gFn fSorted (aCons (gv 5) aNil) (envA (ordD n ps) st.length (some (.int i)) (some (.ref nr)) (some (.ref s2.length)) y6 y7) s4 = _ := (gFn1_run (x := .ref s2.length) (st1 := s4) rfl).trans hsort
        have e3 : cellL (s4 ++ [.lst ((bits n (am n ps i)).map fun (k : Nat) => D.int k)]) st.length = some (refs.map D.ref) := p5.cell F4.cell
        have e4 : (refs.map D.ref).length < 16777216 := by rw [List.length_map, F.len]; omega
        unfold sExpr gMethL
        simp only [show gv 1 (envA (ordD n ps) st.length (some (.int i)) (some (.ref nr)) (some (.ref s2.length)) y6 y7) s4 = some (.ok (.ref st.length) s4) from rfl, rb_ok, e1, aCons1 e2, fAppend, e3, if_pos e4, sb_ok]
      · refine ⟨by rw [List.length_append, F.len]; rfl, ?_, fun j r e => ?_⟩
        · rw [cellL_set (p5.cell F4.cell), List.map_append]; rfl
        · by_cases hj : j < refs.length
          · rw [List.getElem?_append_left hj] at e
            have := F4.each j r e
            exact ⟨this.1, by rw [cellL_set_ne (Ne.symm this.1)]; exact p5.cell this.2⟩
          · have hj2 : j = refs.length := by
              have := (List.getElem?_eq_some_iff.mp e).1
              rw [List.length_append] at this
              simp at this
              omega
            subst hj2
            rw [List.getElem?_append_right (Nat.le_refl _), Nat.sub_self] at e
            cases e
            refine ⟨hq, ?_⟩
            rw [cellL_set_ne (Ne.symm hq), F.len]
            exact cellL_new)
  obtain ⟨env1, s1, r1, x2, x3, x5, x6, x7, refs, rfl, p1, F, Fr⟩ := L
  rw [mpTo_length] at F
  refine ⟨s1, refs, p1, gBody_rt (env := [some (ordD n ps), none, none, none, none, none, none, none]) ?_, F, Fr⟩
  unfold S__law_aheads
  refine (sSeq_nx (env' := envA (ordD n ps) st.length none none none none none) (st' := st ++ [.lst []]) rfl).trans ?_
  refine (sSeq_nx r1).trans ?_
  exact sRet_run rfl
theorem aheads_spec {n : Nat} {ps : List (Nat × Nat)} (ok : OrdOk n ps) (hl : ps.length ≤ 1000) (st : Store) : ∃ st' q refs, Pre st st' ∧ G__law_aheads [ordD n ps] st = some (.ok (.ref q) st') ∧ Found n ps q n st' refs :=
  let ⟨s, r, a, b, c, _⟩ := aheads_fresh ok hl st
  ⟨s, _, r, a, b, c⟩
end Mk01
set_option Elab.async false
set_option linter.all false
set_option autoImplicit false
set_option maxRecDepth 100000
set_option maxHeartbeats 1000000
namespace Mk01
open PySem PySem.Spec MP
theorem closedL_mem {n : Nat} {ps : List (Nat × Nat)} {i far : Nat} : (i, far) ∈ closedL n ps ↔ far < n ∧ i < n ∧ (am n ps far).testBit i = true := by
  unfold closedL
  rw [List.mem_flatMap]
  constructor
  · rintro ⟨f, hf, h⟩
    obtain ⟨j, hj, e⟩ := List.mem_map.mp h
    cases e
    exact ⟨List.mem_range.mp hf, bits_mem.mp hj⟩
  · rintro ⟨h1, h2, h3⟩
    exact ⟨far, List.mem_range.mpr h1, List.mem_map.mpr ⟨i, bits_mem.mpr ⟨h2, h3⟩, rfl⟩⟩
theorem bareL_mem {n : Nat} {ps : List (Nat × Nat)} {i far : Nat} : (i, far) ∈ bareL n ps ↔ far < n ∧ i < n ∧ (bmask n ps far).testBit i = true := by
  unfold bareL
  rw [List.mem_flatMap]
  constructor
  · rintro ⟨f, hf, h⟩
    obtain ⟨j, hj, e⟩ := List.mem_map.mp h
    cases e
    exact ⟨List.mem_range.mp hf, bits_mem.mp hj⟩
  · rintro ⟨h1, h2, h3⟩
    exact ⟨far, List.mem_range.mpr h1, List.mem_map.mpr ⟨i, bits_mem.mpr ⟨h2, h3⟩, rfl⟩⟩
theorem flat_nodup {n : Nat} (g : Nat → Nat) : ((List.range n).flatMap fun far => (bits n (g far)).map fun i => (i, far)).Nodup := by
  unfold List.Nodup
  rw [List.pairwise_flatMap]
  refine ⟨fun far _ => ?_, ?_⟩
  · rw [List.pairwise_map]
    exact bits_nodup.imp fun h z => h (by cases z; rfl)
  · refine List.nodup_range.imp fun {a b} hab x hx y hy => ?_
    obtain ⟨i, _, rfl⟩ := List.mem_map.mp hx
    obtain ⟨j, _, rfl⟩ := List.mem_map.mp hy
    rintro z
    cases z
    exact hab rfl
theorem leP_trans (a b c : Nat × Nat) (h1 : leP a b = true) (h2 : leP b c = true) : leP a c = true := by
  obtain ⟨a1, a2⟩ := a
  obtain ⟨b1, b2⟩ := b
  obtain ⟨c1, c2⟩ := c
  unfold leP at *
  simp only [Bool.or_eq_true, Bool.and_eq_true, decide_eq_true_eq] at *
  omega
theorem leP_total (a b : Nat × Nat) : (leP a b || leP b a) = true := by
  obtain ⟨a1, a2⟩ := a
  obtain ⟨b1, b2⟩ := b
  unfold leP
  simp only [Bool.or_eq_true, Bool.and_eq_true, decide_eq_true_eq]
  omega
theorem ltP_of {a b : Nat × Nat} (h : leP a b = true) (n : a ≠ b) : ltP a b := by
  obtain ⟨a1, a2⟩ := a
  obtain ⟨b1, b2⟩ := b
  unfold leP at h
  unfold ltP
  simp only [Bool.or_eq_true, Bool.and_eq_true, decide_eq_true_eq] at h
  by_cases q : a1 < b1
  · exact .inl q
  · have : a1 = b1 ∧ a2 ≤ b2 := by omega
    refine .inr ⟨this.1, ?_⟩
    have : a2 ≠ b2 := fun z => n (by rw [this.1, z])
    dsimp only
    omega
theorem sorted_asc {l : List (Nat × Nat)} (h : l.Nodup) : AscP (l.mergeSort leP) := by
  have h1 := List.pairwise_mergeSort leP_trans leP_total l
  have h2 : (l.mergeSort leP).Nodup := (List.mergeSort_perm l leP).nodup_iff.mpr h
  intro i a b ha hb
  obtain ⟨hi, rfl⟩ := List.getElem?_eq_some_iff.mp ha
  obtain ⟨hj, rfl⟩ := List.getElem?_eq_some_iff.mp hb
  refine ltP_of (List.pairwise_iff_getElem.mp h1 i (i + 1) hi hj (by omega)) fun z => ?_
  have := List.pairwise_iff_getElem.mp h2 i (i + 1) hi hj (by omega)
  exact this z
theorem good_sorted {n : Nat} (hn : n ≤ 20) (g : Nat → Nat) (hg : ∀ far, far < n → ∀ i, (g far).testBit i = true → i < far) : Good n (((List.range n).flatMap fun far => (bits n (g far)).map fun i => (i, far)).mergeSort leP) := by
  refine ⟨⟨hn, fun p hp => ?_⟩, sorted_asc (flat_nodup g), ?_⟩
  · have hp2 := (List.mergeSort_perm _ leP).mem_iff.mp hp
    obtain ⟨far, hf, h⟩ := List.mem_flatMap.mp hp2
    obtain ⟨i, hi, rfl⟩ := List.mem_map.mp h
    exact ⟨hg far (List.mem_range.mp hf) i (bits_mem.mp hi).2, List.mem_range.mp hf⟩
  · rw [(List.mergeSort_perm _ leP).length_eq]
    have h1 := flat_len (b := n) (f := fun far => (bits n (g far)).map fun i => (i, far)) (l := List.range n) (fun x _ => by rw [List.length_map]; exact bits_len)
    rw [List.length_range] at h1
    have : n * n ≤ 20 * 20 := Nat.mul_le_mul hn hn
    omega
theorem good_closed {n : Nat} {ps : List (Nat × Nat)} (ok : OrdOk n ps) : Good n ((closedL n ps).mergeSort leP) := good_sorted ok.le (am n ps) fun far hf i hi => am_lt ok far hf i hi
theorem good_bare {n : Nat} {ps : List (Nat × Nat)} (ok : OrdOk n ps) : Good n ((bareL n ps).mergeSort leP) := good_sorted ok.le (bmask n ps) fun far hf i hi => am_lt ok far hf i (bmask_iff.mp hi).1
theorem nat_ext {a b : Nat} (h : ∀ j, a.testBit j = true ↔ b.testBit j = true) : a = b := Nat.eq_of_testBit_eq fun j => by
  have := h j
  cases q : a.testBit j <;> cases r : b.testBit j <;> simp_all
theorem am_closed {n : Nat} {ps : List (Nat × Nat)} (ok : OrdOk n ps) : ∀ i, i < n → am n ((closedL n ps).mergeSort leP) i = am n ps i := by
  have gc := (good_closed ok).ok
  intro i
  induction i using Nat.strongRecOn with
  | ind i ih =>
    intro h
    refine nat_ext fun j => ?_
    have hm : ∀ l, (l, i) ∈ (closedL n ps).mergeSort leP ↔ (am n ps i).testBit l = true := fun l => by
      rw [(List.mergeSort_perm _ leP).mem_iff, closedL_mem]
      exact ⟨fun z => z.2.2, fun z => ⟨h, by have := am_lt ok i h l z; omega, z⟩⟩
    rw [am_iff gc h]
    constructor
    · rintro (a | ⟨l, h1, h2⟩)
      · exact (hm j).mp a
      · have hl := (hm l).mp h1
        have hli := am_lt ok i h l hl
        rw [ih l hli (by omega)] at h2
        exact am_trans ok i h l j hl h2
    · intro a
      exact .inl ((hm j).mpr a)
theorem bare_step {n : Nat} {ps : List (Nat × Nat)} (ok : OrdOk n ps) {i : Nat} (h : i < n) : ∀ (d j : Nat), i - j ≤ d → (am n ps i).testBit j = true → ∃ l, (bmask n ps i).testBit l = true ∧ (l = j ∨ (am n ps l).testBit j = true)
  | 0, j, hd, hj => by have := am_lt ok i h j hj; omega
  | d + 1, j, hd, hj => by
    cases q : (bmask n ps i).testBit j with
    | true => exact ⟨j, q, .inl rfl⟩
    | false =>
      have hno : ¬ ((bmask n ps i).testBit j = true) := by rw [q]; exact Bool.false_ne_true
      rw [bmask_iff] at hno
      have hex : ∃ l, l < n ∧ (am n ps i).testBit l = true ∧ (am n ps l).testBit j = true := Classical.byContradiction fun z => hno ⟨hj, z⟩
      obtain ⟨l, hl, h1, h2⟩ := hex
      have hjl := am_lt ok l hl j h2
      obtain ⟨k, k1, k2⟩ := bare_step ok h d l (by have := am_lt ok i h l h1; omega) h1
      refine ⟨k, k1, .inr ?_⟩
      rcases k2 with rfl | k2
      · exact h2
      · have hk : k < n := by have := am_lt ok i h k (bmask_iff.mp k1).1; omega
        exact am_trans ok k hk l j k2 h2
theorem am_bare {n : Nat} {ps : List (Nat × Nat)} (ok : OrdOk n ps) : ∀ i, i < n → am n ((bareL n ps).mergeSort leP) i = am n ps i := by
  have gb := (good_bare ok).ok
  intro i
  induction i using Nat.strongRecOn with
  | ind i ih =>
    intro h
    refine nat_ext fun j => ?_
    have hm : ∀ l, (l, i) ∈ (bareL n ps).mergeSort leP ↔ (bmask n ps i).testBit l = true := fun l => by
      rw [(List.mergeSort_perm _ leP).mem_iff, bareL_mem]
      exact ⟨fun z => z.2.2, fun z => ⟨h, by have := am_lt ok i h l (bmask_iff.mp z).1; omega, z⟩⟩
    rw [am_iff gb h]
    constructor
    · rintro (a | ⟨l, h1, h2⟩)
      · exact (bmask_iff.mp ((hm j).mp a)).1
      · have hl := (bmask_iff.mp ((hm l).mp h1)).1
        have hli := am_lt ok i h l hl
        rw [ih l hli (by omega)] at h2
        exact am_trans ok i h l j hl h2
    · intro a
      obtain ⟨l, h1, rfl | h2⟩ := bare_step ok h _ j (Nat.le_refl _) a
      · exact .inl ((hm l).mpr h1)
      · have hli := am_lt ok i h l (bmask_iff.mp h1).1
        refine .inr ⟨l, (hm l).mpr h1, ?_⟩
        rw [ih l hli (by omega)]
        exact h2
theorem masks_ext {n : Nat} {ps qs : List (Nat × Nat)} (h : ∀ i, i < n → am n ps i = am n qs i) : masksM n ps = masksM n qs := by
  apply List.ext_getElem?
  intro i
  by_cases hi : i < n
  · have := h i hi
    unfold am at this
    rw [List.getD_eq_getElem?_getD, List.getD_eq_getElem?_getD, List.getElem?_eq_getElem (by rw [masksM_length]; exact hi), List.getElem?_eq_getElem (by rw [masksM_length]; exact hi)] at this
    rw [List.getElem?_eq_getElem (by rw [masksM_length]; exact hi), List.getElem?_eq_getElem (by rw [masksM_length]; exact hi)]
    exact congrArg some this
  · rw [List.getElem?_eq_none (by rw [masksM_length]; omega), List.getElem?_eq_none (by rw [masksM_length]; omega)]
theorem masks_closed {n : Nat} {ps : List (Nat × Nat)} (ok : OrdOk n ps) : masksM n ((closedL n ps).mergeSort leP) = masksM n ps := masks_ext (am_closed ok)
theorem masks_bare {n : Nat} {ps : List (Nat × Nat)} (ok : OrdOk n ps) : masksM n ((bareL n ps).mergeSort leP) = masksM n ps := masks_ext (am_bare ok)
theorem am_of_masks {n : Nat} {ps qs : List (Nat × Nat)} (h : masksM n ps = masksM n qs) (i : Nat) : am n ps i = am n qs i := by unfold am; rw [h]
theorem bareL_masks {n : Nat} {ps qs : List (Nat × Nat)} (h : masksM n ps = masksM n qs) : bareL n ps = bareL n qs := by
  have e : am n ps = am n qs := funext (am_of_masks h)
  unfold bareL bmask btw
  rw [e]
theorem closedL_masks {n : Nat} {ps qs : List (Nat × Nat)} (h : masksM n ps = masksM n qs) : closedL n ps = closedL n qs := by
  have e : am n ps = am n qs := funext (am_of_masks h)
  unfold closedL
  rw [e]
theorem bare_of_closed {n : Nat} {ps : List (Nat × Nat)} (ok : OrdOk n ps) : bareL n ((closedL n ps).mergeSort leP) = bareL n ps := bareL_masks (masks_closed ok)
/-- alike just if the closed forms are the same -/
theorem alike_iff {n m : Nat} {ps qs : List (Nat × Nat)} (ok : OrdOk n ps) (ok2 : OrdOk m qs) : masksM n ps = masksM m qs ↔ (m = n ∧ (closedL m qs).mergeSort leP = (closedL n ps).mergeSort leP) := by
  constructor
  · intro h
    have hl := congrArg List.length h
    rw [masksM_length, masksM_length] at hl
    subst hl
    exact ⟨rfl, by rw [closedL_masks h]⟩
  · rintro ⟨rfl, h⟩
    refine masks_ext fun i hi => nat_ext fun j => ?_
    have e : ∀ p, p ∈ closedL m qs ↔ p ∈ closedL m ps := fun p => by
      rw [← (List.mergeSort_perm (closedL m qs) leP).mem_iff, h, (List.mergeSort_perm (closedL m ps) leP).mem_iff]
    have e2 := e (j, i)
    rw [closedL_mem, closedL_mem] at e2
    constructor
    · intro a
      exact (e2.mpr ⟨hi, by have := am_lt ok i hi j a; omega, a⟩).2.2
    · intro a
      exact (e2.mp ⟨hi, by have := am_lt ok2 i hi j a; omega, a⟩).2.2
end Mk01
set_option Elab.async false
set_option linter.all false
set_option autoImplicit false
set_option maxRecDepth 100000
set_option maxHeartbeats 1000000
namespace Mk01
open PySem PySem.Spec MP
theorem forS_run {it : ItF} {f : FT} {body : GS} {ds : List D} {st : Store} {v : D} (good : D → Bool) (Inv : MP.Env → Prop) (hit : ∀ i, it i st = some ds[i]?)
    (step : ∀ (i : Nat) (d : D) (env : MP.Env), ds[i]? = some d → Inv env → ∃ env1, f d env = some env1 ∧ (good d = true → ∃ env2, body env1 st = some (.nx env2, st) ∧ Inv env2) ∧ (good d = false → body env1 st = some (.rt v, st))) :
    ∀ (k i : Nat) (env : MP.Env), k + i = ds.length → Inv env → ((ds.drop i).all good = true → ∃ env', forGo it f body (k + 1) i env st = some (.nx env', st) ∧ Inv env') ∧ ((ds.drop i).all good = false → forGo it f body (k + 1) i env st = some (.rt v, st))
  | 0, i, env, hk, hi => by
    have hd : ds.drop i = [] := List.drop_eq_nil_of_le (by omega)
    have hn : ds[i]? = none := List.getElem?_eq_none (by omega)
    rw [hd]
    refine ⟨fun _ => ⟨env, ?_, hi⟩, fun h => by simp at h⟩
    simp only [forGo, hit, hn]
  | k + 1, i, env, hk, hi => by
    have hl : i < ds.length := by omega
    have he : ds[i]? = some ds[i] := List.getElem?_eq_getElem hl
    have hd : ds.drop i = ds[i] :: ds.drop (i + 1) := List.drop_eq_getElem_cons hl
    obtain ⟨env1, h1, h2, h3⟩ := step i _ env he hi
    rw [hd, List.all_cons]
    cases hg : good ds[i] with
    | false =>
      rw [Bool.false_and]
      refine ⟨fun h => (by cases h), fun _ => ?_⟩
      unfold forGo
      simp only [hit, he, h1, h3 hg]
    | true =>
      rw [Bool.true_and]
      obtain ⟨env2, h4, h5⟩ := h2 hg
      obtain ⟨a, b⟩ := forS_run good Inv hit step k (i + 1) env2 (by omega) h5
      refine ⟨fun h => ?_, fun h => ?_⟩
      · obtain ⟨env', e1, e2⟩ := a h
        refine ⟨env', ?_, e2⟩
        unfold forGo
        simp only [hit, he, h1, h4, e1]
      · unfold forGo
        simp only [hit, he, h1, h4, b h]
theorem gNotT_run {t : GT} {env : MP.Env} {st st1 : Store} {b : Bool} (h : t env st = some (.ok b st1)) : gNotT t env st = some (.ok (!b) st1) := by
  unfold gNotT; rw [h]; rfl
theorem gOrT_t {t u : GT} {env : MP.Env} {st st1 : Store} (h : t env st = some (.ok true st1)) : gOrT t u env st = some (.ok true st1) := by
  unfold gOrT; rw [h]; rfl
theorem gOrT_f {t u : GT} {env : MP.Env} {st st1 : Store} (h : t env st = some (.ok false st1)) : gOrT t u env st = u env st1 := by
  unfold gOrT; rw [h]; rfl
theorem anyF_nat (l : Nat) : ∀ xs : List Nat, anyF (.int l) (mI xs) = some (decide (l ∈ xs))
  | [] => rfl
  | a :: r => by
    have ih := anyF_nat l r
    unfold mI at ih ⊢
    rw [List.map_cons]
    unfold anyF
    rw [ih]
    show some (((a : Int) == (l : Int)) || decide (l ∈ r)) = _
    congr 1
    by_cases h : a = l
    · subst h; simp
    · have h2 : ¬ ((a : Int) = (l : Int)) := by omega
      have h3 : ¬ l = a := fun z => h z.symm
      rw [beq_false_of_ne h2, Bool.false_or]
      simp [h3]
theorem fIn_nat {l r : Nat} {xs : List Nat} {st : Store} (hc : cellL st r = some (mI xs)) : fIn false (.int l) (.ref r) st = some (.ok (.bl (decide (l ∈ xs))) st) := by
  unfold fIn
  rw [if_neg (by rw [isDc_lst hc]; exact Bool.false_ne_true), if_pos (show isFl (.int l) = true from rfl)]
  unfold fInF
  rw [show seqD st (.ref r) = some (mI xs) from hc]
  dsimp only
  rw [anyF_nat]
  rfl
theorem fEq_nats {a b : Nat} {l k : List Nat} {st : Store} (h1 : cellL st a = some (mI l)) (h2 : cellL st b = some (mI k)) : fEq (.ref a) (.ref b) st = some (.ok (.bl (decide (l = k))) st) := by
  unfold fEq fEqG
  rw [pd_masks h1, pd_masks h2]
  dsimp only
  rw [if_pos ⟨shaped_ints _, shaped_ints _⟩]
  show some (Out.ok (D.bl (PyData.eqvAll _ _)) st) = _
  rw [eqv_ints]
end Mk01
set_option Elab.async false
set_option linter.all false
set_option autoImplicit false
set_option maxRecDepth 100000
set_option maxHeartbeats 1000000
namespace Mk01
open PySem PySem.Spec MP
/-! ### draws -/
theorem fMul_int {i j : Int} {st : Store} (h : i.natAbs < 2 ^ 64 ∨ j.natAbs < 2 ^ 64) : fMul (.int i) (.int j) st = some (.ok (.int (i * j)) st) := by
  show (if cMul i j = true then some (Out.ok (D.int (i * j)) st) else none) = _
  have e : cMul i j = true := by
    unfold cMul
    rw [Bool.or_eq_true, decide_eq_true_iff, decide_eq_true_iff]
    exact h
  rw [e]; rfl
theorem fMod_int {i j : Int} {st : Store} (h : 0 < j) : fMod (.int i) (.int j) st = some (.ok (.int (i % j)) st) := by
  show (if cPos i j = true then some (Out.ok (D.int (i % j)) st) else none) = _
  have e : cPos i j = true := by
    unfold cPos
    exact decide_eq_true h
  rw [e]; rfl
theorem fDiv_int {i j : Int} {st : Store} (h : 0 < j) (h2 : j < 1073741824) : fDiv (.int i) (.int j) st = some (.ok (.int (i / j)) st) := by
  show (if cDiv i j = true then some (Out.ok (D.int (i / j)) st) else none) = _
  have e : cDiv i j = true := by
    unfold cDiv
    rw [Bool.and_eq_true, decide_eq_true_iff, decide_eq_true_iff]
    exact ⟨h, h2⟩
  rw [e]; rfl
theorem law_mixed_spec (a b : Int) (st : Store) (hb : 0 ≤ b) (hb2 : b < 2 ^ 41) : ∃ r : Int, G__law_mixed [.int a, .int b] st = some (.ok (.int r) st) ∧ 0 ≤ r ∧ r < 2147483629 := by
  have h0 : 0 ≤ a % 2147483647 := Int.emod_nonneg _ (by decide)
  have h1 : a % 2147483647 < 2147483647 := Int.emod_lt_of_pos _ (by decide)
  generalize hx : a % 2147483647 = x at h0 h1
  refine ⟨(x * (48271 + 2 * b * b) + 69621 * b + 11) % 2147483647 * 69621 % 2147483629, ?_, Int.emod_nonneg _ (by decide), Int.emod_lt_of_pos _ (by decide)⟩
  refine gBody_rt (env := [some (.int a), some (.int b)]) ?_
  unfold S__law_mixed
  have e1 : g2 fMod (gFn fInt (aCons (gv 0) aNil)) (gc (.int 2147483647)) [some (.int a), some (.int b)] st = some (.ok (.int x) st) := by
    rw [g2_run (x := .int a) (y := .int 2147483647) rfl rfl, fMod_int (by decide), hx]
  refine (sSeq_nx (env' := [some (.int x), some (.int b)]) (st' := st) (sSet_run e1)).trans (sRet_run ?_)
  have e2 : g2 fMul (gc (.int 2)) (gv 1) [some (.int x), some (.int b)] st = some (.ok (.int (2 * b)) st) := (g2_run (x := .int 2) (y := .int b) rfl rfl).trans (fMul_int (.inl (by decide)))
  have e3 : g2 fMul (g2 fMul (gc (.int 2)) (gv 1)) (gv 1) [some (.int x), some (.int b)] st = some (.ok (.int (2 * b * b)) st) := (g2_run (y := .int b) e2 rfl).trans (fMul_int (.inr (by omega)))
  have e4 : g2 fAdd (gc (.int 48271)) (g2 fMul (g2 fMul (gc (.int 2)) (gv 1)) (gv 1)) [some (.int x), some (.int b)] st = some (.ok (.int (48271 + 2 * b * b)) st) := (g2_run (x := .int 48271) rfl e3).trans fAdd_int
  have e5 : g2 fMul (gv 0) (g2 fAdd (gc (.int 48271)) (g2 fMul (g2 fMul (gc (.int 2)) (gv 1)) (gv 1))) [some (.int x), some (.int b)] st = some (.ok (.int (x * (48271 + 2 * b * b))) st) := (g2_run (x := .int x) rfl e4).trans (fMul_int (.inl (by omega)))
  have e6 : g2 fMul (gc (.int 69621)) (gv 1) [some (.int x), some (.int b)] st = some (.ok (.int (69621 * b)) st) := (g2_run (x := .int 69621) (y := .int b) rfl rfl).trans (fMul_int (.inl (by decide)))
  have e7 := (g2_run (f := fAdd) e5 e6).trans fAdd_int
  have e8 := (g2_run (f := fAdd) (gb := gc (.int 11)) (y := .int 11) e7 rfl).trans fAdd_int
  have e9 := (g2_run (f := fMod) (gb := gc (.int 2147483647)) (y := .int 2147483647) e8 rfl).trans (fMod_int (by decide))
  have e10 := (g2_run (f := fMul) (gb := gc (.int 69621)) (y := .int 69621) e9 rfl).trans (fMul_int (.inr (by decide)))
  exact (g2_run (f := fMod) (gb := gc (.int 2147483629)) (y := .int 2147483629) e10 rfl).trans (fMod_int (by decide))
end Mk01
set_option Elab.async false
set_option linter.all false
set_option autoImplicit false
set_option maxRecDepth 100000
set_option maxHeartbeats 1000000
namespace Mk01
open PySem PySem.Spec MP
open L2 (Key)
def stD (c l a : Nat) : List (Key × D) := [(Sum.inr "cells", .ref c), (Sum.inr "lefts", .ref l), (Sum.inr "at", .int a), (Sum.inr "room", .int 0)]
/-- the state of the draws: a dict at s, lists of ints at c and l -/
structure LSt (s c l N : Nat) (st : Store) : Prop where
  nsc : s ≠ c
  nsl : s ≠ l
  ncl : c ≠ l
  dct : ∃ a, a ≤ N ∧ st[s]? = some (.dct (stD c l a))
  lists : ∃ cs ls : List Int, cellL st c = some (cs.map D.int) ∧ cellL st l = some (ls.map D.int) ∧ cs.length = ls.length ∧ 0 < cs.length
theorem look_cells {c l a : Nat} : lookK (stD c l a) (Sum.inr "cells") = some (.ref c) := rfl
theorem look_lefts {c l a : Nat} : lookK (stD c l a) (Sum.inr "lefts") = some (.ref l) := rfl
theorem look_at {c l a : Nat} : lookK (stD c l a) (Sum.inr "at") = some (.int a) := rfl
theorem put_at {c l a b : Nat} : putD (stD c l a) (Sum.inr "at") (.int b) = stD c l b := rfl
theorem nodup_st {c l a : Nat} : nodupK (stD c l a) = true := rfl
theorem fIx_dct {s : Nat} {kvs : List (Key × D)} {x : Str} {d : D} {st : Store} (h : st[s]? = some (.dct kvs)) (hl : lookK kvs (.inr x) = some d) : fIx (.ref s) (.str x) st = some (.ok d st) := by
  have hc : cellD st s = some kvs := by unfold cellD; rw [h]
  unfold fIx
  rw [if_pos (show isDc st (.ref s) = true by show (cellD st s).isSome = true; rw [hc]; rfl)]
  unfold fIxD
  dsimp only
  rw [hc]
  show (lookK kvs (.inr x)).map (fun d => Out.ok d st) = _
  rw [hl]; rfl
theorem setAt_run {s c l a b : Nat} {g : G} {env : MP.Env} {st : Store} (h0 : gv 0 env st = some (.ok (.ref s) st)) (hg : g env st = some (.ok (.int b) st)) (h : st[s]? = some (.dct (stD c l a))) : sSetSub (gv 0) (gc (.str "at")) g env st = some (.nx env, st.set s (.dct (stD c l b))) := by
  have hc : cellD st s = some (stD c l a) := by unfold cellD; rw [h]
  have e : fSetA (.ref s) (.str "at") (.int b) st = some (st.set s (.dct (stD c l b))) := by
    unfold fSetA
    rw [if_pos (show isDc st (.ref s) = true by show (cellD st s).isSome = true; rw [hc]; rfl)]
    unfold fSetK
    dsimp only
    rw [hc]
    show (if (stD c l a).length < 16777216 ∧ nodupK (stD c l a) = true then some (st.set s (.dct (putD (stD c l a) (.inr "at") (.int b)))) else none) = _
    rw [if_pos ⟨by show 4 < 16777216; decide, nodup_st⟩, put_at]
  unfold sSetSub
  rw [hg, sb_ok, h0, sb_ok, show gc (.str "at") env st = some (.ok (.str "at") st) from rfl, sb_ok, e]
theorem setL_run {go gi g : G} {env : MP.Env} {st : Store} {r i : Nat} {xs : List D} {v : D} (ho : go env st = some (.ok (.ref r) st)) (hi : gi env st = some (.ok (.int i) st)) (hg : g env st = some (.ok v st)) (hc : cellL st r = some xs) (hl : i < xs.length) : sSetSub go gi g env st = some (.nx env, st.set r (.lst (xs.set i v))) := by
  have hj : L2.ixN xs.length (i : Int) = some i := by
    unfold L2.ixN
    rw [if_pos (by omega), if_pos (by omega)]; simp
  have e : fSetA (.ref r) (.int i) v st = some (st.set r (.lst (xs.set i v))) := by
    unfold fSetA
    rw [if_neg (by rw [isDc_lst hc]; exact Bool.false_ne_true)]
    unfold fSetL
    simp only [hc, hj]
  unfold sSetSub
  rw [hg, sb_ok, ho, sb_ok, hi, sb_ok, e]
/-- all but the state stays -/
structure Same (s l : Nat) (st st' : Store) : Prop where
  len : st'.length = st.length
  at_ : ∀ i, i ≠ s → i ≠ l → st'[i]? = st[i]?
theorem law_draw_spec {s c l N : Nat} {st : Store} (S : LSt s c l N st) (many : Int) (h1 : 0 < many) (h2 : many < 1073741824) (hN : N < 2 ^ 40) : ∃ (r : Int) (st' : Store), G__law_draw [.ref s, .int many] st = some (.ok (.int r) st') ∧ 0 ≤ r ∧ r < many ∧ LSt s c l (N + 1) st' ∧ Same s l st st' := by
  obtain ⟨nsc, nsl, ncl, ⟨a, ha, hd⟩, cs, ls, hc, hl, hlen, hpos⟩ := S
  have i0 : ∀ (x2 x3 x4 x5 : Option D) (s' : Store), gv 0 [some (.ref s), some (.int many), x2, x3, x4, x5] s' = some (.ok (.ref s) s') := fun _ _ _ _ _ => rfl
  -- the counter goes on
  have e1 : g2 fIx (gv 0) (gc (.str "at")) [some (.ref s), some (.int many), none, none, none, none] st = some (.ok (.int a) st) := (g2_run (x := .ref s) (y := .str "at") rfl rfl).trans (fIx_dct hd look_at)
  have hs1 : s < st.length := (List.getElem?_eq_some_iff.mp hd).1
  generalize hst1 : st.set s (.dct (stD c l (a + 1))) = st1
  have hd1 : st1[s]? = some (.dct (stD c l (a + 1))) := by rw [← hst1, List.getElem?_set_self hs1]
  have hc1 : cellL st1 c = some (cs.map D.int) := by rw [← hst1, cellL_set_ne (Ne.symm nsc)]; exact hc
  have hl1 : cellL st1 l = some (ls.map D.int) := by rw [← hst1, cellL_set_ne (Ne.symm nsl)]; exact hl
  have same1 : Same s l st st1 := ⟨by rw [← hst1]; simp, fun i h _ => by rw [← hst1, List.getElem?_set_ne (Ne.symm h)]⟩
  have e2 : sSetSub (gv 0) (gc (.str "at")) (g2 fAdd (gv 2) (gc (.int 1))) [some (.ref s), some (.int many), some (.int a), none, none, none] st = some (.nx [some (.ref s), some (.int many), some (.int a), none, none, none], st1) := by
    rw [← hst1]
    exact setAt_run rfl ((g2_run (x := .int a) (y := .int 1) rfl rfl).trans fAdd_int) hd
  -- the place
  generalize hp : a % cs.length = p
  have hpl : p < cs.length := by rw [← hp]; exact Nat.mod_lt _ hpos
  have cellsAt : ∀ (x2 x3 x4 x5 : Option D), g2 fIx (gv 0) (gc (.str "cells")) [some (.ref s), some (.int many), x2, x3, x4, x5] st1 = some (.ok (.ref c) st1) := fun _ _ _ _ => (g2_run (x := .ref s) (y := .str "cells") rfl rfl).trans (fIx_dct hd1 look_cells)
  have leftsAt : ∀ (x2 x3 x4 x5 : Option D), g2 fIx (gv 0) (gc (.str "lefts")) [some (.ref s), some (.int many), x2, x3, x4, x5] st1 = some (.ok (.ref l) st1) := fun _ _ _ _ => (g2_run (x := .ref s) (y := .str "lefts") rfl rfl).trans (fIx_dct hd1 look_lefts)
  have e3 : g2 fMod (gFn fInt (aCons (gv 2) aNil)) (gFn fLen (aCons (g2 fIx (gv 0) (gc (.str "cells"))) aNil)) [some (.ref s), some (.int many), some (.int a), none, none, none] st1 = some (.ok (.int p) st1) := by
    have q1 : gFn fLen (aCons (g2 fIx (gv 0) (gc (.str "cells"))) aNil) [some (.ref s), some (.int many), some (.int a), none, none, none] st1 = some (.ok (.int cs.length) st1) := by
      rw [gFn1_run (cellsAt _ _ _ _), fLen_ref hc1, List.length_map]
    rw [g2_run (x := .int a) rfl q1, fMod_int (by omega), ← hp]
    rfl
  have hlp : (ls.map D.int)[p]? = some (.int (ls.getD p 0)) := by
    rw [List.getElem?_map, List.getD_eq_getElem?_getD, List.getElem?_eq_getElem (by omega)]; rfl
  have hcp : (cs.map D.int)[p]? = some (.int (cs.getD p 0)) := by
    rw [List.getElem?_map, List.getD_eq_getElem?_getD, List.getElem?_eq_getElem (by omega)]; rfl
  generalize ls.getD p 0 = left at hlp
  generalize cs.getD p 0 = cell at hcp
  have e4 : g2 fIx (g2 fIx (gv 0) (gc (.str "lefts"))) (gv 3) [some (.ref s), some (.int many), some (.int a), some (.int p), none, none] st1 = some (.ok (.int left) st1) := (g2_run (y := .int p) (leftsAt _ _ _ _) rfl).trans (fIx_ref hl1 hlp)
  have cond : gb1 (g2 fGt (gv 4) (gc (.int 0))) [some (.ref s), some (.int many), some (.int a), some (.int p), some (.int left), none] st1 = some (.ok (decide (0 < left)) st1) := gb1_run ((g2_run (x := .int left) (y := .int 0) rfl rfl).trans fGt_int)
  have start : ∀ u r, u [some (.ref s), some (.int many), some (.int a), some (.int p), some (.int left), none] st1 = some r → sSeq (sSet 2 (g2 fIx (gv 0) (gc (.str "at")))) (sSeq (sSetSub (gv 0) (gc (.str "at")) (g2 fAdd (gv 2) (gc (.int 1)))) (sSeq (sSet 3 (g2 fMod (gFn fInt (aCons (gv 2) aNil)) (gFn fLen (aCons (g2 fIx (gv 0) (gc (.str "cells"))) aNil))))
      (sSeq (sSet 4 (g2 fIx (g2 fIx (gv 0) (gc (.str "lefts"))) (gv 3))) u))) [some (.ref s), some (.int many), none, none, none, none] st = some r := by
    intro u r h
    refine (sSeq_nx (env' := [some (.ref s), some (.int many), some (.int a), none, none, none]) (st' := st) (sSet_run e1)).trans ?_
    refine (sSeq_nx e2).trans ?_
    refine (sSeq_nx (env' := [some (.ref s), some (.int many), some (.int a), some (.int p), none, none]) (st' := st1) (sSet_run e3)).trans ?_
    exact (sSeq_nx (env' := [some (.ref s), some (.int many), some (.int a), some (.int p), some (.int left), none]) (st' := st1) (sSet_run e4)).trans h
  cases hleft : decide (0 < left) with
  | true =>
    rw [hleft] at cond
    have r1 : sSetSub (g2 fIx (gv 0) (gc (.str "lefts"))) (gv 3) (g2 fDiv (gv 4) (gv 1)) [some (.ref s), some (.int many), some (.int a), some (.int p), some (.int left), none] st1 = some (.nx [some (.ref s), some (.int many), some (.int a), some (.int p), some (.int left), none], st1.set l (.lst ((ls.map D.int).set p (.int (left / many))))) :=
      setL_run (leftsAt _ _ _ _) rfl ((g2_run (x := .int left) (y := .int many) rfl rfl).trans (fDiv_int h1 h2)) hl1 (by rw [List.length_map]; omega)
    have r2 : g2 fMod (gFn fInt (aCons (gv 4) aNil)) (gv 1) [some (.ref s), some (.int many), some (.int a), some (.int p), some (.int left), none] (st1.set l (.lst ((ls.map D.int).set p (.int (left / many))))) = some (.ok (.int (left % many)) (st1.set l (.lst ((ls.map D.int).set p (.int (left / many)))))) := (g2_run (x := .int left) (y := .int many) rfl rfl).trans (fMod_int h1)
    refine ⟨left % many, st1.set l (.lst ((ls.map D.int).set p (.int (left / many)))), gBody_rt (env := [some (.ref s), some (.int many), none, none, none, none]) (start _ _ (seqIf_t cond ((sSeq_nx r1).trans (sRet_run r2)))), Int.emod_nonneg _ (by omega), Int.emod_lt_of_pos _ h1, ⟨nsc, nsl, ncl, ⟨a + 1, by omega, by rw [List.getElem?_set_ne (Ne.symm nsl)]; exact hd1⟩, cs, ls.set p (left / many), ?_, ?_, by rw [List.length_set]; exact hlen, hpos⟩, ?_⟩
    · rw [cellL_set_ne ncl]; exact hc1
    · rw [cellL_set hl1, List.map_set]
    · exact ⟨by rw [List.length_set]; exact same1.len, fun i hi hil => by rw [List.getElem?_set_ne (Ne.symm hil)]; exact same1.at_ i hi hil⟩
  | false =>
    rw [hleft] at cond
    obtain ⟨r1, m1, b1, b2⟩ := law_mixed_spec cell a st1 (by omega) (by omega)
    obtain ⟨r2, m2, b3, b4⟩ := law_mixed_spec r1 (40 + a) st1 (by omega) (by omega)
    obtain ⟨r3, m3, b5, b6⟩ := law_mixed_spec r2 (7 + a) st1 (by omega) (by omega)
    have q1 : g2 fIx (g2 fIx (gv 0) (gc (.str "cells"))) (gv 3) [some (.ref s), some (.int many), some (.int a), some (.int p), some (.int left), none] st1 = some (.ok (.int cell) st1) := (g2_run (y := .int p) (cellsAt _ _ _ _) rfl).trans (fIx_ref hc1 hcp)
    have q2 : gCall 2 G__law_mixed (aCons (g2 fIx (g2 fIx (gv 0) (gc (.str "cells"))) (gv 3)) (aCons (gv 2) aNil)) [some (.ref s), some (.int many), some (.int a), some (.int p), some (.int left), none] st1 = some (.ok (.int r1) st1) := (gCall_of (ds := [.int cell, .int a]) (aConsN q1 (aCons1 rfl)) rfl).trans m1
    have q3 : g2 fAdd (gc (.int 40)) (gv 2) [some (.ref s), some (.int many), some (.int a), some (.int p), some (.int left), none] st1 = some (.ok (.int (40 + a)) st1) := (g2_run (x := .int 40) (y := .int a) rfl rfl).trans fAdd_int
    have q4 : gCall 2 G__law_mixed (aCons (gCall 2 G__law_mixed (aCons (g2 fIx (g2 fIx (gv 0) (gc (.str "cells"))) (gv 3)) (aCons (gv 2) aNil))) (aCons (g2 fAdd (gc (.int 40)) (gv 2)) aNil)) [some (.ref s), some (.int many), some (.int a), some (.int p), some (.int left), none] st1 = some (.ok (.int r2) st1) := (gCall_of (ds := [.int r1, .int (40 + a)]) (aConsN q2 (aCons1 q3)) rfl).trans m2
    have q5 : g2 fAdd (gc (.int 7)) (gv 2) [some (.ref s), some (.int many), some (.int a), some (.int p), some (.int left), some (.int r2)] st1 = some (.ok (.int (7 + a)) st1) := (g2_run (x := .int 7) (y := .int a) rfl rfl).trans fAdd_int
    have q6 : gCall 2 G__law_mixed (aCons (gv 5) (aCons (g2 fAdd (gc (.int 7)) (gv 2)) aNil)) [some (.ref s), some (.int many), some (.int a), some (.int p), some (.int left), some (.int r2)] st1 = some (.ok (.int r3) st1) := (gCall_of (ds := [.int r2, .int (7 + a)]) (st1 := st1) (aConsN rfl (aCons1 q5)) rfl).trans m3
    have q7 : g2 fMul (gv 5) (gc (.int 2147483647)) [some (.ref s), some (.int many), some (.int a), some (.int p), some (.int left), some (.int r2)] st1 = some (.ok (.int (r2 * 2147483647)) st1) := (g2_run (x := .int r2) (y := .int 2147483647) rfl rfl).trans (fMul_int (.inr (by decide)))
    have q8 := (g2_run (f := fAdd) q7 q6).trans fAdd_int
    have q9 := (gFn1_run (f := fInt) q8)
    have q10 : gFn fInt (aCons (g2 fAdd (g2 fMul (gv 5) (gc (.int 2147483647))) (gCall 2 G__law_mixed (aCons (gv 5) (aCons (g2 fAdd (gc (.int 7)) (gv 2)) aNil)))) aNil) [some (.ref s), some (.int many), some (.int a), some (.int p), some (.int left), some (.int r2)] st1 = some (.ok (.int (r2 * 2147483647 + r3)) st1) := q9
    have q11 := (g2_run (f := fDiv) (gb := gc (.int 64)) (y := .int 64) q10 rfl).trans (fDiv_int (by decide) (by decide))
    have q12 := (g2_run (f := fMod) (gb := gv 1) (y := .int many) q11 rfl).trans (fMod_int h1)
    refine ⟨_, st1, gBody_rt (env := [some (.ref s), some (.int many), none, none, none, none]) (start _ _ ((seqIf_f cond).trans ((sSeq_nx (env' := [some (.ref s), some (.int many), some (.int a), some (.int p), some (.int left), some (.int r2)]) (st' := st1) (sSet_run q4)).trans (sRet_run q12)))), Int.emod_nonneg _ (by omega), Int.emod_lt_of_pos _ h1, ⟨nsc, nsl, ncl, ⟨a + 1, by omega, hd1⟩, cs, ls, hc1, hl1, hlen, hpos⟩, same1⟩
end Mk01
set_option Elab.async false
set_option linter.all false
set_option autoImplicit false
set_option maxRecDepth 100000
set_option maxHeartbeats 1000000
namespace Mk01
open PySem PySem.Spec MP
open L2 (Key)
theorem Same.cell {s l k : Nat} {st st' : Store} (h : Same s l st st') (h1 : k ≠ s) (h2 : k ≠ l) : cellL st' k = cellL st k := by
  unfold cellL
  rw [h.at_ k h1 h2]
theorem Same.rfl {s l : Nat} {st : Store} : Same s l st st := ⟨Eq.refl _, fun _ _ _ => Eq.refl _⟩
theorem Same.tr {s l : Nat} {a b c : Store} (h : Same s l a b) (k : Same s l b c) : Same s l a c := ⟨k.len.trans h.len, fun i h1 h2 => (k.at_ i h1 h2).trans (h.at_ i h1 h2)⟩
/-- the state stays where stores grow -/
theorem LSt.pre {s c l N : Nat} {st st' : Store} (S : LSt s c l N st) (p : Pre st st') : LSt s c l N st' := by
  obtain ⟨h1, h2, h3, ⟨a, ha, hd⟩, cs, ls, hc, hl, he, hp⟩ := S
  exact ⟨h1, h2, h3, ⟨a, ha, p.at hd⟩, cs, ls, p.cell hc, p.cell hl, he, hp⟩
theorem LSt.le {s c l N M : Nat} {st : Store} (S : LSt s c l N st) (h : N ≤ M) : LSt s c l M st := by
  obtain ⟨h1, h2, h3, ⟨a, ha, hd⟩, r⟩ := S
  exact ⟨h1, h2, h3, ⟨a, by omega, hd⟩, r⟩
/-- one of some that are told in a list -/
theorem law_of_spec {s c l N k : Nat} {st : Store} {xs : List D} (S : LSt s c l N st) (hN : N < 2 ^ 40) (hc : cellL st k = some xs) (hx : 0 < xs.length) (hm : xs.length < 1000) (hks : k ≠ s) (hkl : k ≠ l) :
    ∃ (x : D) (st' : Store), x ∈ xs ∧ G__law_of [.ref s, .ref k] st = some (.ok x st') ∧ LSt s c l (N + 1) st' ∧ Same s l st st' := by
  obtain ⟨r, st', e, r0, r1, S', same⟩ := law_draw_spec S (xs.length : Int) (by omega) (by omega) hN
  have hr : r.toNat < xs.length := by omega
  have hri : ((r.toNat : Nat) : Int) = r := by omega
  refine ⟨xs[r.toNat], st', List.getElem_mem hr, gBody_rt (env := [some (.ref s), some (.ref k)]) (sRet_run ?_), S', same⟩
  have e1 : gFn fLen (aCons (gv 1) aNil) [some (.ref s), some (.ref k)] st = some (.ok (.int xs.length) st) := by
    rw [gFn1_run (x := .ref k) (st1 := st) rfl, fLen_ref hc]
  have e2 : gCall 2 G__law_draw (aCons (gv 0) (aCons (gFn fLen (aCons (gv 1) aNil)) aNil)) [some (.ref s), some (.ref k)] st = some (.ok (.int r) st') := (gCall_of (ds := [.ref s, .int xs.length]) (aConsN rfl (aCons1 e1)) rfl).trans e
  have e3 := fIx_ref (i := r.toNat) (st := st') (by rw [same.cell hks hkl]; exact hc) (List.getElem?_eq_getElem hr)
  rw [hri] at e3
  exact (g2_run (x := .ref k) rfl e2).trans e3
end Mk01
set_option Elab.async false
set_option linter.all false
set_option autoImplicit false
set_option maxRecDepth 100000
set_option maxHeartbeats 1000000
namespace Mk01
open PySem PySem.Spec MP
open L2 (Key)
def pI (l : List Int) : List PyData := l.map PyData.int
theorem optAll_ints {st : Store} {k : Nat} : ∀ l : List Int, optAll ((l.map D.int).map (pd st k)) = some (pI l)
  | [] => rfl
  | a :: r => by
    have ih := optAll_ints (st := st) (k := k) r
    unfold pI at ih ⊢
    rw [List.map_cons, List.map_cons, List.map_cons]
    have e : pd st k (.int a) = some (.int a) := by cases k <;> rfl
    rw [e]
    simp only [optAll, ih]
theorem pd_rol {st : Store} {l : List Int} : pd st 16 (.rol (l.map .int)) = some (.list (pI l)) := by
  show pd st (15 + 1) (.rol (l.map .int)) = _
  rw [pd, optAll_ints]; rfl
theorem pd_nil {st : Store} {k : Nat} (hc : cellL st k = some []) : pd st 16 (.ref k) = some (.list []) := by
  show pd st (15 + 1) (.ref k) = _
  rw [pd, hc]; rfl
theorem shaped_pI (l : List Int) : SeqAt.shaped (.list (pI l)) = true := by
  unfold SeqAt.shaped pI
  rw [Bool.and_eq_true]
  constructor
  · induction l with
    | nil => rfl
    | cons a r ih =>
      rw [List.map_cons]
      simp only [PyData.canLay0, PyData.canLayAll0, Bool.true_and] at ih ⊢
      exact ih
  · have e : PyData.depthAll (l.map PyData.int) = 0 := by
      induction l with
      | nil => rfl
      | cons a r ih =>
        rw [List.map_cons]
        simp only [PyData.depthAll, PyData.depth, ih]; rfl
    simp only [PyData.depth, e]
    rfl
theorem law_begin_spec (ns : List Int) (hn : ns.length ≤ 63) (st : Store) : ∃ s c l st', Pre st st' ∧ G__law_begin [.rol (ns.map .int)] st = some (.ok (.ref s) st') ∧ LSt s c l 0 st' ∧ st.length ≤ s ∧ st.length ≤ c ∧ st.length ≤ l := by
  have p0 : Pre st (st ++ [.lst []]) := List.prefix_append _ _
  have cond : gb1 (g2 fNe (gv 0) (gLst aNil)) [some (.rol (ns.map .int)), none, none] st = some (.ok (!PyData.eqv (.list (pI ns)) (.list [])) (st ++ [.lst []])) := by
    refine gb1_run ?_
    rw [g2_run (x := .rol (ns.map .int)) (y := .ref st.length) (st2 := st ++ [.lst []]) rfl rfl]
    unfold fNe fEqG
    rw [pd_rol, pd_nil cellL_new]
    dsimp only
    rw [if_pos ⟨shaped_pI ns, shaped_pI []⟩]
    rfl
  have cells : ∃ (s1 : Store) (cs : List Int) (k : Nat), Pre st s1 ∧ gIf (gb1 (g2 fNe (gv 0) (gLst aNil))) (gFn fList (aCons (gv 0) aNil)) (gLst (aCons (gc (.int 0)) aNil)) [some (.rol (ns.map .int)), none, none] st = some (.ok (.ref k) s1) ∧ cellL s1 k = some (cs.map D.int) ∧ 0 < cs.length ∧ cs.length ≤ 63 ∧ st.length ≤ k := by
    cases ns with
    | nil =>
      refine ⟨st ++ [.lst []] ++ [.lst [.int 0]], [0], (st ++ [Cell.lst []]).length, p0.push _, ?_, cellL_new, by decide, by decide, by simp⟩
      unfold gIf
      rw [cond, rb_ok]
      rfl
    | cons a r =>
      refine ⟨st ++ [.lst []] ++ [.lst ((a :: r).map D.int)], a :: r, (st ++ [Cell.lst []]).length, p0.push _, ?_, cellL_new, by simp, hn, by simp⟩
      unfold gIf
      rw [cond, rb_ok]
      rfl
  obtain ⟨s1, cs, k, p1, r1, c1, pos, len, hk⟩ := cells
  obtain ⟨s2, l, p2, r2, c2, hl2⟩ := gLc_run (gi := gSeq (gv 1)) (it := itC k) (f := tgName 2) (tt := ttYes) (e := gIf (gb1 (g2 fGeA (gv 2) (g2 fPow (gc (.int 10)) (gc (.int 18))))) (gv 2) (gc (.int 0))) (env := [some (.rol (ns.map .int)), some (.ref k), none]) (st := s1) (base := s1) (ds := cs.map D.int) (vs := [2]) (fun _ => true) (fun d => match d with | .int i => .int (if 10 ^ 18 ≤ i then i else 0) | _ => .int 0)
    (by
      have := gSeq_ref (g := gv 1) (env := [some (.rol (ns.map .int)), some (.ref k), none]) (st := s1) rfl c1
      exact this) Pre.rfl (by rw [List.length_map]; omega) (fun i s h => itC_pre c1 h) (by
      intro d hd s hp
      obtain ⟨i, _, rfl⟩ := List.mem_map.mp hd
      refine ⟨[some (.rol (ns.map .int)), some (.ref k), some (.int i)], s, rfl, rfl, Pre.rfl, fun _ => ⟨s, ?_, Pre.rfl⟩⟩
      have q1 : g2 fPow (gc (.int 10)) (gc (.int 18)) [some (.rol (ns.map .int)), some (.ref k), some (.int i)] s = some (.ok (.int (10 ^ 18)) s) := rfl
      have q2 : gb1 (g2 fGeA (gv 2) (g2 fPow (gc (.int 10)) (gc (.int 18)))) [some (.rol (ns.map .int)), some (.ref k), some (.int i)] s = some (.ok (decide ((10 : Int) ^ 18 ≤ i)) s) := gb1_run ((g2_run (x := .int i) rfl q1).trans rfl)
      unfold gIf
      rw [q2, rb_ok]
      dsimp only
      by_cases h : (10 : Int) ^ 18 ≤ i
      · rw [if_pos (decide_eq_true h), if_pos h]; rfl
      · rw [if_neg (by rw [decide_eq_false h]; exact Bool.false_ne_true), if_neg h]; rfl)
  rw [List.filter_eq_self.mpr fun _ _ => rfl, List.map_map] at c2
  have p3 : Pre s2 (s2 ++ [.dct (stD k l 0)]) := List.prefix_append _ _
  have hkl : k ≠ l := by
    have := cellL_lt c1
    omega
  have hls := cellL_lt c2
  have hks : k < s2.length := Nat.lt_of_lt_of_le (cellL_lt c1) p2.length_le
  refine ⟨s2.length, k, l, s2 ++ [.dct (stD k l 0)], (p1.tr p2).tr p3, gBody_rt (env := [some (.rol (ns.map .int)), none, none]) ((sSeq_nx (sSet_run r1)).trans (sRet_run ?_)), ⟨by omega, by omega, hkl, ⟨0, Nat.le_refl _, (by rw [List.getElem?_append_right (Nat.le_refl _), Nat.sub_self]; rfl)⟩, cs, cs.map fun i => if (10 : Int) ^ 18 ≤ i then i else 0, (p2.tr p3).cell c1, ?_, by rw [List.length_map], pos⟩, ?_, hk, ?_⟩
  · have q1 : kCons "cells" (gv 1) (kCons "lefts" (gLc (gSeq (gv 1)) (tgName 2) ttYes (gIf (gb1 (g2 fGeA (gv 2) (g2 fPow (gc (.int 10)) (gc (.int 18))))) (gv 2) (gc (.int 0))) [2]) (kCons "at" (gc (.int 0)) (kCons "room" (gc (.int 0)) kNil))) [some (.rol (ns.map .int)), some (.ref k), none] s1 = some (.ok (stD k l 0) s2) := by
      unfold kCons
      show rb (some (Out.ok (D.ref k) s1)) _ = _
      rw [rb_ok]
      show rb (rb (gLc _ _ _ _ _ _ s1) _) _ = _
      rw [r2]
      rfl
    unfold gDisp
    show rb (kCons _ _ _ [some (.rol (ns.map .int)), some (.ref k), none] s1) _ = _
    rw [q1, rb_ok, if_pos ⟨by show 4 ≤ 15; decide, nodup_st⟩]
  · rw [p3.cell c2, List.map_map]
    rfl
  · exact Nat.le_trans p1.length_le p2.length_le
  · exact Nat.le_trans p1.length_le hl2
end Mk01
set_option Elab.async false
set_option linter.all false
set_option autoImplicit false
set_option maxRecDepth 100000
set_option maxHeartbeats 1000000
namespace Mk01
open PySem PySem.Spec MP
open L2 (Key)
theorem LSt.setq {s c l N q : Nat} {st : Store} {x : Cell} (S : LSt s c l N st) (h1 : s ≠ q) (h2 : c ≠ q) (h3 : l ≠ q) : LSt s c l N (st.set q x) := by
  obtain ⟨n1, n2, n3, ⟨a, ha, hd⟩, cs, ls, hc, hl, he, hp⟩ := S
  exact ⟨n1, n2, n3, ⟨a, ha, by rw [List.getElem?_set_ne (Ne.symm h1)]; exact hd⟩, cs, ls, by rw [cellL_set_ne h2]; exact hc, by rw [cellL_set_ne h3]; exact hl, he, hp⟩
theorem LSt.lt {s c l N : Nat} {st : Store} (S : LSt s c l N st) : s < st.length ∧ c < st.length ∧ l < st.length := by
  obtain ⟨n1, n2, n3, ⟨a, ha, hd⟩, cs, ls, hc, hl, he, hp⟩ := S
  exact ⟨(List.getElem?_eq_some_iff.mp hd).1, cellL_lt hc, cellL_lt hl⟩
theorem gAndT_t {t u : GT} {env : MP.Env} {st st1 : Store} (h : t env st = some (.ok true st1)) : gAndT t u env st = u env st1 := by
  unfold gAndT; rw [h]; rfl
theorem gAndT_f {t u : GT} {env : MP.Env} {st st1 : Store} (h : t env st = some (.ok false st1)) : gAndT t u env st = some (.ok false st1) := by
  unfold gAndT; rw [h]; rfl
/-- a draw by the state at place 0 -/
theorem draw_run {s c l N many : Nat} {st : Store} {env : MP.Env} {g : G} (S : LSt s c l N st) (h0 : env[0]? = some (some (D.ref s))) (hg : g env st = some (.ok (.int (many : Nat)) st)) (h1 : 0 < many) (h2 : many < 1000000) (hN : N < 2 ^ 40) :
    ∃ (r : Nat) (st' : Store), gCall 2 G__law_draw (aCons (gv 0) (aCons g aNil)) env st = some (.ok (.int (r : Nat)) st') ∧ r < many ∧ LSt s c l (N + 1) st' ∧ Same s l st st' := by
  obtain ⟨r, st', e, r0, r1, S', same⟩ := law_draw_spec S (many : Int) (by omega) (by omega) hN
  refine ⟨r.toNat, st', ?_, by omega, S', same⟩
  have g0 : gv 0 env st = some (.ok (.ref s) st) := by unfold gv; rw [h0]
  rw [show ((r.toNat : Nat) : Int) = r by omega]
  exact (gCall_of (ds := [.ref s, .int many]) (aConsN g0 (aCons1 hg)) rfl).trans e
/-- the pairs that are drawn so far -/
structure Drawn (far near : Nat) (ps : List (Nat × Nat)) : Prop where
  nd : ps.Nodup
  len : ps.length ≤ 7 * far + near
  in_ : ∀ p ∈ ps, p.1 < p.2 ∧ (p.2 < far ∨ (p.2 = far ∧ p.1 < near))
theorem Drawn.row {far : Nat} {ps : List (Nat × Nat)} (h : Drawn far far ps) (hf : far ≤ 7) : Drawn (far + 1) 0 ps :=
  ⟨h.nd, by have := h.len; omega, fun p hp => ⟨(h.in_ p hp).1, by have := (h.in_ p hp).2; omega⟩⟩
theorem Drawn.skip {far near : Nat} {ps : List (Nat × Nat)} (h : Drawn far near ps) : Drawn far (near + 1) ps :=
  ⟨h.nd, by have := h.len; omega, fun p hp => ⟨(h.in_ p hp).1, by have := (h.in_ p hp).2; omega⟩⟩
theorem Drawn.add {far near : Nat} {ps : List (Nat × Nat)} (h : Drawn far near ps) (hn : near < far) : Drawn far (near + 1) (ps ++ [(near, far)]) := by
  refine ⟨?_, by rw [List.length_append]; have := h.len; simp; omega, fun p hp => ?_⟩
  · rw [List.nodup_append]
    refine ⟨h.nd, by simp, fun x hx y hy => ?_⟩
    simp at hy; subst hy
    rintro rfl
    have := (h.in_ _ hx).2
    dsimp only at this
    omega
  · rcases List.mem_append.mp hp with hp | hp
    · exact ⟨(h.in_ p hp).1, by have := (h.in_ p hp).2; omega⟩
    · simp at hp; subst hp
      exact ⟨hn, .inr ⟨rfl, Nat.lt_succ_self _⟩⟩
abbrev envO (s way n q : Nat) (f x : Option D) : MP.Env := [some (.ref s), some (.int 6), some (.int way), some (.int n), some (.ref q), f, x]
abbrev condO : GT := gOrT (gAndT (gb1 (g2 fEq (gv 2) (gc (.int 0)))) (gb1 (g2 fEq (g2 fAdd (gv 6) (gc (.int 1))) (gv 5)))) (gAndT (gb1 (g2 fGt (gv 2) (gc (.int 1)))) (gb1 (g2 fEq (gCall 2 G__law_draw (aCons (gv 0) (aCons (gc (.int 3)) aNil))) (gc (.int 0)))))
theorem condO_run {s c l N way n q i j : Nat} {st : Store} (S : LSt s c l N st) (hN : N < 2 ^ 40) : ∃ b st1, condO (envO s way n q (some (.int i)) (some (.int j))) st = some (.ok b st1) ∧ LSt s c l (N + 1) st1 ∧ Same s l st st1 := by
  have A : ∃ b, gAndT (gb1 (g2 fEq (gv 2) (gc (.int 0)))) (gb1 (g2 fEq (g2 fAdd (gv 6) (gc (.int 1))) (gv 5))) (envO s way n q (some (.int i)) (some (.int j))) st = some (.ok b st) := by
    have e1 : gb1 (g2 fEq (gv 2) (gc (.int 0))) (envO s way n q (some (.int i)) (some (.int j))) st = some (.ok ((way : Int) == 0) st) := gb1_run ((g2_run (x := .int way) (y := .int 0) rfl rfl).trans fEq_int)
    have e2 : g2 fAdd (gv 6) (gc (.int 1)) (envO s way n q (some (.int i)) (some (.int j))) st = some (.ok (.int ((j : Int) + 1)) st) := (g2_run (x := .int j) (y := .int 1) rfl rfl).trans fAdd_int
    have e3 : gb1 (g2 fEq (g2 fAdd (gv 6) (gc (.int 1))) (gv 5)) (envO s way n q (some (.int i)) (some (.int j))) st = some (.ok (((j : Int) + 1) == (i : Int)) st) := gb1_run ((g2_run (y := .int i) e2 rfl).trans fEq_int)
    cases h : ((way : Int) == 0) with
    | true => rw [h] at e1; exact ⟨_, (gAndT_t e1).trans e3⟩
    | false => rw [h] at e1; exact ⟨_, gAndT_f e1⟩
  have B : ∃ b st1, gAndT (gb1 (g2 fGt (gv 2) (gc (.int 1)))) (gb1 (g2 fEq (gCall 2 G__law_draw (aCons (gv 0) (aCons (gc (.int 3)) aNil))) (gc (.int 0)))) (envO s way n q (some (.int i)) (some (.int j))) st = some (.ok b st1) ∧ LSt s c l (N + 1) st1 ∧ Same s l st st1 := by
    have e1 : gb1 (g2 fGt (gv 2) (gc (.int 1))) (envO s way n q (some (.int i)) (some (.int j))) st = some (.ok (decide ((1 : Int) < way)) st) := gb1_run ((g2_run (x := .int way) (y := .int 1) rfl rfl).trans fGt_int)
    cases h : decide ((1 : Int) < way) with
    | true =>
      rw [h] at e1
      obtain ⟨r, s1, d1, _, S1, m1⟩ := draw_run (many := 3) (env := envO s way n q (some (.int i)) (some (.int j))) (g := gc (.int 3)) S rfl rfl (by decide) (by decide) hN
      exact ⟨_, s1, (gAndT_t e1).trans (gb1_run ((g2_run (y := .int 0) d1 rfl).trans fEq_int)), S1, m1⟩
    | false => rw [h] at e1; exact ⟨_, st, gAndT_f e1, S.le (Nat.le_succ _), Same.rfl⟩
  obtain ⟨a, hA⟩ := A
  cases a with
  | true => exact ⟨_, st, gOrT_t hA, S.le (Nat.le_succ _), Same.rfl⟩
  | false =>
    obtain ⟨b, s1, hB, S1, m1⟩ := B
    exact ⟨b, s1, (gOrT_f hA).trans hB, S1, m1⟩
abbrev bodyO : GS := sIf condO (sExpr (gMethL fAppend (gv 4) (aCons (gTup (aCons (gv 6) (aCons (gv 5) aNil))) aNil))) sNext
theorem bodyO_run {s c l N way n q i j : Nat} {ps : List (Nat × Nat)} {st : Store} (S : LSt s c l N st) (hN : N < 2 ^ 40) (h1 : s ≠ q) (h2 : c ≠ q) (h3 : l ≠ q) (hc : cellL st q = some (ps.map pairD)) (D : Drawn i j ps) (hj : j < i) (hi : i ≤ 7) :
    ∃ ps' st', bodyO (envO s way n q (some (.int i)) (some (.int j))) st = some (.nx (envO s way n q (some (.int i)) (some (.int j))), st') ∧ LSt s c l (N + 1) st' ∧ cellL st' q = some (ps'.map pairD) ∧ Drawn i (j + 1) ps' := by
  obtain ⟨b, s1, e1, S1, m1⟩ := condO_run (way := way) (n := n) (q := q) (i := i) (j := j) S hN
  have hc1 : cellL s1 q = some (ps.map pairD) := (m1.cell (Ne.symm h1) (Ne.symm h3)).trans hc
  cases b with
  | true =>
    have hl := D.len
    have g : gTup (aCons (gv 6) (aCons (gv 5) aNil)) (envO s way n q (some (.int i)) (some (.int j))) s1 = some (.ok (pairD (j, i)) s1) := gTup_run (xs := [.int j, .int i]) (aConsN rfl (aCons1 rfl)) (by simp)
    have a := append_run (go := gv 4) (env := envO s way n q (some (.int i)) (some (.int j))) rfl hc1 g (by rw [List.length_map]; omega)
    refine ⟨ps ++ [(j, i)], _, (sIf_t e1).trans a, S1.setq h1 h2 h3, ?_, D.add hj⟩
    rw [cellL_set hc1, List.map_append]; rfl
  | false => exact ⟨ps, s1, (sIf_f e1).trans rfl, S1, hc1, D.skip⟩
theorem law_order_spec {s c l N : Nat} {st : Store} (S : LSt s c l N st) (hN : N < 2 ^ 39) : ∃ n ps st', Good n ps ∧ n ≤ 6 ∧ ps.length ≤ 49 ∧ G__law_order [.ref s, .int 6] st = some (.ok (ordD n ps) st') ∧ LSt s c l (N + 51) st' := by
  obtain ⟨way, s1, d1, _, S1, m1⟩ := draw_run (many := 6) (env := [some (.ref s), some (.int 6), none, none, none, none, none]) (g := gc (.int 6)) S rfl rfl (by decide) (by decide) (by omega)
  obtain ⟨n, s2, d2, hn, S2, m2⟩ := draw_run (many := 7) (env := [some (.ref s), some (.int 6), none, none, none, none, none]) (g := g2 fAdd (gv 1) (gc (.int 1))) S1 rfl ((g2_run (x := .int 6) (y := .int 1) rfl rfl).trans fAdd_int) (by decide) (by decide) (by omega)
  obtain ⟨hs, hcq, hl⟩ := S2.lt
  have S3 : LSt s c l (N + 2) (s2 ++ [.lst []]) := S2.pre (List.prefix_append _ _)
  have hg : gRng1 (aCons (gv 3) aNil) (envO s way n s2.length none none) (s2 ++ [.lst []]) = some (.ok (itR 0 n, (mpTo n).length + 1) (s2 ++ [.lst []])) := by
    rw [mpTo_length]
    exact gRng1_run (aCons1 rfl) (by omega)
  have L := sFor_run (gi := gRng1 (aCons (gv 3) aNil)) (f := tgName 5) (body := sFor (gRng1 (aCons (gv 5) aNil)) (tgName 6) bodyO)
    (fun i env st => ∃ f x ps, env = envO s way n s2.length f x ∧ LSt s c l (N + 2 + 7 * i) st ∧ cellL st s2.length = some (ps.map pairD) ∧ Drawn i 0 ps) hg ⟨none, none, [], rfl, S3, cellL_new, ⟨List.nodup_nil, by simp, by simp⟩⟩ (fun i env st _ => itR_mpTo) (by
      rintro i d env t hd ⟨f, x, ps, rfl, St, hc, Dn⟩
      rw [mpTo_at] at hd
      have hi : i < n := by
        by_cases h : i < n
        · exact h
        · rw [if_neg h] at hd; cases hd
      rw [if_pos hi] at hd
      cases hd
      have hg2 : gRng1 (aCons (gv 5) aNil) (envO s way n s2.length (some (.int i)) x) t = some (.ok (itR 0 i, (mpTo i).length + 1) t) := by
        rw [mpTo_length]
        exact gRng1_run (aCons1 rfl) (by omega)
      obtain ⟨env', t', r4, x', ps', rfl, St', hc', Dn'⟩ := sFor_run (gi := gRng1 (aCons (gv 5) aNil)) (f := tgName 6) (body := bodyO)
        (fun j env st => ∃ x ps, env = envO s way n s2.length (some (.int i)) x ∧ LSt s c l (N + 2 + 7 * i + j) st ∧ cellL st s2.length = some (ps.map pairD) ∧ Drawn i j ps) hg2 ⟨x, ps, rfl, St, hc, Dn⟩ (fun i env st _ => itR_mpTo) (by
          rintro j d env t hd ⟨x, ps, rfl, St, hc, Dn⟩
          rw [mpTo_at] at hd
          have hj : j < i := by
            by_cases h : j < i
            · exact h
            · rw [if_neg h] at hd; cases hd
          rw [if_pos hj] at hd
          cases hd
          obtain ⟨ps', t', b1, b2, b3, b4⟩ := bodyO_run (way := way) (n := n) St (by omega) (Nat.ne_of_lt hs) (Nat.ne_of_lt hcq) (Nat.ne_of_lt hl) hc Dn hj (by omega)
          exact ⟨envO s way n s2.length (some (.int i)) (some (.int j)), _, t', rfl, .inl b1, some (.int j), ps', rfl, b2, b3, b4⟩)
      rw [mpTo_length] at St' Dn'
      exact ⟨envO s way n s2.length (some (.int i)) x, _, t', rfl, .inl r4, some (.int i), x', ps', rfl, St'.le (by omega), hc', Dn'.row (by omega)⟩)
  obtain ⟨env1, s4, r4, f, x, ps, rfl, S4, c4, Dn⟩ := L
  rw [mpTo_length] at S4 Dn
  have hsort := fSorted_pairs c4
  have hlen : (ps.mergeSort leP).length = ps.length := (List.mergeSort_perm _ leP).length_eq
  have hl49 := Dn.len
  refine ⟨n, ps.mergeSort leP, s4 ++ [.lst ((ps.mergeSort leP).map pairD)], ⟨⟨by omega, fun p hp => ?_⟩, sorted_asc Dn.nd, by omega⟩, by omega, by omega, gBody_rt (env := [some (.ref s), some (.int 6), none, none, none, none, none]) ?_, (S4.le (by omega)).pre (List.prefix_append _ _)⟩
  · have h := Dn.in_ p ((List.mergeSort_perm _ leP).mem_iff.mp hp)
    omega
  unfold S__law_order
  refine (sSeq_nx (env' := [some (.ref s), some (.int 6), some (.int way), some (.int n), none, none, none]) (st' := s2) ?_).trans ?_
  · have e2 := aConsN d1 (aCons1 d2)
    unfold sPar
    rw [e2, sb_ok]
    rfl
  refine (sSeq_nx (env' := envO s way n s2.length none none) (st' := s2 ++ [.lst []]) (sSet_run rfl)).trans ?_
  refine (sSeq_nx r4).trans ?_
  refine sRet_run ?_
  have h2 : gFn fTuple (aCons (gFn fSorted (aCons (gv 4) aNil)) aNil) (envO s way n s2.length f x) s4 = some (.ok (.tup ((ps.mergeSort leP).map pairD)) (s4 ++ [.lst ((ps.mergeSort leP).map pairD)])) := by
    rw [gFn1_run ((gFn1_run (x := .ref s2.length) rfl).trans hsort)]
    exact fTuple_ref cellL_new
  exact gTup_run (aConsN rfl (aCons1 h2)) (by simp)
end Mk01
set_option Elab.async false
set_option linter.all false
set_option autoImplicit false
set_option maxRecDepth 100000
set_option maxHeartbeats 1000000
namespace Mk01
open PySem PySem.Spec MP
/-! ### texts of data -/
theorem strOk_iff {x : Str} : PyData.strOk x = true ↔ ∀ c ∈ x.cps.toList, c < 0x110000 := by
  unfold PyData.strOk
  constructor
  · intro h0 c hcm
    have := (Array.all_eq_true_iff_forall_mem.mp h0) c (Array.mem_toList_iff.mp hcm)
    simpa using this
  · intro h
    refine Array.all_eq_true_iff_forall_mem.mpr fun c hc => ?_
    have := h c (Array.mem_toList_iff.mpr hc)
    simpa using this
theorem strOk_of (s : String) : PyData.strOk (Str.ofString s) = true := by
  rw [strOk_iff, Str.ofString_eq_toList]
  intro c hc
  rw [List.toList_toArray] at hc
  obtain ⟨d, _, rfl⟩ := List.mem_map.mp hc
  have hv := d.valid
  show d.val.toNat < 0x110000
  rcases hv with hv | ⟨_, hv⟩
  · have h2 : d.val.toNat < 0xd800 := hv
    omega
  · exact hv
theorem strOk_app {a b : Str} (h1 : PyData.strOk a = true) (h2 : PyData.strOk b = true) : PyData.strOk (a ++ b) = true := by
  rw [strOk_iff] at h1 h2 ⊢
  intro c hc
  have e : (a ++ b).cps.toList = a.cps.toList ++ b.cps.toList := by
    show (a.cps ++ b.cps).toList = _
    exact Array.toList_append
  rw [e] at hc
  rcases List.mem_append.mp hc with hc | hc
  · exact h1 c hc
  · exact h2 c hc
theorem strOk_text : ∀ (ts : List Str) (k : Nat) (acc : Str), PyData.strOk acc = true → (∀ t ∈ ts, PyData.strOk t = true) → PyData.strOk (textFrom k acc ts) = true
  | [], _, _, h, _ => h
  | t :: r, k, acc, h, hh => by
    unfold textFrom
    exact strOk_text r _ _ (strOk_app (strOk_app h (strOk_of _)) (hh t List.mem_cons_self)) fun x hx => hh x (List.mem_cons_of_mem _ hx)
theorem strOk_join {sep : Str} (hs : PyData.strOk sep = true) : ∀ (ts : List Str), (∀ t ∈ ts, PyData.strOk t = true) → PyData.strOk (Str.join sep ts) = true
  | [], _ => by unfold Str.join; exact strOk_iff.mpr fun c hc => by simp [Str.empty] at hc
  | [x], h => h x List.mem_cons_self
  | x :: y :: r, h => strOk_app (strOk_app (h x List.mem_cons_self) hs) (strOk_join hs (y :: r) fun t ht => h t (List.mem_cons_of_mem _ ht))
/-- data whose text can be told -/
structure Fit (k w : Nat) (d : PyData) : Prop where
  sho : d.showable = true
  nod : d.hasDict = false
  short : d.leavesShort 13 = true
  dep : d.depth ≤ k
  wt : d.weight ≤ w
  txt : PyData.strOk d.shown = true
theorem fit_all {k w : Nat} : ∀ {xs : List PyData}, (∀ d ∈ xs, Fit k w d) → PyData.showableAll xs = true ∧ PyData.hasDictAll xs = false ∧ PyData.leavesShortAll 13 xs = true ∧ PyData.depthAll xs ≤ k ∧ PyData.weightAll xs ≤ (w + 1) * xs.length ∧ ∀ t ∈ PyData.shownAll xs, PyData.strOk t = true
  | [], _ => ⟨rfl, rfl, rfl, Nat.zero_le _, Nat.zero_le _, by unfold PyData.shownAll; simp⟩
  | x :: r, h => by
    obtain ⟨h1, h2, h3, h4, h5, h6⟩ := fit_all (xs := r) fun d hd => h d (List.mem_cons_of_mem _ hd)
    have F := h x List.mem_cons_self
    refine ⟨?_, ?_, ?_, ?_, ?_, ?_⟩
    · simp only [PyData.showableAll, F.sho, h1, Bool.and_self]
    · simp only [PyData.hasDictAll, F.nod, h2, Bool.or_self]
    · simp only [PyData.leavesShortAll, F.short, h3, Bool.and_self]
    · simp only [PyData.depthAll]; have := F.dep; omega
    · simp only [PyData.weightAll, List.length_cons]
      have := F.wt
      have e : (w + 1) * (r.length + 1) = (w + 1) * r.length + (w + 1) := by rw [Nat.mul_add, Nat.mul_one]
      omega
    · simp only [PyData.shownAll]
      intro t ht
      rcases List.mem_cons.mp ht with rfl | ht
      · exact F.txt
      · exact h6 t ht
theorem fit_list {k w : Nat} {xs : List PyData} (h : ∀ d ∈ xs, Fit k w d) : Fit (k + 1) ((w + 1) * xs.length) (.list xs) := by
  obtain ⟨h1, h2, h3, h4, h5, h6⟩ := fit_all h
  refine ⟨?_, ?_, ?_, ?_, ?_, ?_⟩
  · simp only [PyData.showable, h1]
  · simp only [PyData.hasDict, h2]
  · simp only [PyData.leavesShort, h3]
  · simp only [PyData.depth]; omega
  · simp only [PyData.weight]; exact h5
  · simp only [PyData.shown]
    unfold listText
    exact strOk_app (strOk_text _ _ _ (strOk_of _) h6) (strOk_of _)
theorem fit_tuple {k w : Nat} {xs : List PyData} (h : ∀ d ∈ xs, Fit k w d) : Fit (k + 1) ((w + 1) * xs.length) (.tuple xs) := by
  obtain ⟨h1, h2, h3, h4, h5, h6⟩ := fit_all h
  refine ⟨?_, ?_, ?_, ?_, ?_, ?_⟩
  · simp only [PyData.showable, h1]
  · simp only [PyData.hasDict, h2]
  · simp only [PyData.leavesShort, h3]
  · simp only [PyData.depth]; omega
  · simp only [PyData.weight]; exact h5
  · simp only [PyData.shown]
    unfold tupleText
    exact strOk_app (strOk_app (strOk_of _) (strOk_join (strOk_of _) _ h6)) (strOk_of _)
theorem fit_le {k w k2 w2 : Nat} {d : PyData} (F : Fit k w d) (h1 : k ≤ k2) (h2 : w ≤ w2) : Fit k2 w2 d :=
  ⟨F.sho, F.nod, F.short, Nat.le_trans F.dep h1, Nat.le_trans F.wt h2, F.txt⟩
theorem fit_bool (b : Bool) : Fit 0 0 (.bool b) := ⟨rfl, rfl, rfl, Nat.le_refl _, Nat.le_refl _, by
  simp only [PyData.shown]
  cases b <;> exact strOk_of _⟩
theorem fit_int {i : Nat} (h : i < 10 ^ 6) : Fit 0 20 (.int (i : Nat)) := by
  have hlog : (i : Int).natAbs.log2 < 20 := by
    rw [Int.natAbs_natCast]
    by_cases h0 : i = 0
    · subst h0; decide
    · exact (Nat.log2_lt h0).mpr (by omega)
  refine ⟨?_, rfl, ?_, Nat.le_refl _, ?_, ?_⟩
  · simp only [PyData.showable, decide_eq_true_eq]; omega
  · simp only [PyData.leavesShort, decide_eq_true_eq]
    refine PyData.shown_int_le ?_
    rw [Int.natAbs_natCast]; omega
  · simp only [PyData.weight]; split <;> omega
  · simp only [PyData.shown]; exact strOk_of _
/-! ### orders as data -/
def pdO (n : Nat) (ps : List (Nat × Nat)) : PyData := .tuple [.int n, .tuple (ps.map pdP)]
theorem fit_pair {p : Nat × Nat} (h1 : p.1 < 10 ^ 6) (h2 : p.2 < 10 ^ 6) : Fit 1 42 (pdP p) :=
  fit_tuple (k := 0) (w := 20) (xs := [.int p.1, .int p.2]) fun d hd => by
    simp only [List.mem_cons, List.not_mem_nil, or_false] at hd
    rcases hd with rfl | rfl
    · exact fit_int h1
    · exact fit_int h2
theorem fit_ord {n : Nat} {ps : List (Nat × Nat)} (g : Good n ps) : Fit 3 86004 (pdO n ps) := by
  have hn := g.ok.le
  have hl := g.len
  have F1 : Fit 2 43000 (.tuple (ps.map pdP)) := by
    have := fit_tuple (k := 1) (w := 42) (xs := ps.map pdP) fun d hd => by
      obtain ⟨p, hp, rfl⟩ := List.mem_map.mp hd
      have := g.ok.in_ p hp
      exact fit_pair (by omega) (by omega)
    rw [List.length_map] at this
    exact fit_le this (Nat.le_refl _) (by omega)
  have F2 := fit_tuple (k := 2) (w := 43000) (xs := [.int n, .tuple (ps.map pdP)]) fun d hd => by
    simp only [List.mem_cons, List.not_mem_nil, or_false] at hd
    rcases hd with rfl | rfl
    · exact fit_le (fit_int (by omega)) (by omega) (by omega)
    · exact F1
  exact fit_le F2 (Nat.le_refl _) (by show 43001 * 2 ≤ 86004; omega)
theorem pd_int {st : Store} {k : Nat} {i : Int} : pd st k (.int i) = some (.int i) := by cases k <;> rfl
theorem pd_bl {st : Store} {k : Nat} {b : Bool} : pd st k (.bl b) = some (.bool b) := by cases k <;> rfl
theorem pd_pairK {st : Store} {k : Nat} {p : Nat × Nat} : pd st (k + 1) (pairD p) = some (pdP p) := by
  unfold pairD pdP
  rw [pd]
  simp only [List.map_cons, List.map_nil, pd_int, optAll]
  rfl
theorem optAll_map {α β γ : Type} {f : β → Option γ} {g : α → β} {h : α → γ} (hf : ∀ a, f (g a) = some (h a)) : ∀ l : List α, optAll ((l.map g).map f) = some (l.map h)
  | [] => rfl
  | a :: r => by
    rw [List.map_cons, List.map_cons, hf a, List.map_cons]
    simp only [optAll, optAll_map hf r]
theorem pd_ordK {st : Store} {k n : Nat} {ps : List (Nat × Nat)} : pd st (k + 3) (ordD n ps) = some (pdO n ps) := by
  unfold ordD pdO
  rw [pd]
  have e : pd st (k + 2) (.tup (ps.map pairD)) = some (.tuple (ps.map pdP)) := by
    rw [pd, optAll_map (fun p => pd_pairK)]; rfl
  simp only [List.map_cons, List.map_nil, pd_int, e, optAll]
  rfl
/-! ### repr -/
theorem repr_fit {x : D} {d : PyData} {st : Store} (hx : isRef x = true) (hp : pd st 16 x = some d) (F : Fit 60 (2 ^ 20) d) : fReprA [x] st = some (.ok (.str d.shown) st) := by
  have hs := PyData.shown_fits (B := 13) (by decide) (by decide) F.short F.wt
  rw [sizeLine_eq] at hs
  unfold fReprA
  rw [if_pos (show isRef1 [x] = true from hx)]
  unfold fRepr
  dsimp only
  rw [if_pos hx, hp]
  dsimp only
  rw [if_pos ⟨F.sho, F.nod, hs, by have := F.dep; omega⟩]
theorem pd_list {st : Store} {k r : Nat} {xs : List D} {ds : List PyData} (hc : cellL st r = some xs) (h : optAll (xs.map (pd st k)) = some ds) : pd st (k + 1) (.ref r) = some (.list ds) := by
  rw [pd, hc]
  dsimp only
  rw [h]; rfl
theorem shaped_str {a : Str} (h : PyData.strOk a = true) : SeqAt.shaped (.str a) = true := by
  unfold SeqAt.shaped
  rw [Bool.and_eq_true]
  exact ⟨by simp only [PyData.canLay0, h], rfl⟩
theorem fNe_str {a b : Str} {st : Store} (h1 : PyData.strOk a = true) (h2 : PyData.strOk b = true) : fNe (.str a) (.str b) st = some (.ok (.bl (!(a == b))) st) := by
  unfold fNe fEqG
  show (if SeqAt.shaped (.str a) = true ∧ SeqAt.shaped (.str b) = true then some (Out.ok (D.bl (if true = true then !PyData.eqv (.str a) (.str b) else PyData.eqv (.str a) (.str b))) st) else none) = _
  rw [if_pos ⟨shaped_str h1, shaped_str h2⟩]
  simp only [PyData.eqv]
  rfl
theorem fEq_str {a b : Str} {st : Store} (h1 : PyData.strOk a = true) (h2 : PyData.strOk b = true) : fEq (.str a) (.str b) st = some (.ok (.bl (a == b)) st) := by
  unfold fEq fEqG
  show (if SeqAt.shaped (.str a) = true ∧ SeqAt.shaped (.str b) = true then some (Out.ok (D.bl (if false = true then !PyData.eqv (.str a) (.str b) else PyData.eqv (.str a) (.str b))) st) else none) = _
  rw [if_pos ⟨shaped_str h1, shaped_str h2⟩]
  simp only [PyData.eqv]
  rfl
theorem fNe_same {a : Str} {st : Store} (h : PyData.strOk a = true) : fNe (.str a) (.str a) st = some (.ok (.bl false) st) := by
  rw [fNe_str h h, beq_self_eq_true]; rfl
end Mk01
set_option Elab.async false
set_option linter.all false
set_option autoImplicit false
set_option maxRecDepth 100000
set_option maxHeartbeats 1000000
namespace Mk01
open PySem PySem.Spec MP
theorem sAsg_run {f : FT} {g : G} {env env' : MP.Env} {st st1 : Store} {d : D} (hg : g env st = some (.ok d st1)) (hf : f d env = some env') : sAsg f g env st = some (.nx env', st1) := by
  unfold sAsg; rw [hg, sb_ok, hf]
theorem part_cases {t : D} {p : Str} (h : partOf t = some p) : p = "form" ∨ p = "many" ∨ p = "pairs" := by
  unfold partOf at h
  split at h
  · split at h
    · split at h
      · split at h
        · cases h
        · cases h; exact .inr (.inr rfl)
      · cases h; exact .inr (.inl rfl)
    · cases h; exact .inr (.inl rfl)
  · cases h; exact .inl rfl
theorem word_facts {p : Str} (h : p = "form" ∨ p = "many" ∨ p = "pairs") : PyData.strOk p = true ∧ PyData.strOk (reprText p) = true ∧ (reprText p).length ≤ 16777216 ∧ (p == "") = false := by
  rcases h with rfl | rfl | rfl
  · exact ⟨strOk_of _, by decide +kernel, by decide +kernel, by decide +kernel⟩
  · exact ⟨strOk_of _, by decide +kernel, by decide +kernel, by decide +kernel⟩
  · exact ⟨strOk_of _, by decide +kernel, by decide +kernel, by decide +kernel⟩
theorem repr_str {p : Str} {st : Store} (h : (reprText p).length ≤ 16777216) : fReprA [.str p] st = some (.ok (.str (reprText p)) st) := by
  show (if (reprText p).length ≤ 16777216 then some (Out.ok (D.str (reprText p)) st) else none) = _
  rw [if_pos h]
def boolT (b : Bool) : Str := if b then "True" else "False"
theorem repr_bl {b : Bool} {st : Store} : fReprA [.bl b] st = some (.ok (.str (boolT b)) st) := rfl
theorem strOk_boolT (b : Bool) : PyData.strOk (boolT b) = true := by cases b <;> exact strOk_of _
/-! ### lists of truth values, lists of orders -/
def evB (m : Nat) (d : D) : D := match d with
  | .int i => .bl (m.testBit i.toNat)
  | _ => .non
def bools (n m : Nat) : List D := (List.range n).map fun i => D.bl (m.testBit i)
def boolsP (n m : Nat) : List PyData := (List.range n).map fun i => PyData.bool (m.testBit i)
theorem evB_map {n m : Nat} : (mpTo n).map (evB m) = bools n m := by
  unfold mpTo bools
  rw [List.map_map]; rfl
theorem repr_bools {st : Store} {r n m : Nat} (hc : cellL st r = some (bools n m)) (hn : n ≤ 20) : fReprA [.ref r] st = some (.ok (.str (PyData.shown (.list (boolsP n m)))) st) ∧ PyData.strOk (PyData.shown (.list (boolsP n m))) = true := by
  have F := fit_list (k := 0) (w := 0) (xs := boolsP n m) fun d hd => by
    unfold boolsP at hd
    obtain ⟨i, _, rfl⟩ := List.mem_map.mp hd
    exact fit_bool _
  have hl : (boolsP n m).length = n := by unfold boolsP; simp
  refine ⟨repr_fit rfl (pd_list (k := 15) hc ?_) (fit_le F (by omega) (by rw [hl]; omega)), F.txt⟩
  unfold bools boolsP
  exact optAll_map (fun i => pd_bl) _
abbrev oD (o : Nat × List (Nat × Nat)) : D := ordD o.1 o.2
abbrev oP (o : Nat × List (Nat × Nat)) : PyData := pdO o.1 o.2
theorem repr_ords {st : Store} {r : Nat} {l : List (Nat × List (Nat × Nat))} (hc : cellL st r = some (l.map oD)) (hg : ∀ o ∈ l, Good o.1 o.2) (hl : l.length ≤ 12) : fReprA [.ref r] st = some (.ok (.str (PyData.shown (.list (l.map oP)))) st) ∧ PyData.strOk (PyData.shown (.list (l.map oP))) = true := by
  have F := fit_list (k := 3) (w := 86004) (xs := l.map oP) fun d hd => by
    obtain ⟨o, ho, rfl⟩ := List.mem_map.mp hd
    exact fit_ord (hg o ho)
  refine ⟨repr_fit rfl (pd_list (k := 15) hc (optAll_map (fun o => pd_ordK (k := 12)) _)) (fit_le F (by omega) (by rw [List.length_map]; omega)), F.txt⟩
/-! ### which orders are the same -/
theorem eqv_pdP (p q : Nat × Nat) : PyData.eqv (pdP p) (pdP q) = decide (p = q) := by
  obtain ⟨a, b⟩ := p
  obtain ⟨c, d⟩ := q
  unfold pdP
  simp only [PyData.eqv, PyData.eqvAll, Bool.and_true]
  rw [Bool.eq_iff_iff, Bool.and_eq_true, beq_iff_eq, beq_iff_eq, decide_eq_true_iff, Prod.mk.injEq]
  omega
theorem eqv_prs : ∀ l k : List (Nat × Nat), PyData.eqvAll (l.map pdP) (k.map pdP) = decide (l = k)
  | [], [] => rfl
  | [], b :: k => by simp [PyData.eqvAll]
  | a :: l, [] => by simp [PyData.eqvAll]
  | a :: l, b :: k => by
    rw [List.map_cons, List.map_cons]
    simp only [PyData.eqvAll]
    rw [eqv_pdP, eqv_prs l k, Bool.eq_iff_iff, Bool.and_eq_true, decide_eq_true_iff, decide_eq_true_iff, decide_eq_true_iff, List.cons.injEq]
theorem eqv_pdO {n m : Nat} {ps qs : List (Nat × Nat)} : PyData.eqv (pdO n ps) (pdO m qs) = decide (n = m ∧ ps = qs) := by
  unfold pdO
  simp only [PyData.eqv, PyData.eqvAll, Bool.and_true, eqv_prs]
  rw [Bool.eq_iff_iff, Bool.and_eq_true, beq_iff_eq, decide_eq_true_iff, decide_eq_true_iff]
  constructor
  · rintro ⟨h1, h2⟩; exact ⟨by omega, h2⟩
  · rintro ⟨h1, h2⟩; exact ⟨by omega, h2⟩
theorem canLay_prs : ∀ l : List (Nat × Nat), PyData.canLayAll0 (l.map pdP) = true
  | [] => rfl
  | p :: r => by
    rw [List.map_cons]
    unfold pdP
    simp only [PyData.canLayAll0, PyData.canLay0, Bool.true_and]
    exact canLay_prs r
theorem shaped_ord {n : Nat} {ps : List (Nat × Nat)} (g : Good n ps) : SeqAt.shaped (pdO n ps) = true := by
  unfold SeqAt.shaped
  rw [Bool.and_eq_true, decide_eq_true_iff]
  refine ⟨?_, Nat.le_trans (fit_ord g).dep (by omega)⟩
  unfold pdO
  simp only [PyData.canLay0, PyData.canLayAll0, canLay_prs, Bool.true_and]
theorem fEq_ord {n m : Nat} {ps qs : List (Nat × Nat)} {st : Store} (g : Good n ps) (h : Good m qs) : fEq (ordD n ps) (ordD m qs) st = some (.ok (.bl (decide (n = m ∧ ps = qs))) st) := by
  unfold fEq fEqG
  rw [show pd st 16 (ordD n ps) = some (pdO n ps) from pd_ordK (k := 13), show pd st 16 (ordD m qs) = some (pdO m qs) from pd_ordK (k := 13)]
  dsimp only
  rw [if_pos ⟨shaped_ord g, shaped_ord h⟩, eqv_pdO]; rfl
end Mk01
set_option Elab.async false
set_option linter.all false
set_option autoImplicit false
set_option maxRecDepth 100000
set_option maxHeartbeats 1000000
/-! Kb1: rows of ints as values, masks, what is shared with the law of lots. -/
namespace Mk01
open PySem PySem.Spec MP
theorem getD_lt {l : List Nat} {i d : Nat} (h : i < l.length) : l.getD i d = l[i] := by rw [List.getD_eq_getElem?_getD, List.getElem?_eq_getElem h]; rfl
def lotD (r : List Nat) : D := .tup (mI r)
def maskL (r : List Nat) : Nat := r.foldl (fun m x => m ||| 2 ^ x) 0
theorem maskL_test_aux {j : Nat} : ∀ (r : List Nat) (m : Nat), (r.foldl (fun m x => m ||| 2 ^ x) m).testBit j = true ↔ m.testBit j = true ∨ j ∈ r := by
  intro r
  induction r with
  | nil => intro m; simp
  | cons x r ih =>
    intro m
    rw [List.foldl_cons, ih, Nat.testBit_or, Bool.or_eq_true, Nat.testBit_two_pow, decide_eq_true_iff, List.mem_cons]
    constructor
    · rintro ((h | h) | h)
      · exact .inl h
      · exact .inr (.inl h.symm)
      · exact .inr (.inr h)
    · rintro (h | h | h)
      · exact .inl (.inl h)
      · exact .inl (.inr h.symm)
      · exact .inr h
theorem maskL_test {r : List Nat} {j : Nat} : (maskL r).testBit j = true ↔ j ∈ r := by
  unfold maskL
  rw [maskL_test_aux]
  simp
theorem mask_of_spec {r : List Nat} (hr : ∀ x ∈ r, x ≤ 100) (hl : r.length < 1000) (st : Store) : G_mask_of [lotD r] st = some (.ok (.int (maskL r)) st) := by
  refine gBody_rt (env := [some (lotD r), none, none]) ?_
  unfold S_mask_of
  refine (sSeq_nx (env' := [some (lotD r), some (.int 0), none]) (st' := st) (sSet_run rfl)).trans ?_
  have hm : (mI r).length = r.length := by unfold mI; rw [List.length_map]
  obtain ⟨env', t, r1, x, rfl, rfl⟩ := sFor_run (gi := gSeq (gv 0)) (f := tgName 2) (body := sAug 1 fOr (g2 fShl (gc (.int 1)) (gv 2))) (env := [some (lotD r), some (.int 0), none]) (st := st)
    (fun i env t => ∃ x, env = [some (lotD r), some (.int ((r.take i).foldl (fun m x => m ||| 2 ^ x) 0 : Nat)), x] ∧ t = st) (gSeq_tup (ds := mI r) rfl) ⟨none, rfl, rfl⟩ (fun i env t _ => rfl) (by
      rintro i d env t hd ⟨x, rfl, rfl⟩
      unfold mI at hd
      rw [List.getElem?_map] at hd
      obtain ⟨y, hy, rfl⟩ := Option.map_eq_some_iff.mp hd
      have hy1 := hr y (List.mem_of_getElem? hy)
      refine ⟨[some (lotD r), some (.int ((r.take i).foldl (fun m x => m ||| 2 ^ x) 0 : Nat)), some (.int y)], _, t, rfl, .inl (sAug_run rfl ((g2_run (x := .int 1) (y := .int y) rfl rfl).trans (fShl_one (by omega))) fOr_nat), some (.int y), ?_, rfl⟩
      rw [take_succ_get hy, List.foldl_append]
      rfl)
  rw [hm, List.take_length] at r1
  exact (sSeq_nx r1).trans rfl
def zL (l : List Int) : List D := l.map D.int
theorem zL_of_mI (r : List Nat) : mI r = zL (r.map fun (m : Nat) => (m : Int)) := by unfold mI zL; rw [List.map_map]; rfl
theorem copAll_zL : ∀ l : List Int, (zL l).map cop = zL l
  | [] => rfl
  | x :: l => by
    have := copAll_zL l
    unfold zL at this ⊢
    rw [List.map_cons, List.map_cons, this]
    congr 1
theorem cop_zL (l : List Int) : cop (.tup (zL l)) = .tup (zL l) := by
  conv => lhs; unfold cop
  rw [copAll_eq, copAll_zL]
theorem sz_zL : ∀ l : List Int, szAll (zL l) = l.length
  | [] => rfl
  | x :: l => by
    have := sz_zL l
    unfold zL at this ⊢
    rw [List.map_cons]
    unfold szAll
    rw [this, List.length_cons]
    unfold szD
    omega
theorem dep_zL : ∀ l : List Int, depAll (zL l) = 0
  | [] => rfl
  | x :: l => by
    have := dep_zL l
    unfold zL at this ⊢
    rw [List.map_cons]
    unfold depAll
    rw [this]
    unfold depD
    rfl
theorem in_zL {st : Store} : ∀ l : List Int, inAll st (zL l)
  | [] => by unfold inAll zL; trivial
  | x :: l => by
    have := in_zL (st := st) l
    unfold zL at this ⊢
    rw [List.map_cons]
    unfold inAll
    refine ⟨?_, this⟩
    unfold inSt
    trivial
theorem in_tup {st : Store} (l : List Int) : inSt st (.tup (zL l)) := by unfold inSt; exact in_zL l
theorem dep_tup (l : List Int) : depD (.tup (zL l)) ≤ 100 := by unfold depD; rw [dep_zL]; omega
theorem sz_tupz (l : List Int) : szD (.tup (zL l)) = 1 + l.length := by rw [sz_tup, sz_zL]
theorem asc_zL {l : List Int} : ascB ltI (zL l) = true ↔ ∀ i a b, l[i]? = some a → l[i + 1]? = some b → a < b := by
  have e : ∀ a b : Int, ltI (.int a) (.int b) = true ↔ a < b := fun a b => by
    show decide (a < b) = true ↔ _
    rw [decide_eq_true_iff]
  unfold ascB zL
  rw [List.all_eq_true]
  constructor
  · intro h i a b ha hb
    refine (e a b).mp ?_
    refine h _ (List.mem_of_getElem? (i := i) ?_)
    rw [List.getElem?_zipWith, List.getElem?_map, ha, List.getElem?_drop, Nat.add_comm, List.getElem?_map, hb]
    rfl
  · intro h x hx
    obtain ⟨i, hi, rfl⟩ := List.mem_iff_getElem.mp hx
    have hg : (List.zipWith ltI (l.map D.int) ((l.map D.int).drop 1))[i]? = some ((List.zipWith ltI (l.map D.int) ((l.map D.int).drop 1))[i]) := List.getElem?_eq_getElem hi
    rw [List.getElem?_zipWith, List.getElem?_map, List.getElem?_drop, Nat.add_comm, List.getElem?_map] at hg
    cases ha : l[i]? with
    | none => rw [ha] at hg; cases hg
    | some a =>
      cases hb : l[i + 1]? with
      | none => rw [ha, hb] at hg; cases hg
      | some b =>
        rw [ha, hb] at hg
        have := Option.some.inj hg
        rw [← this]
        exact (e a b).mpr (h i a b ha hb)
/-- a lot of items below n -/
structure LotOk (n : Nat) (r : List Nat) : Prop where
  asc : r.Pairwise (· < ·)
  in_ : ∀ x ∈ r, x < n
theorem LotOk.nodup {n : Nat} {r : List Nat} (h : LotOk n r) : r.Nodup := h.asc.imp Nat.ne_of_lt
theorem LotOk.len {n : Nat} {r : List Nat} (h : LotOk n r) : r.length ≤ n := nodup_small h.nodup h.in_
theorem LotOk.filter {n : Nat} {r : List Nat} (h : LotOk n r) (p : Nat → Bool) : LotOk n (r.filter p) := ⟨h.asc.filter p, fun x hx => h.in_ x (List.mem_filter.mp hx).1⟩
theorem LotOk.ext {n : Nat} {r q : List Nat} (h : LotOk n r) (k : LotOk n q) (e : ∀ x, x ∈ r ↔ x ∈ q) : r = q :=
  ((List.perm_ext_iff_of_nodup h.nodup k.nodup).mpr e).eq_of_pairwise (fun a b _ _ h1 h2 => absurd h1 (Nat.lt_asymm h2)) h.asc k.asc
theorem lotOk_bits {n m : Nat} : LotOk n (bits n m) := ⟨List.pairwise_lt_range.filter _, fun x hx => (bits_mem.mp hx).1⟩
theorem lotB_zL {n : Nat} {l : List Int} : lotB (.tup (zL l)) n = true ↔ (∀ x ∈ l, 0 ≤ x ∧ x < n) ∧ ∀ i a b, l[i]? = some a → l[i + 1]? = some b → a < b := by
  unfold lotB
  rw [Bool.and_eq_true, asc_zL, List.all_eq_true]
  refine and_congr_left fun _ => ?_
  constructor
  · intro h x hx
    obtain ⟨i, e, h1, h2⟩ := numB_int (h (.int x) (List.mem_map.mpr ⟨x, hx, rfl⟩))
    cases e
    omega
  · intro h d hd
    obtain ⟨x, hx, rfl⟩ := List.mem_map.mp hd
    have := h x hx
    unfold numB
    simp
    omega
theorem lotB_lotD {n : Nat} {r : List Nat} (h : LotOk n r) : lotB (lotD r) n = true := by
  unfold lotD
  rw [zL_of_mI]
  refine lotB_zL.mpr ⟨fun x hx => ?_, fun i a b ha hb => ?_⟩
  · obtain ⟨y, hy, rfl⟩ := List.mem_map.mp hx
    have := h.in_ y hy
    omega
  · rw [List.getElem?_map] at ha hb
    obtain ⟨x, hx, rfl⟩ := Option.map_eq_some_iff.mp ha
    obtain ⟨y, hy, rfl⟩ := Option.map_eq_some_iff.mp hb
    obtain ⟨h1, rfl⟩ := List.getElem?_eq_some_iff.mp hx
    obtain ⟨h2, rfl⟩ := List.getElem?_eq_some_iff.mp hy
    have := List.pairwise_iff_getElem.mp h.asc i (i + 1) h1 h2 (Nat.lt_succ_self i)
    omega
theorem maskL_lt {n : Nat} {r : List Nat} (h : LotOk n r) : maskL r < 2 ^ n := by
  refine Nat.lt_pow_two_of_testBit _ fun j hj => ?_
  cases q : (maskL r).testBit j with
  | false => rfl
  | true => have := h.in_ j (maskL_test.mp q); omega
theorem aCons_exN {g : G} {ga : GA} {env : MP.Env} {st st1 st2 : Store} {x : D} {c : Str} {fs : List D} (h : g env st = some (.ok x st1)) (h2 : ga env st1 = some (.ex c fs st2)) : aCons g ga env st = some (.ex c fs st2) := by
  unfold aCons; rw [h, rb_ok, h2]; rfl
theorem gCall_ex {n : Nat} {gf : GF} {ga : GA} {env : MP.Env} {st st1 : Store} {c : Str} {fs : List D} (h : ga env st = some (.ex c fs st1)) : gCall n gf ga env st = some (.ex c fs st1) := by
  unfold gCall; rw [h]; rfl
theorem sRet_xc {g : G} {env : MP.Env} {st st1 : Store} {c : Str} {fs : List D} (h : g env st = some (.ex c fs st1)) : sRet g env st = some (.xc c fs env, st1) := by
  unfold sRet; rw [h]; rfl
theorem sSet_xc {i : Nat} {g : G} {env : MP.Env} {st st1 : Store} {c : Str} {fs : List D} (h : g env st = some (.ex c fs st1)) : sSet i g env st = some (.xc c fs env, st1) := by
  unfold sSet; rw [h]; rfl
theorem pdz_all {st : Store} {k : Nat} : ∀ l : List Int, optAll ((zL l).map (pd st k)) = some (pI l) := fun l => optAll_ints l
theorem pd_tupz {st : Store} {k : Nat} (l : List Int) : pd st (k + 1) (.tup (zL l)) = some (.tuple (pI l)) := by
  rw [pd, pdz_all]; rfl
theorem eqv_pI : ∀ l k : List Int, PyData.eqvAll (pI l) (pI k) = decide (l = k)
  | [], [] => by simp [pI, PyData.eqvAll]
  | [], b :: k => by simp [pI, PyData.eqvAll]
  | a :: l, [] => by simp [pI, PyData.eqvAll]
  | a :: l, b :: k => by
    have := eqv_pI l k
    unfold pI at this ⊢
    rw [List.map_cons, List.map_cons]
    unfold PyData.eqvAll
    rw [this]
    have e : PyData.eqv (.int a) (.int b) = decide (a = b) := by
      show (a == b) = _
      rw [Bool.eq_iff_iff, beq_iff_eq, decide_eq_true_iff]
    rw [e, ← Bool.decide_and]
    simp
theorem shaped_tup (l : List Int) : SeqAt.shaped (.tuple (pI l)) = true := by
  unfold SeqAt.shaped
  rw [Bool.and_eq_true]
  constructor
  · induction l with
    | nil => rfl
    | cons a r ih =>
      unfold pI at ih ⊢
      rw [List.map_cons]
      simp only [PyData.canLay0, PyData.canLayAll0, Bool.true_and] at ih ⊢
      exact ih
  · have e : PyData.depthAll (pI l) = 0 := by
      induction l with
      | nil => rfl
      | cons a r ih =>
        unfold pI at ih ⊢
        rw [List.map_cons]
        simp only [PyData.depthAll, PyData.depth, ih]; rfl
    simp only [PyData.depth, e]
    rfl
theorem fEq_tupz {l k : List Int} {st : Store} : fEq (.tup (zL l)) (.tup (zL k)) st = some (.ok (.bl (decide (l = k))) st) := by
  unfold fEq fEqG
  rw [pd_tupz, pd_tupz]
  dsimp only
  rw [if_pos ⟨shaped_tup l, shaped_tup k⟩]
  simp only [PyData.eqv, eqv_pI]
  rfl
theorem fNe_tupz {l k : List Int} {st : Store} : fNe (.tup (zL l)) (.tup (zL k)) st = some (.ok (.bl (!decide (l = k))) st) := by
  unfold fNe fEqG
  rw [pd_tupz, pd_tupz]
  dsimp only
  rw [if_pos ⟨shaped_tup l, shaped_tup k⟩]
  simp only [PyData.eqv, eqv_pI]
  rfl
def nZ (r : List Nat) : List Int := r.map fun (m : Nat) => (m : Int)
theorem lotD_z (r : List Nat) : lotD r = .tup (zL (nZ r)) := by unfold lotD; rw [zL_of_mI]; rfl
theorem nZ_inj {r q : List Nat} : nZ r = nZ q ↔ r = q := by
  refine ⟨fun h => ?_, fun h => by rw [h]⟩
  unfold nZ at h
  exact (List.map_inj_right (fun a b e => Int.ofNat.inj e)).mp h
theorem fEq_lot {r q : List Nat} {st : Store} : fEq (lotD r) (lotD q) st = some (.ok (.bl (decide (r = q))) st) := by
  rw [lotD_z, lotD_z, fEq_tupz]
  simp only [nZ_inj]
theorem fNe_lot {r q : List Nat} {st : Store} : fNe (lotD r) (lotD q) st = some (.ok (.bl (!decide (r = q))) st) := by
  rw [lotD_z, lotD_z, fNe_tupz]
  simp only [nZ_inj]
theorem not_true {b : Bool} (h : ¬ b = true) : b = false := by cases b with | false => rfl | true => exact absurd rfl h
theorem Found.ix {n q y : Nat} {ps : List (Nat × Nat)} {s : Store} {refs : List Nat} (F : Found n ps q n s refs) (h : y < n) : ∃ a, fIx (.ref q) (.int y) s = some (.ok (.ref a) s) ∧ cellL s a = some (mI (bits n (am n ps y))) := by
  have hr : refs[y]? = some (refs[y]'(by rw [F.len]; exact h)) := List.getElem?_eq_getElem _
  refine ⟨_, fIx_ref F.cell ?_, (F.each y _ hr).2⟩
  rw [List.getElem?_map, hr]; rfl
theorem mI_len {r : List Nat} : (mI r).length = r.length := by unfold mI; rw [List.length_map]
def natB (p : Nat → Bool) (d : D) : Bool := match d with
  | .int z => p z.toNat
  | _ => false
theorem natB_filter (p : Nat → Bool) (r : List Nat) : ((mI r).filter (natB p)).map (fun d => d) = mI (r.filter p) := by
  unfold mI
  rw [List.filter_map, List.map_map]
  rfl
theorem eqNil_run {g : G} {env : MP.Env} {st st1 : Store} {k : Nat} {xs : List Nat} (h : g env st = some (.ok (.ref k) st1)) (hc : cellL st1 k = some (mI xs)) : ∃ st2, Pre st1 st2 ∧ gb1 (g2 fEq g (gLst aNil)) env st = some (.ok (decide (xs = [])) st2) := by
  refine ⟨st1 ++ [Cell.lst []], List.prefix_append _ _, gb1_run ((g2_run (x := .ref k) (y := .ref st1.length) h (gLst_run (xs := []) rfl (by simp))).trans ?_)⟩
  exact fEq_nats (Pre.cell (List.prefix_append _ _) hc) (k := []) cellL_new
theorem nil_iff {p : Nat → Bool} {r : List Nat} : r.filter p = [] ↔ ∀ y ∈ r, p y = false := by
  rw [List.filter_eq_nil_iff]
  exact forall_congr' fun y => forall_congr' fun _ => ⟨not_true, fun h => by rw [h]; exact Bool.false_ne_true⟩
theorem intD_all : ∀ l : List Int, optAll ((zL l).map intD) = some l
  | [] => rfl
  | a :: l => by
    have := intD_all l
    unfold zL at this ⊢
    rw [List.map_cons, List.map_cons]
    show optAll (some a :: (l.map D.int).map intD) = _
    unfold optAll
    rw [this]
theorem fSortSet_run {k : Nat} {st : Store} {xs : List Nat} (hc : cellL st k = some (mI xs)) (hl : xs.length < 64) : fSortSet [.ref k] st = some (.ok (.ref st.length) (st ++ [Cell.lst (zL (sortU (nZ xs)))])) := by
  unfold fSortSet
  dsimp only
  rw [show seqD st (.ref k) = some (mI xs) from hc]
  dsimp only
  rw [zL_of_mI, intD_all]
  dsimp only
  rw [if_pos (by rw [List.length_map]; exact hl)]
  rfl
theorem fAdd_lists {a b : Nat} {xs ys : List Nat} {st : Store} (h1 : cellL st a = some (mI xs)) (h2 : cellL st b = some (mI ys)) (hl : xs.length + ys.length ≤ 16777216) : fAdd (.ref a) (.ref b) st = some (.ok (.ref st.length) (st ++ [Cell.lst (mI (xs ++ ys))])) := by
  show fCatL (.ref a) (.ref b) st = _
  unfold fCatL
  dsimp only
  rw [h1, h2]
  dsimp only
  unfold fits
  rw [if_pos (by rw [List.length_append, mI_len, mI_len]; exact hl)]
  unfold mI
  rw [List.map_append]
end Mk01
set_option Elab.async false
set_option linter.all false
set_option autoImplicit false
set_option maxRecDepth 100000
set_option maxHeartbeats 1000000
/-! Kb2: drawn lots, texts of lots. -/
namespace Mk01
open PySem PySem.Spec MP
/-- a comprehension whose tests change what is there -/
theorem lcX_run {it : ItF} {f : FT} {tt : GT} {e : G} {env : MP.Env} {ds : List D} (Inv : Nat → List D → Store → Prop) (hit : ∀ i acc st, Inv i acc st → it i st = some ds[i]?)
    (step : ∀ i d acc st, ds[i]? = some d → Inv i acc st → ∃ env1 st1 b, f d env = some env1 ∧ tt env1 st = some (.ok b st1) ∧ (b = true → ∃ y st2, e env1 st1 = some (.ok y st2) ∧ Inv (i + 1) (acc ++ [y]) st2) ∧ (b = false → Inv (i + 1) acc st1)) :
    ∀ (k i : Nat) (acc : List D) (st : Store), k + i = ds.length → acc.length + k < 16777216 → Inv i acc st → ∃ acc' st', Inv ds.length acc' st' ∧ lcGo it f tt e env (k + 1) i acc st = some (acc', st')
  | 0, i, acc, st, hk, ha, hp => by
    obtain rfl : i = ds.length := by omega
    refine ⟨acc, st, hp, ?_⟩
    have hi : ds[ds.length]? = none := List.getElem?_eq_none (Nat.le_refl _)
    simp only [lcGo, hit _ _ st hp, hi]
  | k + 1, i, acc, st, hk, ha, hp => by
    have hl : i < ds.length := by omega
    have hi : ds[i]? = some ds[i] := List.getElem?_eq_getElem hl
    obtain ⟨env1, st1, b, h1, h2, h4, h5⟩ := step i _ acc st hi hp
    cases b with
    | true =>
      obtain ⟨y, st2, h6, h7⟩ := h4 rfl
      obtain ⟨acc', st', g1, g2⟩ := lcX_run Inv hit step k (i + 1) (acc ++ [y]) st2 (by omega) (by simp; omega) h7
      refine ⟨acc', st', g1, ?_⟩
      unfold lcGo
      simp only [hit i acc st hp, hi, h1, h2, h6, if_pos (show acc.length < 16777216 by omega)]
      exact g2
    | false =>
      obtain ⟨acc', st', g1, g2⟩ := lcX_run Inv hit step k (i + 1) acc st1 (by omega) (by omega) (h5 rfl)
      refine ⟨acc', st', g1, ?_⟩
      unfold lcGo
      simp only [hit i acc st hp, hi, h1, h2]
      exact g2
theorem gLcX_run {gi : GI} {it : ItF} {f : FT} {tt : GT} {e : G} {env : MP.Env} {st base : Store} {ds : List D} {vs : List Nat} (Inv : Nat → List D → Store → Prop) (hgi : gi env st = some (.ok (it, ds.length + 1) base)) (hb : Inv 0 [] base) (hl : ds.length < 16777216) (hit : ∀ i acc s, Inv i acc s → it i s = some ds[i]?)
    (step : ∀ i d acc st, ds[i]? = some d → Inv i acc st → ∃ env1 st1 b, f d (wipeD env vs) = some env1 ∧ tt env1 st = some (.ok b st1) ∧ (b = true → ∃ y st2, e env1 st1 = some (.ok y st2) ∧ Inv (i + 1) (acc ++ [y]) st2) ∧ (b = false → Inv (i + 1) acc st1)) :
    ∃ acc st', Inv ds.length acc st' ∧ gLc gi f tt e vs env st = some (.ok (.ref st'.length) (st' ++ [Cell.lst acc])) := by
  obtain ⟨acc, st', h1, h2⟩ := lcX_run Inv hit step ds.length 0 [] base (by omega) (by simpa using hl) hb
  refine ⟨acc, st', h1, ?_⟩
  unfold gLc
  rw [hgi, rb_ok, h2]
  rfl
theorem LotOk.nil {n : Nat} : LotOk n [] := ⟨List.Pairwise.nil, by simp⟩
theorem LotOk.mono {n m : Nat} {r : List Nat} (h : LotOk n r) (k : n ≤ m) : LotOk m r := ⟨h.asc, fun x hx => Nat.lt_of_lt_of_le (h.in_ x hx) k⟩
theorem LotOk.add {n : Nat} {r : List Nat} (h : LotOk n r) : LotOk (n + 1) (r ++ [n]) := by
  refine ⟨?_, fun x hx => ?_⟩
  · rw [List.pairwise_append]
    exact ⟨h.asc, by simp, fun a ha b hb => by rw [List.mem_singleton] at hb; rw [hb]; exact h.in_ a ha⟩
  · rcases List.mem_append.mp hx with q | q
    · have := h.in_ x q; omega
    · rw [List.mem_singleton] at q; omega
theorem mI_add (r : List Nat) (x : Nat) : mI r ++ [.int x] = mI (r ++ [x]) := by unfold mI; rw [List.map_append]; rfl
theorem law_lot_spec {s c l N n : Nat} {st : Store} (S : LSt s c l N st) (hn : n ≤ 7) (hN : N < 2 ^ 39) : ∃ r st', LotOk n r ∧ G__law_lot [.ref s, .int n] st = some (.ok (lotD r) st') ∧ LSt s c l (N + 8) st' := by
  obtain ⟨th, s1, d1, _, S1, m1⟩ := draw_run (many := 4) (env := [some (.ref s), some (.int n), none, none]) (g := gc (.int 4)) S rfl rfl (by decide) (by decide) (by omega)
  have e1 : g2 fAdd (gc (.int 1)) (gCall 2 G__law_draw (aCons (gv 0) (aCons (gc (.int 4)) aNil))) [some (.ref s), some (.int n), none, none] st = some (.ok (.int (1 + (th : Int))) s1) := (g2_run (x := .int 1) rfl d1).trans fAdd_int
  obtain ⟨acc, s2, ⟨r, rfl, hr, S2⟩, v2⟩ := gLcX_run (gi := gRng1 (aCons (gv 1) aNil)) (it := itR 0 n) (f := tgName 3) (tt := gb1 (g2 fLt (gCall 2 G__law_draw (aCons (gv 0) (aCons (gc (.int 5)) aNil))) (gv 2))) (e := gv 3) (env := [some (.ref s), some (.int n), some (.int (1 + (th : Int))), none]) (st := s1) (base := s1) (ds := mpTo n) (vs := [3])
    (fun i acc t => ∃ r, acc = mI r ∧ LotOk i r ∧ LSt s c l (N + 1 + i) t) (by rw [mpTo_length]; exact gRng1_run (aCons1 rfl) (by omega)) ⟨[], rfl, LotOk.nil, S1⟩ (by rw [mpTo_length]; omega) (fun i acc t _ => itR_mpTo) (by
      rintro i d acc t hd ⟨r, rfl, hr, St⟩
      rw [mpTo_at] at hd
      have hi : i < n := by
        by_cases h : i < n
        · exact h
        · rw [if_neg h] at hd; cases hd
      rw [if_pos hi] at hd
      cases hd
      obtain ⟨y, t1, d2, _, S3, _⟩ := draw_run (many := 5) (env := [some (.ref s), some (.int n), some (.int (1 + (th : Int))), some (.int (i : Nat))]) (g := gc (.int 5)) St rfl rfl (by decide) (by decide) (by omega)
      refine ⟨[some (.ref s), some (.int n), some (.int (1 + (th : Int))), some (.int (i : Nat))], t1, decide ((y : Int) < 1 + (th : Int)), rfl, gb1_run ((g2_run d2 rfl).trans fLt_int), fun _ => ⟨.int (i : Nat), t1, rfl, r ++ [i], mI_add r i, hr.add, S3⟩, fun _ => ⟨r, rfl, hr.mono (Nat.le_succ _), S3⟩⟩)
  rw [mpTo_length] at hr S2
  refine ⟨r, s2 ++ [Cell.lst (mI r)], hr, gBody_rt (env := [some (.ref s), some (.int n), none, none]) ?_, (S2.le (by omega)).pre (List.prefix_append _ _)⟩
  unfold S__law_lot
  refine (sSeq_nx (env' := [some (.ref s), some (.int n), some (.int (1 + (th : Int))), none]) (st' := s1) (sSet_run e1)).trans (sRet_run ?_)
  exact (gFn1_run v2).trans (fTuple_ref cellL_new)
theorem fNotIn_lot {y : Nat} {r : List Nat} {st : Store} : fIn true (.int y) (lotD r) st = some (.ok (.bl (!decide (y ∈ r))) st) := by
  unfold fIn
  rw [if_neg (show ¬ isDc st (lotD r) = true from Bool.false_ne_true), if_pos (show isFl (.int y) = true from rfl)]
  unfold fInF
  rw [show seqD st (lotD r) = some (mI r) from rfl]
  dsimp only
  rw [anyF_nat]
  rfl
theorem fAdd_tups {xs ys : List D} {st : Store} (h : xs.length + ys.length ≤ 16777216) : fAdd (.tup xs) (.tup ys) st = some (.ok (.tup (xs ++ ys)) st) := by
  show fCatT (.tup xs) (.tup ys) st = _
  unfold fCatT fits
  dsimp only
  rw [if_pos (by rw [List.length_append]; exact h)]
theorem fAdd_cells {a b : Nat} {xs ys : List D} {st : Store} (h1 : cellL st a = some xs) (h2 : cellL st b = some ys) (hl : xs.length + ys.length ≤ 16777216) : fAdd (.ref a) (.ref b) st = some (.ok (.ref st.length) (st ++ [Cell.lst (xs ++ ys)])) := by
  show fCatL (.ref a) (.ref b) st = _
  unfold fCatL
  dsimp only
  rw [h1, h2]
  dsimp only
  unfold fits
  rw [if_pos (by rw [List.length_append]; exact hl)]
abbrev envW (o : D) (q f : Nat) (x3 x4 x5 : Option D) : MP.Env := [some o, some (.ref q), some (.ref f), x3, x4, x5, none]
abbrev testW : GT := gb1 (g2 fEq (gLc (gSeq (g2 fIx (gv 1) (gv 3))) (tgName 6) (gb1 (g2 (fIn true) (gv 6) (gv 5))) (gc (.int 1)) [6]) (gLst aNil))
def lackL (n : Nat) (ps : List (Nat × Nat)) (i : Nat) (r : List Nat) : List Nat := (bits n (am n ps i)).filter fun y => !decide (y ∈ r)
theorem testW_run {n q i f : Nat} {ps : List (Nat × Nat)} {r refs : List Nat} {s : Store} {x4 : Option D} (hn : n ≤ 20) (hi : i < n) (F : Found n ps q n s refs) : ∃ s', Pre s s' ∧ testW (envW (ordD n ps) q f (some (.int i)) x4 (some (lotD r))) s = some (.ok (decide (lackL n ps i r = [])) s') := by
  obtain ⟨a, a1, a2⟩ := F.ix hi
  have hl := bits_len (n := n) (m := am n ps i)
  obtain ⟨s3, k, v1, v2, v3, _⟩ := gLc_run (gi := gSeq (g2 fIx (gv 1) (gv 3))) (it := itC a) (f := tgName 6) (tt := gb1 (g2 (fIn true) (gv 6) (gv 5))) (e := gc (.int 1)) (env := envW (ordD n ps) q f (some (.int i)) x4 (some (lotD r))) (st := s) (base := s) (ds := mI (bits n (am n ps i))) (vs := [6])
    (natB fun y => !decide (y ∈ r)) (fun _ => .int (1 : Nat)) (gSeq_ref ((g2_run (x := .ref q) (y := .int i) rfl rfl).trans a1) a2) Pre.rfl (by rw [mI_len]; omega) (fun j s' h => itC_pre a2 h) (by
      intro d hd t hpt
      obtain ⟨y, hy, rfl⟩ := List.mem_map.mp hd
      exact ⟨[some (ordD n ps), some (.ref q), some (.ref f), some (.int i), x4, some (lotD r), some (.int y)], t, rfl, gb1_run ((g2_run (x := .int y) (y := lotD r) rfl rfl).trans fNotIn_lot), Pre.rfl, fun _ => ⟨t, rfl, Pre.rfl⟩⟩)
  have e : ((mI (bits n (am n ps i))).filter (natB fun y => !decide (y ∈ r))).map (fun _ => D.int (1 : Nat)) = mI ((lackL n ps i r).map fun _ => 1) := by
    unfold mI lackL
    rw [List.filter_map, List.map_map, List.map_map]
    rfl
  rw [e] at v3
  obtain ⟨s4, w1, w2⟩ := eqNil_run v2 v3
  refine ⟨s4, v1.tr w1, w2.trans ?_⟩
  simp only [List.map_eq_nil_iff]
theorem lack_iff {n i : Nat} {ps : List (Nat × Nat)} {r : List Nat} (ok : OrdOk n ps) (hi : i < n) : lackL n ps i r = [] ↔ ∀ j, (am n ps i).testBit j = true → j ∈ r := by
  unfold lackL
  rw [nil_iff]
  constructor
  · intro h j hj
    have := am_lt ok i hi j hj
    have := h j (bits_mem.mpr ⟨by omega, hj⟩)
    simpa using this
  · intro h y hy
    have := h y (bits_mem.mp hy).2
    simpa using this
abbrev bodyW : GS := sIf testW (sExpr (gMethL fAppend (gv 4) (aCons (g2 fAdd (gv 5) (gTup (aCons (gv 3) aNil))) aNil))) sNext
theorem tiD_lots : ∀ rows : List (List Nat), optAll ((rows.map lotD).map tiD) = some (rows.map nZ)
  | [] => rfl
  | r :: rows => by
    rw [List.map_cons, List.map_cons, List.map_cons]
    have e : tiD (lotD r) = some (nZ r) := by
      rw [lotD_z]
      unfold tiD
      exact intD_all _
    rw [e]
    unfold optAll
    rw [tiD_lots rows]
theorem fit_small {i : Int} (h : i.natAbs < 10 ^ 6) : Fit 0 20 (.int i) := by
  have hlog : i.natAbs.log2 < 20 := by
    by_cases h0 : i.natAbs = 0
    · rw [h0]; decide
    · exact (Nat.log2_lt h0).mpr (by omega)
  refine ⟨?_, rfl, ?_, Nat.le_refl _, ?_, ?_⟩
  · simp only [PyData.showable, decide_eq_true_eq]; omega
  · simp only [PyData.leavesShort, decide_eq_true_eq]
    refine PyData.shown_int_le ?_
    omega
  · simp only [PyData.weight]; split <;> omega
  · simp only [PyData.shown]; exact strOk_of _
theorem fit_pI {l : List Int} (h : ∀ i ∈ l, i.natAbs < 10 ^ 6) : ∀ d ∈ pI l, Fit 0 20 d := fun d hd => by
  obtain ⟨i, hi, rfl⟩ := List.mem_map.mp hd
  exact fit_small (h i hi)
theorem len_pI {l : List Int} : (pI l).length = l.length := by unfold pI; rw [List.length_map]
theorem nZ_small {n : Nat} {r : List Nat} (h : LotOk n r) (hn : n ≤ 20) : ∀ i ∈ nZ r, i.natAbs < 10 ^ 6 := fun i hi => by
  obtain ⟨x, hx, rfl⟩ := List.mem_map.mp hi
  have := h.in_ x hx
  omega
theorem len_nZ {r : List Nat} : (nZ r).length = r.length := by unfold nZ; rw [List.length_map]
theorem fit_lot {n : Nat} {r : List Nat} (h : LotOk n r) (hn : n ≤ 20) : Fit 1 420 (.tuple (pI (nZ r))) := by
  have hl := h.len
  exact fit_le (fit_tuple (fit_pI (nZ_small h hn))) (by omega) (by rw [len_pI, len_nZ]; omega)
theorem pd_lot {st : Store} {k : Nat} (r : List Nat) : pd st (k + 1) (lotD r) = some (.tuple (pI (nZ r))) := by rw [lotD_z]; exact pd_tupz _
theorem repr_lot {n : Nat} {r : List Nat} {st : Store} (h : LotOk n r) (hn : n ≤ 20) : fReprA [lotD r] st = some (.ok (.str (PyData.shown (.tuple (pI (nZ r))))) st) :=
  repr_fit rfl (pd_lot r) (fit_le (fit_lot h hn) (by omega) (by omega))
theorem pd_pre {st st' : Store} (hp : Pre st st') : ∀ {k : Nat} {t : D} {p : PyData}, pd st k t = some p → pd st' k t = some p := by
  intro k
  induction k with
  | zero =>
    intro t p h
    cases t <;> first | exact h | (simp only [pd] at h; cases h)
  | succ k ih =>
    have all : ∀ (ds : List D) (l : List PyData), optAll (ds.map (pd st k)) = some l → optAll (ds.map (pd st' k)) = some l := by
      intro ds
      induction ds with
      | nil => intro l h; exact h
      | cons d ds ih2 =>
        intro l h
        rw [List.map_cons] at h ⊢
        cases q : pd st k d with
        | none => rw [q] at h; cases h
        | some a =>
          rw [q] at h
          rw [ih q]
          unfold optAll at h ⊢
          cases q2 : optAll (ds.map (pd st k)) with
          | none => rw [q2] at h; cases h
          | some m => rw [q2] at h; rw [ih2 m q2]; exact h
    intro t p h
    cases t with
    | tup ds =>
      simp only [pd] at h ⊢
      cases q : optAll (ds.map (pd st k)) with
      | none => rw [q] at h; cases h
      | some m => rw [q] at h; rw [all ds m q]; exact h
    | rol ds =>
      simp only [pd] at h ⊢
      cases q : optAll (ds.map (pd st k)) with
      | none => rw [q] at h; cases h
      | some m => rw [q] at h; rw [all ds m q]; exact h
    | ref n =>
      simp only [pd] at h ⊢
      cases qc : cellL st n with
      | none => rw [qc] at h; cases h
      | some ds =>
        rw [hp.cell qc]
        rw [qc] at h
        dsimp only at h ⊢
        cases q : optAll (ds.map (pd st k)) with
        | none => rw [q] at h; cases h
        | some m => rw [q] at h; rw [all ds m q]; exact h
    | _ => exact h
end Mk01
set_option Elab.async false
set_option linter.all false
set_option autoImplicit false
set_option maxRecDepth 100000
set_option maxHeartbeats 1000000
/-! Kb3: which values are lower sets. -/
namespace Mk01
open PySem PySem.Spec MP
theorem call2 {gf : GF} {ga gb : G} {env : MP.Env} {st st1 st2 : Store} {x y : D} {o : Option (Out D)} (ha : ga env st = some (.ok x st1)) (hb : gb env st1 = some (.ok y st2)) (h : gf [x, y] st2 = o) : gCall 2 gf (aCons ga (aCons gb aNil)) env st = o := (gCall_of (ds := [x, y]) (aConsN ha (aCons1 hb)) rfl).trans h
theorem call3 {gf : GF} {ga gb gc_ : G} {env : MP.Env} {st st1 st2 st3 : Store} {x y z : D} {o : Option (Out D)} (ha : ga env st = some (.ok x st1)) (hb : gb env st1 = some (.ok y st2)) (hc : gc_ env st2 = some (.ok z st3)) (h : gf [x, y, z] st3 = o) : gCall 3 gf (aCons ga (aCons gb (aCons gc_ aNil))) env st = o := (gCall_of (ds := [x, y, z]) (aConsN ha (aConsN hb (aCons1 hc))) rfl).trans h
def withinB (a b : Nat) : Bool := (a &&& b) == a
theorem within_iff {a b : Nat} : withinB a b = true ↔ ∀ j, a.testBit j = true → b.testBit j = true := by
  unfold withinB
  rw [beq_iff_eq]
  constructor
  · intro h j hj
    have := congrArg (fun m => Nat.testBit m j) h
    simp only [Nat.testBit_and, hj, Bool.true_and] at this
    exact this
  · intro h
    refine Nat.eq_of_testBit_eq fun j => ?_
    rw [Nat.testBit_and]
    cases q : a.testBit j with
    | false => rfl
    | true => rw [h j q]; rfl
theorem is_within_spec (a b : Nat) (st : Store) : G_is_within [.int a, .int b] st = some (.ok (.bl (withinB a b)) st) := by
  refine gBody_rt (env := [some (.int a), some (.int b)]) (sRet_run ?_)
  refine (g2_run (x := .int (a &&& b : Nat)) (y := .int a) ((g2_run (x := .int a) (y := .int b) rfl rfl).trans fAnd_nat) rfl).trans (fEq_int.trans ?_)
  have e : (((a &&& b : Nat) : Int) == (a : Int)) = withinB a b := by
    unfold withinB
    rw [Bool.eq_iff_iff, beq_iff_eq, beq_iff_eq]
    omega
  rw [e]
/-- a lower set -/
structure Low (n : Nat) (ps : List (Nat × Nat)) (r : List Nat) : Prop where
  lot : LotOk n r
  down : ∀ x ∈ r, ∀ j, (am n ps x).testBit j = true → j ∈ r
def lowB (n : Nat) (ps : List (Nat × Nat)) (m : Nat) : Bool := (bits n m).all fun i => withinB (am n ps i) m
theorem low_iff {n : Nat} {ps : List (Nat × Nat)} {r : List Nat} (h : LotOk n r) : lowB n ps (maskL r) = true ↔ Low n ps r := by
  unfold lowB
  rw [List.all_eq_true]
  constructor
  · intro k
    refine ⟨h, fun x hx j hj => ?_⟩
    exact maskL_test.mp (within_iff.mp (k x (bits_mem.mpr ⟨h.in_ x hx, maskL_test.mpr hx⟩)) j hj)
  · intro k i hi
    refine within_iff.mpr fun j hj => ?_
    exact maskL_test.mpr (k.down i (maskL_test.mp (bits_mem.mp hi).2) j hj)
theorem am_at {n l : Nat} {ps : List (Nat × Nat)} (h : l < n) : (masksM n ps)[l]? = some (am n ps l) := by
  unfold am
  rw [List.getD_eq_getElem?_getD, List.getElem?_eq_getElem (by rw [masksM_length]; exact h)]; rfl
def evW (n : Nat) (ps : List (Nat × Nat)) (m : Nat) (d : D) : D := .bl (natB (fun i => withinB (am n ps i) m) d)
theorem is_lower_mask_spec {n k m : Nat} {ps : List (Nat × Nat)} (ok : OrdOk n ps) {st : Store} (hc : cellL st k = some (mI (masksM n ps))) (hm : m < 2 ^ n) : ∃ st', Pre st st' ∧ G_is_lower_mask [.ref k, .int m] st = some (.ok (.bl (lowB n ps m)) st') := by
  have hn := ok.le
  obtain ⟨s2, q1, q2⟩ := lot_of_spec n m st hm (by omega)
  have hl := bits_len (n := n) (m := m)
  obtain ⟨s3, j, v1, v2, v3, _⟩ := gLc_run (gi := gSeq (gCall 1 G_lot_of (aCons (gv 1) aNil))) (it := itL (mI (bits n m))) (f := tgName 2) (tt := ttYes) (e := gCall 2 G_is_within (aCons (g2 fIx (gv 0) (gv 2)) (aCons (gv 1) aNil))) (env := [some (.ref k), some (.int m), none]) (st := st) (base := s2) (ds := mI (bits n m)) (vs := [2])
    (fun _ => true) (evW n ps m) (gSeq_tup ((gCall1_run rfl).trans q2)) q1 (by rw [mI_len]; omega) (fun j s' _ => rfl) (by
      intro d hd t hpt
      obtain ⟨x, hx, rfl⟩ := List.mem_map.mp hd
      have hxn := (bits_mem.mp hx).1
      refine ⟨[some (.ref k), some (.int m), some (.int x)], t, rfl, rfl, Pre.rfl, fun _ => ⟨t, ?_, Pre.rfl⟩⟩
      exact call2 ((g2_run (x := .ref k) (y := .int x) rfl rfl).trans (fIx_ref ((q1.tr hpt).cell hc) (mI_at (am_at hxn)))) (y := .int m) rfl (is_within_spec _ _ _))
  have e : ((mI (bits n m)).filter fun _ => true).map (evW n ps m) = ((bits n m).map fun i => withinB (am n ps i) m).map D.bl := by
    unfold mI
    rw [List.filter_eq_self.mpr (fun _ _ => rfl), List.map_map, List.map_map]
    rfl
  rw [e] at v3
  refine ⟨s3, v1, gBody_rt (env := [some (.ref k), some (.int m), none]) (sRet_run ?_)⟩
  rw [gFn1_run v2, fAll_bl v3]
  unfold lowB
  rw [List.all_map]
  rfl
theorem lot_facts {n : Nat} {r : List Nat} (h : LotOk n r) (hn : n ≤ 20) : (∀ x ∈ r, x ≤ 100) ∧ r.length < 1000 := by
  refine ⟨fun x hx => ?_, ?_⟩
  · have := h.in_ x hx
    omega
  · have := h.len
    omega
theorem cop_lotD (r : List Nat) : cop (lotD r) = lotD r := by rw [lotD_z, cop_zL]
theorem sz_lotD (r : List Nat) : szD (lotD r) = 1 + r.length := by rw [lotD_z, sz_tupz, len_nZ]
theorem plain_lower_lot {n : Nat} {ps : List (Nat × Nat)} {r : List Nat} (g : Good n ps) (h : LotOk n r) (st : Store) : ∃ st', Pre st st' ∧ G_is_plain_lower [ordD n ps, lotD r] st = some (.ok (.bl (lowB n ps (maskL r))) st') := by
  have hl := h.len
  have hn := g.ok.le
  obtain ⟨f1, f2⟩ := lot_facts h hn
  obtain ⟨s1, p1, e1⟩ := is_lot_cop (lotD r) n st (by rw [sz_lotD]; omega)
  rw [cop_lotD, lotB_lotD h] at e1
  obtain ⟨s2, k, p2, e2, c2, _⟩ := masks_ahead_spec g.ok s1
  have e3 := mask_of_spec f1 f2 s2
  obtain ⟨s4, p4, e4⟩ := is_lower_mask_spec g.ok c2 (maskL_lt h)
  refine ⟨s4, (p1.tr p2).tr p4, gBody_rt (env := [some (ordD n ps), some (lotD r)]) (sRet_run ?_)⟩
  refine (gAnd_t (call2 (x := lotD r) rfl ((g2_run (x := ordD n ps) (y := .int 0) rfl rfl).trans (fIx_tup (i := 0) rfl)) e1)).trans ?_
  exact call2 ((gCall1_run (x := ordD n ps) (st1 := s1) rfl).trans e2) ((gCall1_run (x := lotD r) (st1 := s2) rfl).trans e3) e4
theorem plain_lower_no {n : Nat} {ps : List (Nat × Nat)} {t : D} (hz : szD t ≤ 200000) (h : lotB (cop t) n = false) (st : Store) : ∃ st', Pre st st' ∧ G_is_plain_lower [ordD n ps, cop t] st = some (.ok (.bl false) st') := by
  obtain ⟨s1, p1, e1⟩ := is_lot_cop t n st hz
  rw [h] at e1
  refine ⟨s1, p1, gBody_rt (env := [some (ordD n ps), some (cop t)]) (sRet_run ?_)⟩
  exact gAnd_f (call2 (x := cop t) rfl ((g2_run (x := ordD n ps) (y := .int 0) rfl rfl).trans (fIx_tup (i := 0) rfl)) e1)
/-- a value that can be looked at -/
structure Nice (st : Store) (t : D) : Prop where
  dep : depD t ≤ 100
  sz : szD t ≤ 200000
  in_ : inSt st t
theorem Nice.pre {st st' : Store} {t : D} (h : Nice st t) (p : Pre st st') : Nice st' t := ⟨h.dep, h.sz, inSt.le p.length_le t h.in_⟩
theorem nice_tup {l : List Int} {st : Store} (h : l.length ≤ 1000) : Nice st (.tup (zL l)) := ⟨dep_tup l, by rw [sz_tupz]; omega, in_tup l⟩
theorem nice_lot {n : Nat} {r : List Nat} {st : Store} (h : LotOk n r) (hn : n ≤ 20) : Nice st (lotD r) := by
  have := h.len
  rw [lotD_z]
  exact nice_tup (by rw [len_nZ]; omega)
/-- a value that is no lower set -/
structure NoLow (n : Nat) (ps : List (Nat × Nat)) (st : Store) (t : D) : Prop where
  nice : Nice st t
  no : (∃ r, t = lotD r ∧ LotOk n r ∧ ¬ Low n ps r) ∨ lotB (cop t) n = false
theorem NoLow.pre {n : Nat} {ps : List (Nat × Nat)} {st st' : Store} {t : D} (h : NoLow n ps st t) (p : Pre st st') : NoLow n ps st' t := ⟨h.nice.pre p, h.no⟩
theorem plain_lower_bad {n : Nat} {ps : List (Nat × Nat)} {t : D} {st : Store} (g : Good n ps) (h : NoLow n ps st t) (s : Store) : ∃ s', Pre s s' ∧ G_is_plain_lower [ordD n ps, cop t] s = some (.ok (.bl false) s') := by
  rcases h.no with ⟨r, rfl, hr, hno⟩ | q
  · rw [cop_lotD]
    obtain ⟨s1, p1, e1⟩ := plain_lower_lot g hr s
    rw [not_true fun z => hno ((low_iff hr).mp z)] at e1
    exact ⟨s1, p1, e1⟩
  · exact plain_lower_no h.nice.sz q s
theorem plain_lower_low {n : Nat} {ps : List (Nat × Nat)} {r : List Nat} (g : Good n ps) (h : Low n ps r) (s : Store) : ∃ s', Pre s s' ∧ G_is_plain_lower [ordD n ps, lotD r] s = some (.ok (.bl true) s') := by
  obtain ⟨s1, p1, e1⟩ := plain_lower_lot g h.lot s
  rw [(low_iff h.lot).mpr h] at e1
  exact ⟨s1, p1, e1⟩
theorem plain_lot {n : Nat} {r : List Nat} (h : LotOk n r) (hn : n ≤ 20) (st : Store) : ∃ st', Pre st st' ∧ G_plain [lotD r] st = some (.ok (lotD r) st') := by
  have N := nice_lot (st := st) h hn
  obtain ⟨s1, p1, e1⟩ := plain_spec (lotD r) st N.dep N.sz N.in_
  rw [cop_lotD] at e1
  exact ⟨s1, p1, e1⟩
theorem wanted_lower_low {n : Nat} {ps : List (Nat × Nat)} {r : List Nat} (g : Good n ps) (h : Low n ps r) (st : Store) : ∃ st', Pre st st' ∧ G_wanted_lower [ordD n ps, lotD r] st = some (.ok (lotD r) st') := by
  obtain ⟨s1, p1, e1⟩ := plain_lot h.lot g.ok.le st
  obtain ⟨s2, p2, e2⟩ := plain_lower_low g h s1
  refine ⟨s2, p1.tr p2, gBody_rt (env := [some (ordD n ps), some (lotD r), none]) ?_⟩
  unfold S_wanted_lower
  refine (sSeq_nx (env' := [some (ordD n ps), some (lotD r), some (lotD r)]) (st' := s1) (sSet_run ((gCall1_run rfl).trans e1))).trans ?_
  exact (seqIf_f (gNotT_run (gb1_run (call2 (x := ordD n ps) (y := lotD r) rfl rfl e2)))).trans rfl
theorem wanted_lower_bad {n : Nat} {ps : List (Nat × Nat)} {t : D} {st : Store} (g : Good n ps) (h : NoLow n ps st t) : ∃ st', Pre st st' ∧ G_wanted_lower [ordD n ps, t] st = some (.ex "BadLower" [t] st') := by
  obtain ⟨s1, p1, e1⟩ := plain_spec t st h.nice.dep h.nice.sz h.nice.in_
  obtain ⟨s2, p2, e2⟩ := plain_lower_bad g h s1
  refine ⟨s2, p1.tr p2, gBody_xc (env := [some (ordD n ps), some t, none]) (e := [some (ordD n ps), some t, some (cop t)]) ?_⟩
  unfold S_wanted_lower
  refine (sSeq_nx (env' := [some (ordD n ps), some t, some (cop t)]) (st' := s1) (sSet_run ((gCall1_run rfl).trans e1))).trans ?_
  exact seqIf_x (gNotT_run (gb1_run (call2 (x := ordD n ps) (y := cop t) rfl rfl e2))) (raise_run (d := t) rfl)
theorem is_lower_low {n : Nat} {ps : List (Nat × Nat)} {r : List Nat} (g : Good n ps) (h : Low n ps r) (st : Store) : ∃ st', Pre st st' ∧ G_is_lower [ordD n ps, lotD r] st = some (.ok (.bl true) st') := by
  obtain ⟨s0, p0, e0⟩ := wanted_good g st
  obtain ⟨s1, p1, e1⟩ := plain_lot h.lot g.ok.le s0
  obtain ⟨s2, p2, e2⟩ := plain_lower_low g h s1
  refine ⟨s2, (p0.tr p1).tr p2, gBody_rt (env := [some (ordD n ps), some (lotD r)]) (sRet_run ?_)⟩
  exact call2 ((gCall1_run (x := ordD n ps) (st1 := st) rfl).trans e0) ((gCall1_run (x := lotD r) (st1 := s0) rfl).trans e1) e2
theorem is_lower_bad {n : Nat} {ps : List (Nat × Nat)} {t : D} {st : Store} (g : Good n ps) (h : NoLow n ps st t) : ∃ st', Pre st st' ∧ G_is_lower [ordD n ps, t] st = some (.ok (.bl false) st') := by
  obtain ⟨s0, p0, e0⟩ := wanted_good g st
  have h0 := h.pre p0
  obtain ⟨s1, p1, e1⟩ := plain_spec t s0 h0.nice.dep h0.nice.sz h0.nice.in_
  obtain ⟨s2, p2, e2⟩ := plain_lower_bad g h s1
  refine ⟨s2, (p0.tr p1).tr p2, gBody_rt (env := [some (ordD n ps), some t]) (sRet_run ?_)⟩
  exact call2 ((gCall1_run (x := ordD n ps) (st1 := st) rfl).trans e0) ((gCall1_run (x := t) (st1 := s0) rfl).trans e1) e2
end Mk01
set_option Elab.async false
set_option linter.all false
set_option autoImplicit false
set_option maxRecDepth 100000
set_option maxHeartbeats 1000000
/-! Kb4: what can be put and taken; meetings and joinings. -/
namespace Mk01
open PySem PySem.Spec MP
def enB (p : Nat → Nat → Bool) (d : D) : Bool := match d with
  | .tup [.int i, .int m] => p i.toNat m.toNat
  | _ => false
def enI (d : D) : D := match d with
  | .tup (i :: _) => i
  | _ => .non
theorem enum_filter (p : Nat → Nat → Bool) (l : List Nat) : ((enumD l).filter (enB p)).map enI = mI ((List.range l.length).filter fun i => p i (l.getD i 0)) := by
  unfold enumD mI
  rw [List.filter_map, List.map_map]
  rfl
def canB (n : Nat) (ps : List (Nat × Nat)) (r : List Nat) (i : Nat) : Bool := !(maskL r).testBit i && withinB (am n ps i) (maskL r)
def putL (n : Nat) (ps : List (Nat × Nat)) (r : List Nat) : List Nat := (List.range n).filter (canB n ps r)
theorem putL_mem {n i : Nat} {ps : List (Nat × Nat)} {r : List Nat} : i ∈ putL n ps r ↔ i < n ∧ i ∉ r ∧ ∀ j, (am n ps i).testBit j = true → j ∈ r := by
  unfold putL canB
  rw [List.mem_filter, List.mem_range, Bool.and_eq_true, within_iff, Bool.not_eq_true']
  refine and_congr_right fun _ => and_congr ?_ ?_
  · rw [← maskL_test (r := r)]
    cases (maskL r).testBit i <;> simp
  · exact forall_congr' fun j => by rw [maskL_test]
theorem lot_put {n : Nat} {ps : List (Nat × Nat)} {r : List Nat} : LotOk n (putL n ps r) := ⟨List.pairwise_lt_range.filter _, fun x hx => (putL_mem.mp hx).1⟩
theorem can_be_put_spec {n k : Nat} {ps : List (Nat × Nat)} {r : List Nat} {st : Store} (h : LotOk n r) (hn : n ≤ 20) (hc : cellL st k = some (mI (masksM n ps))) : ∃ st', Pre st st' ∧ G_can_be_put [.ref k, lotD r] st = some (.ok (lotD (putL n ps r)) st') := by
  obtain ⟨f1, f2⟩ := lot_facts h hn
  have e0 := mask_of_spec f1 f2 st
  have hml : (mI (masksM n ps)).length = n := by rw [mI_len, masksM_length]
  have hen : (enumD (masksM n ps)).length = n := by unfold enumD; rw [List.length_map, List.length_range, masksM_length]
  have hg : gEnum (aCons (gv 0) aNil) [some (.ref k), some (lotD r), some (.int (maskL r)), none, none] st = some (.ok (itE k, (enumD (masksM n ps)).length + 1) st) := by
    unfold gEnum
    show ((cellL st k).map fun xs => Out.ok (itE k, xs.length + 1) st) = _
    rw [hc, hen]
    show some (Out.ok (itE k, (mI (masksM n ps)).length + 1) st) = _
    rw [hml]
  obtain ⟨s3, j, v1, v2, v3, _⟩ := gLc_run (gi := gEnum (aCons (gv 0) aNil)) (it := itE k) (f := tgTup 2 (tgsCons (tgName 3) (tgsCons (tgName 4) tgsNil))) (tt := gAndT (gNotT (gb1 (gCall 2 G_has_bit (aCons (gv 2) (aCons (gv 3) aNil))))) (gb1 (gCall 2 G_is_within (aCons (gv 4) (aCons (gv 2) aNil))))) (e := gv 3) (env := [some (.ref k), some (lotD r), some (.int (maskL r)), none, none]) (st := st) (base := st) (ds := enumD (masksM n ps)) (vs := [3, 4])
    (enB fun i m => !(maskL r).testBit i && withinB m (maskL r)) enI hg Pre.rfl (by rw [hen]; omega) (fun i s' h => itE_enum (h.cell hc)) (by
      intro d hd t hpt
      unfold enumD at hd
      obtain ⟨i, hi, rfl⟩ := List.mem_map.mp hd
      refine ⟨[some (.ref k), some (lotD r), some (.int (maskL r)), some (.int (i : Nat)), some (.int ((masksM n ps).getD i 0 : Nat))], t, rfl, ?_, Pre.rfl, fun _ => ⟨t, rfl, Pre.rfl⟩⟩
      have a1 : gNotT (gb1 (gCall 2 G_has_bit (aCons (gv 2) (aCons (gv 3) aNil)))) [some (.ref k), some (lotD r), some (.int (maskL r)), some (.int (i : Nat)), some (.int ((masksM n ps).getD i 0 : Nat))] t = some (.ok (!(maskL r).testBit i) t) :=
        gNotT_run (gb1_run (call2 (x := .int (maskL r)) (y := .int (i : Nat)) rfl rfl (has_bit_spec _ _ _)))
      have a2 : gb1 (gCall 2 G_is_within (aCons (gv 4) (aCons (gv 2) aNil))) [some (.ref k), some (lotD r), some (.int (maskL r)), some (.int (i : Nat)), some (.int ((masksM n ps).getD i 0 : Nat))] t = some (.ok (withinB ((masksM n ps).getD i 0) (maskL r)) t) :=
        gb1_run (call2 (x := .int ((masksM n ps).getD i 0 : Nat)) (y := .int (maskL r)) rfl rfl (is_within_spec _ _ _))
      show _ = some (Out.ok (!(maskL r).testBit i && withinB ((masksM n ps).getD i 0) (maskL r)) t)
      cases q : (maskL r).testBit i with
      | true => rw [q] at a1; exact gAndT_f a1
      | false => rw [q] at a1; exact (gAndT_t a1).trans a2)
  rw [enum_filter, masksM_length] at v3
  refine ⟨s3, v1, gBody_rt (env := [some (.ref k), some (lotD r), none, none, none]) ?_⟩
  unfold S_can_be_put
  refine (sSeq_nx (env' := [some (.ref k), some (lotD r), some (.int (maskL r)), none, none]) (st' := st) (sSet_run ((gCall1_run (x := lotD r) rfl).trans e0))).trans (sRet_run ?_)
  exact (gFn1_run v2).trans (fTuple_ref v3)
def needM (n : Nat) (ps : List (Nat × Nat)) (r : List Nat) : Nat := r.foldl (fun w x => w ||| am n ps x) 0
theorem needM_test {n j : Nat} {ps : List (Nat × Nat)} {r : List Nat} : (needM n ps r).testBit j = true ↔ ∃ x ∈ r, (am n ps x).testBit j = true := by
  unfold needM
  rw [fold_or_test]
  simp
def takL (n : Nat) (ps : List (Nat × Nat)) (r : List Nat) : List Nat := r.filter fun x => !(needM n ps r).testBit x
theorem takL_mem {n x : Nat} {ps : List (Nat × Nat)} {r : List Nat} : x ∈ takL n ps r ↔ x ∈ r ∧ ∀ y ∈ r, (am n ps y).testBit x = false := by
  unfold takL
  rw [List.mem_filter, Bool.not_eq_true']
  refine and_congr_right fun _ => ?_
  constructor
  · intro h y hy
    refine not_true fun z => ?_
    rw [needM_test.mpr ⟨y, hy, z⟩] at h
    cases h
  · intro h
    refine not_true fun z => ?_
    obtain ⟨y, hy, q⟩ := needM_test.mp z
    rw [h y hy] at q
    cases q
theorem can_be_taken_spec {n k : Nat} {ps : List (Nat × Nat)} {r : List Nat} {st : Store} (h : LotOk n r) (hn : n ≤ 20) (hc : cellL st k = some (mI (masksM n ps))) : ∃ st', Pre st st' ∧ G_can_be_taken [.ref k, lotD r] st = some (.ok (lotD (takL n ps r)) st') := by
  have hl := h.len
  have L := sFor_run (gi := gSeq (gv 1)) (f := tgName 3) (body := sAug 2 fOr (g2 fIx (gv 0) (gv 3))) (it := itL (mI r)) (ds := mI r)
    (env := [some (.ref k), some (lotD r), some (.int 0), none]) (st := st) (base := st)
    (fun j env s' => s' = st ∧ ∃ w, env = [some (.ref k), some (lotD r), some (.int ((r.take j).foldl (fun w x => w ||| am n ps x) 0 : Nat)), w])
    (gSeq_tup rfl) ⟨rfl, none, rfl⟩ (fun j env s' _ => rfl) (by
      rintro j d env s' hd ⟨rfl, w', rfl⟩
      unfold mI at hd
      rw [List.getElem?_map] at hd
      obtain ⟨x, hx, rfl⟩ := Option.map_eq_some_iff.mp hd
      have hxn := h.in_ x (List.mem_of_getElem? hx)
      refine ⟨[some (.ref k), some (lotD r), some (.int ((r.take j).foldl (fun w x => w ||| am n ps x) 0 : Nat)), some (.int x)], _, s', rfl, .inl (sAug_run rfl ((g2_run rfl rfl).trans (fIx_ref hc (mI_at (am_at hxn)))) fOr_nat), rfl, some (.int x), ?_⟩
      rw [take_succ_get hx, List.foldl_append]
      rfl)
  obtain ⟨env3, s3, r3, rfl, w3, rfl⟩ := L
  rw [mI_len, List.take_length] at r3
  obtain ⟨s4, j, v1, v2, v3, _⟩ := gLc_run (gi := gSeq (gv 1)) (it := itL (mI r)) (f := tgName 3) (tt := gNotT (gb1 (gCall 2 G_has_bit (aCons (gv 2) (aCons (gv 3) aNil))))) (e := gv 3) (env := [some (.ref k), some (lotD r), some (.int (needM n ps r : Nat)), w3]) (st := s3) (base := s3) (ds := mI r) (vs := [3])
    (natB fun x => !(needM n ps r).testBit x) (fun d => d) (gSeq_tup rfl) Pre.rfl (by rw [mI_len]; omega) (fun j s' _ => rfl) (by
      intro d hd t hpt
      obtain ⟨x, hx, rfl⟩ := List.mem_map.mp hd
      exact ⟨[some (.ref k), some (lotD r), some (.int (needM n ps r : Nat)), some (.int x)], t, rfl, gNotT_run (gb1_run (call2 (x := .int (needM n ps r : Nat)) (y := .int x) rfl rfl (has_bit_spec _ _ _))), Pre.rfl, fun _ => ⟨t, rfl, Pre.rfl⟩⟩)
  rw [natB_filter] at v3
  refine ⟨s4, v1, gBody_rt (env := [some (.ref k), some (lotD r), none, none]) ?_⟩
  unfold S_can_be_taken
  refine (sSeq_nx (env' := [some (.ref k), some (lotD r), some (.int 0), none]) (st' := s3) (sSet_run rfl)).trans ?_
  exact (sSeq_nx r3).trans (sRet_run ((gFn1_run v2).trans (fTuple_ref v3)))
theorem lot_tak {n : Nat} {ps : List (Nat × Nat)} {r : List Nat} (h : LotOk n r) : LotOk n (takL n ps r) := h.filter _
theorem can_put_low {n : Nat} {ps : List (Nat × Nat)} {r : List Nat} (g : Good n ps) (h : Low n ps r) (st : Store) : ∃ st', Pre st st' ∧ G_can_put [ordD n ps, lotD r] st = some (.ok (lotD (putL n ps r)) st') := by
  obtain ⟨s1, p1, e1⟩ := wanted_good g st
  obtain ⟨s2, k, p2, e2, c2, _⟩ := masks_ahead_spec g.ok s1
  obtain ⟨s3, p3, e3⟩ := wanted_lower_low g h s2
  obtain ⟨s4, p4, e4⟩ := can_be_put_spec h.lot g.ok.le (p3.cell c2)
  refine ⟨s4, ((p1.tr p2).tr p3).tr p4, gBody_rt (env := [some (ordD n ps), some (lotD r)]) ?_⟩
  unfold S_can_put
  refine (sSeq_nx (env' := [some (ordD n ps), some (lotD r)]) (st' := s1) (sSet_run ((gCall1_run rfl).trans e1))).trans (sRet_run ?_)
  exact call2 ((gCall1_run (x := ordD n ps) (st1 := s1) rfl).trans e2) (call2 (x := ordD n ps) (y := lotD r) rfl rfl e3) e4
theorem can_take_low {n : Nat} {ps : List (Nat × Nat)} {r : List Nat} (g : Good n ps) (h : Low n ps r) (st : Store) : ∃ st', Pre st st' ∧ G_can_take [ordD n ps, lotD r] st = some (.ok (lotD (takL n ps r)) st') := by
  obtain ⟨s1, p1, e1⟩ := wanted_good g st
  obtain ⟨s2, k, p2, e2, c2, _⟩ := masks_ahead_spec g.ok s1
  obtain ⟨s3, p3, e3⟩ := wanted_lower_low g h s2
  obtain ⟨s4, p4, e4⟩ := can_be_taken_spec h.lot g.ok.le (p3.cell c2)
  refine ⟨s4, ((p1.tr p2).tr p3).tr p4, gBody_rt (env := [some (ordD n ps), some (lotD r)]) ?_⟩
  unfold S_can_take
  refine (sSeq_nx (env' := [some (ordD n ps), some (lotD r)]) (st' := s1) (sSet_run ((gCall1_run rfl).trans e1))).trans (sRet_run ?_)
  exact call2 ((gCall1_run (x := ordD n ps) (st1 := s1) rfl).trans e2) (call2 (x := ordD n ps) (y := lotD r) rfl rfl e3) e4
theorem can_put_bad {n : Nat} {ps : List (Nat × Nat)} {t : D} {st : Store} (g : Good n ps) (h : NoLow n ps st t) : ∃ st', Pre st st' ∧ G_can_put [ordD n ps, t] st = some (.ex "BadLower" [t] st') := by
  obtain ⟨s1, p1, e1⟩ := wanted_good g st
  obtain ⟨s2, k, p2, e2, c2, _⟩ := masks_ahead_spec g.ok s1
  obtain ⟨s3, p3, e3⟩ := wanted_lower_bad g (h.pre (p1.tr p2))
  refine ⟨s3, (p1.tr p2).tr p3, gBody_xc (env := [some (ordD n ps), some t]) (e := [some (ordD n ps), some t]) ?_⟩
  unfold S_can_put
  refine (sSeq_nx (env' := [some (ordD n ps), some t]) (st' := s1) (sSet_run ((gCall1_run rfl).trans e1))).trans (sRet_xc (gCall_ex ?_))
  exact aCons_exN ((gCall1_run (x := ordD n ps) (st1 := s1) rfl).trans e2) (aCons1_ex (call2 (x := ordD n ps) (y := t) rfl rfl e3))
theorem wanted_item_good {n i : Nat} {ps : List (Nat × Nat)} (h : i < n) (st : Store) : ∃ st', Pre st st' ∧ G_wanted_item [ordD n ps, .int i] st = some (.ok (.int i) st') := by
  obtain ⟨s1, p1, e1⟩ := plain_spec (.int i) st (by unfold depD; omega) (by unfold szD; omega) (by unfold inSt; trivial)
  have c : cop (.int i) = .int i := by unfold cop; rfl
  rw [c] at e1
  refine ⟨s1, p1, gBody_rt (env := [some (ordD n ps), some (.int i), none]) ?_⟩
  have hb : numB (.int i) 0 ((n : Int) - 1) = true := by
    unfold numB
    simp
    omega
  have e2 := is_number_spec (.int i) 0 ((n : Int) - 1) s1 rfl
  rw [hb] at e2
  unfold S_wanted_item
  refine (sSeq_nx (env' := [some (ordD n ps), some (.int i), some (.int i)]) (st' := s1) (sSet_run ((gCall1_run rfl).trans e1))).trans ?_
  refine (seqIf_f (gNotT_run (gb1_run (call3 (x := .int i) (y := .int 0) (z := .int ((n : Int) - 1)) rfl rfl ?_ e2)))).trans rfl
  exact (g2_run ((g2_run (x := ordD n ps) (y := .int 0) rfl rfl).trans (fIx_tup (i := 0) rfl)) rfl).trans fSub_int
/-! ### put, taken -/
def putR (n i : Nat) (r : List Nat) : List Nat := bits n (maskL (r ++ [i]))
def takR (i : Nat) (r : List Nat) : List Nat := r.filter fun x => !decide (x = i)
theorem maskA_lt {n i : Nat} {r : List Nat} (h : LotOk n r) (hi : i < n) : maskL (r ++ [i]) < 2 ^ n := by
  refine Nat.lt_pow_two_of_testBit _ fun j hj => ?_
  refine not_true fun q => ?_
  rcases List.mem_append.mp (maskL_test.mp q) with a | a
  · have := h.in_ j a; omega
  · rw [List.mem_singleton] at a; omega
theorem put_spec {n i : Nat} {ps : List (Nat × Nat)} {r : List Nat} (g : Good n ps) (h : Low n ps r) (hi : i < n) (st : Store) : ∃ st', Pre st st' ∧ G_put [ordD n ps, lotD r, .int i] st = (if i ∈ putL n ps r then some (.ok (lotD (putR n i r)) st') else some (.ex "BadItem" [.int i] st')) := by
  have hn := g.ok.le
  have hl := h.lot.len
  obtain ⟨s1, p1, e1⟩ := wanted_good g st
  obtain ⟨s2, p2, e2⟩ := wanted_lower_low g h s1
  obtain ⟨s3, p3, e3⟩ := wanted_item_good (ps := ps) hi s2
  obtain ⟨s4, k, p4, e4, c4, _⟩ := masks_ahead_spec g.ok s3
  obtain ⟨s5, p5, e5⟩ := can_be_put_spec h.lot g.ok.le c4
  have q : gb1 (g2 (fIn true) (gv 3) (gCall 2 G_can_be_put (aCons (gCall 1 G_masks_ahead (aCons (gv 0) aNil)) (aCons (gv 1) aNil)))) [some (ordD n ps), some (lotD r), some (.int i), some (.int i)] s3 = some (.ok (!decide (i ∈ putL n ps r)) s5) :=
    gb1_run ((g2_run (x := .int i) (y := lotD (putL n ps r)) rfl (call2 ((gCall1_run (x := ordD n ps) (st1 := s3) rfl).trans e4) (y := lotD r) rfl e5)).trans fNotIn_lot)
  have start : ∀ {o}, (sSeq (sIf (gb1 (g2 (fIn true) (gv 3) (gCall 2 G_can_be_put (aCons (gCall 1 G_masks_ahead (aCons (gv 0) aNil)) (aCons (gv 1) aNil))))) (sRaise "BadItem" (aCons (gv 2) aNil)) sNext) (sRet (gCall 1 G_lot_of (aCons (gCall 1 G_mask_of (aCons (g2 fAdd (gv 1) (gTup (aCons (gv 3) aNil))) aNil)) aNil)))) [some (ordD n ps), some (lotD r), some (.int i), some (.int i)] s3 = o → S_put [some (ordD n ps), some (lotD r), some (.int i), none] st = o := by
    intro o z
    unfold S_put
    refine (sSeq_nx (env' := [some (ordD n ps), some (lotD r), some (.int i), none]) (st' := s1) (sSet_run ((gCall1_run rfl).trans e1))).trans ?_
    refine (sSeq_nx (env' := [some (ordD n ps), some (lotD r), some (.int i), none]) (st' := s2) (sSet_run (call2 (x := ordD n ps) (y := lotD r) rfl rfl e2))).trans ?_
    exact (sSeq_nx (env' := [some (ordD n ps), some (lotD r), some (.int i), some (.int i)]) (st' := s3) (sSet_run (call2 (x := ordD n ps) (y := .int i) rfl rfl e3))).trans z
  have pp := (((p1.tr p2).tr p3).tr p4).tr p5
  by_cases hm : i ∈ putL n ps r
  · rw [decide_eq_true hm] at q
    have ha : g2 fAdd (gv 1) (gTup (aCons (gv 3) aNil)) [some (ordD n ps), some (lotD r), some (.int i), some (.int i)] s5 = some (.ok (lotD (r ++ [i])) s5) := by
      refine (g2_run (x := .tup (mI r)) (y := .tup [.int i]) rfl (gTup_run (aCons1 rfl) (by simp))).trans ?_
      rw [fAdd_tups (by rw [mI_len]; simp only [List.length_cons, List.length_nil]; omega), mI_add]
      rfl
    have e6 := mask_of_spec (r := r ++ [i]) (fun x hx => by
      rcases List.mem_append.mp hx with a | a
      · have := h.lot.in_ x a; omega
      · rw [List.mem_singleton] at a; omega) (by rw [List.length_append]; simp only [List.length_cons, List.length_nil]; omega) s5
    obtain ⟨s7, p7, e7⟩ := lot_of_spec n (maskL (r ++ [i])) s5 (maskA_lt h.lot hi) (by omega)
    refine ⟨s7, pp.tr p7, ?_⟩
    rw [if_pos hm]
    refine gBody_rt (env := [some (ordD n ps), some (lotD r), some (.int i), none]) (start ((seqIf_f q).trans (sRet_run ?_)))
    exact (gCall1_run ((gCall1_run ha).trans e6)).trans e7
  · rw [decide_eq_false hm] at q
    refine ⟨s5, pp, ?_⟩
    rw [if_neg hm]
    exact gBody_xc (env := [some (ordD n ps), some (lotD r), some (.int i), none]) (start (seqIf_x q (raise_run (d := .int i) rfl)))
theorem taken_spec {n i : Nat} {ps : List (Nat × Nat)} {r : List Nat} (g : Good n ps) (h : Low n ps r) (hi : i < n) (st : Store) : ∃ st', Pre st st' ∧ G_taken [ordD n ps, lotD r, .int i] st = (if i ∈ takL n ps r then some (.ok (lotD (takR i r)) st') else some (.ex "BadItem" [.int i] st')) := by
  have hn := g.ok.le
  have hl := h.lot.len
  obtain ⟨s1, p1, e1⟩ := wanted_good g st
  obtain ⟨s2, p2, e2⟩ := wanted_lower_low g h s1
  obtain ⟨s3, p3, e3⟩ := wanted_item_good (ps := ps) hi s2
  obtain ⟨s4, k, p4, e4, c4, _⟩ := masks_ahead_spec g.ok s3
  obtain ⟨s5, p5, e5⟩ := can_be_taken_spec h.lot g.ok.le c4
  have q : gb1 (g2 (fIn true) (gv 3) (gCall 2 G_can_be_taken (aCons (gCall 1 G_masks_ahead (aCons (gv 0) aNil)) (aCons (gv 1) aNil)))) [some (ordD n ps), some (lotD r), some (.int i), some (.int i), none] s3 = some (.ok (!decide (i ∈ takL n ps r)) s5) :=
    gb1_run ((g2_run (x := .int i) (y := lotD (takL n ps r)) rfl (call2 ((gCall1_run (x := ordD n ps) (st1 := s3) rfl).trans e4) (y := lotD r) rfl e5)).trans fNotIn_lot)
  have start : ∀ {o}, (sSeq (sIf (gb1 (g2 (fIn true) (gv 3) (gCall 2 G_can_be_taken (aCons (gCall 1 G_masks_ahead (aCons (gv 0) aNil)) (aCons (gv 1) aNil))))) (sRaise "BadItem" (aCons (gv 2) aNil)) sNext) (sRet (gFn fTuple (aCons (gLc (gSeq (gv 1)) (tgName 4) (gb1 (g2 fNe (gv 4) (gv 3))) (gv 4) [4]) aNil)))) [some (ordD n ps), some (lotD r), some (.int i), some (.int i), none] s3 = o → S_taken [some (ordD n ps), some (lotD r), some (.int i), none, none] st = o := by
    intro o z
    unfold S_taken
    refine (sSeq_nx (env' := [some (ordD n ps), some (lotD r), some (.int i), none, none]) (st' := s1) (sSet_run ((gCall1_run rfl).trans e1))).trans ?_
    refine (sSeq_nx (env' := [some (ordD n ps), some (lotD r), some (.int i), none, none]) (st' := s2) (sSet_run (call2 (x := ordD n ps) (y := lotD r) rfl rfl e2))).trans ?_
    exact (sSeq_nx (env' := [some (ordD n ps), some (lotD r), some (.int i), some (.int i), none]) (st' := s3) (sSet_run (call2 (x := ordD n ps) (y := .int i) rfl rfl e3))).trans z
  have pp := (((p1.tr p2).tr p3).tr p4).tr p5
  by_cases hm : i ∈ takL n ps r
  · rw [decide_eq_true hm] at q
    obtain ⟨s6, j, v1, v2, v3, _⟩ := gLc_run (gi := gSeq (gv 1)) (it := itL (mI r)) (f := tgName 4) (tt := gb1 (g2 fNe (gv 4) (gv 3))) (e := gv 4) (env := [some (ordD n ps), some (lotD r), some (.int i), some (.int i), none]) (st := s5) (base := s5) (ds := mI r) (vs := [4])
      (natB fun x => !decide (x = i)) (fun d => d) (gSeq_tup rfl) Pre.rfl (by rw [mI_len]; omega) (fun j s' _ => rfl) (by
        intro d hd t hpt
        obtain ⟨x, hx, rfl⟩ := List.mem_map.mp hd
        refine ⟨[some (ordD n ps), some (lotD r), some (.int i), some (.int i), some (.int x)], t, rfl, ?_, Pre.rfl, fun _ => ⟨t, rfl, Pre.rfl⟩⟩
        have := gb1_run ((g2_run (f := fNe) (ga := gv 4) (gb := gv 3) (env := [some (ordD n ps), some (lotD r), some (.int i), some (.int i), some (.int x)]) (st := t) (x := .int x) (y := .int i) rfl rfl).trans fNe_int)
        rw [this]
        have e : ((x : Int) == (i : Int)) = decide (x = i) := by
          rw [Bool.eq_iff_iff, beq_iff_eq, decide_eq_true_iff]
          omega
        rw [e]
        rfl)
    rw [natB_filter] at v3
    refine ⟨s6, pp.tr v1, ?_⟩
    rw [if_pos hm]
    exact gBody_rt (env := [some (ordD n ps), some (lotD r), some (.int i), none, none]) (start ((seqIf_f q).trans (sRet_run ((gFn1_run v2).trans (fTuple_ref v3)))))
  · rw [decide_eq_false hm] at q
    refine ⟨s5, pp, ?_⟩
    rw [if_neg hm]
    exact gBody_xc (env := [some (ordD n ps), some (lotD r), some (.int i), none, none]) (start (seqIf_x q (raise_run (d := .int i) rfl)))
/-! ### meet, join -/
theorem and_lt {n a b : Nat} (h : a < 2 ^ n) : a &&& b < 2 ^ n := Nat.lt_of_le_of_lt Nat.and_le_left h
theorem meet_spec {n : Nat} {ps : List (Nat × Nat)} {r q : List Nat} (g : Good n ps) (h : Low n ps r) (k : Low n ps q) (st : Store) : ∃ st', Pre st st' ∧ G_meet [ordD n ps, lotD r, lotD q] st = some (.ok (lotD (bits n (maskL r &&& maskL q))) st') := by
  have hn := g.ok.le
  obtain ⟨s1, p1, e1⟩ := wanted_good g st
  obtain ⟨s2, p2, e2⟩ := wanted_lower_low g h s1
  obtain ⟨s3, p3, e3⟩ := wanted_lower_low g k s2
  obtain ⟨f1, f2⟩ := lot_facts h.lot hn
  obtain ⟨f3, f4⟩ := lot_facts k.lot hn
  obtain ⟨s4, p4, e4⟩ := lot_of_spec n (maskL r &&& maskL q) s3 (and_lt (maskL_lt h.lot)) (by omega)
  refine ⟨s4, ((p1.tr p2).tr p3).tr p4, gBody_rt (env := [some (ordD n ps), some (lotD r), some (lotD q)]) ?_⟩
  unfold S_meet
  refine (sSeq_nx (env' := [some (ordD n ps), some (lotD r), some (lotD q)]) (st' := s1) (sSet_run ((gCall1_run rfl).trans e1))).trans ?_
  refine (sSeq_nx (env' := [some (ordD n ps), some (lotD r), some (lotD q)]) (st' := s2) (sSet_run (call2 (x := ordD n ps) (y := lotD r) rfl rfl e2))).trans ?_
  refine (sSeq_nx (env' := [some (ordD n ps), some (lotD r), some (lotD q)]) (st' := s3) (sSet_run (call2 (x := ordD n ps) (y := lotD q) rfl rfl e3))).trans (sRet_run ?_)
  exact (gCall1_run ((g2_run ((gCall1_run (x := lotD r) (st1 := s3) rfl).trans (mask_of_spec f1 f2 s3)) ((gCall1_run (x := lotD q) (st1 := s3) rfl).trans (mask_of_spec f3 f4 s3))).trans fAnd_nat)).trans e4
theorem or_lt {n a b : Nat} (h : a < 2 ^ n) (k : b < 2 ^ n) : a ||| b < 2 ^ n := Nat.or_lt_two_pow h k
theorem join_spec {n : Nat} {ps : List (Nat × Nat)} {r q : List Nat} (g : Good n ps) (h : Low n ps r) (k : Low n ps q) (st : Store) : ∃ st', Pre st st' ∧ G_join [ordD n ps, lotD r, lotD q] st = some (.ok (lotD (bits n (maskL r ||| maskL q))) st') := by
  have hn := g.ok.le
  obtain ⟨s1, p1, e1⟩ := wanted_good g st
  obtain ⟨s2, p2, e2⟩ := wanted_lower_low g h s1
  obtain ⟨s3, p3, e3⟩ := wanted_lower_low g k s2
  obtain ⟨f1, f2⟩ := lot_facts h.lot hn
  obtain ⟨f3, f4⟩ := lot_facts k.lot hn
  obtain ⟨s4, p4, e4⟩ := lot_of_spec n (maskL r ||| maskL q) s3 (or_lt (maskL_lt h.lot) (maskL_lt k.lot)) (by omega)
  refine ⟨s4, ((p1.tr p2).tr p3).tr p4, gBody_rt (env := [some (ordD n ps), some (lotD r), some (lotD q)]) ?_⟩
  unfold S_join
  refine (sSeq_nx (env' := [some (ordD n ps), some (lotD r), some (lotD q)]) (st' := s1) (sSet_run ((gCall1_run rfl).trans e1))).trans ?_
  refine (sSeq_nx (env' := [some (ordD n ps), some (lotD r), some (lotD q)]) (st' := s2) (sSet_run (call2 (x := ordD n ps) (y := lotD r) rfl rfl e2))).trans ?_
  refine (sSeq_nx (env' := [some (ordD n ps), some (lotD r), some (lotD q)]) (st' := s3) (sSet_run (call2 (x := ordD n ps) (y := lotD q) rfl rfl e3))).trans (sRet_run ?_)
  exact (gCall1_run ((g2_run ((gCall1_run (x := lotD r) (st1 := s3) rfl).trans (mask_of_spec f1 f2 s3)) ((gCall1_run (x := lotD q) (st1 := s3) rfl).trans (mask_of_spec f3 f4 s3))).trans fOr_nat)).trans e4
theorem join_bad {n : Nat} {ps : List (Nat × Nat)} {r : List Nat} {t : D} {st : Store} (g : Good n ps) (h : Low n ps r) (k : NoLow n ps st t) : ∃ st', Pre st st' ∧ G_join [ordD n ps, lotD r, t] st = some (.ex "BadLower" [t] st') := by
  obtain ⟨s1, p1, e1⟩ := wanted_good g st
  obtain ⟨s2, p2, e2⟩ := wanted_lower_low g h s1
  obtain ⟨s3, p3, e3⟩ := wanted_lower_bad g (k.pre (p1.tr p2))
  refine ⟨s3, (p1.tr p2).tr p3, gBody_xc (env := [some (ordD n ps), some (lotD r), some t]) (e := [some (ordD n ps), some (lotD r), some t]) ?_⟩
  unfold S_join
  refine (sSeq_nx (env' := [some (ordD n ps), some (lotD r), some t]) (st' := s1) (sSet_run ((gCall1_run rfl).trans e1))).trans ?_
  refine (sSeq_nx (env' := [some (ordD n ps), some (lotD r), some t]) (st' := s2) (sSet_run (call2 (x := ordD n ps) (y := lotD r) rfl rfl e2))).trans ?_
  exact sSeq_xc (sSet_xc (call2 (x := ordD n ps) (y := t) rfl rfl e3))
end Mk01
set_option Elab.async false
set_option linter.all false
set_option autoImplicit false
set_option maxRecDepth 100000
set_option maxHeartbeats 1000000
/-! Kb5: all lower sets, one behind the other. -/
namespace Mk01
open PySem PySem.Spec MP
def lastLt (r : List Nat) (i : Nat) : Bool := match r.getLast? with
  | none => true
  | some z => decide (z < i)
def treeL (n : Nat) (ps : List (Nat × Nat)) : Nat → List Nat → List (List Nat)
  | 0, _ => []
  | d + 1, r => r :: ((putL n ps r).filter (lastLt r)).flatMap fun i => treeL n ps d (r ++ [i])
abbrev restL (n : Nat) (ps : List (Nat × Nat)) (d : Nat) (r is : List Nat) : List (List Nat) := (is.filter (lastLt r)).flatMap fun i => treeL n ps d (r ++ [i])
theorem LotOk.next {n i : Nat} {r : List Nat} (h : LotOk n r) (hi : i < n) (k : lastLt r i = true) : LotOk n (r ++ [i]) := by
  refine ⟨?_, fun x hx => ?_⟩
  · rw [List.pairwise_append]
    refine ⟨h.asc, by simp, fun a ha b hb => ?_⟩
    rw [List.mem_singleton] at hb
    subst hb
    rcases List.eq_nil_or_concat r with q | ⟨q, z, e⟩
    · subst q; cases ha
    · rw [List.concat_eq_append] at e
      subst e
      unfold lastLt at k
      rw [List.getLast?_append] at k
      have k2 : z < b := by simpa using k
      rcases List.mem_append.mp ha with a1 | a1
      · have := (List.pairwise_append.mp h.asc).2.2 a a1 z (by simp)
        omega
      · rw [List.mem_singleton] at a1; omega
  · rcases List.mem_append.mp hx with a | a
    · exact h.in_ x a
    · rw [List.mem_singleton] at a; omega
theorem keep_cell {b k : Nat} {st st' : Store} {xs : List D} (h : Keep b st st') (hk : k ≠ b) (e : cellL st k = some xs) : cellL st' k = some xs := by
  have hl := cellL_lt e
  unfold cellL at e ⊢
  rw [h.at_ k hl hk]
  exact e
theorem keep_pre {b : Nat} {st st' : Store} (h : Pre st st') : Keep b st st' := ⟨h.length_le, fun i hi _ => by
  obtain ⟨t, rfl⟩ := h
  exact List.getElem?_append_left hi⟩
abbrev envL (k f most : Nat) (r : List Nat) (x : Option D) : MP.Env := [some (.ref k), some (lotD r), some (.ref f), some (.int most), x]
abbrev testL : GT := gOrT (gNotT (gTru (gv 1))) (gb1 (g2 fGt (gv 4) (g2 fIx (gv 1) (gUn (fun i => -i) (gc (.int 1))))))
theorem atI_last {q : List Nat} {z : Nat} : L2.atI (mI (q ++ [z])) (-1) = some (D.int z) := by
  have hl : (mI (q ++ [z])).length = q.length + 1 := by rw [mI_len, List.length_append]; rfl
  unfold L2.atI L2.ixN
  rw [hl, if_neg (by omega), if_pos (by omega), show ((-1 : Int) + ((q.length + 1 : Nat) : Int)).toNat = q.length by omega]
  exact mI_at (by rw [List.getElem?_append_right (Nat.le_refl _), Nat.sub_self]; rfl)
theorem testL_run {k f most i : Nat} {r : List Nat} {st : Store} : testL (envL k f most r (some (.int i))) st = some (.ok (lastLt r i) st) := by
  have a0 : gTru (gv 1) (envL k f most r (some (.int i))) st = some (.ok (!(mI r).isEmpty) st) := rfl
  rcases List.eq_nil_or_concat r with q | ⟨q, z, e⟩
  · subst q
    exact gOrT_t (gNotT_run a0)
  · rw [List.concat_eq_append] at e
    subst e
    have e1 : (!(mI (q ++ [z])).isEmpty) = true := by
      rw [← mI_add]
      simp
    rw [e1] at a0
    refine (gOrT_f (gNotT_run a0)).trans ?_
    have a1 : g2 fIx (gv 1) (gUn (fun i => -i) (gc (.int 1))) (envL k f most (q ++ [z]) (some (.int i))) st = some (.ok (.int z) st) := by
      refine (g2_run (x := lotD (q ++ [z])) (y := .int (-1)) rfl rfl).trans ?_
      show (L2.atI (mI (q ++ [z])) (-1)).map (fun d => Out.ok d st) = _
      rw [atI_last]
      rfl
    refine (gb1_run ((g2_run (x := .int i) rfl a1).trans fGt_int)).trans ?_
    unfold lastLt
    rw [List.getLast?_append]
    have e2 : decide ((z : Int) < (i : Int)) = decide (z < i) := by
      rw [Bool.eq_iff_iff, decide_eq_true_iff, decide_eq_true_iff]
      omega
    simp only [e2]
    rfl
abbrev callL (GA_ : GF) : G := gCall 4 GA_ (aCons (gv 0) (aCons (g2 fAdd (gv 1) (gTup (aCons (gv 4) aNil))) (aCons (gv 2) (aCons (gv 3) aNil))))
abbrev bodyL (GA_ : GF) : GS := sIf testL (sExpr (callL GA_)) sNext
theorem callL_run {GA_ : GF} {k f most i : Nat} {r : List Nat} {st : Store} {o : Option (Out D)} (hl : r.length ≤ 1000) (h : GA_ [.ref k, lotD (r ++ [i]), .ref f, .int most] st = o) : callL GA_ (envL k f most r (some (.int i))) st = o := by
  have ha : g2 fAdd (gv 1) (gTup (aCons (gv 4) aNil)) (envL k f most r (some (.int i))) st = some (.ok (lotD (r ++ [i])) st) := by
    refine (g2_run (x := .tup (mI r)) (y := .tup [.int i]) rfl (gTup_run (aCons1 rfl) (by simp))).trans ?_
    rw [fAdd_tups (by rw [mI_len]; simp only [List.length_cons, List.length_nil]; omega), mI_add]
    rfl
  exact (gCall_of (ds := [.ref k, lotD (r ++ [i]), .ref f, .int most]) (aConsN rfl (aConsN ha (aConsN rfl (aCons1 rfl)))) rfl).trans h
theorem sExpr_nx {g : G} {env : MP.Env} {st st1 : Store} {d : D} (h : g env st = some (.ok d st1)) : sExpr g env st = some (.nx env, st1) := by
  unfold sExpr; rw [h]; rfl
theorem sExpr_xc {g : G} {env : MP.Env} {st st1 : Store} {c : Str} {fs : List D} (h : g env st = some (.ex c fs st1)) : sExpr g env st = some (.xc c fs env, st1) := by
  unfold sExpr; rw [h]; rfl
/-- what a call comes to: all is told, or there are too many -/
def Told2 (f most : Nat) (fs more : List (List Nat)) (st : Store) (o : Option (Out D)) : Prop :=
  if fs.length + more.length ≤ most then ∃ st', Keep f st st' ∧ o = some (.ok .non st') ∧ cellL st' f = some ((fs ++ more).map lotD)
  else ∃ st', Keep f st st' ∧ o = some (.ex "TooMany" [.int most] st')
theorem loop_run {n k f most d : Nat} {ps : List (Nat × Nat)} {r : List Nat} {GA_ : GF} (h : LotOk n r) (hn : n ≤ 20)
    (ih : ∀ i, i ∈ putL n ps r → lastLt r i = true → ∀ (fs : List (List Nat)) (st : Store), cellL st k = some (mI (masksM n ps)) → cellL st f = some (fs.map lotD) → fs.length ≤ most → Told2 f most fs (treeL n ps d (r ++ [i])) st (GA_ [.ref k, lotD (r ++ [i]), .ref f, .int most] st)) (hkf : k ≠ f) :
    ∀ (is : List Nat) (j : Nat) (x : Option D) (fs : List (List Nat)) (st : Store), (putL n ps r).drop j = is → cellL st k = some (mI (masksM n ps)) → cellL st f = some (fs.map lotD) → fs.length ≤ most →
      if fs.length + (restL n ps d r is).length ≤ most then ∃ y st', forGo (itL (mI (putL n ps r))) (tgName 4) (bodyL GA_) (is.length + 1) j (envL k f most r x) st = some (.nx (envL k f most r y), st') ∧ Keep f st st' ∧ cellL st' f = some ((fs ++ restL n ps d r is).map lotD)
      else ∃ e st', forGo (itL (mI (putL n ps r))) (tgName 4) (bodyL GA_) (is.length + 1) j (envL k f most r x) st = some (.xc "TooMany" [.int most] e, st') ∧ Keep f st st'
  | [], j, x, fs, st, hd, hk, hf, hm => by
    have hj : (mI (putL n ps r))[j]? = none := by
      refine List.getElem?_eq_none ?_
      rw [mI_len]
      exact List.drop_eq_nil_iff.mp hd
    have e0 : restL n ps d r [] = [] := rfl
    rw [e0, if_pos (by simpa using hm)]
    refine ⟨x, st, ?_, Keep.rfl, by rw [List.append_nil]; exact hf⟩
    have hit : itL (mI (putL n ps r)) j st = some none := by
      show some (mI (putL n ps r))[j]? = some none
      rw [hj]
    show forGo _ _ _ (0 + 1) j _ st = _
    simp only [forGo, hit]
  | i :: is, j, x, fs, st, hd, hk, hf, hm => by
    have hij : (putL n ps r)[j]? = some i := by
      have : ((putL n ps r).drop j)[0]? = some i := by rw [hd]; rfl
      rwa [List.getElem?_drop, Nat.add_zero] at this
    have hd2 : (putL n ps r).drop (j + 1) = is := by
      have : ((putL n ps r).drop j).drop 1 = is := by rw [hd]; rfl
      rwa [List.drop_drop] at this
    have him := List.mem_of_getElem? hij
    have hit : itL (mI (putL n ps r)) j st = some (some (.int i)) := by
      show some (mI (putL n ps r))[j]? = _
      rw [mI_at hij]
    have hrl := h.len
    have ht := testL_run (k := k) (f := f) (most := most) (i := i) (r := r) (st := st)
    have one : forGo (itL (mI (putL n ps r))) (tgName 4) (bodyL GA_) ((i :: is).length + 1) j (envL k f most r x) st = (match bodyL GA_ (envL k f most r (some (.int i))) st with
        | some (.nx env2, st2) => forGo (itL (mI (putL n ps r))) (tgName 4) (bodyL GA_) (is.length + 1) (j + 1) env2 st2
        | some (.ct env2, st2) => forGo (itL (mI (putL n ps r))) (tgName 4) (bodyL GA_) (is.length + 1) (j + 1) env2 st2
        | some (.bk env2, st2) => some (.nx env2, st2)
        | r => r) := by
      show forGo _ _ _ ((is.length + 1) + 1) j _ st = _
      rw [forGo]
      simp only [hit]
      rfl
    rw [one]
    cases hb : lastLt r i with
    | false =>
      rw [hb] at ht
      have e0 : restL n ps d r (i :: is) = restL n ps d r is := by
        unfold restL
        rw [List.filter_cons_of_neg (by rw [hb]; exact Bool.false_ne_true)]
      have eb : bodyL GA_ (envL k f most r (some (.int i))) st = some (.nx (envL k f most r (some (.int i))), st) := (sIf_f ht).trans rfl
      rw [e0, eb]
      exact loop_run h hn ih hkf is (j + 1) (some (.int i)) fs st hd2 hk hf hm
    | true =>
      rw [hb] at ht
      have e0 : restL n ps d r (i :: is) = treeL n ps d (r ++ [i]) ++ restL n ps d r is := by
        unfold restL
        rw [List.filter_cons_of_pos hb, List.flatMap_cons]
      have T := ih i him hb fs st hk hf hm
      unfold Told2 at T
      rw [e0, List.length_append]
      by_cases q : fs.length + (treeL n ps d (r ++ [i])).length ≤ most
      · rw [if_pos q] at T
        obtain ⟨st1, k1, o1, c1⟩ := T
        have eb : bodyL GA_ (envL k f most r (some (.int i))) st = some (.nx (envL k f most r (some (.int i))), st1) := (sIf_t ht).trans (sExpr_nx (callL_run (by omega) o1))
        rw [eb]
        have R := loop_run h hn ih hkf is (j + 1) (some (.int i)) (fs ++ treeL n ps d (r ++ [i])) st1 hd2 (keep_cell k1 hkf hk) c1 (by rw [List.length_append]; exact q)
        rw [List.length_append] at R
        by_cases q2 : fs.length + ((treeL n ps d (r ++ [i])).length + (restL n ps d r is).length) ≤ most
        · rw [if_pos q2]
          rw [if_pos (by omega)] at R
          obtain ⟨y, st', r1, r2, r3⟩ := R
          exact ⟨y, st', r1, k1.tr r2, by rw [← List.append_assoc]; exact r3⟩
        · rw [if_neg q2]
          rw [if_neg (by omega)] at R
          obtain ⟨e, st', r1, r2⟩ := R
          exact ⟨e, st', r1, k1.tr r2⟩
      · rw [if_neg q] at T
        obtain ⟨st1, k1, o1⟩ := T
        have eb : bodyL GA_ (envL k f most r (some (.int i))) st = some (.xc "TooMany" [.int most] (envL k f most r (some (.int i))), st1) := (sIf_t ht).trans (sExpr_xc (callL_run (by omega) o1))
        rw [eb, if_neg (by omega)]
        exact ⟨_, st1, rfl, k1⟩
theorem add_spec {n k f most : Nat} {ps : List (Nat × Nat)} (hn : n ≤ 20) (hm1 : most ≤ 1000) (hkf : k ≠ f) : ∀ (d e : Nat) (r : List Nat) (fs : List (List Nat)) (st : Store), d ≤ e → LotOk n r → n + 1 ≤ d + r.length → cellL st k = some (mI (masksM n ps)) → cellL st f = some (fs.map lotD) → fs.length ≤ most →
    Told2 f most fs (treeL n ps d r) st (G__add_lowers e [.ref k, lotD r, .ref f, .int most] st)
  | 0, e, r, fs, st, _, h, hd, _, _, _ => by
    have := h.len
    omega
  | d + 1, 0, r, fs, st, he, _, _, _, _, _ => by omega
  | d + 1, e + 1, r, fs, st, he, h, hd, hk, hf, hm => by
    have hlen : gb1 (g2 fEq (gFn fLen (aCons (gv 2) aNil)) (gv 3)) (envL k f most r none) st = some (.ok (decide (fs.length = most)) st) := by
      have := gb1_run ((g2_run (f := fEq) (ga := gFn fLen (aCons (gv 2) aNil)) (gb := gv 3) (y := .int most) (env := envL k f most r none) ((gFn1_run (x := .ref f) (st1 := st) rfl).trans (fLen_ref hf)) rfl).trans fEq_int)
      rw [this, List.length_map]
      have e1 : (((fs.length : Nat) : Int) == (most : Int)) = decide (fs.length = most) := by
        rw [Bool.eq_iff_iff, beq_iff_eq, decide_eq_true_iff]
        omega
      rw [e1]
    have et : (treeL n ps (d + 1) r).length = 1 + (restL n ps d r (putL n ps r)).length := by
      show (r :: _).length = _
      rw [List.length_cons, Nat.add_comm]
    unfold Told2
    by_cases q : fs.length = most
    · rw [decide_eq_true q] at hlen
      rw [if_neg (by omega)]
      refine ⟨st, Keep.rfl, gBody_xc (env := envL k f most r none) (e := envL k f most r none) ?_⟩
      exact seqIf_x hlen (raise_run (d := .int most) rfl)
    · rw [decide_eq_false q] at hlen
      have ap := append_run (go := gv 2) (g := gv 1) (env := envL k f most r none) (y := lotD r) rfl hf rfl (by rw [List.length_map]; omega)
      have kA : Keep f st (st.set f (.lst (fs.map lotD ++ [lotD r]))) := Keep.set
      have hk2 := keep_cell kA hkf hk
      have hf2 : cellL (st.set f (.lst (fs.map lotD ++ [lotD r]))) f = some ((fs ++ [r]).map lotD) := by rw [cellL_set hf, List.map_append]; rfl
      obtain ⟨s2, p2, e2⟩ := can_be_put_spec h hn hk2
      have L := loop_run (d := d) (GA_ := G__add_lowers e) (most := most) (f := f) (k := k) (ps := ps) h hn (fun i hi hb fs' st' c1 c2 c3 => add_spec hn hm1 hkf d e (r ++ [i]) fs' st' (by omega) (h.next ((putL_mem.mp hi).1) hb) (by rw [List.length_append]; simp only [List.length_cons, List.length_nil]; omega) c1 c2 c3) hkf (putL n ps r) 0 none (fs ++ [r]) s2 rfl (p2.cell hk2) (p2.cell hf2) (by rw [List.length_append]; simp only [List.length_cons, List.length_nil]; omega)
      rw [List.length_append] at L
      simp only [List.length_cons, List.length_nil] at L
      have gi : gSeq (gCall 2 G_can_be_put (aCons (gv 0) (aCons (gv 1) aNil))) (envL k f most r none) (st.set f (.lst (fs.map lotD ++ [lotD r]))) = some (.ok (itL (mI (putL n ps r)), (mI (putL n ps r)).length + 1) s2) := gSeq_tup (call2 (x := .ref k) (y := lotD r) rfl rfl e2)
      have start : ∀ {o}, forGo (itL (mI (putL n ps r))) (tgName 4) (bodyL (G__add_lowers e)) ((putL n ps r).length + 1) 0 (envL k f most r none) s2 = o → S__add_lowers (fun _ => G__add_lowers e) 0 (envL k f most r none) st = o := by
        intro o z
        unfold S__add_lowers
        refine (seqIf_f hlen).trans ((sSeq_nx ap).trans ?_)
        unfold sFor
        rw [gi, sb_ok, mI_len]
        exact z
      have kk : Keep f st s2 := kA.tr (keep_pre p2)
      by_cases q2 : fs.length + (treeL n ps (d + 1) r).length ≤ most
      · rw [if_pos q2]
        rw [if_pos (by omega)] at L
        obtain ⟨y, st', r1, r2, r3⟩ := L
        refine ⟨st', kk.tr r2, ?_, ?_⟩
        · show gBody 5 (S__add_lowers (fun _ => G__add_lowers e) 0) _ st = _
          unfold gBody
          rw [show ([D.ref k, lotD r, .ref f, .int most].map some ++ List.replicate (5 - [D.ref k, lotD r, .ref f, .int most].length) none : MP.Env) = envL k f most r none from rfl, start r1]
        · rw [r3, List.append_assoc]
          rfl
      · rw [if_neg q2]
        rw [if_neg (by omega)] at L
        obtain ⟨e', st', r1, r2⟩ := L
        exact ⟨st', kk.tr r2, gBody_xc (env := envL k f most r none) (start r1)⟩
end Mk01
set_option Elab.async false
set_option linter.all false
set_option autoImplicit false
set_option maxRecDepth 100000
set_option maxHeartbeats 1000000
/-! Kb6: all lower sets, ascending, are those of the law's own list. -/
namespace Mk01
open PySem PySem.Spec MP
def allL (n : Nat) (ps : List (Nat × Nat)) : List (List Nat) := treeL n ps (n + 1) []
theorem all_lowers_spec {n : Nat} {ps : List (Nat × Nat)} (g : Good n ps) (st : Store) : ∃ st', Pre st st' ∧ G_all_lowers [ordD n ps] st = (if (allL n ps).length ≤ 400 then some (.ok (.tup ((allL n ps).map lotD)) st') else some (.ex "TooMany" [.int 400] st')) := by
  obtain ⟨s1, p1, e1⟩ := wanted_good g st
  have p2 : Pre s1 (s1 ++ [Cell.lst []]) := List.prefix_append _ _
  have cf : cellL (s1 ++ [Cell.lst []]) s1.length = some (([] : List (List Nat)).map lotD) := cellL_new
  obtain ⟨s3, k, p3, e3, c3, hk⟩ := masks_ahead_spec g.ok (s1 ++ [Cell.lst []])
  have hkf : k ≠ s1.length := by
    rw [List.length_append] at hk
    simp only [List.length_cons, List.length_nil] at hk
    omega
  have T := add_spec (n := n) (k := k) (f := s1.length) (most := 400) (ps := ps) g.ok.le (by omega) hkf (n + 1) 102 [] [] s3 (by have := g.ok.le; omega) LotOk.nil (by simp) c3 (p3.cell cf) (by simp)
  unfold Told2 at T
  have e0 : treeL n ps (n + 1) [] = allL n ps := rfl
  rw [e0] at T
  simp only [List.length_nil, Nat.zero_add, List.nil_append] at T
  have start : ∀ {o : Option (Out D)} {o2 : Option (Fl × Store)}, G__add_lowers 102 [.ref k, lotD [], .ref s1.length, .int 400] s3 = o → (sSeq (sExpr fun _ _ => o) (sRet (gFn fTuple (aCons (gv 2) aNil)))) [some (ordD n ps), some (.int 400), some (.ref s1.length)] s3 = o2 → S_lowers_of [some (ordD n ps), some (.int 400), none] s1 = o2 := by
    intro o o2 h h2
    unfold S_lowers_of
    refine (sSeq_nx (env' := [some (ordD n ps), some (.int 400), some (.ref s1.length)]) (st' := s1 ++ [Cell.lst []]) (sSet_run (gLst_run (xs := []) rfl (by simp)))).trans ?_
    rw [← h2]
    unfold sSeq sExpr
    have a : gCall 4 (G__add_lowers 102) (aCons (gCall 1 G_masks_ahead (aCons (gv 0) aNil)) (aCons (gTup aNil) (aCons (gv 2) (aCons (gv 1) aNil)))) [some (ordD n ps), some (.int 400), some (.ref s1.length)] (s1 ++ [Cell.lst []]) = o :=
      (gCall_of (ds := [.ref k, lotD [], .ref s1.length, .int 400]) (aConsN ((gCall1_run (x := ordD n ps) (st1 := s1 ++ [Cell.lst []]) rfl).trans e3) (aConsN (gTup_run (xs := []) rfl (by simp)) (aConsN rfl (aCons1 rfl)))) rfl).trans h
    rw [a]
  have fin : ∀ {o : Option (Out D)}, G_lowers_of [ordD n ps, .int 400] s1 = o → G_all_lowers [ordD n ps] st = o ∨ True := fun _ => .inr trivial
  by_cases q : (allL n ps).length ≤ 400
  · rw [if_pos q] at T
    obtain ⟨s4, kp, o4, c4⟩ := T
    refine ⟨s4, p1.tr (Keep.pre kp (p2.tr p3) (Nat.le_refl _)), ?_⟩
    rw [if_pos q]
    refine gBody_rt (env := [some (ordD n ps)]) (sRet_run ?_)
    refine call2 (y := .int 400) ((gCall1_run (x := ordD n ps) (st1 := st) rfl).trans e1) rfl ?_
    refine gBody_rt (env := [some (ordD n ps), some (.int 400), none]) (start o4 ?_)
    exact (sSeq_nx (env' := [some (ordD n ps), some (.int 400), some (.ref s1.length)]) (st' := s4) rfl).trans (sRet_run ((gFn1_run (x := .ref s1.length) (st1 := s4) rfl).trans (fTuple_ref c4)))
  · rw [if_neg q] at T
    obtain ⟨s4, kp, o4⟩ := T
    refine ⟨s4, p1.tr (Keep.pre kp (p2.tr p3) (Nat.le_refl _)), ?_⟩
    rw [if_neg q]
    have x : G_lowers_of [ordD n ps, .int 400] s1 = some (.ex "TooMany" [.int 400] s4) :=
      gBody_xc (env := [some (ordD n ps), some (.int 400), none]) (e := [some (ordD n ps), some (.int 400), some (.ref s1.length)]) (start o4 (sSeq_xc rfl))
    refine gBody_xc (env := [some (ordD n ps)]) (e := [some (ordD n ps)]) (sRet_xc ?_)
    exact call2 (y := .int 400) ((gCall1_run (x := ordD n ps) (st1 := st) rfl).trans e1) rfl x
/-! ### which they are -/
theorem Low.next {n i : Nat} {ps : List (Nat × Nat)} {r : List Nat} (h : Low n ps r) (hi : i ∈ putL n ps r) (k : lastLt r i = true) : Low n ps (r ++ [i]) := by
  obtain ⟨a, b, c⟩ := putL_mem.mp hi
  refine ⟨h.lot.next a k, fun x hx j hj => ?_⟩
  rcases List.mem_append.mp hx with q | q
  · exact List.mem_append_left _ (h.down x q j hj)
  · rw [List.mem_singleton] at q
    subst q
    exact List.mem_append_left _ (c j hj)
theorem Low.nil {n : Nat} {ps : List (Nat × Nat)} : Low n ps [] := ⟨LotOk.nil, by simp⟩
theorem last_of {n i : Nat} {r t : List Nat} (h : LotOk n (r ++ i :: t)) : lastLt r i = true := by
  rcases List.eq_nil_or_concat r with q | ⟨q, z, e⟩
  · subst q; rfl
  · rw [List.concat_eq_append] at e
    subst e
    unfold lastLt
    rw [List.getLast?_append]
    have := (List.pairwise_append.mp h.asc).2.2 z (by simp) i (by simp)
    simpa using this
theorem tree_pre {n : Nat} {ps : List (Nat × Nat)} : ∀ (d : Nat) (r : List Nat) (x : List Nat), x ∈ treeL n ps d r → r <+: x
  | 0, r, x, h => by cases h
  | d + 1, r, x, h => by
    unfold treeL at h
    rcases List.mem_cons.mp h with e | h
    · rw [e]; exact List.prefix_refl _
    · obtain ⟨i, _, hx⟩ := List.mem_flatMap.mp h
      exact (List.prefix_append r [i]).trans (tree_pre d (r ++ [i]) x hx)
theorem tree_mem {n : Nat} {ps : List (Nat × Nat)} (ok : OrdOk n ps) : ∀ (d : Nat) (r : List Nat), Low n ps r → n + 1 ≤ d + r.length → ∀ x, x ∈ treeL n ps d r ↔ Low n ps x ∧ r <+: x
  | 0, r, h, hd, x => by
    have := h.lot.len
    omega
  | d + 1, r, h, hd, x => by
    unfold treeL
    rw [List.mem_cons, List.mem_flatMap]
    constructor
    · rintro (e | ⟨i, hi, hx⟩)
      · rw [e]; exact ⟨h, List.prefix_refl _⟩
      · obtain ⟨hp, hl⟩ := List.mem_filter.mp hi
        obtain ⟨a, b⟩ := (tree_mem ok d (r ++ [i]) (h.next hp hl) (by rw [List.length_append]; simp only [List.length_cons, List.length_nil]; omega) x).mp hx
        exact ⟨a, (List.prefix_append r [i]).trans b⟩
    · rintro ⟨hx, t, rfl⟩
      cases t with
      | nil => left; rw [List.append_nil]
      | cons i t =>
        right
        have hl := last_of hx.lot
        have hap := List.pairwise_append.mp hx.lot.asc
        have hp : i ∈ putL n ps r := by
          refine putL_mem.mpr ⟨hx.lot.in_ i (by simp), fun hi => ?_, fun j hj => ?_⟩
          · have := hap.2.2 i hi i (by simp)
            omega
          · have hj2 := hx.down i (by simp) j hj
            have hlt := am_lt ok i (hx.lot.in_ i (by simp)) j hj
            rcases List.mem_append.mp hj2 with q | q
            · exact q
            · rcases List.mem_cons.mp q with q | q
              · omega
              · have := (List.pairwise_cons.mp hap.2.1).1 j q
                omega
        refine ⟨i, List.mem_filter.mpr ⟨hp, hl⟩, ?_⟩
        refine (tree_mem ok d (r ++ [i]) (h.next hp hl) (by rw [List.length_append]; simp only [List.length_cons, List.length_nil]; omega) _).mpr ⟨hx, t, ?_⟩
        rw [List.append_assoc]; rfl
theorem all_mem {n : Nat} {ps : List (Nat × Nat)} (ok : OrdOk n ps) {x : List Nat} : x ∈ allL n ps ↔ Low n ps x := by
  unfold allL
  rw [tree_mem ok (n + 1) [] Low.nil (by simp)]
  exact ⟨fun h => h.1, fun h => ⟨h, List.nil_prefix⟩⟩
theorem lex_pre : ∀ (l : List Int) (a : Int) (t : List Int), HT.lexLt l (l ++ a :: t) = true
  | [], a, t => by rw [List.nil_append, HT.lexLt_nil_cons]
  | x :: l, a, t => by rw [List.cons_append, HT.lexLt_cons, if_pos rfl]; exact lex_pre l a t
theorem lex_step {a b : Int} (h : a < b) : ∀ (l s t : List Int), HT.lexLt (l ++ a :: s) (l ++ b :: t) = true
  | [], s, t => by rw [List.nil_append, List.nil_append, HT.lexLt_cons, if_neg (by omega)]; exact decide_eq_true h
  | x :: l, s, t => by rw [List.cons_append, List.cons_append, HT.lexLt_cons, if_pos rfl]; exact lex_step h l s t
def ltR (x y : List Nat) : Prop := HT.lexLt (nZ x) (nZ y) = true
theorem tree_asc {n : Nat} {ps : List (Nat × Nat)} : ∀ (d : Nat) (r : List Nat), (treeL n ps d r).Pairwise ltR
  | 0, r => List.Pairwise.nil
  | d + 1, r => by
    unfold treeL
    rw [List.pairwise_cons]
    constructor
    · intro x hx
      obtain ⟨i, _, hx⟩ := List.mem_flatMap.mp hx
      obtain ⟨t, rfl⟩ := tree_pre d (r ++ [i]) x hx
      unfold ltR nZ
      rw [List.append_assoc, List.map_append]
      exact lex_pre _ _ _
    · rw [List.pairwise_flatMap]
      refine ⟨fun i _ => tree_asc d (r ++ [i]), ?_⟩
      refine ((lot_put (n := n) (ps := ps) (r := r)).asc.filter _).imp fun {i j} hij x hx y hy => ?_
      obtain ⟨t, rfl⟩ := tree_pre d (r ++ [i]) x hx
      obtain ⟨u, rfl⟩ := tree_pre d (r ++ [j]) y hy
      unfold ltR nZ
      simp only [List.append_assoc, List.map_append]
      exact lex_step (Int.ofNat_lt.mpr hij) _ _ _
theorem lex_irr : ∀ l : List Int, HT.lexLt l l = false
  | [] => by rw [HT.lexLt_nil_nil]
  | x :: l => by rw [HT.lexLt_cons, if_pos rfl]; exact lex_irr l
theorem all_nodup {n : Nat} {ps : List (Nat × Nat)} : (allL n ps).Nodup := (tree_asc (n + 1) []).imp fun {a b} h e => by
  subst e
  unfold ltR at h
  rw [lex_irr] at h
  cases h
/-! ### the law's own list -/
def rowsU (n : Nat) (ps : List (Nat × Nat)) : Nat → List (List Nat)
  | 0 => [[]]
  | k + 1 => rowsU n ps k ++ ((rowsU n ps k).filter fun r => decide (lackL n ps k r = [])).map fun r => r ++ [k]
theorem rows_mem {n : Nat} {ps : List (Nat × Nat)} (ok : OrdOk n ps) : ∀ (k : Nat), k ≤ n → ∀ x, x ∈ rowsU n ps k ↔ LotOk k x ∧ ∀ y ∈ x, ∀ j, (am n ps y).testBit j = true → j ∈ x
  | 0, hk, x => by
    unfold rowsU
    rw [List.mem_singleton]
    constructor
    · intro e; subst e; exact ⟨LotOk.nil, by simp⟩
    · rintro ⟨a, _⟩
      cases x with
      | nil => rfl
      | cons y x => have := a.in_ y (by simp); omega
  | k + 1, hk, x => by
    unfold rowsU
    have hkn : k < n := hk
    rw [List.mem_append, rows_mem ok k (by omega), List.mem_map]
    constructor
    · rintro (⟨a, b⟩ | ⟨r, hr, rfl⟩)
      · exact ⟨a.mono (Nat.le_succ _), b⟩
      · obtain ⟨hr, hc⟩ := List.mem_filter.mp hr
        obtain ⟨a, b⟩ := (rows_mem ok k (by omega) r).mp hr
        have hlack := (lack_iff ok hkn).mp (of_decide_eq_true hc)
        refine ⟨a.add, fun y hy j hj => ?_⟩
        rcases List.mem_append.mp hy with q | q
        · exact List.mem_append_left _ (b y q j hj)
        · rw [List.mem_singleton] at q
          subst q
          exact List.mem_append_left _ (hlack j hj)
    · rintro ⟨a, b⟩
      by_cases hm : k ∈ x
      · right
        obtain ⟨s, t, rfl⟩ := List.append_of_mem hm
        have hap := List.pairwise_append.mp a.asc
        have ht : t = [] := by
          cases t with
          | nil => rfl
          | cons z t =>
            have h1 := (List.pairwise_cons.mp hap.2.1).1 z (by simp)
            have h2 := a.in_ z (by simp)
            omega
        subst ht
        have hlow : ∀ y ∈ s, y < k := fun y hy => hap.2.2 y hy k (by simp)
        refine ⟨s, List.mem_filter.mpr ⟨(rows_mem ok k (by omega) s).mpr ⟨⟨hap.1, hlow⟩, fun y hy j hj => ?_⟩, decide_eq_true ((lack_iff ok hkn).mpr fun j hj => ?_)⟩, rfl⟩
        · rcases List.mem_append.mp (b y (List.mem_append_left _ hy) j hj) with q | q
          · exact q
          · rw [List.mem_singleton] at q
            have h1 := hlow y hy
            have h2 := am_lt ok y (by omega) j hj
            omega
        · rcases List.mem_append.mp (b k (by simp) j hj) with q | q
          · exact q
          · rw [List.mem_singleton] at q
            have h2 := am_lt ok k hkn j hj
            omega
      · left
        refine ⟨⟨a.asc, fun y hy => ?_⟩, b⟩
        have h1 := a.in_ y hy
        have : y ≠ k := fun e => hm (e ▸ hy)
        omega
theorem rows_nodup {n : Nat} {ps : List (Nat × Nat)} (ok : OrdOk n ps) : ∀ (k : Nat), k ≤ n → (rowsU n ps k).Nodup
  | 0, _ => by unfold rowsU; simp
  | k + 1, hk => by
    unfold rowsU
    have ih := rows_nodup ok k (by omega)
    rw [List.nodup_append]
    refine ⟨ih, ?_, fun a ha b hb e => ?_⟩
    · exact List.pairwise_map.mpr ((ih.filter _).imp fun {x y} h e => h (List.append_cancel_right e))
    · obtain ⟨r, hr, rfl⟩ := List.mem_map.mp hb
      have := ((rows_mem ok k (by omega) a).mp ha).1.in_ k (by rw [e]; simp)
      omega
theorem rows_len {n : Nat} {ps : List (Nat × Nat)} : ∀ k : Nat, (rowsU n ps k).length ≤ 2 ^ k
  | 0 => by simp [rowsU]
  | k + 1 => by
    have ih := rows_len (n := n) (ps := ps) k
    unfold rowsU
    have h1 := List.length_filter_le (fun r => decide (lackL n ps k r = [])) (rowsU n ps k)
    rw [List.length_append, List.length_map, Nat.pow_succ]
    omega
theorem rows_head {n : Nat} {ps : List (Nat × Nat)} : ∀ k : Nat, ∃ l, rowsU n ps k = [] :: l
  | 0 => ⟨[], rfl⟩
  | k + 1 => by
    obtain ⟨l, e⟩ := rows_head (n := n) (ps := ps) k
    unfold rowsU
    exact ⟨_, by rw [e, List.cons_append]⟩
theorem rows_perm {n : Nat} {ps : List (Nat × Nat)} (ok : OrdOk n ps) : (allL n ps).Perm (rowsU n ps n) := by
  refine (List.perm_ext_iff_of_nodup all_nodup (rows_nodup ok n (Nat.le_refl _))).mpr fun x => ?_
  rw [all_mem ok, rows_mem ok n (Nat.le_refl _)]
  exact ⟨fun h => ⟨h.lot, h.down⟩, fun h => ⟨h.1, h.2⟩⟩
theorem all_sorted {n : Nat} {ps : List (Nat × Nat)} (ok : OrdOk n ps) : (allL n ps).map nZ = ((rowsU n ps n).map nZ).mergeSort leL := by
  refine sorted_one ((rows_perm ok).map nZ) ?_
  rw [List.pairwise_map]
  exact (tree_asc (n + 1) []).imp fun {a b} h => NtL.lex_asym _ _ h
theorem all_len {n : Nat} {ps : List (Nat × Nat)} (ok : OrdOk n ps) : (allL n ps).length ≤ 2 ^ n := by
  rw [(rows_perm ok).length_eq]
  exact rows_len n
theorem tup_all {n : Nat} {ps : List (Nat × Nat)} (ok : OrdOk n ps) : (((rowsU n ps n).map nZ).mergeSort leL).map tupL = (allL n ps).map lotD := by
  rw [← all_sorted ok, List.map_map]
  exact List.map_congr_left fun r _ => (lotD_z r).symm
end Mk01
set_option Elab.async false
set_option linter.all false
set_option autoImplicit false
set_option maxRecDepth 100000
set_option maxHeartbeats 1000000
/-! Kb7: the law's own list of lower sets, and what it holds to be put and taken. -/
namespace Mk01
open PySem PySem.Spec MP
theorem law_lowers_spec {n : Nat} {ps : List (Nat × Nat)} (g : Good n ps) (hn : n ≤ 7) (st : Store) : ∃ st' k, Pre st st' ∧ G__law_lowers [ordD n ps] st = some (.ok (.ref k) st') ∧ cellL st' k = some ((allL n ps).map lotD) ∧ st.length ≤ k := by
  have hn20 : n ≤ 20 := by omega
  obtain ⟨s1, q, refs, p1, e1, F⟩ := aheads_spec g.ok g.len st
  have hg : gRng1 (aCons (g2 fIx (gv 0) (gc (.int 0))) aNil) (envW (ordD n ps) q s1.length none none none) (s1 ++ [Cell.lst [.tup []]]) = some (.ok (itR 0 n, (mpTo n).length + 1) (s1 ++ [Cell.lst [.tup []]])) := by
    rw [mpTo_length]
    exact gRng1_run (aCons1 ((g2_run (x := ordD n ps) (y := .int 0) rfl rfl).trans (fIx_tup (i := 0) rfl))) (by omega)
  have L := sFor_run (gi := gRng1 (aCons (g2 fIx (gv 0) (gc (.int 0))) aNil)) (f := tgName 3) (body := sSeq (sSet 4 (gLst aNil)) (sSeq (sFor (gSeq (gv 2)) (tgName 5) bodyW) (sSet 2 (g2 fAdd (gv 2) (gv 4))))) (it := itR 0 n) (ds := mpTo n)
    (env := envW (ordD n ps) q s1.length none none none) (st := s1 ++ [Cell.lst [.tup []]]) (base := s1 ++ [Cell.lst [.tup []]])
    (fun i env t => ∃ f x3 x4 x5, env = envW (ordD n ps) q f x3 x4 x5 ∧ Pre s1 t ∧ cellL t f = some ((rowsU n ps i).map lotD))
    hg ⟨s1.length, none, none, none, rfl, List.prefix_append _ _, cellL_new⟩ (fun i env t _ => itR_mpTo) (by
      rintro i d env t hd ⟨f, x3, x4, x5, rfl, hp, hc⟩
      rw [mpTo_at] at hd
      have hi : i < n := by
        by_cases h : i < n
        · exact h
        · rw [if_neg h] at hd; cases hd
      rw [if_pos hi] at hd
      cases hd
      have h128 : 2 ^ i ≤ 64 := Nat.pow_le_pow_right (by omega) (show i ≤ 6 by omega)
      have hl := rows_len (n := n) (ps := ps) i
      have hr : ∀ r ∈ rowsU n ps i, LotOk i r := fun r hr => ((rows_mem g.ok i (by omega) r).mp hr).1
      have L2 := sFor_run (gi := gSeq (gv 2)) (f := tgName 5) (body := bodyW) (it := itC f) (ds := (rowsU n ps i).map lotD)
        (env := envW (ordD n ps) q f (some (.int (i : Nat))) (some (.ref t.length)) x5) (st := t ++ [Cell.lst []]) (base := t ++ [Cell.lst []])
        (fun j env u => ∃ x5, env = envW (ordD n ps) q f (some (.int (i : Nat))) (some (.ref t.length)) x5 ∧ Pre t u ∧ cellL u t.length = some (((((rowsU n ps i).take j).filter fun r => decide (lackL n ps i r = [])).map fun r => r ++ [i]).map lotD))
        (gSeq_ref (n := f) rfl (Pre.cell (List.prefix_append _ _) hc)) ⟨x5, rfl, List.prefix_append _ _, cellL_new⟩ (fun j env u h => by
          obtain ⟨_, _, hpu, _⟩ := h
          exact itC_pre hc hpu) (by
          rintro j d env u hd ⟨x5, rfl, hpu, hcu⟩
          rw [List.getElem?_map] at hd
          obtain ⟨r, hrj, rfl⟩ := Option.map_eq_some_iff.mp hd
          have hrm := hr r (List.mem_of_getElem? hrj)
          obtain ⟨u2, a1, a2⟩ := testW_run (f := f) (x4 := some (.ref t.length)) (r := r) hn20 hi (F.pre (hp.tr hpu))
          have hcu2 := a1.cell hcu
          have hcut := take_succ_get hrj
          have hlm : ((((rowsU n ps i).take j).filter fun r => decide (lackL n ps i r = [])).map fun r => r ++ [i]).length ≤ 64 := by
            rw [List.length_map]
            have h1 := List.length_filter_le (fun r => decide (lackL n ps i r = [])) ((rowsU n ps i).take j)
            rw [List.length_take] at h1
            omega
          by_cases q0 : lackL n ps i r = []
          · rw [decide_eq_true q0] at a2
            have hrl := hrm.len
            have ga : g2 fAdd (gv 5) (gTup (aCons (gv 3) aNil)) (envW (ordD n ps) q f (some (.int (i : Nat))) (some (.ref t.length)) (some (lotD r))) u2 = some (.ok (lotD (r ++ [i])) u2) := by
              refine (g2_run (x := .tup (mI r)) (y := .tup [.int (i : Nat)]) rfl (gTup_run (aCons1 rfl) (by simp))).trans ?_
              rw [fAdd_tups (by rw [mI_len]; simp only [List.length_cons, List.length_nil]; omega), mI_add]
              rfl
            have ap := append_run (go := gv 4) (env := envW (ordD n ps) q f (some (.int (i : Nat))) (some (.ref t.length)) (some (lotD r))) rfl hcu2 ga (by rw [List.length_map]; omega)
            refine ⟨envW (ordD n ps) q f (some (.int (i : Nat))) (some (.ref t.length)) (some (lotD r)), _, _, rfl, .inl ((sIf_t a2).trans ap), some (lotD r), rfl, (hpu.tr a1).set (Nat.le_refl _) _, ?_⟩
            rw [cellL_set hcu2, hcut, List.filter_append, List.filter_cons_of_pos (by rw [decide_eq_true q0]), List.map_append, List.map_append]
            rfl
          · rw [decide_eq_false q0] at a2
            refine ⟨envW (ordD n ps) q f (some (.int (i : Nat))) (some (.ref t.length)) (some (lotD r)), _, u2, rfl, .inl ((sIf_f a2).trans rfl), some (lotD r), rfl, hpu.tr a1, ?_⟩
            rw [hcut, List.filter_append, List.filter_cons_of_neg (by rw [decide_eq_false q0]; exact Bool.false_ne_true), List.filter_nil, List.append_nil]
            exact hcu2)
      obtain ⟨env3, t3, r3, x5', rfl, p3, c3⟩ := L2
      rw [List.length_map, List.take_length] at c3
      have cf3 := p3.cell hc
      have hlm : (((rowsU n ps i).filter fun r => decide (lackL n ps i r = [])).map fun r => r ++ [i]).length ≤ 64 := by
        rw [List.length_map]
        have h1 := List.length_filter_le (fun r => decide (lackL n ps i r = [])) (rowsU n ps i)
        omega
      have ad := fAdd_cells cf3 c3 (by rw [List.length_map, List.length_map]; omega)
      refine ⟨envW (ordD n ps) q f (some (.int (i : Nat))) x4 x5, envW (ordD n ps) q t3.length (some (.int (i : Nat))) (some (.ref t.length)) x5', t3 ++ [Cell.lst ((rowsU n ps i).map lotD ++ (((rowsU n ps i).filter fun r => decide (lackL n ps i r = [])).map fun r => r ++ [i]).map lotD)], rfl, .inl ?_, t3.length, some (.int (i : Nat)), some (.ref t.length), x5', rfl, (hp.tr p3).push _, ?_⟩
      · refine (sSeq_nx (env' := envW (ordD n ps) q f (some (.int (i : Nat))) (some (.ref t.length)) x5) (st' := t ++ [Cell.lst []]) (sSet_run (gLst_run (xs := []) rfl (by simp)))).trans ?_
        exact (sSeq_nx r3).trans (sSet_run ((g2_run (x := .ref f) (y := .ref t.length) rfl rfl).trans ad))
      · rw [cellL_new, ← List.map_append]; rfl)
  obtain ⟨env5, s5, r5, f, x3, x4, x5, rfl, p5, c5⟩ := L
  rw [mpTo_length] at c5
  obtain ⟨more, hmore⟩ := rows_head (n := n) (ps := ps) n
  have srt : fSorted2 [.ref f] s5 = some (.ok (.ref s5.length) (s5 ++ [Cell.lst ((allL n ps).map lotD)])) := by
    rw [← tup_all g.ok]
    unfold fSorted2
    have hT : isTIs s5 [.ref f] = true := by
      unfold isTIs listD
      dsimp only
      rw [c5, hmore]
      rfl
    rw [if_pos hT]
    unfold fSortTI
    dsimp only
    rw [show listD s5 (.ref f) = some ((rowsU n ps n).map lotD) from c5]
    dsimp only
    rw [tiD_lots, hmore]
    rfl
  refine ⟨s5 ++ [Cell.lst ((allL n ps).map lotD)], s5.length, (p1.tr p5).push _, gBody_rt (env := [some (ordD n ps), none, none, none, none, none, none]) ?_, cellL_new, (p1.tr p5).length_le⟩
  unfold S__law_lowers
  refine (sSeq_nx (env' := envW (ordD n ps) q s1.length none none none) (st' := s1 ++ [Cell.lst [.tup []]]) ?_).trans ?_
  · unfold sPar
    rw [aConsN ((gCall1_run (x := ordD n ps) (st1 := st) rfl).trans e1) (aCons1 (gLst_run (xs := [.tup []]) (aCons1 (gTup_run (xs := []) rfl (by simp))) (by simp))), sb_ok]
    rfl
  refine (sSeq_nx r5).trans (sRet_run ?_)
  exact (gFn1_run (x := .ref f) (st1 := s5) rfl).trans srt
end Mk01
set_option Elab.async false
set_option linter.all false
set_option autoImplicit false
set_option maxRecDepth 100000
set_option maxHeartbeats 1000000
/-! Kb8: what the law holds to be put and taken; what it hears. -/
namespace Mk01
open PySem PySem.Spec MP
abbrev envP (o lot : D) (q : Nat) (x3 x4 x5 x6 : Option D) : MP.Env := [some o, some lot, some (.ref q), x3, x4, x5, x6]
abbrev testP : GT := gb1 (g2 fEq (gLc (gSeq (g2 fIx (gv 2) (gv 4))) (tgName 5) (gb1 (g2 (fIn true) (gv 5) (gv 1))) (gv 5) [5]) (gLst aNil))
abbrev testQ : GT := gb1 (g2 fEq (gLc (gSeq (gv 1)) (tgName 6) (gb1 (g2 (fIn false) (gv 4) (g2 fIx (gv 2) (gv 6)))) (gv 6) [6]) (gLst aNil))
theorem testP_run {n q i : Nat} {ps : List (Nat × Nat)} {r refs : List Nat} {s : Store} {x3 x5 x6 : Option D} (hn : n ≤ 20) (hi : i < n) (F : Found n ps q n s refs) : ∃ s', Pre s s' ∧ testP (envP (ordD n ps) (lotD r) q x3 (some (.int i)) x5 x6) s = some (.ok (decide (lackL n ps i r = [])) s') := by
  obtain ⟨a, a1, a2⟩ := F.ix hi
  have hl := bits_len (n := n) (m := am n ps i)
  obtain ⟨s3, k, v1, v2, v3, _⟩ := gLc_run (gi := gSeq (g2 fIx (gv 2) (gv 4))) (it := itC a) (f := tgName 5) (tt := gb1 (g2 (fIn true) (gv 5) (gv 1))) (e := gv 5) (env := envP (ordD n ps) (lotD r) q x3 (some (.int i)) x5 x6) (st := s) (base := s) (ds := mI (bits n (am n ps i))) (vs := [5])
    (natB fun y => !decide (y ∈ r)) (fun d => d) (gSeq_ref ((g2_run (x := .ref q) (y := .int i) rfl rfl).trans a1) a2) Pre.rfl (by rw [mI_len]; omega) (fun j s' h => itC_pre a2 h) (by
      intro d hd t hpt
      obtain ⟨y, hy, rfl⟩ := List.mem_map.mp hd
      exact ⟨envP (ordD n ps) (lotD r) q x3 (some (.int i)) (some (.int y)) x6, t, rfl, gb1_run ((g2_run (x := .int y) (y := lotD r) rfl rfl).trans fNotIn_lot), Pre.rfl, fun _ => ⟨t, rfl, Pre.rfl⟩⟩)
  rw [natB_filter] at v3
  obtain ⟨s4, w1, w2⟩ := eqNil_run v2 v3
  exact ⟨s4, v1.tr w1, w2⟩
def upL (n : Nat) (ps : List (Nat × Nat)) (r : List Nat) (x : Nat) : List Nat := r.filter fun y => decide (x ∈ bits n (am n ps y))
theorem testQ_run {n q x : Nat} {ps : List (Nat × Nat)} {r refs : List Nat} {s : Store} {x3 x5 x6 : Option D} (h : LotOk n r) (hn : n ≤ 20) (F : Found n ps q n s refs) : ∃ s', Pre s s' ∧ testQ (envP (ordD n ps) (lotD r) q x3 (some (.int x)) x5 x6) s = some (.ok (decide (upL n ps r x = [])) s') := by
  have hl := h.len
  obtain ⟨s3, k, v1, v2, v3, _⟩ := gLc_run (gi := gSeq (gv 1)) (it := itL (mI r)) (f := tgName 6) (tt := gb1 (g2 (fIn false) (gv 4) (g2 fIx (gv 2) (gv 6)))) (e := gv 6) (env := envP (ordD n ps) (lotD r) q x3 (some (.int x)) x5 x6) (st := s) (base := s) (ds := mI r) (vs := [6])
    (natB fun y => decide (x ∈ bits n (am n ps y))) (fun d => d) (gSeq_tup rfl) Pre.rfl (by rw [mI_len]; omega) (fun j s' _ => rfl) (by
      intro d hd t hpt
      obtain ⟨y, hy, rfl⟩ := List.mem_map.mp hd
      obtain ⟨a, a1, a2⟩ := (F.pre hpt).ix (h.in_ y hy)
      refine ⟨envP (ordD n ps) (lotD r) q x3 (some (.int x)) x5 (some (.int y)), t, rfl, ?_, Pre.rfl, fun _ => ⟨t, rfl, Pre.rfl⟩⟩
      exact gb1_run ((g2_run (x := .int x) (y := .ref a) rfl ((g2_run (x := .ref q) (y := .int y) rfl rfl).trans a1)).trans (fIn_nat a2)))
  rw [natB_filter] at v3
  obtain ⟨s4, w1, w2⟩ := eqNil_run v2 v3
  exact ⟨s4, v1.tr w1, w2⟩
def outL (n : Nat) (r : List Nat) : List Nat := (List.range n).filter fun i => !decide (i ∈ r)
def dueP (n : Nat) (ps : List (Nat × Nat)) (r : List Nat) : List Nat := (outL n r).filter fun i => decide (lackL n ps i r = [])
def dueT (n : Nat) (ps : List (Nat × Nat)) (r : List Nat) : List Nat := r.filter fun x => decide (upL n ps r x = [])
theorem dueP_eq {n : Nat} {ps : List (Nat × Nat)} {r : List Nat} (ok : OrdOk n ps) : dueP n ps r = putL n ps r := by
  refine LotOk.ext (n := n) ⟨(List.pairwise_lt_range.filter _).filter _, fun x hx => ?_⟩ lot_put fun x => ?_
  · exact List.mem_range.mp (List.mem_filter.mp (List.mem_filter.mp hx).1).1
  · unfold dueP outL
    rw [List.mem_filter, List.mem_filter, List.mem_range, putL_mem, and_assoc]
    refine and_congr_right fun hx => and_congr ?_ ?_
    · simp
    · rw [decide_eq_true_iff, lack_iff ok hx]
theorem dueT_eq {n : Nat} {ps : List (Nat × Nat)} {r : List Nat} (h : LotOk n r) : dueT n ps r = takL n ps r := by
  refine (h.filter _).ext (lot_tak h) fun x => ?_
  rw [List.mem_filter, takL_mem, decide_eq_true_iff]
  refine and_congr_right fun hx => ?_
  unfold upL
  rw [nil_iff]
  refine forall_congr' fun y => forall_congr' fun hy => ?_
  rw [decide_eq_false_iff_not, bits_mem]
  refine ⟨fun k => not_true fun z => k ⟨h.in_ x hx, z⟩, fun k z => ?_⟩
  rw [k] at z
  cases z.2
theorem mpTo_mI {n : Nat} : mpTo n = mI (List.range n) := rfl
theorem law_put_due_spec {n : Nat} {ps : List (Nat × Nat)} {r : List Nat} (g : Good n ps) (h : LotOk n r) (st : Store) : ∃ st', Pre st st' ∧ G__law_put_due [ordD n ps, lotD r] st = some (.ok (.tup [lotD (putL n ps r), lotD (takL n ps r)]) st') := by
  have hn := g.ok.le
  have hl := h.len
  obtain ⟨s1, q, refs, p1, e1, F⟩ := aheads_spec g.ok g.len st
  obtain ⟨s2, k2, v1, v2, v3, _⟩ := gLc_run (gi := gRng1 (aCons (g2 fIx (gv 0) (gc (.int 0))) aNil)) (it := itR 0 n) (f := tgName 4) (tt := gb1 (g2 (fIn true) (gv 4) (gv 1))) (e := gv 4) (env := envP (ordD n ps) (lotD r) q none none none none) (st := s1) (base := s1) (ds := mpTo n) (vs := [4])
    (natB fun i => !decide (i ∈ r)) (fun d => d) (by rw [mpTo_length]; exact gRng1_run (aCons1 ((g2_run (x := ordD n ps) (y := .int 0) rfl rfl).trans (fIx_tup (i := 0) rfl))) (by omega)) Pre.rfl (by rw [mpTo_length]; omega) (fun j s' _ => itR_mpTo) (by
      intro d hd t hpt
      rw [mpTo_mI] at hd
      obtain ⟨y, hy, rfl⟩ := List.mem_map.mp hd
      exact ⟨envP (ordD n ps) (lotD r) q none (some (.int y)) none none, t, rfl, gb1_run ((g2_run (x := .int y) (y := lotD r) rfl rfl).trans fNotIn_lot), Pre.rfl, fun _ => ⟨t, rfl, Pre.rfl⟩⟩)
  rw [mpTo_mI, natB_filter] at v3
  have hol : (outL n r).length ≤ n := by
    have := List.length_filter_le (fun i => !decide (i ∈ r)) (List.range n)
    rw [List.length_range] at this
    exact this
  obtain ⟨s3, k3, u1, u2, u3, _⟩ := gLc_run (gi := gSeq (gv 3)) (it := itC k2) (f := tgName 4) (tt := testP) (e := gv 4) (env := envP (ordD n ps) (lotD r) q (some (.ref k2)) none none none) (st := s2) (base := s2) (ds := mI (outL n r)) (vs := [4])
    (natB fun i => decide (lackL n ps i r = [])) (fun d => d) (gSeq_ref (n := k2) rfl v3) Pre.rfl (by rw [mI_len]; omega) (fun j s' hp => itC_pre v3 hp) (by
      intro d hd t hpt
      obtain ⟨y, hy, rfl⟩ := List.mem_map.mp hd
      obtain ⟨t2, a1, a2⟩ := testP_run (x3 := some (.ref k2)) (x5 := none) (x6 := none) (r := r) hn (List.mem_range.mp (List.mem_filter.mp hy).1) (F.pre (v1.tr hpt))
      exact ⟨envP (ordD n ps) (lotD r) q (some (.ref k2)) (some (.int y)) none none, t2, rfl, a2, a1, fun _ => ⟨t2, rfl, Pre.rfl⟩⟩)
  rw [natB_filter] at u3
  obtain ⟨s4, k4, w1, w2, w3, _⟩ := gLc_run (gi := gSeq (gv 1)) (it := itL (mI r)) (f := tgName 4) (tt := testQ) (e := gv 4) (env := envP (ordD n ps) (lotD r) q (some (.ref k3)) none none none) (st := s3) (base := s3) (ds := mI r) (vs := [4])
    (natB fun x => decide (upL n ps r x = [])) (fun d => d) (gSeq_tup rfl) Pre.rfl (by rw [mI_len]; omega) (fun j s' _ => rfl) (by
      intro d hd t hpt
      obtain ⟨y, hy, rfl⟩ := List.mem_map.mp hd
      obtain ⟨t2, a1, a2⟩ := testQ_run (x := y) (x3 := some (.ref k3)) (x5 := none) (x6 := none) h hn (F.pre ((v1.tr u1).tr hpt))
      exact ⟨envP (ordD n ps) (lotD r) q (some (.ref k3)) (some (.int y)) none none, t2, rfl, a2, a1, fun _ => ⟨t2, rfl, Pre.rfl⟩⟩)
  rw [natB_filter] at w3
  have e3 : mI ((outL n r).filter fun i => decide (lackL n ps i r = [])) = mI (putL n ps r) := by rw [show (outL n r).filter (fun i => decide (lackL n ps i r = [])) = dueP n ps r from rfl, dueP_eq g.ok]
  have e4 : mI (r.filter fun x => decide (upL n ps r x = [])) = mI (takL n ps r) := by rw [show r.filter (fun x => decide (upL n ps r x = [])) = dueT n ps r from rfl, dueT_eq h]
  rw [e3] at u3
  rw [e4] at w3
  refine ⟨s4, ((p1.tr v1).tr u1).tr w1, gBody_rt (env := [some (ordD n ps), some (lotD r), none, none, none, none, none]) ?_⟩
  unfold S__law_put_due
  refine (sSeq_nx (env' := envP (ordD n ps) (lotD r) q none none none none) (st' := s1) (sSet_run ((gCall1_run (x := ordD n ps) rfl).trans e1))).trans ?_
  refine (sSeq_nx (env' := envP (ordD n ps) (lotD r) q (some (.ref k2)) none none none) (st' := s2) (sSet_run v2)).trans ?_
  refine (sSeq_nx (env' := envP (ordD n ps) (lotD r) q (some (.ref k3)) none none none) (st' := s3) (sSet_run u2)).trans (sRet_run ?_)
  exact gTup_run (xs := [lotD (putL n ps r), lotD (takL n ps r)]) (aConsN ((gFn1_run (x := .ref k3) (st1 := s3) rfl).trans (fTuple_ref u3)) (aCons1 ((gFn1_run w2).trans (fTuple_ref w3)))) (by simp)
/-! ### what is heard -/
theorem heard_ok {g : G} {env : MP.Env} {st st' : Store} {d : D} (h : g env st = some (.ok d st')) : gLamC 2 S__law_heard g env st = some (.ok (.ref st'.length) (st' ++ [Cell.lst [d]])) := by
  unfold gLamC
  refine gBody_rt (env := [none, none]) ?_
  have e : sRet (gLst (aCons (gThk (g env)) aNil)) [none, none] st = some (.rt (.ref st'.length), st' ++ [Cell.lst [d]]) := sRet_run (gLst_run (xs := [d]) (aCons1 (g := gThk (g env)) h) (by simp))
  unfold S__law_heard sTry
  rw [e]
theorem heard_x {g : G} {env : MP.Env} {st st' : Store} {c : Str} {t : D} {w : Str} (h : g env st = some (.ex c [t] st'))
    (hc : gHand (ntOf excs) ((mOf catches "BadItem", some 1, fun names fs => (sRet (gTup (aCons (gc (.str "item")) (aCons (gFld names fs "given") aNil))))) :: ((mOf catches "BadLower", some 1, fun names fs => (sRet (gTup (aCons (gc (.str "lower")) (aCons (gFld names fs "given") aNil))))) :: ((mOf catches "TooMany", some 1, fun names fs => (sRet (gTup (aCons (gc (.str "many")) (aCons (gFld names fs "most") aNil))))) :: ((mOf catches "TurnError", none, fun _ _ => (sRet (gTup (aCons (gc (.str "other")) (aCons (gc .non) aNil))))) :: [])))) c [t] [none, none] st' = some (.rt (.tup [.str w, t]), st')) :
    gLamC 2 S__law_heard g env st = some (.ok (.tup [.str w, t]) st') := by
  unfold gLamC
  refine gBody_rt (env := [none, none]) ?_
  have e : sRet (gLst (aCons (gThk (g env)) aNil)) [none, none] st = some (.xc c [t] [none, none], st') := by
    refine sRet_xc ?_
    unfold gLst
    rw [aCons1_ex (g := gThk (g env)) (env := [none, none]) h]
    rfl
  unfold S__law_heard sTry
  rw [e]
  exact hc
theorem heard_item {g : G} {env : MP.Env} {st st' : Store} {t : D} (h : g env st = some (.ex "BadItem" [t] st')) : gLamC 2 S__law_heard g env st = some (.ok (.tup [.str "item", t]) st') := heard_x h rfl
theorem heard_lower {g : G} {env : MP.Env} {st st' : Store} {t : D} (h : g env st = some (.ex "BadLower" [t] st')) : gLamC 2 S__law_heard g env st = some (.ok (.tup [.str "lower", t]) st') := heard_x h rfl
theorem heard_many {g : G} {env : MP.Env} {st st' : Store} {t : D} (h : g env st = some (.ex "TooMany" [t] st')) : gLamC 2 S__law_heard g env st = some (.ok (.tup [.str "many", t]) st') := heard_x h rfl
end Mk01
set_option Elab.async false
set_option linter.all false
set_option autoImplicit false
set_option maxRecDepth 100000
set_option maxHeartbeats 1000000
/-! Kb9: all that can be put to a lower set, or taken, is told. -/
namespace Mk01
open PySem PySem.Spec MP
theorem append_run2 {go g : G} {env : MP.Env} {st st2 : Store} {r : Nat} {xs0 xs : List D} {y : D} (ho : go env st = some (.ok (.ref r) st)) (h0 : cellL st r = some xs0) (hg : g env st = some (.ok y st2)) (hc : cellL st2 r = some xs) (hl : xs.length < 16777216) :
    sExpr (gMethL fAppend go (aCons g aNil)) env st = some (.nx env, st2.set r (.lst (xs ++ [y]))) := by
  have e : listD st (.ref r) = some xs0 := h0
  unfold sExpr gMethL aCons aNil
  simp only [ho, rb_ok, e, hg, fAppend, hc, if_pos hl, sb_ok]
theorem fIn_lot {y : Nat} {r : List Nat} {st : Store} : fIn false (.int y) (lotD r) st = some (.ok (.bl (decide (y ∈ r))) st) := by
  unfold fIn
  rw [if_neg (show ¬ isDc st (lotD r) = true from Bool.false_ne_true), if_pos (show isFl (.int y) = true from rfl)]
  unfold fInF
  rw [show seqD st (lotD r) = some (mI r) from rfl]
  dsimp only
  rw [anyF_nat]
  rfl
theorem putR_sorted {n i : Nat} {ps : List (Nat × Nat)} {r : List Nat} (h : LotOk n r) (hi : i ∈ putL n ps r) : nZ (putR n i r) = (nZ (r ++ [i])).mergeSort fun a b => decide (a ≤ b) := by
  obtain ⟨h1, h2, _⟩ := putL_mem.mp hi
  refine sort_ints_one ?_ ?_
  · refine List.Perm.map _ ?_
    refine (List.perm_ext_iff_of_nodup (lotOk_bits (n := n)).nodup ?_).mpr fun x => ?_
    · rw [List.nodup_append]
      exact ⟨h.nodup, by simp, fun a ha b hb e => by rw [List.mem_singleton] at hb; subst hb; exact h2 (e ▸ ha)⟩
    · rw [bits_mem, maskL_test]
      refine ⟨fun z => z.2, fun z => ⟨?_, z⟩⟩
      rcases List.mem_append.mp z with q | q
      · exact h.in_ x q
      · rw [List.mem_singleton] at q; omega
  · unfold nZ
    rw [List.pairwise_map]
    exact (lotOk_bits (n := n)).asc.imp fun {a b} z => by omega
theorem fSorted3_lot {l : List Nat} {st : Store} : fSorted3 [lotD l] st = some (.ok (.ref st.length) (st ++ [Cell.lst (zL ((nZ l).mergeSort fun a b => decide (a ≤ b)))])) := by
  unfold fSorted3
  rw [if_pos (show isTupI [lotD l] = true from rfl), lotD_z]
  unfold fSortTup
  dsimp only
  rw [intD_all]
  rfl
def hearP (c : Bool) (r : List Nat) (i : Nat) : PyData := if c = true then .list [.tuple (pI (nZ r))] else .tuple [.str "item", .int i]
theorem fit_item : Fit 0 2000 (.str "item") := ⟨by decide +kernel, rfl, by decide +kernel, Nat.le_refl _, by decide +kernel, by decide +kernel⟩
theorem fit_hear {n i : Nat} {r : List Nat} (c : Bool) (h : LotOk n r) (hn : n ≤ 20) (hi : i < 1000) : Fit 2 5000 (hearP c r i) := by
  unfold hearP
  cases c with
  | true =>
    rw [if_pos rfl]
    exact fit_le (fit_list (k := 1) (w := 420) (xs := [.tuple (pI (nZ r))]) fun d hd => by rw [List.mem_singleton] at hd; subst hd; exact fit_lot h hn) (by omega) (by simp)
  | false =>
    rw [if_neg Bool.false_ne_true]
    exact fit_le (fit_tuple (k := 0) (w := 2000) (xs := [.str "item", .int i]) fun d hd => by
      simp only [List.mem_cons, List.not_mem_nil, or_false] at hd
      rcases hd with rfl | rfl
      · exact fit_item
      · exact fit_le (fit_int (by omega)) (by omega) (by omega)) (by omega) (by simp)
theorem pd_one {s : Store} {j : Nat} {r : List Nat} (hc : cellL s j = some [lotD r]) : pd s 15 (.ref j) = some (.list [.tuple (pI (nZ r))]) := by
  refine pd_list (k := 14) hc ?_
  simp only [List.map_cons, List.map_nil, pd_lot (k := 13), optAll]
theorem pd_item {s : Store} {i : Nat} : pd s 15 (.tup [.str "item", .int i]) = some (.tuple [.str "item", .int i]) := rfl
/-- what stands for an answer: told in a list, or refused -/
structure Ans (st st' : Store) (d : D) (p : PyData) : Prop where
  pre : Pre st st'
  pd_ : ∀ s, (∀ j xs, st.length ≤ j → cellL st' j = some xs → cellL s j = some xs) → pd s 15 d = some p
  no : ∀ s, isE1 s d = none
theorem Ans.at {st st' s : Store} {d : D} {p : PyData} (h : Ans st st' d p) (hp : Pre st' s) : pd s 15 d = some p := h.pd_ s fun j xs _ e => hp.cell e
theorem ans_list {st st' : Store} {r : List Nat} {i : Nat} (hp : Pre st st') : Ans st (st' ++ [Cell.lst [lotD r]]) (.ref st'.length) (hearP true r i) :=
  ⟨hp.push _, fun s h => pd_one (h st'.length _ hp.length_le cellL_new), fun s => rfl⟩
theorem ans_item {st st' : Store} {r : List Nat} {i : Nat} (hp : Pre st st') : Ans st st' (.tup [.str "item", .int i]) (hearP false r i) := ⟨hp, fun s _ => pd_item, fun s => rfl⟩
abbrev envV (n : Nat) (ps : List (Nat × Nat)) (r : List Nat) (x4 x5 x6 x7 : Option D) : MP.Env := [some (ordD n ps), some (lotD r), some (lotD (putL n ps r)), some (lotD (takL n ps r)), x4, x5, x6, x7]
theorem heard_put {n i : Nat} {ps : List (Nat × Nat)} {r : List Nat} {x5 x6 x7 : Option D} (g : Good n ps) (h : Low n ps r) (hi : i < n) (st : Store) :
    ∃ d st', gLamC 2 S__law_heard (gCall 3 G_put (aCons (gv 0) (aCons (gv 1) (aCons (gv 4) aNil)))) (envV n ps r (some (.int i)) x5 x6 x7) st = some (.ok d st') ∧ Ans st st' d (hearP (decide (i ∈ putL n ps r)) (putR n i r) i) := by
  obtain ⟨s1, p1, e1⟩ := put_spec g h hi st
  have e2 : gCall 3 G_put (aCons (gv 0) (aCons (gv 1) (aCons (gv 4) aNil))) (envV n ps r (some (.int i)) x5 x6 x7) st = G_put [ordD n ps, lotD r, .int i] st := call3 (x := ordD n ps) (y := lotD r) (z := .int i) rfl rfl rfl rfl
  by_cases q : i ∈ putL n ps r
  · rw [if_pos q] at e1
    rw [decide_eq_true q]
    exact ⟨_, _, heard_ok (e2.trans e1), ans_list p1⟩
  · rw [if_neg q] at e1
    rw [decide_eq_false q]
    exact ⟨_, _, heard_item (e2.trans e1), ans_item p1⟩
theorem heard_taken {n i : Nat} {ps : List (Nat × Nat)} {r : List Nat} {x5 x6 x7 : Option D} (g : Good n ps) (h : Low n ps r) (hi : i < n) (st : Store) :
    ∃ d st', gLamC 2 S__law_heard (gCall 3 G_taken (aCons (gv 0) (aCons (gv 1) (aCons (gv 4) aNil)))) (envV n ps r (some (.int i)) x5 x6 x7) st = some (.ok d st') ∧ Ans st st' d (hearP (decide (i ∈ takL n ps r)) (takR i r) i) := by
  obtain ⟨s1, p1, e1⟩ := taken_spec g h hi st
  have e2 : gCall 3 G_taken (aCons (gv 0) (aCons (gv 1) (aCons (gv 4) aNil))) (envV n ps r (some (.int i)) x5 x6 x7) st = G_taken [ordD n ps, lotD r, .int i] st := call3 (x := ordD n ps) (y := lotD r) (z := .int i) rfl rfl rfl rfl
  by_cases q : i ∈ takL n ps r
  · rw [if_pos q] at e1
    rw [decide_eq_true q]
    exact ⟨_, _, heard_ok (e2.trans e1), ans_list p1⟩
  · rw [if_neg q] at e1
    rw [decide_eq_false q]
    exact ⟨_, _, heard_item (e2.trans e1), ans_item p1⟩
abbrev dueG1 : G := (gIf (gb1 (g2 (fIn false) (gv 4) (gv 2))) (gLst (aCons (gFn fTuple (aCons (gFn fSorted3 (aCons (g2 fAdd (gv 1) (gTup (aCons (gv 4) aNil))) aNil)) aNil)) aNil)) (gTup (aCons (gc (.str "item")) (aCons (gv 4) aNil))))
abbrev dueG2 : G := (gIf (gb1 (g2 (fIn false) (gv 4) (gv 3))) (gLst (aCons (gFn fTuple (aCons (gLc (gSeq (gv 1)) (tgName 7) (gb1 (g2 fNe (gv 7) (gv 4))) (gv 7) [7]) aNil)) aNil)) (gTup (aCons (gc (.str "item")) (aCons (gv 4) aNil))))
theorem due1_run {n i : Nat} {ps : List (Nat × Nat)} {r : List Nat} {x5 x6 x7 : Option D} (h : LotOk n r) (hn : n ≤ 20) (st : Store) :
    ∃ d st', dueG1 (envV n ps r (some (.int i)) x5 x6 x7) st = some (.ok d st') ∧ Ans st st' d (hearP (decide (i ∈ putL n ps r)) (putR n i r) i) := by
  have hl := h.len
  have t : gb1 (g2 (fIn false) (gv 4) (gv 2)) (envV n ps r (some (.int i)) x5 x6 x7) st = some (.ok (decide (i ∈ putL n ps r)) st) := gb1_run ((g2_run (x := .int i) (y := lotD (putL n ps r)) rfl rfl).trans fIn_lot)
  by_cases q : i ∈ putL n ps r
  · rw [decide_eq_true q] at t
    rw [decide_eq_true q]
    have ha : g2 fAdd (gv 1) (gTup (aCons (gv 4) aNil)) (envV n ps r (some (.int i)) x5 x6 x7) st = some (.ok (lotD (r ++ [i])) st) := by
      refine (g2_run (x := .tup (mI r)) (y := .tup [.int i]) rfl (gTup_run (aCons1 rfl) (by simp))).trans ?_
      rw [fAdd_tups (by rw [mI_len]; simp only [List.length_cons, List.length_nil]; omega), mI_add]
      rfl
    have hs := (gFn1_run (f := fSorted3) ha).trans fSorted3_lot
    rw [← putR_sorted h q] at hs
    have ht := (gFn1_run (f := fTuple) hs).trans (fTuple_ref cellL_new)
    rw [← lotD_z] at ht
    exact ⟨_, _, (gIf_t t).trans (gLst_run (xs := [lotD (putR n i r)]) (aCons1 ht) (by simp)), ans_list (List.prefix_append _ _)⟩
  · rw [decide_eq_false q] at t
    rw [decide_eq_false q]
    exact ⟨_, _, (gIf_f t).trans (gTup_run (xs := [.str "item", .int i]) (aConsN rfl (aCons1 rfl)) (by simp)), ans_item Pre.rfl⟩
theorem due2_run {n i : Nat} {ps : List (Nat × Nat)} {r : List Nat} {x5 x6 : Option D} (h : LotOk n r) (hn : n ≤ 20) (st : Store) :
    ∃ d st', dueG2 (envV n ps r (some (.int i)) x5 x6 none) st = some (.ok d st') ∧ Ans st st' d (hearP (decide (i ∈ takL n ps r)) (takR i r) i) := by
  have hl := h.len
  have t : gb1 (g2 (fIn false) (gv 4) (gv 3)) (envV n ps r (some (.int i)) x5 x6 none) st = some (.ok (decide (i ∈ takL n ps r)) st) := gb1_run ((g2_run (x := .int i) (y := lotD (takL n ps r)) rfl rfl).trans fIn_lot)
  by_cases q : i ∈ takL n ps r
  · rw [decide_eq_true q] at t
    rw [decide_eq_true q]
    obtain ⟨s6, j, v1, v2, v3, _⟩ := gLc_run (gi := gSeq (gv 1)) (it := itL (mI r)) (f := tgName 7) (tt := gb1 (g2 fNe (gv 7) (gv 4))) (e := gv 7) (env := envV n ps r (some (.int i)) x5 x6 none) (st := st) (base := st) (ds := mI r) (vs := [7])
      (natB fun x => !decide (x = i)) (fun d => d) (gSeq_tup rfl) Pre.rfl (by rw [mI_len]; omega) (fun j s' _ => rfl) (by
        intro d hd t hpt
        obtain ⟨x, hx, rfl⟩ := List.mem_map.mp hd
        refine ⟨envV n ps r (some (.int i)) x5 x6 (some (.int x)), t, rfl, ?_, Pre.rfl, fun _ => ⟨t, rfl, Pre.rfl⟩⟩
        have := gb1_run ((g2_run (f := fNe) (ga := gv 7) (gb := gv 4) (env := envV n ps r (some (.int i)) x5 x6 (some (.int x))) (st := t) (x := .int x) (y := .int i) rfl rfl).trans fNe_int)
        rw [this]
        have e : ((x : Int) == (i : Int)) = decide (x = i) := by
          rw [Bool.eq_iff_iff, beq_iff_eq, decide_eq_true_iff]
          omega
        rw [e]
        rfl)
    rw [natB_filter] at v3
    exact ⟨_, _, (gIf_t t).trans (gLst_run (xs := [lotD (takR i r)]) (aCons1 ((gFn1_run v2).trans (fTuple_ref v3))) (by simp)), ans_list v1⟩
  · rw [decide_eq_false q] at t
    rw [decide_eq_false q]
    exact ⟨_, _, (gIf_f t).trans (gTup_run (xs := [.str "item", .int i]) (aConsN rfl (aCons1 rfl)) (by simp)), ans_item Pre.rfl⟩
theorem repr_two {k : Nat} {a b : D} {p q : PyData} {st : Store} (hc : cellL st k = some [a, b]) (ha : pd st 15 a = some p) (hb : pd st 15 b = some q) (F : Fit 2 5000 p) (F2 : Fit 2 5000 q) : fReprA [.ref k] st = some (.ok (.str (PyData.shown (.list [p, q]))) st) ∧ PyData.strOk (PyData.shown (.list [p, q])) = true := by
  have FF := fit_list (k := 2) (w := 5000) (xs := [p, q]) fun d hd => by
    simp only [List.mem_cons, List.not_mem_nil, or_false] at hd
    rcases hd with rfl | rfl
    · exact F
    · exact F2
  refine ⟨repr_fit rfl ?_ (fit_le FF (by omega) (by simp only [List.length_cons, List.length_nil]; omega)), FF.txt⟩
  refine pd_list (k := 15) hc ?_
  simp only [List.map_cons, List.map_nil, ha, hb, optAll]
theorem reprB_of {k : Nat} {a : D} {xs : List D} {st : Store} (hc : cellL st k = some (a :: xs)) (h : isE1 st a = none) : fReprB [.ref k] st = fReprA [.ref k] st := by
  have e : isEs st [.ref k] = false := by
    unfold isEs
    dsimp only
    rw [show listD st (.ref k) = some (a :: xs) from hc]
    dsimp only
    rw [h]
    rfl
  unfold fReprB
  rw [if_neg (by rw [e]; exact Bool.false_ne_true)]
abbrev V0 : GS := (sSet 5 (gLst (aCons (gLamC 2 S__law_heard (gCall 3 G_put (aCons (gv 0) (aCons (gv 1) (aCons (gv 4) aNil))))) (aCons (gLamC 2 S__law_heard (gCall 3 G_taken (aCons (gv 0) (aCons (gv 1) (aCons (gv 4) aNil))))) aNil))))
abbrev V1 : GS := (sSet 6 (gLst (aCons dueG1 aNil)))
abbrev V2 : GS := (sExpr (gMethL fAppend (gv 6) (aCons dueG2 aNil)))
abbrev V3 : GS := (sIf (gb1 (g2 fNe (gFn fReprB (aCons (gv 5) aNil)) (gFn fReprA (aCons (gv 6) aNil)))) (sRet (gc (.bl false))) sNext)
abbrev bodyV : GS := sSeq V0 (sSeq V1 (sSeq V2 V3))
theorem bodyV_run {n i : Nat} {ps : List (Nat × Nat)} {r : List Nat} {x5 x6 : Option D} (g : Good n ps) (h : Low n ps r) (hi : i < n) (st : Store) :
    ∃ y5 y6 st', bodyV (envV n ps r (some (.int i)) x5 x6 none) st = some (.nx (envV n ps r (some (.int i)) y5 y6 none), st') ∧ Pre st st' := by
  have hn := g.ok.le
  obtain ⟨a, s1, e1, A⟩ := heard_put (x5 := x5) (x6 := x6) (x7 := none) g h hi st
  obtain ⟨b, s2, e2, B⟩ := heard_taken (x5 := x5) (x6 := x6) (x7 := none) g h hi s1
  have h0 : V0 (envV n ps r (some (.int i)) x5 x6 none) st = some (.nx (envV n ps r (some (.int i)) (some (.ref s2.length)) x6 none), s2 ++ [Cell.lst [a, b]]) :=
    sSet_run (gLst_run (xs := [a, b]) (aConsN e1 (aCons1 e2)) (by simp))
  have p3 : Pre s2 (s2 ++ [Cell.lst [a, b]]) := List.prefix_append _ _
  have c3 : cellL (s2 ++ [Cell.lst [a, b]]) s2.length = some [a, b] := cellL_new
  generalize s2 ++ [Cell.lst [a, b]] = s3 at h0 p3 c3
  generalize s2.length = kh at h0 c3
  obtain ⟨c, s4, e4, C⟩ := due1_run (i := i) (ps := ps) (x5 := some (.ref kh)) (x6 := x6) (x7 := none) h.lot hn s3
  have h1 : V1 (envV n ps r (some (.int i)) (some (.ref kh)) x6 none) s3 = some (.nx (envV n ps r (some (.int i)) (some (.ref kh)) (some (.ref s4.length)) none), s4 ++ [Cell.lst [c]]) :=
    sSet_run (gLst_run (xs := [c]) (aCons1 e4) (by simp))
  have c5 : cellL (s4 ++ [Cell.lst [c]]) s4.length = some [c] := cellL_new
  have p5 : Pre s4 (s4 ++ [Cell.lst [c]]) := List.prefix_append _ _
  have l5 : (s4 ++ [Cell.lst [c]]).length = s4.length + 1 := by rw [List.length_append]; rfl
  obtain ⟨d, s6, e6, Dn⟩ := due2_run (i := i) (ps := ps) (x5 := some (.ref kh)) (x6 := some (.ref s4.length)) h.lot hn (s4 ++ [Cell.lst [c]])
  have c6 := Dn.pre.cell c5
  have h2 : V2 (envV n ps r (some (.int i)) (some (.ref kh)) (some (.ref s4.length)) none) (s4 ++ [Cell.lst [c]]) = some (.nx (envV n ps r (some (.int i)) (some (.ref kh)) (some (.ref s4.length)) none), s6.set s4.length (.lst [c, d])) := append_run2 rfl c5 e6 c6 (by simp)
  have p7 : Pre s4 (s6.set s4.length (.lst [c, d])) := (p5.tr Dn.pre).set (Nat.le_refl _) _
  have c7 : cellL (s6.set s4.length (.lst [c, d])) s4.length = some [c, d] := cellL_set c6
  have pd4 : pd (s6.set s4.length (.lst [c, d])) 15 d = some (hearP (decide (i ∈ takL n ps r)) (takR i r) i) := Dn.pd_ _ fun j xs hj e => by
    rw [l5] at hj
    rw [cellL_set_ne (by omega)]
    exact e
  have pd3 := C.at p7
  have pc := C.pre.tr p7
  have pd2 := B.at (p3.tr pc)
  have pd1 := A.at (B.pre.tr (p3.tr pc))
  have F1 := fit_hear (decide (i ∈ putL n ps r)) (lotOk_bits (n := n) (m := maskL (r ++ [i]))) hn (show i < 1000 by omega)
  have F2 := fit_hear (decide (i ∈ takL n ps r)) (h.lot.filter fun x => !decide (x = i)) hn (show i < 1000 by omega)
  obtain ⟨r1, r2⟩ := repr_two (pc.cell c3) pd1 pd2 F1 F2
  obtain ⟨r3, _⟩ := repr_two c7 pd3 pd4 F1 F2
  have h3 : V3 (envV n ps r (some (.int i)) (some (.ref kh)) (some (.ref s4.length)) none) (s6.set s4.length (.lst [c, d])) = some (.nx (envV n ps r (some (.int i)) (some (.ref kh)) (some (.ref s4.length)) none), s6.set s4.length (.lst [c, d])) := by
    have q1 : gFn fReprB (aCons (gv 5) aNil) (envV n ps r (some (.int i)) (some (.ref kh)) (some (.ref s4.length)) none) (s6.set s4.length (.lst [c, d])) = _ := (gFn1_run (x := .ref kh) (st1 := s6.set s4.length (.lst [c, d])) rfl).trans ((reprB_of (pc.cell c3) (A.no _)).trans r1)
    have q2 : gFn fReprA (aCons (gv 6) aNil) (envV n ps r (some (.int i)) (some (.ref kh)) (some (.ref s4.length)) none) (s6.set s4.length (.lst [c, d])) = _ := (gFn1_run (x := .ref s4.length) (st1 := s6.set s4.length (.lst [c, d])) rfl).trans r3
    exact (sIf_f (gb1_run ((g2_run q1 q2).trans (fNe_same r2)))).trans rfl
  exact ⟨_, _, _, (sSeq_nx h0).trans ((sSeq_nx h1).trans ((sSeq_nx h2).trans h3)), A.pre.tr (B.pre.tr (p3.tr pc))⟩
theorem moves_good_spec {n : Nat} {ps : List (Nat × Nat)} {r : List Nat} (g : Good n ps) (h : Low n ps r) (st : Store) : ∃ st', Pre st st' ∧ G__law_moves_good [ordD n ps, lotD r] st = some (.ok (.bl true) st') := by
  have hn := g.ok.le
  obtain ⟨s1, p1, e1⟩ := law_put_due_spec g h.lot st
  obtain ⟨s2, p2, e2⟩ := can_put_low g h s1
  obtain ⟨s3, p3, e3⟩ := can_take_low g h s2
  have h0 : sAsg (tgTup 2 (tgsCons (tgName 2) (tgsCons (tgName 3) tgsNil))) (gCall 2 G__law_put_due (aCons (gv 0) (aCons (gv 1) aNil))) [some (ordD n ps), some (lotD r), none, none, none, none, none, none] st = some (.nx (envV n ps r none none none none), s1) :=
    sAsg_run (call2 (x := ordD n ps) (y := lotD r) rfl rfl e1) rfl
  have FL : ∀ {q : List Nat}, LotOk n q → Fit 2 5000 (.tuple (pI (nZ q))) := fun k => fit_le (fit_lot k hn) (by omega) (by omega)
  have pq : Pre s3 (s3 ++ [Cell.lst [lotD (putL n ps r), lotD (takL n ps r)]] ++ [Cell.lst [lotD (putL n ps r), lotD (takL n ps r)]]) := (List.prefix_append _ _).trans (List.prefix_append _ _)
  obtain ⟨r1, r2⟩ := repr_two (k := s3.length) (st := s3 ++ [Cell.lst [lotD (putL n ps r), lotD (takL n ps r)]]) cellL_new (pd_lot (k := 14) _) (pd_lot (k := 14) _) (FL lot_put) (FL (lot_tak h.lot))
  obtain ⟨r3, _⟩ := repr_two (k := (s3 ++ [Cell.lst [lotD (putL n ps r), lotD (takL n ps r)]]).length) (st := s3 ++ [Cell.lst [lotD (putL n ps r), lotD (takL n ps r)]] ++ [Cell.lst [lotD (putL n ps r), lotD (takL n ps r)]]) cellL_new (pd_lot (k := 14) _) (pd_lot (k := 14) _) (FL lot_put) (FL (lot_tak h.lot))
  have h1 : sIf (gb1 (g2 fNe (gFn fReprA (aCons (gLst (aCons (gCall 2 G_can_put (aCons (gv 0) (aCons (gv 1) aNil))) (aCons (gCall 2 G_can_take (aCons (gv 0) (aCons (gv 1) aNil))) aNil))) aNil)) (gFn fReprA (aCons (gLst (aCons (gv 2) (aCons (gv 3) aNil))) aNil)))) (sRet (gc (.bl false))) sNext (envV n ps r none none none none) s1 = some (.nx (envV n ps r none none none none), s3 ++ [Cell.lst [lotD (putL n ps r), lotD (takL n ps r)]] ++ [Cell.lst [lotD (putL n ps r), lotD (takL n ps r)]]) := by
    have q1 := (gFn1_run (f := fReprA) (gLst_run (env := envV n ps r none none none none) (st := s1) (xs := [lotD (putL n ps r), lotD (takL n ps r)]) (aConsN (call2 (ga := gv 0) (gb := gv 1) (x := ordD n ps) (y := lotD r) rfl rfl e2) (aCons1 (call2 (ga := gv 0) (gb := gv 1) (x := ordD n ps) (y := lotD r) rfl rfl e3))) (by simp))).trans r1
    have q2 := (gFn1_run (f := fReprA) (gLst_run (env := envV n ps r none none none none) (st := s3 ++ [Cell.lst [lotD (putL n ps r), lotD (takL n ps r)]]) (xs := [lotD (putL n ps r), lotD (takL n ps r)]) (aConsN (g := gv 2) rfl (aCons1 (g := gv 3) rfl)) (by simp))).trans r3
    exact (sIf_f (gb1_run ((g2_run q1 q2).trans (fNe_same r2)))).trans rfl
  generalize s3 ++ [Cell.lst [lotD (putL n ps r), lotD (takL n ps r)]] ++ [Cell.lst [lotD (putL n ps r), lotD (takL n ps r)]] = s4 at h1 pq
  have L := sFor_run (gi := gRng1 (aCons (g2 fIx (gv 0) (gc (.int 0))) aNil)) (f := tgName 4) (body := bodyV) (it := itR 0 n) (ds := mpTo n) (env := envV n ps r none none none none) (st := s4) (base := s4)
    (fun i env t => ∃ x4 x5 x6, env = envV n ps r x4 x5 x6 none ∧ Pre s4 t) (by rw [mpTo_length]; exact gRng1_run (aCons1 ((g2_run (x := ordD n ps) (y := .int 0) rfl rfl).trans (fIx_tup (i := 0) rfl))) (by omega)) ⟨none, none, none, rfl, Pre.rfl⟩ (fun i env t _ => itR_mpTo) (by
      rintro i d env t hd ⟨x4, x5, x6, rfl, hp⟩
      rw [mpTo_at] at hd
      have hi : i < n := by
        by_cases q : i < n
        · exact q
        · rw [if_neg q] at hd; cases hd
      rw [if_pos hi] at hd
      cases hd
      obtain ⟨y5, y6, t', e, hp'⟩ := bodyV_run (x5 := x5) (x6 := x6) g h hi t
      exact ⟨envV n ps r (some (.int (i : Nat))) x5 x6 none, _, t', rfl, .inl e, some (.int (i : Nat)), y5, y6, rfl, hp.tr hp'⟩)
  obtain ⟨env5, s5, r5, x4, x5, x6, rfl, p5⟩ := L
  refine ⟨s5, (((p1.tr p2).tr p3).tr pq).tr p5, gBody_rt (env := [some (ordD n ps), some (lotD r), none, none, none, none, none, none]) ?_⟩
  exact (sSeq_nx h0).trans ((sSeq_nx h1).trans ((sSeq_nx r5).trans rfl))
end Mk01
set_option Elab.async false
set_option linter.all false
set_option autoImplicit false
set_option maxRecDepth 100000
set_option maxHeartbeats 1000000
/-! Kb10: the law's own look at any thing. -/
namespace Mk01
open PySem PySem.Spec MP
inductive IsEl : D → Prop
  | int (i : Int) (h : i.natAbs < 10 ^ 6) : IsEl (.int i)
  | non : IsEl .non
  | bl (b : Bool) : IsEl (.bl b)
  | zero : IsEl (.str "0")
  | tupZ : IsEl (.tup [.int 0])
  | tupE : IsEl (.tup [])
def elP : D → PyData
  | .int i => .int i
  | .bl b => .bool b
  | .str x => .str x
  | .tup [] => .tuple []
  | .tup _ => .tuple [.int 0]
  | _ => .none
theorem el_pd {d : D} (h : IsEl d) {st : Store} {k : Nat} : pd st (k + 2) d = some (elP d) := by
  cases h <;> rfl
theorem el_lay {d : D} (h : IsEl d) : PyData.canLay0 (elP d) = true ∧ (elP d).depth ≤ 1 := by
  cases h with
  | int i h => exact ⟨rfl, by simp [elP, PyData.depth]⟩
  | non => exact ⟨rfl, by simp [elP, PyData.depth]⟩
  | bl b => exact ⟨rfl, by simp [elP, PyData.depth]⟩
  | zero => exact ⟨strOk_of _, by simp [elP, PyData.depth]⟩
  | tupZ => exact ⟨rfl, by simp [elP, PyData.depth, PyData.depthAll]⟩
  | tupE => exact ⟨rfl, by simp [elP, PyData.depth, PyData.depthAll]⟩
theorem fit_zero : Fit 0 2000 (.str "0") := ⟨by decide +kernel, rfl, by decide +kernel, Nat.le_refl _, by decide +kernel, by decide +kernel⟩
theorem el_fit {d : D} (h : IsEl d) : Fit 1 2000 (elP d) := by
  cases h with
  | int i h => exact fit_le (fit_small h) (by omega) (by omega)
  | non => exact ⟨rfl, rfl, rfl, by simp [elP, PyData.depth], by simp [elP, PyData.weight], strOk_of _⟩
  | bl b => exact fit_le (fit_bool b) (by omega) (by omega)
  | zero => exact fit_le fit_zero (by omega) (by omega)
  | tupZ => exact fit_le (fit_tuple (k := 0) (w := 20) (xs := [.int (0 : Nat)]) fun d hd => by rw [List.mem_singleton] at hd; subst hd; exact fit_int (by omega)) (by omega) (by simp)
  | tupE => exact fit_le (fit_tuple (k := 0) (w := 20) (xs := []) fun d hd => by cases hd) (by omega) (by simp)
theorem els_pd {st : Store} {k : Nat} : ∀ {ds : List D}, (∀ d ∈ ds, IsEl d) → optAll (ds.map (pd st (k + 2))) = some (ds.map elP)
  | [], _ => rfl
  | d :: ds, h => by
    rw [List.map_cons, List.map_cons, el_pd (h d List.mem_cons_self)]
    unfold optAll
    rw [els_pd fun x hx => h x (List.mem_cons_of_mem _ hx)]
theorem els_lay : ∀ {ds : List D}, (∀ d ∈ ds, IsEl d) → PyData.canLayAll0 (ds.map elP) = true ∧ PyData.depthAll (ds.map elP) ≤ 1
  | [], _ => ⟨rfl, by simp [PyData.depthAll]⟩
  | d :: ds, h => by
    obtain ⟨a, b⟩ := els_lay fun x hx => h x (List.mem_cons_of_mem d hx)
    obtain ⟨c, e⟩ := el_lay (h d List.mem_cons_self)
    rw [List.map_cons]
    simp only [PyData.canLayAll0, PyData.depthAll, a, c, Bool.and_self, true_and]
    omega
theorem els_shaped {ds : List D} (h : ∀ d ∈ ds, IsEl d) : SeqAt.shaped (.list (ds.map elP)) = true := by
  obtain ⟨a, b⟩ := els_lay h
  unfold SeqAt.shaped
  rw [Bool.and_eq_true, decide_eq_true_iff]
  exact ⟨a, by simp only [PyData.depth]; omega⟩
theorem els_eqv (ds : List D) : PyData.eqvAll (ds.map elP) [] = decide (ds = []) := by
  cases ds with
  | nil => rfl
  | cons d ds => rw [List.map_cons]; rw [decide_eq_false (by simp)]; rfl
theorem cmpNil {g : G} {env : MP.Env} {st st1 : Store} {k : Nat} {ds : List D} (h : g env st = some (.ok (.ref k) st1)) (hc : cellL st1 k = some ds) (hd : ∀ d ∈ ds, IsEl d) : ∃ st2, Pre st1 st2 ∧ gb1 (g2 fNe g (gLst aNil)) env st = some (.ok (!decide (ds = [])) st2) ∧ gb1 (g2 fEq g (gLst aNil)) env st = some (.ok (decide (ds = [])) st2) ∧ g2 fEq g (gLst aNil) env st = some (.ok (.bl (decide (ds = []))) st2) := by
  have c1 : cellL (st1 ++ [Cell.lst []]) k = some ds := Pre.cell (List.prefix_append _ _) hc
  have p1 : pd (st1 ++ [Cell.lst []]) 16 (.ref k) = some (.list (ds.map elP)) := pd_list (k := 15) c1 (els_pd (k := 13) hd)
  have p2 : pd (st1 ++ [Cell.lst []]) 16 (.ref st1.length) = some (.list []) := pd_list (k := 15) cellL_new rfl
  have s2 : SeqAt.shaped (.list []) = true := els_shaped (ds := []) (by simp)
  have e1 : fNe (.ref k) (.ref st1.length) (st1 ++ [Cell.lst []]) = some (.ok (.bl (!decide (ds = []))) (st1 ++ [Cell.lst []])) := by
    unfold fNe fEqG
    rw [p1, p2]
    dsimp only
    rw [if_pos ⟨els_shaped hd, s2⟩]
    simp only [PyData.eqv, els_eqv]
    rfl
  have e2 : fEq (.ref k) (.ref st1.length) (st1 ++ [Cell.lst []]) = some (.ok (.bl (decide (ds = []))) (st1 ++ [Cell.lst []])) := by
    unfold fEq fEqG
    rw [p1, p2]
    dsimp only
    rw [if_pos ⟨els_shaped hd, s2⟩]
    simp only [PyData.eqv, els_eqv]
    rfl
  have a : gLst aNil env st1 = some (.ok (.ref st1.length) (st1 ++ [Cell.lst []])) := gLst_run (xs := []) rfl (by simp)
  have f2 := (g2_run (f := fEq) h a).trans e2
  exact ⟨st1 ++ [Cell.lst []], List.prefix_append _ _, gb1_run ((g2_run (f := fNe) h a).trans e1), gb1_run f2, f2⟩
theorem law_is_number_spec {d : D} (h : IsEl d) (n : Nat) (st : Store) : G__law_is_number [d, .int n] st = some (.ok (.bl (numB d 0 ((n : Int) - 1))) st) := by
  refine gBody_rt (env := [some d, some (.int n)]) (sRet_run ?_)
  cases h with
  | int i h =>
    refine (gAnd_t (gIsI_run (U := "int") rfl rfl)).trans ((gAnd_t (st1 := st) (g := gNot (gIsI "bool" (gv 0))) ?_).trans ?_)
    · unfold gNot
      rw [gb1_run (gIsI_run (U := "int") rfl rfl), rb_ok]
      rfl
    · unfold numB
      simp only [gChain, gv, gc, List.getElem?_cons_zero, List.getElem?_cons_succ, rb_ok, fLe_int]
      cases q : decide ((0 : Int) ≤ i) with
      | true =>
        simp only [Bool.true_and]
        rw [fLt_int]
        have e : decide (i < (n : Int)) = decide (i ≤ (n : Int) - 1) := by
          rw [Bool.eq_iff_iff, decide_eq_true_iff, decide_eq_true_iff]
          omega
        rw [e]
      | false => simp only [Bool.false_and]
  | non => exact gAnd_f (gIsI_run (U := "NoneType") rfl rfl)
  | bl b =>
    refine (gAnd_t (gIsI_run (U := "bool") rfl rfl)).trans (gAnd_f ?_)
    unfold gNot
    rw [gb1_run (gIsI_run (U := "bool") rfl rfl), rb_ok]
    rfl
  | zero => exact gAnd_f (gIsI_run (U := "str") rfl rfl)
  | tupZ => exact gAnd_f (gIsI_run (U := "tuple") rfl rfl)
  | tupE => exact gAnd_f (gIsI_run (U := "tuple") rfl rfl)
theorem ints_in : ∀ {ds : List D} {a b : Int}, (∀ d ∈ ds, numB d a b = true) → ∃ l : List Int, ds = zL l ∧ ∀ i ∈ l, a ≤ i ∧ i ≤ b
  | [], _, _, _ => ⟨[], rfl, by simp⟩
  | d :: ds, a, b, h => by
    obtain ⟨l, e, q⟩ := ints_in fun x hx => h x (List.mem_cons_of_mem d hx)
    obtain ⟨i, rfl, h1, h2⟩ := numB_int (h d List.mem_cons_self)
    refine ⟨i :: l, by rw [e]; rfl, fun x hx => ?_⟩
    rcases List.mem_cons.mp hx with rfl | hx
    · exact ⟨h1, h2⟩
    · exact q x hx
theorem nat_of : ∀ {l : List Int}, (∀ i ∈ l, 0 ≤ i) → l = nZ (l.map Int.toNat)
  | [], _ => rfl
  | x :: l, h => by
    have := nat_of fun i hi => h i (List.mem_cons_of_mem x hi)
    have hx := h x List.mem_cons_self
    unfold nZ at this ⊢
    rw [List.map_cons, List.map_cons, ← this]
    congr 1
    omega
theorem asc_pair {r : List Nat} (h : ∀ i a b, (nZ r)[i]? = some a → (nZ r)[i + 1]? = some b → a < b) : r.Pairwise (· < ·) := by
  induction r with
  | nil => exact List.Pairwise.nil
  | cons x r ih =>
    have ih2 := ih fun i a b ha hb => h (i + 1) a b ha hb
    refine List.pairwise_cons.mpr ⟨fun y hy => ?_, ih2⟩
    cases r with
    | nil => cases hy
    | cons z r =>
      have hxz : (x : Int) < z := h 0 x z rfl rfl
      rcases List.mem_cons.mp hy with rfl | hy
      · omega
      · have := (List.pairwise_cons.mp ih2).1 y hy
        omega
/-- what is a lot by its form is one -/
theorem lot_of_B {n : Nat} {ds : List D} (h : lotB (.tup ds) n = true) : ∃ r, D.tup ds = lotD r ∧ LotOk n r := by
  have h0 := h
  unfold lotB at h
  rw [Bool.and_eq_true, List.all_eq_true] at h
  obtain ⟨l, e, q⟩ := ints_in h.1
  rw [e] at h0
  obtain ⟨h1, h2⟩ := lotB_zL.mp h0
  have hn := nat_of fun i hi => (q i hi).1
  refine ⟨l.map Int.toNat, ?_, ?_, fun x hx => ?_⟩
  · rw [lotD_z, ← hn, e]
  · refine asc_pair ?_
    rw [← hn]
    exact h2
  · obtain ⟨i, hi, rfl⟩ := List.mem_map.mp hx
    have := h1 i hi
    omega
theorem cop_zL_inv : ∀ {ds : List D} {l : List Int}, ds.map cop = zL l → ds = zL l
  | [], l, h => by
    cases l with
    | nil => rfl
    | cons _ _ => cases h
  | d :: ds, l, h => by
    cases l with
    | nil => cases h
    | cons i l =>
      unfold zL at h
      rw [List.map_cons, List.map_cons] at h
      injection h with h1 h2
      rw [cop_int h1, cop_zL_inv (l := l) h2]
      rfl
theorem lotB_cop {n : Nat} {ds : List D} (h : lotB (cop (.tup ds)) n = true) : lotB (.tup ds) n = true := by
  have e0 : cop (.tup ds) = .tup (ds.map cop) := by
    conv => lhs; unfold cop
    rw [copAll_eq]
  rw [e0] at h
  obtain ⟨r, e, hr⟩ := lot_of_B h
  rw [lotD_z] at e
  injection e with e
  rw [cop_zL_inv e, ← lotD_z]
  exact lotB_lotD hr
end Mk01
set_option Elab.async false
set_option linter.all false
set_option autoImplicit false
set_option maxRecDepth 100000
set_option maxHeartbeats 1000000
/-! Kb11: which things are lots, which lower sets, by the law's own look. -/
namespace Mk01
open PySem PySem.Spec MP
theorem gAndG_eq {i j : Int} {st : Store} : fGeA (.int i) (.int j) st = some (.ok (.bl (decide (j ≤ i))) st) := rfl
theorem gb1_out {g : G} {env : MP.Env} {st st1 : Store} {b : Bool} (h : gb1 g env st = some (.ok b st1)) : g env st = some (.ok (.bl b) st1) := by
  unfold gb1 at h
  cases q : g env st with
  | none => rw [q] at h; cases h
  | some o =>
    cases o with
    | ok d s =>
      rw [q, rb_ok] at h
      cases d with
      | bl c => cases h; rfl
      | _ => cases h
    | ex c fs s => rw [q] at h; cases h
abbrev lotTest : GT := gOrT (gNotT (gb1 (gIsI "tuple" (gv 1)))) (gb1 (g2 fNe (gLc (gSeq (gv 1)) (tgName 2) (gNotT (gb1 (gCall 2 G__law_is_number (aCons (gv 2) (aCons (gv 0) aNil))))) (gv 2) [2]) (gLst aNil)))
theorem law_is_lot_no {n : Nat} {t : D} {U : String} {st : Store} (ht : tyD st t = some U) (hu : isSub U "tuple" = false) : G__law_is_lot [.int n, t] st = some (.ok (.bl false) st) := by
  refine gBody_rt (env := [some (.int n), some t, none, none, none]) ?_
  unfold S__law_is_lot
  refine seqIf_t (st1 := st) (gOrT_t (gNotT_run (b := false) ?_)) rfl
  rw [gb1_run (gIsI_run (T := "tuple") (U := U) (g := gv 1) (env := [some (.int n), some t, none, none, none]) (st := st) (d := t) rfl ht), hu]
def geB (d : D) : Bool := match d with
  | .tup [.int a, .int b] => decide (b ≤ a)
  | _ => false
theorem law_is_lot_tup {n : Nat} {ds : List D} (h : ∀ d ∈ ds, IsEl d) (hl : ds.length ≤ 1000) (st : Store) : ∃ st', Pre st st' ∧ G__law_is_lot [.int n, .tup ds] st = some (.ok (.bl (lotB (.tup ds) n)) st') := by
  obtain ⟨s1, k, v1, v2, v3, _⟩ := gLc_run (gi := gSeq (gv 1)) (it := itL ds) (f := tgName 2) (tt := gNotT (gb1 (gCall 2 G__law_is_number (aCons (gv 2) (aCons (gv 0) aNil))))) (e := gv 2) (env := [some (.int n), some (.tup ds), none, none, none]) (st := st) (base := st) (ds := ds) (vs := [2])
    (fun d => !numB d 0 ((n : Int) - 1)) (fun d => d) (gSeq_tup rfl) Pre.rfl (by omega) (fun j s' _ => rfl) (by
      intro d hd t hpt
      exact ⟨[some (.int n), some (.tup ds), some d, none, none], t, rfl, gNotT_run (gb1_run (call2 (x := d) (y := .int n) rfl rfl (law_is_number_spec (h d hd) n t))), Pre.rfl, fun _ => ⟨t, rfl, Pre.rfl⟩⟩)
  rw [List.map_id'] at v3
  obtain ⟨s2, p2, e2, _, _⟩ := cmpNil v2 v3 fun d hd => h d (List.mem_filter.mp hd).1
  have tst : lotTest [some (.int n), some (.tup ds), none, none, none] st = some (.ok (!decide (ds.filter (fun d => !numB d 0 ((n : Int) - 1)) = [])) s2) :=
    (gOrT_f (gNotT_run (b := true) (gb1_run (gIsI_run (T := "tuple") (U := "tuple") (g := gv 1) (d := .tup ds) rfl rfl)))).trans e2
  by_cases q : ds.filter (fun d => !numB d 0 ((n : Int) - 1)) = []
  · rw [decide_eq_true q] at tst
    have all : ∀ d ∈ ds, numB d 0 ((n : Int) - 1) = true := fun d hd => by
      have := List.filter_eq_nil_iff.mp q d hd
      simpa using this
    obtain ⟨l, rfl, hin⟩ := ints_in all
    have hzl : (zL l).length = l.length := by unfold zL; rw [List.length_map]
    have hgi : gZip (aCons (gv 1) (aCons (gSl fSl (gv 1) (gPart (gc (.int 1))) gNoPart) aNil)) [some (.int n), some (.tup (zL l)), none, none, none] s2 = some (.ok (itZT (zL l) ((zL l).drop 1), (zipN (zL l) ((zL l).drop 1)).length + 1) s2) := by
      have h2 : gSl fSl (gv 1) (gPart (gc (.int 1))) gNoPart [some (.int n), some (.tup (zL l)), none, none, none] s2 = some (.ok (.tup ((zL l).drop 1)) s2) := by
        show fSl (.tup (zL l)) (some 1) none s2 = _
        exact fSl_from1
      unfold gZip
      rw [aConsN (g := gv 1) (x := .tup (zL l)) (st1 := s2) rfl (aCons1 h2), rb_ok, zipN_length]
    obtain ⟨s3, k3, u1, u2, u3, _⟩ := gLc_run (gi := gZip (aCons (gv 1) (aCons (gSl fSl (gv 1) (gPart (gc (.int 1))) gNoPart) aNil))) (f := tgTup 2 (tgsCons (tgName 3) (tgsCons (tgName 4) tgsNil))) (tt := gb1 (g2 fGeA (gv 3) (gv 4))) (e := gc (.int 1)) (vs := [3, 4]) (env := [some (.int n), some (.tup (zL l)), none, none, none]) (st := s2) (base := s2) (ds := zipN (zL l) ((zL l).drop 1))
      geB (fun _ => .int (1 : Nat)) hgi Pre.rfl (by rw [zipN_length]; omega) (fun i s _ => by unfold itZT; rw [zipAt_zip]) (by
        intro d hd s hp
        obtain ⟨i, hi, hd2⟩ := List.mem_iff_getElem.mp hd
        have hd3 : (zipN (zL l) ((zL l).drop 1))[i]? = some d := by rw [List.getElem?_eq_getElem hi, hd2]
        unfold zipN zL at hd3
        rw [List.getElem?_zipWith, ← List.map_drop, List.getElem?_map, List.getElem?_map] at hd3
        cases hx : l[i]? with
        | none => rw [hx] at hd3; cases hd3
        | some a =>
          cases hy : (l.drop 1)[i]? with
          | none => rw [hx, hy] at hd3; cases hd3
          | some b =>
            rw [hx, hy] at hd3
            cases hd3
            exact ⟨[some (.int n), some (.tup (zL l)), none, some (.int a), some (.int b)], s, rfl, gb1_run ((g2_run (x := .int a) (y := .int b) rfl rfl).trans gAndG_eq), Pre.rfl, fun _ => ⟨s, rfl, Pre.rfl⟩⟩)
    have e : ((zipN (zL l) ((zL l).drop 1)).filter geB).map (fun _ => D.int (1 : Nat)) = mI (((zipN (zL l) ((zL l).drop 1)).filter geB).map fun _ => 1) := by
      unfold mI
      rw [List.map_map]
      rfl
    rw [e] at u3
    obtain ⟨s4, p4, e4⟩ := eqNil_run (g := gLc (gZip (aCons (gv 1) (aCons (gSl fSl (gv 1) (gPart (gc (.int 1))) gNoPart) aNil))) (tgTup 2 (tgsCons (tgName 3) (tgsCons (tgName 4) tgsNil))) (gb1 (g2 fGeA (gv 3) (gv 4))) (gc (.int 1)) [3, 4]) u2 u3
    refine ⟨s4, ((v1.tr p2).tr u1).tr p4, gBody_rt (env := [some (.int n), some (.tup (zL l)), none, none, none]) ?_⟩
    unfold S__law_is_lot
    refine (seqIf_f tst).trans (sRet_run ?_)
    have fin : decide (((zipN (zL l) ((zL l).drop 1)).filter geB).map (fun _ => 1) = ([] : List Nat)) = lotB (.tup (zL l)) n := by
      rw [Bool.eq_iff_iff, decide_eq_true_iff, List.map_eq_nil_iff, List.filter_eq_nil_iff, lotB_zL]
      have zat : ∀ i a b, l[i]? = some a → l[i + 1]? = some b → (zipN (zL l) ((zL l).drop 1))[i]? = some (.tup [.int a, .int b]) := fun i a b ha hb => by
        unfold zipN zL
        rw [List.getElem?_zipWith, ← List.map_drop, List.getElem?_map, List.getElem?_map, ha, List.getElem?_drop, Nat.add_comm, hb]
        rfl
      constructor
      · intro hno
        refine ⟨fun x hx => ?_, fun i a b ha hb => ?_⟩
        · have := hin x hx
          omega
        · have := hno _ (List.mem_of_getElem? (zat i a b ha hb))
          unfold geB at this
          simp at this
          omega
      · rintro ⟨_, hasc⟩ d hd
        obtain ⟨i, hi, hd2⟩ := List.mem_iff_getElem.mp hd
        have hd3 : (zipN (zL l) ((zL l).drop 1))[i]? = some d := by rw [List.getElem?_eq_getElem hi, hd2]
        unfold zipN zL at hd3
        rw [List.getElem?_zipWith, ← List.map_drop, List.getElem?_map, List.getElem?_map] at hd3
        cases hx : l[i]? with
        | none => rw [hx] at hd3; cases hd3
        | some a =>
          cases hy : (l.drop 1)[i]? with
          | none => rw [hx, hy] at hd3; cases hd3
          | some b =>
            rw [hx, hy] at hd3
            cases hd3
            rw [List.getElem?_drop, Nat.add_comm] at hy
            have := hasc i a b hx hy
            unfold geB
            simp
            omega
    have := gb1_out e4
    rw [fin] at this
    exact this
  · rw [decide_eq_false q] at tst
    have hb : lotB (.tup ds) n = false := by
      refine not_true fun z => q ?_
      unfold lotB at z
      rw [Bool.and_eq_true, List.all_eq_true] at z
      exact List.filter_eq_nil_iff.mpr fun d hd => by rw [z.1 d hd]; exact Bool.false_ne_true
    refine ⟨s2, v1.tr p2, gBody_rt (env := [some (.int n), some (.tup ds), none, none, none]) ?_⟩
    unfold S__law_is_lot
    rw [hb]
    exact seqIf_t tst rfl
end Mk01
set_option Elab.async false
set_option linter.all false
set_option autoImplicit false
set_option maxRecDepth 100000
set_option maxHeartbeats 1000000
/-! Kb12: lower sets by the law's own look; shapes of things. -/
namespace Mk01
open PySem PySem.Spec MP
theorem mI_el {n : Nat} {r : List Nat} (h : LotOk n r) (hn : n ≤ 20) : ∀ d ∈ mI r, IsEl d := fun d hd => by
  obtain ⟨x, hx, rfl⟩ := List.mem_map.mp hd
  have := h.in_ x hx
  exact .int _ (by omega)
theorem law_is_lot_lot {n : Nat} {r : List Nat} (h : LotOk n r) (hn : n ≤ 20) (st : Store) : ∃ st', Pre st st' ∧ G__law_is_lot [.int n, lotD r] st = some (.ok (.bl true) st') := by
  have hl := h.len
  obtain ⟨s, p, e⟩ := law_is_lot_tup (n := n) (ds := mI r) (mI_el h hn) (by rw [mI_len]; omega) st
  have : lotB (.tup (mI r)) n = true := lotB_lotD h
  rw [this] at e
  exact ⟨s, p, e⟩
abbrev envY (o t : D) (q : Nat) (x3 x4 : Option D) : MP.Env := [some o, some t, some (.ref q), x3, x4]
abbrev testY : GT := gb1 (g2 fNe (gLc (gSeq (g2 fIx (gv 2) (gv 3))) (tgName 4) (gb1 (g2 (fIn true) (gv 4) (gv 1))) (gv 4) [4]) (gLst aNil))
theorem testY_run {n q i : Nat} {ps : List (Nat × Nat)} {r refs : List Nat} {s : Store} {x4 : Option D} (hn : n ≤ 20) (hi : i < n) (F : Found n ps q n s refs) : ∃ s', Pre s s' ∧ testY (envY (ordD n ps) (lotD r) q (some (.int i)) x4) s = some (.ok (!decide (lackL n ps i r = [])) s') := by
  obtain ⟨a, a1, a2⟩ := F.ix hi
  have hl := bits_len (n := n) (m := am n ps i)
  obtain ⟨s3, k, v1, v2, v3, _⟩ := gLc_run (gi := gSeq (g2 fIx (gv 2) (gv 3))) (it := itC a) (f := tgName 4) (tt := gb1 (g2 (fIn true) (gv 4) (gv 1))) (e := gv 4) (env := envY (ordD n ps) (lotD r) q (some (.int i)) x4) (st := s) (base := s) (ds := mI (bits n (am n ps i))) (vs := [4])
    (natB fun y => !decide (y ∈ r)) (fun d => d) (gSeq_ref ((g2_run (x := .ref q) (y := .int i) rfl rfl).trans a1) a2) Pre.rfl (by rw [mI_len]; omega) (fun j s' h => itC_pre a2 h) (by
      intro d hd t hpt
      obtain ⟨y, hy, rfl⟩ := List.mem_map.mp hd
      exact ⟨envY (ordD n ps) (lotD r) q (some (.int i)) (some (.int y)), t, rfl, gb1_run ((g2_run (x := .int y) (y := lotD r) rfl rfl).trans fNotIn_lot), Pre.rfl, fun _ => ⟨t, rfl, Pre.rfl⟩⟩)
  rw [natB_filter] at v3
  obtain ⟨s4, w1, w2, _, _⟩ := cmpNil v2 v3 (mI_el ((lotOk_bits (n := n) (m := am n ps i)).filter fun y => !decide (y ∈ r)) hn)
  refine ⟨s4, v1.tr w1, w2.trans ?_⟩
  have e : decide (mI ((bits n (am n ps i)).filter fun y => !decide (y ∈ r)) = []) = decide (lackL n ps i r = []) := by
    unfold mI lackL
    simp only [List.map_eq_nil_iff]
  rw [e]
theorem law_is_lower_lot {n : Nat} {ps : List (Nat × Nat)} {r : List Nat} (g : Good n ps) (h : LotOk n r) (st : Store) : ∃ st' b, Pre st st' ∧ G__law_is_lower [ordD n ps, lotD r] st = some (.ok (.bl b) st') ∧ (b = true ↔ Low n ps r) := by
  have hn := g.ok.le
  have hl := h.len
  obtain ⟨s0, p0, e0⟩ := law_is_lot_lot h hn st
  obtain ⟨s1, q, refs, p1, e1, F⟩ := aheads_spec g.ok g.len s0
  obtain ⟨s3, k, v1, v2, v3, _⟩ := gLc_run (gi := gSeq (gv 1)) (it := itL (mI r)) (f := tgName 3) (tt := testY) (e := gv 3) (env := envY (ordD n ps) (lotD r) q none none) (st := s1) (base := s1) (ds := mI r) (vs := [3])
    (natB fun x => !decide (lackL n ps x r = [])) (fun d => d) (gSeq_tup rfl) Pre.rfl (by rw [mI_len]; omega) (fun j s' _ => rfl) (by
      intro d hd t hpt
      obtain ⟨y, hy, rfl⟩ := List.mem_map.mp hd
      obtain ⟨t2, a1, a2⟩ := testY_run (x4 := none) (r := r) hn (h.in_ y hy) (F.pre hpt)
      exact ⟨envY (ordD n ps) (lotD r) q (some (.int y)) none, t2, rfl, a2, a1, fun _ => ⟨t2, rfl, Pre.rfl⟩⟩)
  rw [natB_filter] at v3
  obtain ⟨s4, w1, _, _, w4⟩ := cmpNil v2 v3 (mI_el (h.filter fun x => !decide (lackL n ps x r = [])) hn)
  refine ⟨s4, decide (mI (r.filter fun x => !decide (lackL n ps x r = [])) = []), ((p0.tr p1).tr v1).tr w1, gBody_rt (env := [some (ordD n ps), some (lotD r), none, none, none]) ?_, ?_⟩
  · unfold S__law_is_lower
    refine (seqIf_f (st1 := s0) (gNotT_run (b := true) (gb1_run (call2 ((g2_run (x := ordD n ps) (y := .int 0) rfl rfl).trans (fIx_tup (i := 0) rfl)) (y := lotD r) rfl e0)))).trans ?_
    refine (sSeq_nx (env' := envY (ordD n ps) (lotD r) q none none) (st' := s1) (sSet_run ((gCall1_run (x := ordD n ps) rfl).trans e1))).trans ?_
    exact sRet_run w4
  · rw [decide_eq_true_iff]
    unfold mI
    rw [List.map_eq_nil_iff, nil_iff]
    constructor
    · intro hh
      refine ⟨h, fun x hx j hj => ?_⟩
      have := hh x hx
      rw [Bool.not_eq_false', decide_eq_true_iff] at this
      exact (lack_iff g.ok (h.in_ x hx)).mp this j hj
    · intro L x hx
      rw [Bool.not_eq_false', decide_eq_true_iff]
      exact (lack_iff g.ok (h.in_ x hx)).mpr (L.down x hx)
theorem law_is_lower_no {n : Nat} {ps : List (Nat × Nat)} {t : D} {st st' : Store} (h : G__law_is_lot [.int n, t] st = some (.ok (.bl false) st')) : G__law_is_lower [ordD n ps, t] st = some (.ok (.bl false) st') := by
  refine gBody_rt (env := [some (ordD n ps), some t, none, none, none]) ?_
  unfold S__law_is_lower
  exact seqIf_t (st1 := st') (gNotT_run (b := false) (gb1_run (call2 ((g2_run (x := ordD n ps) (y := .int 0) rfl rfl).trans (fIx_tup (i := 0) rfl)) (y := t) rfl h))) rfl
/-! ### shapes -/
/-- what stands for a thing as text -/
inductive Shp (n : Nat) (st : Store) : D → PyData → Prop
  | tup (ds : List D) (h : ∀ d ∈ ds, IsEl d) (hl : ds.length ≤ 60) : Shp n st (.tup ds) (.tuple (ds.map elP))
  | non : Shp n st .non .none
  | int (i : Nat) (h : i ≤ 20) : Shp n st (.int i) (.int i)
  | str : Shp n st (.str "") (.str "")
  | lst (k : Nat) (r : List Nat) (h : LotOk n r) (hc : cellL st k = some (mI r)) : Shp n st (.ref k) (.list ((mI r).map elP))
  | dct (k : Nat) (h : st[k]? = some (.dct [])) : Shp n st (.ref k) (.dict [])
theorem Shp.pre {n : Nat} {st st' : Store} {t : D} {p : PyData} (h : Shp n st t p) (hp : Pre st st') : Shp n st' t p := by
  cases h with
  | tup ds h hl => exact .tup ds h hl
  | non => exact .non
  | int i h => exact .int i h
  | str => exact .str
  | lst k r h hc => exact .lst k r h (hp.cell hc)
  | dct k h => exact .dct k (hp.at h)
theorem el_sz {d : D} (h : IsEl d) : szD d ≤ 2 ∧ depD d ≤ 1 := by
  cases h <;> simp [szD, szAll, depD, depAll]
theorem el_in {d : D} {st : Store} (h : IsEl d) : inSt st d := by
  cases h with
  | int i h => unfold inSt; trivial
  | non => unfold inSt; trivial
  | bl b => unfold inSt; trivial
  | zero => unfold inSt; decide +kernel
  | tupZ => unfold inSt; unfold inAll; exact ⟨by unfold inSt; trivial, by unfold inAll; trivial⟩
  | tupE => unfold inSt; unfold inAll; trivial
theorem els_sz {st : Store} : ∀ {ds : List D}, (∀ d ∈ ds, IsEl d) → szAll ds ≤ 2 * ds.length ∧ depAll ds ≤ 1 ∧ inAll st ds
  | [], _ => ⟨by simp [szAll], by simp [depAll], by unfold inAll; trivial⟩
  | d :: ds, h => by
    obtain ⟨a, b, c⟩ := els_sz (st := st) fun x hx => h x (List.mem_cons_of_mem d hx)
    obtain ⟨e, f⟩ := el_sz (h d List.mem_cons_self)
    unfold szAll depAll inAll
    rw [List.length_cons]
    exact ⟨by omega, by omega, el_in (h d List.mem_cons_self), c⟩
theorem cellL_at {st : Store} {k : Nat} {xs : List D} (h : cellL st k = some xs) : st[k]? = some (.lst xs) := by
  unfold cellL at h
  split at h
  · rename_i ys hy
    cases h
    exact hy
  · cases h
theorem Shp.nice {n : Nat} {st : Store} {t : D} {p : PyData} (h : Shp n st t p) : Nice st t := by
  cases h with
  | tup ds h hl =>
    obtain ⟨a, b, c⟩ := els_sz (st := st) h
    exact ⟨by unfold depD; omega, by unfold szD; omega, by unfold inSt; exact c⟩
  | non => exact ⟨by unfold depD; omega, by unfold szD; omega, by unfold inSt; trivial⟩
  | int i h => exact ⟨by unfold depD; omega, by unfold szD; omega, by unfold inSt; trivial⟩
  | str => exact ⟨by unfold depD; omega, by unfold szD; omega, by unfold inSt; decide +kernel⟩
  | lst k r h hc => exact ⟨by unfold depD; omega, by unfold szD; omega, by unfold inSt; exact cellL_lt hc⟩
  | dct k h => exact ⟨by unfold depD; omega, by unfold szD; omega, by unfold inSt; exact (List.getElem?_eq_some_iff.mp h).1⟩
/-- a lower set, or none, by both looks -/
theorem Shp.looks {n : Nat} {ps : List (Nat × Nat)} {st : Store} {t : D} {p : PyData} (g : Good n ps) (h : Shp n st t p) :
    (∃ r, t = lotD r ∧ Low n ps r ∧ ∀ s, Pre st s → ∃ s', Pre s s' ∧ G__law_is_lower [ordD n ps, t] s = some (.ok (.bl true) s')) ∨
    (NoLow n ps st t ∧ ∀ s, Pre st s → ∃ s', Pre s s' ∧ G__law_is_lower [ordD n ps, t] s = some (.ok (.bl false) s')) := by
  have N := h.nice
  have other : ∀ {U : String}, (∀ s, Pre st s → tyD s t = some U) → isSub U "tuple" = false → lotB (cop t) n = false → NoLow n ps st t ∧ ∀ s, Pre st s → ∃ s', Pre s s' ∧ G__law_is_lower [ordD n ps, t] s = some (.ok (.bl false) s') := fun hty hu hb =>
    ⟨⟨N, .inr hb⟩, fun s hp => ⟨s, Pre.rfl, law_is_lower_no (law_is_lot_no (hty s hp) hu)⟩⟩
  cases h with
  | tup ds h hl =>
    cases q : lotB (.tup ds) n with
    | true =>
      obtain ⟨r, e, hr⟩ := lot_of_B q
      rw [e] at N ⊢
      by_cases L : Low n ps r
      · left
        refine ⟨r, rfl, L, fun s _ => ?_⟩
        obtain ⟨s', b, p1, e1, hb⟩ := law_is_lower_lot g hr s
        rw [hb.mpr L] at e1
        exact ⟨s', p1, e1⟩
      · right
        refine ⟨⟨N, .inl ⟨r, rfl, hr, L⟩⟩, fun s _ => ?_⟩
        obtain ⟨s', b, p1, e1, hb⟩ := law_is_lower_lot g hr s
        rw [not_true fun z => L (hb.mp z)] at e1
        exact ⟨s', p1, e1⟩
    | false =>
      right
      refine ⟨⟨N, .inr (not_true fun z => ?_)⟩, fun s _ => ?_⟩
      · rw [lotB_cop z] at q
        cases q
      · obtain ⟨s', p1, e1⟩ := law_is_lot_tup (n := n) h (by omega) s
        rw [q] at e1
        exact ⟨s', p1, law_is_lower_no e1⟩
  | non => exact .inr (other (U := "NoneType") (fun _ _ => rfl) rfl rfl)
  | int i h => exact .inr (other (U := "int") (fun _ _ => rfl) rfl rfl)
  | str => exact .inr (other (U := "str") (fun _ _ => rfl) rfl rfl)
  | lst k r h hc =>
    refine .inr (other (U := "list") (fun s hp => ?_) rfl rfl)
    show (match s[k]? with | some (.lst _) => some "list" | some (.dct _) => some "dict" | none => none) = _
    rw [cellL_at (hp.cell hc)]
  | dct k h =>
    refine .inr (other (U := "dict") (fun s hp => ?_) rfl rfl)
    show (match s[k]? with | some (.lst _) => some "list" | some (.dct _) => some "dict" | none => none) = _
    rw [hp.at h]
end Mk01
set_option Elab.async false
set_option linter.all false
set_option autoImplicit false
set_option maxRecDepth 100000
set_option maxHeartbeats 1000000
/-! Kb13: drawn things, bent lots. -/
namespace Mk01
open PySem PySem.Spec MP
/-- lists stay, but those of the state -/
def Kept (s l : Nat) (st st' : Store) : Prop := ∀ k xs, k ≠ s → k ≠ l → cellL st k = some xs → cellL st' k = some xs
theorem Kept.rfl {s l : Nat} {st : Store} : Kept s l st st := fun _ _ _ _ h => h
theorem Kept.tr {s l : Nat} {a b c : Store} (h : Kept s l a b) (k : Kept s l b c) : Kept s l a c := fun j xs h1 h2 e => k j xs h1 h2 (h j xs h1 h2 e)
theorem Same.kept {s l : Nat} {a b : Store} (h : Same s l a b) : Kept s l a b := fun j xs h1 h2 e => by rw [h.cell h1 h2]; exact e
theorem kept_pre {s l : Nat} {a b : Store} (h : Pre a b) : Kept s l a b := fun j xs _ _ e => h.cell e
theorem cut_mem {xs : List D} {lo hi : Option Int} {d : D} (h : d ∈ cutD xs lo hi) : d ∈ xs := List.mem_of_mem_drop (List.mem_of_mem_take h)
theorem cut_len {xs : List D} {lo hi : Option Int} : (cutD xs lo hi).length ≤ xs.length := by
  unfold cutD
  rw [List.length_take, List.length_drop]
  omega
theorem fSl_tup {xs : List D} {lo hi : Option Int} {st : Store} : fSl (.tup xs) lo hi st = some (.ok (.tup (cutD xs lo hi)) st) := rfl
theorem gSl_run {g : G} {lo hi : GO} {env : MP.Env} {st : Store} {xs : List D} {a b : Option Int} (h : g env st = some (.ok (.tup xs) st)) (h1 : lo env st = some (.ok a st)) (h2 : hi env st = some (.ok b st)) : gSl fSl g lo hi env st = some (.ok (.tup (cutD xs a b)) st) := by
  unfold gSl
  rw [h, rb_ok, h1, rb_ok, h2, rb_ok]
  rfl
theorem gPart_run {g : G} {env : MP.Env} {st : Store} {i : Int} (h : g env st = some (.ok (.int i) st)) : gPart g env st = some (.ok (some i) st) := by
  unfold gPart
  rw [h, rb_ok]
abbrev envX (s n : Nat) (r : List Nat) (ch at_ : Nat) : MP.Env := [some (.ref s), some (.int n), some (lotD r), some (.int ch), some (.int at_)]
theorem mI_few {n : Nat} {r : List Nat} (h : LotOk n r) (hn : n ≤ 20) : (mI r).length ≤ 20 := by
  have := h.len
  rw [mI_len]
  omega
theorem bent_tup {n : Nat} {st : Store} {ds : List D} (h : ∀ d ∈ ds, IsEl d) (hl : ds.length ≤ 60) : ∃ p, Shp n st (.tup ds) p := ⟨_, .tup ds h hl⟩
theorem law_bent_spec {s c l N n : Nat} {r : List Nat} {st : Store} (S : LSt s c l N st) (h : LotOk n r) (hn : n ≤ 20) (hN : N < 2 ^ 39) : ∃ t p st', G__law_bent [.ref s, .int n, lotD r] st = some (.ok t st') ∧ Shp n st' t p ∧ LSt s c l (N + 3) st' ∧ Kept s l st st' := by
  have hf := mI_few h hn
  have hel := mI_el h hn
  obtain ⟨ch, s1, d1, hc1, S1, m1⟩ := draw_run (many := 7) (env := [some (.ref s), some (.int n), some (lotD r), none, none]) (g := gc (.int 7)) S rfl rfl (by decide) (by decide) (by omega)
  have hlen : g2 fAdd (gFn fLen (aCons (gv 2) aNil)) (gc (.int 1)) [some (.ref s), some (.int n), some (lotD r), none, none] s1 = some (.ok (.int ((mI r).length + 1 : Nat)) s1) := by
    refine (g2_run (x := .int (mI r).length) (y := .int 1) (st1 := s1) rfl rfl).trans ?_
    rw [fAdd_int]
    rfl
  obtain ⟨at_, s2, d2, hc2, S2, m2⟩ := draw_run (many := (mI r).length + 1) (env := [some (.ref s), some (.int n), some (lotD r), none, none]) (g := g2 fAdd (gFn fLen (aCons (gv 2) aNil)) (gc (.int 1))) S1 rfl hlen (by omega) (by omega) (by omega)
  have h0 : sPar 3 4 (aCons (gCall 2 G__law_draw (aCons (gv 0) (aCons (gc (.int 7)) aNil))) (aCons (gCall 2 G__law_draw (aCons (gv 0) (aCons (g2 fAdd (gFn fLen (aCons (gv 2) aNil)) (gc (.int 1))) aNil))) aNil)) [some (.ref s), some (.int n), some (lotD r), none, none] st = some (.nx (envX s n r ch at_), s2) := by
    unfold sPar
    rw [aConsN d1 (aCons1 d2), sb_ok]
    rfl
  obtain ⟨hs, hcq, hll⟩ := S2.lt
  have fin : ∀ {t : D} {st' : Store}, S__law_bent [some (.ref s), some (.int n), some (lotD r), none, none] st = some (.rt t, st') → G__law_bent [.ref s, .int n, lotD r] st = some (.ok t st') := fun e => gBody_rt (env := [some (.ref s), some (.int n), some (lotD r), none, none]) e
  have S3 : LSt s c l (N + 3) s2 := S2.le (by omega)
  have K2 : Kept s l st s2 := m1.kept.tr m2.kept
  have mem_app : ∀ {xs ys : List D}, (∀ d ∈ xs, IsEl d) → (∀ d ∈ ys, IsEl d) → ∀ d ∈ xs ++ ys, IsEl d := fun hx hy d hd => by
    rcases List.mem_append.mp hd with q | q
    · exact hx d q
    · exact hy d q
  have cases7 : ch = 0 ∨ ch = 1 ∨ ch = 2 ∨ ch = 3 ∨ ch = 4 ∨ ch = 5 ∨ ch = 6 := by omega
  have add1 : g2 fAdd (gv 4) (gc (.int 1)) (envX s n r ch at_) s2 = some (.ok (.int ((at_ : Int) + 1)) s2) := (g2_run (x := .int at_) (y := .int 1) rfl rfl).trans fAdd_int
  rcases cases7 with rfl | rfl | rfl | rfl | rfl | rfl | rfl
  · have e1 : g2 fAdd (gSl fSl (gv 2) gNoPart (gPart (gv 4))) (gSl fSl (gv 2) (gPart (g2 fAdd (gv 4) (gc (.int 1)))) gNoPart) (envX s n r 0 at_) s2 = some (.ok (.tup (cutD (mI r) none (some at_) ++ cutD (mI r) (some ((at_ : Int) + 1)) none)) s2) := by
      refine (g2_run (gSl_run (xs := mI r) rfl rfl (gPart_run (i := at_) rfl)) (gSl_run (xs := mI r) rfl (gPart_run add1) rfl)).trans (fAdd_tups ?_)
      have a := cut_len (xs := mI r) (lo := none) (hi := some (at_ : Int))
      have b := cut_len (xs := mI r) (lo := some ((at_ : Int) + 1)) (hi := none)
      omega
    obtain ⟨p, sh⟩ := bent_tup (n := n) (st := s2) (mem_app (fun d hd => hel d (cut_mem hd)) (fun d hd => hel d (cut_mem hd))) (ds := cutD (mI r) none (some at_) ++ cutD (mI r) (some ((at_ : Int) + 1)) none) (by
      have a := cut_len (xs := mI r) (lo := none) (hi := some (at_ : Int))
      have b := cut_len (xs := mI r) (lo := some ((at_ : Int) + 1)) (hi := none)
      rw [List.length_append]
      omega)
    refine ⟨_, p, s2, fin ?_, sh, S3, K2⟩
    unfold S__law_bent
    exact (sSeq_nx h0).trans (seqIf_t (st1 := s2) rfl (sRet_run e1))
  · obtain ⟨p, sh⟩ := bent_tup (n := n) (st := s2) (ds := (mI r).reverse) (fun d hd => hel d (List.mem_reverse.mp hd)) (by rw [List.length_reverse]; omega)
    refine ⟨_, p, s2, fin ?_, sh, S3, K2⟩
    unfold S__law_bent
    exact (sSeq_nx h0).trans ((seqIf_f (st1 := s2) rfl).trans (seqIf_t (st1 := s2) rfl (sRet_run rfl)))
  · have e1 : g2 fAdd (gv 2) (gSl fSl (gv 2) (gPart (gv 4)) (gPart (g2 fAdd (gv 4) (gc (.int 1))))) (envX s n r 2 at_) s2 = some (.ok (.tup (mI r ++ cutD (mI r) (some at_) (some ((at_ : Int) + 1)))) s2) := by
      refine (g2_run (x := .tup (mI r)) rfl (gSl_run (xs := mI r) rfl (gPart_run (i := at_) rfl) (gPart_run add1))).trans (fAdd_tups ?_)
      have b := cut_len (xs := mI r) (lo := some (at_ : Int)) (hi := some ((at_ : Int) + 1))
      omega
    obtain ⟨p, sh⟩ := bent_tup (n := n) (st := s2) (mem_app hel (fun d hd => hel d (cut_mem hd))) (ds := mI r ++ cutD (mI r) (some at_) (some ((at_ : Int) + 1))) (by
      have b := cut_len (xs := mI r) (lo := some (at_ : Int)) (hi := some ((at_ : Int) + 1))
      rw [List.length_append]
      omega)
    refine ⟨_, p, s2, fin ?_, sh, S3, K2⟩
    unfold S__law_bent
    exact (sSeq_nx h0).trans ((seqIf_f (st1 := s2) rfl).trans ((seqIf_f (st1 := s2) rfl).trans (seqIf_t (st1 := s2) rfl (sRet_run e1))))
  · refine ⟨.ref s2.length, _, s2 ++ [Cell.lst (mI r)], fin ?_, .lst s2.length r h cellL_new, S3.pre (List.prefix_append _ _), K2.tr (kept_pre (List.prefix_append _ _))⟩
    unfold S__law_bent
    exact (sSeq_nx h0).trans ((seqIf_f (st1 := s2) rfl).trans ((seqIf_f (st1 := s2) rfl).trans ((seqIf_f (st1 := s2) rfl).trans (seqIf_t (st1 := s2) rfl (sRet_run (gFn1_run (x := lotD r) (st1 := s2) rfl))))))
  · have el : gLst (aCons (gv 1) (aCons (gUn (fun i => -i) (gc (.int 1))) (aCons (gc .non) (aCons (gc (.str "0")) (aCons (gTup (aCons (gc (.int 0)) aNil)) aNil))))) (envX s n r 4 at_) s2 = some (.ok (.ref s2.length) (s2 ++ [Cell.lst [.int n, .int (-1), .non, .str "0", .tup [.int 0]]])) :=
      gLst_run (xs := [.int n, .int (-1), .non, .str "0", .tup [.int 0]]) (aConsN rfl (aConsN rfl (aConsN rfl (aConsN rfl (aCons1 rfl))))) (by simp)
    obtain ⟨x, s3, hx, e3, S4, m3⟩ := law_of_spec (S2.pre (List.prefix_append _ [Cell.lst [.int n, .int (-1), .non, .str "0", .tup [.int 0]]])) (by omega) (cellL_new) (by simp) (by simp) (by omega) (by omega)
    have hxe : IsEl x := by
      simp only [List.mem_cons, List.not_mem_nil, or_false] at hx
      rcases hx with rfl | rfl | rfl | rfl | rfl
      · exact .int _ (by omega)
      · exact .int _ (by decide)
      · exact .non
      · exact .zero
      · exact .tupZ
    have e1 : g2 fAdd (gv 2) (gTup (aCons (gCall 2 G__law_of (aCons (gv 0) (aCons (gLst (aCons (gv 1) (aCons (gUn (fun i => -i) (gc (.int 1))) (aCons (gc .non) (aCons (gc (.str "0")) (aCons (gTup (aCons (gc (.int 0)) aNil)) aNil)))))) aNil))) aNil)) (envX s n r 4 at_) s2 = some (.ok (.tup (mI r ++ [x])) s3) := by
      refine (g2_run (x := .tup (mI r)) (st1 := s2) rfl (gTup_run (xs := [x]) (aCons1 (call2 (x := .ref s) rfl el e3)) (by simp))).trans (fAdd_tups ?_)
      simp only [List.length_cons, List.length_nil]
      omega
    obtain ⟨p, sh⟩ := bent_tup (n := n) (st := s3) (mem_app hel (ys := [x]) (fun d hd => by rw [List.mem_singleton] at hd; subst hd; exact hxe)) (ds := mI r ++ [x]) (by
      rw [List.length_append]
      simp only [List.length_cons, List.length_nil]
      omega)
    refine ⟨_, p, s3, fin ?_, sh, S4.le (by omega), K2.tr ((kept_pre (List.prefix_append _ _)).tr m3.kept)⟩
    unfold S__law_bent
    exact (sSeq_nx h0).trans ((seqIf_f (st1 := s2) rfl).trans ((seqIf_f (st1 := s2) rfl).trans ((seqIf_f (st1 := s2) rfl).trans ((seqIf_f (st1 := s2) rfl).trans (seqIf_t (st1 := s2) rfl (sRet_run e1))))))
  · have el : gLst (aCons (gc .non) (aCons (gv 1) (aCons (gc (.str "")) (aCons gD0 (aCons (gTup (aCons (gc (.bl true)) aNil)) (aCons (gTup (aCons (gc (.bl false)) aNil)) (aCons (gTup (aCons (gTup aNil) aNil)) aNil))))))) (envX s n r 5 at_) s2 = some (.ok (.ref (s2 ++ [Cell.dct []]).length) (s2 ++ [Cell.dct []] ++ [Cell.lst [.non, .int n, .str "", .ref s2.length, .tup [.bl true], .tup [.bl false], .tup [.tup []]]])) :=
      gLst_run (xs := [.non, .int n, .str "", .ref s2.length, .tup [.bl true], .tup [.bl false], .tup [.tup []]]) (aConsN rfl (aConsN rfl (aConsN rfl (aConsN (g := gD0) (st1 := s2 ++ [Cell.dct []]) rfl (aConsN rfl (aConsN rfl (aCons1 rfl))))))) (by simp)
    have hle : (s2 ++ [Cell.dct []]).length = s2.length + 1 := by rw [List.length_append]; rfl
    obtain ⟨x, s3, hx, e3, S4, m3⟩ := law_of_spec (k := (s2 ++ [Cell.dct []]).length) (xs := [.non, .int n, .str "", .ref s2.length, .tup [.bl true], .tup [.bl false], .tup [.tup []]]) (st := s2 ++ [Cell.dct []] ++ [Cell.lst [.non, .int n, .str "", .ref s2.length, .tup [.bl true], .tup [.bl false], .tup [.tup []]]]) (S2.pre ((List.prefix_append _ _).trans (List.prefix_append _ _))) (by omega) (cellL_new) (by simp) (by simp) (by omega) (by omega)
    have hd3 : s3[s2.length]? = some (.dct []) := by
      rw [m3.at_ s2.length (by omega) (by omega), List.append_assoc, List.getElem?_append_right (Nat.le_refl _), Nat.sub_self]
      rfl
    have sh : ∃ p, Shp n s3 x p := by
      simp only [List.mem_cons, List.not_mem_nil, or_false] at hx
      rcases hx with rfl | rfl | rfl | rfl | rfl | rfl | rfl
      · exact ⟨_, .non⟩
      · exact ⟨_, .int n hn⟩
      · exact ⟨_, .str⟩
      · exact ⟨_, .dct _ hd3⟩
      · exact bent_tup (fun d hd => by rw [List.mem_singleton] at hd; subst hd; exact .bl _) (by simp)
      · exact bent_tup (fun d hd => by rw [List.mem_singleton] at hd; subst hd; exact .bl _) (by simp)
      · exact bent_tup (fun d hd => by rw [List.mem_singleton] at hd; subst hd; exact .tupE) (by simp)
    obtain ⟨p, sh⟩ := sh
    refine ⟨x, p, s3, fin ?_, sh, S4.le (by omega), K2.tr ((kept_pre ((List.prefix_append _ _).trans (List.prefix_append _ _))).tr m3.kept)⟩
    unfold S__law_bent
    exact (sSeq_nx h0).trans ((seqIf_f (st1 := s2) rfl).trans ((seqIf_f (st1 := s2) rfl).trans ((seqIf_f (st1 := s2) rfl).trans ((seqIf_f (st1 := s2) rfl).trans ((seqIf_f (st1 := s2) rfl).trans (seqIf_t (st1 := s2) rfl (sRet_run (call2 (x := .ref s) rfl el e3))))))))
  · obtain ⟨p, sh⟩ := bent_tup (n := n) (st := s2) (ds := mI r) hel (by omega)
    refine ⟨_, p, s2, fin ?_, sh, S3, K2⟩
    unfold S__law_bent
    exact (sSeq_nx h0).trans ((seqIf_f (st1 := s2) rfl).trans ((seqIf_f (st1 := s2) rfl).trans ((seqIf_f (st1 := s2) rfl).trans ((seqIf_f (st1 := s2) rfl).trans ((seqIf_f (st1 := s2) rfl).trans ((seqIf_f (st1 := s2) rfl).trans (sRet_run rfl)))))))
theorem law_lot_spec2 {s c l N n : Nat} {st : Store} (S : LSt s c l N st) (hn : n ≤ 7) (hN : N < 2 ^ 39) : ∃ r st', LotOk n r ∧ G__law_lot [.ref s, .int n] st = some (.ok (lotD r) st') ∧ LSt s c l (N + 8) st' ∧ Kept s l st st' := by
  obtain ⟨th, s1, d1, _, S1, m1⟩ := draw_run (many := 4) (env := [some (.ref s), some (.int n), none, none]) (g := gc (.int 4)) S rfl rfl (by decide) (by decide) (by omega)
  have e1 : g2 fAdd (gc (.int 1)) (gCall 2 G__law_draw (aCons (gv 0) (aCons (gc (.int 4)) aNil))) [some (.ref s), some (.int n), none, none] st = some (.ok (.int (1 + (th : Int))) s1) := (g2_run (x := .int 1) rfl d1).trans fAdd_int
  obtain ⟨acc, s2, ⟨r, rfl, hr, S2, K2⟩, v2⟩ := gLcX_run (gi := gRng1 (aCons (gv 1) aNil)) (it := itR 0 n) (f := tgName 3) (tt := gb1 (g2 fLt (gCall 2 G__law_draw (aCons (gv 0) (aCons (gc (.int 5)) aNil))) (gv 2))) (e := gv 3) (env := [some (.ref s), some (.int n), some (.int (1 + (th : Int))), none]) (st := s1) (base := s1) (ds := mpTo n) (vs := [3])
    (fun i acc t => ∃ r, acc = mI r ∧ LotOk i r ∧ LSt s c l (N + 1 + i) t ∧ Kept s l s1 t) (by rw [mpTo_length]; exact gRng1_run (aCons1 rfl) (by omega)) ⟨[], rfl, LotOk.nil, S1, Kept.rfl⟩ (by rw [mpTo_length]; omega) (fun i acc t _ => itR_mpTo) (by
      rintro i d acc t hd ⟨r, rfl, hr, St, Kt⟩
      rw [mpTo_at] at hd
      have hi : i < n := by
        by_cases h : i < n
        · exact h
        · rw [if_neg h] at hd; cases hd
      rw [if_pos hi] at hd
      cases hd
      obtain ⟨y, t1, d2, _, S3, m3⟩ := draw_run (many := 5) (env := [some (.ref s), some (.int n), some (.int (1 + (th : Int))), some (.int (i : Nat))]) (g := gc (.int 5)) St rfl rfl (by decide) (by decide) (by omega)
      refine ⟨[some (.ref s), some (.int n), some (.int (1 + (th : Int))), some (.int (i : Nat))], t1, decide ((y : Int) < 1 + (th : Int)), rfl, gb1_run ((g2_run d2 rfl).trans fLt_int), fun _ => ⟨.int (i : Nat), t1, rfl, r ++ [i], mI_add r i, hr.add, S3, Kt.tr m3.kept⟩, fun _ => ⟨r, rfl, hr.mono (Nat.le_succ _), S3, Kt.tr m3.kept⟩⟩)
  rw [mpTo_length] at hr S2
  refine ⟨r, s2 ++ [Cell.lst (mI r)], hr, gBody_rt (env := [some (.ref s), some (.int n), none, none]) ?_, (S2.le (by omega)).pre (List.prefix_append _ _), m1.kept.tr (K2.tr (kept_pre (List.prefix_append _ _)))⟩
  unfold S__law_lot
  refine (sSeq_nx (env' := [some (.ref s), some (.int n), some (.int (1 + (th : Int))), none]) (st' := s1) (sSet_run e1)).trans (sRet_run ?_)
  exact (gFn1_run v2).trans (fTuple_ref cellL_new)
end Mk01
set_option Elab.async false
set_option linter.all false
set_option autoImplicit false
set_option maxRecDepth 100000
set_option maxHeartbeats 1000000
/-! Kb14: one turn with two lower sets and a thing. -/
namespace Mk01
open PySem PySem.Spec MP
theorem fit_lower : Fit 0 2000 (.str "lower") := ⟨by decide +kernel, rfl, by decide +kernel, Nat.le_refl _, by decide +kernel, by decide +kernel⟩
theorem fit_empty : Fit 0 2000 (.str "") := ⟨by decide +kernel, rfl, by decide +kernel, Nat.le_refl _, by decide +kernel, by decide +kernel⟩
theorem fit_els {ds : List D} (h : ∀ d ∈ ds, IsEl d) : ∀ d ∈ ds.map elP, Fit 1 2000 d := fun d hd => by
  obtain ⟨x, hx, rfl⟩ := List.mem_map.mp hd
  exact el_fit (h x hx)
/-- what can be told with its text, all but an empty dict -/
theorem Shp.told {n : Nat} {st : Store} {t : D} {p : PyData} (h : Shp n st t p) (hn : n ≤ 20) : (pd st 14 t = some p ∧ Fit 2 130000 p ∧ isE1 st (.tup [.str "lower", t]) = none) ∨ (p = .dict [] ∧ ∃ k, t = .ref k ∧ st[k]? = some (.dct [])) := by
  cases h with
  | tup ds h hl =>
    left
    refine ⟨?_, fit_le (fit_tuple (fit_els h)) (by omega) (by rw [List.length_map]; omega), rfl⟩
    show (optAll (ds.map (pd st 13))).map PyData.tuple = _
    rw [els_pd (k := 11) h]
    rfl
  | non => exact .inl ⟨rfl, ⟨rfl, rfl, rfl, by simp [PyData.depth], by simp [PyData.weight], strOk_of _⟩, rfl⟩
  | int i h => exact .inl ⟨rfl, fit_le (fit_int (show i < 10 ^ 6 by omega)) (by omega) (by omega), rfl⟩
  | str => exact .inl ⟨rfl, fit_le fit_empty (by omega) (by omega), rfl⟩
  | lst k r h hc =>
    left
    have hf := mI_few h hn
    refine ⟨pd_list (k := 13) hc (els_pd (k := 11) (mI_el h hn)), fit_le (fit_list (fit_els (mI_el h hn))) (by omega) (by rw [List.length_map]; omega), ?_⟩
    show (match st[k]? with | some (.dct []) => some _ | _ => none) = none
    rw [cellL_at hc]
  | dct k h => exact .inr ⟨rfl, k, rfl, h⟩
abbrev hD (t : D) : D := .tup [.str "lower", t]
theorem toldE_ok : (toldE ["lower", "lower"]).shown.length ≤ 16777216 ∧ PyData.strOk (toldE ["lower", "lower"]).shown = true := ⟨by decide +kernel, by decide +kernel⟩
/-- the text of two refusals -/
theorem reprB_pair {n k : Nat} {st : Store} {t : D} {p : PyData} (h : Shp n st t p) (hn : n ≤ 20) (hc : cellL st k = some [hD t, hD t]) : fReprB [.ref k] st = some (.ok (.str (PyData.list [.tuple [.str "lower", p], .tuple [.str "lower", p]]).shown) st) ∧ PyData.strOk (PyData.list [.tuple [.str "lower", p], .tuple [.str "lower", p]]).shown = true := by
  rcases h.told hn with ⟨a, b, c⟩ | ⟨rfl, d, rfl, hd⟩
  · have F1 : Fit 3 264000 (.tuple [.str "lower", p]) := fit_le (fit_tuple (k := 2) (w := 130000) (xs := [.str "lower", p]) fun d hd => by
      simp only [List.mem_cons, List.not_mem_nil, or_false] at hd
      rcases hd with rfl | rfl
      · exact fit_le fit_lower (by omega) (by omega)
      · exact b) (by omega) (by simp)
    have F2 := fit_list (k := 3) (w := 264000) (xs := [.tuple [.str "lower", p], .tuple [.str "lower", p]]) fun d hd => by
      simp only [List.mem_cons, List.not_mem_nil, or_false] at hd
      rcases hd with rfl | rfl <;> exact F1
    have e : pd st 15 (hD t) = some (.tuple [.str "lower", p]) := by
      show (optAll [pd st 14 (.str "lower"), pd st 14 t]).map PyData.tuple = _
      rw [a]
      rfl
    rw [reprB_of hc c]
    refine ⟨repr_fit rfl ?_ (fit_le F2 (by omega) (by simp only [List.length_cons, List.length_nil]; omega)), F2.txt⟩
    refine pd_list (k := 15) hc ?_
    simp only [List.map_cons, List.map_nil, e, optAll]
  · have e1 : isE1 st (hD (.ref d)) = some ("lower" : Str) := by
      show (match st[d]? with | some (.dct []) => some ("lower" : Str) | _ => none) = _
      rw [hd]
    have ht : fReprE [.ref k] st = some (.ok (.str (toldE ["lower", "lower"]).shown) st) := by
      unfold fReprE
      dsimp only
      rw [show listD st (.ref k) = some [hD (.ref d), hD (.ref d)] from hc]
      dsimp only
      rw [show optAll ([hD (.ref d), hD (.ref d)].map (isE1 st)) = some (["lower", "lower"] : List Str) by simp only [List.map_cons, List.map_nil, e1, optAll]]
      dsimp only
      rw [if_pos toldE_ok.1]
    refine ⟨?_, toldE_ok.2⟩
    unfold fReprB
    have hT : isEs st [.ref k] = true := by
      unfold isEs
      dsimp only
      rw [show listD st (.ref k) = some [hD (.ref d), hD (.ref d)] from hc]
      dsimp only
      rw [e1]
      rfl
    rw [if_pos hT]
    exact ht
/-! ### all lower sets as text -/
abbrev everyD (n : Nat) (ps : List (Nat × Nat)) : D := .tup ((allL n ps).map lotD)
def everyP (n : Nat) (ps : List (Nat × Nat)) : PyData := .tuple ((allL n ps).map fun r => PyData.tuple (pI (nZ r)))
theorem pd_every {n k : Nat} {ps : List (Nat × Nat)} {st : Store} : pd st (k + 2) (everyD n ps) = some (everyP n ps) := by
  show (optAll (((allL n ps).map lotD).map (pd st (k + 1)))).map PyData.tuple = _
  rw [optAll_map (fun r => pd_lot (k := k) r)]
  rfl
theorem fit_every {n : Nat} {ps : List (Nat × Nat)} (g : Good n ps) (hn : n ≤ 6) : Fit 2 27000 (everyP n ps) := by
  have hl := all_len g.ok
  have h64 : 2 ^ n ≤ 64 := Nat.pow_le_pow_right (by omega) hn
  refine fit_le (fit_tuple (k := 1) (w := 420) fun d hd => ?_) (by omega) (by rw [List.length_map]; omega)
  obtain ⟨r, hr, rfl⟩ := List.mem_map.mp hd
  exact fit_lot ((all_mem g.ok).mp hr).lot g.ok.le
theorem repr_every {n k : Nat} {ps : List (Nat × Nat)} {st : Store} (g : Good n ps) (hn : n ≤ 6) (hc : cellL st k = some [everyD n ps, everyD n ps]) : fReprA [.ref k] st = some (.ok (.str (PyData.list [everyP n ps, everyP n ps]).shown) st) ∧ PyData.strOk (PyData.list [everyP n ps, everyP n ps]).shown = true := by
  have F := fit_list (k := 2) (w := 27000) (xs := [everyP n ps, everyP n ps]) fun d hd => by
    simp only [List.mem_cons, List.not_mem_nil, or_false] at hd
    rcases hd with rfl | rfl <;> exact fit_every g hn
  refine ⟨repr_fit rfl ?_ (fit_le F (by omega) (by simp only [List.length_cons, List.length_nil]; omega)), F.txt⟩
  refine pd_list (k := 15) hc ?_
  simp only [List.map_cons, List.map_nil, pd_every (k := 13), optAll]
theorem repr_three {n k : Nat} {a b c : List Nat} {st : Store} (ha : LotOk n a) (hb : LotOk n b) (hcc : LotOk n c) (hn : n ≤ 20) (hc : cellL st k = some [lotD a, lotD b, lotD c]) : fReprA [.ref k] st = some (.ok (.str (PyData.list [.tuple (pI (nZ a)), .tuple (pI (nZ b)), .tuple (pI (nZ c))]).shown) st) ∧ PyData.strOk (PyData.list [.tuple (pI (nZ a)), .tuple (pI (nZ b)), .tuple (pI (nZ c))]).shown = true := by
  have F := fit_list (k := 1) (w := 420) (xs := [.tuple (pI (nZ a)), .tuple (pI (nZ b)), .tuple (pI (nZ c))]) fun d hd => by
    simp only [List.mem_cons, List.not_mem_nil, or_false] at hd
    rcases hd with rfl | rfl | rfl
    · exact fit_lot ha hn
    · exact fit_lot hb hn
    · exact fit_lot hcc hn
  refine ⟨repr_fit rfl ?_ (fit_le F (by omega) (by simp only [List.length_cons, List.length_nil]; omega)), F.txt⟩
  refine pd_list (k := 15) hc ?_
  simp only [List.map_cons, List.map_nil, pd_lot (k := 14), optAll]
/-! ### both, one at least -/
def bothL (a b : List Nat) : List Nat := a.filter fun x => decide (x ∈ b)
theorem meet_both {n : Nat} {a b : List Nat} (ha : LotOk n a) : bits n (maskL a &&& maskL b) = bothL a b := by
  refine (lotOk_bits (n := n)).ext (ha.filter _) fun x => ?_
  unfold bothL
  rw [bits_mem, Nat.testBit_and, Bool.and_eq_true, maskL_test, maskL_test, List.mem_filter, decide_eq_true_iff]
  exact ⟨fun h => h.2, fun h => ⟨ha.in_ x h.1, h⟩⟩
theorem meet_swap {n : Nat} {a b : List Nat} : bits n (maskL b &&& maskL a) = bits n (maskL a &&& maskL b) := by rw [Nat.and_comm]
def anyL (n : Nat) (a b : List Nat) : List Nat := bits n (maskL a ||| maskL b)
theorem sortU_any {n : Nat} {a b : List Nat} (ha : LotOk n a) (hb : LotOk n b) : sortU (nZ (a ++ b)) = nZ (anyL n a b) := by
  obtain ⟨s1, s2⟩ := sortU_spec (nZ (a ++ b))
  refine strict_one s1 ?_ fun k => ?_
  · unfold nZ
    rw [List.pairwise_map]
    exact (lotOk_bits (n := n)).asc.imp fun {a b} z => Int.ofNat_lt.mpr z
  · rw [s2]
    have key : ∀ x, x ∈ a ++ b ↔ x ∈ anyL n a b := fun x => by
      unfold anyL
      rw [bits_mem, Nat.testBit_or, Bool.or_eq_true, maskL_test, maskL_test, List.mem_append]
      refine ⟨fun h => ⟨?_, h⟩, fun h => h.2⟩
      rcases h with h | h
      · exact ha.in_ x h
      · exact hb.in_ x h
    unfold nZ
    rw [List.mem_map, List.mem_map]
    constructor
    · rintro ⟨y, hy, rfl⟩; exact ⟨y, (key y).mp hy, rfl⟩
    · rintro ⟨y, hy, rfl⟩; exact ⟨y, (key y).mpr hy, rfl⟩
theorem fSortSet_tup {st : Store} {xs : List Nat} (hl : xs.length < 64) : fSortSet [.tup (mI xs)] st = some (.ok (.ref st.length) (st ++ [Cell.lst (zL (sortU (nZ xs)))])) := by
  unfold fSortSet
  dsimp only
  rw [show seqD st (.tup (mI xs)) = some (mI xs) from rfl]
  dsimp only
  rw [zL_of_mI, intD_all]
  dsimp only
  rw [if_pos (by rw [List.length_map]; exact hl)]
  rfl
end Mk01
set_option Elab.async false
set_option linter.all false
set_option autoImplicit false
set_option maxRecDepth 100000
set_option maxHeartbeats 1000000
/-! Kb15: one turn with two lower sets and a thing, run. -/
namespace Mk01
open PySem PySem.Spec MP
abbrev B0 : GS := (sAsg (tgTup 2 (tgsCons (tgName 4) (tgsCons (tgName 5) tgsNil))) (gTup (aCons (gCall 2 G__law_of (aCons (gv 0) (aCons (gv 2) aNil))) (aCons (gCall 2 G__law_of (aCons (gv 0) (aCons (gv 2) aNil))) aNil))))
abbrev B1 : GS := (sSet 6 (gFn fTuple (aCons (gLc (gSeq (gv 4)) (tgName 7) (gb1 (g2 (fIn false) (gv 7) (gv 5))) (gv 7) [7]) aNil)))
abbrev B2 : GS := (sSet 8 (gLst (aCons (gCall 3 G_meet (aCons (gv 1) (aCons (gv 4) (aCons (gv 5) aNil)))) (aCons (gCall 3 G_join (aCons (gv 1) (aCons (gv 4) (aCons (gv 5) aNil)))) (aCons (gCall 3 G_meet (aCons (gv 1) (aCons (gv 5) (aCons (gv 4) aNil)))) aNil)))))
abbrev B3 : GS := (sIf (gOrT (gb1 (g2 fNe (gFn fReprA (aCons (gv 8) aNil)) (gFn fReprA (aCons (gLst (aCons (gv 6) (aCons (gFn fTuple (aCons (gFn fSortSet (aCons (g2 fAdd (gv 4) (gv 5)) aNil)) aNil)) (aCons (gv 6) aNil)))) aNil)))) (gNotT (gb1 (gCall 2 G__law_moves_good (aCons (gv 1) (aCons (gv 4) aNil)))))) (sRet (gc (.bl false))) sNext)
abbrev B4 : GS := (sSet 9 (gCall 3 G__law_bent (aCons (gv 0) (aCons (g2 fIx (gv 1) (gc (.int 0))) (aCons (gCall 2 G__law_lot (aCons (gv 0) (aCons (g2 fIx (gv 1) (gc (.int 0))) aNil))) aNil)))))
abbrev B5 : GS := (sSet 10 (gCall 2 G__law_is_lower (aCons (gv 1) (aCons (gv 9) aNil))))
abbrev B6 : GS := (sIf (gOrT (gb1 (g2 fNe (gFn fReprA (aCons (gCall 2 G_is_lower (aCons (gv 1) (aCons (gv 9) aNil))) aNil)) (gFn fReprA (aCons (gv 10) aNil)))) (gb1 (g2 (fIs true) (gCall 2 G_is_lower (aCons (gv 1) (aCons (gv 4) aNil))) (gc (.bl true))))) (sRet (gc (.bl false))) sNext)
abbrev B7 : GS := (sSet 11 (gLst (aCons (gLamC 2 S__law_heard (gCall 2 G_can_put (aCons (gv 1) (aCons (gv 9) aNil)))) (aCons (gLamC 2 S__law_heard (gCall 3 G_join (aCons (gv 1) (aCons (gv 4) (aCons (gv 9) aNil))))) aNil))))
abbrev B8 : GS := (sIf (gAndT (gNotT (gTru (gv 10))) (gb1 (g2 fNe (gFn fReprB (aCons (gv 11) aNil)) (gFn fReprB (aCons (g2 fMul (gLst (aCons (gTup (aCons (gc (.str "lower")) (aCons (gv 9) aNil))) aNil)) (gc (.int 2))) aNil))))) (sRet (gc (.bl false))) sNext)
abbrev turnB : GS := sSeq B0 (sSeq B1 (sSeq B2 (sSeq B3 (sSeq B4 (sSeq B5 (sSeq B6 (sSeq B7 B8)))))))
abbrev envU (s n : Nat) (ps : List (Nat × Nat)) (e : Nat) (x3 x4 x5 x6 x7 x8 x9 x10 x11 : Option D) : MP.Env := [some (.ref s), some (ordD n ps), some (.ref e), x3, x4, x5, x6, x7, x8, x9, x10, x11]
theorem turn_run {s c l N n e : Nat} {ps : List (Nat × Nat)} {st : Store} {x3 x4 x5 x6 x7 x8 x9 x10 x11 : Option D} (S : LSt s c l N st) (g : Good n ps) (hn : n ≤ 6) (hN : N < 2 ^ 38) (hes : e ≠ s) (hel : e ≠ l) (hc : cellL st e = some ((allL n ps).map lotD)) :
    ∃ y4 y5 y6 y7 y8 y9 y10 y11 st', turnB (envU s n ps e x3 x4 x5 x6 x7 x8 x9 x10 x11) st = some (.nx (envU s n ps e x3 y4 y5 y6 y7 y8 y9 y10 y11), st') ∧ LSt s c l (N + 13) st' ∧ cellL st' e = some ((allL n ps).map lotD) := by
  have hn20 : n ≤ 20 := by omega
  have hal := all_len g.ok
  have h64 : 2 ^ n ≤ 64 := Nat.pow_le_pow_right (by omega) hn
  have hpos : 0 < ((allL n ps).map lotD).length := by
    rw [List.length_map]
    exact List.length_pos_of_mem ((all_mem g.ok).mpr Low.nil)
  have hlen : ((allL n ps).map lotD).length < 1000 := by rw [List.length_map]; omega
  -- two lower sets
  obtain ⟨d1, s1, m1, e1, S1, k1⟩ := law_of_spec S (by omega) hc hpos hlen hes hel
  have hc1 : cellL s1 e = some ((allL n ps).map lotD) := by rw [k1.cell hes hel]; exact hc
  obtain ⟨d2, s2, m2, e2, S2, k2⟩ := law_of_spec S1 (by omega) hc1 hpos hlen hes hel
  have hc2 : cellL s2 e = some ((allL n ps).map lotD) := by rw [k2.cell hes hel]; exact hc1
  obtain ⟨a, ha, rfl⟩ := List.mem_map.mp m1
  obtain ⟨b, hb, rfl⟩ := List.mem_map.mp m2
  have A := (all_mem g.ok).mp ha
  have B := (all_mem g.ok).mp hb
  have hla := A.lot.len
  have hlb := B.lot.len
  have h0 : B0 (envU s n ps e x3 x4 x5 x6 x7 x8 x9 x10 x11) st = some (.nx (envU s n ps e x3 (some (lotD a)) (some (lotD b)) x6 x7 x8 x9 x10 x11), s2) :=
    sAsg_run (d := .tup [lotD a, lotD b]) (gTup_run (aConsN (call2 (x := .ref s) (y := .ref e) rfl rfl e1) (aCons1 (call2 (x := .ref s) (y := .ref e) rfl rfl e2))) (by simp)) rfl
  -- what both have
  obtain ⟨s3, j3, v1, v2, v3, _⟩ := gLc_run (gi := gSeq (gv 4)) (it := itL (mI a)) (f := tgName 7) (tt := gb1 (g2 (fIn false) (gv 7) (gv 5))) (e := gv 7) (env := envU s n ps e x3 (some (lotD a)) (some (lotD b)) x6 x7 x8 x9 x10 x11) (st := s2) (base := s2) (ds := mI a) (vs := [7])
    (natB fun x => decide (x ∈ b)) (fun d => d) (gSeq_tup rfl) Pre.rfl (by rw [mI_len]; omega) (fun j s' _ => rfl) (by
      intro d hd t hpt
      obtain ⟨y, hy, rfl⟩ := List.mem_map.mp hd
      exact ⟨envU s n ps e x3 (some (lotD a)) (some (lotD b)) x6 (some (.int y)) x8 x9 x10 x11, t, rfl, gb1_run ((g2_run (x := .int y) (y := lotD b) rfl rfl).trans fIn_lot), Pre.rfl, fun _ => ⟨t, rfl, Pre.rfl⟩⟩)
  rw [natB_filter] at v3
  have h1 : B1 (envU s n ps e x3 (some (lotD a)) (some (lotD b)) x6 x7 x8 x9 x10 x11) s2 = some (.nx (envU s n ps e x3 (some (lotD a)) (some (lotD b)) (some (lotD (bothL a b))) x7 x8 x9 x10 x11), s3) :=
    sSet_run ((gFn1_run v2).trans (fTuple_ref v3))
  obtain ⟨s4, p4, e4⟩ := meet_spec g A B s3
  obtain ⟨s5, p5, e5⟩ := join_spec g A B s4
  obtain ⟨s6, p6, e6⟩ := meet_spec g B A s5
  rw [meet_both A.lot] at e4
  rw [meet_swap, meet_both A.lot] at e6
  have h2 : B2 (envU s n ps e x3 (some (lotD a)) (some (lotD b)) (some (lotD (bothL a b))) x7 x8 x9 x10 x11) s3 = some (.nx (envU s n ps e x3 (some (lotD a)) (some (lotD b)) (some (lotD (bothL a b))) x7 (some (.ref s6.length)) x9 x10 x11), s6 ++ [Cell.lst [lotD (bothL a b), lotD (anyL n a b), lotD (bothL a b)]]) :=
    sSet_run (gLst_run (xs := [lotD (bothL a b), lotD (anyL n a b), lotD (bothL a b)]) (aConsN (call3 (x := ordD n ps) (y := lotD a) (z := lotD b) rfl rfl rfl e4) (aConsN (call3 (x := ordD n ps) (y := lotD a) (z := lotD b) rfl rfl rfl e5) (aCons1 (call3 (x := ordD n ps) (y := lotD b) (z := lotD a) rfl rfl rfl e6)))) (by simp))
  have c7 : cellL (s6 ++ [Cell.lst [lotD (bothL a b), lotD (anyL n a b), lotD (bothL a b)]]) s6.length = some [lotD (bothL a b), lotD (anyL n a b), lotD (bothL a b)] := cellL_new
  have p7 : Pre s2 (s6 ++ [Cell.lst [lotD (bothL a b), lotD (anyL n a b), lotD (bothL a b)]]) := ((((v1.tr p4).tr p5).tr p6)).push _
  generalize s6 ++ [Cell.lst [lotD (bothL a b), lotD (anyL n a b), lotD (bothL a b)]] = s7 at h2 c7 p7
  generalize s6.length = j8 at h2 c7
  -- what is due of them
  have hboth : LotOk n (bothL a b) := A.lot.filter _
  have hany : LotOk n (anyL n a b) := lotOk_bits
  have hsum : g2 fAdd (gv 4) (gv 5) (envU s n ps e x3 (some (lotD a)) (some (lotD b)) (some (lotD (bothL a b))) x7 (some (.ref j8)) x9 x10 x11) s7 = some (.ok (.tup (mI (a ++ b))) s7) := by
    refine (g2_run (x := .tup (mI a)) (y := .tup (mI b)) rfl rfl).trans ?_
    rw [fAdd_tups (by rw [mI_len, mI_len]; omega)]
    unfold mI
    rw [List.map_append]
  have hset := (gFn1_run (f := fSortSet) hsum).trans (fSortSet_tup (by rw [List.length_append]; omega))
  rw [sortU_any A.lot B.lot] at hset
  have htup := (gFn1_run (f := fTuple) hset).trans (fTuple_ref cellL_new)
  rw [← lotD_z] at htup
  have p8 : Pre s7 (s7 ++ [Cell.lst (zL (nZ (anyL n a b)))] ++ [Cell.lst [lotD (bothL a b), lotD (anyL n a b), lotD (bothL a b)]]) := (List.prefix_append _ _).trans (List.prefix_append _ _)
  obtain ⟨r1, r2⟩ := repr_three hboth hany hboth hn20 c7
  obtain ⟨r3, _⟩ := repr_three (st := s7 ++ [Cell.lst (zL (nZ (anyL n a b)))] ++ [Cell.lst [lotD (bothL a b), lotD (anyL n a b), lotD (bothL a b)]]) hboth hany hboth hn20 cellL_new
  obtain ⟨s9, p9, e9⟩ := moves_good_spec g A (s7 ++ [Cell.lst (zL (nZ (anyL n a b)))] ++ [Cell.lst [lotD (bothL a b), lotD (anyL n a b), lotD (bothL a b)]])
  have h3 : B3 (envU s n ps e x3 (some (lotD a)) (some (lotD b)) (some (lotD (bothL a b))) x7 (some (.ref j8)) x9 x10 x11) s7 = some (.nx (envU s n ps e x3 (some (lotD a)) (some (lotD b)) (some (lotD (bothL a b))) x7 (some (.ref j8)) x9 x10 x11), s9) := by
    have q1 := (gFn1_run (f := fReprA) (g := gv 8) (env := envU s n ps e x3 (some (lotD a)) (some (lotD b)) (some (lotD (bothL a b))) x7 (some (.ref j8)) x9 x10 x11) (x := .ref j8) (st1 := s7) rfl).trans r1
    have q2 := (gFn1_run (f := fReprA) (gLst_run (xs := [lotD (bothL a b), lotD (anyL n a b), lotD (bothL a b)]) (aConsN (g := gv 6) (x := lotD (bothL a b)) rfl (aConsN htup (aCons1 (g := gv 6) (x := lotD (bothL a b)) rfl))) (by simp))).trans r3
    refine (sIf_f ((gOrT_f (gb1_run ((g2_run q1 q2).trans (fNe_same r2)))).trans ?_)).trans rfl
    exact gNotT_run (b := true) (gb1_run (call2 (x := ordD n ps) (y := lotD a) rfl rfl e9))
  have p79 := p7.tr (p8.tr p9)
  have S9 : LSt s c l (N + 2) s9 := S2.pre p79
  have hc9 := p79.cell hc2
  -- a thing
  obtain ⟨r, s10, hr, e10, S10, k10⟩ := law_lot_spec2 (n := n) S9 (by omega) (by omega)
  obtain ⟨t, p, s11, e11, sh, S11, k11⟩ := law_bent_spec S10 hr hn20 (by omega)
  have hc11 := k11 e _ hes hel (k10 e _ hes hel hc9)
  have o0 : ∀ {x9 : Option D} (u : Store), g2 fIx (gv 1) (gc (.int 0)) (envU s n ps e x3 (some (lotD a)) (some (lotD b)) (some (lotD (bothL a b))) x7 (some (.ref j8)) x9 x10 x11) u = some (.ok (.int n) u) := fun u => (g2_run (x := ordD n ps) (y := .int 0) rfl rfl).trans (fIx_tup (i := 0) rfl)
  have h4 : B4 (envU s n ps e x3 (some (lotD a)) (some (lotD b)) (some (lotD (bothL a b))) x7 (some (.ref j8)) x9 x10 x11) s9 = some (.nx (envU s n ps e x3 (some (lotD a)) (some (lotD b)) (some (lotD (bothL a b))) x7 (some (.ref j8)) (some t) x10 x11), s11) :=
    sSet_run (call3 (x := .ref s) rfl (o0 s9) (call2 (x := .ref s) rfl (o0 s9) e10) e11)
  have before : ∀ {x10' x11' : Option D} {s' : Store}, (sSeq B5 (sSeq B6 (sSeq B7 B8))) (envU s n ps e x3 (some (lotD a)) (some (lotD b)) (some (lotD (bothL a b))) x7 (some (.ref j8)) (some t) x10 x11) s11 = some (.nx (envU s n ps e x3 (some (lotD a)) (some (lotD b)) (some (lotD (bothL a b))) x7 (some (.ref j8)) (some t) x10' x11'), s') → turnB (envU s n ps e x3 x4 x5 x6 x7 x8 x9 x10 x11) st = some (.nx (envU s n ps e x3 (some (lotD a)) (some (lotD b)) (some (lotD (bothL a b))) x7 (some (.ref j8)) (some t) x10' x11'), s') := fun z =>
    (sSeq_nx h0).trans ((sSeq_nx h1).trans ((sSeq_nx h2).trans ((sSeq_nx h3).trans ((sSeq_nx h4).trans z))))
  rcases sh.looks g with ⟨q, hq, L, look⟩ | ⟨NL, look⟩
  · -- a lower set
    subst hq
    obtain ⟨s12, p12, e12⟩ := look s11 Pre.rfl
    obtain ⟨s13, p13, e13⟩ := is_lower_low g L s12
    obtain ⟨s14, p14, e14⟩ := is_lower_low g A s13
    obtain ⟨s15, p15, e15⟩ := can_put_low g L s14
    obtain ⟨s16, p16, e16⟩ := join_spec g A L (s15 ++ [Cell.lst [lotD (putL n ps q)]])
    refine ⟨_, _, _, _, _, _, _, _, s16 ++ [Cell.lst [lotD (bits n (maskL a ||| maskL q))]] ++ [Cell.lst [.ref s15.length, .ref s16.length]], before (x10' := some (.bl true)) (x11' := some (.ref (s16 ++ [Cell.lst [lotD (bits n (maskL a ||| maskL q))]]).length)) ?_, ?_, ?_⟩
    · refine (sSeq_nx (env' := envU s n ps e x3 (some (lotD a)) (some (lotD b)) (some (lotD (bothL a b))) x7 (some (.ref j8)) (some (lotD q)) (some (.bl true)) x11) (st' := s12) (sSet_run (call2 (x := ordD n ps) (y := lotD q) rfl rfl e12))).trans ?_
      refine (sSeq_nx (env' := envU s n ps e x3 (some (lotD a)) (some (lotD b)) (some (lotD (bothL a b))) x7 (some (.ref j8)) (some (lotD q)) (some (.bl true)) x11) (st' := s14) ?_).trans ?_
      · have q1 := gb1_run ((g2_run (f := fNe) ((gFn1_run (f := fReprA) (call2 (gf := G_is_lower) (ga := gv 1) (gb := gv 9) (env := envU s n ps e x3 (some (lotD a)) (some (lotD b)) (some (lotD (bothL a b))) x7 (some (.ref j8)) (some (lotD q)) (some (.bl true)) x11) (x := ordD n ps) (y := lotD q) rfl rfl e13)).trans repr_bl) ((gFn1_run (f := fReprA) (g := gv 10) (x := .bl true) (st1 := s13) rfl).trans repr_bl)).trans (fNe_same (strOk_boolT true)))
        exact (sIf_f ((gOrT_f q1).trans (gb1_run ((g2_run (y := .bl true) (call2 (x := ordD n ps) (y := lotD a) rfl rfl e14) rfl).trans rfl)))).trans rfl
      refine (sSeq_nx (env' := envU s n ps e x3 (some (lotD a)) (some (lotD b)) (some (lotD (bothL a b))) x7 (some (.ref j8)) (some (lotD q)) (some (.bl true)) (some (.ref (s16 ++ [Cell.lst [lotD (bits n (maskL a ||| maskL q))]]).length))) (st' := s16 ++ [Cell.lst [lotD (bits n (maskL a ||| maskL q))]] ++ [Cell.lst [.ref s15.length, .ref s16.length]]) ?_).trans ?_
      · exact sSet_run (gLst_run (xs := [.ref s15.length, .ref s16.length]) (aConsN (heard_ok (call2 (x := ordD n ps) (y := lotD q) rfl rfl e15)) (aCons1 (heard_ok (call3 (x := ordD n ps) (y := lotD a) (z := lotD q) rfl rfl rfl e16)))) (by simp))
      · exact (sIf_f (gAndT_f (gNotT_run (b := true) rfl))).trans rfl
    · exact (S11.le (by omega)).pre ((((((p12.tr p13).tr p14).tr p15).push _).tr p16).tr ((List.prefix_append _ _).trans (List.prefix_append _ _)))
    · exact Pre.cell ((((((p12.tr p13).tr p14).tr p15).push _).tr p16).tr ((List.prefix_append _ _).trans (List.prefix_append _ _))) hc11
  · -- none
    obtain ⟨s12, p12, e12⟩ := look s11 Pre.rfl
    obtain ⟨s13, p13, e13⟩ := is_lower_bad g (NL.pre p12)
    obtain ⟨s14, p14, e14⟩ := is_lower_low g A s13
    obtain ⟨s15, p15, e15⟩ := can_put_bad g (NL.pre ((p12.tr p13).tr p14))
    obtain ⟨s16, p16, e16⟩ := join_bad g A (NL.pre (((p12.tr p13).tr p14).tr p15))
    have pp : Pre s11 s16 := (((p12.tr p13).tr p14).tr p15).tr p16
    have sh17 := sh.pre (pp.tr (List.prefix_append s16 [Cell.lst [hD t, hD t]]))
    have sh19 := sh17.pre ((List.prefix_append (s16 ++ [Cell.lst [hD t, hD t]]) [Cell.lst [hD t]]).trans (List.prefix_append _ [Cell.lst [hD t, hD t]]))
    obtain ⟨r4, r5⟩ := reprB_pair sh17 hn20 (k := s16.length) cellL_new
    obtain ⟨r6, _⟩ := reprB_pair sh19 hn20 (k := (s16 ++ [Cell.lst [hD t, hD t]] ++ [Cell.lst [hD t]]).length) cellL_new
    refine ⟨_, _, _, _, _, _, _, _, s16 ++ [Cell.lst [hD t, hD t]] ++ [Cell.lst [hD t]] ++ [Cell.lst [hD t, hD t]], before (x10' := some (.bl false)) (x11' := some (.ref s16.length)) ?_, ?_, ?_⟩
    · refine (sSeq_nx (env' := envU s n ps e x3 (some (lotD a)) (some (lotD b)) (some (lotD (bothL a b))) x7 (some (.ref j8)) (some t) (some (.bl false)) x11) (st' := s12) (sSet_run (call2 (x := ordD n ps) (y := t) rfl rfl e12))).trans ?_
      refine (sSeq_nx (env' := envU s n ps e x3 (some (lotD a)) (some (lotD b)) (some (lotD (bothL a b))) x7 (some (.ref j8)) (some t) (some (.bl false)) x11) (st' := s14) ?_).trans ?_
      · have q1 := gb1_run ((g2_run (f := fNe) ((gFn1_run (f := fReprA) (call2 (gf := G_is_lower) (ga := gv 1) (gb := gv 9) (env := envU s n ps e x3 (some (lotD a)) (some (lotD b)) (some (lotD (bothL a b))) x7 (some (.ref j8)) (some t) (some (.bl false)) x11) (x := ordD n ps) (y := t) rfl rfl e13)).trans repr_bl) ((gFn1_run (f := fReprA) (g := gv 10) (x := .bl false) (st1 := s13) rfl).trans repr_bl)).trans (fNe_same (strOk_boolT false)))
        exact (sIf_f ((gOrT_f q1).trans (gb1_run ((g2_run (y := .bl true) (call2 (x := ordD n ps) (y := lotD a) rfl rfl e14) rfl).trans rfl)))).trans rfl
      refine (sSeq_nx (env' := envU s n ps e x3 (some (lotD a)) (some (lotD b)) (some (lotD (bothL a b))) x7 (some (.ref j8)) (some t) (some (.bl false)) (some (.ref s16.length))) (st' := s16 ++ [Cell.lst [hD t, hD t]]) ?_).trans ?_
      · exact sSet_run (gLst_run (xs := [hD t, hD t]) (aConsN (heard_lower (call2 (x := ordD n ps) (y := t) rfl rfl e15)) (aCons1 (heard_lower (call3 (x := ordD n ps) (y := lotD a) (z := t) rfl rfl rfl e16)))) (by simp))
      · have rep : fMul (.ref (s16 ++ [Cell.lst [hD t, hD t]]).length) (.int 2) (s16 ++ [Cell.lst [hD t, hD t]] ++ [Cell.lst [hD t]]) = some (.ok (.ref (s16 ++ [Cell.lst [hD t, hD t]] ++ [Cell.lst [hD t]]).length) (s16 ++ [Cell.lst [hD t, hD t]] ++ [Cell.lst [hD t]] ++ [Cell.lst [hD t, hD t]])) := by
          show fRep (.ref _) (.int 2) _ = _
          unfold fRep
          dsimp only
          rw [cellL_new]
          dsimp only
          rw [if_pos ⟨by omega, by simp, by omega⟩]
          rfl
        have q1 := (gFn1_run (f := fReprB) (g := gv 11) (env := envU s n ps e x3 (some (lotD a)) (some (lotD b)) (some (lotD (bothL a b))) x7 (some (.ref j8)) (some t) (some (.bl false)) (some (.ref s16.length))) (x := .ref s16.length) (st1 := s16 ++ [Cell.lst [hD t, hD t]]) rfl).trans r4
        have q2 : g2 fMul (gLst (aCons (gTup (aCons (gc (.str "lower")) (aCons (gv 9) aNil))) aNil)) (gc (.int 2)) (envU s n ps e x3 (some (lotD a)) (some (lotD b)) (some (lotD (bothL a b))) x7 (some (.ref j8)) (some t) (some (.bl false)) (some (.ref s16.length))) (s16 ++ [Cell.lst [hD t, hD t]]) = _ :=
          (g2_run (x := .ref (s16 ++ [Cell.lst [hD t, hD t]]).length) (y := .int 2) (st1 := s16 ++ [Cell.lst [hD t, hD t]] ++ [Cell.lst [hD t]]) (gLst_run (xs := [hD t]) (aCons1 (gTup_run (xs := [.str "lower", t]) (aConsN rfl (aCons1 rfl)) (by simp))) (by simp)) rfl).trans rep
        have q3 := (gFn1_run (f := fReprB) q2).trans r6
        exact (sIf_f ((gAndT_t (gNotT_run (b := false) rfl)).trans (gb1_run ((g2_run q1 q3).trans (fNe_same r5))))).trans rfl
    · exact (S11.le (by omega)).pre (pp.tr ((List.prefix_append _ _).trans ((List.prefix_append _ _).trans (List.prefix_append _ _))))
    · exact Pre.cell (pp.tr ((List.prefix_append _ _).trans ((List.prefix_append _ _).trans (List.prefix_append _ _)))) hc11
end Mk01
set_option Elab.async false
set_option linter.all false
set_option autoImplicit false
set_option maxRecDepth 100000
set_option maxHeartbeats 1000000
/-! Kb16: the lower sets of a drawn order. -/
namespace Mk01
open PySem PySem.Spec MP
abbrev allTest : GS := (sIf (gb1 (g2 fNe (gFn fReprA (aCons (gLst (aCons (gCall 1 G_all_lowers (aCons (gv 1) aNil)) (aCons (gCall 1 G_all_lowers (aCons (gv 1) aNil)) aNil))) aNil)) (gFn fReprA (aCons (g2 fMul (gLst (aCons (gFn fTuple (aCons (gv 2) aNil)) aNil)) (gc (.int 2))) aNil)))) (sRet (gc (.bl false))) sNext)
theorem law_good_spec {s c l N : Nat} {st : Store} (S : LSt s c l N st) (hN : N < 2 ^ 37) : ∃ st', G__law_good [.ref s] st = some (.ok (.bl true) st') ∧ LSt s c l (N + 140) st' := by
  obtain ⟨n, ps, s1, g, hn, _, e1, S1⟩ := law_order_spec S (by omega)
  obtain ⟨s2, e, p2, e2, c2, he⟩ := law_lowers_spec g (by omega) s1
  obtain ⟨hs, hcq, hl⟩ := S1.lt
  have hal := all_len g.ok
  have h64 : 2 ^ n ≤ 64 := Nat.pow_le_pow_right (by omega) hn
  obtain ⟨s3, p3, e3⟩ := all_lowers_spec g s2
  obtain ⟨s4, p4, e4⟩ := all_lowers_spec g s3
  rw [if_pos (by omega)] at e3 e4
  have p5 : Pre s4 (s4 ++ [Cell.lst [everyD n ps, everyD n ps]]) := List.prefix_append _ _
  have c5 := (((p3.tr p4).tr p5)).cell c2
  obtain ⟨r1, r2⟩ := repr_every (k := s4.length) (st := s4 ++ [Cell.lst [everyD n ps, everyD n ps]]) g hn cellL_new
  generalize hs5 : s4 ++ [Cell.lst [everyD n ps, everyD n ps]] = s5 at p5 c5 r1
  have rep : fMul (.ref s5.length) (.int 2) (s5 ++ [Cell.lst [everyD n ps]]) = some (.ok (.ref (s5 ++ [Cell.lst [everyD n ps]]).length) (s5 ++ [Cell.lst [everyD n ps]] ++ [Cell.lst [everyD n ps, everyD n ps]])) := by
    show fRep (.ref _) (.int 2) _ = _
    unfold fRep
    dsimp only
    rw [cellL_new]
    dsimp only
    rw [if_pos ⟨by omega, by simp, by omega⟩]
    rfl
  obtain ⟨r3, _⟩ := repr_every (k := (s5 ++ [Cell.lst [everyD n ps]]).length) (st := s5 ++ [Cell.lst [everyD n ps]] ++ [Cell.lst [everyD n ps, everyD n ps]]) g hn cellL_new
  have p6 : Pre s5 (s5 ++ [Cell.lst [everyD n ps]] ++ [Cell.lst [everyD n ps, everyD n ps]]) := (List.prefix_append _ _).trans (List.prefix_append _ _)
  have h2 : allTest (envU s n ps e none none none none none none none none none) s2 = some (.nx (envU s n ps e none none none none none none none none none), s5 ++ [Cell.lst [everyD n ps]] ++ [Cell.lst [everyD n ps, everyD n ps]]) := by
    have a1 : gLst (aCons (gCall 1 G_all_lowers (aCons (gv 1) aNil)) (aCons (gCall 1 G_all_lowers (aCons (gv 1) aNil)) aNil)) (envU s n ps e none none none none none none none none none) s2 = some (.ok (.ref s4.length) s5) := by
      rw [← hs5]
      exact gLst_run (xs := [everyD n ps, everyD n ps]) (aConsN ((gCall1_run (x := ordD n ps) (st1 := s2) rfl).trans e3) (aCons1 ((gCall1_run (x := ordD n ps) (st1 := s3) rfl).trans e4))) (by simp)
    have q1 := (gFn1_run (f := fReprA) a1).trans r1
    have a2 : gFn fTuple (aCons (gv 2) aNil) (envU s n ps e none none none none none none none none none) s5 = some (.ok (everyD n ps) s5) := (gFn1_run (x := .ref e) (st1 := s5) rfl).trans (fTuple_ref c5)
    have a3 : g2 fMul (gLst (aCons (gFn fTuple (aCons (gv 2) aNil)) aNil)) (gc (.int 2)) (envU s n ps e none none none none none none none none none) s5 = _ := (g2_run (x := .ref s5.length) (y := .int 2) (st1 := s5 ++ [Cell.lst [everyD n ps]]) (gLst_run (xs := [everyD n ps]) (aCons1 a2) (by simp)) rfl).trans rep
    have q2 := (gFn1_run (f := fReprA) a3).trans r3
    exact (sIf_f (gb1_run ((g2_run q1 q2).trans (fNe_same r2)))).trans rfl
  have pAll := (p2.tr p3).tr (p4.tr (p5.tr p6))
  have S6 : LSt s c l (N + 51) (s5 ++ [Cell.lst [everyD n ps]] ++ [Cell.lst [everyD n ps, everyD n ps]]) := S1.pre pAll
  have c6 := p6.cell c5
  generalize s5 ++ [Cell.lst [everyD n ps]] ++ [Cell.lst [everyD n ps, everyD n ps]] = s6 at h2 S6 c6
  have L := sFor_run (gi := gRng1 (aCons (gc (.int 6)) aNil)) (f := tgName 3) (body := turnB) (it := itR 0 6) (ds := mpTo 6) (env := envU s n ps e none none none none none none none none none) (st := s6) (base := s6)
    (fun i env t => ∃ x3 x4 x5 x6 x7 x8 x9 x10 x11, env = envU s n ps e x3 x4 x5 x6 x7 x8 x9 x10 x11 ∧ i ≤ 6 ∧ LSt s c l (N + 51 + 13 * i) t ∧ cellL t e = some ((allL n ps).map lotD)) (by rw [mpTo_length]; exact gRng1_run rfl (by omega)) ⟨none, none, none, none, none, none, none, none, none, rfl, by omega, S6, c6⟩ (fun i env t _ => itR_mpTo) (by
      rintro i d env t hd ⟨x3, x4, x5, x6, x7, x8, x9, x10, x11, rfl, hi, St, ct⟩
      rw [mpTo_at] at hd
      have hi6 : i < 6 := by
        by_cases q : i < 6
        · exact q
        · rw [if_neg q] at hd; cases hd
      obtain ⟨y4, y5, y6, y7, y8, y9, y10, y11, t', e', St', ct'⟩ := turn_run (x3 := some d) (x4 := x4) (x5 := x5) (x6 := x6) (x7 := x7) (x8 := x8) (x9 := x9) (x10 := x10) (x11 := x11) St g hn (by omega) (by omega) (by omega) ct
      exact ⟨envU s n ps e (some d) x4 x5 x6 x7 x8 x9 x10 x11, _, t', rfl, .inl e', some d, y4, y5, y6, y7, y8, y9, y10, y11, rfl, by omega, St'.le (by omega), ct'⟩)
  obtain ⟨env7, s7, r7, x3, x4, x5, x6, x7, x8, x9, x10, x11, rfl, _, S7, _⟩ := L
  rw [mpTo_length] at S7
  refine ⟨s7, gBody_rt (env := [some (.ref s), none, none, none, none, none, none, none, none, none, none, none]) ?_, S7.le (by omega)⟩
  have h0 : sSet 1 (gCall 2 G__law_order (aCons (gv 0) (aCons (gc (.int 6)) aNil))) [some (.ref s), none, none, none, none, none, none, none, none, none, none, none] st = some (.nx [some (.ref s), some (ordD n ps), none, none, none, none, none, none, none, none, none, none], s1) :=
    sSet_run (call2 (x := .ref s) (y := .int 6) rfl rfl e1)
  have h1 : sSet 2 (gCall 1 G__law_lowers (aCons (gv 1) aNil)) [some (.ref s), some (ordD n ps), none, none, none, none, none, none, none, none, none, none] s1 = some (.nx (envU s n ps e none none none none none none none none none), s2) :=
    sSet_run ((gCall1_run (x := ordD n ps) rfl).trans e2)
  exact (sSeq_nx h0).trans ((sSeq_nx h1).trans ((sSeq_nx h2).trans ((sSeq_nx r7).trans rfl)))
end Mk01
set_option Elab.async false
set_option linter.all false
set_option autoImplicit false
set_option maxRecDepth 100000
set_option maxHeartbeats 0
/-! Kb17: what the law looks at by hand, and the law. -/
namespace Mk01
open PySem PySem.Spec MP
def Q0 : GS := (sAsg (tgTup 2 (tgsCons (tgName 1) (tgsCons (tgName 2) tgsNil))) (gTup (aCons (gTup (aCons (gc (.int 9)) (aCons (gTup aNil) aNil))) (aCons (gTup (aCons (gc (.int 20)) (aCons (gFn fTuple (aCons (gLc (gRng1 (aCons (gc (.int 19)) aNil)) (tgName 3) ttYes (gTup (aCons (gv 3) (aCons (g2 fAdd (gv 3) (gc (.int 1))) aNil))) [3]) aNil)) aNil))) aNil))))
def Q1 : GS := (sIf (gOrT (gb1 (g2 fNe (gLamC 2 S__law_heard (gCall 1 G_all_lowers (aCons (gv 1) aNil))) (gTup (aCons (gc (.str "many")) (aCons (gc (.int 400)) aNil))))) (gb1 (g2 fNe (gFn fLen (aCons (gCall 1 G_all_lowers (aCons (gv 2) aNil)) aNil)) (gc (.int 21))))) (sRet (gc (.bl false))) sNext)
def Q2 : GS := (sIf (gOrT (gb1 (g2 fNe (gCall 1 G_all_lowers (aCons (gTup (aCons (gc (.int 0)) (aCons (gTup aNil) aNil))) aNil)) (gTup (aCons (gTup aNil) aNil)))) (gb1 (g2 fNe (gCall 2 G_can_put (aCons (gTup (aCons (gc (.int 0)) (aCons (gTup aNil) aNil))) (aCons (gTup aNil) aNil))) (gTup aNil)))) (sRet (gc (.bl false))) sNext)
def Q3 : GS := (sSet 4 (gTup (aCons (gc (.int 10)) (aCons (gTup (aCons (gTup (aCons (gc (.int 0)) (aCons (gc (.int 9)) aNil))) (aCons (gTup (aCons (gc (.int 1)) (aCons (gc (.int 9)) aNil))) (aCons (gTup (aCons (gc (.int 2)) (aCons (gc (.int 9)) aNil))) (aCons (gTup (aCons (gc (.int 3)) (aCons (gc (.int 9)) aNil))) (aCons (gTup (aCons (gc (.int 4)) (aCons (gc (.int 9)) aNil))) (aCons (gTup (aCons (gc (.int 5)) (aCons (gc (.int 9)) aNil))) (aCons (gTup (aCons (gc (.int 6)) (aCons (gc (.int 9)) aNil))) (aCons (gTup (aCons (gc (.int 7)) (aCons (gc (.int 9)) aNil))) (aCons (gTup (aCons (gc (.int 8)) (aCons (gc (.int 9)) aNil))) aNil)))))))))) aNil))))
def Q4 : GS := (sIf (gOrT (gb1 (g2 fNe (gLamC 2 S__law_heard (gCall 1 G_all_lowers (aCons (gv 4) aNil))) (gTup (aCons (gc (.str "many")) (aCons (gc (.int 400)) aNil))))) (gb1 (g2 fNe (gCall 2 G_can_put (aCons (gv 4) (aCons (gTupRg (gc (.int 9))) aNil))) (gTup (aCons (gc (.int 9)) aNil))))) (sRet (gc (.bl false))) sNext)
def Q5 : GS := (sIf (gOrT (gb1 (g2 fNe (gFn fLen (aCons (gCall 1 G_all_lowers (aCons (gTup (aCons (gc (.int 9)) (aCons (gTup (aCons (gTup (aCons (gc (.int 0)) (aCons (gc (.int 1)) aNil))) (aCons (gTup (aCons (gc (.int 2)) (aCons (gc (.int 3)) aNil))) aNil))) aNil))) aNil)) aNil)) (gc (.int 288)))) (gb1 (g2 (fIs true) (gCall 2 G_is_lower (aCons (gv 2) (aCons (gTup (aCons (gc (.int 1)) (aCons (gc (.int 2)) (aCons (gc (.int 3)) (aCons (gc (.int 4)) aNil))))) aNil))) (gc (.bl false))))) (sRet (gc (.bl false))) sNext)
def Q6 : GS := (sIf (gOrT (gb1 (g2 fNe (gCall 2 G_can_put (aCons (gTup (aCons (gc (.int 3)) (aCons (gTup (aCons (gTup (aCons (gc (.int 0)) (aCons (gc (.int 2)) aNil))) (aCons (gTup (aCons (gc (.int 1)) (aCons (gc (.int 2)) aNil))) aNil))) aNil))) (aCons (gTup (aCons (gc (.int 0)) aNil)) aNil))) (gTup (aCons (gc (.int 1)) aNil)))) (gb1 (g2 fNe (gCall 2 G_can_take (aCons (gTup (aCons (gc (.int 2)) (aCons (gTup (aCons (gTup (aCons (gc (.int 0)) (aCons (gc (.int 1)) aNil))) aNil)) aNil))) (aCons (gTup (aCons (gc (.int 0)) aNil)) aNil))) (gTup (aCons (gc (.int 0)) aNil))))) (sRet (gc (.bl false))) sNext)
def Q7 : GS := (sSet 5 (gTup (aCons (gTup (aCons (gc (.int 4)) (aCons (gc (.int 5)) aNil))) (aCons (gTup (aCons (gc (.int 5)) (aCons (gc (.int 6)) aNil))) (aCons (gTup (aCons (gc (.int 6)) (aCons (gc (.int 7)) aNil))) (aCons (gTup (aCons (gc (.int 8)) (aCons (gc (.int 9)) aNil))) (aCons (gTup (aCons (gc (.int 9)) (aCons (gc (.int 10)) aNil))) (aCons (gTup (aCons (gc (.int 10)) (aCons (gc (.int 11)) aNil))) aNil))))))))
def Q8 : GS := (sIf (gb1 (g2 fNe (gFn fLen (aCons (gCall 1 G_all_lowers (aCons (gTup (aCons (gc (.int 12)) (aCons (gv 5) aNil))) aNil)) aNil)) (gc (.int 400)))) (sRet (gc (.bl false))) sNext)
def Q9 : GS := (sIf (gb1 (g2 fNe (gLamC 2 S__law_heard (gCall 1 G_all_lowers (aCons (gTup (aCons (gc (.int 12)) (aCons (g2 fAdd (gTup (aCons (gTup (aCons (gc (.int 0)) (aCons (gc (.int 1)) aNil))) (aCons (gTup (aCons (gc (.int 2)) (aCons (gc (.int 3)) aNil))) (aCons (gTup (aCons (gc (.int 4)) (aCons (gc (.int 5)) aNil))) (aCons (gTup (aCons (gc (.int 6)) (aCons (gc (.int 7)) aNil))) aNil))))) (gSl fSl (gv 5) (gPart (gc (.int 3))) gNoPart)) aNil))) aNil))) (gTup (aCons (gc (.str "many")) (aCons (gc (.int 400)) aNil))))) (sRet (gc (.bl false))) sNext)
def Q10 : GS := (sSet 6 (gCall 1 G__law_begin (aCons (gv 0) aNil)))
def Q11 : GS := (sFor (gRng1 (aCons (g2 fAdd (gc (.int 2)) (gFn fMin2 (aCons (gFn fLen (aCons (gv 0) aNil)) (aCons (gc (.int 4)) aNil)))) aNil)) (tgName 7) (sIf (gNotT (gb1 (gCall 1 G__law_good (aCons (gv 6) aNil)))) (sRet (gc (.bl false))) sNext))
def Q12 : GS := (sRet (gc (.bl true)))
def restS : GS := sSeq Q1 (sSeq Q2 (sSeq Q3 (sSeq Q4 (sSeq Q5 (sSeq Q6 (sSeq Q7 (sSeq Q8 (sSeq Q9 (sSeq Q10 (sSeq Q11 Q12))))))))))
theorem law_parts : S_law = sSeq Q0 restS := rfl
def isNx : Option (Fl × Store) → Bool
  | some (.nx _, _) => true
  | _ => false
def envOf : Option (Fl × Store) → MP.Env
  | some (.nx e, _) => e
  | _ => []
def stOf : Option (Fl × Store) → Store
  | some (.nx _, s) => s
  | _ => []
theorem nx_of {r : Option (Fl × Store)} (h : isNx r = true) : r = some (.nx (envOf r), stOf r) := by
  cases r with
  | none => cases h
  | some p =>
    obtain ⟨f, s⟩ := p
    cases f with
    | nx e => rfl
    | _ => cases h
def row20 : List (Nat × Nat) := [(0, 1), (1, 2), (2, 3), (3, 4), (4, 5), (5, 6), (6, 7), (7, 8), (8, 9), (9, 10), (10, 11), (11, 12), (12, 13), (13, 14), (14, 15), (15, 16), (16, 17), (17, 18), (18, 19)]
def wide : List (Nat × Nat) := [(0, 9), (1, 9), (2, 9), (3, 9), (4, 9), (5, 9), (6, 9), (7, 9), (8, 9)]
def rows6 : List (Nat × Nat) := [(4, 5), (5, 6), (6, 7), (8, 9), (9, 10), (10, 11)]
def rows7 : List (Nat × Nat) := [(0, 1), (2, 3), (4, 5), (6, 7), (8, 9), (9, 10), (10, 11)]
theorem hand_nx (x : D) : isNx (Q0 [some x, none, none, none, none, none, none, none] []) = true := by kernel_rfl
theorem hand_env (x : D) : envOf (Q0 [some x, none, none, none, none, none, none, none] []) = [some x, some (ordD 9 []), some (ordD 20 row20), none, none, none, none, none] := by kernel_rfl
theorem good_of {n : Nat} {ps : List (Nat × Nat)} (h1 : n ≤ 20) (h2 : (ps.all fun p => decide (p.1 < p.2) && decide (p.2 < n)) = true) (h3 : ascB ltI (ps.map pairD) = true) (h4 : ps.length ≤ 1000) : Good n ps :=
  ⟨⟨h1, fun p hp => by
    have := List.all_eq_true.mp h2 p hp
    simpa using this⟩, asc_iff.mp h3, h4⟩
theorem g9 : Good 9 [] := good_of (by decide) (by decide) (by decide +kernel) (by decide)
theorem g20 : Good 20 row20 := good_of (by decide) (by decide) (by decide +kernel) (by decide)
theorem g0 : Good 0 [] := good_of (by decide) (by decide) (by decide +kernel) (by decide)
theorem g10 : Good 10 wide := good_of (by decide) (by decide) (by decide +kernel) (by decide)
theorem g9b : Good 9 [(0, 1), (2, 3)] := good_of (by decide) (by decide) (by decide +kernel) (by decide)
theorem g3 : Good 3 [(0, 2), (1, 2)] := good_of (by decide) (by decide) (by decide +kernel) (by decide)
theorem gg2 : Good 2 [(0, 1)] := good_of (by decide) (by decide) (by decide +kernel) (by decide)
theorem g12 : Good 12 rows6 := good_of (by decide) (by decide) (by decide +kernel) (by decide)
theorem g12b : Good 12 rows7 := good_of (by decide) (by decide) (by decide +kernel) (by decide)
/-! ### how many there are -/
def putM (n : Nat) (M : List Nat) (r : List Nat) : List Nat := (List.range n).filter fun i => !(maskL r).testBit i && withinB (M.getD i 0) (maskL r)
def treeM (n : Nat) (M : List Nat) : Nat → List Nat → List (List Nat)
  | 0, _ => []
  | d + 1, r => r :: ((putM n M r).filter (lastLt r)).flatMap fun i => treeM n M d (r ++ [i])
theorem tree_lit {n : Nat} {ps : List (Nat × Nat)} {M : List Nat} (h : masksM n ps = M) : ∀ (d : Nat) (r : List Nat), treeL n ps d r = treeM n M d r
  | 0, _ => rfl
  | d + 1, r => by
    unfold treeL treeM
    rw [show putL n ps r = putM n M r by subst h; rfl]
    congr 1
    exact congrArg (fun f => ((putM n M r).filter (lastLt r)).flatMap f) (funext fun i => tree_lit h d (r ++ [i]))
theorem len_lit {n k : Nat} {ps : List (Nat × Nat)} (M : List Nat) (h : masksM n ps = M) (e : (treeM n M (n + 1) []).length = k) : (allL n ps).length = k := by
  unfold allL
  rw [tree_lit h, e]
theorem l9 : (allL 9 []).length = 512 := len_lit [0, 0, 0, 0, 0, 0, 0, 0, 0] (by decide +kernel) (by decide +kernel)
theorem l20 : (allL 20 row20).length = 21 := len_lit [0, 1, 3, 7, 15, 31, 63, 127, 255, 511, 1023, 2047, 4095, 8191, 16383, 32767, 65535, 131071, 262143, 524287] (by decide +kernel) (by decide +kernel)
theorem l10 : (allL 10 wide).length = 513 := len_lit [0, 0, 0, 0, 0, 0, 0, 0, 0, 511] (by decide +kernel) (by decide +kernel)
theorem l9b : (allL 9 [(0, 1), (2, 3)]).length = 288 := len_lit [0, 1, 0, 4, 0, 0, 0, 0, 0] (by decide +kernel) (by decide +kernel)
theorem l12 : (allL 12 rows6).length = 400 := len_lit [0, 0, 0, 0, 0, 16, 48, 112, 0, 256, 768, 1792] (by decide +kernel) (by decide +kernel)
theorem l12b : (allL 12 rows7).length = 405 := len_lit [0, 1, 0, 4, 0, 16, 0, 64, 0, 256, 768, 1792] (by decide +kernel) (by decide +kernel)
theorem a0 : allL 0 [] = [[]] := by decide +kernel
/-! ### the looks -/
theorem fNe_many {t : Store} : fNe (.tup [.str "many", .int 400]) (.tup [.str "many", .int 400]) t = some (.ok (.bl false) t) := by
  unfold fNe fEqG
  rw [show pd t 16 (.tup [.str "many", .int 400]) = some (.tuple [.str "many", .int 400]) from rfl]
  dsimp only
  have sh : SeqAt.shaped (.tuple [.str "many", .int 400]) = true := by decide +kernel
  rw [if_pos ⟨sh, sh⟩]
  have e : PyData.eqv (.tuple [.str "many", .int 400]) (.tuple [.str "many", .int 400]) = true := by decide +kernel
  rw [e]
  rfl
theorem many_run {E : MP.Env} {e : G} {n : Nat} {ps : List (Nat × Nat)} (g : Good n ps) (h : 400 < (allL n ps).length) (t : Store) (he : e E t = some (.ok (ordD n ps) t)) :
    ∃ t', gb1 (g2 fNe (gLamC 2 S__law_heard (gCall 1 G_all_lowers (aCons e aNil))) (gTup (aCons (gc (.str "many")) (aCons (gc (.int 400)) aNil)))) E t = some (.ok false t') := by
  obtain ⟨t', _, e1⟩ := all_lowers_spec g t
  rw [if_neg (by omega)] at e1
  exact ⟨t', gb1_run ((g2_run (heard_many ((gCall1_run he).trans e1)) (gTup_run (xs := [.str "many", .int 400]) (aConsN rfl (aCons1 rfl)) (by simp))).trans fNe_many)⟩
theorem len_run {E : MP.Env} {e : G} {n k : Nat} {ps : List (Nat × Nat)} (g : Good n ps) (h : (allL n ps).length = k) (hk : k ≤ 400) (t : Store) (he : e E t = some (.ok (ordD n ps) t)) :
    ∃ t', gb1 (g2 fNe (gFn fLen (aCons (gCall 1 G_all_lowers (aCons e aNil)) aNil)) (gc (.int k))) E t = some (.ok false t') := by
  obtain ⟨t', _, e1⟩ := all_lowers_spec g t
  rw [if_pos (by omega)] at e1
  have a1 : gFn fLen (aCons (gCall 1 G_all_lowers (aCons e aNil)) aNil) E t = some (.ok (.int (k : Nat)) t') := by
    rw [gFn1_run ((gCall1_run he).trans e1)]
    show some (Out.ok (D.int (((allL n ps).map lotD).length : Nat)) t') = _
    rw [List.length_map, h]
  refine ⟨t', ?_⟩
  have := gb1_run ((g2_run (f := fNe) (gb := gc (.int k)) (y := .int k) a1 rfl).trans fNe_int)
  rw [this]
  simp
theorem put_run {E : MP.Env} {e1 e2 e3 : G} {n : Nat} {ps : List (Nat × Nat)} {r q : List Nat} (g : Good n ps) (h : LotOk n r) (hl : lowB n ps (maskL r) = true) (hq : putL n ps r = q) (t : Store) (h1 : e1 E t = some (.ok (ordD n ps) t)) (h2 : e2 E t = some (.ok (lotD r) t)) (h3 : ∀ t, e3 E t = some (.ok (lotD q) t)) :
    ∃ t', gb1 (g2 fNe (gCall 2 G_can_put (aCons e1 (aCons e2 aNil))) e3) E t = some (.ok false t') := by
  obtain ⟨t', _, o⟩ := can_put_low g ((low_iff h).mp hl) t
  rw [hq] at o
  refine ⟨t', ?_⟩
  have := gb1_run ((g2_run (f := fNe) (call2 h1 h2 o) (h3 t')).trans fNe_lot)
  rw [this, decide_eq_true rfl]
  rfl
theorem take_run {E : MP.Env} {e1 e2 e3 : G} {n : Nat} {ps : List (Nat × Nat)} {r q : List Nat} (g : Good n ps) (h : LotOk n r) (hl : lowB n ps (maskL r) = true) (hq : takL n ps r = q) (t : Store) (h1 : e1 E t = some (.ok (ordD n ps) t)) (h2 : e2 E t = some (.ok (lotD r) t)) (h3 : ∀ t, e3 E t = some (.ok (lotD q) t)) :
    ∃ t', gb1 (g2 fNe (gCall 2 G_can_take (aCons e1 (aCons e2 aNil))) e3) E t = some (.ok false t') := by
  obtain ⟨t', _, o⟩ := can_take_low g ((low_iff h).mp hl) t
  rw [hq] at o
  refine ⟨t', ?_⟩
  have := gb1_run ((g2_run (f := fNe) (call2 h1 h2 o) (h3 t')).trans fNe_lot)
  rw [this, decide_eq_true rfl]
  rfl
abbrev eH (x : D) (x4 x5 : Option D) : MP.Env := [some x, some (ordD 9 []), some (ordD 20 row20), none, x4, x5, none, none]
abbrev rowsD : D := .tup (rows6.map pairD)
theorem q1_run (x : D) (t : Store) : ∃ t', Q1 (eH x none none) t = some (.nx (eH x none none), t') := by
  obtain ⟨t1, h1⟩ := many_run (E := eH x none none) (e := gv 1) g9 (by rw [l9]; omega) t rfl
  obtain ⟨t2, h2⟩ := len_run (E := eH x none none) (e := gv 2) g20 l20 (by omega) t1 rfl
  exact ⟨t2, (sIf_f ((gOrT_f h1).trans h2)).trans rfl⟩
theorem fNe_all0 {t : Store} : fNe (.tup [.tup []]) (.tup [.tup []]) t = some (.ok (.bl false) t) := by
  unfold fNe fEqG
  rw [show pd t 16 (.tup [.tup []]) = some (.tuple [.tuple []]) from rfl]
  dsimp only
  have sh : SeqAt.shaped (.tuple [.tuple []]) = true := by decide +kernel
  rw [if_pos ⟨sh, sh⟩]
  rfl
theorem q2_run (x : D) (t : Store) : ∃ t', Q2 (eH x none none) t = some (.nx (eH x none none), t') := by
  obtain ⟨t1, _, e1⟩ := all_lowers_spec g0 t
  rw [if_pos (by rw [a0]; decide), a0] at e1
  have h1 : gb1 (g2 fNe (gCall 1 G_all_lowers (aCons (gTup (aCons (gc (.int 0)) (aCons (gTup aNil) aNil))) aNil)) (gTup (aCons (gTup aNil) aNil))) (eH x none none) t = some (.ok false t1) :=
    gb1_run ((g2_run ((gCall1_run (x := ordD 0 []) (st1 := t) rfl).trans e1) (y := .tup [.tup []]) rfl).trans fNe_all0)
  obtain ⟨t2, h2⟩ := put_run (E := eH x none none) (e1 := gTup (aCons (gc (.int 0)) (aCons (gTup aNil) aNil))) (e2 := gTup aNil) (e3 := gTup aNil) (r := []) (q := []) g0 LotOk.nil (by decide +kernel) (by decide +kernel) t1 rfl rfl (fun _ => rfl)
  exact ⟨t2, (sIf_f ((gOrT_f h1).trans h2)).trans rfl⟩
theorem q3_run (x : D) (t : Store) : Q3 (eH x none none) t = some (.nx (eH x (some (ordD 10 wide)) none), t) := sSet_run rfl
theorem q4_run (x : D) (t : Store) : ∃ t', Q4 (eH x (some (ordD 10 wide)) none) t = some (.nx (eH x (some (ordD 10 wide)) none), t') := by
  obtain ⟨t1, h1⟩ := many_run (E := eH x (some (ordD 10 wide)) none) (e := gv 4) g10 (by rw [l10]; omega) t rfl
  obtain ⟨t2, h2⟩ := put_run (E := eH x (some (ordD 10 wide)) none) (e1 := gv 4) (e2 := gTupRg (gc (.int 9))) (e3 := gTup (aCons (gc (.int 9)) aNil)) (r := [0, 1, 2, 3, 4, 5, 6, 7, 8]) (q := [9]) g10 ⟨by decide, by decide⟩ (by decide +kernel) (by decide +kernel) t1 rfl rfl (fun _ => rfl)
  exact ⟨t2, (sIf_f ((gOrT_f h1).trans h2)).trans rfl⟩
theorem noLow_row (t : Store) : NoLow 20 row20 t (lotD [1, 2, 3, 4]) := by
  have hl : LotOk 20 [1, 2, 3, 4] := ⟨by decide, by decide⟩
  refine ⟨nice_lot hl (by omega), .inl ⟨[1, 2, 3, 4], rfl, hl, fun h => ?_⟩⟩
  exact absurd ((low_iff hl).mpr h) (by decide +kernel)
theorem q5_run (x : D) (t : Store) : ∃ t', Q5 (eH x (some (ordD 10 wide)) none) t = some (.nx (eH x (some (ordD 10 wide)) none), t') := by
  obtain ⟨t1, h1⟩ := len_run (E := eH x (some (ordD 10 wide)) none) (e := gTup (aCons (gc (.int 9)) (aCons (gTup (aCons (gTup (aCons (gc (.int 0)) (aCons (gc (.int 1)) aNil))) (aCons (gTup (aCons (gc (.int 2)) (aCons (gc (.int 3)) aNil))) aNil))) aNil))) g9b l9b (by omega) t rfl
  obtain ⟨t2, _, e2⟩ := is_lower_bad g20 (noLow_row t1)
  have h2 : gb1 (g2 (fIs true) (gCall 2 G_is_lower (aCons (gv 2) (aCons (gTup (aCons (gc (.int 1)) (aCons (gc (.int 2)) (aCons (gc (.int 3)) (aCons (gc (.int 4)) aNil))))) aNil))) (gc (.bl false))) (eH x (some (ordD 10 wide)) none) t1 = some (.ok false t2) :=
    gb1_run ((g2_run (y := .bl false) (call2 (x := ordD 20 row20) (y := lotD [1, 2, 3, 4]) rfl rfl e2) rfl).trans rfl)
  exact ⟨t2, (sIf_f ((gOrT_f h1).trans h2)).trans rfl⟩
theorem q6_run (x : D) (t : Store) : ∃ t', Q6 (eH x (some (ordD 10 wide)) none) t = some (.nx (eH x (some (ordD 10 wide)) none), t') := by
  obtain ⟨t1, h1⟩ := put_run (E := eH x (some (ordD 10 wide)) none) (e1 := gTup (aCons (gc (.int 3)) (aCons (gTup (aCons (gTup (aCons (gc (.int 0)) (aCons (gc (.int 2)) aNil))) (aCons (gTup (aCons (gc (.int 1)) (aCons (gc (.int 2)) aNil))) aNil))) aNil))) (e2 := gTup (aCons (gc (.int 0)) aNil)) (e3 := gTup (aCons (gc (.int 1)) aNil)) (r := [0]) (q := [1]) g3 ⟨by decide, by decide⟩ (by decide +kernel) (by decide +kernel) t rfl rfl (fun _ => rfl)
  obtain ⟨t2, h2⟩ := take_run (E := eH x (some (ordD 10 wide)) none) (e1 := gTup (aCons (gc (.int 2)) (aCons (gTup (aCons (gTup (aCons (gc (.int 0)) (aCons (gc (.int 1)) aNil))) aNil)) aNil))) (e2 := gTup (aCons (gc (.int 0)) aNil)) (e3 := gTup (aCons (gc (.int 0)) aNil)) (r := [0]) (q := [0]) gg2 ⟨by decide, by decide⟩ (by decide +kernel) (by decide +kernel) t1 rfl rfl (fun _ => rfl)
  exact ⟨t2, (sIf_f ((gOrT_f h1).trans h2)).trans rfl⟩
theorem q7_run (x : D) (t : Store) : Q7 (eH x (some (ordD 10 wide)) none) t = some (.nx (eH x (some (ordD 10 wide)) (some rowsD)), t) := sSet_run rfl
theorem q8_run (x : D) (t : Store) : ∃ t', Q8 (eH x (some (ordD 10 wide)) (some rowsD)) t = some (.nx (eH x (some (ordD 10 wide)) (some rowsD)), t') := by
  obtain ⟨t1, h1⟩ := len_run (E := eH x (some (ordD 10 wide)) (some rowsD)) (e := gTup (aCons (gc (.int 12)) (aCons (gv 5) aNil))) g12 l12 (by omega) t rfl
  exact ⟨t1, (sIf_f h1).trans rfl⟩
theorem q9_run (x : D) (t : Store) : ∃ t', Q9 (eH x (some (ordD 10 wide)) (some rowsD)) t = some (.nx (eH x (some (ordD 10 wide)) (some rowsD)), t') := by
  obtain ⟨t1, h1⟩ := many_run (E := eH x (some (ordD 10 wide)) (some rowsD)) (e := gTup (aCons (gc (.int 12)) (aCons (g2 fAdd (gTup (aCons (gTup (aCons (gc (.int 0)) (aCons (gc (.int 1)) aNil))) (aCons (gTup (aCons (gc (.int 2)) (aCons (gc (.int 3)) aNil))) (aCons (gTup (aCons (gc (.int 4)) (aCons (gc (.int 5)) aNil))) (aCons (gTup (aCons (gc (.int 6)) (aCons (gc (.int 7)) aNil))) aNil))))) (gSl fSl (gv 5) (gPart (gc (.int 3))) gNoPart)) aNil))) g12b (by rw [l12b]; omega) t rfl
  exact ⟨t1, (sIf_f h1).trans rfl⟩
theorem law_spec (ns : List Int) (hn : ns.length ≤ 63) : ∃ st', G_law [.rol (ns.map .int)] [] = some (.ok (.bl true) st') := by
  have hh := nx_of (hand_nx (.rol (ns.map .int)))
  rw [hand_env] at hh
  generalize stOf (Q0 [some (.rol (ns.map .int)), none, none, none, none, none, none, none] []) = t0 at hh
  obtain ⟨t1, h1⟩ := q1_run (.rol (ns.map .int)) t0
  obtain ⟨t2, h2⟩ := q2_run (.rol (ns.map .int)) t1
  have h3 := q3_run (.rol (ns.map .int)) t2
  obtain ⟨t4, h4⟩ := q4_run (.rol (ns.map .int)) t2
  obtain ⟨t5, h5⟩ := q5_run (.rol (ns.map .int)) t4
  obtain ⟨t6, h6⟩ := q6_run (.rol (ns.map .int)) t5
  have h7 := q7_run (.rol (ns.map .int)) t6
  obtain ⟨t8, h8⟩ := q8_run (.rol (ns.map .int)) t6
  obtain ⟨t9, h9⟩ := q9_run (.rol (ns.map .int)) t8
  obtain ⟨s, c, l, t10, p10, d10, S, _⟩ := law_begin_spec ns hn t9
  have h10 : Q10 (eH (.rol (ns.map .int)) (some (ordD 10 wide)) (some rowsD)) t9 = some (.nx [some (.rol (ns.map .int)), some (ordD 9 []), some (ordD 20 row20), none, some (ordD 10 wide), some rowsD, some (.ref s), none], t10) := sSet_run ((gCall1_run (x := .rol (ns.map .int)) rfl).trans d10)
  obtain ⟨k, hk, hk7⟩ : ∃ k : Nat, gRng1 (aCons (MP.g2 fAdd (gc (.int 2)) (gFn fMin2 (aCons (gFn fLen (aCons (gv 0) aNil)) (aCons (gc (.int 4)) aNil)))) aNil) [some (.rol (ns.map .int)), some (ordD 9 []), some (ordD 20 row20), none, some (ordD 10 wide), some rowsD, some (.ref s), none] t10 = some (.ok (itR 0 k, (mpTo k).length + 1) t10) ∧ k ≤ 7 := by
    generalize hE : ([some (.rol (ns.map .int)), some (ordD 9 []), some (ordD 20 row20), none, some (ordD 10 wide), some rowsD, some (.ref s), none] : MP.Env) = E
    have e0 : gv 0 E t10 = some (.ok (.rol (ns.map .int)) t10) := by rw [← hE]; rfl
    have hl : gFn fLen (aCons (gv 0) aNil) E t10 = some (.ok (.int ns.length) t10) := by
      rw [gFn1_run e0]
      show some (Out.ok (D.int ((ns.map D.int).length : Nat)) t10) = _
      rw [List.length_map]
    have hm : gFn fMin2 (aCons (gFn fLen (aCons (gv 0) aNil)) (aCons (gc (.int 4)) aNil)) E t10 = some (.ok (.int (if (4 : Int) < ns.length then 4 else ns.length)) t10) := by
      unfold gFn
      rw [show aCons (fun env st => rb (aCons (gv 0) aNil env st) fLen) (aCons (gc (.int 4)) aNil) E t10 = some (.ok [.int ns.length, .int 4] t10) from aConsN hl (aCons1 rfl), rb_ok]
      rfl
    refine ⟨2 + min ns.length 4, ?_, by omega⟩
    rw [mpTo_length]
    refine gRng1_run (aCons1 ?_) (by omega)
    have := (g2_run (f := fAdd) (ga := gc (.int 2)) (x := .int 2) (env := E) (st := t10) rfl hm).trans fAdd_int
    rw [this]
    have e : (2 : Int) + (if (4 : Int) < (ns.length : Int) then (4 : Int) else (ns.length : Int)) = ((2 + min ns.length 4 : Nat) : Int) := by
      split <;> omega
    rw [e]
  obtain ⟨env', t11, r11, _⟩ := sFor_run (f := tgName 7) (body := sIf (gNotT (gb1 (gCall 1 G__law_good (aCons (gv 6) aNil)))) (sRet (gc (.bl false))) sNext)
    (fun i env t => env[6]? = some (some (D.ref s)) ∧ i ≤ k ∧ LSt s c l (0 + 140 * i) t) hk ⟨rfl, Nat.zero_le _, S⟩ (fun i env t _ => itR_mpTo) (by
      rintro i d env t hd ⟨he, hi, St⟩
      rw [mpTo_at] at hd
      have hik : i < k := by
        by_cases q : i < k
        · exact q
        · rw [if_neg q] at hd; cases hd
      obtain ⟨t', g1, S1⟩ := law_good_spec St (by omega)
      have he2 : (env.set 7 (some d))[6]? = some (some (D.ref s)) := by rw [List.getElem?_set_ne (by decide)]; exact he
      have e2 : gv 6 (env.set 7 (some d)) t = some (.ok (.ref s) t) := by unfold gv; rw [he2]
      have q := gNotT_run (gb1_run ((gCall1_run e2).trans g1))
      exact ⟨env.set 7 (some d), env.set 7 (some d), t', rfl, .inl ((sIf_f q).trans rfl), he2, hik, S1.le (by omega)⟩)
  refine ⟨t11, gBody_rt (env := [some (.rol (ns.map .int)), none, none, none, none, none, none, none]) ?_⟩
  rw [law_parts]
  refine (sSeq_nx hh).trans ?_
  unfold restS
  exact (sSeq_nx h1).trans ((sSeq_nx h2).trans ((sSeq_nx h3).trans ((sSeq_nx h4).trans ((sSeq_nx h5).trans ((sSeq_nx h6).trans ((sSeq_nx h7).trans ((sSeq_nx h8).trans ((sSeq_nx h9).trans ((sSeq_nx h10).trans ((sSeq_nx r11).trans rfl))))))))))
end Mk01
set_option Elab.async false
set_option linter.all false
set_option maxRecDepth 100000
set_option maxHeartbeats 0
namespace Mk01
open PySem PySem.Spec PyProof.Rows L2 MP
abbrev hk : PySem.W.Hook := askT.hook 4
def ob (s : PySem.W.SharedT) : He.AlD := askT.obsG 4 (HandSHeadRun.getT s)
theorem ob_eq (s : PySem.W.SharedT) : ob s = hk.obs s.abs := AskT.obs_eq (HandSHeadRun.getT_eq s)
def loose1 : List Str := ["__name__", "TurnError", "BadOrder", "BadItem", "BadLower", "TooMany", "mask_of", "lot_of", "has_bit", "is_within", "masks_ahead", "is_lower_mask", "can_be_put", "can_be_taken", "lowers_of", "_add_lowers", "MOST_THINGS", "MOST_DEEP", "ALIEN", "plain", "_copied", "is_number", "is_tuple_of", "is_ascending", "is_lot"]
def loose2 : List Str := ["MOST_ITEMS", "wanted_order", "_are_pairs", "wanted_item", "wanted_lower", "is_plain_lower", "MOST_LOWERS", "is_lower", "can_put", "can_take", "put", "taken", "meet", "join", "all_lowers", "_law_mixed", "_law_begin", "_law_draw", "_law_of", "_law_order", "_law_aheads", "_law_lowers", "_law_lot", "_law_is_number", "_law_is_lot"]
def loose3 : List Str := ["_law_is_lower", "_law_heard", "_law_put_due", "_law_moves_good", "_law_bent", "_law_good"]
abbrev loose : List Str := loose1 ++ loose2 ++ loose3
theorem run (w : World) : HandSHeadRun.RunEq (PySem.W.OpenLaw.row PySem.Challenge.rw_turnsall_k01_whole_lowers) (PySem.W.view (PySem.W.OpenLaw.row PySem.Challenge.rw_turnsall_k01_whole_lowers).prog [61]) hk ob 4000 loose w := by
  intro os
  kernel_rfl
end Mk01
set_option Elab.async false
set_option linter.all false
set_option maxRecDepth 100000
set_option maxHeartbeats 0
open PySem PySem.W PySem.Calls PyProof.Rows
theorem law_of_mirror_Mk01 (hlaw : ∀ ns : List Int, ns.length ≤ 63 → ∃ st', Mk01.G_law [.rol (ns.map .int)] [] = some (.ok (.bl true) st')) : PySem.Challenge.rw_turnsall_k01_whole_lowers.Holds := by
  w_on; o_law
  refine HandSHeadRun.head_any (r := OpenLaw.row PySem.Challenge.rw_turnsall_k01_whole_lowers) (q := view (OpenLaw.row PySem.Challenge.rw_turnsall_k01_whole_lowers).prog [61]) (H := Mk01.hk) (ob := Mk01.ob) (M := 4000) (loose := Mk01.loose) (d := HandSHeadRun.topDef (OpenLaw.row PySem.Challenge.rw_turnsall_k01_whole_lowers).prog 61) (kwd := []) Mk01.ob_eq
    (by kernel_rfl) (fun s => by kernel_rfl) Mk01.run (by kernel_rfl) (by kernel_rfl) (by kernel_rfl) (by rfl) (by first | assumption | decide +kernel) (by decide +kernel) ⟨rfl, rfl, rfl, rfl, rfl, by decide +kernel⟩ ?hw ?hc
  case hw => w_witness2
  case hc =>
    refine MP.walk_T (l := PySem.Challenge.rw_turnsall_k01_whole_lowers) (n := 63) (k := 111) (x := "law") (gf := Mk01.G_law) (ak := Mk01.askT) rfl (by decide) (by kernel_rfl) ⟨rfl, by decide, by decide⟩ ?F hlaw
    intro w mg fa h Y G hmg0
    obtain ⟨K, KX, c⟩ := Y
    have hmg : mg ("law" : PySem.Str) = some (.ref fa) := by
      have e : (HandSHeadRun.topDef (OpenLaw.row PySem.Challenge.rw_turnsall_k01_whole_lowers).prog 61).name = ("law" : PySem.Str) := by kernel_rfl
      rw [← e]
      exact hmg0
    exact ⟨K, MP.ctOf K Mk01.excs, KX, c, hmg, fun base B _ => Mk01.D_law (MP.tx_mk KX G c.says) B⟩
theorem PySem.Challenge.cw_turnsall_k01_whole_lowers_holds : PySem.Challenge.rw_turnsall_k01_whole_lowers.Holds :=
  law_of_mirror_Mk01 Mk01.law_spec
