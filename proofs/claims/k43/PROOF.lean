import PyProof.Rows.All
import Wide.All
import OpenK.AllK
import Wide.FinOn
import HandS.ForMost
import HandS.IsInst
import KE.KDictKeyed
import KE.KeyNested
import HandS.ForExc
import HandS.TupMul
import HandS.Style
import PyProof.Rows.TupAdd
import HandS.TupAny
import HandS.Codes
import HandS.Dict
import HandS.SortInts
import HandS.Small
import HandS.TryOnly
import HandS.ExcOwn
import HandS.More
import PyProof.ExcBaseAll.ValueError
import PyProof.P3In
import KE.DataFind
import KE.KRevSl
import HandS.Conv
import HandS.ExcIs
import HandS.Deep
import PyProof.P3Eq
import HandS.Call
import HandS.SortKw
import HandS.Iter
import KE.DataMinMax
import KE.GoesMore
import KE.GoesEnum
import HandS.DictComp
import HandS.Zip
import HandS.Text
import HandS.Defaults
import PyProof.ReprBulk
import PyProof.Rows.StrDigitsNeg
import PyProof.Rows.StrIntSpec
import HandS.Wide
import PySem.Challenge.RW_tacet_k43_grams_and_plain_automata
set_option Elab.async false
set_option linter.all false
set_option maxRecDepth 100000
/-! Tb: states as data. C a value as data or as an owned object, Sto the owned objects, We what an expression does to them. -/
namespace T
open PySem PySem.Spec PyProof.Rows L2

inductive C where
  | d (d : PyData)
  | o (k : Nat)
inductive Ob where
  | gone
  | lst (cs : List C)
  | dct (kvs : List (Key × C))
  | lck (kvs : List (Key × C))
  | ins (cl dx : Addr) (fs : List (Str × C))
  | dkt (kvs : List (NestedKey × C))
  | tup (cs : List C)
def Ob.kids : Ob → List C
  | .lst cs => cs
  | .dct kvs => kvs.map (·.2)
  | .lck kvs => kvs.map (·.2)
  | .ins _ _ fs => fs.map (·.2)
  | .dkt kvs => kvs.map (·.2)
  | .tup cs => cs
  | .gone => []
abbrev Sto := List Ob
abbrev Gam := List (Option C)

def Ob.isL : Ob → Bool
  | .lck _ => true
  | _ => false
def CR (K : PySem.W.Frag) (F : Hp) (as : List Addr) : C → V → Prop
  | .d x, v => Dp K F v x
  | .o k, v => ∃ a, as[k]? = some a ∧ v = .ref a
def FsR {α : Type} (K : PySem.W.Frag) (F : Hp) (as : List Addr) (p : α × C) (q : α × V) : Prop := p.1 = q.1 ∧ CR K F as p.2 q.2
/-- hash of a key without texts -/
def textless : NestedKey → Bool
  | .none => true
  | .num _ => true
  | .text _ => false
  | .tup ks => textlessAll ks
where textlessAll : List NestedKey → Bool
  | [] => true
  | k :: ks => textless k && textlessAll ks
/-- a key as it is used here -/
structure KeyOk (k : NestedKey) : Prop where
  t : textless k = true
  d : k.depth ≤ 8
/-- a dict of such keys, by its one object -/
def dktP (w0 : NestedKey → Int) (a : Addr) (xs : List (NestedKey × Addr × V)) : Heap → Prop := fun h => (a == sysModules) = false ∧ ∃ ys : List (NestedKey × Addr × Value), Paired (fun (p : NestedKey × Addr × V) (q : NestedKey × Addr × Value) => p.1 = q.1 ∧ p.2.1 = q.2.1 ∧ RelV p.2.2 q.2.2) xs ys ∧ xs.length ≤ sizeLine ∧
  ∃ o es ep, h.get? a = some o ∧ o.ExactDict ∧ o.data = .dict es ep ∧ es.toList = ys.map (fun x => ⟨w0 x.1, .ref x.2.1, x.2.2⟩) ∧ (ys.map (·.1)).Nodup
mutual
def hash0 : NestedKey → Int
  | .none => reduceHash 0xFCA86420
  | .num i => hashInt i
  | .text _ => 0
  | .tup ks => reduceHash (Builtin.Tuple.tupleHashOf (hashes0 ks))
def hashes0 : List NestedKey → List Int
  | [] => []
  | k :: ks => hash0 k :: hashes0 ks
end
def dktO (a : Addr) (xs : List (NestedKey × Addr × V)) : HO := .ext (dktP hash0 a xs)
def KxR (K : PySem.W.Frag) (F : Hp) (as : List Addr) (p : NestedKey × C) (q : NestedKey × Addr × V) : Prop := p.1 = q.1 ∧ KeyOk p.1 ∧ Dp K F (.ref q.2.1) p.1.data ∧ CR K F as p.2 q.2.2
/-- the object u as it lies in a heap -/
def OR (K : PySem.W.Frag) (F : Hp) (as : List Addr) (ad : Addr) : Ob → HO → Prop
  | .gone, _ => False
  | .lst cs, o => ∃ vs, o = .lst vs ∧ Paired (CR K F as) cs vs
  | .dct kvs, o => ∃ ws, o = .dK ws ∧ Paired (FsR K F as) kvs ws
  | .lck kvs, o => ∃ x ws, o = .frz x (.dK ws) ∧ Paired (FsR K F as) kvs ws
  | .ins cl dx fs, o => ∃ gs, o = .ins cl dx gs ∧ Paired (FsR K F as) fs gs
  | .dkt kvs, o => ∃ xs, o = dktO ad xs ∧ Paired (KxR K F as) kvs xs
  | .tup cs, o => ∃ vs, o = .tup vs ∧ Paired (CR K F as) cs vs
def ObR (K : PySem.W.Frag) (F : Hp) (as : List Addr) (H : Hp) (a : Addr) (u : Ob) : Prop := u = .gone ∨ ∃ o, H a = some o ∧ OR K F as a u o ∧ F a = if u.isL then some o else none
structure Sat (K : PySem.W.Frag) (F H : Hp) (as : List Addr) (O : Sto) : Prop where
  ex : Same F H
  nd : as.Nodup
  len : as.length = O.length
  al : ∀ a ∈ as, H a ≠ none
  ob : ∀ (k : Nat) (a : Addr) (u : Ob), as[k]? = some a → O[k]? = some u → ObR K F as H a u
def SlR (K : PySem.W.Frag) (F : Hp) (as : List Addr) (Γ : Gam) (σ : L2.St) : Prop := Paired (fun g s => ∀ c, g = some c → ∃ v, s = some v ∧ CR K F as c v) Γ σ
structure Gr (F : Hp) (as : List Addr) (F' : Hp) (as' : List Addr) : Prop where
  fr : Same F F'
  px : as <+: as'

section
variable {K : PySem.W.Frag} {F F' F'' H H' : Hp} {as as' as'' : List Addr} {O O' : Sto}
theorem Gr.refl : Gr F as F as := ⟨Same.refl _, List.prefix_refl _⟩
theorem Gr.trans (a : Gr F as F' as') (b : Gr F' as' F'' as'') : Gr F as F'' as'' := ⟨a.fr.trans b.fr, a.px.trans b.px⟩
theorem same_t (e : Same F F') {a : Addr} {xs : List V} (h : SqT K F a xs) : SqT K F' a xs := by
  rcases h with (h | ⟨o, h⟩) | h
  · exact .inl (.inl (e _ _ h))
  · exact .inl (.inr ⟨o, e _ _ h⟩)
  · exact .inr h
mutual
theorem dp_same (e : Same F F') : ∀ (d : PyData) (v : V), Dp K F v d → Dp K F' v d
  | .none, _, h => by cases h; exact .non
  | .bool b, _, h => by cases h; exact .bl b
  | .int i, _, h => by cases h; exact .int i
  | .str x, _, h => by cases h; exact .str x
  | .list ds, _, h => by
    cases h with
    | lst hs ha => exact .lst (e.seq hs) (dp_sameAll e ds _ ha)
  | .tuple ds, _, h => by
    cases h with
    | tup hs ha => exact .tup (same_t e hs) (dp_sameAll e ds _ ha)
  | .dict _, _, h => by cases h
theorem dp_sameAll (e : Same F F') : ∀ (ds : List PyData) (vs : List V), DpAll K F vs ds → DpAll K F' vs ds
  | [], _, h => by cases h; exact .nil
  | d :: ds, _, h => by
    cases h with
    | cons h1 h2 => exact .cons (dp_same e d _ h1) (dp_sameAll e ds _ h2)
end
theorem px_get {α : Type} {l l' : List α} {k : Nat} {a : α} (p : l <+: l') (h : l[k]? = some a) : l'[k]? = some a := by
  obtain ⟨r, rfl⟩ := p
  rw [List.getElem?_append_left (List.getElem?_eq_some_iff.mp h).1]
  exact h
theorem CR.mono (g : Gr F as F' as') : ∀ {c : C} {v : V}, CR K F as c v → CR K F' as' c v
  | .d x, v, h => dp_same g.fr x v h
  | .o k, v, ⟨a, h, e⟩ => ⟨a, px_get g.px h, e⟩
theorem pr_mono (g : Gr F as F' as') {cs : List C} {vs : List V} (h : Paired (CR K F as) cs vs) : Paired (CR K F' as') cs vs := Paired.mapP h fun _ _ q => q.mono g
theorem SlR.mono (g : Gr F as F' as') {Γ : Gam} {σ : L2.St} (h : SlR K F as Γ σ) : SlR K F' as' Γ σ := Paired.mapP h fun _ _ q c e => let ⟨v, a, b⟩ := q c e; ⟨v, a, b.mono g⟩
theorem SlR.get : ∀ {Γ : Gam} {σ : L2.St} {i : Nat} {c : C}, SlR K F as Γ σ → Γ[i]? = some (some c) → ∃ v, σ[i]? = some (some v) ∧ CR K F as c v
  | _, _, 0, c, .cons r _, e => by
    obtain ⟨v, h1, h2⟩ := r c (by simpa using e)
    exact ⟨v, by simp [h1], h2⟩
  | _, _, i + 1, c, .cons _ t, e => by
    obtain ⟨v, h1, h2⟩ := SlR.get (i := i) (c := c) t (by simpa using e)
    exact ⟨v, by simpa using h1, h2⟩
  | _, _, _, _, .nil, e => by simp at e
theorem SlR.set {c : C} {v : V} (r : CR K F as c v) : ∀ {Γ : Gam} {σ : L2.St} (i : Nat), SlR K F as Γ σ → SlR K F as (Γ.set i (some c)) (σ.set i (some v))
  | _, _, _, .nil => .nil
  | _, _, 0, .cons _ t => .cons (fun c' e => ⟨v, rfl, by cases e; exact r⟩) t
  | _, _, i + 1, .cons q t => .cons q (SlR.set r i t)
theorem SlR.drop : ∀ {Γ : Gam} {σ : L2.St} (i : Nat) (z : Option V), SlR K F as Γ σ → SlR K F as (Γ.set i none) (σ.set i z)
  | _, _, _, _, .nil => .nil
  | _, _, 0, _, .cons _ t => .cons (fun c' e => nomatch e) t
  | _, _, i + 1, z, .cons q t => .cons q (SlR.drop i z t)
/-- less is known of the slots -/
theorem SlR.weak : ∀ {Γ Γ' : Gam} {σ : L2.St}, SlR K F as Γ σ → Paired (fun g g' => ∀ c, g' = some c → g = some c) Γ Γ' → SlR K F as Γ' σ
  | _, _, _, .nil, .nil => .nil
  | _, _, _, .cons q t, .cons w u => .cons (fun c e => q c (w c e)) (SlR.weak t u)

theorem fs_mono {α : Type} (g : Gr F as F' as') {fs : List (α × C)} {gs : List (α × V)} (h : Paired (FsR K F as) fs gs) : Paired (FsR K F' as') fs gs := Paired.mapP h fun _ _ q => ⟨q.1, q.2.mono g⟩
theorem kx_mono (g : Gr F as F' as') {fs : List (NestedKey × C)} {gs : List (NestedKey × Addr × V)} (h : Paired (KxR K F as) fs gs) : Paired (KxR K F' as') fs gs := Paired.mapP h fun _ _ q => ⟨q.1, q.2.1, dp_same g.fr _ _ q.2.2.1, q.2.2.2.mono g⟩
theorem OR.mono (g : Gr F as F' as') {ad : Addr} : ∀ {u : Ob} {o : HO}, OR K F as ad u o → OR K F' as' ad u o
  | .gone, _, h => h
  | .lst _, _, ⟨vs, e, h⟩ => ⟨vs, e, pr_mono g h⟩
  | .dct _, _, ⟨ws, e, h⟩ => ⟨ws, e, fs_mono g h⟩
  | .lck _, _, ⟨x, ws, e, h⟩ => ⟨x, ws, e, fs_mono g h⟩
  | .ins _ _ _, _, ⟨gs, e, h⟩ => ⟨gs, e, fs_mono g h⟩
  | .dkt _, _, ⟨xs, e, h⟩ => ⟨xs, e, kx_mono g h⟩
  | .tup _, _, ⟨vs, e, h⟩ => ⟨vs, e, pr_mono g h⟩
theorem ObR.mono (g : Gr F as F' as') {a : Addr} {u : Ob} (hF : F' a = F a) (h : ObR K F as H a u) : ObR K F' as' H a u := h.imp id fun ⟨o, e, r, q⟩ => ⟨o, e, r.mono g, hF.trans q⟩
/-- a new object that is never written -/
theorem Sat.froze {p : Addr} {o : HO} (S : Sat K F H as O) (h : H p = none) : Sat K (upd F p o) (upd H p o) as O ∧ Gr F as (upd F p o) as := by
  have hF : F p = none := S.ex.free h
  have g : Gr F as (upd F p o) as := ⟨fun b u e => by rw [upd_ne (ne_of_none e hF)]; exact e, List.prefix_refl _⟩
  refine ⟨⟨fun b u e => ?_, S.nd, S.len, fun a ha => ?_, fun k a u ha hu => ?_⟩, g⟩
  · by_cases hb : b = p
    · subst hb; rw [upd_same] at e ⊢; exact e
    · rw [upd_ne hb] at e ⊢; exact S.ex b u e
  · have n := S.al a ha
    have hap : a ≠ p := fun z => n (z ▸ h)
    rw [upd_ne hap]; exact n
  · have n := S.al a (List.mem_of_getElem? ha)
    have hap : a ≠ p := fun z => n (z ▸ h)
    have q := (S.ob k a u ha hu).mono g (by rw [upd_ne hap])
    exact q.imp id fun ⟨o', e, r, q1⟩ => ⟨o', by rw [upd_ne hap]; exact e, r, q1⟩
/-- a new owned object -/
theorem Sat.ownG {p : Addr} {u0 : Ob} {o0 : HO} (S : Sat K F H as O) (h : H p = none) (r : OR K F as p u0 o0) (hL : u0.isL = false := by rfl) : Sat K F (upd H p o0) (as ++ [p]) (O ++ [u0]) ∧ Gr F as F (as ++ [p]) := by
  have hF : F p = none := S.ex.free h
  have g : Gr F as F (as ++ [p]) := ⟨Same.refl _, List.prefix_append _ _⟩
  have np : p ∉ as := fun z => S.al p z h
  refine ⟨⟨fun b u e => ?_, ?_, by simp [S.len], fun a ha => ?_, fun k a u ha hu => ?_⟩, g⟩
  · rw [upd_ne (ne_of_none e hF)]; exact S.ex b u e
  · exact List.nodup_append.mpr ⟨S.nd, by simp, fun a ha b hb => by
      have : b = p := by simpa using hb
      subst this
      exact fun z => np (z ▸ ha)⟩
  · by_cases hap : a = p
    · subst hap; rw [upd_same]; simp
    · rw [upd_ne hap]
      rcases List.mem_append.mp ha with ha | ha
      · exact S.al a ha
      · exact absurd (by simpa using ha) hap
  · by_cases hk : k < as.length
    · rw [List.getElem?_append_left hk] at ha
      rw [List.getElem?_append_left (by rw [← S.len]; exact hk)] at hu
      have hap : a ≠ p := fun z => np (z ▸ List.mem_of_getElem? ha)
      have q := (S.ob k a u ha hu).mono g rfl
      exact q.imp id fun ⟨o', e, r, q1⟩ => ⟨o', by rw [upd_ne hap]; exact e, r, q1⟩
    · have hk' : k = as.length := by
        have := (List.getElem?_eq_some_iff.mp ha).1
        simp at this
        omega
      subst hk'
      simp at ha
      subst ha
      rw [S.len] at hu
      simp at hu
      subst hu
      exact .inr ⟨o0, upd_same, r.mono g, by rw [hL]; exact hF⟩
/-- a new owned list -/
theorem Sat.own {p : Addr} {cs : List C} {vs : List V} (S : Sat K F H as O) (h : H p = none) (r : Paired (CR K F as) cs vs) : Sat K F (upd H p (.lst vs)) (as ++ [p]) (O ++ [.lst cs]) ∧ Gr F as F (as ++ [p]) := S.ownG h (u0 := .lst cs) ⟨vs, rfl, r⟩
/-- an owned object written -/
theorem Sat.putG {k : Nat} {a : Addr} {u1 : Ob} {o1 : HO} (S : Sat K F H as O) (ha : as[k]? = some a) (hF : F a = none) (r : OR K F as a u1 o1) (hL : u1.isL = false := by rfl) : Sat K F (upd H a o1) as (O.set k u1) := by
  refine ⟨fun b u e => ?_, S.nd, by simp [S.len], fun b hb => ?_, fun j b u hb hu => ?_⟩
  · rw [upd_ne (ne_of_none e hF)]; exact S.ex b u e
  · by_cases hba : b = a
    · subst hba; rw [upd_same]; simp
    · rw [upd_ne hba]; exact S.al b hb
  · by_cases hj : j = k
    · subst hj
      have : b = a := Option.some.inj (hb.symm.trans ha)
      subst this
      have hlt : j < O.length := by rw [← S.len]; exact (List.getElem?_eq_some_iff.mp ha).1
      rw [List.getElem?_set_self hlt] at hu
      cases hu
      exact .inr ⟨o1, upd_same, r, by rw [hL]; exact hF⟩
    · rw [List.getElem?_set_ne (fun z => hj z.symm)] at hu
      have hba : b ≠ a := fun z => hj (nd_ix S.nd hb (z ▸ ha))
      exact (S.ob j b u hb hu).imp id fun ⟨o', e, r, q1⟩ => ⟨o', by rw [upd_ne hba]; exact e, r, q1⟩
/-- an owned list written -/
theorem Sat.put {k : Nat} {a : Addr} {u0 : Ob} {cs : List C} {vs : List V} (S : Sat K F H as O) (ha : as[k]? = some a) (hF : F a = none) (r : Paired (CR K F as) cs vs) : Sat K F (upd H a (.lst vs)) as (O.set k (.lst cs)) := S.putG ha hF (u1 := .lst cs) ⟨vs, rfl, r⟩
theorem all_of : ∀ {ds : List PyData} {vs : List V}, Paired (CR K F as) (ds.map C.d) vs → DpAll K F vs ds
  | [], _, .nil => .nil
  | _ :: _, _, .cons r t => .cons r (all_of t)
theorem of_all : ∀ {ds : List PyData} {vs : List V}, DpAll K F vs ds → Paired (CR K F as) (ds.map C.d) vs
  | _, _, .nil => .nil
  | _, _, .cons r t => .cons r (of_all t)
theorem Sat.obG {k : Nat} {a : Addr} {u : Ob} (S : Sat K F H as O) (ha : as[k]? = some a) (hu : O[k]? = some u) (hn : u ≠ .gone) (hL : u.isL = false := by rfl) : F a = none ∧ ∃ o, H a = some o ∧ OR K F as a u o := by
  obtain ⟨o, e, r, q⟩ := (S.ob k a u ha hu).resolve_left hn
  rw [hL] at q
  exact ⟨q, o, e, r⟩
/-- an owned list is never written again -/
theorem Sat.freeze {k : Nat} {a : Addr} {ds : List PyData} (S : Sat K F H as O) (ha : as[k]? = some a) (hu : O[k]? = some (.lst (ds.map C.d))) :
    ∃ F', Gr F as F' as ∧ Sat K F' H as (O.set k .gone) ∧ Dp K F' (.ref a) (.list ds) := by
  obtain ⟨hF, _, hv, vs, rfl, r⟩ := S.obG ha hu (by intro z; cases z)
  have g : Gr F as (upd F a (.lst vs)) as := ⟨fun b u e => by rw [upd_ne (ne_of_none e hF)]; exact e, List.prefix_refl _⟩
  refine ⟨upd F a (.lst vs), g, ⟨fun b u e => ?_, S.nd, by simp [S.len], S.al, fun j b u hb hu' => ?_⟩, .lst (.inl (.inl upd_same)) (dp_sameAll g.fr _ _ (all_of r))⟩
  · by_cases hb : b = a
    · subst hb; rw [upd_same] at e; rw [hv]; exact e
    · rw [upd_ne hb] at e; exact S.ex b u e
  · by_cases hj : j = k
    · subst hj
      have hlt : j < O.length := (List.getElem?_eq_some_iff.mp hu).1
      rw [List.getElem?_set_self hlt] at hu'
      cases hu'
      exact .inl rfl
    · rw [List.getElem?_set_ne (fun z => hj z.symm)] at hu'
      have hba : b ≠ a := fun z => hj (nd_ix S.nd hb (z ▸ ha))
      exact (S.ob j b u hb hu').mono g (by rw [upd_ne hba])
/-- F without a, where a walked dict lies -/
def unF (F : Hp) (a : Addr) : Hp := fun b => if b = a then none else F b
theorem unF_ne {a b : Addr} (h : b ≠ a) : unF F a b = F b := if_neg h
theorem unF_at {a : Addr} : unF F a a = none := if_pos rfl
theorem sqL_unF {a b : Addr} {xs : List V} {x : Obj} {ws : List (Key × V)} (hf : F a = some (.frz x (.dK ws))) (h : SqL K F b xs) : SqL K (unF F a) b xs := by
  by_cases e : b = a
  · subst e
    rcases h with (h | ⟨y, h⟩) | h
    · rw [hf] at h; cases h
    · rw [hf] at h; cases h
    · exact .inr h
  · rcases h with (h | ⟨y, h⟩) | h
    · exact .inl (.inl (by rw [unF_ne e]; exact h))
    · exact .inl (.inr ⟨y, by rw [unF_ne e]; exact h⟩)
    · exact .inr h
theorem sqT_unF {a b : Addr} {xs : List V} {x : Obj} {ws : List (Key × V)} (hf : F a = some (.frz x (.dK ws))) (h : SqT K F b xs) : SqT K (unF F a) b xs := by
  by_cases e : b = a
  · subst e
    rcases h with (h | ⟨y, h⟩) | h
    · rw [hf] at h; cases h
    · rw [hf] at h; cases h
    · exact .inr h
  · rcases h with (h | ⟨y, h⟩) | h
    · exact .inl (.inl (by rw [unF_ne e]; exact h))
    · exact .inl (.inr ⟨y, by rw [unF_ne e]; exact h⟩)
    · exact .inr h
mutual
theorem dp_unF {a : Addr} {x : Obj} {ws : List (Key × V)} (hf : F a = some (.frz x (.dK ws))) : ∀ (d : PyData) (v : V), Dp K F v d → Dp K (unF F a) v d
  | .none, _, h => by cases h; exact .non
  | .bool b, _, h => by cases h; exact .bl b
  | .int i, _, h => by cases h; exact .int i
  | .str x, _, h => by cases h; exact .str x
  | .list ds, _, h => by
    cases h with
    | lst hs ha => exact .lst (sqL_unF hf hs) (dp_unFAll hf ds _ ha)
  | .tuple ds, _, h => by
    cases h with
    | tup hs ha => exact .tup (sqT_unF hf hs) (dp_unFAll hf ds _ ha)
  | .dict _, _, h => by cases h
theorem dp_unFAll {a : Addr} {x : Obj} {ws : List (Key × V)} (hf : F a = some (.frz x (.dK ws))) : ∀ (ds : List PyData) (vs : List V), DpAll K F vs ds → DpAll K (unF F a) vs ds
  | [], _, h => by cases h; exact .nil
  | d :: ds, _, h => by
    cases h with
    | cons h1 h2 => exact .cons (dp_unF hf d _ h1) (dp_unFAll hf ds _ h2)
end
theorem cr_unF {a : Addr} {x : Obj} {ws : List (Key × V)} (hf : F a = some (.frz x (.dK ws))) : ∀ {c : C} {v : V}, CR K F as c v → CR K (unF F a) as c v
  | .d y, v, h => dp_unF hf y v h
  | .o k, v, h => h
theorem or_unF {a : Addr} {x : Obj} {ws : List (Key × V)} (hf : F a = some (.frz x (.dK ws))) : ∀ {ad : Addr} {u : Ob} {o : HO}, OR K F as ad u o → OR K (unF F a) as ad u o
  | _, .gone, _, h => h
  | _, .lst _, _, ⟨vs, e, h⟩ => ⟨vs, e, Paired.mapP h fun _ _ q => cr_unF hf q⟩
  | _, .dct _, _, ⟨ws, e, h⟩ => ⟨ws, e, Paired.mapP h fun _ _ q => ⟨q.1, cr_unF hf q.2⟩⟩
  | _, .lck _, _, ⟨x, ws, e, h⟩ => ⟨x, ws, e, Paired.mapP h fun _ _ q => ⟨q.1, cr_unF hf q.2⟩⟩
  | _, .ins _ _ _, _, ⟨gs, e, h⟩ => ⟨gs, e, Paired.mapP h fun _ _ q => ⟨q.1, cr_unF hf q.2⟩⟩
  | _, .dkt _, _, ⟨xs, e, h⟩ => ⟨xs, e, Paired.mapP h fun _ _ q => ⟨q.1, q.2.1, dp_unF hf _ _ q.2.2.1, cr_unF hf q.2.2.2⟩⟩
  | _, .tup _, _, ⟨vs, e, h⟩ => ⟨vs, e, Paired.mapP h fun _ _ q => cr_unF hf q⟩
theorem slr_unF {a : Addr} {x : Obj} {ws : List (Key × V)} (hf : F a = some (.frz x (.dK ws))) {Γ : Gam} {σ : L2.St} (h : SlR K F as Γ σ) : SlR K (unF F a) as Γ σ := Paired.mapP h fun _ _ q c e => let ⟨v, h1, h2⟩ := q c e; ⟨v, h1, cr_unF hf h2⟩
/-- the dict at k is walked now -/
theorem Sat.lock {k : Nat} {a : Addr} {kvs : List (Key × C)} (S : Sat K F H as O) (ha : as[k]? = some a) (hu : O[k]? = some (.dct kvs)) :
    ∃ ws, H a = some (.dK ws) ∧ ∀ x, Gr F as (upd F a (.frz x (.dK ws))) as ∧ Sat K (upd F a (.frz x (.dK ws))) (upd H a (.frz x (.dK ws))) as (O.set k (.lck kvs)) := by
  obtain ⟨hF, _, hv, ws, rfl, r⟩ := S.obG ha hu (by intro z; cases z)
  refine ⟨ws, hv, fun x => ?_⟩
  have g : Gr F as (upd F a (.frz x (.dK ws))) as := ⟨fun b u e => by rw [upd_ne (ne_of_none e hF)]; exact e, List.prefix_refl _⟩
  refine ⟨g, fun b u e => ?_, S.nd, by simp [S.len], fun b hb => ?_, fun j b u hb hu' => ?_⟩
  · by_cases hb : b = a
    · subst hb; rw [upd_same] at e ⊢; exact e
    · rw [upd_ne hb] at e ⊢; exact S.ex b u e
  · by_cases hba : b = a
    · subst hba; rw [upd_same]; simp
    · rw [upd_ne hba]; exact S.al b hb
  · by_cases hj : j = k
    · subst hj
      have hlt : j < O.length := (List.getElem?_eq_some_iff.mp hu).1
      rw [List.getElem?_set_self hlt] at hu'
      cases hu'
      cases (Option.some.inj (hb.symm.trans ha))
      exact .inr ⟨_, upd_same, ⟨x, ws, rfl, fs_mono g r⟩, upd_same⟩
    · rw [List.getElem?_set_ne (fun z => hj z.symm)] at hu'
      have hba : b ≠ a := fun z => hj (nd_ix S.nd hb (z ▸ ha))
      exact ((S.ob j b u hb hu').mono g (by rw [upd_ne hba])).imp id fun ⟨o', e, r, q⟩ => ⟨o', by rw [upd_ne hba]; exact e, r, q⟩
theorem Sat.lck {k : Nat} {a : Addr} {kvs : List (Key × C)} (S : Sat K F H as O) (ha : as[k]? = some a) (hu : O[k]? = some (.lck kvs)) : ∃ x ws, F a = some (.frz x (.dK ws)) ∧ H a = some (.frz x (.dK ws)) ∧ Paired (FsR K F as) kvs ws := by
  obtain ⟨o, e, ⟨x, ws, rfl, r⟩, q⟩ := (S.ob k a _ ha hu).resolve_left (by intro z; cases z)
  exact ⟨x, ws, q, e, r⟩
/-- the walk is over -/
theorem Sat.unlock {k : Nat} {a : Addr} {kvs : List (Key × C)} {x : Obj} {ws : List (Key × V)} (S : Sat K F H as O) (ha : as[k]? = some a) (hu : O[k]? = some (.lck kvs)) (hf : F a = some (.frz x (.dK ws))) : Sat K (unF F a) (upd H a (.dK ws)) as (O.set k (.dct kvs)) := by
  obtain ⟨o, e, ⟨x', ws', rfl, r⟩, q⟩ := (S.ob k a _ ha hu).resolve_left (by intro z; cases z)
  have q : F a = some (.frz x' (.dK ws')) := q
  rw [hf] at q
  cases q
  refine ⟨fun b u e => ?_, S.nd, by simp [S.len], fun b hb => ?_, fun j b u hb hu' => ?_⟩
  · have hb : b ≠ a := fun z => by subst z; rw [unF_at] at e; cases e
    rw [unF_ne hb] at e
    rw [upd_ne hb]
    exact S.ex b u e
  · by_cases hba : b = a
    · subst hba; rw [upd_same]; simp
    · rw [upd_ne hba]; exact S.al b hb
  · by_cases hj : j = k
    · subst hj
      have hlt : j < O.length := (List.getElem?_eq_some_iff.mp hu).1
      rw [List.getElem?_set_self hlt] at hu'
      cases hu'
      cases (Option.some.inj (hb.symm.trans ha))
      exact .inr ⟨_, upd_same, ⟨ws, rfl, Paired.mapP r fun _ _ q => ⟨q.1, cr_unF hf q.2⟩⟩, unF_at⟩
    · rw [List.getElem?_set_ne (fun z => hj z.symm)] at hu'
      have hba : b ≠ a := fun z => hj (nd_ix S.nd hb (z ▸ ha))
      exact (S.ob j b u hb hu').imp id fun ⟨o', e, r, q⟩ => ⟨o', by rw [upd_ne hba]; exact e, or_unF hf r, by rw [unF_ne hba]; exact q⟩
theorem gr_unF {a : Addr} {as0 : List Addr} {F0 : Hp} (h0 : F0 a = none) (g : Gr F0 as0 F as) : Gr F0 as0 (unF F a) as := ⟨fun b u e => by rw [unF_ne (ne_of_none e h0)]; exact g.fr b u e, g.px⟩
end
end T

set_option Elab.async false
set_option linter.all false
set_option maxRecDepth 100000
namespace T
open PySem PySem.Spec PyProof.Rows L2

/-- a family of contexts: a def's body; a block within it -/
structure Fam where
  ι : Type
  X : ι → Cx
  K : PySem.W.Frag
  mg : Str → Option Value
  N : List Str
  P : Program
  w : World
  base : Heap
  lev : Nat
  hK : ∀ i, (X i).K = K
  hmg : ∀ i, (X i).mg = mg
  hN : ∀ i, (X i).N = N
  hP : ∀ i, (X i).prog = P
  hw : ∀ i, (X i).w = w
  hb : ∀ i, (X i).base = base
  cl : Bool
  room : cl = true → ∀ i, Room lev (X i).A
  calm : cl = true → ∀ i, (X i).calm = true
  sc : Scope
  hsc : ∀ i, (X i).env.scope = sc
  W : WX
  RX : Value → Sto → Prop
  tk : ∀ i, Takes (X i) W
  own : ∀ i, PassesOwn (model (X i).prog (X i).w) (X i).A (X i).env (X i).xe
  nd : N.Nodup

def wpE (Y : Fam) (e : Expr) : TE := fun σ H Q => ∀ i pins s, Inv (Y.X i) pins σ H s → wpAny (model (Y.X i).prog (Y.X i).w) (Y.X i).A (eval e (Y.X i).env) (EP (Y.X i) pins σ Q) (Y.X i).xe s
def wpT (Y : Fam) (e : Expr) : TT := fun σ H Q => ∀ i pins s, Inv (Y.X i) pins σ H s → wpAny (model (Y.X i).prog (Y.X i).w) (Y.X i).A (isTrue e (Y.X i).env (eval e (Y.X i).env)) (TP (Y.X i) pins σ Q) (Y.X i).xe s
def wpW (Y : Fam) (e : Expr) : TT := fun σ H Q => ∀ i whole pins s, Inv (Y.X i) pins σ H s → wpAny (model (Y.X i).prog (Y.X i).w) (Y.X i).A (isTrue e (Y.X i).env whole) (TP (Y.X i) pins σ Q) (Y.X i).xe s
def wpA (Y : Fam) (es : List Expr) : TA := fun σ H Q => ∀ i pos pins s, Inv (Y.X i) pins σ H s → wpAny (model (Y.X i).prog (Y.X i).w) (Y.X i).A (spliced (backTo pos (starEach es (Y.X i).env))) (AP (Y.X i) pins σ Q) (Y.X i).xe s
def wpS (Y : Fam) (st : Stmt) : TS := fun D σ H => ∀ i pins s, Inv (Y.X i) pins σ H s → wpAny (model (Y.X i).prog (Y.X i).w) (Y.X i).A (exec st (Y.X i).env) (SP (Y.X i) pins D) (Y.X i).xe s
def wpB (Y : Fam) (sts : List Stmt) : TS := fun D σ H => ∀ i pins s, Inv (Y.X i) pins σ H s → wpAny (model (Y.X i).prog (Y.X i).w) (Y.X i).A (execs sts (Y.X i).env) (SP (Y.X i) pins D) (Y.X i).xe s
section
variable {Y : Fam} {e : Expr} {es : List Expr} {st : Stmt} {sts : List Stmt}
theorem peW (i : Y.ι) : PE (Y.X i) e (wpE Y e) := ⟨fun pins s σ H Q I h => h i pins s I⟩
theorem ptW (i : Y.ι) : PT (Y.X i) e (wpT Y e) := ⟨fun pins s σ H Q I h => h i pins s I⟩
theorem pwW (i : Y.ι) : PW (Y.X i) e (wpW Y e) := ⟨fun whole pins s σ H Q I h => h i whole pins s I⟩
theorem paW (i : Y.ι) : PA (Y.X i) es (wpA Y es) := ⟨fun pos pins s σ H Q I h => h i pos pins s I⟩
theorem psW (i : Y.ι) : PS (Y.X i) st (wpS Y st) := ⟨fun pins s σ H D I h => h i pins s I⟩
theorem pbW (i : Y.ι) : PSs (Y.X i) sts (wpB Y sts) := ⟨fun pins s σ H D I h => h i pins s I⟩
theorem wpE_of {te : TE} (h : ∀ i, PE (Y.X i) e te) {σ H Q} (q : te σ H Q) : wpE Y e σ H Q := fun i pins s I => (h i).run pins s σ H Q I q
theorem wpT_of {te : TT} (h : ∀ i, PT (Y.X i) e te) {σ H Q} (q : te σ H Q) : wpT Y e σ H Q := fun i pins s I => (h i).run pins s σ H Q I q
theorem wpW_of {te : TT} (h : ∀ i, PW (Y.X i) e te) {σ H Q} (q : te σ H Q) : wpW Y e σ H Q := fun i whole pins s I => (h i).run whole pins s σ H Q I q
theorem wpA_of {te : TA} (h : ∀ i, PA (Y.X i) es te) {σ H Q} (q : te σ H Q) : wpA Y es σ H Q := fun i pos pins s I => (h i).run pos pins s σ H Q I q
theorem wpS_of {te : TS} (h : ∀ i, PS (Y.X i) st te) {D σ H} (q : te D σ H) : wpS Y st D σ H := fun i pins s I => (h i).run pins s σ H D I q
theorem wpB_of {te : TS} (h : ∀ i, PSs (Y.X i) sts te) {D σ H} (q : te D σ H) : wpB Y sts D σ H := fun i pins s I => (h i).run pins s σ H D I q
end

/-! ### what is wanted behind -/
/-- from F, as on: the value is c, the store O' -/
def Thn {α β : Type} (K : PySem.W.Frag) (rel : Hp → List Addr → α → β → Prop) (F : Hp) (as : List Addr) (R : α → Sto → Prop) (Q : β → Hp → Prop) : Prop :=
  ∀ F' as' c v O' H', Gr F as F' as' → Sat K F' H' as' O' → rel F' as' c v → R c O' → Q v H'
section
variable {α β : Type} {K : PySem.W.Frag} {rel : Hp → List Addr → α → β → Prop} {F F' H H' : Hp} {as as' : List Addr} {R : α → Sto → Prop} {Q : β → Hp → Prop}
theorem Thn.mono (t : Thn K rel F as R Q) (g : Gr F as F' as') : Thn K rel F' as' R Q := fun F'' as'' c v O' H' g' S r p => t F'' as'' c v O' H' (g.trans g') S r p
theorem Thn.go {c : α} {v : β} {O' : Sto} (t : Thn K rel F as R Q) (S : Sat K F H as O') (r : rel F as c v) (p : R c O') : Q v H := t F as c v O' H Gr.refl S r p
end
/-- what is raised -/
def ThX (Y : Fam) (F : Hp) (as : List Addr) : Prop := ∀ F' as' cl O' σ' H', Gr F as F' as' → Sat Y.K F' H' as' O' → Y.RX cl O' → Y.W cl none σ' H'
theorem ThX.mono {Y : Fam} {F F' : Hp} {as as' : List Addr} (t : ThX Y F as) (g : Gr F as F' as') : ThX Y F' as' := fun F'' as'' cl O' σ' H' g' S r => t F'' as'' cl O' σ' H' (g.trans g') S r
abbrev ThE (K : PySem.W.Frag) := Thn K (CR K)
abbrev ThA (K : PySem.W.Frag) := Thn (α := List C) (β := List V) K fun F as => Paired (CR K F as)
abbrev ThT (K : PySem.W.Frag) := Thn (α := Bool) (β := Bool) K fun _ _ a b => a = b
def We (Y : Fam) (te : TE) (Γ : Gam) (O : Sto) (R : C → Sto → Prop) : Prop := ∀ F as σ H Q, Sat Y.K F H as O → SlR Y.K F as Γ σ → ThX Y F as → ThE Y.K F as R Q → te σ H Q
def Wt (Y : Fam) (te : TT) (Γ : Gam) (O : Sto) (R : Bool → Sto → Prop) : Prop := ∀ F as σ H Q, Sat Y.K F H as O → SlR Y.K F as Γ σ → ThX Y F as → ThT Y.K F as R Q → te σ H Q
def Wa (Y : Fam) (te : TA) (Γ : Gam) (O : Sto) (R : List C → Sto → Prop) : Prop := ∀ F as σ H Q, Sat Y.K F H as O → SlR Y.K F as Γ σ → ThX Y F as → ThA Y.K F as R Q → te σ H Q
/-- behind a statement -/
structure En where
  nx : Gam → Sto → Prop
  rt : C → Sto → Prop
  bk : Gam → Sto → Prop := fun _ _ => False
  ct : Gam → Sto → Prop := fun _ _ => False
structure ThD (K : PySem.W.Frag) (F : Hp) (as : List Addr) (E : En) (D : Ends) : Prop where
  nx : Thn K (SlR K) F as E.nx D.nx
  rt : ThE K F as E.rt D.rt
  bk : Thn K (SlR K) F as E.bk D.bk
  ct : Thn K (SlR K) F as E.ct D.ct
theorem ThD.mono {K : PySem.W.Frag} {F F' : Hp} {as as' : List Addr} {E : En} {D : Ends} (t : ThD K F as E D) (g : Gr F as F' as') : ThD K F' as' E D := ⟨t.nx.mono g, t.rt.mono g, t.bk.mono g, t.ct.mono g⟩
def Ws (Y : Fam) (ts : TS) (Γ : Gam) (O : Sto) (E : En) : Prop := ∀ F as σ H D, Sat Y.K F H as O → SlR Y.K F as Γ σ → ThX Y F as → ThD Y.K F as E D → ts D σ H

/-- an expression, a test, arguments, a statement, a block of the family's -/
def XE (Y : Fam) (e : Expr) (Γ : Gam) (O : Sto) (R : C → Sto → Prop) : Prop := We Y (wpE Y e) Γ O R
def XT (Y : Fam) (e : Expr) (Γ : Gam) (O : Sto) (R : Bool → Sto → Prop) : Prop := Wt Y (wpT Y e) Γ O R
def XW (Y : Fam) (e : Expr) (Γ : Gam) (O : Sto) (R : Bool → Sto → Prop) : Prop := Wt Y (wpW Y e) Γ O R
def XA (Y : Fam) (es : List Expr) (Γ : Gam) (O : Sto) (R : List C → Sto → Prop) : Prop := Wa Y (wpA Y es) Γ O R
def XS (Y : Fam) (st : Stmt) (Γ : Gam) (O : Sto) (E : En) : Prop := Ws Y (wpS Y st) Γ O E
def XB (Y : Fam) (sts : List Stmt) (Γ : Gam) (O : Sto) (E : En) : Prop := Ws Y (wpB Y sts) Γ O E

/-- two values through an operation; values through a call -/
def W2 (K : PySem.W.Frag) (r : R2) (c1 c2 : C) (O : Sto) (R : C → Sto → Prop) : Prop := ∀ F as H x y Q, Sat K F H as O → CR K F as c1 x → CR K F as c2 y → ThE K F as R Q → r x y H Q
def W1 (K : PySem.W.Frag) (r : V → Hp → VK → Prop) (c : C) (O : Sto) (R : C → Sto → Prop) : Prop := ∀ F as H x Q, Sat K F H as O → CR K F as c x → ThE K F as R Q → r x H Q
def Wc (K : PySem.W.Frag) (r : List V → Hp → VK → Prop) (cs : List C) (O : Sto) (R : C → Sto → Prop) : Prop := ∀ F as H xs Q, Sat K F H as O → Paired (CR K F as) cs xs → ThE K F as R Q → r xs H Q
def Wm (K : PySem.W.Frag) (r : V → List V → Hp → VK → Prop) (c : C) (cs : List C) (O : Sto) (R : C → Sto → Prop) : Prop := ∀ F as H x xs Q, Sat K F H as O → CR K F as c x → Paired (CR K F as) cs xs → ThE K F as R Q → r x xs H Q

section
variable {Y : Fam} {e a b c : Expr} {es : List Expr} {st : Stmt} {sts : List Stmt} {Γ : Gam} {O : Sto} {R : C → Sto → Prop} {RT : Bool → Sto → Prop} {RA : List C → Sto → Prop} {E : En} {pos p : Pos} {x : Str}
/-! ### expressions -/
theorem xe_of {te : TE} (h : ∀ i, PE (Y.X i) e te) (w : We Y te Γ O R) : XE Y e Γ O R := fun F as σ H Q S L tx t => wpE_of h (w F as σ H Q S L tx t)
theorem xt_of {te : TT} (h : ∀ i, PT (Y.X i) e te) (w : Wt Y te Γ O RT) : XT Y e Γ O RT := fun F as σ H Q S L tx t => wpT_of h (w F as σ H Q S L tx t)
theorem xw_of {te : TT} (h : ∀ i, PW (Y.X i) e te) (w : Wt Y te Γ O RT) : XW Y e Γ O RT := fun F as σ H Q S L tx t => wpW_of h (w F as σ H Q S L tx t)
theorem xa_of {te : TA} (h : ∀ i, PA (Y.X i) es te) (w : Wa Y te Γ O RA) : XA Y es Γ O RA := fun F as σ H Q S L tx t => wpA_of h (w F as σ H Q S L tx t)
theorem xs_of {te : TS} (h : ∀ i, PS (Y.X i) st te) (w : Ws Y te Γ O E) : XS Y st Γ O E := fun F as σ H D S L tx t => wpS_of h (w F as σ H D S L tx t)
theorem xb_of {te : TS} (h : ∀ i, PSs (Y.X i) sts te) (w : Ws Y te Γ O E) : XB Y sts Γ O E := fun F as σ H D S L tx t => wpB_of h (w F as σ H D S L tx t)
/-- weaker wishes -/
theorem XE.imp {R' : C → Sto → Prop} (h : XE Y e Γ O R) (k : ∀ c O', R c O' → R' c O') : XE Y e Γ O R' := fun F as σ H Q S L tx t => h F as σ H Q S L tx fun F' as' c v O' H' g S' r p => t F' as' c v O' H' g S' r (k c O' p)
theorem XT.imp {R' : Bool → Sto → Prop} (h : XT Y e Γ O RT) (k : ∀ c O', RT c O' → R' c O') : XT Y e Γ O R' := fun F as σ H Q S L tx t => h F as σ H Q S L tx fun F' as' c v O' H' g S' r p => t F' as' c v O' H' g S' r (k c O' p)

theorem we_c {v : V} {d : PyData} (h : ∀ F, Dp Y.K F v d) (r : R (.d d) O) : We Y (tC v) Γ O R := fun F as σ H Q S L tx t => t.go S (show CR Y.K F as (.d d) v from h F) r
theorem xe_int {j : Int} {z : Nat} (r : R (.d (.int j)) O) : XE Y (.Constant (.int j) z pos) Γ O R := xe_of (fun _ => pe_int) (we_c (fun _ => .int _) r)
theorem xe_bl {j : Bool} {z : Nat} (r : R (.d (.bool j)) O) : XE Y (.Constant (.bool j) z pos) Γ O R := xe_of (fun _ => pe_bl) (we_c (fun _ => .bl _) r)
theorem xe_non {z : Nat} (r : R (.d .none) O) : XE Y (.Constant .none z pos) Γ O R := xe_of (fun _ => pe_non) (we_c (fun _ => .non) r)
theorem xe_str {j : Str} {z : Nat} (r : R (.d (.str j)) O) : XE Y (.Constant (.str j) z pos) Γ O R := xe_of (fun _ => pe_str) (we_c (fun _ => .str _) r)
/-- a name of the def -/
theorem xe_name (i : Nat) {g : C} (hN : Y.N[i]? = some x) (hg : Γ[i]? = some (some g)) (r : R g O) (hv : ∀ j, Vis (Y.X j).env.scope x := by first | exact fun _ => Or.inl rfl | exact fun _ => Or.inr (Or.inl rfl) | exact fun _ => Or.inr (Or.inr rfl))
    (hd : (x == ("__debug__" : Str)) = false := by decide) (hcd : (x == ("__classdict__" : Str)) = false := by decide) : XE Y (.Name x pos) Γ O R :=
  xe_of (fun j => pe_var (i := i) (by rw [Y.hN]; exact hN) (hv j) hd hcd) fun F as σ H Q S L tx t => by
    obtain ⟨v, h1, h2⟩ := L.get hg
    exact ⟨v, h1, t.go S h2 r⟩
/-- a module's constant -/
def GlC (Y : Fam) (x : Str) (d : PyData) : Prop := ∃ v u, Y.mg x = some u ∧ RelV v u ∧ ∀ F, Dp Y.K F v d
theorem xe_glob {d : PyData} (h : GlC Y x d) (r : R (.d d) O) (hg : ∀ j, Gl (Y.X j) x := by exact fun _ => rfl) (hd : (x == ("__debug__" : Str)) = false := by decide) : XE Y (.Name x pos) Γ O R := by
  obtain ⟨v, u, h1, h2, h3⟩ := h
  exact xe_of (fun j => pe_glob (hg j) (by rw [Y.hmg]; exact h1) h2 hd) (we_c h3 r)
theorem xe_bin {op : Operator} {r : R2} (ho : ∀ i, OpR (Y.X i) (binaryOp op) r) (h : XE Y a Γ O fun c1 O1 => XE Y b Γ O1 fun c2 O2 => W2 Y.K r c1 c2 O2 R) : XE Y (.BinOp a op b pos) Γ O R :=
  xe_of (fun i => pe_op (ho i) (peW i) (peW i)) fun F as σ H Q S L tx t => h F as σ H _ S L tx fun F1 as1 c1 v1 O1 H1 g1 S1 r1 h1 =>
    h1 F1 as1 σ H1 _ S1 (L.mono g1) (tx.mono g1) fun F2 as2 c2 v2 O2 H2 g2 S2 r2 h2 => h2 F2 as2 H2 v1 v2 Q S2 (r1.mono g2) r2 (t.mono (g1.trans g2))
theorem xe_un {op : UnaryOp} {r : V → Hp → VK → Prop} (ho : ∀ i, UnR (Y.X i) (unaryOp op) r) (h : XE Y a Γ O fun c1 O1 => W1 Y.K r c1 O1 R) : XE Y (.UnaryOp op a pos) Γ O R :=
  xe_of (fun i => pe_un (ho i) (peW i)) fun F as σ H Q S L tx t => h F as σ H _ S L tx fun F1 as1 c1 v1 O1 H1 g1 S1 r1 h1 => h1 F1 as1 H1 v1 Q S1 r1 (t.mono g1)
theorem xe_cmp {op : CmpOp} {r : R2} (ho : ∀ i, OpR (Y.X i) (compareOp op) r) (hm : behindInMarks op b = false) (h : XE Y a Γ O fun c1 O1 => XE Y b Γ O1 fun c2 O2 => W2 Y.K r c1 c2 O2 R) : XE Y (.Compare a [op] [b] pos) Γ O R :=
  xe_of (fun i => pe_cmpR (ho i) (peW i) (peW i) hm) fun F as σ H Q S L tx t => h F as σ H _ S L tx fun F1 as1 c1 v1 O1 H1 g1 S1 r1 h1 =>
    h1 F1 as1 σ H1 _ S1 (L.mono g1) (tx.mono g1) fun F2 as2 c2 v2 O2 H2 g2 S2 r2 h2 => h2 F2 as2 H2 v1 v2 Q S2 (r1.mono g2) r2 (t.mono (g1.trans g2))
/-- from a value to a test -/
def WB (R : Bool → Sto → Prop) : C → Sto → Prop := fun c O => ∃ k, c = .d (.bool k) ∧ R k O
theorem thB {K : PySem.W.Frag} {F : Hp} {as : List Addr} {Q : Bool → Hp → Prop} (t : ThT K F as RT Q) : ThE K F as (WB RT) fun x H' => ∃ k, x = .bl k ∧ Q k H' := fun F' as' c v O' H' g S r ⟨k, e, p⟩ => by
  subst e
  cases r
  exact ⟨k, rfl, t F' as' k k O' H' g S rfl p⟩
theorem xt_cmp {op : CmpOp} {r : R2} (ho : ∀ i, OpR (Y.X i) (compareOp op) r) (hm : behindInMarks op b = false) (h : XE Y a Γ O fun c1 O1 => XE Y b Γ O1 fun c2 O2 => W2 Y.K r c1 c2 O2 (WB RT)) : XT Y (.Compare a [op] [b] pos) Γ O RT :=
  xt_of (fun i => pt_cmpR (ho i) (peW i) (peW i) hm) fun F as σ H Q S L tx t => h F as σ H _ S L tx fun F1 as1 c1 v1 O1 H1 g1 S1 r1 h1 =>
    h1 F1 as1 σ H1 _ S1 (L.mono g1) (tx.mono g1) fun F2 as2 c2 v2 O2 H2 g2 S2 r2 h2 => h2 F2 as2 H2 v1 v2 _ S2 (r1.mono g2) r2 ((thB t).mono (g1.trans g2))
/-- a bool as a test -/
theorem xt_val (he : ∀ i whole, isTrue e (Y.X i).env whole = (do let v ← whole; standAt e.pos; holding [v] (truthy v))) (h : XE Y e Γ O (WB RT)) : XT Y e Γ O RT :=
  xt_of (fun i => pt_val (peW i) (he i)) fun F as σ H Q S L tx t => h F as σ H _ S L tx (thB t)
theorem xt_w (h : XW Y e Γ O RT) : XT Y e Γ O RT := xt_of (fun i => (pwW i).pt) fun F as σ H Q S L tx t => h F as σ H Q S L tx t
theorem xt_not (h : XT Y a Γ O fun k O1 => RT (!k) O1) : XT Y (.UnaryOp .Not a pos) Γ O RT :=
  xt_of (fun i => pt_not (ptW i)) fun F as σ H Q S L tx t => h F as σ H _ S L tx fun F1 as1 k1 v1 O1 H1 g1 S1 r1 h1 => by subst r1; exact t F1 as1 _ _ O1 H1 g1 S1 rfl h1
theorem xw_and1 (h : XT Y a Γ O RT) : XW Y (.BoolOp .And [a] pos) Γ O RT := xw_of (fun i => pw_and1 (ptW i)) fun F as σ H Q S L tx t => h F as σ H Q S L tx t
theorem xw_or1 (h : XT Y a Γ O RT) : XW Y (.BoolOp .Or [a] pos) Γ O RT := xw_of (fun i => pw_or1 (ptW i)) fun F as σ H Q S L tx t => h F as σ H Q S L tx t
theorem xw_and (h : XT Y a Γ O fun k O1 => (k = true → XW Y (.BoolOp .And (b :: es) pos) Γ O1 RT) ∧ (k = false → RT false O1)) : XW Y (.BoolOp .And (a :: b :: es) pos) Γ O RT :=
  xw_of (fun i => pw_and (ptW i) (pwW i)) fun F as σ H Q S L tx t => h F as σ H _ S L tx fun F1 as1 k1 v1 O1 H1 g1 S1 r1 h1 => by
    subst r1
    cases k1 with
    | true => exact iteT (h1.1 rfl F1 as1 σ H1 Q S1 (L.mono g1) (tx.mono g1) (t.mono g1))
    | false => exact iteF (t F1 as1 _ _ O1 H1 g1 S1 rfl (h1.2 rfl))
theorem xw_or (h : XT Y a Γ O fun k O1 => (k = false → XW Y (.BoolOp .Or (b :: es) pos) Γ O1 RT) ∧ (k = true → RT true O1)) : XW Y (.BoolOp .Or (a :: b :: es) pos) Γ O RT :=
  xw_of (fun i => pw_or (ptW i) (pwW i)) fun F as σ H Q S L tx t => h F as σ H _ S L tx fun F1 as1 k1 v1 O1 H1 g1 S1 r1 h1 => by
    subst r1
    cases k1 with
    | true => exact iteT (t F1 as1 _ _ O1 H1 g1 S1 rfl (h1.2 rfl))
    | false => exact iteF (h1.1 rfl F1 as1 σ H1 Q S1 (L.mono g1) (tx.mono g1) (t.mono g1))
/-- and, or, not as values (of bools) -/
theorem xe_one {op : BoolOp} (h : XE Y a Γ O R) : XE Y (.BoolOp op [a] pos) Γ O R := xe_of (fun i => pe_one (peW i)) fun F as σ H Q S L tx t => h F as σ H Q S L tx t
theorem xe_and (h : XE Y a Γ O (WB fun k O1 => (k = true → XE Y (.BoolOp .And (b :: es) pos) Γ O1 R) ∧ (k = false → R (.d (.bool false)) O1))) : XE Y (.BoolOp .And (a :: b :: es) pos) Γ O R :=
  xe_of (fun i => pe_and (peW i) (peW i)) fun F as σ H Q S L tx t => h F as σ H _ S L tx fun F1 as1 c1 v1 O1 H1 g1 S1 r1 ⟨k, ek, h1⟩ => by
    subst ek
    cases r1
    refine ⟨k, rfl, ?_⟩
    cases k with
    | true => exact iteT (h1.1 rfl F1 as1 σ H1 Q S1 (L.mono g1) (tx.mono g1) (t.mono g1))
    | false => exact iteF (t F1 as1 _ _ O1 H1 g1 S1 (show CR Y.K F1 as1 (.d (.bool false)) _ from .bl _) (h1.2 rfl))
theorem xe_or (h : XE Y a Γ O (WB fun k O1 => (k = false → XE Y (.BoolOp .Or (b :: es) pos) Γ O1 R) ∧ (k = true → R (.d (.bool true)) O1))) : XE Y (.BoolOp .Or (a :: b :: es) pos) Γ O R :=
  xe_of (fun i => pe_or (peW i) (peW i)) fun F as σ H Q S L tx t => h F as σ H _ S L tx fun F1 as1 c1 v1 O1 H1 g1 S1 r1 ⟨k, ek, h1⟩ => by
    subst ek
    cases r1
    refine ⟨k, rfl, ?_⟩
    cases k with
    | true => exact iteT (t F1 as1 _ _ O1 H1 g1 S1 (show CR Y.K F1 as1 (.d (.bool true)) _ from .bl _) (h1.2 rfl))
    | false => exact iteF (h1.1 rfl F1 as1 σ H1 Q S1 (L.mono g1) (tx.mono g1) (t.mono g1))
theorem xe_not (h : XE Y a Γ O (WB fun k O1 => R (.d (.bool (!k))) O1)) : XE Y (.UnaryOp .Not a pos) Γ O R :=
  xe_of (fun i => pe_not (peW i)) fun F as σ H Q S L tx t => h F as σ H _ S L tx fun F1 as1 c1 v1 O1 H1 g1 S1 r1 ⟨k, ek, h1⟩ => by
    subst ek
    cases r1
    exact ⟨k, rfl, t F1 as1 _ _ O1 H1 g1 S1 (show CR Y.K F1 as1 (.d (.bool (!k))) _ from .bl _) h1⟩
theorem xe_ifExp (h : XT Y c Γ O fun k O1 => (k = true → XE Y a Γ O1 R) ∧ (k = false → XE Y b Γ O1 R)) : XE Y (.IfExp c a b pos) Γ O R :=
  xe_of (fun i => pe_ifExp (ptW i) (peW i) (peW i)) fun F as σ H Q S L tx t => h F as σ H _ S L tx fun F1 as1 k1 v1 O1 H1 g1 S1 r1 h1 => by
    subst r1
    cases k1 with
    | true => exact iteT (h1.1 rfl F1 as1 σ H1 Q S1 (L.mono g1) (tx.mono g1) (t.mono g1))
    | false => exact iteF (h1.2 rfl F1 as1 σ H1 Q S1 (L.mono g1) (tx.mono g1) (t.mono g1))
/-! ### arguments, displays -/
theorem xa_nil (r : RA [] O) : XA Y [] Γ O RA := xa_of (fun _ => pa_nil) fun F as σ H Q S L tx t => t.go S .nil r
theorem xa_cons (h : XE Y a Γ O fun c1 O1 => XA Y es Γ O1 fun cs O2 => RA (c1 :: cs) O2) (hs : ∀ i, starEach (a :: es) (Y.X i).env = (false, eval a (Y.X i).env) :: starEach es (Y.X i).env := by exact fun _ => rfl) : XA Y (a :: es) Γ O RA :=
  xa_of (fun i => pa_cons (peW i) (paW i) (hs i)) fun F as σ H Q S L tx t => h F as σ H _ S L tx fun F1 as1 c1 v1 O1 H1 g1 S1 r1 h1 =>
    h1 F1 as1 σ H1 _ S1 (L.mono g1) (tx.mono g1) fun F2 as2 cs vs O2 H2 g2 S2 r2 h2 => t F2 as2 (c1 :: cs) (v1 :: vs) O2 H2 (g1.trans g2) S2 (.cons (r1.mono g2) r2) h2
def allD : List C → Option (List PyData)
  | [] => some []
  | .d x :: r => (allD r).map (x :: ·)
  | .o _ :: _ => none
theorem allD_eq : ∀ {cs : List C} {ds : List PyData}, allD cs = some ds → cs = ds.map C.d
  | [], ds, h => by cases h; rfl
  | .d x :: r, ds, h => by
    unfold allD at h
    cases e : allD r with
    | none => rw [e] at h; cases h
    | some es =>
      rw [e] at h
      cases h
      rw [allD_eq e]
      rfl
  | .o _ :: _, _, h => by cases h
theorem all_cs {K : PySem.W.Frag} {F : Hp} {as : List Addr} {cs : List C} {vs : List V} {ds : List PyData} (r : Paired (CR K F as) cs vs) (h : allD cs = some ds) : DpAll K F vs ds := by
  rw [allD_eq h] at r
  exact all_of r
theorem dpall_len {K : PySem.W.Frag} {F : Hp} : ∀ {vs : List V} {ds : List PyData}, DpAll K F vs ds → vs.length = ds.length
  | _, _, .nil => rfl
  | _, _, .cons _ t => by simp [dpall_len t]
theorem xe_tup {z : Nat} (h : XA Y es Γ O fun cs O1 => ∃ ds, allD cs = some ds ∧ ds.length ≤ sizeLine ∧ R (.d (.tuple ds)) O1) : XE Y (.Tuple es z pos) Γ O R :=
  xe_of (fun i => pe_tup (paW i)) fun F as σ H Q S L tx t => h F as σ H _ S L tx fun F1 as1 cs vs O1 H1 g1 S1 r1 ⟨ds, e, hz, h1⟩ => by
    have ra := all_cs r1 e
    refine ⟨by rw [dpall_len ra]; exact hz, fun p hp => ?_⟩
    obtain ⟨S2, g2⟩ := S1.froze (o := .tup vs) hp
    exact t _ _ (.d (.tuple ds)) _ O1 _ (g1.trans g2) S2 (.tup (.inl (.inl upd_same)) (dp_sameAll g2.fr _ _ ra)) h1
theorem pr_len {α β : Type} {F : α → β → Prop} {l : List α} {m : List β} (h : Paired F l m) : l.length = m.length := Paired.length h
theorem xe_lst (h : XA Y es Γ O fun cs O1 => cs.length ≤ sizeLine ∧ R (.o O1.length) (O1 ++ [.lst cs])) : XE Y (.List es pos) Γ O R :=
  xe_of (fun i => pe_lst (paW i)) fun F as σ H Q S L tx t => h F as σ H _ S L tx fun F1 as1 cs vs O1 H1 g1 S1 r1 ⟨hz, h1⟩ => by
    refine ⟨by rw [← pr_len r1]; exact hz, fun p hp => ?_⟩
    obtain ⟨S2, g2⟩ := S1.own hp r1
    exact t _ _ (.o O1.length) _ _ _ (g1.trans g2) S2 ⟨p, by rw [← S1.len]; simp, rfl⟩ h1
/-! ### blocks of statements -/
theorem xb_nil (r : E.nx Γ O) : XB Y [] Γ O E := xb_of (fun _ => pss_nil) fun F as σ H D S L tx t => t.nx.go S L r
theorem xb_cons (h : XS Y st Γ O { E with nx := fun Γ' O' => XB Y sts Γ' O' E }) : XB Y (st :: sts) Γ O E :=
  xb_of (fun i => pss_cons (psW i) (pbW i)) fun F as σ H D S L tx t => h F as σ H _ S L tx ⟨fun F1 as1 Γ1 σ1 O1 H1 g1 S1 L1 h1 => h1 F1 as1 σ1 H1 D S1 L1 (tx.mono g1) (t.mono g1), t.rt, t.bk, t.ct⟩
theorem xb_one (h : XS Y st Γ O E) : XB Y [st] Γ O E := xb_of (fun i => pss_one (psW i)) fun F as σ H D S L tx t => h F as σ H D S L tx t
theorem xs_pass (r : E.nx Γ O) : XS Y (.Pass pos) Γ O E := xs_of (fun _ => ps_pass) fun F as σ H D S L tx t => t.nx.go S L r
theorem xs_break (r : E.bk Γ O) : XS Y (.Break pos) Γ O E := xs_of (fun _ => ps_break) fun F as σ H D S L tx t => t.bk.go S L r
theorem xs_cont (r : E.ct Γ O) : XS Y (.Continue pos) Γ O E := xs_of (fun _ => ps_continue) fun F as σ H D S L tx t => t.ct.go S L r
theorem xs_ret (h : XE Y e Γ O E.rt) : XS Y (.Return (some e) pos) Γ O E := xs_of (fun i => ps_ret (peW i)) fun F as σ H D S L tx t => h F as σ H _ S L tx t.rt
theorem xs_expr (h : XE Y e Γ O fun _ O1 => E.nx Γ O1) (hs : ∀ i, swapsWith e none pos.line (Y.X i).env = pure false := by exact fun _ => rfl) : XS Y (.Expr e pos) Γ O E :=
  xs_of (fun i => ps_expr (peW i) (hs i)) fun F as σ H D S L tx t => h F as σ H _ S L tx fun F1 as1 c v O1 H1 g1 S1 r1 h1 => t.nx F1 as1 Γ σ O1 H1 g1 S1 (L.mono g1) h1
theorem xs_set (i : Nat) {p' : Pos} (hi : Y.N[i]? = some x) (h : XE Y e Γ O fun c O1 => E.nx (Γ.set i (some c)) O1) (hx : ∀ j, Loc (Y.X j).env.scope x := by first | exact fun _ => Or.inl rfl | exact fun _ => Or.inr rfl)
    (hs : ∀ j, swapsWith e (some (.Name x p')) pos.line (Y.X j).env = pure false := by exact fun _ => rfl) (hf : ∀ j, (Y.X j).fn x = true ∨ (Y.X j).env.scope.names.lookup x = some .local := by first | exact fun _ => .inl rfl | exact fun _ => .inr rfl) :
    XS Y (.Assign [.Name x p'] e pos) Γ O E :=
  xs_of (fun j => ps_set (i := i) (by rw [Y.hN]; exact Y.nd) (by rw [Y.hN]; exact hi) (hx j) (peW j) (hs j) (hf j)) fun F as σ H D S L tx t => h F as σ H _ S L tx fun F1 as1 c v O1 H1 g1 S1 r1 h1 =>
    t.nx F1 as1 _ _ O1 H1 g1 S1 ((L.mono g1).set r1 i) h1
theorem xs_if {p q : List Stmt} (h : XT Y e Γ O fun k O1 => (k = true → XB Y p Γ O1 E) ∧ (k = false → XB Y q Γ O1 E)) : XS Y (.If e p q pos) Γ O E :=
  xs_of (fun i => ps_if (ptW i) (pbW i) (pbW i)) fun F as σ H D S L tx t => h F as σ H _ S L tx fun F1 as1 k1 v1 O1 H1 g1 S1 r1 h1 => by
    subst r1
    cases k1 with
    | true => exact iteT (h1.1 rfl F1 as1 σ H1 D S1 (L.mono g1) (tx.mono g1) (t.mono g1))
    | false => exact iteF (h1.2 rfl F1 as1 σ H1 D S1 (L.mono g1) (tx.mono g1) (t.mono g1))
end
end T

set_option Elab.async false
set_option linter.all false
set_option maxRecDepth 100000
namespace T
open PySem PySem.Spec PyProof.Rows L2

theorem opor {X : Cx} {f : Value → Value → Sem Value} {r r' : R2} (h : OpR X f r) (h' : OpR X f r') : OpR X f (fun x y H Q => r x y H Q ∨ r' x y H Q) :=
  fun pins s σ H x y v u Q I rx ry q => q.elim (h pins s σ H x y v u Q I rx ry) (h' pins s σ H x y v u Q I rx ry)
theorem cror {X : Cx} {f : Value} {r r' : List V → Hp → VK → Prop} (h : CallR X f r) (h' : CallR X f r') : CallR X f (fun x H Q => r x H Q ∨ r' x H Q) :=
  fun pins s σ H x v Q I rx q => q.elim (h pins s σ H x v Q I rx) (h' pins s σ H x v Q I rx)

set_option maxHeartbeats 4000000
theorem tuple_mul1 (l : Addr) (items : Array Value) (n : Nat) (dd : Option Addr) (sl : Array (Option Value)) (x : Int) (u : Tok) (c0 : (decide (x < -(2 ^ 63)) || decide (x ≥ 2 ^ 63)) = false) (c1 : (items.isEmpty || x == 1) = true) :
    Meets (Builtin.«tuple.__mul__» ⟨[.ref l, .int x u], []⟩) (fun _ R s => s.heap.get? l = some { cls := .type "tuple", dict := dd, data := .seq items n, slots := sl } ∧ R (.ok (.ret (Value.ref l))) s) :=
  .of_wp fun prog w A R s h => by
    obtain ⟨hp, g, d, tk, os⟩ := s
    obtain ⟨hl, h⟩ := h
    have f1 := AutoSeq1.idx_int
    wp_walk using wpAny_loadPart' hl
    repeat (first
      | (refine wpAny_ite_false (decide_eq_false (by rw [c0]; exact Bool.false_ne_true)) ?_; wp_walk using wpAny_loadPart' hl)
      | (refine wpAny_ite_true (decide_eq_true c1) ?_; wp_walk using wpAny_loadPart' hl))
    exact ⟨_, rfl, h⟩
def rRep1 (K : PySem.W.Frag) : R2 := fun x y H Q => ∃ l xs, x = .ref l ∧ y = .int 1 ∧ SqT K H l xs ∧ Q (.ref l) H
theorem op_rep1 {X : Cx} : OpR X (binaryOp .Mult) (rRep1 X.K) := by
  intro pins s σ H x y v u Q I rx ry h
  obtain ⟨l, xs, rfl, rfl, hT, q⟩ := h
  cases rx
  obtain ⟨t, rfl⟩ := ry
  obtain ⟨its, r, ⟨⟨cls, dd, data, sl⟩, ho, hc, n, hd⟩, hs⟩ := I.tuple hT
  simp only at hc hd
  subst hc hd
  exact wpAny_binaryOp_repeat_ref (T := "tuple") (U := "int") (by decide) ⟨_, ho, rfl⟩ (fun s' => typeIs_int s' 1 t) noFill_tuple_mul F.fills_int_mul F.slot_int_rmul repeat_tuple F.slot_int_index.lookup
    (call_meets F.slot_int_rmul (typeIs_int s 1 t) F.entry_int_rmul (F.args_int_rmul_2 _ _) (int_rmul_tuple 1 t l its.toArray n dd sl)
      ⟨ho, rfl, ⟨_, ho, rfl⟩, call_meets F.slot_tuple_mul ⟨_, ho, rfl⟩ F.entry_tuple_mul (F.args_tuple_mul_2 _ _) (tuple_mul1 l its.toArray n dd sl 1 t (by decide) (by simp)) ⟨ho, ⟨.ref l, H, I, rfl, q⟩⟩⟩)
/-- t + u of tuples, any -/
def rAddT (K : PySem.W.Frag) : R2 := fun x y H Q => ∃ a b xs ys, x = .ref a ∧ y = .ref b ∧ SqT K H a xs ∧ SqT K H b ys ∧ xs.length + ys.length ≤ sizeLine ∧
  (xs = [] → Q (.ref b) H) ∧ (ys = [] → Q (.ref a) H) ∧ (∀ p, H p = none → Q (.ref p) (upd H p (.tup (xs ++ ys))))
theorem op_addT {X : Cx} : OpR X (binaryOp .Add) (rAddT X.K) := by
  intro pins s σ H x y v u Q I rx ry h
  obtain ⟨a, b, xs, ys, rfl, rfl, ha, hb, hz, q0, q1, q2⟩ := h
  by_cases hx : xs = []
  · cases rx
    cases ry
    obtain ⟨its, r1, p1, _⟩ := I.tuple ha
    obtain ⟨its2, r2, p2, _⟩ := I.tuple hb
    obtain ⟨⟨cls, dd, data, sl⟩, ho, hc, n, hd⟩ := id p1
    obtain ⟨⟨cls2, dd2, data2, sl2⟩, ho2, hc2, n2, hd2⟩ := id p2
    simp only at hc hd hc2 hd2
    subst hc hd hc2 hd2
    exact concat_meets ⟨_, ho, rfl⟩ ⟨_, ho2, rfl⟩ noFill_tuple_add seq_tuple_add PySem.F.slot_tuple_add PySem.F.entry_tuple_add (PySem.F.args_tuple_add_2 _ _)
      (PyProof.Rows.tuple_addW0 a b its.toArray its2.toArray n n2 dd dd2 sl sl2 (by have := r1.nil_iff.mpr hx; simp [this])) ⟨ho, ho2, show EP X pins σ Q (.ref b) s from ⟨.ref b, H, I, rfl, q0 hx⟩⟩
  · exact op_catT pins s σ H _ _ v u Q I rx ry ⟨a, b, xs, ys, rfl, rfl, ha, hb, hx, hz, q1, fun _ => q2⟩

section
variable {K : PySem.W.Frag} {F H : Hp} {as : List Addr} {O : Sto} {R : C → Sto → Prop}
theorem Sat.lst {k : Nat} {a : Addr} {cs : List C} (S : Sat K F H as O) (ha : as[k]? = some a) (hO : O[k]? = some (.lst cs)) : F a = none ∧ ∃ vs, H a = some (.lst vs) ∧ Paired (CR K F as) cs vs := by
  obtain ⟨hF, o, e, vs, rfl, r⟩ := S.obG ha hO (by intro z; cases z)
  exact ⟨hF, vs, e, r⟩
theorem dget : ∀ {ds : List PyData} {vs : List V} {i : Nat} {d : PyData}, DpAll K F vs ds → ds[i]? = some d → ∃ v, vs[i]? = some v ∧ Dp K F v d
  | _, _, 0, d, .cons r _, e => by simp at e; subst e; exact ⟨_, rfl, r⟩
  | _, _, i + 1, d, .cons _ t, e => by
    obtain ⟨v, h1, h2⟩ := dget (i := i) t (by simpa using e)
    exact ⟨v, by simpa using h1, h2⟩
  | _, _, _, _, .nil, e => by simp at e
theorem cget : ∀ {cs : List C} {vs : List V} {i : Nat} {c : C}, Paired (CR K F as) cs vs → cs[i]? = some c → ∃ v, vs[i]? = some v ∧ CR K F as c v
  | _, _, 0, d, .cons r _, e => by simp at e; subst e; exact ⟨_, rfl, r⟩
  | _, _, i + 1, d, .cons _ t, e => by
    obtain ⟨v, h1, h2⟩ := cget (i := i) t (by simpa using e)
    exact ⟨v, by simpa using h1, h2⟩
  | _, _, _, _, .nil, e => by simp at e
theorem atI_rel {α β : Type} {l : List α} {m : List β} (hl : l.length = m.length) {i : Int} {x : α} (h : atI l i = some x) : ∃ j, l[j]? = some x ∧ ixN m.length i = some j := by
  unfold atI at h
  rw [hl] at h
  cases e : ixN m.length i with
  | none => rw [e] at h; cases h
  | some j => rw [e] at h; exact ⟨j, h, rfl⟩
theorem dpall_app {xs ys : List PyData} : ∀ {vs ws : List V}, DpAll K F vs xs → DpAll K F ws ys → DpAll K F (vs ++ ws) (xs ++ ys) := by
  induction xs with
  | nil => intro vs ws h1 h2; cases h1; exact h2
  | cons x xs ih => intro vs ws h1 h2; cases h1 with | cons a b => exact .cons a (ih b h2)
theorem dpall_drop : ∀ {vs : List V} {ds : List PyData} (n : Nat), DpAll K F vs ds → DpAll K F (vs.drop n) (ds.drop n)
  | _, _, 0, r => r
  | _, _, _ + 1, .nil => .nil
  | _, _, n + 1, .cons _ t => dpall_drop n t
theorem dpall_take : ∀ {vs : List V} {ds : List PyData} (n : Nat), DpAll K F vs ds → DpAll K F (vs.take n) (ds.take n)
  | _, _, 0, _ => .nil
  | _, _, _ + 1, .nil => .nil
  | _, _, n + 1, .cons r t => .cons r (dpall_take n t)
theorem dpall_rep {v : V} {d : PyData} (h : Dp K F v d) : ∀ n, DpAll K F (List.replicate n v) (List.replicate n d)
  | 0 => .nil
  | n + 1 => .cons h (dpall_rep h n)
theorem sqT_len {X : Cx} {pins σ s} (I : Inv X pins σ H s) {a : Addr} {xs : List V} (h : SqT X.K H a xs) : xs.length ≤ sizeLine := by
  obtain ⟨its, r, _, hz⟩ := I.tuple h
  first | omega | (have := r.length; omega) | exact hz
/-! ### numbers -/
theorem w2_int {g : Int → Int → V} {d : PyData} {i j : Int} (hg : ∀ F, Dp K F (g i j) d) (r : R (.d d) O) : W2 K (rI0 g) (.d (.int i)) (.d (.int j)) O R := fun F as H x y Q S rx ry t => by
  cases rx
  cases ry
  exact ⟨i, j, rfl, rfl, t.go S (show CR K F as (.d d) _ from hg F) r⟩
theorem w2_intC {P : Int → Int → Prop} {g : Int → Int → V} {d : PyData} {i j : Int} (hp : P i j) (hg : ∀ F, Dp K F (g i j) d) (r : R (.d d) O) : W2 K (rI P g) (.d (.int i)) (.d (.int j)) O R := fun F as H x y Q S rx ry t => by
  cases rx
  cases ry
  exact ⟨i, j, rfl, rfl, hp, t.go S (show CR K F as (.d d) _ from hg F) r⟩
theorem w2_l {r r' : R2} {c1 c2 : C} (h : W2 K r c1 c2 O R) : W2 K (fun x y H Q => r x y H Q ∨ r' x y H Q) c1 c2 O R := fun F as H x y Q S rx ry t => .inl (h F as H x y Q S rx ry t)
theorem w2_r {r r' : R2} {c1 c2 : C} (h : W2 K r' c1 c2 O R) : W2 K (fun x y H Q => r x y H Q ∨ r' x y H Q) c1 c2 O R := fun F as H x y Q S rx ry t => .inr (h F as H x y Q S rx ry t)
theorem wc_l {r r' : List V → Hp → VK → Prop} {cs : List C} (h : Wc K r cs O R) : Wc K (fun x H Q => r x H Q ∨ r' x H Q) cs O R := fun F as H x Q S rx t => .inl (h F as H x Q S rx t)
theorem wc_r {r r' : List V → Hp → VK → Prop} {cs : List C} (h : Wc K r' cs O R) : Wc K (fun x H Q => r x H Q ∨ r' x H Q) cs O R := fun F as H x Q S rx t => .inr (h F as H x Q S rx t)

/-! ### + -/
def rAddS : R2 := fun x y H Q => ∃ i j : Str, x = .str i ∧ y = .str j ∧ i.length + j.length ≤ sizeLine ∧ Q (.str (i ++ j)) H
def rPlus (K : PySem.W.Frag) : R2 := fun x y H Q => rI0 (fun i j => .int (i + j)) x y H Q ∨ rAddT K x y H Q ∨ rAddS x y H Q ∨ rCat x y H Q
theorem op_plus {X : Cx} : OpR X (binaryOp .Add) (rPlus X.K) := opor op_add (opor op_addT (opor op_add_str op_cat))
theorem w2_add_int {i j : Int} (r : R (.d (.int (i + j))) O) : W2 K (rPlus K) (.d (.int i)) (.d (.int j)) O R := w2_l (w2_int (fun F => .int _) r)
theorem w2_add_tup {xs ys : List PyData} (hz : xs.length + ys.length ≤ sizeLine) (r : R (.d (.tuple (xs ++ ys))) O) : W2 K (rPlus K) (.d (.tuple xs)) (.d (.tuple ys)) O R := w2_r (w2_l fun F as H x y Q S rx ry t => by
  cases rx with
  | tup h1 a1 =>
    cases ry with
    | tup h2 a2 =>
      have e1 := dpall_len a1
      have e2 := dpall_len a2
      refine ⟨_, _, _, _, rfl, rfl, same_t S.ex h1, same_t S.ex h2, by rw [e1, e2]; exact hz, fun z => ?_, fun z => ?_, fun p hp => ?_⟩
      · subst z; cases a1
        exact t.go S (show CR K F as (.d (.tuple ([] ++ ys))) _ from .tup h2 a2) r
      · subst z; cases a2
        rw [List.append_nil] at r
        exact t.go S (show CR K F as (.d (.tuple xs)) _ from .tup h1 a1) r
      · obtain ⟨S2, g2⟩ := S.froze (o := .tup (_ ++ _)) hp
        exact t _ _ (.d (.tuple (xs ++ ys))) _ _ _ g2 S2 (.tup (.inl (.inl upd_same)) (dp_sameAll g2.fr _ _ (dpall_app a1 a2))) r)
theorem w2_add_str {i j : Str} (hz : i.length + j.length ≤ sizeLine) (r : R (.d (.str (i ++ j))) O) : W2 K (rPlus K) (.d (.str i)) (.d (.str j)) O R := w2_r (w2_r (w2_l fun F as H x y Q S rx ry t => by
  cases rx
  cases ry
  exact ⟨i, j, rfl, rfl, hz, t.go S (show CR K F as (.d (.str (i ++ j))) _ from .str _) r⟩))
theorem w2_add_own {k l : Nat} {cs ds : List C} (h1 : O[k]? = some (.lst cs)) (h2 : O[l]? = some (.lst ds)) (hz : cs.length + ds.length ≤ sizeLine) (r : R (.o O.length) (O ++ [.lst (cs ++ ds)])) : W2 K (rPlus K) (.o k) (.o l) O R := w2_r (w2_r (w2_r fun F as H x y Q S rx ry t => by
  obtain ⟨a, ha, rfl⟩ := rx
  obtain ⟨b, hb, rfl⟩ := ry
  obtain ⟨_, vs, e1, p1⟩ := S.lst ha h1
  obtain ⟨_, ws, e2, p2⟩ := S.lst hb h2
  refine ⟨a, b, vs, ws, rfl, rfl, e1, e2, by rw [← pr_len p1, ← pr_len p2]; exact hz, fun p hp => ?_⟩
  have app : ∀ {cs ds : List C} {vs ws : List V}, Paired (CR K F as) cs vs → Paired (CR K F as) ds ws → Paired (CR K F as) (cs ++ ds) (vs ++ ws) := by
    intro cs ds vs ws h k
    induction h with
    | nil => exact k
    | cons a _ ih => exact .cons a ih
  obtain ⟨S2, g2⟩ := S.own hp (app p1 p2)
  exact t _ _ (.o O.length) _ _ _ g2 S2 ⟨p, by rw [← S.len]; simp, rfl⟩ r))

/-! ### *, //, %, ** -/
def rTimes (K : PySem.W.Frag) : R2 := fun x y H Q => rI CMul (fun i j => .int (i * j)) x y H Q ∨ rRepT K x y H Q ∨ rRep x y H Q ∨ rRep1 K x y H Q
theorem op_times {X : Cx} : OpR X (binaryOp .Mult) (rTimes X.K) := opor op_mul (opor op_repT (opor op_rep op_rep1))
theorem w2_mul_int {i j : Int} (h : CMul i j) (r : R (.d (.int (i * j))) O) : W2 K (rTimes K) (.d (.int i)) (.d (.int j)) O R := w2_l (w2_intC h (fun F => .int _) r)
theorem dpall_flat {F : Hp} {vs : List V} {ds : List PyData} (h : DpAll K F vs ds) : ∀ n, DpAll K F (List.replicate n vs).flatten (List.replicate n ds).flatten
  | 0 => .nil
  | n + 1 => by
    rw [List.replicate_succ, List.replicate_succ, List.flatten_cons, List.flatten_cons]
    exact dpall_app h (dpall_flat h n)
theorem w2_mul_tup {ds : List PyData} {k : Int} (hn : ds ≠ []) (h1 : 1 ≤ k) (h2 : k ≤ 1000) (hz : ds.length ≤ 1000) (r : R (.d (.tuple (List.replicate k.toNat ds).flatten)) O) : W2 K (rTimes K) (.d (.tuple ds)) (.d (.int k)) O R := fun F as H x y Q S rx ry t => by
  cases ry
  cases rx with
  | @tup a xs _ h hd =>
    by_cases hk : k = 1
    · subst hk
      have e : (List.replicate (1 : Int).toNat ds).flatten = ds := by simp
      rw [e] at r
      exact .inr (.inr (.inr ⟨a, xs, rfl, rfl, same_t S.ex h, t.go S (show CR K F as (.d (.tuple ds)) _ from .tup h hd) r⟩))
    · have hx : xs ≠ [] := fun e => hn (by
        subst e
        cases hd
        rfl)
      refine .inr (.inl ⟨a, k, xs, rfl, rfl, same_t S.ex h, hx, by omega, h2, by rw [dpall_len hd]; exact hz, fun p hp => ?_⟩)
      obtain ⟨S2, g2⟩ := S.froze (o := .tup (List.replicate k.toNat xs).flatten) hp
      exact t _ _ (.d (.tuple _)) _ _ _ g2 S2 (.tup (.inl (.inl upd_same)) (dp_sameAll g2.fr _ _ (dpall_flat hd k.toNat))) r
theorem w2_sub {i j : Int} (r : R (.d (.int (i - j))) O) : W2 K (rI0 fun i j => .int (i - j)) (.d (.int i)) (.d (.int j)) O R := w2_int (fun F => .int _) r
theorem w2_fdiv {i j : Int} (h : CDiv i j) (r : R (.d (.int (i / j))) O) : W2 K (rI CDiv fun i j => .int (i / j)) (.d (.int i)) (.d (.int j)) O R := w2_intC h (fun F => .int _) r
theorem w2_mod {i j : Int} (h : 0 < j) (r : R (.d (.int (i % j))) O) : W2 K (rI (fun _ j => 0 < j) fun i j => .int (i % j)) (.d (.int i)) (.d (.int j)) O R := w2_intC h (fun F => .int _) r
theorem w2_pow {i j : Int} (h : CPow i j) (r : R (.d (.int (i ^ j.toNat))) O) : W2 K (rI CPow fun i j => .int (i ^ j.toNat)) (.d (.int i)) (.d (.int j)) O R := w2_intC h (fun F => .int _) r
theorem w1_neg {i : Int} (r : R (.d (.int (-i))) O) : W1 K (rU fun i => .int (-i)) (.d (.int i)) O R := fun F as H x Q S rx t => by
  cases rx
  exact ⟨i, rfl, t.go S (show CR K F as (.d (.int (-i))) _ from .int _) r⟩
/-! ### comparisons -/
def rEqq (K : PySem.W.Frag) : R2 := fun x y H Q => rEq x y H Q ∨ rEqD K x y H Q
def rNeq (K : PySem.W.Frag) : R2 := fun x y H Q => rNe x y H Q ∨ rNeD K x y H Q
theorem op_eqq {X : Cx} (hu : X.A.units + 64 < cLine) : OpR X (compareOp .Eq) (rEqq X.K) := opor op_eq (op_eqD hu)
theorem op_neq {X : Cx} (hu : X.A.units + 64 < cLine) : OpR X (compareOp .NotEq) (rNeq X.K) := opor op_ne (op_neD hu)
theorem w2_eq_int {i j : Int} (r : R (.d (.bool (decide (i = j)))) O) : W2 K (rEqq K) (.d (.int i)) (.d (.int j)) O R := w2_l fun F as H x y Q S rx ry t => by
  cases rx
  cases ry
  have e : decide (V.int i = V.int j) = decide (i = j) := by simp
  exact ⟨rfl, t.go S (by rw [e]; exact (.bl _ : Dp K F _ _)) r⟩
theorem w2_ne_int {i j : Int} (r : R (.d (.bool (!decide (i = j)))) O) : W2 K (rNeq K) (.d (.int i)) (.d (.int j)) O R := w2_l fun F as H x y Q S rx ry t => by
  cases rx
  cases ry
  have e : decide (V.int i = V.int j) = decide (i = j) := by simp
  exact ⟨rfl, t.go S (by rw [e]; exact (.bl _ : Dp K F _ _)) r⟩
theorem w2_eq_bl {i j : Bool} (r : R (.d (.bool (decide (i = j)))) O) : W2 K (rEqq K) (.d (.bool i)) (.d (.bool j)) O R := w2_l fun F as H x y Q S rx ry t => by
  cases rx
  cases ry
  have e : decide (V.bl i = V.bl j) = decide (i = j) := by simp
  exact ⟨by rfl, t.go S (by rw [e]; exact (.bl _ : Dp K F _ _)) r⟩
theorem w2_eq_str {i j : Str} (r : R (.d (.bool (decide (i = j)))) O) : W2 K (rEqq K) (.d (.str i)) (.d (.str j)) O R := w2_l fun F as H x y Q S rx ry t => by
  cases rx
  cases ry
  have e : decide (V.str i = V.str j) = decide (i = j) := by simp
  exact ⟨by rfl, t.go S (by rw [e]; exact (.bl _ : Dp K F _ _)) r⟩
theorem w2_eq_d {d e : PyData} (h1 : SeqAt.shaped d = true) (h2 : SeqAt.shaped e = true) (r : R (.d (.bool (PyData.eqv d e))) O) : W2 K (rEqq K) (.d d) (.d e) O R := w2_r fun F as H x y Q S rx ry t =>
  ⟨d, e, dp_same S.ex _ _ rx, dp_same S.ex _ _ ry, h1, h2, t.go S (show CR K F as (.d (.bool (PyData.eqv d e))) _ from .bl _) r⟩
theorem w2_ne_d {d e : PyData} (h1 : SeqAt.shaped d = true) (h2 : SeqAt.shaped e = true) (r : R (.d (.bool (!PyData.eqv d e))) O) : W2 K (rNeq K) (.d d) (.d e) O R := w2_r fun F as H x y Q S rx ry t =>
  ⟨d, e, dp_same S.ex _ _ rx, dp_same S.ex _ _ ry, h1, h2, t.go S (show CR K F as (.d (.bool (!PyData.eqv d e))) _ from .bl _) r⟩
theorem w2_lt {i j : Int} (r : R (.d (.bool (decide (i < j)))) O) : W2 K (rI0 fun i j => .bl (decide (i < j))) (.d (.int i)) (.d (.int j)) O R := w2_int (fun F => .bl _) r
theorem w2_le {i j : Int} (r : R (.d (.bool (decide (i ≤ j)))) O) : W2 K (rI0 fun i j => .bl (decide (i ≤ j))) (.d (.int i)) (.d (.int j)) O R := w2_int (fun F => .bl _) r
theorem w2_gt {i j : Int} (r : R (.d (.bool (decide (j < i)))) O) : W2 K (rI0 fun i j => .bl (decide (j < i))) (.d (.int i)) (.d (.int j)) O R := w2_int (fun F => .bl _) r
theorem w2_ge {i j : Int} (r : R (.d (.bool (decide (j ≤ i)))) O) : W2 K (rI0 fun i j => .bl (decide (j ≤ i))) (.d (.int i)) (.d (.int j)) O R := w2_int (fun F => .bl _) r
/-! ### is -/
def isN : PyData → Bool
  | .none => true
  | _ => false
def rIss : R2 := fun x y H Q => (y = .non ∧ Q (.bl (decide (x = .non))) H) ∨ rIsB x y H Q
def rIsnt : R2 := fun x y H Q => (y = .non ∧ Q (.bl (!decide (x = .non))) H) ∨ rNotB x y H Q
theorem op_iss {X : Cx} : OpR X (compareOp .Is) rIss := opor op_isN op_isBl
theorem op_isnt {X : Cx} : OpR X (compareOp .IsNot) rIsnt := opor op_notN op_notBl
theorem isN_dec {v : V} {d : PyData} (h : Dp K F v d) : decide (v = .non) = isN d := by cases h <;> rfl
theorem w2_is_non {d : PyData} (r : R (.d (.bool (isN d))) O) : W2 K rIss (.d d) (.d .none) O R := fun F as H x y Q S rx ry t => .inl (by
  cases ry
  rw [isN_dec (show Dp K F x d from rx)]
  exact ⟨rfl, t.go S (show CR K F as (.d (.bool (isN d))) _ from .bl _) r⟩)
theorem w2_isnt_non {d : PyData} (r : R (.d (.bool (!isN d))) O) : W2 K rIsnt (.d d) (.d .none) O R := fun F as H x y Q S rx ry t => .inl (by
  cases ry
  rw [isN_dec (show Dp K F x d from rx)]
  exact ⟨rfl, t.go S (show CR K F as (.d (.bool (!isN d))) _ from .bl _) r⟩)
theorem w2_is_bl {i j : Bool} (r : R (.d (.bool (decide (i = j)))) O) : W2 K rIss (.d (.bool i)) (.d (.bool j)) O R := fun F as H x y Q S rx ry t => .inr (by
  cases rx
  cases ry
  exact ⟨i, j, rfl, rfl, t.go S (show CR K F as (.d (.bool (decide (i = j)))) _ from .bl _) r⟩)
theorem w2_isnt_bl {i j : Bool} (r : R (.d (.bool (!decide (i = j)))) O) : W2 K rIsnt (.d (.bool i)) (.d (.bool j)) O R := fun F as H x y Q S rx ry t => .inr (by
  cases rx
  cases ry
  exact ⟨i, j, rfl, rfl, t.go S (show CR K F as (.d (.bool (!decide (i = j)))) _ from .bl _) r⟩)
/-! ### items -/
theorem w2_ix_own {k : Nat} {i : Int} {cs : List C} {c : C} (hO : O[k]? = some (.lst cs)) (hi : atI cs i = some c) (r : R c O) : W2 K (rIx K) (.o k) (.d (.int i)) O R := fun F as H x y Q S rx ry t => by
  obtain ⟨a, ha, rfl⟩ := rx
  cases ry
  obtain ⟨_, vs, e1, p1⟩ := S.lst ha hO
  obtain ⟨j, hj, hx⟩ := atI_rel (pr_len p1) hi
  obtain ⟨v, hv, rv⟩ := cget p1 hj
  exact .inl ⟨a, vs, i, v, rfl, rfl, SqL.of e1, by unfold atI; rw [hx]; exact hv, t.go S rv r⟩
theorem w2_ix_tup {i : Int} {ds : List PyData} {d : PyData} (hi : atI ds i = some d) (r : R (.d d) O) : W2 K (rIx K) (.d (.tuple ds)) (.d (.int i)) O R := fun F as H x y Q S rx ry t => by
  cases ry
  cases rx with
  | tup h a =>
    obtain ⟨j, hj, hx⟩ := atI_rel (dpall_len a).symm hi
    obtain ⟨v, hv, rv⟩ := dget a hj
    exact .inr (.inl ⟨_, _, i, v, rfl, rfl, same_t S.ex h, by unfold atI; rw [hx]; exact hv, t.go S (show CR K F as (.d d) v from rv) r⟩)
theorem w2_ix_lst {i : Int} {ds : List PyData} {d : PyData} (hi : atI ds i = some d) (r : R (.d d) O) : W2 K (rIx K) (.d (.list ds)) (.d (.int i)) O R := fun F as H x y Q S rx ry t => by
  cases ry
  cases rx with
  | lst h a =>
    obtain ⟨j, hj, hx⟩ := atI_rel (dpall_len a).symm hi
    obtain ⟨v, hv, rv⟩ := dget a hj
    exact .inl ⟨_, _, i, v, rfl, rfl, S.ex.seq h, by unfold atI; rw [hx]; exact hv, t.go S (show CR K F as (.d d) v from rv) r⟩
theorem w2_ix_str {i : Int} {z : Str} {c : Nat} (hz : z.length ≤ sizeLine) (hi : atI z.cps.toList i = some c) (r : R (.d (.str ⟨#[c]⟩)) O) : W2 K (rIx K) (.d (.str z)) (.d (.int i)) O R := fun F as H x y Q S rx ry t => by
  cases rx
  cases ry
  exact .inr (.inr ⟨z, i, c, rfl, rfl, hz, hi, t.go S (show CR K F as (.d (.str ⟨#[c]⟩)) _ from .str _) r⟩)
/-! ### built-ins -/
theorem wc_len_tup {ds : List PyData} (r : R (.d (.int ds.length)) O) : Wc K (fun xs H Q => ∃ x n, xs = [x] ∧ LenV K x H n ∧ Q (.int n) H) [.d (.tuple ds)] O R := fun F as H xs Q S rx t => by
  cases rx with
  | cons rx r0 =>
    cases r0
    cases rx with
    | tup h a => exact ⟨_, ds.length, rfl, .inr ⟨_, same_t S.ex h, (dpall_len a).symm⟩, t.go S (show CR K F as (.d (.int ds.length)) _ from .int _) r⟩
theorem wc_len_lst {ds : List PyData} (r : R (.d (.int ds.length)) O) : Wc K (fun xs H Q => ∃ x n, xs = [x] ∧ LenV K x H n ∧ Q (.int n) H) [.d (.list ds)] O R := fun F as H xs Q S rx t => by
  cases rx with
  | cons rx r0 =>
    cases r0
    cases rx with
    | lst h a => exact ⟨_, ds.length, rfl, .inl ⟨_, S.ex.seq h, (dpall_len a).symm⟩, t.go S (show CR K F as (.d (.int ds.length)) _ from .int _) r⟩
theorem wc_len_own {k : Nat} {cs : List C} (hO : O[k]? = some (.lst cs)) (r : R (.d (.int cs.length)) O) : Wc K (fun xs H Q => ∃ x n, xs = [x] ∧ LenV K x H n ∧ Q (.int n) H) [.o k] O R := fun F as H xs Q S rx t => by
  cases rx with
  | cons rx r0 =>
    cases r0
    obtain ⟨a, ha, rfl⟩ := rx
    obtain ⟨_, vs, e1, p1⟩ := S.lst ha hO
    exact ⟨_, cs.length, rfl, .inl ⟨_, SqL.of e1, pr_len p1⟩, t.go S (show CR K F as (.d (.int cs.length)) _ from .int _) r⟩
theorem wc_len_str {z : Str} (hz : z.length ≤ sizeLine) (r : R (.d (.int z.length)) O) : Wc K (fun xs H Q => ∃ x n, xs = [x] ∧ LenV K x H n ∧ Q (.int n) H) [.d (.str z)] O R := fun F as H xs Q S rx t => by
  cases rx with
  | cons rx r0 =>
    cases r0
    cases rx
    exact ⟨_, z.length, rfl, ⟨hz, rfl⟩, t.go S (show CR K F as (.d (.int z.length)) _ from .int _) r⟩
theorem wc_abs {i : Int} (r : R (.d (.int (if i < 0 then -i else i))) O) : Wc K (fun xs H Q => ∃ i, xs = [V.int i] ∧ Q (V.int (if i < 0 then -i else i)) H) [.d (.int i)] O R := fun F as H xs Q S rx t => by
  cases rx with
  | cons rx r0 =>
    cases r0
    cases rx
    exact ⟨i, rfl, t.go S (show CR K F as (.d (.int (if i < 0 then -i else i))) _ from .int _) r⟩
abbrev rInt1 : List V → Hp → VK → Prop := fun xs H Q => (∃ i, xs = [V.int i] ∧ Q (V.int i) H) ∨ ∃ k, xs = [V.bl k] ∧ Q (V.int (if k = true then 1 else 0)) H
theorem wc_int {i : Int} (r : R (.d (.int i)) O) : Wc K rInt1 [.d (.int i)] O R := fun F as H xs Q S rx t => by
  cases rx with
  | cons rx r0 =>
    cases r0
    cases rx
    exact .inl ⟨i, rfl, t.go S (show CR K F as (.d (.int i)) _ from .int _) r⟩
theorem wc_int_bl {k : Bool} (r : R (.d (.int (if k = true then 1 else 0))) O) : Wc K rInt1 [.d (.bool k)] O R := fun F as H xs Q S rx t => by
  cases rx with
  | cons rx r0 =>
    cases r0
    cases rx
    exact .inr ⟨k, rfl, t.go S (show CR K F as (.d (.int (if k = true then 1 else 0))) _ from .int _) r⟩
abbrev rTupOf (K : PySem.W.Frag) : List V → Hp → VK → Prop := fun xs H Q => ∃ p ys, xs = [V.ref p] ∧ ((SqL K H p ys ∧ ∀ (l : Addr), H l = none → Q (V.ref l) (upd H l (HO.tup ys))) ∨ SqT K H p ys ∧ Q (V.ref p) H)
theorem wc_tuple_own {k : Nat} {cs : List C} {ds : List PyData} (hO : O[k]? = some (.lst cs)) (hd : allD cs = some ds) (r : R (.d (.tuple ds)) O) : Wc K (rTupOf K) [.o k] O R := fun F as H xs Q S rx t => by
  cases rx with
  | cons rx r0 =>
    cases r0
    obtain ⟨a, ha, rfl⟩ := rx
    obtain ⟨_, vs, e1, p1⟩ := S.lst ha hO
    refine ⟨a, vs, rfl, .inl ⟨SqL.of e1, fun p hp => ?_⟩⟩
    obtain ⟨S2, g2⟩ := S.froze (o := .tup vs) hp
    exact t _ _ (.d (.tuple ds)) _ _ _ g2 S2 (.tup (.inl (.inl upd_same)) (dp_sameAll g2.fr _ _ (all_cs p1 hd))) r
theorem wc_tuple_lst {ds : List PyData} (r : R (.d (.tuple ds)) O) : Wc K (rTupOf K) [.d (.list ds)] O R := fun F as H xs Q S rx t => by
  cases rx with
  | cons rx r0 =>
    cases r0
    cases rx with
    | lst h a =>
      refine ⟨_, _, rfl, .inl ⟨S.ex.seq h, fun p hp => ?_⟩⟩
      obtain ⟨S2, g2⟩ := S.froze (o := .tup _) hp
      exact t _ _ (.d (.tuple ds)) _ _ _ g2 S2 (.tup (.inl (.inl upd_same)) (dp_sameAll g2.fr _ _ a)) r
abbrev rListOf (K : PySem.W.Frag) : List V → Hp → VK → Prop := fun xs H Q => ∃ p ys, xs = [V.ref p] ∧ (SqL K H p ys ∨ SqT K H p ys) ∧ ∀ (l : Addr), H l = none → Q (V.ref l) (upd H l (HO.lst ys))
/-- list(x): never written -/
theorem wc_list_frz {ds : List PyData} {d : PyData} (hd : d = .list ds ∨ d = .tuple ds) (r : R (.d (.list ds)) O) : Wc K (rListOf K) [.d d] O R := fun F as H xs Q S rx t => by
  cases rx with
  | cons rx r0 =>
    cases r0
    rcases hd with rfl | rfl
    · cases rx with
      | lst h a =>
        refine ⟨_, _, rfl, .inl (S.ex.seq h), fun p hp => ?_⟩
        obtain ⟨S2, g2⟩ := S.froze (o := .lst _) hp
        exact t _ _ (.d (.list ds)) _ _ _ g2 S2 (.lst (.inl (.inl upd_same)) (dp_sameAll g2.fr _ _ a)) r
    · cases rx with
      | tup h a =>
        refine ⟨_, _, rfl, .inr (same_t S.ex h), fun p hp => ?_⟩
        obtain ⟨S2, g2⟩ := S.froze (o := .lst _) hp
        exact t _ _ (.d (.list ds)) _ _ _ g2 S2 (.lst (.inl (.inl upd_same)) (dp_sameAll g2.fr _ _ a)) r
/-! ### isinstance -/
def isTup : PyData → Bool
  | .tuple _ => true
  | _ => false
def isLst : PyData → Bool
  | .list _ => true
  | _ => false
def isInt : PyData → Bool
  | .int _ => true
  | .bool _ => true
  | _ => false
def isBl : PyData → Bool
  | .bool _ => true
  | _ => false
def tyName : PyData → String
  | .none => "NoneType"
  | .bool _ => "bool"
  | .int _ => "int"
  | .str _ => "str"
  | .list _ => "list"
  | .tuple _ => "tuple"
  | .dict _ => "dict"
theorem tyX_of {v : V} {d : PyData} (h : Dp K F v d) (e : Same F H) : TyX K H v (.type (tyName d)) := by
  cases h with
  | non => exact .base .non
  | bl b => exact .base (.bl b)
  | int i => exact .base (.int i)
  | str x => exact .base (.str x)
  | lst hs _ =>
    rcases e.seq hs with (q | ⟨o, q⟩) | ⟨o, its, n, q, c, _⟩
    · exact .base (.lst q)
    · exact .base (.frz q)
    · exact .kList q c
  | tup hs _ =>
    rcases same_t e hs with (q | ⟨o, q⟩) | ⟨o, its, n, q, c, _⟩
    · exact .base (.tup q)
    · exact .fTuple q
    · exact .kTuple q c
end
end T

set_option Elab.async false
set_option linter.all false
set_option maxRecDepth 100000
set_option maxHeartbeats 1000000
namespace T
open PySem PySem.Spec PyProof.Rows L2

/-! ### targets -/
def wpG (Y : Fam) (tg : Expr) : TG := fun v σ H Q => ∀ i pins s u, Inv (Y.X i) pins σ H s → RelV v u → wpAny (model (Y.X i).prog (Y.X i).w) (Y.X i).A (assign tg (Y.X i).env u) (fun _ s' => ∃ σ' H', Inv (Y.X i) pins σ' H' s' ∧ Q σ' H') (Y.X i).xe s
def wpGs (Y : Fam) (ts : List Expr) : TGs := fun vs σ H Q => ∀ i pins s us, Inv (Y.X i) pins σ H s → Vals vs us → wpAny (model (Y.X i).prog (Y.X i).w) (Y.X i).A (assignInOrder ((assignEach ts (Y.X i).env).map (·.2)) us) (fun _ s' => ∃ σ' H', Inv (Y.X i) pins σ' H' s' ∧ Q σ' H') (Y.X i).xe s
section
variable {Y : Fam}
theorem pgW {tg : Expr} (i : Y.ι) : PG (Y.X i) tg (wpG Y tg) := ⟨fun pins s σ H v u Q I r h => h i pins s u I r⟩
theorem pgsW {ts : List Expr} (i : Y.ι) : PGs (Y.X i) ts (wpGs Y ts) := ⟨fun pins s σ H vs us Q I r h => h i pins s us I r⟩
theorem wpG_of {tg : Expr} {t : TG} (h : ∀ i, PG (Y.X i) tg t) {v σ H Q} (q : t v σ H Q) : wpG Y tg v σ H Q := fun i pins s u I r => (h i).run pins s σ H v u Q I r q
theorem wpGs_of {ts : List Expr} {t : TGs} (h : ∀ i, PGs (Y.X i) ts t) {v σ H Q} (q : t v σ H Q) : wpGs Y ts v σ H Q := fun i pins s u I r => (h i).run pins s σ H v u Q I r q
end
def XG (Y : Fam) (tg : Expr) (c : C) (Γ : Gam) (O : Sto) (R : Gam → Sto → Prop) : Prop := ∀ F as σ H v Q, Sat Y.K F H as O → SlR Y.K F as Γ σ → ThX Y F as → CR Y.K F as c v → Thn Y.K (SlR Y.K) F as R Q → wpG Y tg v σ H Q
def XGs (Y : Fam) (ts : List Expr) (cs : List C) (Γ : Gam) (O : Sto) (R : Gam → Sto → Prop) : Prop := ∀ F as σ H vs Q, Sat Y.K F H as O → SlR Y.K F as Γ σ → ThX Y F as → Paired (CR Y.K F as) cs vs → Thn Y.K (SlR Y.K) F as R Q → wpGs Y ts vs σ H Q
def WSet (K : PySem.W.Frag) (r : TSet) (co ci c : C) (O : Sto) (R : Sto → Prop) : Prop := ∀ F as H o i v Q, Sat K F H as O → CR K F as co o → CR K F as ci i → CR K F as c v → (∀ F' as' O' H', Gr F as F' as' → Sat K F' H' as' O' → R O' → Q H') → r o i v H Q
section
variable {Y : Fam} {e a b c iter tg : Expr} {es body : List Expr} {sts : List Stmt} {Γ : Gam} {O : Sto} {R : C → Sto → Prop} {RG : Gam → Sto → Prop} {E : En} {pos p : Pos} {x : Str}
theorem xg_name (i : Nat) {g : C} (hi : Y.N[i]? = some x) (r : RG (Γ.set i (some g)) O) (hx : ∀ j, Loc (Y.X j).env.scope x := by first | exact fun _ => Or.inl rfl | exact fun _ => Or.inr rfl)
    (hf : ∀ j, (Y.X j).fn x = true ∨ (Y.X j).env.scope.names.lookup x = some .local := by first | exact fun _ => .inl rfl | exact fun _ => .inr rfl) : XG Y (.Name x pos) g Γ O RG := fun F as σ H v Q S L tx rv t =>
  wpG_of (fun j => pg_name (i := i) (by rw [Y.hN]; exact Y.nd) (by rw [Y.hN]; exact hi) (hx j) (hf j)) (t.go S (L.set rv i) r)
theorem xgs_nil (r : RG Γ O) : XGs Y [] [] Γ O RG := fun F as σ H vs Q S L tx rv t => by
  cases rv
  exact wpGs_of (fun _ => pgs_nil) ⟨rfl, t.go S L r⟩
theorem xgs_cons {g : C} {cs : List C} (h : XG Y e g Γ O fun Γ1 O1 => XGs Y es cs Γ1 O1 RG) (hs : ∀ i, (assignEach (e :: es) (Y.X i).env).map (·.2) = assign e (Y.X i).env :: (assignEach es (Y.X i).env).map (·.2) := by exact fun _ => rfl) : XGs Y (e :: es) (g :: cs) Γ O RG := fun F as σ H vs Q S L tx rv t => by
  cases rv with
  | cons r1 r2 =>
    refine wpGs_of (fun i => pgs_cons (pgW i) (pgsW i) (hs i)) ⟨_, _, rfl, ?_⟩
    exact h F as σ H _ _ S L tx r1 fun F1 as1 Γ1 σ1 O1 H1 g1 S1 L1 h1 => h1 F1 as1 σ1 H1 _ _ S1 L1 (tx.mono g1) (pr_mono g1 r2) (t.mono g1)
theorem xg_tup {z n : Nat} {ds : List PyData} (h : XGs Y es (ds.map C.d) Γ O RG) (hc : Y.cl = true := by rfl) (hl : ds.length = n := by rfl) (hn : ∀ i, (assignEach es (Y.X i).env).length = n := by exact fun _ => rfl) (hst : ∀ i, (assignEach es (Y.X i).env).findIdx? (·.1) = none := by exact fun _ => rfl) :
    XG Y (.Tuple es z pos) (.d (.tuple ds)) Γ O RG := fun F as σ H v Q S L tx rv t => by
  cases rv with
  | @tup a xs _ hs ha =>
    have hK := Y.hK
    refine wpG_of (t := gTup Y.K n (wpGs Y es)) (fun i => by rw [← Y.hK i]; exact pg_tup (Y.calm hc i) (pgsW i) (hn i) (hst i)) ⟨a, xs, rfl, same_t S.ex hs, by rw [dpall_len ha]; exact hl, ?_⟩
    exact h F as σ H xs Q S L tx (of_all ha) t
theorem xg_sub {g : C} {r : TSet} (hs : ∀ i, PSet (Y.X i) r) (h : XE Y a Γ O fun co O1 => XE Y b Γ O1 fun ci O2 => WSet Y.K r co ci g O2 (RG Γ))
    (ha : ∀ i v, assign (.Subscript a b pos) (Y.X i).env v = (do
      let ov ← holding [v] (eval a (Y.X i).env)
      let iv ← holding [v, ov] (eval b (Y.X i).env)
      standAt pos
      holding [v, ov, iv] (setItem ov iv v)
      release [v, ov, iv] []) := by intro _ _; rfl) : XG Y (.Subscript a b pos) g Γ O RG := fun F as σ H v Q S L tx rv t =>
  wpG_of (fun i => pg_sub (peW i) (peW i) (hs i) (ha i)) (h F as σ H _ S L tx fun F1 as1 co o O1 H1 g1 S1 r1 h1 => h1 F1 as1 σ H1 _ S1 (L.mono g1) (tx.mono g1) fun F2 as2 ci i O2 H2 g2 S2 r2 h2 =>
    h2 F2 as2 H2 o i v _ S2 (r1.mono g2) r2 (rv.mono (g1.trans g2)) fun F3 as3 O3 H3 g3 S3 h3 => t F3 as3 Γ σ O3 H3 ((g1.trans g2).trans g3) S3 (L.mono ((g1.trans g2).trans g3)) h3)
theorem pr_set {K : PySem.W.Frag} {F : Hp} {as : List Addr} {c : C} {v : V} (r : CR K F as c v) : ∀ {cs : List C} {vs : List V} (i : Nat), Paired (CR K F as) cs vs → Paired (CR K F as) (cs.set i c) (vs.set i v)
  | _, _, _, .nil => .nil
  | _, _, 0, .cons _ t => .cons r t
  | _, _, i + 1, .cons q t => .cons q (pr_set r i t)
theorem wset_own {K : PySem.W.Frag} {k j : Nat} {i : Int} {cs : List C} {g : C} {R : Sto → Prop} (hO : O[k]? = some (.lst cs)) (hi : ixN cs.length i = some j) (r : R (O.set k (.lst (cs.set j g)))) : WSet K rSetL (.o k) (.d (.int i)) g O R := fun F as H o iv v Q S ro ri rv t => by
  obtain ⟨a, ha, rfl⟩ := ro
  cases ri
  obtain ⟨hF, vs, e1, p1⟩ := S.lst ha hO
  exact ⟨a, vs, i, j, rfl, rfl, e1, by rw [← pr_len p1]; exact hi, t F as _ _ Gr.refl (S.put (u0 := .gone) ha hF (pr_set rv j p1)) r⟩
/-! ### assignments -/
theorem xs_asg (h : XE Y e Γ O fun c O1 => XG Y tg c Γ O1 E.nx) (hs : ∀ i, swapsWithSole [tg] e pos.line (Y.X i).env = pure false := by exact fun _ => rfl) (hw : ∀ i, swappedStores [tg] e (Y.X i).env = pure none := by exact fun _ => rfl)
    (h1 : ∀ i, (assignEach [tg] (Y.X i).env).map (·.2) = [assign tg (Y.X i).env] := by exact fun _ => rfl) : XS Y (.Assign [tg] e pos) Γ O E :=
  xs_of (fun i => ps_asg (peW i) (pgW i) (hs i) (hw i) (h1 i)) fun F as σ H D S L tx t => h F as σ H _ S L tx fun F1 as1 c v O1 H1 g1 S1 r1 h2 =>
    h2 F1 as1 σ H1 v _ S1 (L.mono g1) (tx.mono g1) r1 ((t.mono g1).nx)
theorem xs_aug (i : Nat) {g : C} {op : Operator} {r : R2} {p' : Pos} (ho : ∀ j, OpR (Y.X j) (inplaceOp op) r) (hi : Y.N[i]? = some x) (hg : Γ[i]? = some (some g)) (h : XE Y e Γ O fun c2 O1 => W2 Y.K r g c2 O1 fun z O2 => E.nx (Γ.set i (some z)) O2)
    (hx : ∀ j, Loc (Y.X j).env.scope x := by first | exact fun _ => Or.inl rfl | exact fun _ => Or.inr rfl)
    (hf : ∀ j, (Y.X j).fn x = true ∨ (Y.X j).env.scope.names.lookup x = some .local := by first | exact fun _ => .inl rfl | exact fun _ => .inr rfl) : XS Y (.AugAssign (.Name x p') op e pos) Γ O E :=
  xs_of (fun j => ps_aug (i := i) (by rw [Y.hN]; exact Y.nd) (by rw [Y.hN]; exact hi) (hx j) (peW j) (fun pins s σ H x y v u Q I rx ry h => ho j pins s σ H x y v u Q I rx ry h) (hf j)) fun F as σ H D S L tx t => by
    obtain ⟨v, h1, h2⟩ := L.get hg
    exact ⟨v, h1, h F as σ H _ S L tx fun F1 as1 c2 v2 O1 H1 g1 S1 r1 q => q F1 as1 H1 v v2 _ S1 (h2.mono g1) r1 fun F2 as2 z vz O2 H2 g2 S2 r2 q2 =>
      t.nx F2 as2 _ _ O2 H2 (g1.trans g2) S2 ((L.mono (g1.trans g2)).set r2 i) q2⟩
/-! ### what is walked -/
/-- J yields the data ds, one after another -/
structure JD (K : PySem.W.Frag) (J : It) (ds : List PyData) (F : Hp) : Prop where
  stop : ∀ i H, Same F H → ds.length ≤ i → J.stop i H
  go : ∀ i H, Same F H → i < ds.length → J.go i H
  yld : ∀ i d H x H', Same F H → ds[i]? = some d → J.yld i H x H' → (H' = H ∧ Dp K F x d) ∨ ∃ p o, H p = none ∧ H' = upd H p o ∧ Dp K (upd F p o) x d
theorem JD.mono {K : PySem.W.Frag} {J : It} {ds : List PyData} {F F' : Hp} (j : JD K J ds F) (e : Same F F') : JD K J ds F' := ⟨fun i H s => j.stop i H (e.trans s), fun i H s => j.go i H (e.trans s), fun i d H x H' s hd y => by
  rcases j.yld i d H x H' (e.trans s) hd y with ⟨e1, r⟩ | ⟨p, o, hp, e1, r⟩
  · exact .inl ⟨e1, dp_same e _ _ r⟩
  · exact .inr ⟨p, o, hp, e1, dp_same (fun b u q => by
      by_cases hb : b = p
      · subst hb; rw [upd_same] at q ⊢; exact q
      · rw [upd_ne hb] at q ⊢; exact e b u q) _ _ r⟩⟩
def wpI (Y : Fam) (tg iter : Expr) : TI := fun σ H R => ∀ i pins s, Inv (Y.X i) pins σ H s → wpAny (model (Y.X i).prog (Y.X i).w) (Y.X i).A (eval iter (Y.X i).env) (fun v s1 => wpAny (model (Y.X i).prog (Y.X i).w) (Y.X i).A (pyIter v) (PIE (Y.X i) pins σ tg R) (Y.X i).xe s1) (Y.X i).xe s
theorem piW (i : Y.ι) : PI (Y.X i) tg iter (wpI Y tg iter) := ⟨fun pins s σ H R I h => h i pins s I⟩
theorem wpI_of {wi : TI} (h : ∀ i, PI (Y.X i) tg iter wi) {σ H R} (q : wi σ H R) : wpI Y tg iter σ H R := fun i pins s I => (h i).run pins s σ H R I q
def XI (Y : Fam) (tg iter : Expr) (Γ : Gam) (O : Sto) (RI : List PyData → Sto → Prop) : Prop := ∀ F as σ H R, Sat Y.K F H as O → SlR Y.K F as Γ σ → ThX Y F as → (∀ F' as' J ds O' H', Gr F as F' as' → Sat Y.K F' H' as' O' → JD Y.K J ds F' → RI ds O' → R J H') → wpI Y tg iter σ H R
def rng (lo : Int) (n : Nat) : List PyData := (List.range n).map fun i => .int (lo + (i : Nat))
theorem rng_len {lo : Int} {n : Nat} : (rng lo n).length = n := by simp [rng]
theorem rng_get {lo : Int} {n i : Nat} {d : PyData} (h : (rng lo n)[i]? = some d) : i < n ∧ d = .int (lo + (i : Nat)) := by
  unfold rng at h
  rw [List.getElem?_map] at h
  by_cases hi : i < n
  · rw [List.getElem?_range hi] at h
    exact ⟨hi, (Option.some.inj h).symm⟩
  · rw [List.getElem?_eq_none (by simpa using hi)] at h
    cases h
theorem jd_rng {K : PySem.W.Frag} {lo : Int} {n : Nat} {F : Hp} : JD K (Itr lo n) (rng lo n) F := ⟨fun i H _ h => by rw [rng_len] at h; exact h, fun i H _ h => by rw [rng_len] at h; exact h, fun i d H x H' _ hd y => by
  obtain ⟨_, rfl⟩ := rng_get hd
  obtain ⟨e, rfl⟩ := y
  exact .inl ⟨e, .int _⟩⟩
variable {RI : List PyData → Sto → Prop}
theorem xi_range1 (hm : Y.mg "range" = none) (h : XA Y [a] Γ O fun cs O1 => ∃ n : Int, cs = [.d (.int n)] ∧ (-(2 ^ 62) ≤ n ∧ n < 2 ^ 62) ∧ RI (rng 0 n.toNat) O1) (hg : ∀ i, Gl (Y.X i) "range" := by exact fun _ => rfl) (hs : ∀ i, starEach [a] (Y.X i).env = [(false, eval a (Y.X i).env)] := by exact fun _ => rfl) :
    XI Y tg (.Call (.Name "range" p) [a] [] pos) Γ O RI := fun F as σ H R S L tx t => wpI_of (fun i => pi_range1 (hg i) (by rw [Y.hmg]; exact hm) (paW i) (hs i)) (h F as σ H _ S L tx fun F1 as1 cs vs O1 H1 g1 S1 r1 ⟨n, e, ⟨b1, b2⟩, h1⟩ => by
  subst e
  cases r1 with
  | cons r r0 =>
    cases r0
    cases r
    exact ⟨n, rfl, b1, b2, t F1 as1 _ _ O1 H1 g1 S1 jd_rng h1⟩)
theorem xi_range2 (hm : Y.mg "range" = none) (h : XA Y [a, b] Γ O fun cs O1 => ∃ m n : Int, cs = [.d (.int m), .d (.int n)] ∧ (-(2 ^ 62) ≤ m ∧ m < 2 ^ 62 ∧ -(2 ^ 62) ≤ n ∧ n < 2 ^ 62) ∧ RI (rng m (n - m).toNat) O1) (hg : ∀ i, Gl (Y.X i) "range" := by exact fun _ => rfl)
    (hs : ∀ i, starEach [a, b] (Y.X i).env = [(false, eval a (Y.X i).env), (false, eval b (Y.X i).env)] := by exact fun _ => rfl) (hs2 : ∀ i, starEach [b] (Y.X i).env = [(false, eval b (Y.X i).env)] := by exact fun _ => rfl) :
    XI Y tg (.Call (.Name "range" p) [a, b] [] pos) Γ O RI := fun F as σ H R S L tx t => wpI_of (fun i => pi_range2 (hg i) (by rw [Y.hmg]; exact hm) (paW i) (hs i) (hs2 i)) (h F as σ H _ S L tx fun F1 as1 cs vs O1 H1 g1 S1 r1 ⟨m, n, e, bs, h1⟩ => by
  subst e
  cases r1 with
  | cons r r0 =>
    cases r0 with
    | cons r' r0 =>
      cases r0
      cases r
      cases r'
      exact ⟨m, n, rfl, bs, t F1 as1 _ _ O1 H1 g1 S1 jd_rng h1⟩)
/-- a list or a tuple, whatever it is -/
def iSeq (K : PySem.W.Frag) (tl : TE) : TI := fun σ H R => tl σ H fun x H1 => ∃ a, x = .ref a ∧ (((∃ xs, SqL K H1 a xs) ∧ R (Itl K a) H1) ∨ ((∃ xs, SqT K H1 a xs) ∧ R (Itt K a) H1))
theorem pi_seq {X : Cx} {l : Expr} {tl : TE} (hl : PE X l tl) : PI X tg l (iSeq X.K tl) := by
  refine ⟨fun pins s σ H R I h => ?_⟩
  refine thn (hl.run pins s σ H _ I h) fun v s1 ⟨x, H1, I1, r1, q1⟩ => ?_
  obtain ⟨a, e, q | q⟩ := q1
  · obtain ⟨⟨xs, hq⟩, q⟩ := q
    subst e
    cases r1
    obtain ⟨its, rv, p, hz⟩ := I1.list hq
    refine wpAny_pyIter_list p.isList ?_
    refine ⟨s1.heap.objs.size, [s1.heap.objs.size], _, _, H1, rfl, I1.kept (t' := s1.toks) fun b o e => Heap.get?_push_of_some _ e, turn_list a _, ⟨_, Heap.get?_push_size _ rfl, rfl, rfl⟩, fun b hb => ?_, q⟩
    have e : b = s1.heap.objs.size := by simpa using hb
    subst e
    exact I1.fpOk (Nat.le_refl _) (I1.hok.fresh (Nat.le_refl _))
  · obtain ⟨⟨xs, hq⟩, q⟩ := q
    subst e
    cases r1
    obtain ⟨its, rv, p, hz⟩ := I1.tuple hq
    refine wpAny_pyIter_tuple (show s1.heap.IsTuple a its.toArray from p) ?_
    refine ⟨s1.heap.objs.size, [s1.heap.objs.size], _, _, H1, rfl, I1.kept (t' := s1.toks) fun b o e => Heap.get?_push_of_some _ e, turn_tuple a _, ⟨_, Heap.get?_push_size _ rfl, rfl, rfl⟩, fun b hb => ?_, q⟩
    have e : b = s1.heap.objs.size := by simpa using hb
    subst e
    exact I1.fpOk (Nat.le_refl _) (I1.hok.fresh (Nat.le_refl _))
def IsSeq (c : C) (ds : List PyData) : Prop := c = .d (.list ds) ∨ c = .d (.tuple ds)
theorem xi_seq (h : XE Y iter Γ O fun c O1 => ∃ ds, IsSeq c ds ∧ RI ds O1) : XI Y tg iter Γ O RI := fun F as σ H R S L tx t => wpI_of (wi := iSeq Y.K (wpE Y iter)) (fun i => by rw [← Y.hK i]; exact pi_seq (peW i)) (h F as σ H _ S L tx fun F1 as1 c v O1 H1 g1 S1 r1 ⟨ds, e, h1⟩ => by
  rcases e with rfl | rfl
  · cases r1 with
    | @lst a xs _ hs ha =>
      refine ⟨a, rfl, .inl ⟨⟨xs, S1.ex.seq hs⟩, t F1 as1 _ ds O1 H1 g1 S1 ⟨fun i H' e' hi => ⟨xs, e'.seq hs, by rw [dpall_len ha]; exact hi⟩, fun i H' e' hi => ?_, fun i d H' x H'' e' hd y => ?_⟩ h1⟩⟩
      · have hi' : i < xs.length := by rw [dpall_len ha]; exact hi
        exact ⟨xs, xs[i], e'.seq hs, List.getElem?_eq_getElem hi'⟩
      · obtain ⟨v, hv, rv⟩ := dget ha hd
        have e2 : x = v := Option.some.inj ((y.2 xs (e'.seq hs)).symm.trans hv)
        subst e2
        exact .inl ⟨y.1, rv⟩
  · cases r1 with
    | @tup a xs _ hs ha =>
      refine ⟨a, rfl, .inr ⟨⟨xs, same_t S1.ex hs⟩, t F1 as1 _ ds O1 H1 g1 S1 ⟨fun i H' e' hi => ⟨xs, same_t e' hs, by rw [dpall_len ha]; exact hi⟩, fun i H' e' hi => ?_, fun i d H' x H'' e' hd y => ?_⟩ h1⟩⟩
      · have hi' : i < xs.length := by rw [dpall_len ha]; exact hi
        exact ⟨xs, xs[i], same_t e' hs, List.getElem?_eq_getElem hi'⟩
      · obtain ⟨v, hv, rv⟩ := dget ha hd
        have e2 : x = v := Option.some.inj ((y.2 xs (same_t e' hs)).symm.trans hv)
        subst e2
        exact .inl ⟨y.1, rv⟩)
/-- an item has come -/
theorem jd_item {K : PySem.W.Frag} {J : It} {ds : List PyData} {F H H' : Hp} {as : List Addr} {i : Nat} {d : PyData} {x : V} (j : JD K J ds F) (S : Sat K F H as O) (hd : ds[i]? = some d) (y : J.yld i H x H') : ∃ F', Gr F as F' as ∧ Sat K F' H' as O ∧ Dp K F' x d := by
  rcases j.yld i d H x H' S.ex hd y with ⟨e, r⟩ | ⟨p, o, hp, e, r⟩
  · subst e
    exact ⟨F, Gr.refl, S, r⟩
  · subst e
    obtain ⟨S2, g2⟩ := S.froze (o := o) hp
    exact ⟨_, g2, S2, r⟩
/-! ### for, while -/
theorem xs_for (h : XI Y tg iter Γ O fun ds O1 => ∃ Pv : Nat → Gam → Sto → Prop, Pv 0 Γ O1 ∧ (∀ i d Γ' O', ds[i]? = some d → Pv i Γ' O' → XG Y tg (.d d) Γ' O' fun Γ2 O2 => XB Y sts Γ2 O2 { E with nx := Pv (i + 1), ct := Pv (i + 1), bk := E.nx }) ∧ (∀ Γ' O', Pv ds.length Γ' O' → E.nx Γ' O'))
    (hc : Y.cl = true := by rfl) (hs : ∀ i x, foldedSetIterable iter (Y.X i).env x = pure x := by intro _ _; rfl) : XS Y (.For tg iter sts [] pos) Γ O E :=
  xs_of (fun i => ps_for (Y.own i) (Y.calm hc i) (piW i) (pgW i) (pbW i) (hs i)) fun F as σ H D S L tx t => h F as σ H _ S L tx fun F1 as1 J ds O1 H1 g1 S1 j1 ⟨Pv, p0, ps, pd⟩ => by
    refine ⟨fun i m σ' H' => i ≤ ds.length ∧ m = ds.length - i ∧ ∃ F' as' Γ' O', Gr F1 as1 F' as' ∧ Sat Y.K F' H' as' O' ∧ SlR Y.K F' as' Γ' σ' ∧ Pv i Γ' O', ⟨ds.length, Nat.zero_le _, by omega, F1, as1, Γ, O1, Gr.refl, S1, L.mono g1, p0⟩, ?_⟩
    rintro i m σ' H' ⟨hi, rfl, F2, as2, Γ2, O2, g2, S2, L2', p2⟩
    have j2 := j1.mono g2.fr
    by_cases hlt : i < ds.length
    · refine .inr ⟨j2.go i H' S2.ex hlt, fun σ3 H3 => ∃ F' as' Γ' O', Gr F1 as1 F' as' ∧ Sat Y.K F' H3 as' O' ∧ SlR Y.K F' as' Γ' σ3 ∧ Pv (i + 1) Γ' O', fun σ3 H3 ⟨F', as', Γ', O', a1, a2, a3, a4⟩ => ⟨ds.length - (i + 1), by omega, hlt, rfl, F', as', Γ', O', a1, a2, a3, a4⟩, fun x H3 y => ?_⟩
      obtain ⟨F3, g3, S3, r3⟩ := jd_item j2 S2 (List.getElem?_eq_getElem hlt) y
      refine ps i _ Γ2 O2 (List.getElem?_eq_getElem hlt) p2 F3 as2 σ' H3 x _ S3 (L2'.mono g3) (tx.mono ((g1.trans g2).trans g3)) r3 fun F4 as4 Γ4 σ4 O4 H4 g4 S4 L4 b4 => ?_
      have gg := ((g1.trans g2).trans g3).trans g4
      have gn : ∀ {F' as'}, Gr F4 as4 F' as' → Gr F1 as1 F' as' := fun g => (((g2.trans g3).trans g4)).trans g
      exact b4 F4 as4 σ4 H4 _ S4 L4 (tx.mono gg) ⟨fun F5 as5 Γ5 σ5 O5 H5 g5 S5 L5 q5 => ⟨F5, as5, Γ5, O5, gn g5, S5, L5, q5⟩, (t.mono gg).rt, (t.mono gg).nx, fun F5 as5 Γ5 σ5 O5 H5 g5 S5 L5 q5 => ⟨F5, as5, Γ5, O5, gn g5, S5, L5, q5⟩⟩
    · have e : i = ds.length := by omega
      subst e
      exact .inl ⟨j2.stop _ H' S2.ex (Nat.le_refl _), t.nx F2 as2 Γ2 σ' O2 H' (g1.trans g2) S2 L2' (pd Γ2 O2 p2)⟩
theorem xs_while (Wm : Nat → Gam → Sto → Prop) (m0 : Nat) (h0 : Wm m0 Γ O) (hb : ∀ m Γ' O', Wm m Γ' O' → XT Y e Γ' O' fun k O1 => (k = true → XB Y sts Γ' O1 { E with nx := fun Γ2 O2 => ∃ m', m' < m ∧ Wm m' Γ2 O2, ct := fun Γ2 O2 => ∃ m', m' < m ∧ Wm m' Γ2 O2, bk := E.nx }) ∧ (k = false → E.nx Γ' O1)) :
    XS Y (.While e sts [] pos) Γ O E :=
  xs_of (fun i => ps_while (Y.own i) (ptW i) (pbW i)) fun F as σ H D S L tx t => by
    refine ⟨fun m σ' H' => ∃ F' as' Γ' O', Gr F as F' as' ∧ Sat Y.K F' H' as' O' ∧ SlR Y.K F' as' Γ' σ' ∧ Wm m Γ' O', ⟨m0, F, as, Γ, O, Gr.refl, S, L, h0⟩, ?_⟩
    rintro m σ' H' ⟨F2, as2, Γ2, O2, g2, S2, L2', p2⟩
    refine hb m Γ2 O2 p2 F2 as2 σ' H' _ S2 L2' (tx.mono g2) fun F3 as3 k v O3 H3 g3 S3 r3 h3 => ?_
    subst r3
    have gg := g2.trans g3
    cases k with
    | true =>
      refine iteT ⟨fun σ4 H4 => ∃ m', m' < m ∧ ∃ F' as' Γ' O', Gr F as F' as' ∧ Sat Y.K F' H4 as' O' ∧ SlR Y.K F' as' Γ' σ4 ∧ Wm m' Γ' O', fun σ4 H4 q => q, ?_⟩
      refine h3.1 rfl F3 as3 σ' H3 _ S3 (L2'.mono g3) (tx.mono gg) ⟨fun F5 as5 Γ5 σ5 O5 H5 g5 S5 L5 ⟨m', lt, q5⟩ => ⟨m', lt, F5, as5, Γ5, O5, gg.trans g5, S5, L5, q5⟩, (t.mono gg).rt, (t.mono gg).nx, fun F5 as5 Γ5 σ5 O5 H5 g5 S5 L5 ⟨m', lt, q5⟩ => ⟨m', lt, F5, as5, Γ5, O5, gg.trans g5, S5, L5, q5⟩⟩
    | false => exact iteF (t.nx F3 as3 Γ2 σ' O3 H3 gg S3 (L2'.mono g3) (h3.2 rfl))
end
end T

set_option Elab.async false
set_option linter.all false
set_option maxRecDepth 100000
set_option maxHeartbeats 1000000
namespace T
open PySem PySem.Spec PyProof.Rows L2

/-! ### no reference leads out of the store -/
def clC (n : Nat) : C → Prop
  | .d _ => True
  | .o k => k < n
def clOb (n : Nat) (u : Ob) : Prop := ∀ c ∈ u.kids, clC n c
def Clo (n : Nat) (O : Sto) : Prop := ∀ u ∈ O, clOb n u
section
variable {K : PySem.W.Frag} {F H : Hp} {as as' : List Addr} {O O' E2 : Sto}
theorem cl_of {c : C} {v : V} (h : CR K F as c v) : clC as.length c := by
  cases c with
  | d x => trivial
  | o k => obtain ⟨a, ha, _⟩ := h; exact (List.getElem?_eq_some_iff.mp ha).1
theorem cls_of {cs : List C} {vs : List V} (h : Paired (CR K F as) cs vs) : ∀ c ∈ cs, clC as.length c := by
  induction h with
  | nil => intro c hc; cases hc
  | cons r _ ih =>
    intro c hc
    rcases List.mem_cons.mp hc with e | hc
    · subst e; exact cl_of r
    · exact ih c hc
theorem fs_kids {α : Type} {fs : List (α × C)} {gs : List (α × V)} (h : Paired (FsR K F as) fs gs) : ∀ c ∈ fs.map (·.2), clC as.length c := by
  induction h with
  | nil => intro c hc; cases hc
  | cons r _ ih =>
    intro c hc
    rcases List.mem_cons.mp hc with e | hc
    · subst e; exact cl_of r.2
    · exact ih c hc
theorem kx_kids {fs : List (NestedKey × C)} {gs : List (NestedKey × Addr × V)} (h : Paired (KxR K F as) fs gs) : ∀ c ∈ fs.map (·.2), clC as.length c := by
  induction h with
  | nil => intro c hc; cases hc
  | cons r _ ih =>
    intro c hc
    rcases List.mem_cons.mp hc with e | hc
    · subst e; exact cl_of r.2.2.2
    · exact ih c hc
theorem kids_of {ad : Addr} {u : Ob} {o : HO} (h : OR K F as ad u o) : clOb as.length u := by
  cases u with
  | gone => exact h.elim
  | lst cs => obtain ⟨vs, _, r⟩ := h; exact cls_of r
  | dct kvs => obtain ⟨ws, _, r⟩ := h; exact fs_kids r
  | lck kvs => obtain ⟨x, ws, _, r⟩ := h; exact fs_kids r
  | ins cl dx fs => obtain ⟨gs, _, r⟩ := h; exact fs_kids r
  | dkt kvs => obtain ⟨xs, _, r⟩ := h; exact kx_kids r
  | tup cs => obtain ⟨vs, _, r⟩ := h; exact cls_of r
theorem Sat.clo (S : Sat K F H as O) : Clo O.length O := fun u hu => by
  obtain ⟨k, hk⟩ := List.getElem?_of_mem hu
  have hlt : k < as.length := by rw [S.len]; exact (List.getElem?_eq_some_iff.mp hk).1
  rcases S.ob k as[k] u (List.getElem?_eq_getElem hlt) hk with e | ⟨o, _, r, _⟩
  · subst e; intro c hc; cases hc
  · rw [← S.len]; exact kids_of r
theorem cr_back {c : C} {v : V} (r : CR K F as' c v) (p : as <+: as') (h : clC as.length c) : CR K F as c v := by
  cases c with
  | d x => exact r
  | o k =>
    obtain ⟨a, ha, e⟩ := r
    obtain ⟨q, rfl⟩ := p
    rw [List.getElem?_append_left h] at ha
    exact ⟨a, ha, e⟩
theorem crs_back {cs : List C} {vs : List V} (r : Paired (CR K F as') cs vs) (p : as <+: as') (h : ∀ c ∈ cs, clC as.length c) : Paired (CR K F as) cs vs := by
  induction r with
  | nil => exact .nil
  | cons a _ ih => exact .cons (cr_back a p (h _ (by simp))) (ih fun c hc => h c (List.mem_cons_of_mem _ hc))
theorem fs_back {α : Type} {fs : List (α × C)} {gs : List (α × V)} (r : Paired (FsR K F as') fs gs) (p : as <+: as') (h : ∀ c ∈ fs.map (·.2), clC as.length c) : Paired (FsR K F as) fs gs := by
  induction r with
  | nil => exact .nil
  | cons a _ ih => exact .cons ⟨a.1, cr_back a.2 p (h _ (by simp))⟩ (ih fun c hc => h c (List.mem_cons_of_mem _ hc))
theorem kx_back {fs : List (NestedKey × C)} {gs : List (NestedKey × Addr × V)} (r : Paired (KxR K F as') fs gs) (p : as <+: as') (h : ∀ c ∈ fs.map (·.2), clC as.length c) : Paired (KxR K F as) fs gs := by
  induction r with
  | nil => exact .nil
  | cons a _ ih => exact .cons ⟨a.1, a.2.1, a.2.2.1, cr_back a.2.2.2 p (h _ (by simp))⟩ (ih fun c hc => h c (List.mem_cons_of_mem _ hc))
theorem OR.back {ad : Addr} {u : Ob} {o : HO} (r : OR K F as' ad u o) (p : as <+: as') (h : clOb as.length u) : OR K F as ad u o := by
  cases u with
  | gone => exact r
  | lst cs => obtain ⟨vs, e, r⟩ := r; exact ⟨vs, e, crs_back r p h⟩
  | dct kvs => obtain ⟨ws, e, r⟩ := r; exact ⟨ws, e, fs_back r p h⟩
  | lck kvs => obtain ⟨x, ws, e, r⟩ := r; exact ⟨x, ws, e, fs_back r p h⟩
  | ins cl dx fs => obtain ⟨gs, e, r⟩ := r; exact ⟨gs, e, fs_back r p h⟩
  | dkt kvs => obtain ⟨xs, e, r⟩ := r; exact ⟨xs, e, kx_back r p h⟩
  | tup cs => obtain ⟨vs, e, r⟩ := r; exact ⟨vs, e, crs_back r p h⟩
/-- the newest owned objects forgotten -/
theorem Sat.cut (S : Sat K F H as' (O ++ E2)) (p : as <+: as') (hl : as.length = O.length) (hc : Clo O.length O) : Sat K F H as O := by
  have nd : as.Nodup := S.nd.sublist p.sublist
  refine ⟨S.ex, nd, hl, fun a ha => S.al a (p.subset ha), fun k a u ha hu => ?_⟩
  have hk : k < O.length := (List.getElem?_eq_some_iff.mp hu).1
  have q := S.ob k a u (px_get p ha) (by rw [List.getElem?_append_left hk]; exact hu)
  have cu := hc u (List.mem_of_getElem? hu)
  exact q.imp id fun ⟨o, e, r, q1⟩ => ⟨o, e, r.back p (by rw [hl]; exact cu), q1⟩
theorem Clo.set {n : Nat} {k : Nat} {u : Ob} (h : Clo n O) (hu : clOb n u) : Clo n (O.set k u) := fun w hw => by
  rcases List.mem_or_eq_of_mem_set hw with z | z
  · exact h w z
  · subst z; exact hu
end
/-- handed back: c, the store O' (at least as long as at the entry), what was made on the way behind it forgotten -/
def Back (O : Sto) (R : C → Sto → Prop) : C → Sto → Prop := fun c O'' => ∃ O' E2, O'' = O' ++ E2 ∧ O.length ≤ O'.length ∧ Clo O'.length O' ∧ clC O'.length c ∧ R c O'
theorem back_d {O E2 : Sto} {R : C → Sto → Prop} {d : PyData} (hc : Clo O.length O) (r : R (.d d) O) : Back O R (.d d) (O ++ E2) := ⟨O, E2, rfl, Nat.le_refl _, hc, trivial, r⟩
theorem back_0 {O : Sto} {R : C → Sto → Prop} {d : PyData} (hc : Clo O.length O) (r : R (.d d) O) : Back O R (.d d) O := ⟨O, [], by simp, Nat.le_refl _, hc, trivial, r⟩

/-! ### defs -/
abbrev SpT := List C → Sto → (C → Sto → Prop) → (Value → Sto → Prop) → Prop
def spOf (K : PySem.W.Frag) (sp : SpT) : Sp := fun vs H Q E => ∃ F as O cs R RX, Sat K F H as O ∧ Paired (CR K F as) cs vs ∧ sp cs O R RX ∧ ThE K F as R Q ∧ (∀ F' as' cl O' H', Gr F as F' as' → Sat K F' H' as' O' → RX cl O' → E cl none H')
/-- the def x of the module's keeps sp -/
structure Fn (P : Program) (w : World) (K : PySem.W.Frag) (mg : Str → Option Value) (base : Heap) (lev : Nat) (x : Str) (sp : SpT) : Prop where
  ex : ∃ (f : Addr) (fd : FuncData) (ps : List Str) (k : Nat), k ≤ lev ∧ FnOk P w K mg base (L2.CX P w) k f fd ps (spOf K sp) ∧ mg x = some (.ref f) ∧ PySem.W.keepIn K (.ref f) = true ∧ Binds K fd ps []
abbrev Fam.Fn (Y : Fam) (x : Str) (sp : SpT) : Prop := T.Fn Y.P Y.w Y.K Y.mg Y.base Y.lev x sp
theorem Fn.up {P w K mg base j k x sp} (G : Fn P w K mg base j x sp) (h : j ≤ k) : Fn P w K mg base k x sp := let ⟨f, fd, ps, i, hi, q⟩ := G.ex; ⟨f, fd, ps, i, Nat.le_trans hi h, q⟩
section
variable {Y : Fam} {e a b c iter tg elt : Expr} {es : List Expr} {sts : List Stmt} {Γ : Gam} {O : Sto} {R : C → Sto → Prop} {RG : Gam → Sto → Prop} {E : En} {pos p : Pos} {x : Str} {sp : SpT}
theorem xe_call (G : Y.Fn x sp) (h : XA Y (e :: es) Γ O fun cs O1 => sp cs O1 R Y.RX) (hc : Y.cl = true := by rfl) (hg : ∀ i, Gl (Y.X i) x := by exact fun _ => rfl)
    (hdb : (x == ("__debug__" : Str)) = false := by decide) (he : ∀ i, starEach (e :: es) (Y.X i).env = (false, eval e (Y.X i).env) :: starEach es (Y.X i).env := by exact fun _ => rfl) (hpl : ∀ i, (backTo pos (starEach es (Y.X i).env)).any (·.1) = false := by exact fun _ => rfl) : XE Y (.Call (.Name x p) (e :: es) [] pos) Γ O R := by
  obtain ⟨f, fd, ps, k, hk, F, hm, kp, bd⟩ := G.ex
  have pe : ∀ i, ∀ Ex : XK, (∀ cls d σ H, Ex cls d H → Y.W cls d σ H) → PE (Y.X i) (.Call (.Name x p) (e :: es) [] pos) (tCall (spOf Y.K sp) [] Ex (wpA Y (e :: es))) := fun i Ex hE =>
    pe_call (CX := L2.CX Y.P Y.w) (by rw [Y.hP, Y.hw, Y.hK, Y.hmg, Y.hb]; exact F) ((Y.room hc i).mono hk) (hg i) (by rw [Y.hmg]; exact hm) (by rw [Y.hK]; exact kp) (by rw [Y.hK]; exact bd) .nil
      (fun pins σ H s u s' I q => passes_call (Y.tk i) hE pins σ H s u s' I (by rw [Y.hP, Y.hw]; exact q)) (paW i) hdb (he i) (hpl i)
  intro F0 as σ H Q S L tx t
  -- what is raised reaches W
  refine wpE_of (te := tCall (spOf Y.K sp) [] (fun cl d H' => ∀ σ', Y.W cl d σ' H') (wpA Y (e :: es))) (fun i => pe i _ fun cls d σ H q => q σ) ?_
  exact h F0 as σ H _ S L tx fun F1 as1 cs vs O1 H1 g1 S1 r1 h1 => ⟨F1, as1, O1, cs, R, Y.RX, S1, by rw [List.append_nil]; exact r1, h1, t.mono g1, fun F' as' cl O' H' g' S' r' σ' => tx F' as' cl O' σ' H' (g1.trans g') S' r'⟩
/-- a built-in function, a built-in type -/
theorem xe_blt {id : String} {r : List V → Hp → VK → Prop} (hr : ∀ i, CallR (Y.X i) (.builtin id) r) (hm : Y.mg x = none) (hv : bootBuiltins x = some (.builtin id)) (h : XA Y (e :: es) Γ O fun cs O1 => Wc Y.K r cs O1 R) (hg : ∀ i, Gl (Y.X i) x := by exact fun _ => rfl) (hn : x ≠ "__name__" := by decide)
    (hdb : (x == ("__debug__" : Str)) = false := by decide) (he : ∀ i, starEach (e :: es) (Y.X i).env = (false, eval e (Y.X i).env) :: starEach es (Y.X i).env := by exact fun _ => rfl) (hpl : ∀ i, (backTo pos (starEach es (Y.X i).env)).any (·.1) = false := by exact fun _ => rfl) : XE Y (.Call (.Name x p) (e :: es) [] pos) Γ O R :=
  xe_of (fun i => pe_callB (hr i) (hg i) (by rw [Y.hmg]; exact hm) hv (paW i) hn hdb (he i) (hpl i)) fun F as σ H Q S L tx t => h F as σ H _ S L tx fun F1 as1 cs vs O1 H1 g1 S1 r1 h1 => h1 F1 as1 H1 vs Q S1 r1 (t.mono g1)
theorem xe_ty {Ty : String} {r : List V → Hp → VK → Prop} (hr : ∀ i, CallR (Y.X i) (.type Ty) r) (hm : Y.mg x = none) (hv : bootBuiltins x = some (.type Ty)) (h : XA Y (e :: es) Γ O fun cs O1 => Wc Y.K r cs O1 R) (hg : ∀ i, Gl (Y.X i) x := by exact fun _ => rfl) (hn : x ≠ "__name__" := by decide)
    (hdb : (x == ("__debug__" : Str)) = false := by decide) (he : ∀ i, starEach (e :: es) (Y.X i).env = (false, eval e (Y.X i).env) :: starEach es (Y.X i).env := by exact fun _ => rfl) (hpl : ∀ i, (backTo pos (starEach es (Y.X i).env)).any (·.1) = false := by exact fun _ => rfl) : XE Y (.Call (.Name x p) (e :: es) [] pos) Γ O R :=
  xe_of (fun i => pe_callTy (hr i) (hg i) (by rw [Y.hmg]; exact hm) hv (paW i) hn hdb (he i) (hpl i)) fun F as σ H Q S L tx t => h F as σ H _ S L tx fun F1 as1 cs vs O1 H1 g1 S1 r1 h1 => h1 F1 as1 H1 vs Q S1 r1 (t.mono g1)
/-- isinstance(e, T), T a built-in type -/
theorem xe_isi {y : Str} {p2 : Pos} {Ty : String} (hm : Y.mg "isinstance" = none) (hmT : Y.mg y = none) (hvT : bootBuiltins y = some (.type Ty)) (h : XE Y e Γ O fun c1 O1 => ∃ d bb, c1 = .d d ∧ PySem.W.kitOne Y.K (.type (tyName d)) (.type Ty) = some bb ∧ R (.d (.bool bb)) O1)
    (hg : ∀ i, Gl (Y.X i) "isinstance" := by exact fun _ => rfl) (hgT : ∀ i, Gl (Y.X i) y := by exact fun _ => rfl) (hn : y ≠ "__name__" := by decide) (hdb : (y == ("__debug__" : Str)) = false := by decide)
    (he : ∀ i, starEach [e, .Name y p2] (Y.X i).env = (false, eval e (Y.X i).env) :: starEach [.Name y p2] (Y.X i).env := by exact fun _ => rfl) (hs1 : ∀ i, starEach [.Name y p2] (Y.X i).env = (false, eval (.Name y p2) (Y.X i).env) :: starEach [] (Y.X i).env := by exact fun _ => rfl)
    (hpl : ∀ i, (backTo pos (starEach [.Name y p2] (Y.X i).env)).any (·.1) = false := by exact fun _ => rfl) :
    XE Y (.Call (.Name "isinstance" p) [e, .Name y p2] [] pos) Γ O R :=
  xe_of (te := tCB (rIsi Y.K) (tCons (wpE Y e) (tCons (tC (.ty Ty)) tNil))) (fun i => by
    rw [← Y.hK i]
    exact pe_callB call_isi (hg i) (by rw [Y.hmg]; exact hm) (by decide +kernel) (pa_cons (peW i) (pa_cons (pe_bltn (hgT i) (by rw [Y.hmg]; exact hmT) hvT rfl hn hdb) pa_nil (hs1 i)) (he i)) (by decide) (by decide) (he i) (hpl i)) fun F as σ H Q S L tx t =>
    h F as σ H _ S L tx fun F1 as1 c1 v1 O1 H1 g1 S1 r1 ⟨d, bb, ec, hk, h1⟩ => by
      subst ec
      exact ⟨v1, .ty Ty, .type (tyName d), .type Ty, bb, rfl, .ty Ty, tyX_of r1 S1.ex, hk, t F1 as1 (.d (.bool bb)) _ O1 H1 g1 S1 (show CR Y.K F1 as1 (.d (.bool bb)) _ from .bl _) h1⟩
/-! ### operators by name -/
variable {RT : Bool → Sto → Prop}
theorem xe_chain {op op' : CmpOp} {r r' : R2} (ho : ∀ i, OpR (Y.X i) (compareOp op) r) (ho' : ∀ i, OpR (Y.X i) (compareOp op') r') (hl : lastMarks [op, op'] [b, c] = false)
    (h : XE Y a Γ O fun c1 O1 => XE Y b Γ O1 fun c2 O2 => W2 Y.K r c1 c2 O2 (WB fun k O3 => (k = true → XE Y c Γ O3 fun c3 O4 => W2 Y.K r' c2 c3 O4 R) ∧ (k = false → R (.d (.bool false)) O3))) : XE Y (.Compare a [op, op'] [b, c] pos) Γ O R :=
  xe_of (fun i => pe_chain (ho i) (ho' i) (peW i) (peW i) (peW i) hl) fun F as σ H Q S L tx t => h F as σ H _ S L tx fun F1 as1 c1 v1 O1 H1 g1 S1 r1 h1 =>
    h1 F1 as1 σ H1 _ S1 (L.mono g1) (tx.mono g1) fun F2 as2 c2 v2 O2 H2 g2 S2 r2 h2 => h2 F2 as2 H2 v1 v2 _ S2 (r1.mono g2) r2 fun F3 as3 z vz O3 H3 g3 S3 r3 ⟨k, ek, h3⟩ => by
      subst ek
      cases r3
      have gg := (g1.trans g2).trans g3
      refine ⟨k, rfl, ?_⟩
      cases k with
      | true => exact iteT (h3.1 rfl F3 as3 σ H3 _ S3 (L.mono gg) (tx.mono gg) fun F4 as4 c4 v4 O4 H4 g4 S4 r4 h4 => h4 F4 as4 H4 v2 v4 Q S4 (r2.mono (g3.trans g4)) r4 (t.mono (gg.trans g4)))
      | false => exact iteF (t F3 as3 _ _ O3 H3 gg S3 (show CR Y.K F3 as3 (.d (.bool false)) _ from .bl _) (h3.2 rfl))
theorem xt_chain {op op' : CmpOp} {r r' : R2} (ho : ∀ i, OpR (Y.X i) (compareOp op) r) (ho' : ∀ i, OpR (Y.X i) (compareOp op') r') (hl : lastMarks [op, op'] [b, c] = false)
    (h : XE Y a Γ O fun c1 O1 => XE Y b Γ O1 fun c2 O2 => W2 Y.K r c1 c2 O2 (WB fun k O3 => (k = true → XE Y c Γ O3 fun c3 O4 => W2 Y.K r' c2 c3 O4 (WB RT)) ∧ (k = false → RT false O3))) : XT Y (.Compare a [op, op'] [b, c] pos) Γ O RT :=
  xt_of (fun i => pt_chain (ho i) (ho' i) (peW i) (peW i) (peW i) hl) fun F as σ H Q S L tx t => h F as σ H _ S L tx fun F1 as1 c1 v1 O1 H1 g1 S1 r1 h1 =>
    h1 F1 as1 σ H1 _ S1 (L.mono g1) (tx.mono g1) fun F2 as2 c2 v2 O2 H2 g2 S2 r2 h2 => h2 F2 as2 H2 v1 v2 _ S2 (r1.mono g2) r2 fun F3 as3 z vz O3 H3 g3 S3 r3 ⟨k, ek, h3⟩ => by
      subst ek
      cases r3
      have gg := (g1.trans g2).trans g3
      refine ⟨k, rfl, ?_⟩
      cases k with
      | true => exact iteT (h3.1 rfl F3 as3 σ H3 _ S3 (L.mono gg) (tx.mono gg) fun F4 as4 c4 v4 O4 H4 g4 S4 r4 h4 => h4 F4 as4 H4 v2 v4 _ S4 (r2.mono (g3.trans g4)) r4 ((thB t).mono (gg.trans g4)))
      | false => exact iteF ⟨false, rfl, t F3 as3 _ _ O3 H3 gg S3 rfl (h3.2 rfl)⟩

theorem rl (h : Y.cl = true) (i : Y.ι) : (Y.X i).A.units + 64 < cLine := (Y.room h i).units
theorem xe_add (h : XE Y a Γ O fun c1 O1 => XE Y b Γ O1 fun c2 O2 => W2 Y.K (rPlus Y.K) c1 c2 O2 R) : XE Y (.BinOp a .Add b pos) Γ O R := xe_bin (fun i => by rw [← Y.hK i]; exact op_plus) h
theorem xe_sub (h : XE Y a Γ O fun c1 O1 => XE Y b Γ O1 fun c2 O2 => W2 Y.K (rI0 fun i j => .int (i - j)) c1 c2 O2 R) : XE Y (.BinOp a .Sub b pos) Γ O R := xe_bin (fun i => op_sub) h
theorem xe_mul (h : XE Y a Γ O fun c1 O1 => XE Y b Γ O1 fun c2 O2 => W2 Y.K (rTimes Y.K) c1 c2 O2 R) : XE Y (.BinOp a .Mult b pos) Γ O R := xe_bin (fun i => by rw [← Y.hK i]; exact op_times) h
theorem xe_fdiv (h : XE Y a Γ O fun c1 O1 => XE Y b Γ O1 fun c2 O2 => W2 Y.K (rI CDiv fun i j => .int (i / j)) c1 c2 O2 R) : XE Y (.BinOp a .FloorDiv b pos) Γ O R := xe_bin (fun i => op_fdiv) h
theorem xe_mod (h : XE Y a Γ O fun c1 O1 => XE Y b Γ O1 fun c2 O2 => W2 Y.K (rI (fun _ j => 0 < j) fun i j => .int (i % j)) c1 c2 O2 R) : XE Y (.BinOp a .Mod b pos) Γ O R := xe_bin (fun i => op_mod) h
theorem xe_pow (h : XE Y a Γ O fun c1 O1 => XE Y b Γ O1 fun c2 O2 => W2 Y.K (rI CPow fun i j => .int (i ^ j.toNat)) c1 c2 O2 R) : XE Y (.BinOp a .Pow b pos) Γ O R := xe_bin (fun i => op_pow) h
theorem xe_neg (h : XE Y a Γ O fun c1 O1 => W1 Y.K (rU fun i => .int (-i)) c1 O1 R) : XE Y (.UnaryOp .USub a pos) Γ O R := xe_un (fun i => un_neg) h
theorem xe_eq (h : XE Y a Γ O fun c1 O1 => XE Y b Γ O1 fun c2 O2 => W2 Y.K (rEqq Y.K) c1 c2 O2 R) (hc : Y.cl = true := by rfl) : XE Y (.Compare a [.Eq] [b] pos) Γ O R := xe_cmp (fun i => by rw [← Y.hK i]; exact op_eqq (rl hc i)) (nomark _) h
theorem xe_ne (h : XE Y a Γ O fun c1 O1 => XE Y b Γ O1 fun c2 O2 => W2 Y.K (rNeq Y.K) c1 c2 O2 R) (hc : Y.cl = true := by rfl) : XE Y (.Compare a [.NotEq] [b] pos) Γ O R := xe_cmp (fun i => by rw [← Y.hK i]; exact op_neq (rl hc i)) (nomark _) h
theorem xe_lt (h : XE Y a Γ O fun c1 O1 => XE Y b Γ O1 fun c2 O2 => W2 Y.K (rI0 fun i j => .bl (decide (i < j))) c1 c2 O2 R) : XE Y (.Compare a [.Lt] [b] pos) Γ O R := xe_cmp (fun i => op_lt) (nomark _) h
theorem xe_le (h : XE Y a Γ O fun c1 O1 => XE Y b Γ O1 fun c2 O2 => W2 Y.K (rI0 fun i j => .bl (decide (i ≤ j))) c1 c2 O2 R) : XE Y (.Compare a [.LtE] [b] pos) Γ O R := xe_cmp (fun i => op_le) (nomark _) h
theorem xe_gt (h : XE Y a Γ O fun c1 O1 => XE Y b Γ O1 fun c2 O2 => W2 Y.K (rI0 fun i j => .bl (decide (j < i))) c1 c2 O2 R) : XE Y (.Compare a [.Gt] [b] pos) Γ O R := xe_cmp (fun i => op_gt) (nomark _) h
theorem xe_ge (h : XE Y a Γ O fun c1 O1 => XE Y b Γ O1 fun c2 O2 => W2 Y.K (rI0 fun i j => .bl (decide (j ≤ i))) c1 c2 O2 R) : XE Y (.Compare a [.GtE] [b] pos) Γ O R := xe_cmp (fun i => op_ge) (nomark _) h
theorem xe_is (h : XE Y a Γ O fun c1 O1 => XE Y b Γ O1 fun c2 O2 => W2 Y.K rIss c1 c2 O2 R) : XE Y (.Compare a [.Is] [b] pos) Γ O R := xe_cmp (fun i => op_iss) (nomark _) h
theorem xe_isnt (h : XE Y a Γ O fun c1 O1 => XE Y b Γ O1 fun c2 O2 => W2 Y.K rIsnt c1 c2 O2 R) : XE Y (.Compare a [.IsNot] [b] pos) Γ O R := xe_cmp (fun i => op_isnt) (nomark _) h
/-- a test that is an expression of bools -/
theorem xt_e (h : XE Y e Γ O (WB RT)) (he : ∀ i whole, isTrue e (Y.X i).env whole = (do let v ← whole; standAt e.pos; holding [v] (truthy v)) := by intro _ _; rfl) : XT Y e Γ O RT := xt_val he h
theorem xt_eq (h : XE Y a Γ O fun c1 O1 => XE Y b Γ O1 fun c2 O2 => W2 Y.K (rEqq Y.K) c1 c2 O2 (WB RT)) (hc : Y.cl = true := by rfl) : XT Y (.Compare a [.Eq] [b] pos) Γ O RT := xt_cmp (fun i => by rw [← Y.hK i]; exact op_eqq (rl hc i)) (nomark _) h
theorem xt_ne (h : XE Y a Γ O fun c1 O1 => XE Y b Γ O1 fun c2 O2 => W2 Y.K (rNeq Y.K) c1 c2 O2 (WB RT)) (hc : Y.cl = true := by rfl) : XT Y (.Compare a [.NotEq] [b] pos) Γ O RT := xt_cmp (fun i => by rw [← Y.hK i]; exact op_neq (rl hc i)) (nomark _) h
theorem xt_lt (h : XE Y a Γ O fun c1 O1 => XE Y b Γ O1 fun c2 O2 => W2 Y.K (rI0 fun i j => .bl (decide (i < j))) c1 c2 O2 (WB RT)) : XT Y (.Compare a [.Lt] [b] pos) Γ O RT := xt_cmp (fun i => op_lt) (nomark _) h
theorem xt_le (h : XE Y a Γ O fun c1 O1 => XE Y b Γ O1 fun c2 O2 => W2 Y.K (rI0 fun i j => .bl (decide (i ≤ j))) c1 c2 O2 (WB RT)) : XT Y (.Compare a [.LtE] [b] pos) Γ O RT := xt_cmp (fun i => op_le) (nomark _) h
theorem xt_gt (h : XE Y a Γ O fun c1 O1 => XE Y b Γ O1 fun c2 O2 => W2 Y.K (rI0 fun i j => .bl (decide (j < i))) c1 c2 O2 (WB RT)) : XT Y (.Compare a [.Gt] [b] pos) Γ O RT := xt_cmp (fun i => op_gt) (nomark _) h
theorem xt_ge (h : XE Y a Γ O fun c1 O1 => XE Y b Γ O1 fun c2 O2 => W2 Y.K (rI0 fun i j => .bl (decide (j ≤ i))) c1 c2 O2 (WB RT)) : XT Y (.Compare a [.GtE] [b] pos) Γ O RT := xt_cmp (fun i => op_ge) (nomark _) h
theorem xt_is (h : XE Y a Γ O fun c1 O1 => XE Y b Γ O1 fun c2 O2 => W2 Y.K (rIss) c1 c2 O2 (WB RT)) : XT Y (.Compare a [.Is] [b] pos) Γ O RT := xt_cmp (fun i => op_iss) (nomark _) h
theorem xt_isnt (h : XE Y a Γ O fun c1 O1 => XE Y b Γ O1 fun c2 O2 => W2 Y.K (rIsnt) c1 c2 O2 (WB RT)) : XT Y (.Compare a [.IsNot] [b] pos) Γ O RT := xt_cmp (fun i => op_isnt) (nomark _) h
theorem xe_ltlt (h : XE Y a Γ O fun c1 O1 => XE Y b Γ O1 fun c2 O2 => W2 Y.K (rI0 fun i j => .bl (decide (i < j))) c1 c2 O2 (WB fun k O3 => (k = true → XE Y c Γ O3 fun c3 O4 => W2 Y.K (rI0 fun i j => .bl (decide (i < j))) c2 c3 O4 R) ∧ (k = false → R (.d (.bool false)) O3))) (hl : lastMarks [.Lt, .Lt] [b, c] = false := by with_unfolding_all rfl) : XE Y (.Compare a [.Lt, .Lt] [b, c] pos) Γ O R :=
  xe_chain (fun _ => op_lt) (fun _ => op_lt) hl h
theorem xt_ltlt (h : XE Y a Γ O fun c1 O1 => XE Y b Γ O1 fun c2 O2 => W2 Y.K (rI0 fun i j => .bl (decide (i < j))) c1 c2 O2 (WB fun k O3 => (k = true → XE Y c Γ O3 fun c3 O4 => W2 Y.K (rI0 fun i j => .bl (decide (i < j))) c2 c3 O4 (WB RT)) ∧ (k = false → RT false O3))) (hl : lastMarks [.Lt, .Lt] [b, c] = false := by with_unfolding_all rfl) : XT Y (.Compare a [.Lt, .Lt] [b, c] pos) Γ O RT :=
  xt_chain (fun _ => op_lt) (fun _ => op_lt) hl h
theorem xe_ltlte (h : XE Y a Γ O fun c1 O1 => XE Y b Γ O1 fun c2 O2 => W2 Y.K (rI0 fun i j => .bl (decide (i < j))) c1 c2 O2 (WB fun k O3 => (k = true → XE Y c Γ O3 fun c3 O4 => W2 Y.K (rI0 fun i j => .bl (decide (i ≤ j))) c2 c3 O4 R) ∧ (k = false → R (.d (.bool false)) O3))) (hl : lastMarks [.Lt, .LtE] [b, c] = false := by with_unfolding_all rfl) : XE Y (.Compare a [.Lt, .LtE] [b, c] pos) Γ O R :=
  xe_chain (fun _ => op_lt) (fun _ => op_le) hl h
theorem xt_ltlte (h : XE Y a Γ O fun c1 O1 => XE Y b Γ O1 fun c2 O2 => W2 Y.K (rI0 fun i j => .bl (decide (i < j))) c1 c2 O2 (WB fun k O3 => (k = true → XE Y c Γ O3 fun c3 O4 => W2 Y.K (rI0 fun i j => .bl (decide (i ≤ j))) c2 c3 O4 (WB RT)) ∧ (k = false → RT false O3))) (hl : lastMarks [.Lt, .LtE] [b, c] = false := by with_unfolding_all rfl) : XT Y (.Compare a [.Lt, .LtE] [b, c] pos) Γ O RT :=
  xt_chain (fun _ => op_lt) (fun _ => op_le) hl h
theorem xe_ltelt (h : XE Y a Γ O fun c1 O1 => XE Y b Γ O1 fun c2 O2 => W2 Y.K (rI0 fun i j => .bl (decide (i ≤ j))) c1 c2 O2 (WB fun k O3 => (k = true → XE Y c Γ O3 fun c3 O4 => W2 Y.K (rI0 fun i j => .bl (decide (i < j))) c2 c3 O4 R) ∧ (k = false → R (.d (.bool false)) O3))) (hl : lastMarks [.LtE, .Lt] [b, c] = false := by with_unfolding_all rfl) : XE Y (.Compare a [.LtE, .Lt] [b, c] pos) Γ O R :=
  xe_chain (fun _ => op_le) (fun _ => op_lt) hl h
theorem xt_ltelt (h : XE Y a Γ O fun c1 O1 => XE Y b Γ O1 fun c2 O2 => W2 Y.K (rI0 fun i j => .bl (decide (i ≤ j))) c1 c2 O2 (WB fun k O3 => (k = true → XE Y c Γ O3 fun c3 O4 => W2 Y.K (rI0 fun i j => .bl (decide (i < j))) c2 c3 O4 (WB RT)) ∧ (k = false → RT false O3))) (hl : lastMarks [.LtE, .Lt] [b, c] = false := by with_unfolding_all rfl) : XT Y (.Compare a [.LtE, .Lt] [b, c] pos) Γ O RT :=
  xt_chain (fun _ => op_le) (fun _ => op_lt) hl h
theorem xe_ltelte (h : XE Y a Γ O fun c1 O1 => XE Y b Γ O1 fun c2 O2 => W2 Y.K (rI0 fun i j => .bl (decide (i ≤ j))) c1 c2 O2 (WB fun k O3 => (k = true → XE Y c Γ O3 fun c3 O4 => W2 Y.K (rI0 fun i j => .bl (decide (i ≤ j))) c2 c3 O4 R) ∧ (k = false → R (.d (.bool false)) O3))) (hl : lastMarks [.LtE, .LtE] [b, c] = false := by with_unfolding_all rfl) : XE Y (.Compare a [.LtE, .LtE] [b, c] pos) Γ O R :=
  xe_chain (fun _ => op_le) (fun _ => op_le) hl h
theorem xt_ltelte (h : XE Y a Γ O fun c1 O1 => XE Y b Γ O1 fun c2 O2 => W2 Y.K (rI0 fun i j => .bl (decide (i ≤ j))) c1 c2 O2 (WB fun k O3 => (k = true → XE Y c Γ O3 fun c3 O4 => W2 Y.K (rI0 fun i j => .bl (decide (i ≤ j))) c2 c3 O4 (WB RT)) ∧ (k = false → RT false O3))) (hl : lastMarks [.LtE, .LtE] [b, c] = false := by with_unfolding_all rfl) : XT Y (.Compare a [.LtE, .LtE] [b, c] pos) Γ O RT :=
  xt_chain (fun _ => op_le) (fun _ => op_le) hl h
end
end T

set_option Elab.async false
set_option linter.all false
set_option maxRecDepth 100000
set_option maxHeartbeats 1000000
namespace T
open PySem PySem.Spec PyProof.Rows L2

/-! ### blocks of comprehensions -/
def Fam.blk (Y : Fam) (scope : Scope) : Fam where
  ι := Y.ι × Shared × Hp × Addr × List (Str × Addr) × List Addr
  X := fun i => (Y.X i.1).blk i.2.1 i.2.2.1 scope (compEnvC scope i.2.2.2.2.1 i.2.2.2.1 (Y.X i.1).env) i.2.2.2.2.2
  K := Y.K
  mg := Y.mg
  N := Y.N
  P := Y.P
  w := Y.w
  base := Y.base
  lev := Y.lev
  hK := fun i => Y.hK i.1
  hmg := fun i => Y.hmg i.1
  hN := fun i => Y.hN i.1
  hP := fun i => Y.hP i.1
  hw := fun i => Y.hw i.1
  hb := fun i => Y.hb i.1
  nd := Y.nd
  cl := Y.cl
  room := fun h i => Y.room h i.1
  calm := fun h i => Y.calm h i.1
  sc := relS scope Y.sc
  hsc := fun i => by
    show relS scope (Y.X i.1).env.scope = _
    rw [Y.hsc]
  W := fun _ _ _ _ => False
  RX := fun _ _ => False
  tk := fun _ => takes0
  own := fun _ => PassesOwn.never
/-- a comprehension's target -/
inductive Tgt where
  | one (j : Nat)
  | many (js : List Nat)
def gNs : List Nat → TGs
  | [] => gNil
  | j :: js => gCons (gName j) (gNs js)
def tgG (K : PySem.W.Frag) : Tgt → TG
  | .one j => gName j
  | .many js => gTup K js.length (gNs js)
def tgL : Tgt → List Nat
  | .one j => [j]
  | .many js => js
/-- the slots behind the store -/
def stMany (Γ : Gam) : List Nat → List PyData → Gam
  | j :: js, d :: ds => stMany (Γ.set j (some (.d d))) js ds
  | _, _ => Γ
def tgS (Γ : Gam) : Tgt → PyData → Option Gam
  | .one j, d => some (Γ.set j (some (.d d)))
  | .many js, .tuple ds => if ds.length = js.length then some (stMany Γ js ds) else none
  | .many _, _ => none
def wipeG (Γ : Gam) : List Nat → Gam
  | [] => Γ
  | v :: vs => (wipeG Γ vs).set v none
theorem wipe_get (σ : L2.St) (i : Nat) : ∀ vs : List Nat, (wipe σ vs)[i]? = if i ∈ vs then (σ[i]?).map (fun _ => none) else σ[i]?
  | [] => by simp [wipe]
  | v :: vs => by
    unfold wipe
    by_cases hv : v = i
    · subst hv
      by_cases hl : v < σ.length
      · rw [List.getElem?_set_self (by rw [wipe_length]; exact hl)]
        simp [List.getElem?_eq_getElem hl]
      · rw [List.getElem?_eq_none (by simp [wipe_length]; omega), List.getElem?_eq_none (l := σ) (by omega)]
        simp
    · rw [List.getElem?_set_ne hv, wipe_get σ i vs]
      have : (i ∈ v :: vs) ↔ i ∈ vs := by simp [Ne.symm hv]
      by_cases hi : i ∈ vs
      · rw [if_pos hi, if_pos (this.mpr hi)]
      · rw [if_neg hi, if_neg (fun z => hi (this.mp z))]
theorem wipe_set {σ : L2.St} {vs : List Nat} {j : Nat} {x : Option V} (h : j ∈ vs) : wipe ((wipe σ vs).set j x) vs = wipe σ vs := by
  apply List.ext_getElem?
  intro i
  rw [wipe_get]
  by_cases hi : i ∈ vs
  · rw [if_pos hi, wipe_get, if_pos hi]
    by_cases hj : j = i
    · subst hj
      by_cases hl : j < σ.length
      · rw [List.getElem?_set_self (by rw [wipe_length]; exact hl)]
        simp [List.getElem?_eq_getElem hl]
      · rw [List.getElem?_eq_none (by simp [wipe_length]; omega), List.getElem?_eq_none (l := σ) (by omega)]
    · rw [List.getElem?_set_ne hj, wipe_get, if_pos hi]
      cases σ[i]? <;> rfl
  · have hj : j ≠ i := fun e => hi (e ▸ h)
    rw [if_neg hi, List.getElem?_set_ne hj]
theorem slr_wipe {K : PySem.W.Frag} {F : Hp} {as : List Addr} {Γ : Gam} {σ : L2.St} (h : SlR K F as Γ σ) : ∀ vs, SlR K F as (wipeG Γ vs) (wipe σ vs)
  | [] => h
  | v :: vs => (slr_wipe h vs).drop v none
theorem gNs_run {K : PySem.W.Frag} {F H : Hp} {as : List Addr} {vs : List Nat} {σ0 : L2.St} {Q : L2.St → Hp → Prop} : ∀ {js : List Nat} {Γ : Gam} {σ : L2.St} {xs : List V} {ds : List PyData}, (∀ j ∈ js, j ∈ vs) → SlR K F as Γ σ → DpAll K F xs ds → ds.length = js.length → wipe σ vs = wipe σ0 vs → wipe (wipe σ vs) vs = wipe σ vs →
    (∀ σ2, SlR K F as (stMany Γ js ds) σ2 → wipe σ2 vs = wipe σ0 vs → Q σ2 H) → gNs js xs σ H Q
  | [], Γ, σ, xs, ds, _, L, hd, hl, e, _, k => by
    cases hd with
    | nil => exact ⟨rfl, k σ L e⟩
    | cons _ _ => simp at hl
  | j :: js, Γ, σ, xs, ds, hj, L, hd, hl, e, e2, k => by
    cases hd with
    | nil => simp at hl
    | @cons x xs d ds h1 h2 =>
      have hm : j ∈ vs := hj j (by simp)
      have es : wipe (σ.set j (some x)) vs = wipe σ vs := by
        apply List.ext_getElem?
        intro i
        rw [wipe_get, wipe_get]
        by_cases hi : i ∈ vs
        · rw [if_pos hi, if_pos hi]
          by_cases hji : j = i
          · subst hji
            by_cases hl : j < σ.length
            · rw [List.getElem?_set_self hl, List.getElem?_eq_getElem hl]; rfl
            · rw [List.getElem?_eq_none (by simp; omega), List.getElem?_eq_none (by omega)]
          · rw [List.getElem?_set_ne hji]
        · rw [if_neg hi, if_neg hi, List.getElem?_set_ne (fun z => hi (by rw [← z]; exact hm))]
      exact ⟨x, xs, rfl, gNs_run (fun j' hj' => hj j' (List.mem_cons_of_mem _ hj')) (L.set (show CR K F as (.d d) x from h1) j) h2 (by simpa using hl) (es.trans e) (by rw [es]; exact e2) k⟩
theorem wipe_wipe {σ : L2.St} {vs : List Nat} : wipe (wipe σ vs) vs = wipe σ vs := by
  apply List.ext_getElem?
  intro i
  rw [wipe_get]
  by_cases hi : i ∈ vs
  · rw [if_pos hi, wipe_get, if_pos hi]; cases σ[i]? <;> rfl
  · rw [if_neg hi]
theorem tg_run {K : PySem.W.Frag} {F H : Hp} {as : List Addr} {vs : List Nat} {Γ Γ2 : Gam} {σ : L2.St} {τ : Tgt} {x : V} {d : PyData} {Q : L2.St → Hp → Prop} {O : Sto} (S : Sat K F H as O) (hj : ∀ j ∈ tgL τ, j ∈ vs) (L : SlR K F as (wipeG Γ vs) (wipe σ vs)) (r : Dp K F x d) (ht : tgS (wipeG Γ vs) τ d = some Γ2)
    (k : ∀ σ2, SlR K F as Γ2 σ2 → wipe σ2 vs = wipe σ vs → Q σ2 H) : tgG K τ x (wipe σ vs) H Q := by
  cases τ with
  | one j =>
    cases ht
    exact k _ (L.set (show CR K F as (.d d) x from r) j) (wipe_set (hj j (by simp [tgL])))
  | many js =>
    cases r with
    | @tup a xs ds hs ha =>
      have ht : (if ds.length = js.length then some (stMany (wipeG Γ vs) js ds) else none) = some Γ2 := ht
      by_cases hl : ds.length = js.length
      · rw [if_pos hl] at ht
        cases ht
        exact ⟨a, xs, rfl, same_t S.ex hs, by rw [dpall_len ha]; exact hl, gNs_run hj L ha hl wipe_wipe (by rw [wipe_wipe]) k⟩
      · rw [if_neg hl] at ht; cases ht
    | _ => cases ht
section
variable {Y : Fam} {e a b c iter tg elt : Expr} {es : List Expr} {st : Stmt} {sts : List Stmt} {Γ : Gam} {O : Sto} {R : C → Sto → Prop} {RT : Bool → Sto → Prop} {E : En} {pos p : Pos} {x : Str}
theorem take_succ' {α : Type} {l : List α} {i : Nat} {x : α} (h : l[i]? = some x) : l.take (i + 1) = l.take i ++ [x] := by
  rw [List.take_add_one, h]
  rfl
/-- a comprehension with an invariant: the store without the new list, what it holds so far. No test -/
theorem we_lc {scope : Scope} {vs : List Nat} {τ : Tgt} (hj : ∀ j ∈ tgL τ, j ∈ vs) (hcl : Y.cl = true)
    (h : XI Y tg iter Γ O fun ds O1 => ∃ Pv : Nat → List C → Sto → Prop, ds.length ≤ sizeLine ∧ Pv 0 [] O1 ∧ (∀ i acc O', Pv i acc O' → O'.length = O1.length ∧ Clo O1.length O' ∧ (∀ c ∈ acc, clC O1.length c) ∧ acc.length ≤ i) ∧
      (∀ i d acc O', ds[i]? = some d → Pv i acc O' → ∃ Γ2, tgS (wipeG Γ vs) τ d = some Γ2 ∧ XE (Y.blk scope) elt Γ2 (O' ++ [.lst acc]) fun y O3 => ∃ O'' E2, O3 = (O'' ++ [.lst acc]) ++ E2 ∧ Pv (i + 1) (acc ++ [y]) O'') ∧
      (∀ acc O', Pv ds.length acc O' → R (.o O'.length) (O' ++ [.lst acc]))) :
    We Y (tLc (wpI Y tg iter) (tgG Y.K τ) tYes (wpE (Y.blk scope) elt) vs) Γ O R := fun F as σ H Q S L tx t => h F as σ H _ S L tx fun F1 as1 J ds O1 H1 g1 S1 j1 ⟨Pv, hz, p0, pc, ps, pd⟩ => by
  intro D hD
  have txF : ∀ {F as}, ThX (Y.blk scope) F as := fun F' as' cl O' σ' H' _ _ (r : False) => r.elim
  obtain ⟨S2, g2⟩ := S1.own (cs := []) (vs := []) hD .nil
  have aD : (as1 ++ [D])[O1.length]? = some D := by rw [← S1.len]; simp
  refine ⟨fun i m H' => i ≤ ds.length ∧ m = ds.length - i ∧ ∃ F' acc O', Same F1 F' ∧ Sat Y.K F' H' (as1 ++ [D]) (O' ++ [.lst acc]) ∧ Pv i acc O', ⟨ds.length, Nat.zero_le _, by omega, F1, [], O1, Same.refl _, S2, p0⟩, ?_⟩
  rintro i m H' ⟨hi, rfl, F2, acc, O2, e2, S3, p2⟩
  have j2 := j1.mono e2
  obtain ⟨c1, c2, c3, c4⟩ := pc i acc O2 p2
  by_cases hlt : i < ds.length
  · refine .inr ⟨j2.go i H' S3.ex hlt, fun H4 => ∃ F' acc O', Same F1 F' ∧ Sat Y.K F' H4 (as1 ++ [D]) (O' ++ [.lst acc]) ∧ Pv (i + 1) acc O', fun H4 ⟨F', acc', O', a1, a2, a3⟩ => ⟨ds.length - (i + 1), by omega, hlt, rfl, F', acc', O', a1, a2, a3⟩, fun x H3 y => ?_⟩
    obtain ⟨F3, g3, S4, r3⟩ := jd_item j2 S3 (List.getElem?_eq_getElem hlt) y
    obtain ⟨Γ2, ht, hb⟩ := ps i _ acc O2 (List.getElem?_eq_getElem hlt) p2
    have gg : Gr F as F3 (as1 ++ [D]) := ⟨(g1.fr.trans e2).trans g3.fr, g1.px.trans (List.prefix_append _ _)⟩
    refine tg_run S4 hj (slr_wipe (L.mono gg) vs) r3 ht fun σ2 L2' ew => ⟨ew, ?_⟩
    unfold tYes
    dsimp only
    rw [if_pos rfl]
    refine hb F3 _ σ2 H3 _ S4 L2' txF fun F4 as4 c v O4 H4 g4 S5 r4 ⟨O'', E2, e4, p4⟩ => ?_
    subst e4
    obtain ⟨d1, d2, d3, d4⟩ := pc (i + 1) _ O'' p4
    have hl : (as1 ++ [D]).length = (O'' ++ [Ob.lst acc]).length := by simp [S1.len, d1]
    have hn : (O'' ++ [Ob.lst acc]).length = O1.length + 1 := by simp [d1]
    have S6 := S5.cut g4.px hl (by
      rw [hn]
      intro u hu
      have up : ∀ {c : C}, clC O1.length c → clC (O1.length + 1) c := fun {c} q => by
        cases c with
        | d x => trivial
        | o k => exact Nat.lt_succ_of_lt q
      rcases List.mem_append.mp hu with z | z
      · exact fun c hc => up (d2 u z c hc)
      · have : u = .lst acc := by simpa using z
        subst this
        exact fun c hc => up (d3 c (List.mem_append_left _ hc)))
    have hO : (O'' ++ [Ob.lst acc])[O1.length]? = some (.lst acc) := by rw [← d1]; simp
    obtain ⟨hF, us, e5, p5⟩ := S6.lst aD hO
    have r5 : CR Y.K F4 (as1 ++ [D]) c v := cr_back r4 g4.px (by
      have q := d3 c (by simp)
      cases c with
      | d x => trivial
      | o k => exact Nat.lt_of_lt_of_le q (by simp [S1.len]))
    have hlen : us.length ≤ i := by rw [← pr_len p5]; exact c4
    refine ⟨us, e5, by omega, F4, acc ++ [c], O'', (e2.trans g3.fr).trans g4.fr, ?_, p4⟩
    have S7 := S6.put (u0 := .gone) (cs := acc ++ [c]) aD hF (Paired.snoc p5 r5)
    have e7 : (O'' ++ [Ob.lst acc]).set O1.length (.lst (acc ++ [c])) = O'' ++ [.lst (acc ++ [c])] := by rw [← d1]; simp
    rw [e7] at S7
    exact S7
  · have e : i = ds.length := by omega
    subst e
    refine .inl ⟨j2.stop _ H' S3.ex (Nat.le_refl _), ?_⟩
    exact t F2 (as1 ++ [D]) (.o O2.length) _ _ H' ⟨g1.fr.trans e2, g1.px.trans (List.prefix_append _ _)⟩ S3 ⟨D, by rw [c1]; exact aD, rfl⟩ (pd acc O2 p2)
theorem xe_lc {scope : Scope} {own : List (Str × Nat)} {τ : Tgt} (ok : ∀ i, BlkOk (Y.X i).N (Y.X i).env.scope scope own) (hg : ∀ i, PG ((Y.blk scope).X i) tg (tgG Y.K τ)) (w : We Y (tLc (wpI Y tg iter) (tgG Y.K τ) tYes (wpE (Y.blk scope) elt) (own.map (·.2))) Γ O R) (hc : Y.cl = true := by rfl)
    (hs : ∀ i x, foldedSetIterable iter (Y.X i).env x = pure x := by intro _ _; rfl) : XE Y (.ListComp elt [⟨tg, iter, [], 0⟩] scope pos) Γ O R :=
  xe_of (fun i => pe_lc (Y.calm hc i) (by rw [Y.hN]; exact Y.nd) (piW i) (ok i) (fun s H C cl fp => hg (i, s, H, C, cl, fp)) (fun _ _ _ _ _ => pts_nil) (fun s H C cl fp => peW (Y := Y.blk scope) (i, s, H, C, cl, fp)) (hs i)) w
theorem xs_setLc (i : Nat) {p' spos : Pos} {scope : Scope} {own : List (Str × Nat)} {τ : Tgt} (hi : Y.N[i]? = some x) (hyl : ∀ j, (Y.X j).env.scope.names.lookup x = some .local) (hsw : ∀ j, swapsWith (.ListComp elt [⟨tg, iter, [], 0⟩] scope pos) (some (.Name x p')) spos.line (Y.X j).env = pure true)
    (ok : ∀ i, BlkOk (Y.X i).N (Y.X i).env.scope scope own) (hg : ∀ i, PG ((Y.blk scope).X i) tg (tgG Y.K τ)) (w : We Y (tLc (wpI Y tg iter) (tgG Y.K τ) tYes (wpE (Y.blk scope) elt) (own.map (·.2))) Γ O fun c O1 => E.nx (Γ.set i (some c)) O1) (hc : Y.cl = true := by rfl)
    (hs : ∀ i x, foldedSetIterable iter (Y.X i).env x = pure x := by intro _ _; rfl) : XS Y (.Assign [.Name x p'] (.ListComp elt [⟨tg, iter, [], 0⟩] scope pos) spos) Γ O E :=
  xs_of (fun j => ps_setLc (i := i) (Y.calm hc j) (by rw [Y.hN]; exact Y.nd) (by rw [Y.hN]; exact hi) (hyl j) (hsw j) (piW j) (ok j) (fun s H C cl fp => hg (j, s, H, C, cl, fp)) (fun _ _ _ _ _ => pts_nil) (fun s H C cl fp => peW (Y := Y.blk scope) (j, s, H, C, cl, fp)) (hs j)) fun F as σ H D S L tx t =>
    w F as σ H _ S L tx fun F1 as1 c v O1 H1 g1 S1 r1 h1 => t.nx F1 as1 _ _ O1 H1 g1 S1 ((L.mono g1).set r1 i) h1
/-- what was made on the way is forgotten; a list is never written again -/
theorem xe_tidy (h : XE Y e Γ O fun c O' => ∃ d E2, c = .d d ∧ O' = O ++ E2 ∧ R (.d d) O) : XE Y e Γ O R := fun F as σ H Q S L tx t => h F as σ H Q S L tx fun F1 as1 c v O1 H1 g1 S1 r1 ⟨d, E2, ec, eO, h1⟩ => by
  subst ec eO
  exact t F1 as (.d d) v O H1 ⟨g1.fr, List.prefix_refl _⟩ (S1.cut g1.px S.len S.clo) (show CR Y.K F1 as (.d d) v from r1) h1
theorem we_frz {te : TE} (h : We Y te Γ O fun c O' => ∃ k ds, c = .o k ∧ O'[k]? = some (.lst (ds.map C.d)) ∧ R (.d (.list ds)) (O'.set k .gone)) : We Y te Γ O R := fun F as σ H Q S L tx t => h F as σ H Q S L tx fun F1 as1 c v O1 H1 g1 S1 r1 ⟨k, ds, ec, eO, h1⟩ => by
  subst ec
  obtain ⟨a, ha, rfl⟩ := r1
  obtain ⟨F2, g2, S2, r2⟩ := S1.freeze ha eO
  exact t F2 as1 (.d (.list ds)) _ _ H1 (g1.trans g2) S2 r2 h1
theorem xe_frz (h : XE Y e Γ O fun c O' => ∃ k ds, c = .o k ∧ O'[k]? = some (.lst (ds.map C.d)) ∧ R (.d (.list ds)) (O'.set k .gone)) : XE Y e Γ O R := we_frz h
/-- a pure comprehension: the list of the images -/
theorem we_map {scope : Scope} {vs : List Nat} {τ : Tgt} (hj : ∀ j ∈ tgL τ, j ∈ vs) (hcl : Y.cl = true)
    (h : XI Y tg iter Γ O fun ds O1 => ∃ g : PyData → PyData, ds.length ≤ sizeLine ∧ (∀ d ∈ ds, ∀ acc, ∃ Γ2, tgS (wipeG Γ vs) τ d = some Γ2 ∧ XE (Y.blk scope) elt Γ2 (O1 ++ [.lst acc]) fun y O3 => y = .d (g d) ∧ ∃ E2, O3 = (O1 ++ [.lst acc]) ++ E2) ∧ R (.d (.list (ds.map g))) (O1 ++ [.gone])) :
    We Y (tLc (wpI Y tg iter) (tgG Y.K τ) tYes (wpE (Y.blk scope) elt) vs) Γ O R := we_frz (we_lc hj hcl fun F as σ H R' S L tx t => h F as σ H R' S L tx fun F1 as1 J ds O1 H1 g1 S1 j1 ⟨g, hz, hb, hr⟩ => t F1 as1 J ds O1 H1 g1 S1 j1
  ⟨fun i acc O' => O' = O1 ∧ acc = ((ds.take i).map g).map C.d, hz, ⟨rfl, by simp⟩, fun i acc O' ⟨e1, e2⟩ => by
    subst e1 e2
    refine ⟨rfl, S1.clo, fun c hc => ?_, by simp; omega⟩
    obtain ⟨d, _, rfl⟩ := List.mem_map.mp hc
    trivial, fun i d acc O' hd ⟨e1, e2⟩ => by
    subst e1
    obtain ⟨Γ2, ht, hx⟩ := hb d (List.mem_of_getElem? hd) acc
    refine ⟨Γ2, ht, hx.imp fun y O3 ⟨ey, E2, e3⟩ => ⟨O', E2, e3, rfl, ?_⟩⟩
    rw [take_succ' hd, e2, ey]
    simp, fun acc O' ⟨e1, e2⟩ => ⟨O'.length, ds.map g, rfl, by rw [e2]; simp, by
    subst e1
    have : (O' ++ [Ob.lst acc]).set O'.length .gone = O' ++ [.gone] := by simp
    rw [this]
    exact hr⟩⟩)
/-- xs.append(e) as a statement -/
theorem xs_append {ap cp : Pos} (hb : ∀ i, attributeBase a "append" (Y.X i).env (eval a (Y.X i).env) = eval a (Y.X i).env) (h : XE Y a Γ O fun c1 O1 => ∃ k, c1 = .o k ∧ (∃ cs, O1[k]? = some (.lst cs)) ∧ XE Y b Γ O1 fun c2 O2 => ∃ cs, O2[k]? = some (.lst cs) ∧ cs.length < sizeLine ∧ E.nx Γ (O2.set k (.lst (cs ++ [c2]))))
    (hkw : ∀ i, ((((backTo cp (starEach [b] (Y.X i).env)).all fun x => !x.fst) && (backToKw cp (keywordEach [] (Y.X i).env)).all fun x => x.fst.isSome) && decide (([b].length + ([] : List Keyword).length + if ([] : List Keyword).isEmpty = true then 0 else 1) < 30)) = true := by exact fun _ => rfl)
    (hl : (ap.endLine == cp.line) = true := by rfl) (hs : ∀ i, starEach [b] (Y.X i).env = (false, eval b (Y.X i).env) :: starEach [] (Y.X i).env := by exact fun _ => rfl) (hsw : ∀ i, swapsWith (.Call (.Attribute a "append" ap) [b] [] cp) none pos.line (Y.X i).env = pure false := by exact fun _ => rfl) :
    XS Y (.Expr (.Call (.Attribute a "append" ap) [b] [] cp) pos) Γ O E :=
  xs_of (te := tDrop (tBM Y.K "list" rAppend (wpE Y a) (tCons (wpE Y b) tNil))) (fun i => ps_expr (by
    rw [← Y.hK i]
    exact pe_bm PySem.F.plainAttrs_list PySem.F.slot_list_append PySem.F.type_list_append mt_append (peW i) (pa_cons (peW i) pa_nil (hs i)) (hb i) (hkw i) hl (hs i) (by rfl)) (hsw i)) fun F as σ H D S L tx t =>
    h F as σ H _ S L tx fun F1 as1 c1 v1 O1 H1 g1 S1 r1 ⟨k, ec, h1⟩ => by
      subst ec
      obtain ⟨a, ha, rfl⟩ := r1
      obtain ⟨⟨cs0, e0⟩, h1⟩ := h1
      obtain ⟨_, vs0, ev0, _⟩ := S1.lst ha e0
      refine ⟨.inl ⟨rfl, _, SqL.of ev0⟩, h1 F1 as1 σ H1 _ S1 (L.mono g1) (tx.mono g1) fun F2 as2 c2 v2 O2 H2 g2 S2 r2 ⟨cs, e2, hz, h2⟩ => ?_⟩
      have ha2 := px_get g2.px ha
      obtain ⟨hF, vs, ev, pv⟩ := S2.lst ha2 e2
      exact ⟨a, vs, v2, rfl, rfl, ev, by rw [← pr_len pv]; exact hz, t.nx F2 as2 Γ σ _ _ (g1.trans g2) (S2.put (u0 := .gone) ha2 hF (Paired.snoc pv r2)) (L.mono (g1.trans g2)) h2⟩
end
end T

set_option Elab.async false
set_option linter.all false
set_option maxRecDepth 100000
set_option maxHeartbeats 1000000
namespace T
open PySem PySem.Spec PyProof.Rows L2

/-- the body of a def that lets nothing out -/
def famB (P : Program) (w : World) (K : PySem.W.Frag) (mg : Str → Option Value) (base : Heap) (N : List Str) (qual : Str) (st : Stmt) (f : Addr) (cdv : Value) (A : Around) (outer : List Env) (s : Shared) (H : Hp) (E : XK) (lev : Nat)
    (hr : Room lev (A.deeper (envOfC qual (defScope st) s.heap.objs.size f cdv))) (nd : N.Nodup) : Fam where
  ι := Unit
  X := fun _ => (cxOf (L2.CX P w) P w K mg base N qual (defScope st) f cdv A outer s H E).nox
  K := K
  mg := mg
  N := N
  P := P
  w := w
  base := base
  lev := lev
  hK := fun _ => rfl
  hmg := fun _ => rfl
  hN := fun _ => rfl
  hP := fun _ => rfl
  hw := fun _ => rfl
  hb := fun _ => rfl
  nd := nd
  cl := true
  room := fun _ _ => hr
  calm := fun _ _ => rfl
  sc := defScope st
  hsc := fun _ => rfl
  W := fun _ _ _ _ => False
  RX := fun _ _ => False
  tk := fun _ => takes0
  own := fun _ => PassesOwn.never
/-- the body of a def that may raise -/
def famX (P : Program) (w : World) (K : PySem.W.Frag) (mg : Str → Option Value) (base : Heap) (N : List Str) (qual : Str) (st : Stmt) (f : Addr) (cdv : Value) (A : Around) (outer : List Env) (s : Shared) (H : Hp) (E : XK) (lev : Nat)
    (hr : Room lev (A.deeper (envOfC qual (defScope st) s.heap.objs.size f cdv))) (nd : N.Nodup) (RX : Value → Sto → Prop) : Fam where
  ι := Unit
  X := fun _ => (cxOf (L2.CX P w) P w K mg base N qual (defScope st) f cdv A outer s H E)
  K := K
  mg := mg
  N := N
  P := P
  w := w
  base := base
  lev := lev
  hK := fun _ => rfl
  hmg := fun _ => rfl
  hN := fun _ => rfl
  hP := fun _ => rfl
  hw := fun _ => rfl
  hb := fun _ => rfl
  nd := nd
  cl := true
  room := fun _ _ => hr
  calm := fun _ _ => rfl
  sc := defScope st
  hsc := fun _ => rfl
  W := fun cls d _ H' => E cls d H'
  RX := RX
  tk := fun _ => takes_of rfl rfl rfl rfl
  own := fun _ => passes_of rfl
def startG (N : List Str) (cs : List C) : Gam := cs.map some ++ List.replicate (N.length - cs.length) none
section
variable {P : Program} {w : World} {K : PySem.W.Frag} {mg : Str → Option Value} {base : Heap} {x qual : Str} {st : Stmt} {f : Addr} {fd : FuncData} {N ps : List Str} {k : Nat} {sp : SpT}
theorem slr_rep {F : Hp} {as : List Addr} : ∀ n, SlR K F as (List.replicate n none) (List.replicate n none)
  | 0 => .nil
  | n + 1 => .cons (fun c e => nomatch e) (slr_rep n)
theorem slr_start {F : Hp} {as : List Addr} {cs : List C} {vs : List V} (h : Paired (CR K F as) cs vs) : SlR K F as (startG N cs) (L2.start N vs) := by
  have hl := pr_len h
  unfold startG L2.start
  rw [hl]
  clear hl
  generalize N.length - vs.length = n
  induction h with
  | nil => exact slr_rep n
  | cons r _ ih => exact .cons (fun c e => by cases e; exact ⟨_, rfl, r⟩) ih
theorem take_px {α : Type} {l l' : List α} {n : Nat} (p : l <+: l') (h : l.length ≤ n) : l <+: l'.take n := by
  obtain ⟨r, rfl⟩ := p
  rw [List.take_append]
  rw [List.take_of_length_le h]
  exact List.prefix_append _ _
theorem back_go {F : Hp} {as : List Addr} {O : Sto} {R : C → Sto → Prop} {Q : VK} (hl : as.length = O.length) (th : ThE K F as R Q) : ThE K F as (Back O R) Q := fun F' as' c v O'' H' g S' r ⟨O', E2, e, h1, h2, h3, p⟩ => by
  subst e
  have hlen : (as'.take O'.length).length = O'.length := by
    have := S'.len
    rw [List.length_append] at this
    rw [List.length_take]
    omega
  exact th F' (as'.take O'.length) c v O' H' ⟨g.fr, take_px g.px (by rw [hl]; exact h1)⟩ (S'.cut (List.take_prefix _ _) hlen h2) (cr_back r (List.take_prefix _ _) (by rw [hlen]; exact h3)) p
theorem fn_ok (F : Fun K x qual st f fd) (S : FnScope N ps (defScope st)) (hl : ∀ cs O R RX, sp cs O R RX → cs.length = ps.length)
    (hb : ∀ cdv A outer s H E (hr : Room k (A.deeper (envOfC qual (defScope st) s.heap.objs.size f cdv))) cs O R RX, Clo O.length O → sp cs O R RX →
      XB (famB P w K mg base N qual st f cdv A outer s H E k hr S.nd) (defBody st) (startG N cs) O { nx := fun _ => Back O R (.d .none), rt := Back O R }) : FnOk P w K mg base (L2.CX P w) (k + 1) f fd ps (spOf K sp) := by
  refine F.okX S (fun vs H Q E h => ?_) (fun cdv A outer s H vs Q E hr h => ?_)
  · obtain ⟨F0, as, O, cs, R, RX, S0, r, h, _⟩ := h
    rw [← pr_len r]
    exact hl cs O R RX h
  · obtain ⟨F0, as, O, cs, R, RX, S0, r, h, th, hx⟩ := h
    refine ⟨wpB (famB P w K mg base N qual st f cdv A outer s H E k hr S.nd) (defBody st), PSs.nox (pbW (Y := famB P w K mg base N qual st f cdv A outer s H E k hr S.nd) ()), ?_⟩
    refine hb cdv A outer s H E hr cs O R RX S0.clo h F0 as _ H _ S0 (slr_start r) (fun F' as' cl O' σ' H' _ _ (z : False) => z.elim) ⟨fun F' as' Γ' σ' O'' H' g S' _ p => ?_, back_go S0.len th, fun _ _ _ _ _ _ _ _ _ (z : False) => z.elim, fun _ _ _ _ _ _ _ _ _ (z : False) => z.elim⟩
    exact back_go S0.len th F' as' (.d .none) .non O'' H' g S' (show CR K F' as' (.d .none) .non from .non) p
theorem fn_okX (F : Fun K x qual st f fd) (S : FnScope N ps (defScope st)) (hl : ∀ cs O R RX, sp cs O R RX → cs.length = ps.length)
    (hb : ∀ cdv A outer s H E (hr : Room k (A.deeper (envOfC qual (defScope st) s.heap.objs.size f cdv))) cs O R RX, Clo O.length O → sp cs O R RX →
      XB (famX P w K mg base N qual st f cdv A outer s H E k hr S.nd (fun cl O'' => Back O (fun _ => RX cl) (.d .none) O'')) (defBody st) (startG N cs) O { nx := fun _ => Back O R (.d .none), rt := Back O R }) : FnOk P w K mg base (L2.CX P w) (k + 1) f fd ps (spOf K sp) := by
  refine F.okX S (fun vs H Q E h => ?_) (fun cdv A outer s H vs Q E hr h => ?_)
  · obtain ⟨F0, as, O, cs, R, RX, S0, r, h, _⟩ := h
    rw [← pr_len r]
    exact hl cs O R RX h
  · obtain ⟨F0, as, O, cs, R, RX, S0, r, h, th, hx⟩ := h
    refine ⟨wpB (famX P w K mg base N qual st f cdv A outer s H E k hr S.nd (fun cl O'' => Back O (fun _ => RX cl) (.d .none) O'')) (defBody st), pbW (Y := famX P w K mg base N qual st f cdv A outer s H E k hr S.nd (fun cl O'' => Back O (fun _ => RX cl) (.d .none) O'')) (), ?_⟩
    refine hb cdv A outer s H E hr cs O R RX S0.clo h F0 as _ H _ S0 (slr_start r) (fun F' as' cl O'' σ' H' g S' z => ?_) ⟨fun F' as' Γ' σ' O'' H' g S' _ p => ?_, back_go S0.len th, fun _ _ _ _ _ _ _ _ _ (z : False) => z.elim, fun _ _ _ _ _ _ _ _ _ (z : False) => z.elim⟩
    · obtain ⟨O', E2, e, h1, h2, h3, p⟩ := z
      subst e
      have hlen : (as'.take O'.length).length = O'.length := by
        have := S'.len
        rw [List.length_append] at this
        rw [List.length_take]
        omega
      exact hx F' (as'.take O'.length) cl O' H' ⟨g.fr, take_px g.px (by rw [S0.len]; exact h1)⟩ (S'.cut (List.take_prefix _ _) hlen h2) p
    · exact back_go S0.len th F' as' (.d .none) .non O'' H' g S' (show CR K F' as' (.d .none) .non from .non) p
end
/-! ### the top -/
/-- the def x stands at the top as the text says -/
def DefAt (K : PySem.W.Frag) (x : Str) (st : Stmt) : Prop := ∃ (f : Addr) (oc : Value) (od an : Option Addr) (sl : Array (Option Value)) (kV dc pm cd ct : Value),
  PySem.W.nsIn K mainGlobals x = some (some (.ref f)) ∧ K.lookup f = some ⟨oc, od, .func (PySem.W.fnOf x x (defArgs st) (defBody st) (defScope st) .none kV dc pm an cd ct), sl⟩ ∧ PySem.W.codeIn K cd x = true ∧ PySem.W.keepIn K (.ref f) = true
theorem defAt_mk {K : PySem.W.Frag} {x : Str} {st : Stmt} {f : Addr} {oc : Value} {od an : Option Addr} {sl : Array (Option Value)} {kV dc pm cd ct : Value} (a : PySem.W.nsIn K mainGlobals x = some (some (.ref f)))
    (l : K.lookup f = some ⟨oc, od, .func (PySem.W.fnOf x x (defArgs st) (defBody st) (defScope st) .none kV dc pm an cd ct), sl⟩) (c : PySem.W.codeIn K cd x = true) (k : PySem.W.keepIn K (.ref f) = true) : DefAt K x st := ⟨f, oc, od, an, sl, kV, dc, pm, cd, ct, a, l, c, k⟩
section
variable {P : Program} {w : World} {K : PySem.W.Frag} {mg : Str → Option Value} {base : Heap} {x : Str} {st : Stmt} {N ps : List Str} {k : Nat} {sp : SpT}
/-- from the top and the body's walk to the def's promise -/
theorem fn_at (D : DefAt K x st) (M : ∀ u, PySem.W.nsIn K mainGlobals x = some (some u) → mg x = some u) (bd : ∀ (kV doc pm : Value) (an : Option Addr) (cdv ct : Value) (us : List Value), us.length = ps.length → bindArgs (PySem.W.fnOf x x (defArgs st) (defBody st) (defScope st) .none kV doc pm an cdv ct) ⟨us, []⟩ = pure (ps.zip us))
    (h : ∀ f fd, Fun K x x st f fd → FnOk P w K mg base (L2.CX P w) k f fd ps (spOf K sp)) : Fn P w K mg base k x sp := by
  obtain ⟨f, oc, od, an, sl, kV, dc, pm, cd, ct, a, l, c, kp⟩ := D
  have F := fun_mk (st := st) l c kp
  exact ⟨f, _, ps, k, Nat.le_refl _, h f _ F, M _ a, kp, F.binds bd⟩
end
/-! ### the law -/
def spLaw : SpT := fun cs O R RX => ∃ ns : List Int, cs = [.d (.list (ns.map PyData.int))] ∧ ns.length ≤ 63 ∧ R (.d (.bool true)) O
theorem all_ints {K : PySem.W.Frag} {H : Hp} : ∀ ns : List Int, DpAll K H (ns.map V.int) (ns.map PyData.int)
  | [] => .nil
  | n :: ns => .cons (.int n) (all_ints ns)
theorem law_end {K : PySem.W.Frag} {H : Hp} {a : Addr} {ns : List Int} (hl : ns.length ≤ 63) (h : SqL K H a (ns.map V.int)) : spOf K spLaw [V.ref a] H (fun v _ => v = V.bl true) (fun _ _ _ => False) :=
  ⟨H, [], [], [.d (.list (ns.map PyData.int))], fun c _ => c = .d (.bool true), fun _ _ => False, ⟨Same.refl _, List.nodup_nil, rfl, fun a ha => (by cases ha), fun k a u ha => (by simp at ha)⟩,
    .cons (show CR K H [] (.d (.list (ns.map PyData.int))) (.ref a) from .lst h (all_ints ns)) .nil, ⟨ns, rfl, hl, rfl⟩, fun F' as' c v O' H' _ _ r e => by subst e; cases r; rfl, fun _ _ _ _ _ _ _ z => z⟩
theorem walkT {l : PySem.W.OpenLaw} {q : Program} {loose : List Str} {XP : (Str → Option Value) → Heap → Prop} {YP : World → Heap → Prop} {d : DefRec} {K : Params → PySem.W.Frag} {k : Nat} (hn : l.most = some 63) (hdf : d.params.defaults = []) (hr : Room k callerA)
    (hY : ∀ (w : World) (h : Heap), YP w h → (K w.params).In h)
    (F : ∀ (w : World) (mg : Str → Option Value) (fa : Addr) (h : Heap), (K w.params).In h → h.Ns mainGlobals mg → mg d.name = some (.ref fa) →
      ∃ fd : FuncData, (∀ (s : Shared) (u : Value), BindsTo s fd ⟨[u], []⟩ [("script", u)]) ∧ ∀ base : Heap, (K w.params).In base → base.Ns mainGlobals mg → FnOk l.prog w (K w.params) mg base (L2.CX l.prog w) k fa fd ["script"] (spOf (K w.params) spLaw)) :
    PySem.W.WalkO q loose XP YP l.row.toRowW d [] (fun f vs => PySem.call f vs) :=
  L2.walk_of (n := 63) (k := k) (x := "script") (CX := fun w => L2.CX l.prog w) (sp := fun w => spOf (K w.params) spLaw) hn (by decide) hdf hr hY F (fun w H a ns hl _ hS => law_end hl hS) fun w H s e s' z => by
    obtain ⟨_, _, _, _, _, _, _, _, _, _, _, _, z⟩ := z
    exact z
end T

set_option Elab.async false
set_option linter.all false
set_option maxRecDepth 100000
set_option maxHeartbeats 1000000
namespace T
open PySem PySem.Spec PyProof.Rows L2
section
variable {Y : Fam} {e a b c iter tg elt : Expr} {es : List Expr} {st : Stmt} {sts : List Stmt} {Γ : Gam} {O : Sto} {R : C → Sto → Prop} {RT : Bool → Sto → Prop} {E : En} {pos p : Pos} {x : Str} {K : PySem.W.Frag}
/-! ### and, or in one way: p, then q if it is asked -/
theorem XW.imp {R' : Bool → Sto → Prop} (h : XW Y e Γ O RT) (k : ∀ c O', RT c O' → R' c O') : XW Y e Γ O R' := fun F as σ H Q S L tx t => h F as σ H Q S L tx fun F' as' c v O' H' g S' r p => t F' as' c v O' H' g S' r (k c O' p)
theorem xw_tidy (h : XW Y e Γ O fun c O' => ∃ E2, O' = O ++ E2 ∧ RT c O) : XW Y e Γ O RT := fun F as σ H Q S L tx t => h F as σ H Q S L tx fun F1 as1 c v O1 H1 g1 S1 r1 ⟨E2, eO, h1⟩ => by
  subst eO
  exact t F1 as c v O H1 ⟨g1.fr, List.prefix_refl _⟩ (S1.cut g1.px S.len S.clo) r1 h1
theorem xe_tidyB {q : Bool} (h : XE Y e Γ O fun c2 O2 => c2 = .d (.bool q) ∧ ∃ E2, O2 = O ++ E2) : XE Y e Γ O fun c2 O2 => c2 = .d (.bool q) ∧ O2 = O := xe_tidy (h.imp fun c2 O2 ⟨e2, E2, e3⟩ => ⟨_, E2, e2, e3, rfl, rfl⟩)
theorem xw_tidyB {q : Bool} (h : XW Y e Γ O fun c2 O2 => c2 = q ∧ ∃ E2, O2 = O ++ E2) : XW Y e Γ O fun c2 O2 => c2 = q ∧ O2 = O := xw_tidy (h.imp fun c2 O2 ⟨e2, E2, e3⟩ => ⟨E2, e3, e2, rfl⟩)
theorem xe_andM (h : XE Y a Γ O fun c O1 => ∃ p q, c = .d (.bool p) ∧ (p = true → XE Y (.BoolOp .And (b :: es) pos) Γ O1 fun c2 O2 => c2 = .d (.bool q) ∧ ∃ E2, O2 = O1 ++ E2) ∧ R (.d (.bool (p && q))) O1) : XE Y (.BoolOp .And (a :: b :: es) pos) Γ O R :=
  xe_and (h.imp fun c O1 ⟨p, q, e, h2, h3⟩ => ⟨p, e, fun hp => (xe_tidyB (h2 hp)).imp fun c2 O2 ⟨e2, e3⟩ => by subst e2 e3 hp; exact h3, fun hp => by subst hp; exact h3⟩)
theorem xe_orM (h : XE Y a Γ O fun c O1 => ∃ p q, c = .d (.bool p) ∧ (p = false → XE Y (.BoolOp .Or (b :: es) pos) Γ O1 fun c2 O2 => c2 = .d (.bool q) ∧ ∃ E2, O2 = O1 ++ E2) ∧ R (.d (.bool (p || q))) O1) : XE Y (.BoolOp .Or (a :: b :: es) pos) Γ O R :=
  xe_or (h.imp fun c O1 ⟨p, q, e, h2, h3⟩ => ⟨p, e, fun hp => (xe_tidyB (h2 hp)).imp fun c2 O2 ⟨e2, e3⟩ => by subst e2 e3 hp; exact h3, fun hp => by subst hp; exact h3⟩)
theorem xw_andM (h : XT Y a Γ O fun p O1 => ∃ q, (p = true → XW Y (.BoolOp .And (b :: es) pos) Γ O1 fun c2 O2 => c2 = q ∧ ∃ E2, O2 = O1 ++ E2) ∧ RT (p && q) O1) : XW Y (.BoolOp .And (a :: b :: es) pos) Γ O RT :=
  xw_and (h.imp fun p O1 ⟨q, h2, h3⟩ => ⟨fun hp => (xw_tidyB (h2 hp)).imp fun c2 O2 ⟨e2, e3⟩ => by subst e2 e3 hp; exact h3, fun hp => by subst hp; exact h3⟩)
theorem xw_orM (h : XT Y a Γ O fun p O1 => ∃ q, (p = false → XW Y (.BoolOp .Or (b :: es) pos) Γ O1 fun c2 O2 => c2 = q ∧ ∃ E2, O2 = O1 ++ E2) ∧ RT (p || q) O1) : XW Y (.BoolOp .Or (a :: b :: es) pos) Γ O RT :=
  xw_or (h.imp fun p O1 ⟨q, h2, h3⟩ => ⟨fun hp => (xw_tidyB (h2 hp)).imp fun c2 O2 ⟨e2, e3⟩ => by subst e2 e3 hp; exact h3, fun hp => by subst hp; exact h3⟩)
theorem xe_len (hm : Y.mg "len" = none) (h : XA Y (e :: es) Γ O fun cs O1 => Wc Y.K (fun xs H Q => ∃ x n, xs = [x] ∧ LenV Y.K x H n ∧ Q (.int n) H) cs O1 R) (hg : ∀ i, Gl (Y.X i) "len" := by exact fun _ => rfl)
    (he : ∀ i, starEach (e :: es) (Y.X i).env = (false, eval e (Y.X i).env) :: starEach es (Y.X i).env := by exact fun _ => rfl) (hpl : ∀ i, (backTo pos (starEach es (Y.X i).env)).any (·.1) = false := by exact fun _ => rfl) : XE Y (.Call (.Name "len" p) (e :: es) [] pos) Γ O R :=
  xe_blt (fun i => by rw [← Y.hK i]; exact call_len) hm PySem.boot_len h hg (by decide) (by decide) he hpl
theorem xe_abs (hm : Y.mg "abs" = none) (h : XA Y (e :: es) Γ O fun cs O1 => Wc Y.K (fun xs H Q => ∃ i, xs = [V.int i] ∧ Q (V.int (if i < 0 then -i else i)) H) cs O1 R) (hg : ∀ i, Gl (Y.X i) "abs" := by exact fun _ => rfl)
    (he : ∀ i, starEach (e :: es) (Y.X i).env = (false, eval e (Y.X i).env) :: starEach es (Y.X i).env := by exact fun _ => rfl) (hpl : ∀ i, (backTo pos (starEach es (Y.X i).env)).any (·.1) = false := by exact fun _ => rfl) : XE Y (.Call (.Name "abs" p) (e :: es) [] pos) Γ O R :=
  xe_blt (fun i => call_abs) hm (by decide +kernel) h hg (by decide) (by decide) he hpl
theorem xe_int_ (hm : Y.mg "int" = none) (h : XA Y (e :: es) Γ O fun cs O1 => Wc Y.K rInt1 cs O1 R) (hg : ∀ i, Gl (Y.X i) "int" := by exact fun _ => rfl)
    (he : ∀ i, starEach (e :: es) (Y.X i).env = (false, eval e (Y.X i).env) :: starEach es (Y.X i).env := by exact fun _ => rfl) (hpl : ∀ i, (backTo pos (starEach es (Y.X i).env)).any (·.1) = false := by exact fun _ => rfl) : XE Y (.Call (.Name "int" p) (e :: es) [] pos) Γ O R :=
  xe_ty (fun i => call_int1) hm (by decide +kernel) h hg (by decide) (by decide) he hpl
theorem xe_tuple_ (hm : Y.mg "tuple" = none) (h : XA Y (e :: es) Γ O fun cs O1 => Wc Y.K (rTupOf Y.K) cs O1 R) (hg : ∀ i, Gl (Y.X i) "tuple" := by exact fun _ => rfl)
    (he : ∀ i, starEach (e :: es) (Y.X i).env = (false, eval e (Y.X i).env) :: starEach es (Y.X i).env := by exact fun _ => rfl) (hpl : ∀ i, (backTo pos (starEach es (Y.X i).env)).any (·.1) = false := by exact fun _ => rfl) : XE Y (.Call (.Name "tuple" p) (e :: es) [] pos) Γ O R :=
  xe_ty (fun i => by rw [← Y.hK i]; exact call_tuple_of) hm (by decide +kernel) h hg (by decide) (by decide) he hpl
theorem xe_list_ (hm : Y.mg "list" = none) (h : XA Y (e :: es) Γ O fun cs O1 => Wc Y.K (rListOf Y.K) cs O1 R) (hg : ∀ i, Gl (Y.X i) "list" := by exact fun _ => rfl)
    (he : ∀ i, starEach (e :: es) (Y.X i).env = (false, eval e (Y.X i).env) :: starEach es (Y.X i).env := by exact fun _ => rfl) (hpl : ∀ i, (backTo pos (starEach es (Y.X i).env)).any (·.1) = false := by exact fun _ => rfl) : XE Y (.Call (.Name "list" p) (e :: es) [] pos) Γ O R :=
  xe_ty (fun i => by rw [← Y.hK i]; exact call_list_of) hm (by decide +kernel) h hg (by decide) (by decide) he hpl
theorem xe_all (hm : Y.mg "all" = none) (h : XA Y (e :: es) Γ O fun cs O1 => Wc Y.K (rAll Y.K) cs O1 R) (hc : Y.cl = true := by rfl) (hg : ∀ i, Gl (Y.X i) "all" := by exact fun _ => rfl)
    (he : ∀ i, starEach (e :: es) (Y.X i).env = (false, eval e (Y.X i).env) :: starEach es (Y.X i).env := by exact fun _ => rfl) (hpl : ∀ i, (backTo pos (starEach es (Y.X i).env)).any (·.1) = false := by exact fun _ => rfl) : XE Y (.Call (.Name "all" p) (e :: es) [] pos) Γ O R :=
  xe_blt (fun i => by rw [← Y.hK i]; exact cr_all (Y.calm hc i)) hm (by decide +kernel) h hg (by decide) (by decide) he hpl
theorem wc_all {bs : List Bool} (r : R (.d (.bool (bs.all id))) O) : Wc K (rAll K) [.d (.list (bs.map PyData.bool))] O R := fun F as H xs Q S rx t => by
  cases rx with
  | cons rx r0 =>
    cases r0
    cases rx with
    | @lst a xs _ h hd =>
      have e : ∀ {bs : List Bool} {vs : List V}, DpAll K F vs (bs.map PyData.bool) → vs = bs.map V.bl := by
        intro bs
        induction bs with
        | nil => intro vs h; cases h; rfl
        | cons b bs ih => intro vs h; cases h with | cons h1 h2 => cases h1; rw [ih h2]; rfl
      have e := e hd
      subst e
      exact ⟨a, bs, rfl, S.ex.seq h, t.go S (show CR K F as (.d (.bool (bs.all id))) _ from .bl _) r⟩
theorem xe_ix {s : Expr} (h : XE Y a Γ O fun c1 O1 => XE Y s Γ O1 fun c2 O2 => W2 Y.K (rIx Y.K) c1 c2 O2 R) (hp : PlainIx s := by exact fun _ _ => rfl) : XE Y (.Subscript a s pos) Γ O R :=
  xe_of (fun i => by
    have q : IxR (Y.X i) (rIx Y.K) := by rw [← Y.hK i]; exact ix_seq
    exact pe_ix q (peW i) (peW i) hp) fun F as σ H Q S L tx t => h F as σ H _ S L tx fun F1 as1 c1 v1 O1 H1 g1 S1 r1 h1 =>
    h1 F1 as1 σ H1 _ S1 (L.mono g1) (tx.mono g1) fun F2 as2 c2 v2 O2 H2 g2 S2 r2 h2 => h2 F2 as2 H2 v1 v2 Q S2 (r1.mono g2) r2 (t.mono (g1.trans g2))
/-! ### slices -/
def cutD (ds : List PyData) (lo hi : Option Int) : List PyData := (ds.drop (HT.sIx ds.length 0 lo)).take (HT.sIx ds.length ds.length hi - HT.sIx ds.length 0 lo)
theorem dpall_cut {F : Hp} {vs : List V} {ds : List PyData} (h : DpAll K F vs ds) (lo hi : Option Int) : DpAll K F (cutV vs lo hi) (cutD ds lo hi) := by
  unfold cutV cutD
  rw [dpall_len h]
  exact dpall_take _ (dpall_drop _ h)
def WSl (K : PySem.W.Frag) (c : C) (lo hi : Option Int) (O : Sto) (R : C → Sto → Prop) : Prop := ∀ F as H x Q, Sat K F H as O → CR K F as c x → ThE K F as R Q → (rSlA K x lo hi H Q ∨ rSlL K x lo hi H Q ∨ C8.rSlX x lo hi H Q)
theorem wsl_tup {ds : List PyData} {lo hi : Option Int} (r : R (.d (.tuple (cutD ds lo hi))) O) : WSl K (.d (.tuple ds)) lo hi O R := fun F as H x Q S rx t => by
  cases rx with
  | @tup a xs _ h hd =>
    refine .inl ⟨a, xs, rfl, same_t S.ex h, fun hw => ?_, fun hw p hp => ?_⟩
    · rw [dpall_len hd] at hw
      have e : cutD ds lo hi = ds := by
        unfold cutD
        rw [hw.1, hw.2, List.drop_zero, Nat.sub_zero, List.take_length]
      rw [e] at r
      exact t.go S (show CR K F as (.d (.tuple ds)) _ from .tup h hd) r
    · obtain ⟨S2, g2⟩ := S.froze (o := .tup (cutV xs lo hi)) hp
      exact t _ _ (.d (.tuple (cutD ds lo hi))) _ _ _ g2 S2 (.tup (.inl (.inl upd_same)) (dp_sameAll g2.fr _ _ (dpall_cut hd lo hi))) r
theorem wsl_lst {ds : List PyData} {lo hi : Option Int} (r : R (.d (.list (cutD ds lo hi))) O) : WSl K (.d (.list ds)) lo hi O R := fun F as H x Q S rx t => by
  cases rx with
  | @lst a xs _ h hd =>
    refine .inr (.inl ⟨a, xs, rfl, S.ex.seq h, fun p hp => ?_⟩)
    obtain ⟨S2, g2⟩ := S.froze (o := .lst (cutV xs lo hi)) hp
    exact t _ _ (.d (.list (cutD ds lo hi))) _ _ _ g2 S2 (.lst (.inl (.inl upd_same)) (dp_sameAll g2.fr _ _ (dpall_cut hd lo hi))) r
theorem wsl_str {z : Str} {lo hi : Option Int} (hz : z.length ≤ sizeLine) (r : R (.d (.str (Txt.slice z lo hi))) O) : WSl K (.d (.str z)) lo hi O R := fun F as H x Q S rx t => by
  cases rx
  exact .inr (.inr ⟨z, rfl, hz, t.go S (show CR K F as (.d (.str (Txt.slice z lo hi))) _ from .str _) r⟩)
theorem slR (i : Y.ι) : L2.SlR (Y.X i) (fun x lo hi H Q => rSlA Y.K x lo hi H Q ∨ rSlL Y.K x lo hi H Q ∨ C8.rSlX x lo hi H Q) := by
  rw [← Y.hK i]
  exact L2.SlR.or sl_tupA (L2.SlR.or sl_list C8.sl_txt)
theorem xe_sliceL {lo : Expr} {p2 : Pos} (h : XE Y a Γ O fun c1 O1 => XE Y lo Γ O1 fun c2 O2 => ∃ i, c2 = .d (.int i) ∧ WSl Y.K c1 (some i) none O2 R) : XE Y (.Subscript a (.Slice (some lo) none none p2) pos) Γ O R :=
  xe_of (fun i => pe_slice (slR i) (peW i) (po_some (peW i)) po_none) fun F as σ H Q S L tx t => h F as σ H _ S L tx fun F1 as1 c1 v1 O1 H1 g1 S1 r1 h1 =>
    h1 F1 as1 σ H1 _ S1 (L.mono g1) (tx.mono g1) fun F2 as2 c2 v2 O2 H2 g2 S2 r2 ⟨i, e2, h2⟩ => by
      subst e2
      cases r2
      exact ⟨i, rfl, h2 F2 as2 H2 v1 Q S2 (r1.mono g2) (t.mono (g1.trans g2))⟩
theorem xe_sliceU {hi : Expr} {p2 : Pos} (h : XE Y a Γ O fun c1 O1 => XE Y hi Γ O1 fun c2 O2 => ∃ i, c2 = .d (.int i) ∧ WSl Y.K c1 none (some i) O2 R) : XE Y (.Subscript a (.Slice none (some hi) none p2) pos) Γ O R :=
  xe_of (fun i => pe_slice (slR i) (peW i) po_none (po_some (peW i))) fun F as σ H Q S L tx t => h F as σ H _ S L tx fun F1 as1 c1 v1 O1 H1 g1 S1 r1 h1 =>
    h1 F1 as1 σ H1 _ S1 (L.mono g1) (tx.mono g1) fun F2 as2 c2 v2 O2 H2 g2 S2 r2 ⟨i, e2, h2⟩ => by
      subst e2
      cases r2
      exact ⟨i, rfl, h2 F2 as2 H2 v1 Q S2 (r1.mono g2) (t.mono (g1.trans g2))⟩
theorem xe_sliceLU {lo hi : Expr} {p2 : Pos} (h : XE Y a Γ O fun c1 O1 => XE Y lo Γ O1 fun c2 O2 => ∃ i, c2 = .d (.int i) ∧ XE Y hi Γ O2 fun c3 O3 => ∃ j, c3 = .d (.int j) ∧ WSl Y.K c1 (some i) (some j) O3 R) : XE Y (.Subscript a (.Slice (some lo) (some hi) none p2) pos) Γ O R :=
  xe_of (fun i => pe_slice (slR i) (peW i) (po_some (peW i)) (po_some (peW i))) fun F as σ H Q S L tx t => h F as σ H _ S L tx fun F1 as1 c1 v1 O1 H1 g1 S1 r1 h1 =>
    h1 F1 as1 σ H1 _ S1 (L.mono g1) (tx.mono g1) fun F2 as2 c2 v2 O2 H2 g2 S2 r2 ⟨i, e2, h2⟩ => by
      subst e2
      cases r2
      exact ⟨i, rfl, h2 F2 as2 σ H2 _ S2 (L.mono (g1.trans g2)) (tx.mono (g1.trans g2)) fun F3 as3 c3 v3 O3 H3 g3 S3 r3 ⟨j, e3, h3⟩ => by
        subst e3
        cases r3
        exact ⟨j, rfl, h3 F3 as3 H3 v1 Q S3 (r1.mono (g2.trans g3)) (t.mono ((g1.trans g2).trans g3))⟩⟩
theorem xe_sliceA {p2 : Pos} (h : XE Y a Γ O fun c1 O1 => WSl Y.K c1 none none O1 R) : XE Y (.Subscript a (.Slice none none none p2) pos) Γ O R :=
  xe_of (fun i => pe_slice (slR i) (peW i) po_none po_none) fun F as σ H Q S L tx t => h F as σ H _ S L tx fun F1 as1 c1 v1 O1 H1 g1 S1 r1 h1 =>
      h1 F1 as1 H1 v1 Q S1 r1 (t.mono g1)
/-! ### isinstance: the answers -/
def isStr : PyData → Bool
  | .str _ => true
  | _ => false
theorem isi_tuple : ∀ {d : PyData}, PySem.W.kitOne K (.type (tyName d)) (.type "tuple") = some (isTup d)
  | .none => kit_ty (a := "NoneType") (b := "tuple") (r := false) (by decide +kernel)
  | .bool _ => kit_ty (a := "bool") (b := "tuple") (r := false) (by decide +kernel)
  | .int _ => kit_ty (a := "int") (b := "tuple") (r := false) (by decide +kernel)
  | .str _ => kit_ty (a := "str") (b := "tuple") (r := false) (by decide +kernel)
  | .list _ => kit_ty (a := "list") (b := "tuple") (r := false) (by decide +kernel)
  | .tuple _ => kit_ty (a := "tuple") (b := "tuple") (r := true) (by decide +kernel)
  | .dict _ => kit_ty (a := "dict") (b := "tuple") (r := false) (by decide +kernel)
theorem isi_list : ∀ {d : PyData}, PySem.W.kitOne K (.type (tyName d)) (.type "list") = some (isLst d)
  | .none => kit_ty (a := "NoneType") (b := "list") (r := false) (by decide +kernel)
  | .bool _ => kit_ty (a := "bool") (b := "list") (r := false) (by decide +kernel)
  | .int _ => kit_ty (a := "int") (b := "list") (r := false) (by decide +kernel)
  | .str _ => kit_ty (a := "str") (b := "list") (r := false) (by decide +kernel)
  | .list _ => kit_ty (a := "list") (b := "list") (r := true) (by decide +kernel)
  | .tuple _ => kit_ty (a := "tuple") (b := "list") (r := false) (by decide +kernel)
  | .dict _ => kit_ty (a := "dict") (b := "list") (r := false) (by decide +kernel)
theorem isi_int : ∀ {d : PyData}, PySem.W.kitOne K (.type (tyName d)) (.type "int") = some (isInt d)
  | .none => kit_ty (a := "NoneType") (b := "int") (r := false) (by decide +kernel)
  | .bool _ => kit_ty (a := "bool") (b := "int") (r := true) (by decide +kernel)
  | .int _ => kit_ty (a := "int") (b := "int") (r := true) (by decide +kernel)
  | .str _ => kit_ty (a := "str") (b := "int") (r := false) (by decide +kernel)
  | .list _ => kit_ty (a := "list") (b := "int") (r := false) (by decide +kernel)
  | .tuple _ => kit_ty (a := "tuple") (b := "int") (r := false) (by decide +kernel)
  | .dict _ => kit_ty (a := "dict") (b := "int") (r := false) (by decide +kernel)
theorem isi_bool : ∀ {d : PyData}, PySem.W.kitOne K (.type (tyName d)) (.type "bool") = some (isBl d)
  | .none => kit_ty (a := "NoneType") (b := "bool") (r := false) (by decide +kernel)
  | .bool _ => kit_ty (a := "bool") (b := "bool") (r := true) (by decide +kernel)
  | .int _ => kit_ty (a := "int") (b := "bool") (r := false) (by decide +kernel)
  | .str _ => kit_ty (a := "str") (b := "bool") (r := false) (by decide +kernel)
  | .list _ => kit_ty (a := "list") (b := "bool") (r := false) (by decide +kernel)
  | .tuple _ => kit_ty (a := "tuple") (b := "bool") (r := false) (by decide +kernel)
  | .dict _ => kit_ty (a := "dict") (b := "bool") (r := false) (by decide +kernel)
theorem isi_str : ∀ {d : PyData}, PySem.W.kitOne K (.type (tyName d)) (.type "str") = some (isStr d)
  | .none => kit_ty (a := "NoneType") (b := "str") (r := false) (by decide +kernel)
  | .bool _ => kit_ty (a := "bool") (b := "str") (r := false) (by decide +kernel)
  | .int _ => kit_ty (a := "int") (b := "str") (r := false) (by decide +kernel)
  | .str _ => kit_ty (a := "str") (b := "str") (r := true) (by decide +kernel)
  | .list _ => kit_ty (a := "list") (b := "str") (r := false) (by decide +kernel)
  | .tuple _ => kit_ty (a := "tuple") (b := "str") (r := false) (by decide +kernel)
  | .dict _ => kit_ty (a := "dict") (b := "str") (r := false) (by decide +kernel)
end
end T
namespace T
open PySem PySem.Spec PyProof.Rows L2
section
variable {Y : Fam} {e a b c iter tg elt : Expr} {es : List Expr} {st : Stmt} {sts : List Stmt} {Γ : Gam} {O : Sto} {R : C → Sto → Prop} {RT : Bool → Sto → Prop} {E : En} {pos p : Pos} {x : Str} {K : PySem.W.Frag}
theorem xe_tidyI {q : Int} (h : XE Y e Γ O fun c2 O2 => c2 = .d (.int q) ∧ ∃ E2, O2 = O ++ E2) : XE Y e Γ O fun c2 O2 => c2 = .d (.int q) ∧ O2 = O := xe_tidy (h.imp fun c2 O2 ⟨e2, E2, e3⟩ => ⟨_, E2, e2, e3, rfl, rfl⟩)
theorem xe_chM {op op' : CmpOp} {p1 p2 : Int → Int → Bool} (ho : ∀ i, OpR (Y.X i) (compareOp op) (rI0 fun i j => .bl (p1 i j))) (ho' : ∀ i, OpR (Y.X i) (compareOp op') (rI0 fun i j => .bl (p2 i j))) (hl : lastMarks [op, op'] [b, c] = false)
    (h : XE Y a Γ O fun c1 O1 => XE Y b Γ O1 fun c2 O2 => ∃ i j k, c1 = .d (.int i) ∧ c2 = .d (.int j) ∧ (XE Y c Γ O2 fun c3 O3 => c3 = .d (.int k) ∧ ∃ E2, O3 = O2 ++ E2) ∧ R (.d (.bool (p1 i j && p2 j k))) O2) : XE Y (.Compare a [op, op'] [b, c] pos) Γ O R :=
  xe_chain ho ho' hl (h.imp fun c1 O1 h1 => h1.imp fun c2 O2 ⟨i, j, k, e1, e2, h3, r⟩ => by
    subst e1 e2
    refine w2_int (d := .bool (p1 i j)) (fun F => .bl _) ⟨_, rfl, fun hp => (xe_tidyI h3).imp fun c3 O3 ⟨e3, e4⟩ => ?_, fun hp => ?_⟩
    · subst e3 e4
      rw [hp] at r
      exact w2_int (d := .bool (p2 j k)) (fun F => .bl _) r
    · rw [hp] at r
      exact r)
theorem xt_chM {op op' : CmpOp} {p1 p2 : Int → Int → Bool} (ho : ∀ i, OpR (Y.X i) (compareOp op) (rI0 fun i j => .bl (p1 i j))) (ho' : ∀ i, OpR (Y.X i) (compareOp op') (rI0 fun i j => .bl (p2 i j))) (hl : lastMarks [op, op'] [b, c] = false)
    (h : XE Y a Γ O fun c1 O1 => XE Y b Γ O1 fun c2 O2 => ∃ i j k, c1 = .d (.int i) ∧ c2 = .d (.int j) ∧ (XE Y c Γ O2 fun c3 O3 => c3 = .d (.int k) ∧ ∃ E2, O3 = O2 ++ E2) ∧ RT (p1 i j && p2 j k) O2) : XT Y (.Compare a [op, op'] [b, c] pos) Γ O RT :=
  xt_chain ho ho' hl (h.imp fun c1 O1 h1 => h1.imp fun c2 O2 ⟨i, j, k, e1, e2, h3, r⟩ => by
    subst e1 e2
    refine w2_int (d := .bool (p1 i j)) (fun F => .bl _) ⟨_, rfl, fun hp => (xe_tidyI h3).imp fun c3 O3 ⟨e3, e4⟩ => ?_, fun hp => ?_⟩
    · subst e3 e4
      rw [hp] at r
      exact w2_int (d := .bool (p2 j k)) (fun F => .bl _) ⟨_, rfl, r⟩
    · rw [hp] at r
      exact r)
theorem xe_lte_lteM (h : XE Y a Γ O fun c1 O1 => XE Y b Γ O1 fun c2 O2 => ∃ i j k, c1 = .d (.int i) ∧ c2 = .d (.int j) ∧ (XE Y c Γ O2 fun c3 O3 => c3 = .d (.int k) ∧ ∃ E2, O3 = O2 ++ E2) ∧ R (.d (.bool (decide (i ≤ j) && decide (j ≤ k)))) O2) (hl : lastMarks [.LtE, .LtE] [b, c] = false := by with_unfolding_all rfl) : XE Y (.Compare a [.LtE, .LtE] [b, c] pos) Γ O R := xe_chM (fun _ => op_le) (fun _ => op_le) hl h
theorem xt_lte_lteM (h : XE Y a Γ O fun c1 O1 => XE Y b Γ O1 fun c2 O2 => ∃ i j k, c1 = .d (.int i) ∧ c2 = .d (.int j) ∧ (XE Y c Γ O2 fun c3 O3 => c3 = .d (.int k) ∧ ∃ E2, O3 = O2 ++ E2) ∧ RT (decide (i ≤ j) && decide (j ≤ k)) O2) (hl : lastMarks [.LtE, .LtE] [b, c] = false := by with_unfolding_all rfl) : XT Y (.Compare a [.LtE, .LtE] [b, c] pos) Γ O RT := xt_chM (fun _ => op_le) (fun _ => op_le) hl h
theorem xe_lte_ltM (h : XE Y a Γ O fun c1 O1 => XE Y b Γ O1 fun c2 O2 => ∃ i j k, c1 = .d (.int i) ∧ c2 = .d (.int j) ∧ (XE Y c Γ O2 fun c3 O3 => c3 = .d (.int k) ∧ ∃ E2, O3 = O2 ++ E2) ∧ R (.d (.bool (decide (i ≤ j) && decide (j < k)))) O2) (hl : lastMarks [.LtE, .Lt] [b, c] = false := by with_unfolding_all rfl) : XE Y (.Compare a [.LtE, .Lt] [b, c] pos) Γ O R := xe_chM (fun _ => op_le) (fun _ => op_lt) hl h
theorem xt_lte_ltM (h : XE Y a Γ O fun c1 O1 => XE Y b Γ O1 fun c2 O2 => ∃ i j k, c1 = .d (.int i) ∧ c2 = .d (.int j) ∧ (XE Y c Γ O2 fun c3 O3 => c3 = .d (.int k) ∧ ∃ E2, O3 = O2 ++ E2) ∧ RT (decide (i ≤ j) && decide (j < k)) O2) (hl : lastMarks [.LtE, .Lt] [b, c] = false := by with_unfolding_all rfl) : XT Y (.Compare a [.LtE, .Lt] [b, c] pos) Γ O RT := xt_chM (fun _ => op_le) (fun _ => op_lt) hl h
end
theorem exM {c : C} {p q s : Bool} {A : Bool → Bool → Prop} {B : Bool → Bool → Prop} (e : c = .d (.bool p)) (h : p = s → A p q) (r : B p q) : ∃ p q, c = .d (.bool p) ∧ (p = s → A p q) ∧ B p q := ⟨p, q, e, h, r⟩
theorem exMB {p q s : Bool} {A B : Bool → Prop} (h : p = s → A q) (r : B q) : ∃ q, (p = s → A q) ∧ B q := ⟨q, h, r⟩
theorem exMC {c1 c2 : C} {i j k : Int} {A : Int → Prop} {B : Int → Int → Int → Prop} (e1 : c1 = .d (.int i)) (e2 : c2 = .d (.int j)) (h : A k) (r : B i j k) : ∃ i j k, c1 = .d (.int i) ∧ c2 = .d (.int j) ∧ A k ∧ B i j k := ⟨i, j, k, e1, e2, h, r⟩
theorem atI_zero {α : Type} {x : α} {l : List α} : atI (x :: l) 0 = some x := atI_nat (j := 0) rfl
theorem wc_allF {K : PySem.W.Frag} {O : Sto} {R : C → Sto → Prop} {ds : List PyData} {f : PyData → Bool} (r : R (.d (.bool (ds.all f))) O) : Wc K (rAll K) [.d (.list (ds.map fun d => .bool (f d)))] O R := by
  have e : (ds.map fun d => PyData.bool (f d)) = (ds.map f).map PyData.bool := by simp
  rw [e]
  refine wc_all ?_
  simpa [List.all_map] using r
end T

set_option Elab.async false
set_option linter.all false
set_option maxRecDepth 100000
set_option maxHeartbeats 1000000
namespace T
open PySem PySem.Spec PyProof.Rows L2
/-! ### places in a store -/
theorem o_last {O : Sto} {u : Ob} : (O ++ [u])[O.length]? = some u := by simp
theorem o_app {O E : Sto} {k : Nat} {u : Ob} (h : O[k]? = some u) : (O ++ E)[k]? = some u := by
  rw [List.getElem?_append_left (List.getElem?_eq_some_iff.mp h).1]; exact h
theorem o_set {O : Sto} {k : Nat} {u : Ob} (h : k < O.length) : (O.set k u)[k]? = some u := List.getElem?_set_self h
theorem o_setn {O : Sto} {k j : Nat} {u v : Ob} (h : j ≠ k) (g : O[k]? = some u) : (O.set j v)[k]? = some u := by rw [List.getElem?_set_ne h]; exact g
theorem lt_of {O : Sto} {k : Nat} {u : Ob} (h : O[k]? = some u) : k < O.length := (List.getElem?_eq_some_iff.mp h).1
theorem ixN_nat {n j : Nat} (h : j < n) : ixN n ((j : Nat) : Int) = some j := by
  unfold ixN
  rw [if_pos (by omega), if_pos (by omega)]
  simp
/-- a position of a written list -/
theorem atI_i {α : Type} {xs : List α} {i : Int} {x : α} (h0 : 0 ≤ i) (h : xs[i.toNat]? = some x) : atI xs i = some x := by
  have q := atI_nat (xs := xs) (j := i.toNat) h
  rw [Int.toNat_of_nonneg h0] at q
  exact q
theorem allD_map {ds : List PyData} : allD (ds.map C.d) = some ds := by
  induction ds with
  | nil => rfl
  | cons d ds ih => show (allD (ds.map C.d)).map (d :: ·) = _; rw [ih]; rfl
/-! ### a law's stream of draws -/
def strm (ns : List Int) (q p m : Int) : Ob := .lst [.d (.list (ns.map PyData.int)), .d (.int q), .d (.int p), .d (.int m)]
def IsStrm (u : Ob) : Prop := ∃ ns q p m, u = strm ns q p m ∧ ns.length ≤ 63 ∧ 0 ≤ q ∧ 0 ≤ p ∧ 0 ≤ m ∧ m < 2147483647
theorem IsStrm.cl {u : Ob} {n : Nat} (h : IsStrm u) : clOb n u := by
  obtain ⟨ns, q, p, m, rfl, _⟩ := h
  intro c hc
  rcases List.mem_cons.mp hc with e | hc
  · subst e; trivial
  rcases List.mem_cons.mp hc with e | hc
  · subst e; trivial
  rcases List.mem_cons.mp hc with e | hc
  · subst e; trivial
  rcases List.mem_cons.mp hc with e | hc
  · subst e; trivial
  cases hc
/-- the def hands back v, the object at k has become u -/
theorem back_set {O E2 : Sto} {R : C → Sto → Prop} {d : PyData} {k : Nat} {u : Ob} (hc : Clo O.length O) (hu : clOb O.length u) (r : R (.d d) (O.set k u)) : Back O R (.d d) (O.set k u ++ E2) := ⟨O.set k u, E2, rfl, by simp, by rw [List.length_set]; exact hc.set hu, trivial, r⟩
theorem back_set0 {O : Sto} {R : C → Sto → Prop} {d : PyData} {k : Nat} {u : Ob} (hc : Clo O.length O) (hu : clOb O.length u) (r : R (.d d) (O.set k u)) : Back O R (.d d) (O.set k u) := ⟨O.set k u, [], by simp, by simp, by rw [List.length_set]; exact hc.set hu, trivial, r⟩
theorem IsStrm.mk' {ns : List Int} {q p m : Int} (h1 : ns.length ≤ 63) (h2 : 0 ≤ q) (h3 : 0 ≤ p) (h4 : 0 ≤ m) (h5 : m < 2147483647) : IsStrm (strm ns q p m) := ⟨ns, q, p, m, rfl, h1, h2, h3, h4, h5⟩
theorem get_int {ns : List Int} {p : Int} (h0 : 0 ≤ p) (h : p < (ns.length : Int)) : ∃ n, (ns.map PyData.int)[p.toNat]? = some (.int n) := ⟨ns[p.toNat]'(by omega), by rw [List.getElem?_map, List.getElem?_eq_getElem (by omega)]; rfl⟩
def sp_stream : SpT := fun cs O R _ => ∃ ns : List Int, cs = [.d (.list (ns.map PyData.int))] ∧ ns.length ≤ 63 ∧ ∀ u, IsStrm u → R (.o O.length) (O ++ [u])
def sp_draw : SpT := fun cs O R _ => ∃ k u n, cs = [.o k, .d (.int n)] ∧ O[k]? = some u ∧ IsStrm u ∧ 0 < n ∧ n < 1073741824 ∧ ∀ v u', 0 ≤ v → v < n → IsStrm u' → R (.d (.int v)) (O.set k u')
theorem back_draw {O O'' : Sto} {R : C → Sto → Prop} {k : Nat} {n v : Int} {ns : List Int} {q p m : Int} (h : ∀ v u', 0 ≤ v → v < n → IsStrm u' → R (.d (.int v)) (O.set k u')) (hc : Clo O.length O) (h1 : ns.length ≤ 63) (e : O'' = O.set k (strm ns q p m)) (h2 : 0 ≤ q) (h3 : 0 ≤ p) (h4 : 0 ≤ m) (h5 : m < 2147483647) (h6 : 0 ≤ v) (h7 : v < n) :
    Back O R (.d (.int v)) O'' := by
  subst e
  exact back_set0 hc (IsStrm.cl (.mk' h1 h2 h3 h4 h5)) (h v _ h6 h7 (.mk' h1 h2 h3 h4 h5))
/-- a new owned object handed back -/
theorem Clo.up {n m : Nat} {O : Sto} (h : Clo n O) (hm : n ≤ m) : Clo m O := fun u hu c hc => by
  have q := h u hu c hc
  cases c with
  | d x => trivial
  | o k => exact Nat.lt_of_lt_of_le q hm
theorem back_new {O E2 : Sto} {R : C → Sto → Prop} {u : Ob} (hc : Clo O.length O) (hu : clOb (O.length + 1) u) (r : R (.o O.length) (O ++ [u])) : Back O R (.o O.length) ((O ++ [u]) ++ E2) := ⟨O ++ [u], E2, rfl, by simp, fun w hw => by
  rw [List.length_append]
  rcases List.mem_append.mp hw with z | z
  · exact (hc.up (Nat.le_succ _)) w z
  · have : w = u := by simpa using z
    subst this
    exact hu, by show O.length < (O ++ [u]).length; simp, r⟩
theorem is_int {ns : List Int} {i : Nat} {d : PyData} (h : (ns.map PyData.int)[i]? = some d) : ∃ z, d = .int z := by
  rw [List.getElem?_map] at h
  cases e : ns[i]? with
  | none => rw [e] at h; cases h
  | some z => rw [e] at h; exact ⟨z, (Option.some.inj h).symm⟩
/-! ### the store at the entry, the object at k turned into u, and new objects -/
def ext (O : Sto) (k : Nat) (u : Ob) (E : List Ob) : Sto := O.set k u ++ E
section
variable {O E : Sto} {k j : Nat} {u v x : Ob}
theorem ext_id (h : O[k]? = some u) : ext O k u [] = O := by
  unfold ext
  rw [List.append_nil]
  apply List.ext_getElem?
  intro i
  by_cases hi : k = i
  · subst hi; rw [List.getElem?_set_self (lt_of h), h]
  · rw [List.getElem?_set_ne hi]
theorem ext_len : List.length (ext O k u E) = O.length + E.length := by unfold ext; simp
theorem ext_push {F : List Ob} : ext O k u E ++ F = ext O k u (E ++ F) := by unfold ext; rw [List.append_assoc]
theorem ext_k (h : k < O.length) : (ext O k u E)[k]? = some u := by unfold ext; exact o_app (o_set h)
theorem ext_j (h : E[j]? = some x) : (ext O k u E)[O.length + j]? = some x := by
  unfold ext
  rw [List.getElem?_append_right (by simp)]
  simpa using h
theorem ext_o {i : Nat} (h : O[i]? = some x) (hk : k ≠ i) : (ext O k u E)[i]? = some x := by unfold ext; exact o_app (o_setn hk h)
theorem ext_set_k (h : k < O.length) : List.set (ext O k u E) k v = ext O k v E := by
  unfold ext
  rw [List.set_append_left _ _ (by simpa using h), List.set_set]
theorem ext_set_j : List.set (ext O k u E) (O.length + j) v = ext O k u (E.set j v) := by
  unfold ext
  rw [List.set_append_right _ _ (by simp)]
  simp
theorem back_ext {R : C → Sto → Prop} {d : PyData} (hc : Clo O.length O) (hu : IsStrm u) (r : R (.d d) (O.set k u)) : Back O R (.d d) (ext O k u E) := back_set hc hu.cl r
end
section
variable {Y : Fam} {e c : Expr} {sts : List Stmt} {Γ : Gam} {O O' : Sto} {E : En} {x : Str} {pos pos2 p : Pos}
theorem xb_eqO (h0 : O' = O) (h : XB Y sts Γ O' E) : XB Y sts Γ O E := by subst h0; exact h
theorem set_same : ∀ {Γ : Gam} {i : Nat} {g : Option C}, Γ[i]? = some g → Γ.set i g = Γ
  | [], _, _, h => by simp at h
  | _ :: _, 0, _, h => by simp at h; subst h; rfl
  | g :: Γ, i + 1, _, h => by
    show g :: Γ.set i _ = _
    rw [set_same (by simpa using h)]
/-- if c: x = e, told by the int that x is behind it -/
theorem xs_ifI (i : Nat) {p' : Pos} (hi : Y.N[i]? = some x) (h : XT Y c Γ O fun k O1 => ∃ a b, Γ[i]? = some (some (.d (.int b))) ∧ (k = true → XE Y e Γ O1 fun c2 O2 => c2 = .d (.int a) ∧ O2 = O1) ∧ E.nx (Γ.set i (some (.d (.int (if k = true then a else b))))) O1)
    (hx : ∀ j, Loc (Y.X j).env.scope x := by first | exact fun _ => Or.inl rfl | exact fun _ => Or.inr rfl)
    (hs : ∀ j, swapsWith e (some (.Name x p')) pos2.line (Y.X j).env = pure false := by exact fun _ => rfl) (hf : ∀ j, (Y.X j).fn x = true ∨ (Y.X j).env.scope.names.lookup x = some .local := by first | exact fun _ => .inl rfl | exact fun _ => .inr rfl) :
    XS Y (.If c [.Assign [.Name x p'] e pos2] [] pos) Γ O E :=
  xs_if (h.imp fun k O1 ⟨a, b, hb, h2, h3⟩ => ⟨fun hk => by
    subst hk
    exact xb_one (xs_set i hi ((h2 rfl).imp fun c2 O2 ⟨e1, e2⟩ => by subst e1 e2; exact h3) hx hs hf), fun hk => by
    subst hk
    have e : Γ.set i (some (.d (.int b))) = Γ := set_same hb
    have h3 : E.nx (Γ.set i (some (.d (.int b)))) O1 := h3
    rw [e] at h3
    exact xb_nil h3⟩)
theorem exI {a b : Int} {A : Int → Prop} {B D : Int → Int → Prop} (h1 : A b) (h2 : B a b) (h3 : D a b) : ∃ a b, A b ∧ B a b ∧ D a b := ⟨a, b, h1, h2, h3⟩
end
/-! ### machines -/
abbrev Rule := Int × Int × Int
abbrev Mach := List (List Rule)
def ruleD (r : Rule) : PyData := .tuple [.int r.1, .int r.2.1, .int r.2.2]
def rowD (r : List Rule) : PyData := .tuple (r.map ruleD)
def machD (m : Mach) : PyData := .tuple (m.map rowD)
structure OkRule (S Y : Int) (r : Rule) : Prop where
  w0 : 0 ≤ r.1
  w1 : r.1 < Y
  mv : r.2.1 = -1 ∨ r.2.1 = 1
  s0 : -1 ≤ r.2.2
  s1 : r.2.2 < S
structure OkMach (m : Mach) (S Y : Int) : Prop where
  len : (m.length : Int) = S
  s1 : 1 ≤ S
  s4 : S ≤ 4
  y2 : 2 ≤ Y
  y4 : Y ≤ 4
  row : ∀ r ∈ m, (r.length : Int) = Y
  rul : ∀ r ∈ m, ∀ t ∈ r, OkRule S Y t
def sp_machine : SpT := fun cs O R _ => ∃ k u z, cs = [.o k, .d (.int z)] ∧ O[k]? = some u ∧ IsStrm u ∧ ∀ m S Y u', OkMach m S Y → IsStrm u' → R (.d (machD m)) (O.set k u')
theorem exOwn {k : Nat} {O : Sto} {cs : List C} {A : Nat → Prop} (h : O[k]? = some (.lst cs)) (r : A k) : ∃ j, C.o k = .o j ∧ (∃ cs, O[j]? = some (.lst cs)) ∧ A j := ⟨k, rfl, ⟨cs, h⟩, r⟩
theorem exApp {k : Nat} {O : Sto} {cs : List C} {A : List C → Prop} (h : O[k]? = some (.lst cs)) (hz : cs.length < sizeLine) (r : A cs) : ∃ cs, O[k]? = some (.lst cs) ∧ cs.length < sizeLine ∧ A cs := ⟨cs, h, hz, r⟩
theorem draw_use {k : Nat} {u : Ob} {n : Int} {O : Sto} {R : C → Sto → Prop} {RX : Value → Sto → Prop} (h1 : O[k]? = some u) (h2 : IsStrm u) (h3 : 0 < n) (h4 : n < 1073741824) (h5 : ∀ v u', 0 ≤ v → v < n → IsStrm u' → R (.d (.int v)) (O.set k u')) : sp_draw [.o k, .d (.int n)] O R RX := ⟨k, u, n, rfl, h1, h2, h3, h4, h5⟩
theorem set_lastO {E : List Ob} {x y : Ob} : (E ++ [x]).set E.length y = E ++ [y] := by simp
theorem ok_snoc {α : Type} {P : α → Prop} {l : List α} {x : α} (h : ∀ t ∈ l, P t) (hx : P x) : ∀ t ∈ l ++ [x], P t := fun t ht => by
  rcases List.mem_append.mp ht with z | z
  · exact h t z
  · have : t = x := by simpa using z
    subst this; exact hx
end T

set_option Elab.async false
set_option linter.all false
set_option maxRecDepth 100000
set_option maxHeartbeats 1000000
namespace T
open PySem PySem.Spec PyProof.Rows L2
section
variable {Y : Fam} {e c : Expr} {st : Stmt} {sts : List Stmt} {Γ : Gam} {O O' : Sto} {E : En} {R : C → Sto → Prop} {x : Str} {pos pos2 p : Pos} {K : PySem.W.Frag}
/-- behind st only M is known -/
theorem xs_mid (M : Gam → Sto → Prop) (h : XS Y st Γ O { E with nx := M }) (k : ∀ Γ' O', M Γ' O' → E.nx Γ' O') : XS Y st Γ O E := fun F as σ H D S L tx t => h F as σ H D S L tx ⟨fun F' as' Γ' σ' O' H' g S' L' p => t.nx F' as' Γ' σ' O' H' g S' L' (k Γ' O' p), t.rt, t.bk, t.ct⟩
/-- an item of a written list of data at an open place -/
theorem w2_menu {k : Nat} {i : Int} {cs : List C} {ds : List PyData} (hO : O[k]? = some (.lst cs)) (hd : allD cs = some ds) (h0 : 0 ≤ i) (h1 : i < (cs.length : Int)) (r : ∀ d, ds[i.toNat]? = some d → R (.d d) O) : W2 K (rIx K) (.o k) (.d (.int i)) O R := by
  have e := allD_eq hd
  subst e
  have hi : i.toNat < ds.length := by simp at h1; omega
  have g : ds[i.toNat]? = some ds[i.toNat] := List.getElem?_eq_getElem hi
  exact w2_ix_own hO (atI_i h0 (by rw [List.getElem?_map, g]; rfl)) (r _ g)
theorem cutD_le {ds : List PyData} {lo hi : Option Int} : (cutD ds lo hi).length ≤ ds.length := by unfold cutD; rw [List.length_take, List.length_drop]; omega
theorem slU {n : Nat} {i : Int} (h0 : 0 ≤ i) (h : i < (n : Int)) : ¬ (HT.sIx n 0 none = 0 ∧ HT.sIx n n (some i) = n) := fun z => by
  have q := z.2
  obtain ⟨j, rfl⟩ : ∃ j : Nat, i = (j : Int) := ⟨i.toNat, by omega⟩
  rw [HT.sIx_nat] at q
  omega
theorem slL {n : Nat} {i : Int} (h0 : 0 < i) (h : 0 < n) : ¬ (HT.sIx n 0 (some i) = 0 ∧ HT.sIx n n none = n) := fun z => by
  have q := z.1
  obtain ⟨j, rfl⟩ : ∃ j : Nat, i = (j : Int) := ⟨i.toNat, by omega⟩
  rw [HT.sIx_nat] at q
  omega
theorem cutU {ds : List PyData} {i : Int} (h0 : 0 ≤ i) : cutD ds none (some i) = ds.take i.toNat := by
  obtain ⟨j, rfl⟩ : ∃ j : Nat, i = (j : Int) := ⟨i.toNat, by omega⟩
  unfold cutD
  rw [HT.sIx_nat, HT.sIx_none]
  simp only [List.drop_zero, Nat.sub_zero, Int.toNat_natCast]
  by_cases h : j ≤ ds.length
  · rw [Nat.min_eq_left h]
  · rw [Nat.min_eq_right (by omega), List.take_length, List.take_of_length_le (by omega)]
theorem cutL {ds : List PyData} {i : Int} (h0 : 0 ≤ i) : cutD ds (some i) none = ds.drop i.toNat := by
  obtain ⟨j, rfl⟩ : ∃ j : Nat, i = (j : Int) := ⟨i.toNat, by omega⟩
  unfold cutD
  rw [HT.sIx_nat, HT.sIx_none]
  simp only [Int.toNat_natCast]
  by_cases h : j ≤ ds.length
  · rw [Nat.min_eq_left h, List.take_of_length_le (by rw [List.length_drop]; omega)]
  · rw [Nat.min_eq_right (by omega), List.drop_of_length_le (Nat.le_refl _), List.drop_of_length_le (l := ds) (by omega)]
    simp
end
theorem wsl_tupU {K : PySem.W.Frag} {O : Sto} {R : C → Sto → Prop} {ds : List PyData} {i : Int} (h0 : 0 ≤ i) (r : R (.d (.tuple (ds.take i.toNat))) O) : WSl K (.d (.tuple ds)) none (some i) O R := wsl_tup (by rw [cutU h0]; exact r)
theorem wsl_tupL {K : PySem.W.Frag} {O : Sto} {R : C → Sto → Prop} {ds : List PyData} {i : Int} (h0 : 0 ≤ i) (r : R (.d (.tuple (ds.drop i.toNat))) O) : WSl K (.d (.tuple ds)) (some i) none O R := wsl_tup (by rw [cutL h0]; exact r)
theorem wsl_lstU {K : PySem.W.Frag} {O : Sto} {R : C → Sto → Prop} {ds : List PyData} {i : Int} (h0 : 0 ≤ i) (r : R (.d (.list (ds.take i.toNat))) O) : WSl K (.d (.list ds)) none (some i) O R := wsl_lst (by rw [cutU h0]; exact r)
theorem wsl_lstL {K : PySem.W.Frag} {O : Sto} {R : C → Sto → Prop} {ds : List PyData} {i : Int} (h0 : 0 ≤ i) (r : R (.d (.list (ds.drop i.toNat))) O) : WSl K (.d (.list ds)) (some i) none O R := wsl_lst (by rw [cutL h0]; exact r)
theorem xe_nilF {Y : Fam} {Γ : Gam} {O : Sto} {R : C → Sto → Prop} {pos : Pos} (r : R (.d (.list [])) (O ++ [.gone])) : XE Y (.List [] pos) Γ O R := xe_frz (xe_lst (xa_nil ⟨Nat.zero_le _, O.length, [], rfl, o_last, by simpa using r⟩))
theorem mach_use {k : Nat} {u : Ob} {z : Int} {O : Sto} {R : C → Sto → Prop} {RX : Value → Sto → Prop} (h1 : O[k]? = some u) (h2 : IsStrm u) (h5 : ∀ m S Y u', OkMach m S Y → IsStrm u' → R (.d (machD m)) (O.set k u')) : sp_machine [.o k, .d (.int z)] O R RX := ⟨k, u, z, rfl, h1, h2, h5⟩
theorem strm_use {ns : List Int} {O : Sto} {R : C → Sto → Prop} {RX : Value → Sto → Prop} (h : ns.length ≤ 63) (h5 : ∀ u, IsStrm u → R (.o O.length) (O ++ [u])) : sp_stream [.d (.list (ns.map PyData.int))] O R RX := ⟨ns, rfl, h, h5⟩
theorem back_law {O G : Sto} {R : C → Sto → Prop} {u1 u' : Ob} {b : Bool} (hc : Clo O.length O) (r : R (.d (.bool true)) O) (hb : b = true) : Back O R (.d (.bool b)) (ext (O ++ [u1]) O.length u' G) := by
  subst hb
  have e : ext (O ++ [u1]) O.length u' G = O ++ ([u'] ++ G) := by unfold ext; simp
  rw [e]
  exact back_d hc r
end T

set_option Elab.async false
set_option linter.all false
set_option maxRecDepth 100000
set_option maxHeartbeats 1000000
namespace T
open PySem PySem.Spec PyProof.Rows L2
/-! ### dicts -/
def keyD : Key → PyData
  | .inl i => .int i
  | .inr x => .str x
def valC (kvs : List (Key × C)) (k : Key) : Option C := (kvs.find? fun kv => decide (kv.1 = k)).map (·.2)
def putC (kvs : List (Key × C)) (k : Key) (c : C) : List (Key × C) := if (kvs.any fun kv => decide (kv.1 = k)) = true then kvs.map (fun kv => if kv.1 = k then (kv.1, c) else kv) else kvs ++ [(k, c)]
section
variable {K : PySem.W.Frag} {F H : Hp} {as : List Addr} {O : Sto} {R : C → Sto → Prop}
theorem dp_key {k : Key} : Dp K F (kV k) (keyD k) := by
  cases k with
  | inl i => exact .int i
  | inr x => exact .str x
theorem key_of {k : Key} {v : V} (h : Dp K F v (keyD k)) : v = kV k := by
  cases k with
  | inl i => cases h; rfl
  | inr x => cases h; rfl
theorem val_rel {kvs : List (Key × C)} {ws : List (Key × V)} (h : Paired (FsR K F as) kvs ws) (k : Key) : (∃ c v, valC kvs k = some c ∧ valV ws k = some v ∧ CR K F as c v) ∨ (valC kvs k = none ∧ valV ws k = none) := by
  induction h with
  | nil => exact .inr ⟨rfl, rfl⟩
  | @cons p q ps qs r _ ih =>
    obtain ⟨e, r⟩ := r
    by_cases hk : p.1 = k
    · refine .inl ⟨p.2, q.2, ?_, ?_, r⟩
      · unfold valC; rw [List.find?_cons]; simp [hk]
      · unfold valV; rw [List.find?_cons]; simp [← e, hk]
    · have e1 : valC (p :: ps) k = valC ps k := by unfold valC; rw [List.find?_cons]; simp [hk]
      have e2 : valV (q :: qs) k = valV qs k := by unfold valV; rw [List.find?_cons]; simp [← e, hk]
      rw [e1, e2]
      exact ih
theorem put_rel {kvs : List (Key × C)} {ws : List (Key × V)} (h : Paired (FsR K F as) kvs ws) {k : Key} {c : C} {v : V} (r : CR K F as c v) : Paired (FsR K F as) (putC kvs k c) (putK ws k v) := by
  have e : (kvs.any fun kv => decide (kv.1 = k)) = (ws.any fun kv => decide (kv.1 = k)) := by
    induction h with
    | nil => rfl
    | cons r _ ih => rw [List.any_cons, List.any_cons, ih, r.1]
  unfold putC putK
  rw [e]
  by_cases hk : (ws.any fun kv => decide (kv.1 = k)) = true
  · rw [if_pos hk, if_pos hk]
    clear e hk
    induction h with
    | nil => exact .nil
    | @cons p q ps qs r' _ ih =>
      rw [List.map_cons, List.map_cons]
      refine .cons ?_ ih
      rw [r'.1]
      by_cases hq : q.1 = k
      · rw [if_pos hq, if_pos hq]; exact ⟨rfl, r⟩
      · rw [if_neg hq, if_neg hq]; exact r'
  · rw [if_neg hk, if_neg hk]
    exact Paired.snoc h ⟨rfl, r⟩
theorem Sat.dct {k : Nat} {a : Addr} {kvs : List (Key × C)} (S : Sat K F H as O) (ha : as[k]? = some a) (hO : O[k]? = some (.dct kvs)) : F a = none ∧ ∃ ws, H a = some (.dK ws) ∧ Paired (FsR K F as) kvs ws := by
  obtain ⟨hF, o, e, ws, rfl, r⟩ := S.obG ha hO (by intro z; cases z)
  exact ⟨hF, ws, e, r⟩
theorem pr_fst {α : Type} {kvs : List (α × C)} {ws : List (α × V)} (h : Paired (FsR K F as) kvs ws) : ∀ {i : Nat} {ky : α} {v : V}, ws[i]? = some (ky, v) → ∃ c, kvs[i]? = some (ky, c) := by
  induction h with
  | nil => intro i ky v hw; simp at hw
  | @cons p q ps qs r _ ih =>
    intro i ky v hw
    cases i with
    | zero =>
      simp at hw
      subst hw
      obtain ⟨p1, p2⟩ := p
      have e := r.1
      simp at e
      subst e
      exact ⟨p2, rfl⟩
    | succ i =>
      obtain ⟨c, hc⟩ := ih (i := i) (by simpa using hw)
      exact ⟨c, by simpa using hc⟩
/-- a dict, walked or not -/
def IsDct (O : Sto) (k : Nat) (kvs : List (Key × C)) : Prop := O[k]? = some (.dct kvs) ∨ O[k]? = some (.lck kvs)
theorem Sat.rd {k : Nat} {a : Addr} {kvs : List (Key × C)} (S : Sat K F H as O) (ha : as[k]? = some a) (hO : IsDct O k kvs) : ∃ ws, Rd H a (.dK ws) ∧ Paired (FsR K F as) kvs ws := by
  rcases hO with hO | hO
  · obtain ⟨_, ws, e, r⟩ := S.dct ha hO
    exact ⟨ws, .inl e, r⟩
  · obtain ⟨x, ws, _, e, r⟩ := S.lck ha hO
    exact ⟨ws, .inr ⟨x, e⟩, r⟩
end
section
variable {Y : Fam} {e a b c iter tg elt : Expr} {es : List Expr} {st : Stmt} {sts : List Stmt} {Γ : Gam} {O : Sto} {R : C → Sto → Prop} {RT : Bool → Sto → Prop} {RG : Gam → Sto → Prop} {E : En} {pos p : Pos} {x : Str}
theorem hu1 (h : Y.cl = true) (i : Y.ι) : (Y.X i).A.units + 1 < cLine := by have := (Y.room h i).units; omega
/-- d[k] -/
theorem xe_dget (h : XE Y a Γ O fun c1 O1 => XE Y b Γ O1 fun c2 O2 => ∃ k kvs ky c, c1 = .o k ∧ IsDct O2 k kvs ∧ c2 = .d (keyD ky) ∧ valC kvs ky = some c ∧ R c O2) (hc : Y.cl = true := by rfl) (hs : NoSl b := by exact fun _ _ => rfl) : XE Y (.Subscript a b pos) Γ O R :=
  xe_of (fun i => pe_dget (hu1 hc i) (peW i) (peW i) hs) fun F as σ H Q S L tx t => h F as σ H _ S L tx fun F1 as1 c1 v1 O1 H1 g1 S1 r1 h1 =>
    h1 F1 as1 σ H1 _ S1 (L.mono g1) (tx.mono g1) fun F2 as2 c2 v2 O2 H2 g2 S2 r2 ⟨k, kvs, ky, cc, e1, hd, e2, hv, h2⟩ => by
      subst e1 e2
      obtain ⟨ad, ha, rfl⟩ := r1.mono g2
      obtain ⟨ws, hr, rr⟩ := S2.rd ha hd
      have ek := key_of r2
      subst ek
      rcases val_rel rr ky with ⟨c', v', f1, f2, f3⟩ | ⟨f1, f2⟩
      · rw [hv] at f1
        cases f1
        exact ⟨ad, v', rfl, .inl ⟨ws, ky, hr, rfl, f2.symm⟩, t F2 as2 cc v' O2 H2 (g1.trans g2) S2 f3 h2⟩
      · rw [hv] at f1; cases f1
/-- d.get(k, x) -/
theorem xe_get2 {ap : Pos} {e2 : Expr} (h : XE Y a Γ O fun c1 O1 => ∃ k, c1 = .o k ∧ (∃ kvs, IsDct O1 k kvs) ∧ XE Y b Γ O1 fun c2 O2 => XE Y e2 Γ O2 fun c3 O3 => ∃ kvs ky, IsDct O3 k kvs ∧ c2 = .d (keyD ky) ∧ R ((valC kvs ky).getD c3) O3) (hc : Y.cl = true := by rfl)
    (hm : ∀ i, M2 (Y.X i) a "get" ap b e2 pos := by exact fun _ => ⟨rfl, rfl, rfl, rfl⟩) : XE Y (.Call (.Attribute a "get" ap) [b, e2] [] pos) Γ O R :=
  xe_of (fun i => pe_dget2 (hu1 hc i) (peW i) (peW i) (peW i) (hm i)) fun F as σ H Q S L tx t => h F as σ H _ S L tx fun F1 as1 c1 v1 O1 H1 g1 S1 r1 ⟨k, e1, ⟨kvs0, hd0⟩, h1⟩ => by
    subst e1
    obtain ⟨ad, ha, rfl⟩ := r1
    obtain ⟨ws0, hr0, _⟩ := S1.rd ha hd0
    refine ⟨ad, rfl, .inl ⟨ws0, hr0⟩, h1 F1 as1 σ H1 _ S1 (L.mono g1) (tx.mono g1) fun F2 as2 c2 v2 O2 H2 g2 S2 r2 h2 => h2 F2 as2 σ H2 _ S2 (L.mono (g1.trans g2)) (tx.mono (g1.trans g2)) fun F3 as3 c3 v3 O3 H3 g3 S3 r3 ⟨kvs, ky, hd, e2, h3⟩ => ?_⟩
    subst e2
    have ek := key_of r2
    subst ek
    have ha3 := px_get (g2.trans g3).px ha
    obtain ⟨ws, hr, rr⟩ := S3.rd ha3 hd
    rcases val_rel rr ky with ⟨c', v', f1, f2, f3⟩ | ⟨f1, f2⟩
    · refine ⟨some v', .inl ⟨ws, ky, hr, rfl, f2.symm⟩, ?_⟩
      rw [f1] at h3
      exact t F3 as3 c' v' O3 H3 ((g1.trans g2).trans g3) S3 f3 h3
    · refine ⟨none, .inl ⟨ws, ky, hr, rfl, f2.symm⟩, ?_⟩
      rw [f1] at h3
      exact t F3 as3 c3 v3 O3 H3 ((g1.trans g2).trans g3) S3 r3 h3
/-- {} -/
theorem xe_dnew (r : R (.o O.length) (O ++ [.dct []])) : XE Y (.Dict [] [] pos) Γ O R :=
  xe_of (fun i => pe_dnewK) fun F as σ H Q S L tx t => fun p hp => by
    obtain ⟨S2, g2⟩ := S.ownG hp (u0 := .dct []) (o0 := .dK []) ⟨[], rfl, .nil⟩
    exact t _ _ (.o O.length) _ _ _ g2 S2 ⟨p, by rw [← S.len]; simp, rfl⟩ r
/-- d[k] = g -/
theorem wset_dct {K : PySem.W.Frag} {k : Nat} {ky : Key} {kvs : List (Key × C)} {g : C} {R : Sto → Prop} (hO : O[k]? = some (.dct kvs)) (hz : kvs.length < sizeLine) (r : R (O.set k (.dct (putC kvs ky g)))) : WSet K rSetD (.o k) (.d (keyD ky)) g O R := fun F as H o iv v Q S ro ri rv t => by
  obtain ⟨a, ha, rfl⟩ := ro
  have ek := key_of ri
  subst ek
  obtain ⟨hF, ws, e1, p1⟩ := S.dct ha hO
  refine ⟨a, _, rfl, .inl ⟨ws, ky, e1, rfl, by rw [← pr_len p1]; exact hz, rfl⟩, t F as _ _ Gr.refl (S.putG ha hF (u1 := .dct (putC kvs ky g)) ⟨_, rfl, put_rel p1 rv⟩) r⟩
theorem xg_dset {g : C} (h : XE Y a Γ O fun co O1 => XE Y b Γ O1 fun ci O2 => WSet Y.K rSetD co ci g O2 (RG Γ)) (hc : Y.cl = true := by rfl)
    (ha : ∀ i v, assign (.Subscript a b pos) (Y.X i).env v = (do
      let ov ← holding [v] (eval a (Y.X i).env)
      let iv ← holding [v, ov] (eval b (Y.X i).env)
      standAt pos
      holding [v, ov, iv] (setItem ov iv v)
      release [v, ov, iv] []) := by intro _ _; rfl) : XG Y (.Subscript a b pos) g Γ O RG := xg_sub (r := rSetD) (fun i => set_dict (hu1 hc i)) h ha
/-- a statement in which the dict at k is walked -/
theorem xs_lock {k : Nat} {kvs : List (Key × C)} (hk : O[k]? = some (.dct kvs)) (h : XS Y st Γ (O.set k (.lck kvs)) { nx := fun Γ' O' => ∃ kvs', O'[k]? = some (.lck kvs') ∧ E.nx Γ' (O'.set k (.dct kvs')), rt := fun c O' => ∃ kvs', O'[k]? = some (.lck kvs') ∧ E.rt c (O'.set k (.dct kvs')), bk := fun Γ' O' => ∃ kvs', O'[k]? = some (.lck kvs') ∧ E.bk Γ' (O'.set k (.dct kvs')), ct := fun Γ' O' => ∃ kvs', O'[k]? = some (.lck kvs') ∧ E.ct Γ' (O'.set k (.dct kvs')) }) : XS Y st Γ O E :=
  xs_of (fun i => ps_lock (psW i)) fun F as σ H D S L tx t => by
    have hlt : k < as.length := by rw [S.len]; exact (List.getElem?_eq_some_iff.mp hk).1
    obtain ⟨ws, hv, hl⟩ := S.lock (List.getElem?_eq_getElem hlt) hk
    have hF : F as[k] = none := (S.dct (List.getElem?_eq_getElem hlt) hk).1
    refine ⟨as[k], .dK ws, hv, trivial, fun od => ?_⟩
    obtain ⟨g, S2⟩ := hl od
    have back : ∀ {F' as' O' H' kvs'}, Gr (upd F as[k] (.frz od (.dK ws))) as F' as' → Sat Y.K F' H' as' O' → O'[k]? = some (.lck kvs') → F' as[k] = some (.frz od (.dK ws)) ∧ H' as[k] = some (.frz od (.dK ws)) ∧ Gr F as (unF F' as[k]) as' ∧ Sat Y.K (unF F' as[k]) (upd H' as[k] (.dK ws)) as' (O'.set k (.dct kvs')) := by
      intro F' as' O' H' kvs' g' S' hO'
      have hf : F' as[k] = some (.frz od (.dK ws)) := g'.fr _ _ upd_same
      exact ⟨hf, S'.ex _ _ hf, gr_unF hF (g.trans g'), S'.unlock (px_get g'.px (List.getElem?_eq_getElem hlt)) hO' hf⟩
    refine h _ as σ _ _ S2 (L.mono g) (tx.mono g) ⟨fun F' as' Γ' σ' O' H' g' S' L' ⟨kvs', hO', p⟩ => ?_, fun F' as' c v O' H' g' S' r' ⟨kvs', hO', p⟩ => ?_, fun F' as' Γ' σ' O' H' g' S' L' ⟨kvs', hO', p⟩ => ?_, fun F' as' Γ' σ' O' H' g' S' L' ⟨kvs', hO', p⟩ => ?_⟩
    · obtain ⟨hf, hh, g3, S3⟩ := back g' S' hO'
      exact ⟨hh, t.nx _ as' Γ' σ' _ _ g3 S3 (slr_unF hf L') p⟩
    · obtain ⟨hf, hh, g3, S3⟩ := back g' S' hO'
      exact ⟨hh, t.rt _ as' c v _ _ g3 S3 (cr_unF hf r') p⟩
    · obtain ⟨hf, hh, g3, S3⟩ := back g' S' hO'
      exact ⟨hh, t.bk _ as' Γ' σ' _ _ g3 S3 (slr_unF hf L') p⟩
    · obtain ⟨hf, hh, g3, S3⟩ := back g' S' hO'
      exact ⟨hh, t.ct _ as' Γ' σ' _ _ g3 S3 (slr_unF hf L') p⟩
/-- for k in d, d walked -/
theorem xi_keys {RI : List PyData → Sto → Prop} (h : XE Y iter Γ O fun c O1 => ∃ k kvs, c = .o k ∧ O1[k]? = some (.lck kvs) ∧ RI (kvs.map fun p => keyD p.1) O1) : XI Y tg iter Γ O RI := fun F as σ H R S L tx t => wpI_of (wi := iKeys (wpE Y iter)) (fun i => pi_keys (peW i)) (h F as σ H _ S L tx fun F1 as1 c v O1 H1 g1 S1 r1 ⟨k, kvs, e, hk, h1⟩ => by
  subst e
  obtain ⟨a, ha, rfl⟩ := r1
  obtain ⟨x, ws, hf, hh, r⟩ := S1.lck ha hk
  have hl : kvs.length = ws.length := pr_len r
  refine ⟨a, x, rfl, .inl ⟨ws, hh, t F1 as1 _ _ O1 H1 g1 S1 ⟨fun i H' e' hi => ?_, fun i H' e' hi => ?_, fun i d H' y H'' e' hd hy => ?_⟩ h1⟩⟩
  · rw [List.length_map, hl] at hi
    exact ⟨e' _ _ hf, hi⟩
  · rw [List.length_map, hl] at hi
    exact ⟨e' _ _ hf, hi⟩
  · obtain ⟨e1, ky, v, hw, e2⟩ := hy
    refine .inl ⟨e1, ?_⟩
    subst e2
    obtain ⟨c', hc'⟩ := pr_fst r hw
    rw [List.getElem?_map, hc'] at hd
    cases hd
    exact dp_key)
end
end T

set_option Elab.async false
set_option linter.all false
set_option maxRecDepth 100000
set_option maxHeartbeats 1000000
namespace T
open PySem PySem.Spec PyProof.Rows L2
/-! ### what is raised, what is caught -/
def bmVE : List Value := [.type "ValueError", .type "Exception", .type "BaseException", .type "object"]
structure ExC (K : PySem.W.Frag) (mg : Str → Option Value) (x : Str) (C : Addr) : Prop where
  m : mg x = some (.ref C)
  e : PySem.W.excIn K C bmVE "ValueError.__new__" = true
  k : PySem.W.keepIn K (.ref C) = true
  b : PySem.W.subIn K (.ref C) (.type "BaseException") = some true
  t : PySem.W.typeIn K (.ref C) = some (.type "type")
theorem bmVE_ok : ∃ i, ExcBaseFacts "ValueError" "ValueError.__new__" i bmVE := ⟨_, PySem.F.excBase_ValueError⟩
def Fam.tr (Y : Fam) (W' : WX) (RX' : Value → Sto → Prop) : Fam where
  ι := { p : Y.ι × List (Addr × Obj) × (Value → Shared → Prop) // Takes ((Y.X p.1).tr p.2.1 p.2.2) W' ∧ PassesOwn (model (Y.X p.1).prog (Y.X p.1).w) (Y.X p.1).A (Y.X p.1).env p.2.2 }
  X := fun i => (Y.X i.1.1).tr i.1.2.1 i.1.2.2
  K := Y.K
  mg := Y.mg
  N := Y.N
  P := Y.P
  w := Y.w
  base := Y.base
  lev := Y.lev
  hK := fun i => Y.hK i.1.1
  hmg := fun i => Y.hmg i.1.1
  hN := fun i => Y.hN i.1.1
  hP := fun i => Y.hP i.1.1
  hw := fun i => Y.hw i.1.1
  hb := fun i => Y.hb i.1.1
  nd := Y.nd
  cl := Y.cl
  room := fun h i => Y.room h i.1.1
  calm := fun h i => Y.calm h i.1.1
  sc := Y.sc
  hsc := fun i => Y.hsc i.1.1
  W := W'
  RX := RX'
  tk := fun i => i.2.1
  own := fun i => i.2.2
def Fam.suite (Y : Fam) : Fam where
  ι := Y.ι × Addr × List (Addr × Obj)
  X := fun i => (Y.X i.1).suite i.2.1 i.2.2
  K := Y.K
  mg := Y.mg
  N := Y.N
  P := Y.P
  w := Y.w
  base := Y.base
  lev := Y.lev
  hK := fun i => Y.hK i.1
  hmg := fun i => Y.hmg i.1
  hN := fun i => Y.hN i.1
  hP := fun i => Y.hP i.1
  hw := fun i => Y.hw i.1
  hb := fun i => Y.hb i.1
  nd := Y.nd
  cl := false
  room := fun h _ => by cases h
  calm := fun h _ => by cases h
  sc := Y.sc
  hsc := fun i => Y.hsc i.1
  W := fun _ _ _ _ => False
  RX := fun _ _ => False
  tk := fun _ => takes0
  own := fun _ => PassesOwn.never
section
variable {Y : Fam} {e a b c iter tg elt : Expr} {es : List Expr} {st b0 : Stmt} {sts body suite : List Stmt} {Γ : Gam} {O : Sto} {R : C → Sto → Prop} {RT : Bool → Sto → Prop} {RG : Gam → Sto → Prop} {E : En} {pos p pos' np : Pos} {x : Str}
theorem xs_raise {C : Addr} {m : Str} {j : Nat} {p2 : Pos} (X : ExC Y.K Y.mg x C) (h : Y.RX (.ref C) O) (hc : Y.cl = true := by rfl) (hg : ∀ i, Gl (Y.X i) x := by exact fun _ => rfl) (hd : (x == ("__debug__" : Str)) = false := by decide) : XS Y (.Raise (some (.Call (.Name x p) [.Constant (.str m) j p2] [] pos)) none pos') Γ O E := by
  obtain ⟨ii, FF⟩ := bmVE_ok
  exact xs_of (fun i => ps_raise (Y.calm hc i) (Y.tk i) (pmk_own FF (by rw [Y.hK]; exact X.e) (by rw [Y.hmg]; exact X.m) (by rw [Y.hK]; exact X.k) (raises_own (by rw [Y.hK]; exact X.b) (by rw [Y.hK]; exact X.t)) (hg i) hd)) fun F as σ H D S L tx t => tx F as _ O σ H Gr.refl S h
theorem slr_none {K : PySem.W.Frag} {F : Hp} {as : List Addr} : ∀ (σ : L2.St), SlR K F as (List.replicate σ.length none) σ
  | [] => .nil
  | _ :: σ => .cons (fun c e => nomatch e) (slr_none σ)
/-- try: body, except x: b0; suite -/
theorem xs_try {cv : Value} (RX' : Value → Sto → Prop) (hm : Y.mg x = some cv) (h : ∀ W', XB (Y.tr W' RX') body Γ O E)
    (hx : ∀ cl O', RX' cl O' → ∃ b, PySem.W.exmOne Y.K cl cv = some b ∧ (b = true → ∀ n, XB Y.suite (b0 :: suite) (List.replicate n none) O' E) ∧ (b = false → Y.RX cl O'))
    (hs : ∀ i, (Y.X i).stack = (Y.X i).env :: (Y.X i).outer := by exact fun _ => rfl) (hf : ∀ i, (Y.X i).env.frame = some (Y.X i).env.locals := by exact fun _ => rfl) (hg : ∀ i, Gl (Y.X i) x := by exact fun _ => rfl) (hd : (x == ("__debug__" : Str)) = false := by decide) :
    XS Y (.Try body [.ExceptHandler (some (.Name x np)) none (b0 :: suite) pos'] [] [] pos) Γ O E :=
  xs_of (te := fun D σ H => wpB (Y.tr (wOnly Y.K cv (fun _ _ _ => wpB Y.suite (b0 :: suite)) Y.W D) RX') body D σ H) (fun i => by
    rw [← Y.hK i]
    exact ps_try_only (tb := fun W => wpB (Y.tr W RX') body) (ts := fun _ _ _ => wpB Y.suite (b0 :: suite)) (hs i) (hf i) ⟨hg i, hd, .inl (by rw [Y.hmg]; exact hm)⟩ (Y.tk i) (fun W pn xe tk own => pbW (Y := Y.tr W RX') ⟨(i, pn, xe), tk, own⟩) fun a oe cls d pn _ _ => pbW (Y := Y.suite) (i, a, (a, oe) :: pn)) fun F as σ H D S L tx t => by
    refine h _ F as σ H D S L (fun F' as' cl O' σ' H' g S' rx => ?_) t
    obtain ⟨bb, h1, h2, h3⟩ := hx cl O' rx
    refine ⟨bb, h1, fun hb a _ => ?_, fun hb => tx F' as' cl O' σ' H' g S' (h3 hb)⟩
    exact h2 hb σ'.length F' as' σ' H' D S' (slr_none σ') (fun _ _ _ _ _ _ _ _ (z : False) => z.elim) (t.mono g)
/-! ### truth of data -/
def truD : PyData → Option Bool
  | .none => some false
  | .bool b => some b
  | .int i => some (i != 0)
  | .list ds => some (!ds.isEmpty)
  | .tuple ds => some (!ds.isEmpty)
  | _ => none
theorem dpall_emp {K : PySem.W.Frag} {F : Hp} {xs : List V} {ds : List PyData} (h : DpAll K F xs ds) : xs.isEmpty = ds.isEmpty := by cases h <;> rfl
theorem tru_d {K : PySem.W.Frag} {F H : Hp} {d : PyData} {v : V} {k : Bool} (e : Same F H) (r : Dp K F v d) (h : truD d = some k) : TruV K v H k := by
  cases r with
  | non => cases h; rfl
  | bl b => cases h; rfl
  | int i => cases h; rfl
  | str x => cases h
  | lst hs ha => cases h; exact .inl ⟨_, e.seq hs, by rw [dpall_emp ha]⟩
  | tup hs ha => cases h; exact .inr (.inl ⟨_, same_t e hs, by rw [dpall_emp ha]⟩)
theorem xt_tru (h : XE Y e Γ O fun c O1 => ∃ d k, c = .d d ∧ truD d = some k ∧ RT k O1) (he : ∀ i whole, isTrue e (Y.X i).env whole = (do let v ← whole; standAt e.pos; holding [v] (truthy v)) := by intro _ _; rfl) : XT Y e Γ O RT :=
  xt_of (te := fun σ H Q => wpE Y e σ H fun x H' => ∃ k, TruV Y.K x H' k ∧ Q k H') (fun i => by rw [← Y.hK i]; exact pt_truth (peW i) (he i)) fun F as σ H Q S L tx t => h F as σ H _ S L tx fun F1 as1 c v O1 H1 g1 S1 r1 ⟨d, k, ec, ht, h1⟩ => by
    subst ec
    exact ⟨k, tru_d S1.ex r1 ht, t F1 as1 k k O1 H1 g1 S1 rfl h1⟩
end
end T

set_option Elab.async false
set_option linter.all false
set_option maxRecDepth 100000
set_option maxHeartbeats 1000000
namespace T
open PySem PySem.Spec PyProof.Rows L2
section
variable {Y : Fam} {e a b c iter tg elt cond : Expr} {es : List Expr} {st : Stmt} {sts : List Stmt} {Γ : Gam} {O : Sto} {R : C → Sto → Prop} {RT : Bool → Sto → Prop} {E : En} {pos p : Pos} {x : Str}
/-- a comprehension with a test and an invariant -/
theorem we_lcI {scope : Scope} {vs : List Nat} {τ : Tgt} (hj : ∀ j ∈ tgL τ, j ∈ vs) (hcl : Y.cl = true)
    (h : XI Y tg iter Γ O fun ds O1 => ∃ Pv : Nat → List C → Sto → Prop, ds.length ≤ sizeLine ∧ Pv 0 [] O1 ∧ (∀ i acc O', Pv i acc O' → O'.length = O1.length ∧ Clo O1.length O' ∧ (∀ c ∈ acc, clC O1.length c) ∧ acc.length ≤ i) ∧
      (∀ i d acc O', ds[i]? = some d → Pv i acc O' → ∃ Γ2, tgS (wipeG Γ vs) τ d = some Γ2 ∧ XT (Y.blk scope) cond Γ2 (O' ++ [.lst acc]) fun k O3 => (k = true → XE (Y.blk scope) elt Γ2 O3 fun y O4 => ∃ O'' E2, O4 = (O'' ++ [.lst acc]) ++ E2 ∧ Pv (i + 1) (acc ++ [y]) O'') ∧ (k = false → ∃ O'' E2, O3 = (O'' ++ [.lst acc]) ++ E2 ∧ Pv (i + 1) acc O'')) ∧
      (∀ acc O', Pv ds.length acc O' → R (.o O'.length) (O' ++ [.lst acc]))) :
    We Y (tLc (wpI Y tg iter) (tgG Y.K τ) (wpT (Y.blk scope) cond) (wpE (Y.blk scope) elt) vs) Γ O R := fun F as σ H Q S L tx t => h F as σ H _ S L tx fun F1 as1 J ds O1 H1 g1 S1 j1 ⟨Pv, hz, p0, pc, ps, pd⟩ => by
  intro D hD
  have txF : ∀ {F as}, ThX (Y.blk scope) F as := fun F' as' cl O' σ' H' _ _ (r : False) => r.elim
  obtain ⟨S2, g2⟩ := S1.own (cs := []) (vs := []) hD .nil
  have aD : (as1 ++ [D])[O1.length]? = some D := by rw [← S1.len]; simp
  refine ⟨fun i m H' => i ≤ ds.length ∧ m = ds.length - i ∧ ∃ F' acc O', Same F1 F' ∧ Sat Y.K F' H' (as1 ++ [D]) (O' ++ [.lst acc]) ∧ Pv i acc O', ⟨ds.length, Nat.zero_le _, by omega, F1, [], O1, Same.refl _, S2, p0⟩, ?_⟩
  rintro i m H' ⟨hi, rfl, F2, acc, O2, e2, S3, p2⟩
  have j2 := j1.mono e2
  obtain ⟨c1, c2, c3, c4⟩ := pc i acc O2 p2
  by_cases hlt : i < ds.length
  · refine .inr ⟨j2.go i H' S3.ex hlt, fun H4 => ∃ F' acc O', Same F1 F' ∧ Sat Y.K F' H4 (as1 ++ [D]) (O' ++ [.lst acc]) ∧ Pv (i + 1) acc O', fun H4 ⟨F', acc', O', a1, a2, a3⟩ => ⟨ds.length - (i + 1), by omega, hlt, rfl, F', acc', O', a1, a2, a3⟩, fun x H3 y => ?_⟩
    obtain ⟨F3, g3, S4, r3⟩ := jd_item j2 S3 (List.getElem?_eq_getElem hlt) y
    obtain ⟨Γ2, ht, hb⟩ := ps i _ acc O2 (List.getElem?_eq_getElem hlt) p2
    have gg : Gr F as F3 (as1 ++ [D]) := ⟨(g1.fr.trans e2).trans g3.fr, g1.px.trans (List.prefix_append _ _)⟩
    -- a store that ends with the new list and what came behind it: that is forgotten
    have cutS : ∀ {F4 as4 H4 acc' O'' E2}, Gr F3 (as1 ++ [D]) F4 as4 → Sat Y.K F4 H4 as4 ((O'' ++ [.lst acc]) ++ E2) → Pv (i + 1) acc' O'' → (∀ c ∈ acc, clC O1.length c) → Sat Y.K F4 H4 (as1 ++ [D]) (O'' ++ [.lst acc]) := by
      intro F4 as4 H4 acc' O'' E2 g4 S5 p4 hacc
      obtain ⟨d1, d2, _, _⟩ := pc (i + 1) _ O'' p4
      have hl : (as1 ++ [D]).length = (O'' ++ [Ob.lst acc]).length := by simp [S1.len, d1]
      have hn : (O'' ++ [Ob.lst acc]).length = O1.length + 1 := by simp [d1]
      refine S5.cut g4.px hl ?_
      rw [hn]
      intro u hu
      have up : ∀ {c : C}, clC O1.length c → clC (O1.length + 1) c := fun {c} q => by
        cases c with
        | d x => trivial
        | o k => exact Nat.lt_succ_of_lt q
      rcases List.mem_append.mp hu with z | z
      · exact fun c hc => up (d2 u z c hc)
      · have : u = .lst acc := by simpa using z
        subst this
        exact fun c hc => up (hacc c hc)
    refine tg_run S4 hj (slr_wipe (L.mono gg) vs) r3 ht fun σ2 L2' ew => ⟨ew, ?_⟩
    refine hb F3 _ σ2 H3 _ S4 L2' txF fun F4 as4 k v O4 H4 g4 S5 r4 hk => ?_
    have r4 : v = k := by rw [← r4]
    subst r4
    cases v with
    | true =>
      refine iteT (hk.1 rfl F4 as4 σ2 H4 _ S5 (L2'.mono g4) txF fun F5 as5 c v O5 H5 g5 S6 r5 ⟨O'', E2, e4, p4⟩ => ?_)
      subst e4
      obtain ⟨d1, d2, d3, d4⟩ := pc (i + 1) _ O'' p4
      have S6 := cutS (g4.trans g5) S6 p4 c3
      have hO : (O'' ++ [Ob.lst acc])[O1.length]? = some (.lst acc) := by rw [← d1]; simp
      obtain ⟨hF, us, e5, p5⟩ := S6.lst aD hO
      have r5 : CR Y.K F5 (as1 ++ [D]) c v := cr_back r5 (g4.trans g5).px (by
        have q := d3 c (by simp)
        cases c with
        | d x => trivial
        | o k => exact Nat.lt_of_lt_of_le q (by simp [S1.len]))
      have hlen : us.length ≤ i := by rw [← pr_len p5]; exact c4
      refine ⟨us, e5, by omega, F5, acc ++ [c], O'', ((e2.trans g3.fr).trans g4.fr).trans g5.fr, ?_, p4⟩
      have S7 := S6.put (u0 := .gone) (cs := acc ++ [c]) aD hF (Paired.snoc p5 r5)
      have e7 : (O'' ++ [Ob.lst acc]).set O1.length (.lst (acc ++ [c])) = O'' ++ [.lst (acc ++ [c])] := by rw [← d1]; simp
      rw [e7] at S7
      exact S7
    | false =>
      obtain ⟨O'', E2, e4, p4⟩ := hk.2 rfl
      subst e4
      exact iteF ⟨F4, acc, O'', (e2.trans g3.fr).trans g4.fr, cutS g4 S5 p4 c3, p4⟩
  · have e : i = ds.length := by omega
    subst e
    refine .inl ⟨j2.stop _ H' S3.ex (Nat.le_refl _), ?_⟩
    exact t F2 (as1 ++ [D]) (.o O2.length) _ _ H' ⟨g1.fr.trans e2, g1.px.trans (List.prefix_append _ _)⟩ S3 ⟨D, by rw [c1]; exact aD, rfl⟩ (pd acc O2 p2)
theorem xe_lcI {scope : Scope} {own : List (Str × Nat)} {τ : Tgt} (ok : ∀ i, BlkOk (Y.X i).N (Y.X i).env.scope scope own) (hg : ∀ i, PG ((Y.blk scope).X i) tg (tgG Y.K τ)) (w : We Y (tLc (wpI Y tg iter) (tgG Y.K τ) (wpT (Y.blk scope) cond) (wpE (Y.blk scope) elt) (own.map (·.2))) Γ O R) (hc : Y.cl = true := by rfl)
    (hs : ∀ i x, foldedSetIterable iter (Y.X i).env x = pure x := by intro _ _; rfl) : XE Y (.ListComp elt [⟨tg, iter, [cond], 0⟩] scope pos) Γ O R :=
  xe_of (fun i => pe_lc (Y.calm hc i) (by rw [Y.hN]; exact Y.nd) (piW i) (ok i) (fun s H C cl fp => hg (i, s, H, C, cl, fp)) (fun s H C cl fp => pts_one (ptW (Y := Y.blk scope) (i, s, H, C, cl, fp))) (fun s H C cl fp => peW (Y := Y.blk scope) (i, s, H, C, cl, fp)) (hs i)) w
/-- a pure comprehension with a test: the list of the images of those that pass -/
theorem we_mapI {scope : Scope} {vs : List Nat} {τ : Tgt} (hj : ∀ j ∈ tgL τ, j ∈ vs) (hcl : Y.cl = true)
    (h : XI Y tg iter Γ O fun ds O1 => ∃ (q : PyData → Bool) (g : PyData → PyData), ds.length ≤ sizeLine ∧ (∀ d ∈ ds, ∀ acc, ∃ Γ2, tgS (wipeG Γ vs) τ d = some Γ2 ∧ XT (Y.blk scope) cond Γ2 (O1 ++ [.lst acc]) fun k O3 => k = q d ∧ (∃ E2, O3 = (O1 ++ [.lst acc]) ++ E2) ∧ (q d = true → XE (Y.blk scope) elt Γ2 O3 fun y O4 => y = .d (g d) ∧ ∃ E2, O4 = (O1 ++ [.lst acc]) ++ E2)) ∧ R (.d (.list ((ds.filter q).map g))) (O1 ++ [.gone])) :
    We Y (tLc (wpI Y tg iter) (tgG Y.K τ) (wpT (Y.blk scope) cond) (wpE (Y.blk scope) elt) vs) Γ O R := we_frz (we_lcI hj hcl fun F as σ H R' S L tx t => h F as σ H R' S L tx fun F1 as1 J ds O1 H1 g1 S1 j1 ⟨q, g, hz, hb, hr⟩ => t F1 as1 J ds O1 H1 g1 S1 j1
  ⟨fun i acc O' => O' = O1 ∧ acc = (((ds.take i).filter q).map g).map C.d, hz, ⟨rfl, by simp⟩, fun i acc O' ⟨e1, e2⟩ => by
    subst e1 e2
    refine ⟨rfl, S1.clo, fun c hc => ?_, ?_⟩
    · obtain ⟨d, _, rfl⟩ := List.mem_map.mp hc
      trivial
    · rw [List.length_map, List.length_map]
      exact Nat.le_trans (List.length_filter_le _ _) (by rw [List.length_take]; omega), fun i d acc O' hd ⟨e1, e2⟩ => by
    subst e1
    obtain ⟨Γ2, ht, hx⟩ := hb d (List.mem_of_getElem? hd) acc
    refine ⟨Γ2, ht, hx.imp fun k O3 ⟨ek, ⟨E2, e3⟩, he⟩ => ⟨fun hk => ?_, fun hk => ⟨O', E2, e3, rfl, ?_⟩⟩⟩
    · rw [ek] at hk
      refine (he hk).imp fun y O4 ⟨ey, E4, e4⟩ => ⟨O', E4, e4, rfl, ?_⟩
      rw [take_succ' hd, e2, ey, List.filter_append, List.filter_cons_of_pos hk]
      simp
    · rw [ek] at hk
      rw [take_succ' hd, e2, List.filter_append, List.filter_cons_of_neg (by rw [hk]; exact Bool.false_ne_true)]
      simp, fun acc O' ⟨e1, e2⟩ => ⟨O'.length, (ds.filter q).map g, rfl, by rw [e2]; simp, by
    subst e1
    have : (O' ++ [Ob.lst acc]).set O'.length .gone = O' ++ [.gone] := by simp
    rw [this]
    exact hr⟩⟩)
/-! ### sorted, of ints -/
def isort (ns : List Int) : List Int := ns.mergeSort (fun a b => decide (a ≤ b))
theorem isort_perm {ns : List Int} : (isort ns).Perm ns := List.mergeSort_perm _ _
theorem isort_srt {ns : List Int} : (isort ns).Pairwise (· ≤ ·) := by
  have h := List.pairwise_mergeSort (le := fun a b : Int => decide (a ≤ b)) (fun a b c h1 h2 => by simp at *; omega) (fun a b => by simp; omega) ns
  exact h.imp fun h => by simpa using h
theorem isort_eq {ns ms : List Int} (hp : ms.Perm ns) (hs : ms.Pairwise (· ≤ ·)) : ms = isort ns :=
  List.Perm.eq_of_pairwise (le := fun a b : Int => a ≤ b) (fun a b _ _ h1 h2 => Int.le_antisymm h1 h2) hs isort_srt (hp.trans isort_perm.symm)
end
end T

set_option Elab.async false
set_option linter.all false
set_option maxRecDepth 100000
set_option maxHeartbeats 1000000
namespace T
open PySem PySem.Spec PyProof.Rows L2
/-! ### loops and meetings whose state is told by s: some slots gs s, some objects os s, all else as it was -/
def gset (Γ : Gam) (l : List (Nat × Option C)) : Gam := l.foldl (fun G p => G.set p.1 p.2) Γ
def oset (O : Sto) (l : List (Nat × Ob)) : Sto := l.foldl (fun G p => G.set p.1 p.2) O
theorem gset_nil {Γ : Gam} : gset Γ [] = Γ := rfl
theorem gset_cons {Γ : Gam} {i : Nat} {c : Option C} {l} : gset Γ ((i, c) :: l) = gset (Γ.set i c) l := rfl
theorem oset_nil {O : Sto} : oset O [] = O := rfl
theorem oset_cons {O : Sto} {i : Nat} {u : Ob} {l} : oset O ((i, u) :: l) = oset (O.set i u) l := rfl
theorem oset_len : ∀ {l : List (Nat × Ob)} {O : Sto}, (oset O l).length = O.length
  | [], _ => rfl
  | _ :: l, O => by unfold oset; rw [List.foldl_cons]; exact (oset_len (l := l)).trans (by simp)
def Wk (Γ Γ' : Gam) : Prop := Paired (fun g g' : Option C => ∀ c, g' = some c → g = some c) Γ Γ'
theorem wk_refl : ∀ {Γ : Gam}, Wk Γ Γ
  | [] => .nil
  | _ :: _ => .cons (fun _ h => h) wk_refl
theorem wk_nil : Wk [] [] := .nil
theorem wk_same {g : Option C} {Γ Γ' : Gam} (h : Wk Γ Γ') : Wk (g :: Γ) (g :: Γ') := .cons (fun _ h => h) h
theorem wk_none {g : Option C} {Γ Γ' : Gam} (h : Wk Γ Γ') : Wk (g :: Γ) (none :: Γ') := .cons (fun _ h => nomatch h) h
def ClG (n : Nat) (Γ : Gam) : Prop := ∀ g ∈ Γ, ∀ c, g = some c → clC n c
theorem clG_set {n : Nat} {Γ : Gam} {i : Nat} {g : Option C} (h : ClG n Γ) (hg : ∀ c, g = some c → clC n c) : ClG n (Γ.set i g) := fun x hx c e => by
  rcases List.mem_or_eq_of_mem_set hx with z | z
  · exact h x z c e
  · subst z; exact hg c e
theorem clG_gset {n : Nat} : ∀ {l : List (Nat × Option C)} {Γ : Gam}, ClG n Γ → (∀ p ∈ l, ∀ c, p.2 = some c → clC n c) → ClG n (gset Γ l)
  | [], _, h, _ => h
  | p :: l, _, h, hp => clG_gset (l := l) (clG_set h (hp p (by simp))) fun q hq => hp q (List.mem_cons_of_mem _ hq)
theorem clo_oset {n : Nat} : ∀ {l : List (Nat × Ob)} {O : Sto}, Clo n O → (∀ p ∈ l, clOb n p.2) → Clo n (oset O l)
  | [], _, h, _ => h
  | p :: l, _, h, hp => clo_oset (l := l) (h.set (hp p (by simp))) fun q hq => hp q (List.mem_cons_of_mem _ hq)
section
variable {K : PySem.W.Frag} {F F' H : Hp} {as as' : List Addr} {O O1 : Sto} {Γ : Gam} {σ : L2.St}
theorem slr_cl (L : SlR K F as Γ σ) : ClG as.length Γ := by
  induction L with
  | nil => intro g hg; cases hg
  | cons r _ ih =>
    intro g hg c e
    rcases List.mem_cons.mp hg with z | z
    · subst z
      obtain ⟨v, _, h⟩ := r c e
      exact cl_of h
    · exact ih g z c e
theorem slr_back (L : SlR K F as' Γ σ) (p : as <+: as') (h : ClG as.length Γ) : SlR K F as Γ σ := by
  induction L with
  | nil => exact .nil
  | cons r _ ih => exact .cons (fun c e => let ⟨v, h1, h2⟩ := r c e; ⟨v, h1, cr_back h2 p (h _ (by simp) c e)⟩) (ih fun g hg => h g (List.mem_cons_of_mem _ hg))
end
/-- s's slots and objects, and new garbage -/
def Nx {S : Type} (Γ : Gam) (O1 : Sto) (gs : S → List (Nat × Option C)) (os : S → List (Nat × Ob)) (I : S → Prop) (Γ' : Gam) (O' : Sto) : Prop :=
  ∃ s E2, I s ∧ Wk Γ' (gset Γ (gs s)) ∧ O' = oset O1 (os s) ++ E2 ∧ (∀ p ∈ gs s, ∀ c, p.2 = some c → clC O1.length c) ∧ (∀ p ∈ os s, clOb O1.length p.2)
def Px {S : Type} (Γ : Gam) (O1 : Sto) (gs : S → List (Nat × Option C)) (os : S → List (Nat × Ob)) (I : S → Prop) (Γ' : Gam) (O' : Sto) : Prop := ∃ s, I s ∧ Γ' = gset Γ (gs s) ∧ O' = oset O1 (os s)
section
variable {Y : Fam} {e a b c iter tg elt cond : Expr} {es : List Expr} {st : Stmt} {sts : List Stmt} {Γ Γ2 : Gam} {O O1 O2 : Sto} {R : C → Sto → Prop} {RT : Bool → Sto → Prop} {E : En} {pos p : Pos} {x : Str} {S : Type} {gs : S → List (Nat × Option C)} {os : S → List (Nat × Ob)} {I : S → Prop}
theorem thn_cut {K : PySem.W.Frag} {F : Hp} {as : List Addr} {Q : L2.St → Hp → Prop} (hl : as.length = O1.length) (hG : ClG O1.length Γ) (hO : Clo O1.length O1) (t : Thn K (SlR K) F as (Px Γ O1 gs os I) Q) : Thn K (SlR K) F as (Nx Γ O1 gs os I) Q :=
  fun F' as' Γ' σ' O' H' g S' L' ⟨s, E2, hi, hw, e, h1, h2⟩ => by
    subst e
    have hc : Clo O1.length (oset O1 (os s)) := clo_oset hO h2
    have S2 := S'.cut g.px (hl.trans oset_len.symm) (by rw [oset_len]; exact hc)
    exact t F' as _ σ' _ H' ⟨g.fr, List.prefix_refl _⟩ S2 (slr_back (SlR.weak L' hw) g.px (by rw [hl]; exact clG_gset hG h1)) ⟨s, hi, rfl, rfl⟩
/-- less is known of the slots -/
theorem xs_weak {Γ' : Gam} (w : Wk Γ Γ') (h : XS Y st Γ' O E) : XS Y st Γ O E := fun F as σ H D S L tx t => h F as σ H D S (SlR.weak L w) tx t
theorem xb_weak {Γ' : Gam} (w : Wk Γ Γ') (h : XB Y sts Γ' O E) : XB Y sts Γ O E := fun F as σ H D S L tx t => h F as σ H D S (SlR.weak L w) tx t
theorem xs_forS (gs : S → List (Nat × Option C)) (os : S → List (Nat × Ob)) (Iv : Nat → S → Prop)
    (h : XI Y tg iter Γ O fun ds O1 => ∃ s0, Iv 0 s0 ∧ gset Γ (gs s0) = Γ ∧ oset O1 (os s0) = O1 ∧
      (∀ i d s, ds[i]? = some d → Iv i s → XG Y tg (.d d) (gset Γ (gs s)) (oset O1 (os s)) fun Γ2 O2 => O2.length = O1.length ∧ XB Y sts Γ2 O2 { E with nx := Nx Γ O1 gs os (Iv (i + 1)), ct := Nx Γ O1 gs os (Iv (i + 1)), bk := E.nx }) ∧ (∀ s, Iv ds.length s → E.nx (gset Γ (gs s)) (oset O1 (os s))))
    (hc : Y.cl = true := by rfl) (hs : ∀ i x, foldedSetIterable iter (Y.X i).env x = pure x := by intro _ _; rfl) : XS Y (.For tg iter sts [] pos) Γ O E :=
  fun F0 as0 σ0 H0 D0 S0 L0 tx0 t0 => by
    refine xs_for (Γ := Γ) (fun F as σ H R S L tx t => h F as σ H R S L tx fun F1 as1 J ds O1 H1 g1 S1 j1 ⟨s0, i0, w0, o0, hb, hd⟩ => t F1 as1 J ds O1 H1 g1 S1 j1 ?_) hc hs F0 as0 σ0 H0 D0 S0 L0 tx0 t0
    have hG : ClG O1.length Γ := by
      have q := slr_cl L
      intro g hg c e
      have q := q g hg c e
      have le : as.length ≤ O1.length := by rw [← S1.len]; exact g1.px.length_le
      cases c with
      | d x => trivial
      | o k => exact Nat.lt_of_lt_of_le q le
    have hO : Clo O1.length O1 := S1.clo
    refine ⟨fun i Γ' O' => Px Γ O1 gs os (Iv i) Γ' O', ⟨s0, i0, w0.symm, o0.symm⟩, fun i d Γ' O' hdi hP => ?_, fun Γ' O' hP => ?_⟩
    · obtain ⟨s, hi, rfl, rfl⟩ := hP
      intro F3 as3 σ3 H3 v3 Q3 S3 L3 tx3 r3 t3
      refine hb i d s hdi hi F3 as3 σ3 H3 v3 Q3 S3 L3 tx3 r3 fun F4 as4 Γ4 σ4 O4 H4 g4 S4 L4 ⟨hl4, b4⟩ => ?_
      refine t3 F4 as4 Γ4 σ4 O4 H4 g4 S4 L4 ?_
      intro F5 as5 σ5 H5 D5 S5 L5 tx5 t5
      exact b4 F5 as5 σ5 H5 D5 S5 L5 tx5 ⟨thn_cut (S5.len.trans hl4) hG hO t5.nx, t5.rt, t5.bk, thn_cut (S5.len.trans hl4) hG hO t5.ct⟩
    · obtain ⟨s, hi, rfl, rfl⟩ := hP
      exact hd s hi
theorem xs_whileS (gs : S → List (Nat × Option C)) (os : S → List (Nat × Ob)) (Iv : Nat → S → Prop) (m0 : Nat) (s0 : S) (i0 : Iv m0 s0) (w0 : gset Γ (gs s0) = Γ) (o0 : oset O (os s0) = O)
    (h : ∀ m s, Iv m s → XT Y e (gset Γ (gs s)) (oset O (os s)) fun k O2 => O2.length = O.length ∧ (k = true → XB Y sts (gset Γ (gs s)) O2 { E with nx := Nx Γ O gs os (fun s' => ∃ m', m' < m ∧ Iv m' s'), ct := Nx Γ O gs os (fun s' => ∃ m', m' < m ∧ Iv m' s'), bk := E.nx }) ∧ (k = false → E.nx (gset Γ (gs s)) O2)) : XS Y (.While e sts [] pos) Γ O E :=
  fun F0 as0 σ0 H0 D0 S0 L0 tx0 t0 => by
    have hG : ClG O.length Γ := by rw [← S0.len]; exact slr_cl L0
    have hO : Clo O.length O := S0.clo
    refine xs_while (Γ := Γ) (fun m Γ' O' => Px Γ O gs os (Iv m) Γ' O') m0 ⟨s0, i0, w0.symm, o0.symm⟩ (fun m Γ' O' hP => ?_) F0 as0 σ0 H0 D0 S0 L0 tx0 t0
    obtain ⟨s, hi, rfl, rfl⟩ := hP
    refine (h m s hi).imp fun k O2 ⟨hl, ht, hf⟩ => ⟨fun hk => ?_, hf⟩
    have b4 := ht hk
    have fixP : ∀ {K F as Q}, Thn K (SlR K) F as (fun Γ2 O2 => ∃ m', m' < m ∧ Px Γ O gs os (Iv m') Γ2 O2) Q → Thn K (SlR K) F as (Px Γ O gs os fun s' => ∃ m', m' < m ∧ Iv m' s') Q := fun t F' as' Γ' σ' O' H' g S' L' ⟨s', ⟨m', lt, hi'⟩, e1, e2⟩ => t F' as' Γ' σ' O' H' g S' L' ⟨m', lt, s', hi', e1, e2⟩
    intro F5 as5 σ5 H5 D5 S5 L5 tx5 t5
    exact b4 F5 as5 σ5 H5 D5 S5 L5 tx5 ⟨thn_cut (S5.len.trans hl) hG hO (fixP t5.nx), t5.rt, t5.bk, thn_cut (S5.len.trans hl) hG hO (fixP t5.ct)⟩
/-- behind st only what s tells is known -/
theorem xs_midS (gs : S → List (Nat × Option C)) (os : S → List (Nat × Ob)) (I : S → Prop) (h : XS Y st Γ O { E with nx := Nx Γ O gs os I }) (k : ∀ s, I s → E.nx (gset Γ (gs s)) (oset O (os s))) : XS Y st Γ O E :=
  fun F as σ H D S L tx t => h F as σ H D S L tx ⟨thn_cut S.len (by rw [← S.len]; exact slr_cl L) S.clo fun F' as' Γ' σ' O' H' g S' L' ⟨s, hi, e1, e2⟩ => by subst e1 e2; exact t.nx F' as' _ σ' _ H' g S' L' (k s hi), t.rt, t.bk, t.ct⟩
/-- a if c else b, of data -/
theorem xe_ifM (h : XT Y c Γ O fun k O1 => ∃ d, (k = true → XE Y a Γ O1 fun c2 O2 => c2 = .d d ∧ ∃ E2, O2 = O1 ++ E2) ∧ (k = false → XE Y b Γ O1 fun c2 O2 => c2 = .d d ∧ ∃ E2, O2 = O1 ++ E2) ∧ R (.d d) O1) : XE Y (.IfExp c a b pos) Γ O R :=
  xe_ifExp (h.imp fun k O1 ⟨d, h1, h2, r⟩ => ⟨fun hk => xe_tidy ((h1 hk).imp fun c2 O2 ⟨e, E2, e2⟩ => ⟨d, E2, e, e2, r⟩), fun hk => xe_tidy ((h2 hk).imp fun c2 O2 ⟨e, E2, e2⟩ => ⟨d, E2, e, e2, r⟩)⟩)
end
end T

set_option Elab.async false
set_option linter.all false
set_option maxRecDepth 100000
set_option maxHeartbeats 1000000
namespace T
open PySem PySem.Spec PyProof.Rows L2
/-! ### the store at the entry with two objects turned, and new objects -/
def ext2 (O : Sto) (k : Nat) (u : Ob) (j : Nat) (v : Ob) (E : List Ob) : Sto := (O.set k u).set j v ++ E
section
variable {O E : Sto} {k j i : Nat} {u v x u' v' : Ob}
theorem ext2_id (h : O[k]? = some u) (h' : O[j]? = some v) : ext2 O k u j v [] = O := by
  unfold ext2
  rw [List.append_nil]
  have e1 : O.set k u = O := by
    apply List.ext_getElem?
    intro i
    by_cases hi : k = i
    · subst hi; rw [List.getElem?_set_self (lt_of h), h]
    · rw [List.getElem?_set_ne hi]
  rw [e1]
  apply List.ext_getElem?
  intro i
  by_cases hi : j = i
  · subst hi; rw [List.getElem?_set_self (lt_of h'), h']
  · rw [List.getElem?_set_ne hi]
theorem ext2_len : List.length (ext2 O k u j v E) = O.length + E.length := by unfold ext2; simp
theorem ext2_push {F : List Ob} : ext2 O k u j v E ++ F = ext2 O k u j v (E ++ F) := by unfold ext2; rw [List.append_assoc]
theorem ext2_k (hn : j ≠ k) (h : k < O.length) : (ext2 O k u j v E)[k]? = some u := by unfold ext2; exact o_app (o_setn hn (o_set h))
theorem ext2_j (h : j < O.length) : (ext2 O k u j v E)[j]? = some v := by unfold ext2; exact o_app (o_set (by simpa using h))
theorem ext2_n {m : Nat} (h : E[m]? = some x) : (ext2 O k u j v E)[O.length + m]? = some x := by
  unfold ext2
  rw [List.getElem?_append_right (by simp)]
  simpa using h
theorem ext2_o (h : O[i]? = some x) (hk : k ≠ i) (hj : j ≠ i) : (ext2 O k u j v E)[i]? = some x := by unfold ext2; exact o_app (o_setn hj (o_setn hk h))
theorem ext2_set_k (hn : j ≠ k) (h : k < O.length) : List.set (ext2 O k u j v E) k u' = ext2 O k u' j v E := by
  unfold ext2
  rw [List.set_append_left _ _ (by simpa using h), List.set_comm _ _ hn, List.set_set]
theorem ext2_set_j (h : j < O.length) : List.set (ext2 O k u j v E) j v' = ext2 O k u j v' E := by
  unfold ext2
  rw [List.set_append_left _ _ (by simpa using h), List.set_set]
theorem ext2_set_n {m : Nat} : List.set (ext2 O k u j v E) (O.length + m) x = ext2 O k u j v (E.set m x) := by
  unfold ext2
  rw [List.set_append_right _ _ (by simp)]
  simp
theorem ext_tail {E1 E2 E3 : List Ob} (h : E1 = E2 ++ E3) : ext O k u E1 = ext O k u E2 ++ E3 := by subst h; exact ext_push.symm
theorem ext2_tail {E1 E2 E3 : List Ob} (h : E1 = E2 ++ E3) : ext2 O k u j v E1 = ext2 O k u j v E2 ++ E3 := by subst h; exact ext2_push.symm
theorem app_tail {E1 E2 E3 : List Ob} (h : E1 = E2 ++ E3) : O ++ E1 = (O ++ E2) ++ E3 := by subst h; exact (List.append_assoc _ _ _).symm
theorem oset_id1 (h : O[k]? = some u) : oset O [(k, u)] = O := by
  rw [oset_cons, oset_nil]
  apply List.ext_getElem?
  intro i
  by_cases hi : k = i
  · subst hi; rw [List.getElem?_set_self (lt_of h), h]
  · rw [List.getElem?_set_ne hi]
theorem oset_id2 {l : List (Nat × Ob)} (h : O[k]? = some u) (h2 : oset O l = O) : oset O ((k, u) :: l) = O := by
  have e := oset_id1 h
  rw [oset_cons, oset_nil] at e
  rw [oset_cons, e, h2]
/-- in O ++ E -/
theorem app_len : List.length (O ++ E) = O.length + E.length := List.length_append
theorem app_n {m : Nat} (h : E[m]? = some x) : (O ++ E)[O.length + m]? = some x := by
  rw [List.getElem?_append_right (by omega)]
  simpa using h
theorem app_set_n {m : Nat} : List.set (O ++ E) (O.length + m) x = O ++ E.set m x := by
  rw [List.set_append_right _ _ (by omega)]
  simp
theorem app_push {F : List Ob} : (O ++ E) ++ F = O ++ (E ++ F) := List.append_assoc _ _ _
theorem sto_app0 : O = O ++ ([] : List Ob) := (List.append_nil _).symm
end
theorem nx_mk {S : Type} {Γ : Gam} {O1 : Sto} {gs : S → List (Nat × Option C)} {os : S → List (Nat × Ob)} {I : S → Prop} {Γ' : Gam} {O' : Sto} (s : S) {E2 : List Ob} (hi : I s) (hw : Wk Γ' (gset Γ (gs s))) (ho : O' = oset O1 (os s) ++ E2) (h1 : ∀ p ∈ gs s, ∀ c, p.2 = some c → clC O1.length c) (h2 : ∀ p ∈ os s, clOb O1.length p.2) : Nx Γ O1 gs os I Γ' O' := ⟨s, E2, hi, hw, ho, h1, h2⟩
/-! ### no reference leads out: displays -/
section
variable {n : Nat} {i : Nat} {l : List (Nat × Option C)} {o : List (Nat × Ob)} {cs : List C}
theorem clg0 : ∀ p ∈ ([] : List (Nat × Option C)), ∀ c, p.2 = some c → clC n c := fun p hp => nomatch hp
theorem clg_none (h : ∀ p ∈ l, ∀ c, p.2 = some c → clC n c) : ∀ p ∈ ((i, none) :: l), ∀ c, p.2 = some c → clC n c := fun p hp c hc => by
  rcases List.mem_cons.mp hp with e | e
  · subst e; cases hc
  · exact h p e c hc
theorem clg_d {x : PyData} (h : ∀ p ∈ l, ∀ c, p.2 = some c → clC n c) : ∀ p ∈ ((i, some (.d x)) :: l), ∀ c, p.2 = some c → clC n c := fun p hp c hc => by
  rcases List.mem_cons.mp hp with e | e
  · subst e; cases hc; trivial
  · exact h p e c hc
theorem clg_o {k : Nat} (hk : k < n) (h : ∀ p ∈ l, ∀ c, p.2 = some c → clC n c) : ∀ p ∈ ((i, some (.o k)) :: l), ∀ c, p.2 = some c → clC n c := fun p hp c hc => by
  rcases List.mem_cons.mp hp with e | e
  · subst e; cases hc; exact hk
  · exact h p e c hc
theorem clo0 : ∀ p ∈ ([] : List (Nat × Ob)), clOb n p.2 := fun p hp => nomatch hp
theorem clo_c {u : Ob} (hu : clOb n u) (h : ∀ p ∈ o, clOb n p.2) : ∀ p ∈ ((i, u) :: o), clOb n p.2 := fun p hp => by
  rcases List.mem_cons.mp hp with e | e
  · subst e; exact hu
  · exact h p e
theorem cls0 : ∀ c ∈ ([] : List C), clC n c := fun c hc => nomatch hc
theorem cls_d {x : PyData} (h : ∀ c ∈ cs, clC n c) : ∀ c ∈ (.d x :: cs), clC n c := fun c hc => by
  rcases List.mem_cons.mp hc with e | e
  · subst e; trivial
  · exact h c e
theorem cls_o {k : Nat} (hk : k < n) (h : ∀ c ∈ cs, clC n c) : ∀ c ∈ (.o k :: cs), clC n c := fun c hc => by
  rcases List.mem_cons.mp hc with e | e
  · subst e; exact hk
  · exact h c e
theorem cls_m {ds : List PyData} : ∀ c ∈ ds.map C.d, clC n c := fun c hc => by
  obtain ⟨x, _, rfl⟩ := List.mem_map.mp hc
  trivial
theorem clOb_lst (h : ∀ c ∈ cs, clC n c) : clOb n (.lst cs) := h
end
section
variable {Y : Fam} {e a b c iter tg elt cond : Expr} {es : List Expr} {st : Stmt} {sts : List Stmt} {Γ Γ' : Gam} {O O' : Sto} {R : C → Sto → Prop} {RT : Bool → Sto → Prop} {E : En} {pos p : Pos} {x : Str}
theorem xb_gam (h : Γ = Γ') (w : XB Y sts Γ' O E) : XB Y sts Γ O E := by subst h; exact w
/-- a comprehension whose store is told by s -/
theorem we_lcS {S : Type} {scope : Scope} {vs : List Nat} {τ : Tgt} (os : S → List (Nat × Ob)) (Iv : Nat → List C → S → Prop) (hj : ∀ j ∈ tgL τ, j ∈ vs) (hcl : Y.cl = true)
    (h : XI Y tg iter Γ O fun ds O1 => ∃ s0, ds.length ≤ sizeLine ∧ Iv 0 [] s0 ∧ oset O1 (os s0) = O1 ∧ (∀ i acc s, Iv i acc s → (∀ p ∈ os s, clOb O1.length p.2) ∧ (∀ c ∈ acc, clC O1.length c) ∧ acc.length ≤ i) ∧
      (∀ i d acc s, ds[i]? = some d → Iv i acc s → ∃ Γ2, tgS (wipeG Γ vs) τ d = some Γ2 ∧ XE (Y.blk scope) elt Γ2 (oset O1 (os s) ++ [.lst acc]) fun y O3 => ∃ s' E2, O3 = (oset O1 (os s') ++ [.lst acc]) ++ E2 ∧ Iv (i + 1) (acc ++ [y]) s') ∧
      (∀ acc s, Iv ds.length acc s → R (.o O1.length) (oset O1 (os s) ++ [.lst acc]))) :
    We Y (tLc (wpI Y tg iter) (tgG Y.K τ) tYes (wpE (Y.blk scope) elt) vs) Γ O R := we_lc hj hcl fun F as σ H R' S L tx t => h F as σ H R' S L tx fun F1 as1 J ds O1 H1 g1 S1 j1 ⟨s0, hz, i0, o0, hc, hb, hr⟩ => t F1 as1 J ds O1 H1 g1 S1 j1
  ⟨fun i acc O' => ∃ s, Iv i acc s ∧ O' = oset O1 (os s), hz, ⟨s0, i0, o0.symm⟩, fun i acc O' ⟨s, hi, e⟩ => by
    subst e
    obtain ⟨c1, c2, c3⟩ := hc i acc s hi
    exact ⟨oset_len, clo_oset S1.clo c1, c2, c3⟩, fun i d acc O' hd ⟨s, hi, e⟩ => by
    subst e
    obtain ⟨Γ2, ht, hx⟩ := hb i d acc s hd hi
    exact ⟨Γ2, ht, hx.imp fun y O3 ⟨s', E2, e3, hi'⟩ => ⟨_, E2, e3, s', hi', rfl⟩⟩, fun acc O' ⟨s, hi, e⟩ => by
    subst e
    rw [oset_len]
    exact hr acc s hi⟩
theorem xs_setLcI (i : Nat) {p' spos : Pos} {scope : Scope} {own : List (Str × Nat)} {τ : Tgt} (hi : Y.N[i]? = some x) (hyl : ∀ j, (Y.X j).env.scope.names.lookup x = some .local) (hsw : ∀ j, swapsWith (.ListComp elt [⟨tg, iter, [cond], 0⟩] scope pos) (some (.Name x p')) spos.line (Y.X j).env = pure true)
    (ok : ∀ i, BlkOk (Y.X i).N (Y.X i).env.scope scope own) (hg : ∀ i, PG ((Y.blk scope).X i) tg (tgG Y.K τ)) (w : We Y (tLc (wpI Y tg iter) (tgG Y.K τ) (wpT (Y.blk scope) cond) (wpE (Y.blk scope) elt) (own.map (·.2))) Γ O fun c O1 => E.nx (Γ.set i (some c)) O1) (hc : Y.cl = true := by rfl)
    (hs : ∀ i x, foldedSetIterable iter (Y.X i).env x = pure x := by intro _ _; rfl) : XS Y (.Assign [.Name x p'] (.ListComp elt [⟨tg, iter, [cond], 0⟩] scope pos) spos) Γ O E :=
  xs_of (fun j => ps_setLc (i := i) (Y.calm hc j) (by rw [Y.hN]; exact Y.nd) (by rw [Y.hN]; exact hi) (hyl j) (hsw j) (piW j) (ok j) (fun s H C cl fp => hg (j, s, H, C, cl, fp)) (fun s H C cl fp => pts_one (ptW (Y := Y.blk scope) (j, s, H, C, cl, fp))) (fun s H C cl fp => peW (Y := Y.blk scope) (j, s, H, C, cl, fp)) (hs j)) fun F as σ H D S L tx t =>
    w F as σ H _ S L tx fun F1 as1 c v O1 H1 g1 S1 r1 h1 => t.nx F1 as1 _ _ O1 H1 g1 S1 ((L.mono g1).set r1 i) h1
/-- sorted(xs), xs a list of ints -/
theorem ints_v {K : PySem.W.Frag} {F : Hp} : ∀ {ns : List Int} {xs : List V}, DpAll K F xs (ns.map PyData.int) → xs = ns.map V.int
  | [], _, h => by cases h; rfl
  | n :: ns, _, h => by
    cases h with
    | cons r t => cases r; rw [ints_v t]; rfl
theorem xe_sorted {ns : List Int} (hm : Y.mg "sorted" = none) (h : XA Y [e] Γ O fun cs O1 => cs = [.d (.list (ns.map PyData.int))] ∧ R (.d (.list ((isort ns).map PyData.int))) (O1 ++ [.gone])) (hg : ∀ i, Gl (Y.X i) "sorted" := by exact fun _ => rfl)
    (he : ∀ i, starEach [e] (Y.X i).env = (false, eval e (Y.X i).env) :: starEach [] (Y.X i).env := by exact fun _ => rfl) (hpl : ∀ i, (backTo pos (starEach [] (Y.X i).env)).any (·.1) = false := by exact fun _ => rfl) : XE Y (.Call (.Name "sorted" p) [e] [] pos) Γ O R :=
  xe_frz (xe_blt (r := rSortedI Y.K) (fun i => by rw [← Y.hK i]; exact cr_sortedI) hm (by decide +kernel) (fun F as σ H Q S L tx t => h F as σ H Q S L tx fun F1 as1 cs vs O1 H1 g1 S1 r1 ⟨ec, hr⟩ => t F1 as1 cs vs O1 H1 g1 S1 r1 (by
    subst ec
    intro F2 as2 H2 xs Q2 S2 rx t2
    cases rx with
    | cons r r0 =>
      cases r0
      cases r with
      | @lst a ys _ hs ha =>
        have e := ints_v ha
        subst e
        refine ⟨a, ns, rfl, S2.ex.seq hs, fun ns' p hp hs' hn => ?_⟩
        have e2 := isort_eq hp hs'
        subst e2
        obtain ⟨S3, g3⟩ := S2.own (cs := ((isort ns).map PyData.int).map C.d) hn (of_all (all_ints (K := Y.K) (H := F2) (isort ns)))
        exact t2 _ _ (.o O1.length) _ _ _ g3 S3 ⟨p, by rw [← S2.len]; simp, rfl⟩ ⟨O1.length, (isort ns).map PyData.int, rfl, by simp, by simpa using hr⟩)) hg (by decide) (by decide) he hpl)
end
end T

set_option Elab.async false
set_option linter.all false
set_option maxRecDepth 100000
set_option maxHeartbeats 1000000
namespace T
open PySem PySem.Spec PyProof.Rows L2
/-! ### tapes of a law: dicts from places to symbols -/
abbrev Tp := List (Int × Int)
abbrev Cfg := Int × Int × Int × List Int
def cfgD (c : Cfg) : PyData := .tuple [.int c.1, .int c.2.1, .int c.2.2.1, .tuple (c.2.2.2.map PyData.int)]
def tpC (t : Tp) : List (Key × C) := t.map fun p => (.inl p.1, .d (.int p.2))
def dctI (t : Tp) : Ob := .dct (tpC t)
def look (t : Tp) (x : Int) : Int := match t.find? (fun p => decide (p.1 = x)) with
  | some p => p.2
  | none => 0
def putI (t : Tp) (x v : Int) : Tp := if t.any (fun p => decide (p.1 = x)) = true then t.map (fun p => if p.1 = x then (p.1, v) else p) else t ++ [(x, v)]
theorem clOb_dct {t : Tp} {n : Nat} : clOb n (dctI t) := fun c hc => by
  have hc : c ∈ (tpC t).map (·.2) := hc
  unfold tpC at hc
  rw [List.map_map] at hc
  obtain ⟨z, _, rfl⟩ := List.mem_map.mp hc
  trivial
theorem val_tp {t : Tp} {x : Int} : valC (tpC t) (.inl x) = (t.find? fun p => decide (p.1 = x)).map fun p => C.d (.int p.2) := by
  unfold valC tpC
  rw [List.find?_map]
  have e : ((fun kv : Key × C => decide (kv.1 = Sum.inl x)) ∘ fun p : Int × Int => ((Sum.inl p.1 : Key), C.d (.int p.2))) = fun p => decide (p.1 = x) := by
    funext p
    simp
  rw [e]
  cases t.find? (fun p => decide (p.1 = x)) <;> rfl
theorem get_tp {t : Tp} {x : Int} : (valC (tpC t) (.inl x)).getD (.d (.int 0)) = .d (.int (look t x)) := by
  rw [val_tp]
  unfold look
  cases t.find? (fun p => decide (p.1 = x)) <;> rfl
theorem at_tp {t : Tp} {x : Int} (h : x ∈ t.map (·.1)) : valC (tpC t) (.inl x) = some (.d (.int (look t x))) := by
  rw [val_tp]
  unfold look
  cases e : t.find? (fun p => decide (p.1 = x)) with
  | some p => rfl
  | none =>
    obtain ⟨p, hp, hx⟩ := List.mem_map.mp h
    have q := List.find?_eq_none.mp e p hp
    simp at q
    exact absurd hx q
theorem put_tp {t : Tp} {x v : Int} : putC (tpC t) (.inl x) (.d (.int v)) = tpC (putI t x v) := by
  unfold putC putI tpC
  rw [List.any_map]
  have e : ((fun kv : Key × C => decide (kv.1 = Sum.inl x)) ∘ fun p : Int × Int => ((Sum.inl p.1 : Key), C.d (.int p.2))) = fun p => decide (p.1 = x) := by
    funext p
    simp
  rw [e]
  split
  · rw [List.map_map, List.map_map]
    apply List.map_congr_left
    intro p _
    simp only [Function.comp]
    by_cases hx : p.1 = x
    · simp [hx]
    · simp [hx]
  · rw [List.map_append]; rfl
theorem keys_tp {t : Tp} : (tpC t).map (fun p => keyD p.1) = (t.map (·.1)).map PyData.int := by
  unfold tpC
  rw [List.map_map, List.map_map]
  rfl
theorem look_put {t : Tp} {x v y : Int} : look (putI t x v) y = if y = x then v else look t y := by
  unfold look putI
  by_cases h : (t.any fun p => decide (p.1 = x)) = true
  · rw [if_pos h, List.find?_map]
    have e : ((fun p : Int × Int => decide (p.1 = y)) ∘ fun p : Int × Int => if p.1 = x then (p.1, v) else p) = fun p => decide (p.1 = y) := by
      funext p
      simp only [Function.comp]
      split <;> rfl
    rw [e]
    cases hf : t.find? (fun p => decide (p.1 = y)) with
    | none =>
      have hy : y ≠ x := by
        intro z
        subst z
        obtain ⟨p, hp, hx⟩ := List.any_eq_true.mp h
        exact absurd hx (by simpa using List.find?_eq_none.mp hf p hp)
      rw [if_neg hy]; rfl
    | some p =>
      have hp : p.1 = y := by simpa using List.find?_some hf
      by_cases hy : y = x
      · rw [if_pos hy]; simp [hp, hy]
      · rw [if_neg hy]; simp [hp, hy]
  · rw [if_neg h, List.find?_append]
    have hn : ∀ p ∈ t, p.1 ≠ x := by
      intro p hp hx
      exact h (List.any_eq_true.mpr ⟨p, hp, by simpa using hx⟩)
    by_cases hy : y = x
    · subst hy
      have : t.find? (fun p => decide (p.1 = y)) = none := List.find?_eq_none.mpr fun p hp => by simpa using hn p hp
      rw [this]
      simp
    · rw [if_neg hy]
      cases t.find? (fun p => decide (p.1 = y)) with
      | some p => rfl
      | none => simp [Ne.symm hy]
def spots (t : Tp) : List Int := isort ((t.map (·.1)).filter fun x => decide (look t x ≠ 0))
/-- what _law_end makes of a tape -/
def endF (st pl : Int) (t : Tp) : Cfg := match spots t with
  | [] => (st, pl, 0, [])
  | s :: r => (st, pl, s, (List.range ((r.getLastD s) + 1 - s).toNat).map fun i => look t (s + (i : Nat)))
theorem spots_mem {t : Tp} {x : Int} : x ∈ spots t ↔ look t x ≠ 0 := by
  unfold spots
  rw [isort_perm.mem_iff, List.mem_filter]
  constructor
  · rintro ⟨_, h⟩; simpa using h
  · intro h
    refine ⟨?_, by simpa using h⟩
    unfold look at h
    cases e : t.find? (fun p => decide (p.1 = x)) with
    | none => rw [e] at h; exact absurd rfl h
    | some p =>
      have hp : p.1 = x := by simpa using List.find?_some e
      exact List.mem_map.mpr ⟨p, List.mem_of_find?_eq_some e, hp⟩
theorem getLastD_mem {α : Type} : ∀ {l : List α} {a : α}, l.getLastD a ∈ a :: l
  | [], a => by simp
  | b :: l, a => by
    rw [List.getLastD_cons]
    exact List.mem_cons_of_mem _ getLastD_mem
theorem srt_last : ∀ {l : List Int} {a : Int}, (a :: l).Pairwise (· ≤ ·) → ∀ x ∈ a :: l, x ≤ l.getLastD a
  | [], a, _, x, hx => by simp at hx; subst hx; simp
  | b :: l, a, h, x, hx => by
    rw [List.getLastD_cons]
    obtain ⟨h1, h2⟩ := List.pairwise_cons.mp h
    have ih := srt_last h2
    rcases List.mem_cons.mp hx with e | hx
    · subst e
      exact Int.le_trans (h1 b (by simp)) (ih b (by simp))
    · exact ih x hx
/-- the ends of what is not blank -/
theorem spots_ends {t : Tp} {s : Int} {r : List Int} (h : spots t = s :: r) : look t s ≠ 0 ∧ look t (r.getLastD s) ≠ 0 ∧ s ≤ r.getLastD s ∧ ∀ x, look t x ≠ 0 → s ≤ x ∧ x ≤ r.getLastD s := by
  have hs : (s :: r).Pairwise (· ≤ ·) := by rw [← h]; exact isort_srt
  have hm : ∀ x, x ∈ s :: r ↔ look t x ≠ 0 := fun x => by rw [← h]; exact spots_mem
  have hl := srt_last hs
  have h1 := (List.pairwise_cons.mp hs).1
  refine ⟨(hm s).mp (by simp), (hm _).mp getLastD_mem, hl s (by simp), fun x hx => ?_⟩
  have hx := (hm x).mpr hx
  refine ⟨?_, hl x hx⟩
  rcases List.mem_cons.mp hx with e | hx
  · omega
  · exact h1 x hx
end T

set_option Elab.async false
set_option linter.all false
set_option maxRecDepth 100000
set_option maxHeartbeats 1000000
namespace T
open PySem PySem.Spec PyProof.Rows L2
theorem ext_set0 {O : Sto} {k : Nat} {u : Ob} : O.set k u = ext O k u [] := (List.append_nil _).symm
theorem ext_same {O E : Sto} {k : Nat} {u : Ob} (h : O[k]? = some u) : ext O k u E = O ++ E := by
  have q := ext_id h
  unfold ext at q ⊢
  rw [List.append_nil] at q
  rw [q]
theorem back_same {O E : Sto} {k : Nat} {u : Ob} {R : C → Sto → Prop} {d : PyData} (hc : Clo O.length O) (h : O[k]? = some u) (r : R (.d d) O) : Back O R (.d d) (ext O k u E) := by
  rw [ext_same h]
  exact back_d hc r
theorem fil_keys {t : Tp} {q : PyData → Bool} {g : PyData → PyData} (hq : ∀ x, q (.int x) = decide (look t x ≠ 0)) (hg : ∀ d, g d = d) : (((tpC t).map fun p => keyD p.1).filter q).map g = ((t.map (·.1)).filter fun x => decide (look t x ≠ 0)).map PyData.int := by
  have e : g = id := funext hg
  rw [e, List.map_id, keys_tp, List.filter_map]
  congr 1
  apply List.filter_congr
  intro x _
  exact hq x
theorem spots_def {t : Tp} : isort ((t.map (·.1)).filter fun x => decide (look t x ≠ 0)) = spots t := rfl
theorem atI_lastI {s : Int} {r : List Int} : atI ((s :: r).map PyData.int) (-1) = some (.int (r.getLastD s)) := by
  have h : ((s :: r).map PyData.int)[r.length]? = some (.int (r.getLastD s)) := by
    rw [List.getElem?_map]
    have : (s :: r)[r.length]? = some (r.getLastD s) := by
      induction r generalizing s with
      | nil => rfl
      | cons b r ih =>
        rw [List.getLastD_cons]
        simpa using ih (s := b)
    rw [this]; rfl
  have e : ixN ((s :: r).map PyData.int).length (-1) = some r.length := by
    unfold ixN
    rw [if_neg (by omega), if_pos (by simp; omega)]
    simp
    omega
  unfold atI
  rw [e]
  exact h
theorem endF_nil {st pl : Int} {t : Tp} (h : spots t = []) : endF st pl t = (st, pl, 0, []) := by unfold endF; rw [h]
theorem endF_cons {st pl : Int} {t : Tp} {s : Int} {r : List Int} (h : spots t = s :: r) : endF st pl t = (st, pl, s, (List.range ((r.getLastD s) + 1 - s).toNat).map fun i => look t (s + (i : Nat))) := by unfold endF; rw [h]
/-- a tape all of whose symbols lie within B .. B + 1000000 -/
structure Small (t : Tp) (B : Int) : Prop where
  len : t.length ≤ 100000
  b0 : -(2 ^ 60) ≤ B
  b1 : B ≤ 2 ^ 60
  at_ : ∀ x, look t x ≠ 0 → B ≤ x ∧ x < B + 1000000
def sp_end : SpT := fun cs O R _ => ∃ k kd st pl t B, cs = [.o k] ∧ O[k]? = some (.lst [.d (.int st), .d (.int pl), .o kd]) ∧ O[kd]? = some (dctI t) ∧ kd ≠ k ∧ Small t B ∧ R (.d (cfgD (endF st pl t))) O
theorem keys_len {t : Tp} : ((tpC t).map fun p => keyD p.1).length = t.length := by unfold tpC; simp
theorem spots_len {t : Tp} : (spots t).length ≤ t.length := by
  unfold spots
  rw [isort_perm.length_eq]
  exact Nat.le_trans (List.length_filter_le _ _) (by simp)
theorem emp_map {l : List Int} (h : (!(!(l.map PyData.int).isEmpty)) = true) : l = [] := by
  cases l with
  | nil => rfl
  | cons a l => simp at h
theorem cons_map {l : List Int} (h : (!(!(l.map PyData.int).isEmpty)) = false) : ∃ s r, l = s :: r := by
  cases l with
  | nil => simp at h
  | cons a l => exact ⟨a, l, rfl⟩
def lookD (t : Tp) : PyData → PyData
  | .int x => .int (look t x)
  | _ => .none
theorem rng_mem {lo : Int} {n : Nat} {d : PyData} (h : d ∈ rng lo n) : ∃ i : Nat, i < n ∧ d = .int (lo + i) := by
  unfold rng at h
  obtain ⟨i, hi, rfl⟩ := List.mem_map.mp h
  exact ⟨i, List.mem_range.mp hi, rfl⟩
theorem rng_look {t : Tp} {lo : Int} {n : Nat} : (rng lo n).map (lookD t) = ((List.range n).map fun i => look t (lo + (i : Nat))).map PyData.int := by
  unfold rng
  rw [List.map_map, List.map_map]
  rfl
end T

set_option Elab.async false
set_option linter.all false
set_option maxRecDepth 100000
set_option maxHeartbeats 1000000
namespace T
open PySem PySem.Spec PyProof.Rows L2
/-- a configuration as drawn: small, for a machine of S states and Y symbols -/
structure OkCfg (S Y : Int) (c : Cfg) : Prop where
  s0 : -1 ≤ c.1
  s1 : c.1 < S
  p0 : -1000 ≤ c.2.1
  p1 : c.2.1 ≤ 1000
  f0 : -1000 ≤ c.2.2.1
  f1 : c.2.2.1 ≤ 1000
  len : c.2.2.2.length ≤ 1000
  sym : ∀ x ∈ c.2.2.2, 0 ≤ x ∧ x < Y
  nil : c.2.2.2 = [] → c.2.2.1 = 0
  hd : ∀ x, c.2.2.2.head? = some x → x ≠ 0
  lst : ∀ x, c.2.2.2.getLast? = some x → x ≠ 0
theorem ok_endF {S Y st pl B : Int} {n : Nat} {t : Tp} (h0 : -1 ≤ st) (h1 : st < S) (p0 : -1000 ≤ pl) (p1 : pl ≤ 1000) (b0 : -900 ≤ B) (b1 : B ≤ 900) (hn : n ≤ 90) (ht : ∀ x, look t x ≠ 0 → B ≤ x ∧ x < B + n) (hs : ∀ x, 0 ≤ look t x ∧ look t x < Y) : OkCfg S Y (endF st pl t) := by
  cases e : spots t with
  | nil =>
    rw [endF_nil e]
    exact ⟨h0, h1, p0, p1, (by decide : (-1000 : Int) ≤ 0), (by decide : (0 : Int) ≤ 1000), (by decide : 0 ≤ 1000), fun x hx => (by cases hx), fun _ => rfl, fun x hx => (by cases hx), fun x hx => (by cases hx)⟩
  | cons s r =>
    rw [endF_cons e]
    obtain ⟨e1, e2, e3, e4⟩ := spots_ends e
    have q1 := ht _ e1
    have q2 := ht _ e2
    have hm : ((r.getLastD s) + 1 - s).toNat = (r.getLastD s - s).toNat + 1 := by omega
    refine ⟨h0, h1, p0, p1, by show _ ≤ s; omega, by show s ≤ _; omega, ?_, ?_, ?_, ?_, ?_⟩
    · show ((List.range _).map _).length ≤ _
      rw [List.length_map, List.length_range]; omega
    · intro x hx
      obtain ⟨i, _, rfl⟩ := List.mem_map.mp hx
      exact hs _
    · intro z
      have z : (List.range ((r.getLastD s) + 1 - s).toNat).map (fun i => look t (s + (i : Nat))) = [] := z
      rw [hm, List.range_succ] at z
      simp at z
    · intro x hx
      have hx : ((List.range ((r.getLastD s) + 1 - s).toNat).map (fun i => look t (s + (i : Nat)))).head? = some x := hx
      rw [hm, List.range_succ_eq_map] at hx
      simp at hx
      rw [← hx]
      exact e1
    · intro x hx
      have hx : ((List.range ((r.getLastD s) + 1 - s).toNat).map (fun i => look t (s + (i : Nat)))).getLast? = some x := hx
      rw [hm, List.range_succ, List.map_append, List.map_cons, List.map_nil, List.getLast?_append] at hx
      have hx : look t (s + ((r.getLastD s - s).toNat : Nat)) = x := by simpa only [List.getLast?_singleton, Option.some_or, Option.some.injEq] using hx
      rw [← hx]
      have : s + ((r.getLastD s - s).toNat : Int) = r.getLastD s := by omega
      rw [this]
      exact e2
/-- what a tape is behind i cells from B on -/
structure TpOk (t : Tp) (B Y : Int) (i : Nat) : Prop where
  len : t.length ≤ i
  at_ : ∀ x, look t x ≠ 0 → B ≤ x ∧ x < B + i
  sym : ∀ x, 0 ≤ look t x ∧ look t x < Y
theorem tpOk_nil {B Y : Int} (h : 0 < Y) : TpOk [] B Y 0 := ⟨Nat.le_refl _, fun x hx => absurd rfl hx, fun x => ⟨Int.le_refl _, h⟩⟩
theorem putI_len {t : Tp} {x v : Int} : (putI t x v).length ≤ t.length + 1 := by
  unfold putI
  split
  · simp
  · simp
theorem tpOk_put {t : Tp} {B Y v : Int} {i : Nat} (h : TpOk t B Y i) (h0 : 0 ≤ v) (h1 : v < Y) : TpOk (putI t (B + i) v) B Y (i + 1) := by
  refine ⟨Nat.le_trans putI_len (Nat.succ_le_succ h.len), fun x hx => ?_, fun x => ?_⟩
  · rw [look_put] at hx
    by_cases e : x = B + i
    · subst e; omega
    · rw [if_neg e] at hx
      have := h.at_ x hx
      omega
  · rw [look_put]
    by_cases e : x = B + i
    · rw [if_pos e]; exact ⟨h0, h1⟩
    · rw [if_neg e]; exact h.sym x
theorem TpOk.small {t : Tp} {B Y : Int} {i : Nat} (h : TpOk t B Y i) (b0 : -900 ≤ B) (b1 : B ≤ 900) (hn : i ≤ 90) : Small t B := ⟨Nat.le_trans h.len (by omega), by omega, by omega, fun x hx => by have := h.at_ x hx; omega⟩
def sp_tape : SpT := fun cs O R _ => ∃ k u m S Y, cs = [.o k, .d (machD m)] ∧ O[k]? = some u ∧ IsStrm u ∧ OkMach m S Y ∧ ∀ c u', OkCfg S Y c → IsStrm u' → R (.d (cfgD c)) (O.set k u')
theorem tpC_len {t : Tp} : (tpC t).length = t.length := by unfold tpC; simp
end T

set_option Elab.async false
set_option linter.all false
set_option maxRecDepth 100000
set_option maxHeartbeats 1000000
namespace K
open PySem PySem.Spec PyProof.Rows L2 T
def within : PyData → Int → Int → Bool
  | .int i, a, b => decide (a ≤ i) && decide (i ≤ b)
  | _, _, _ => false
def tupleOf : PyData → Int → Int → Bool
  | .tuple ds, a, b => decide (a ≤ (ds.length : Int)) && decide ((ds.length : Int) ≤ b)
  | _, _, _ => false
def itemsT : PyData → List PyData
  | .tuple ds => ds
  | _ => []
theorem tupleOf_seq {d : PyData} {a b : Int} (h : tupleOf d a b = true) : IsSeq (.d d) (itemsT d) := by
  cases d with
  | tuple ds => exact .inr rfl
  | _ => cases h
theorem tupleOf_len {d : PyData} {a b : Int} (h : tupleOf d a b = true) : a ≤ ((itemsT d).length : Int) ∧ ((itemsT d).length : Int) ≤ b := by
  cases d with
  | tuple ds => simpa [tupleOf, itemsT] using h
  | _ => cases h
theorem tupleOf_sz {d : PyData} {a b : Int} (h : tupleOf d a b = true) (hb : b ≤ 1000) : (itemsT d).length ≤ sizeLine := by
  have := (tupleOf_len h).2
  exact Nat.le_trans (m := 1000) (by omega) (by decide)
theorem tup3 {d : PyData} (h : (!tupleOf d 3 3) = false) : ∃ x y z, d = .tuple [x, y, z] := by
  cases d with
  | tuple ds =>
    have h : (decide ((3 : Int) ≤ (ds.length : Int)) && decide ((ds.length : Int) ≤ 3)) = true := by simpa [tupleOf] using h
    simp at h
    match ds, h with
    | [x, y, z], _ => exact ⟨x, y, z, rfl⟩
    | [], h => simp at h
    | [_], h => simp at h
    | [_, _], h => simp at h
    | _ :: _ :: _ :: _ :: r, h => simp at h; omega
  | _ => cases h
theorem tup1 {d : PyData} {a b : Int} (h : (!tupleOf d a b) = false) (ha : 1 ≤ a) : ∃ x ds, d = .tuple (x :: ds) := by
  have h : tupleOf d a b = true := by simpa using h
  have l := tupleOf_len h
  cases d with
  | tuple ds =>
    cases ds with
    | nil => exact absurd l.1 (by show ¬ a ≤ ((0 : Nat) : Int); omega)
    | cons x ds => exact ⟨x, ds, rfl⟩
  | _ => cases h
theorem within_shaped {d : PyData} {a b : Int} (h : within d a b = true) : SeqAt.shaped d = true := by
  cases d with
  | int i => rfl
  | _ => cases h
theorem within_shaped' {d : PyData} {a b : Int} (h : (!within d a b) = false) : SeqAt.shaped d = true := within_shaped (a := a) (b := b) (by simpa using h)
def isRule (d : PyData) (s y : Int) : Bool := match d with
  | .tuple [w, m, t] => if (!within m (-1) 1 || PyData.eqv m (.int 0)) then false else within w 0 (y - 1) && within t (-1) (s - 1)
  | _ => false
def isRow (d : PyData) (s y : Int) : Bool := tupleOf d y y && (itemsT d).all fun d => isRule d s y
def isMachine (d : PyData) : Bool := match d with
  | .tuple (.tuple rs :: ds) => tupleOf (.tuple (.tuple rs :: ds)) 1 4 && tupleOf (.tuple rs) 2 4 && (PyData.tuple rs :: ds).all fun d => isRow d ((ds.length + 1 : Nat) : Int) (rs.length : Int)
  | _ => false
theorem isRule_f {d : PyData} {s y : Int} (h : (!tupleOf d 3 3) = true) : isRule d s y = false := by
  unfold isRule
  split
  · simp [tupleOf] at h
  · rfl
theorem isMach_f1 {d : PyData} (h : (!tupleOf d 1 4) = true) : isMachine d = false := by
  unfold isMachine
  split
  · rename_i rs ds
    have h : tupleOf (.tuple (.tuple rs :: ds)) 1 4 = false := by simpa using h
    rw [h]; rfl
  · rfl
theorem isMach_f2 {d0 : PyData} {ds : List PyData} (h : (!tupleOf d0 2 4) = true) : isMachine (.tuple (d0 :: ds)) = false := by
  cases d0 with
  | tuple rs =>
    have h : tupleOf (.tuple rs) 2 4 = false := by simpa using h
    show (tupleOf (.tuple (.tuple rs :: ds)) 1 4 && tupleOf (.tuple rs) 2 4 && _) = false
    rw [h, Bool.and_false, Bool.false_and]
  | _ => rfl
theorem isMach_t {rs ds : List PyData} (h1 : (!tupleOf (.tuple (.tuple rs :: ds)) 1 4) = false) (h2 : (!tupleOf (.tuple rs) 2 4) = false) :
    isMachine (.tuple (.tuple rs :: ds)) = (PyData.tuple rs :: ds).all fun d => isRow d ((ds.length + 1 : Nat) : Int) (rs.length : Int) := by
  have h1 : tupleOf (.tuple (.tuple rs :: ds)) 1 4 = true := by simpa using h1
  have h2 : tupleOf (.tuple rs) 2 4 = true := by simpa using h2
  show (tupleOf (.tuple (.tuple rs :: ds)) 1 4 && tupleOf (.tuple rs) 2 4 && _) = _
  rw [h1, h2, Bool.true_and, Bool.true_and]
theorem isRule_ok {S Y : Int} {r : Rule} (h : OkRule S Y r) : isRule (ruleD r) S Y = true := by
  obtain ⟨w, m, t⟩ := r
  obtain ⟨h1, h2, h3, h4, h5⟩ := h
  simp only at h1 h2 h3 h4 h5
  show (if (!within (.int m) (-1) 1 || PyData.eqv (.int m) (.int 0)) = true then false else within (.int w) 0 (Y - 1) && within (.int t) (-1) (S - 1)) = true
  rw [if_neg]
  · simp [within]; omega
  · rcases h3 with rfl | rfl <;> decide
theorem isMach_ok {m : Mach} {S Y : Int} (h : OkMach m S Y) : isMachine (machD m) = true := by
  cases m with
  | nil =>
    have := h.len; have := h.s1; simp at *; omega
  | cons r m =>
    have e1 : (!tupleOf (machD (r :: m)) 1 4) = false := by
      have := h.len; have := h.s1; have := h.s4
      simp [tupleOf, machD] at *; omega
    have hr := h.row r (by simp)
    have e2 : (!tupleOf (.tuple (r.map ruleD)) 2 4) = false := by
      have := h.y2; have := h.y4
      simp [tupleOf]; omega
    have e := isMach_t (rs := r.map ruleD) (ds := m.map rowD) e1 e2
    show isMachine (.tuple (.tuple (r.map ruleD) :: m.map rowD)) = true
    rw [e]
    show ((r :: m).map rowD).all _ = true
    rw [List.all_eq_true]
    intro d hd
    obtain ⟨q, hq, rfl⟩ := List.mem_map.mp hd
    have hS : ((m.map rowD).length + 1 : Nat) = S := by have := h.len; simp at *; omega
    have hY : ((r.map ruleD).length : Int) = Y := by simp; exact hr
    rw [show (((m.map rowD).length + 1 : Nat) : Int) = S from hS, hY]
    unfold isRow
    rw [Bool.and_eq_true]
    refine ⟨?_, ?_⟩
    · have := h.row q hq
      simp [tupleOf, rowD]; omega
    · show (q.map ruleD).all _ = true
      rw [List.all_eq_true]
      intro d hd
      obtain ⟨t, ht, rfl⟩ := List.mem_map.mp hd
      exact isRule_ok (h.rul q hq t ht)
/-- what is a machine is the data of one -/
theorem isRule_inv {d : PyData} {S Y : Int} (h : isRule d S Y = true) : ∃ r, d = ruleD r ∧ OkRule S Y r := by
  unfold isRule at h
  split at h
  · rename_i w m t
    split at h
    · cases h
    · rename_i hm
      rw [Bool.and_eq_true] at h
      obtain ⟨hw, ht⟩ := h
      have hm' : within m (-1) 1 = true ∧ PyData.eqv m (.int 0) = false := by
        cases h1 : within m (-1) 1 <;> cases h2 : PyData.eqv m (.int 0) <;> simp [h1, h2] at hm ⊢
      obtain ⟨hm1, hm2⟩ := hm'
      cases m with
      | int m =>
        cases w with
        | int w =>
          cases t with
          | int t =>
            simp [within] at hw ht hm1
            have h0 : m ≠ 0 := fun e => by subst e; revert hm2; decide
            exact ⟨(w, m, t), rfl, hw.1, by show w < Y; omega, by show m = -1 ∨ m = 1; omega, ht.1, by show t < S; omega⟩
          | _ => cases ht
        | _ => cases hw
      | _ => cases hm1
  · cases h
theorem rows_inv {S Y : Int} : ∀ {ds : List PyData}, (∀ d ∈ ds, isRule d S Y = true) → ∃ r : List Rule, ds = r.map ruleD ∧ ∀ t ∈ r, OkRule S Y t
  | [], _ => ⟨[], rfl, fun t ht => by cases ht⟩
  | d :: ds, h => by
    obtain ⟨r, e, hr⟩ := isRule_inv (h d (by simp))
    obtain ⟨rs, es, hrs⟩ := rows_inv (ds := ds) fun d hd => h d (List.mem_cons_of_mem _ hd)
    refine ⟨r :: rs, by rw [e, es]; rfl, fun t ht => ?_⟩
    rcases List.mem_cons.mp ht with z | z
    · subst z; exact hr
    · exact hrs t z
theorem mach_inv0 {S Y : Int} : ∀ {ds : List PyData}, (∀ d ∈ ds, isRow d S Y = true) → ∃ m : Mach, ds = m.map rowD ∧ (∀ r ∈ m, (r.length : Int) = Y) ∧ ∀ r ∈ m, ∀ t ∈ r, OkRule S Y t
  | [], _ => ⟨[], rfl, fun t ht => (by cases ht), fun t ht => (by cases ht)⟩
  | d :: ds, h => by
    have h0 := h d (by simp)
    unfold isRow at h0
    rw [Bool.and_eq_true] at h0
    obtain ⟨h1, h2⟩ := h0
    rw [List.all_eq_true] at h2
    obtain ⟨r, e, hr⟩ := rows_inv h2
    obtain ⟨m, es, hm1, hm2⟩ := mach_inv0 (ds := ds) fun d hd => h d (List.mem_cons_of_mem _ hd)
    have hl := tupleOf_len h1
    have ed : d = rowD r := by
      cases d with
      | tuple xs => exact congrArg PyData.tuple e
      | _ => cases h1
    have hlen : (r.length : Int) = Y := by rw [e, List.length_map] at hl; omega
    refine ⟨r :: m, by rw [ed, es]; rfl, fun t ht => ?_, fun t ht => ?_⟩
    · rcases List.mem_cons.mp ht with z | z
      · subst z; exact hlen
      · exact hm1 t z
    · rcases List.mem_cons.mp ht with z | z
      · subst z; exact hr
      · exact hm2 t z
theorem mach_inv {d : PyData} (h : isMachine d = true) : ∃ m S Y, d = machD m ∧ OkMach m S Y := by
  unfold isMachine at h
  split at h
  · rename_i rs ds
    rw [Bool.and_eq_true, Bool.and_eq_true] at h
    obtain ⟨⟨h1, h2⟩, h3⟩ := h
    rw [List.all_eq_true] at h3
    obtain ⟨m, e, hm1, hm2⟩ := mach_inv0 h3
    have l1 := tupleOf_len h1
    have l2 := tupleOf_len h2
    have hlen := congrArg List.length e
    simp only [itemsT, List.length_cons, List.length_map] at l1 l2 hlen
    exact ⟨m, ((ds.length + 1 : Nat) : Int), (rs.length : Int), by rw [e]; rfl, by omega, by omega, by omega, l2.1, l2.2, hm1, hm2⟩
  · cases h
/-- the law's own words -/
def lawRule (d : PyData) (s y : Int) : Bool := match d with
  | .tuple [w, m, t] => if (!within w 0 (y - 1) || !within t (-1) (s - 1)) then false else within m (-1) 1 && !PyData.eqv m (.int 0)
  | _ => false
theorem lawRule_eq {d : PyData} {s y : Int} : lawRule d s y = isRule d s y := by
  unfold lawRule isRule
  split
  · rename_i w m t
    cases within w 0 (y - 1) <;> cases within t (-1) (s - 1) <;> cases within m (-1) 1 <;> cases PyData.eqv m (.int 0) <;> rfl
  · rfl
theorem tup3L {ds : List PyData} (h : (!isTup (.tuple ds) || !decide ((ds.length : Int) = 3)) = false) : ∃ x y z, ds = [x, y, z] := by
  simp [isTup] at h
  match ds, h with
  | [x, y, z], _ => exact ⟨x, y, z, rfl⟩
  | [], h => simp at h
  | [_], h => simp at h
  | [_, _], h => simp at h
  | _ :: _ :: _ :: _ :: r, h => simp at h; omega
theorem lawRule_f {ds : List PyData} {s y : Int} (h : (!isTup (.tuple ds) || !decide ((ds.length : Int) = 3)) = true) : lawRule (.tuple ds) s y = false := by
  unfold lawRule
  split
  · rename_i e
    cases e
    simp [isTup] at h
  · rfl
theorem isTup_inv {d : PyData} (h : isTup d = true) : ∃ rs, d = .tuple rs := by
  cases d with
  | tuple rs => exact ⟨rs, rfl⟩
  | _ => cases h
/-- a row as the law asks of it, next to the row r0 in front -/
def rowOk (n : Nat) (r0 r : PyData) : Bool := tupleOf r 2 4 && decide ((itemsT r).length = (itemsT r0).length) && (itemsT r).all fun d => lawRule d (n : Int) ((itemsT r).length : Int)
theorem due_eq {vs : List PyData} {r0 : PyData} (h0 : vs.head? = some r0) (h1 : (1 : Int) ≤ vs.length ∧ (vs.length : Int) ≤ 4) : isMachine (.tuple vs) = vs.all fun r => rowOk vs.length r0 r := by
  cases vs with
  | nil => cases h0
  | cons r ds =>
    cases h0
    cases r0 with
    | tuple rs =>
      have e1 : tupleOf (.tuple (.tuple rs :: ds)) 1 4 = true := by simp [tupleOf]; simp at h1; omega
      show (tupleOf (.tuple (.tuple rs :: ds)) 1 4 && tupleOf (.tuple rs) 2 4 && (PyData.tuple rs :: ds).all fun d => isRow d ((ds.length + 1 : Nat) : Int) (rs.length : Int)) = _
      rw [e1, Bool.true_and]
      cases e2 : tupleOf (.tuple rs) 2 4 with
      | false =>
        rw [Bool.false_and, List.all_cons]
        unfold rowOk
        rw [e2]
        rfl
      | true =>
        rw [Bool.true_and]
        refine List.all_congr rfl fun d => ?_
        have l2 := tupleOf_len e2
        unfold isRow rowOk
        cases d with
        | tuple xs =>
          have l2 : (2 : Int) ≤ (rs.length : Int) ∧ (rs.length : Int) ≤ 4 := l2
          show (tupleOf (.tuple xs) (rs.length : Int) (rs.length : Int) && xs.all fun d => isRule d ((ds.length + 1 : Nat) : Int) (rs.length : Int)) = (tupleOf (.tuple xs) 2 4 && decide (xs.length = rs.length) && xs.all fun d => lawRule d ((ds.length + 1 : Nat) : Int) (xs.length : Int))
          by_cases hx : xs.length = rs.length
          · have a1 : tupleOf (.tuple xs) (rs.length : Int) (rs.length : Int) = true := by simp [tupleOf, hx]
            have a2 : tupleOf (.tuple xs) 2 4 = true := by simp [tupleOf]; omega
            rw [a1, a2, decide_eq_true hx, hx]
            simp only [Bool.true_and]
            refine List.all_congr rfl fun t => ?_
            rw [lawRule_eq]
          · have a1 : tupleOf (.tuple xs) (rs.length : Int) (rs.length : Int) = false := by simp [tupleOf]; omega
            rw [a1, decide_eq_false hx]
            simp
        | _ => rfl
    | _ =>
      show false = _
      rw [List.all_cons]
      rfl
theorem due_f {vs : List PyData} {r0 r : PyData} (h0 : vs.head? = some r0) (h1 : (1 : Int) ≤ vs.length ∧ (vs.length : Int) ≤ 4) (hr : r ∈ vs) (h : rowOk vs.length r0 r = false) : isMachine (.tuple vs) = false := by
  rw [due_eq h0 h1]
  cases e : vs.all fun r => rowOk vs.length r0 r with
  | false => rfl
  | true =>
    rw [List.all_eq_true] at e
    rw [e r hr] at h
    cases h
theorem due_t {vs : List PyData} {r0 : PyData} (h0 : vs.head? = some r0) (h1 : (1 : Int) ≤ vs.length ∧ (vs.length : Int) ≤ 4) (h : ∀ r ∈ vs, rowOk vs.length r0 r = true) : isMachine (.tuple vs) = true := by
  rw [due_eq h0 h1, List.all_eq_true]
  exact h
theorem due_no {vs : List PyData} (h : (!isTup (.tuple vs) || !(decide ((1 : Int) ≤ (vs.length : Int)) && decide ((vs.length : Int) ≤ 4))) = true) : isMachine (.tuple vs) = false := isMach_f1 (by simpa [isTup, tupleOf] using h)
theorem head_of {vs : List PyData} (h : (1 : Int) ≤ vs.length) : ∃ v, vs.head? = some v := by
  cases vs with
  | nil => simp at h
  | cons v vs => exact ⟨v, rfl⟩
theorem rowOk_n {n : Nat} {r0 r : PyData} (h : ¬ isTup r = true) : rowOk n r0 r = false := by
  cases r with
  | tuple rs => exact absurd rfl h
  | _ => rfl
/-- the row in front is a tuple where one is asked for its length -/
theorem row0 {vs rs : List PyData} {v0 : PyData} {i : Nat} (h0 : vs.head? = some v0) (hd : vs[i]? = some (.tuple rs)) (hall : ∀ r ∈ vs.take i, rowOk vs.length v0 r = true) : ∃ r0, vs[(0 : Int).toNat]? = some (.tuple r0) := by
  cases vs with
  | nil => cases h0
  | cons v vs =>
    cases h0
    cases i with
    | zero => exact ⟨rs, hd⟩
    | succ i =>
      have q := hall v0 (by simp)
      by_cases ht : isTup v0 = true
      · obtain ⟨r0, rfl⟩ := isTup_inv ht
        exact ⟨r0, rfl⟩
      · rw [rowOk_n ht] at q; cases q
theorem rowOk_1 {n : Nat} {vs rs r0 : List PyData} {v0 : PyData} (h0 : vs.head? = some v0) (h1 : vs[(0 : Int).toNat]? = some (.tuple r0)) (h : (!isTup (.tuple rs) || (!(decide ((2 : Int) ≤ (rs.length : Int)) && decide ((rs.length : Int) ≤ 4)) || !decide ((rs.length : Int) = (r0.length : Int)))) = true) : rowOk n v0 (.tuple rs) = false := by
  cases vs with
  | nil => cases h0
  | cons v vs =>
    cases h0
    have e : v0 = .tuple r0 := Option.some.inj h1
    subst e
    show (tupleOf (.tuple rs) 2 4 && decide (rs.length = r0.length) && _) = false
    have q : (tupleOf (.tuple rs) 2 4 && decide (rs.length = r0.length)) = false := by
      cases e : (tupleOf (.tuple rs) 2 4 && decide (rs.length = r0.length)) with
      | false => rfl
      | true =>
        simp [isTup, tupleOf] at h e
        omega
    rw [q, Bool.false_and]
theorem rowOk_2 {n : Nat} {rs : List PyData} {v0 : PyData} (h : (rs.all fun d => lawRule d (n : Int) (rs.length : Int)) = false) : rowOk n v0 (.tuple rs) = false := by
  show (_ && rs.all fun d => lawRule d (n : Int) (rs.length : Int)) = false
  rw [h, Bool.and_false]
theorem due_snoc {vs rs r0 : List PyData} {v0 : PyData} {i : Nat} (h0 : vs.head? = some v0) (h1 : vs[(0 : Int).toNat]? = some (.tuple r0)) (hd : vs[i]? = some (.tuple rs)) (hall : ∀ r ∈ vs.take i, rowOk vs.length v0 r = true)
    (h2 : (!isTup (.tuple rs) || (!(decide ((2 : Int) ≤ (rs.length : Int)) && decide ((rs.length : Int) ≤ 4)) || !decide ((rs.length : Int) = (r0.length : Int)))) = false) (h3 : (!(rs.all fun d => lawRule d (vs.length : Int) (rs.length : Int))) = false) : ∀ r ∈ vs.take (i + 1), rowOk vs.length v0 r = true := by
  rw [take_succ' hd]
  refine ok_snoc hall ?_
  cases vs with
  | nil => cases h0
  | cons v vs =>
    cases h0
    have e : v0 = .tuple r0 := Option.some.inj h1
    subst e
    show (tupleOf (.tuple rs) 2 4 && decide (rs.length = r0.length) && (rs.all fun d => lawRule d (((PyData.tuple r0) :: vs).length : Int) (rs.length : Int))) = true
    rw [Bool.not_eq_false'] at h3
    rw [h3, Bool.and_true]
    simp [isTup, tupleOf] at h2 ⊢
    omega
theorem menu4 {v : Int} {d : PyData} (h : ([.int 1, .int 5, .int 2, .int 3] : List PyData)[v.toNat]? = some d) : ∃ z, d = .int z ∧ 1 ≤ z ∧ z ≤ 5 := by
  match hv : v.toNat, h with
  | 0, h => exact ⟨1, (Option.some.inj h).symm, by decide, by decide⟩
  | 1, h => exact ⟨5, (Option.some.inj h).symm, by decide, by decide⟩
  | 2, h => exact ⟨2, (Option.some.inj h).symm, by decide, by decide⟩
  | 3, h => exact ⟨3, (Option.some.inj h).symm, by decide, by decide⟩
  | n + 4, h => simp at h
theorem mrow {m : Mach} {S Y i : Int} (h : OkMach m S Y) (h0 : 0 ≤ i) (h1 : i < S) : ∃ r, (m.map rowD)[i.toNat]? = some (rowD r) ∧ (r.length : Int) = Y := by
  have hl := h.len
  have hi : i.toNat < m.length := by omega
  exact ⟨m[i.toNat], by rw [List.getElem?_map, List.getElem?_eq_getElem hi]; rfl, h.row _ (List.getElem_mem hi)⟩
theorem rrule {r : List Rule} {Y i : Int} (h : (r.length : Int) = Y) (h0 : 0 ≤ i) (h1 : i < Y) : ∃ t, (r.map ruleD)[i.toNat]? = some (ruleD t) := by
  have hi : i.toNat < r.length := by omega
  exact ⟨r[i.toNat], by rw [List.getElem?_map, List.getElem?_eq_getElem hi]; rfl⟩
end K

set_option Elab.async false
set_option linter.all false
set_option maxRecDepth 100000
set_option maxHeartbeats 1000000
namespace T
open PySem PySem.Spec PyProof.Rows L2
section
variable {Y : Fam} {e a b c iter tg elt cond : Expr} {es : List Expr} {st : Stmt} {sts : List Stmt} {Γ Γ' : Gam} {O O' : Sto} {R : C → Sto → Prop} {RT : Bool → Sto → Prop} {E : En} {pos p : Pos} {x : Str} {K : PySem.W.Frag}
theorem xe_any (hc : Y.cl = true) (hm : Y.mg "any" = none) (h : XA Y (e :: es) Γ O fun cs O1 => Wc Y.K (rAny Y.K) cs O1 R) (hg : ∀ i, Gl (Y.X i) "any" := by exact fun _ => rfl)
    (he : ∀ i, starEach (e :: es) (Y.X i).env = (false, eval e (Y.X i).env) :: starEach es (Y.X i).env := by exact fun _ => rfl) (hpl : ∀ i, (backTo pos (starEach es (Y.X i).env)).any (·.1) = false := by exact fun _ => rfl) : XE Y (.Call (.Name "any" p) (e :: es) [] pos) Γ O R :=
  xe_blt (fun i => by rw [← Y.hK i]; exact cr_any (Y.calm hc i)) hm (by decide +kernel) h hg (by decide) (by decide) he hpl
theorem bools_v {F : Hp} : ∀ {bs : List Bool} {xs : List V}, DpAll K F xs (bs.map PyData.bool) → xs = bs.map V.bl
  | [], _, h => by cases h; rfl
  | n :: ns, _, h => by
    cases h with
    | cons r t => cases r; rw [bools_v t]; rfl
theorem wc_anyF {ds : List PyData} {f : PyData → Bool} (r : R (.d (.bool (ds.any f))) O) : Wc K (rAny K) [.d (.list (ds.map fun d => .bool (f d)))] O R := fun F as H xs Q S rx t => by
  cases rx with
  | cons r1 r0 =>
    cases r0
    cases r1 with
    | @lst a ys _ hs ha =>
      have e : (ds.map fun d => PyData.bool (f d)) = (ds.map f).map PyData.bool := by simp
      rw [e] at ha
      have e2 := bools_v ha
      subst e2
      refine ⟨a, ds.map f, rfl, S.ex.seq hs, t.go S (show CR K F as (.d (.bool ((ds.map f).any id))) _ from .bl _) ?_⟩
      have e3 : (ds.map f).any id = ds.any f := by rw [List.any_map]; rfl
      rw [e3]
      exact r
end
/-! ### (x,) * n for n up to 20000 -/
section
variable {X : Cx}
def rRepB (K : PySem.W.Frag) : R2 := fun x y H Q => ∃ l k v, x = .ref l ∧ y = .int k ∧ SqT K H l [v] ∧ 2 ≤ k ∧ k ≤ 20000 ∧ ∀ p, H p = none → Q (.ref p) (upd H p (.tup (List.replicate k.toNat v)))
theorem flat1 {α : Type} {v : α} : ∀ n : Nat, (List.replicate n [v]).flatten = List.replicate n v
  | 0 => rfl
  | n + 1 => by rw [List.replicate_succ, List.flatten_cons, flat1 n]; rfl
theorem op_repB : OpR X (binaryOp .Mult) (rRepB X.K) := by
  intro pp st0 ss HH xx yy vv uu QQ II rxx ryy hh
  obtain ⟨ll, kk, v1, rfl, rfl, hT, g1, g2, qq⟩ := hh
  cases rxx
  obtain ⟨tk, rfl⟩ := ryy
  obtain ⟨its, rv, ⟨⟨cc, d1, dat, slo⟩, hob, hcl, nn, hda⟩, _⟩ := II.tuple hT
  simp only at hcl hda
  subst hcl; subst hda
  obtain ⟨w1, rfl, rw1⟩ := rv.one
  have one : ([w1] : List Value).toArray.size = 1 := rfl
  have szk : (List.replicate kk.toNat w1).length = kk.toNat := List.length_replicate
  have lim : kk.toNat ≤ sizeLine := by rw [sizeLine_eq]; omega
  have a0 : (decide (kk < -(2 ^ 63)) || decide (kk ≥ 2 ^ 63)) = false := by
    simp only [Bool.or_eq_false_iff, decide_eq_false_iff_not]; omega
  have a1 : ((([w1] : List Value).toArray).isEmpty || kk == 1) = false := by
    have : (kk == 1) = false := beq_eq_false_iff_ne.mpr (by omega)
    rw [this]; rfl
  have a2 : (decide (kk ≤ 0) || (([w1] : List Value).toArray).isEmpty) = false := by
    have : decide (kk ≤ 0) = false := decide_eq_false (by omega)
    rw [this]; rfl
  have a3 : Builtin.Tuple.tupleTooMany (((([w1] : List Value).toArray.size : Nat) : Int) * kk) = false := by
    unfold Builtin.Tuple.tupleTooMany
    rw [sizeLine_eq, one]
    exact decide_eq_false (by omega)
  have fl : (List.foldl (fun x1 x2 => x1 ++ x2) #[] (List.replicate kk.toNat ([w1] : List Value).toArray)) = (List.replicate kk.toNat w1).toArray := by rw [size_rep, flat1]
  have a4 : (List.foldl (fun x1 x2 => x1 ++ x2) #[] (List.replicate kk.toNat ([w1] : List Value).toArray)).size ≤ sizeLine := by rw [fl, List.size_toArray, szk]; exact lim
  have a5 : ¬ ((([w1] : List Value).toArray.size : Nat) : Int) * kk > (2 ^ 63 - 1) / 8 := by rw [one]; omega
  have fin : EP X pp ss QQ (Value.ref st0.heap.objs.size) { st0 with heap := st0.heap.push { cls := Value.type "tuple", data := Data.seq (List.foldl (fun x1 x2 => x1 ++ x2) #[] (List.replicate kk.toNat ([w1] : List Value).toArray)) }, toks := st0.toks } := by
    rw [fl]
    have vr : Vals (List.replicate kk.toNat v1) (List.replicate kk.toNat w1) := by
      generalize kk.toNat = m
      induction m with
      | zero => exact .nil
      | succ m ih => exact .cons rw1 ih
    exact ⟨.ref _, _, II.laid (t' := st0.toks) (o := .tup (List.replicate kk.toNat v1)) (fun _ _ q => Heap.get?_push_of_some _ q) (Nat.le_refl _) ⟨by rw [List.length_replicate]; exact lim, _, vr, IsTup.new _ _⟩, rfl, qq _ (II.hok.fresh (Nat.le_refl _))⟩
  exact wpAny_binaryOp_repeat_ref (T := "tuple") (U := "int") (by decide) ⟨_, hob, rfl⟩ (fun s' => typeIs_int s' kk tk) noFill_tuple_mul F.fills_int_mul F.slot_int_rmul repeat_tuple F.slot_int_index.lookup
    (call_meets F.slot_int_rmul (typeIs_int st0 kk tk) F.entry_int_rmul (F.args_int_rmul_2 _ _) (int_rmul_tuple kk tk ll _ nn d1 slo) ⟨hob, rfl, ⟨_, hob, rfl⟩, call_meets F.slot_tuple_mul ⟨_, hob, rfl⟩ F.entry_tuple_mul (F.args_tuple_mul_2 _ _) (tuple_mulW ll _ nn d1 slo kk tk a0 a1 a2 a5 a3 a4) ⟨hob, fin⟩⟩)
end
section
variable {Y : Fam} {e a b : Expr} {Γ : Gam} {O : Sto} {R : C → Sto → Prop} {pos : Pos} {K : PySem.W.Frag}
theorem xe_mulB (h : XE Y a Γ O fun c1 O1 => XE Y b Γ O1 fun c2 O2 => W2 Y.K (rRepB Y.K) c1 c2 O2 R) : XE Y (.BinOp a .Mult b pos) Γ O R := xe_bin (fun i => by rw [← Y.hK i]; exact op_repB) h
theorem w2_repB {d : PyData} {k : Int} (h1 : 2 ≤ k) (h2 : k ≤ 20000) (r : R (.d (.tuple (List.replicate k.toNat d))) O) : W2 K (rRepB K) (.d (.tuple [d])) (.d (.int k)) O R := fun F as H x y Q S rx ry t => by
  cases ry
  cases rx with
  | @tup a xs _ h hd =>
    cases hd with
    | @cons v xs _ _ r1 r0 =>
      cases r0
      refine ⟨a, k, v, rfl, rfl, same_t S.ex h, h1, h2, fun p hp => ?_⟩
      obtain ⟨S2, g2⟩ := S.froze (o := .tup (List.replicate k.toNat v)) hp
      exact t _ _ (.d (.tuple _)) _ _ _ g2 S2 (.tup (.inl (.inl upd_same)) (dp_sameAll g2.fr _ _ (dpall_rep r1 _))) r
end
end T
namespace K
open PySem PySem.Spec PyProof.Rows L2 T
def wholeI : PyData → Bool
  | .int _ => true
  | _ => false
def valI : PyData → Int
  | .int i => i
  | _ => 0
def neZ (d : PyData) : Bool := !decide (valI d = 0)
def endsOk (cs : List PyData) (f : Int) : Bool := match cs with
  | [] => decide (f = 0)
  | c :: r => neZ c && neZ (r.getLastD c)
def areCells (d : PyData) (f y : Int) : Bool := match d with
  | .tuple cs => decide (cs.length ≤ 10000) && (cs.all fun c => within c 0 (y - 1)) && endsOk cs f
  | _ => false
def isCfg (S Y : Int) (d : PyData) : Bool := match d with
  | .tuple [a, b, c, e] => within a (-1) (S - 1) && within b (-1000000000) 1000000000 && within c (-1000000000) 1000000000 && areCells e (valI c) Y
  | _ => false
theorem all_within {cs : List PyData} {a b : Int} (h : (cs.all fun c => within c a b) = true) : ∃ l : List Int, cs = l.map PyData.int ∧ ∀ x ∈ l, a ≤ x ∧ x ≤ b := by
  induction cs with
  | nil => exact ⟨[], rfl, fun x hx => (by cases hx)⟩
  | cons c cs ih =>
    rw [List.all_cons, Bool.and_eq_true] at h
    obtain ⟨l, rfl, hl⟩ := ih h.2
    cases c with
    | int i =>
      have hi : a ≤ i ∧ i ≤ b := by simpa [within] using h.1
      exact ⟨i :: l, rfl, fun x hx => by
        rcases List.mem_cons.mp hx with e | hx
        · subst e; exact hi
        · exact hl x hx⟩
    | _ => exact absurd h.1 (by simp [within])
theorem all_whole {cs : List PyData} (h : cs.all wholeI = true) : ∃ l : List Int, cs = l.map PyData.int := by
  induction cs with
  | nil => exact ⟨[], rfl⟩
  | cons c cs ih =>
    rw [List.all_cons, Bool.and_eq_true] at h
    obtain ⟨l, rfl⟩ := ih h.2
    cases c with
    | int i => exact ⟨i :: l, rfl⟩
    | _ => exact absurd h.1 (by simp [wholeI])
theorem are_f {cs : List PyData} {f y : Int} (h : ((!tupleOf (.tuple cs) 0 10000) || (!(cs.all fun c => within c 0 (y - 1)))) = true) : areCells (.tuple cs) f y = false := by
  have h : ¬ (tupleOf (.tuple cs) 0 10000 = true ∧ (cs.all fun c => within c 0 (y - 1)) = true) := by
    intro ⟨h1, h2⟩
    rw [h1, h2] at h
    exact absurd h (by decide)
  show (decide (cs.length ≤ 10000) && (cs.all fun c => within c 0 (y - 1)) && endsOk cs f) = false
  rw [Bool.eq_false_iff]
  intro q
  rw [Bool.and_eq_true, Bool.and_eq_true] at q
  exact h ⟨by simp only [tupleOf, Bool.and_eq_true, decide_eq_true_eq]; have := of_decide_eq_true q.1.1; omega, q.1.2⟩
theorem are_t {cs : List PyData} {f y : Int} (h : ((!tupleOf (.tuple cs) 0 10000) || (!(cs.all fun c => within c 0 (y - 1)))) = false) : areCells (.tuple cs) f y = endsOk cs f ∧ ∃ l : List Int, cs = l.map PyData.int := by
  rw [Bool.or_eq_false_iff] at h
  have h1 : tupleOf (.tuple cs) 0 10000 = true := by simpa using h.1
  have h2 : (cs.all fun c => within c 0 (y - 1)) = true := by simpa using h.2
  have h3 : cs.length ≤ 10000 := by have := (tupleOf_len h1).2; simp only [itemsT] at this; omega
  refine ⟨?_, ?_⟩
  · show (decide (cs.length ≤ 10000) && (cs.all fun c => within c 0 (y - 1)) && endsOk cs f) = endsOk cs f
    rw [decide_eq_true h3, h2]; rfl
  · obtain ⟨l, e, _⟩ := all_within h2
    exact ⟨l, e⟩
theorem neZ_last {x : Int} {r : List Int} : neZ ((r.map PyData.int).getLastD (.int x)) = !decide (r.getLastD x = 0) := by
  induction r generalizing x with
  | nil => rfl
  | cons b r ih => rw [List.map_cons, List.getLastD_cons, List.getLastD_cons]; exact ih
def sp_are_cells : SpT := fun cs O R _ => ∃ d f y, cs = [.d d, .d (.int f), .d (.int y)] ∧ R (.d (.bool (areCells d f y))) O
def sp_fits : SpT := fun cs O R _ => ∃ m S Y d, cs = [.d (machD m), .d d] ∧ OkMach m S Y ∧ R (.d (.bool (isCfg S Y d))) O
def sp_whole : SpT := fun cs O R _ => ∃ d, cs = [.d d] ∧ R (.d (.bool (wholeI d))) O
def cellsLen : PyData → Nat
  | .tuple [_, _, _, .tuple cs] => cs.length
  | _ => 0
def sp_due5 : SpT := fun cs O R _ => ∃ m S Y d, cs = [.d (machD m), .d d] ∧ OkMach m S Y ∧ cellsLen d ≤ 50000 ∧ R (.d (.bool (isCfg S Y d))) O
theorem tup4 {d : PyData} (h : (!tupleOf d 4 4) = false) : ∃ x y z u, d = .tuple [x, y, z, u] := by
  cases d with
  | tuple ds =>
    have h : (decide ((4 : Int) ≤ (ds.length : Int)) && decide ((ds.length : Int) ≤ 4)) = true := by simpa [tupleOf] using h
    simp at h
    match ds, h with
    | [x, y, z, u], _ => exact ⟨x, y, z, u, rfl⟩
    | [], h => simp at h
    | [_], h => simp at h
    | [_, _], h => simp at h
    | [_, _, _], h => simp at h
    | _ :: _ :: _ :: _ :: _ :: r, h => simp at h; omega
  | _ => cases h
theorem len4 {ds : List PyData} (h : ds.length = 4) : ∃ x y z u, ds = [x, y, z, u] := by
  match ds, h with
  | [x, y, z, u], _ => exact ⟨x, y, z, u, rfl⟩
theorem isCfg_n4 {S Y : Int} {d : PyData} (h : (!tupleOf d 4 4) = true) : isCfg S Y d = false := by
  unfold isCfg
  split
  · simp [tupleOf] at h
  · rfl
theorem isCfg_len {S Y : Int} {ds : List PyData} (h : ds.length ≠ 4) : isCfg S Y (.tuple ds) = false := by
  unfold isCfg
  split
  · rename_i e; cases e; exact absurd rfl h
  · rfl
theorem within_int {d : PyData} {a b : Int} (h : within d a b = true) : ∃ i, d = .int i := by
  cases d with
  | int i => exact ⟨i, rfl⟩
  | _ => cases h
theorem cfg_f12 {S Y : Int} {a b c e : PyData} (h : ((!within a (-1) (S - 1)) || (!within b (-1000000000) 1000000000)) = true) : isCfg S Y (.tuple [a, b, c, e]) = false := by
  show (within a (-1) (S - 1) && within b (-1000000000) 1000000000 && within c (-1000000000) 1000000000 && areCells e (valI c) Y) = false
  cases h1 : within a (-1) (S - 1) with
  | false => rfl
  | true =>
    rw [h1] at h
    have : within b (-1000000000) 1000000000 = false := by simpa using h
    rw [this]; rfl
theorem cfg_f3 {S Y : Int} {a b c e : PyData} (h : within c (-1000000000) 1000000000 = false) : isCfg S Y (.tuple [a, b, c, e]) = false := by
  show (within a (-1) (S - 1) && within b (-1000000000) 1000000000 && within c (-1000000000) 1000000000 && areCells e (valI c) Y) = false
  rw [h, Bool.and_false, Bool.false_and]
theorem cfg_t {S Y : Int} {a b e : PyData} {f : Int} (h : ((!within a (-1) (S - 1)) || (!within b (-1000000000) 1000000000)) = false) (h3 : within (.int f) (-1000000000) 1000000000 = true) : isCfg S Y (.tuple [a, b, .int f, e]) = (true && areCells e f Y) := by
  rw [Bool.or_eq_false_iff] at h
  have h1 : within a (-1) (S - 1) = true := by simpa using h.1
  have h2 : within b (-1000000000) 1000000000 = true := by simpa using h.2
  show (within a (-1) (S - 1) && within b (-1000000000) 1000000000 && within (.int f) (-1000000000) 1000000000 && areCells e f Y) = _
  rw [h1, h2, h3]; rfl
theorem isCfg_e {S Y : Int} {a b c e : PyData} (h : isTup e = false) : isCfg S Y (.tuple [a, b, c, e]) = false := by
  show (within a (-1) (S - 1) && within b (-1000000000) 1000000000 && within c (-1000000000) 1000000000 && areCells e (valI c) Y) = false
  have : areCells e (valI c) Y = false := by
    cases e with
    | tuple cs => cases h
    | _ => rfl
  rw [this, Bool.and_false]
theorem or3_e {d e : PyData} {n : Bool} (h1 : isTup d = true) (h2 : n = true) (h : ((!isTup d) || ((!n) || (!isTup e))) = false) : ∃ cs, e = .tuple cs := by
  rw [h1, h2] at h
  cases e with
  | tuple cs => exact ⟨cs, rfl⟩
  | _ => cases h
theorem or3_n {d e : PyData} {n : Bool} (h1 : isTup d = true) (h2 : n = true) (h : ((!isTup d) || ((!n) || (!isTup e))) = true) : isTup e = false := by
  rw [h1, h2] at h
  simpa using h
theorem isCfg_nw {S Y : Int} {a b c : PyData} {cs : List PyData} (h : (!(([a, b, c] ++ cs).all wholeI)) = true) : isCfg S Y (.tuple [a, b, c, .tuple cs]) = false := by
  rw [Bool.eq_false_iff]
  intro q
  have q : (within a (-1) (S - 1) && within b (-1000000000) 1000000000 && within c (-1000000000) 1000000000 && areCells (.tuple cs) (valI c) Y) = true := q
  rw [Bool.and_eq_true, Bool.and_eq_true, Bool.and_eq_true] at q
  obtain ⟨⟨⟨q1, q2⟩, q3⟩, q4⟩ := q
  obtain ⟨i, rfl⟩ := within_int q1
  obtain ⟨j, rfl⟩ := within_int q2
  obtain ⟨k, rfl⟩ := within_int q3
  have q4 : (decide (cs.length ≤ 10000) && (cs.all fun c => within c 0 (Y - 1)) && endsOk cs k) = true := q4
  rw [Bool.and_eq_true, Bool.and_eq_true] at q4
  obtain ⟨l, rfl, _⟩ := all_within q4.1.2
  have : (([PyData.int i, .int j, .int k] ++ l.map PyData.int).all wholeI) = true := by
    rw [List.all_eq_true]
    intro d hd
    rcases List.mem_append.mp hd with z | z
    · simp at z; rcases z with rfl | rfl | rfl <;> rfl
    · obtain ⟨x, _, rfl⟩ := List.mem_map.mp z; rfl
  rw [this] at h
  cases h
theorem whole_inv {a b c : PyData} {cs : List PyData} (h : (!(([a, b, c] ++ cs).all wholeI)) = false) : ∃ i j k l, a = .int i ∧ b = .int j ∧ c = .int k ∧ cs = List.map PyData.int l := by
  have h : (([a, b, c] ++ cs).all wholeI) = true := by simpa using h
  obtain ⟨l, e⟩ := all_whole h
  match l, e with
  | i :: j :: k :: l, e =>
    simp at e
    exact ⟨i, j, k, l, e.1, e.2.1, e.2.2.1, e.2.2.2⟩
  | [], e => simp at e
  | [_], e => simp at e
  | [_, _], e => simp at e
theorem isCfg_int {S Y i j k : Int} {l : List Int} : isCfg S Y (.tuple [.int i, .int j, .int k, .tuple (l.map PyData.int)]) = (decide (-1 ≤ i ∧ i < S) && decide (-1000000000 ≤ j ∧ j ≤ 1000000000) && decide (-1000000000 ≤ k ∧ k ≤ 1000000000) && (decide (l.length ≤ 10000) && (l.all fun x => decide (0 ≤ x ∧ x < Y)) && endsOk (l.map PyData.int) k)) := by
  show (within (.int i) (-1) (S - 1) && within (.int j) (-1000000000) 1000000000 && within (.int k) (-1000000000) 1000000000 && (decide ((l.map PyData.int).length ≤ 10000) && ((l.map PyData.int).all fun c => within c 0 (Y - 1)) && endsOk (l.map PyData.int) k)) = _
  have e1 : within (.int i) (-1) (S - 1) = decide (-1 ≤ i ∧ i < S) := by
    rw [Bool.eq_iff_iff]; simp [within]; omega
  have e2 : ∀ z, within (.int z) (-1000000000) 1000000000 = decide (-1000000000 ≤ z ∧ z ≤ 1000000000) := by
    intro z; rw [Bool.eq_iff_iff]; simp [within]
  have e3 : ((l.map PyData.int).all fun c => within c 0 (Y - 1)) = l.all fun x => decide (0 ≤ x ∧ x < Y) := by
    rw [List.all_map]
    congr 1
    funext x
    rw [Bool.eq_iff_iff]; simp [within]; omega
  rw [e1, e2, e2, e3, List.length_map]
theorem cfg_6t {S Y i j k : Int} {l : List Int} (h : ((!(decide (-1 ≤ i) && decide (i < S))) || ((l.map PyData.int).any fun d => !(decide (0 ≤ valI d) && decide (valI d < Y)))) = true) : isCfg S Y (.tuple [.int i, .int j, .int k, .tuple (l.map PyData.int)]) = false := by
  rw [isCfg_int, Bool.eq_false_iff]
  intro q
  simp only [Bool.and_eq_true, decide_eq_true_eq] at q
  obtain ⟨⟨⟨q1, _⟩, _⟩, ⟨_, q3⟩, _⟩ := q
  rw [Bool.or_eq_true] at h
  rcases h with h | h
  · simp at h; omega
  · rw [List.any_map, List.any_eq_true] at h
    obtain ⟨x, hx, h⟩ := h
    have q := of_decide_eq_true (List.all_eq_true.mp q3 x hx)
    have h : (!(decide (0 ≤ x) && decide (x < Y))) = true := h
    rw [decide_eq_true q.1, decide_eq_true q.2] at h
    cases h
theorem cfg_8t {S Y i j k : Int} {l : List Int} (h : (decide ((10 : Int) ^ (9 : Int).toNat < if j < 0 then -j else j) || (decide ((10 : Int) ^ (9 : Int).toNat < if k < 0 then -k else k) || decide (10000 < ((l.map PyData.int).length : Int)))) = true) : isCfg S Y (.tuple [.int i, .int j, .int k, .tuple (l.map PyData.int)]) = false := by
  rw [isCfg_int, Bool.eq_false_iff]
  intro q
  simp only [Bool.and_eq_true, decide_eq_true_eq] at q
  obtain ⟨⟨⟨_, q1⟩, q2⟩, ⟨q3, _⟩, _⟩ := q
  have e : (10 : Int) ^ (9 : Int).toNat = 1000000000 := by decide
  rw [e, List.length_map] at h
  simp only [Bool.or_eq_true, decide_eq_true_eq] at h
  rcases h with h | h | h
  · split at h <;> omega
  · split at h <;> omega
  · omega
theorem cfg_tt {S Y i j k : Int} {l : List Int} (h6 : ((!(decide (-1 ≤ i) && decide (i < S))) || ((l.map PyData.int).any fun d => !(decide (0 ≤ valI d) && decide (valI d < Y)))) = false) (h8 : (decide ((10 : Int) ^ (9 : Int).toNat < if j < 0 then -j else j) || (decide ((10 : Int) ^ (9 : Int).toNat < if k < 0 then -k else k) || decide (10000 < ((l.map PyData.int).length : Int)))) = false) :
    isCfg S Y (.tuple [.int i, .int j, .int k, .tuple (l.map PyData.int)]) = endsOk (l.map PyData.int) k := by
  have e : (10 : Int) ^ (9 : Int).toNat = 1000000000 := by decide
  rw [e, List.length_map] at h8
  simp only [Bool.or_eq_false_iff, decide_eq_false_iff_not] at h6 h8
  obtain ⟨h1, h2⟩ := h6
  obtain ⟨h3, h4, h5⟩ := h8
  have a1 : -1 ≤ i ∧ i < S := by simp at h1; omega
  have a2 : -1000000000 ≤ j ∧ j ≤ 1000000000 := by split at h3 <;> omega
  have a3 : -1000000000 ≤ k ∧ k ≤ 1000000000 := by split at h4 <;> omega
  have a4 : l.length ≤ 10000 := by omega
  have a5 : (l.all fun x => decide (0 ≤ x ∧ x < Y)) = true := by
    rw [List.all_eq_true]
    intro x hx
    rw [List.any_map, List.any_eq_false] at h2
    have q : ¬ (!(decide (0 ≤ x) && decide (x < Y))) = true := h2 x hx
    refine decide_eq_true ?_
    cases hb : (decide (0 ≤ x) && decide (x < Y)) with
    | true => simpa using hb
    | false => rw [hb] at q; exact absurd rfl q
  rw [isCfg_int, decide_eq_true a1, decide_eq_true a2, decide_eq_true a3, decide_eq_true a4, a5]
  simp
theorem cfg_c {k : Int} {x : Int} {r : List Int} : endsOk ((x :: r).map PyData.int) k = ((!decide (x = 0)) && !decide (r.getLastD x = 0)) := congrArg (fun z => neZ (.int x) && z) neZ_last
end K
namespace K
open PySem PySem.Spec PyProof.Rows L2 T
def sp_changed5 : SpT := fun cs O R _ => ∃ k u c, cs = [.o k, .d (cfgD c)] ∧ O[k]? = some u ∧ IsStrm u ∧ c.2.2.2.length ≤ 1000 ∧ ∀ d u', cellsLen d ≤ 50000 → IsStrm u' → R (.d d) (O.set k u')
theorem menuL {ds : List PyData} {i : Nat} {d : PyData} (h : ∀ d ∈ ds, cellsLen d ≤ 50000) (hd : ds[i]? = some d) : cellsLen d ≤ 50000 := h d (List.mem_of_getElem? hd)
theorem cl_tup {a b c : PyData} {cs : List PyData} (h : cs.length ≤ 50000) : cellsLen (.tuple [a, b, c, .tuple cs]) ≤ 50000 := h
theorem eqv_bool {x : Bool} : PyData.eqv (.bool x) (.bool x) = true := by cases x <;> rfl
theorem chg5_use {k : Nat} {u : Ob} {c : Cfg} {O : Sto} {R : C → Sto → Prop} {RX : Value → Sto → Prop} (h1 : O[k]? = some u) (h2 : IsStrm u) (h3 : c.2.2.2.length ≤ 1000) (h5 : ∀ d u', cellsLen d ≤ 50000 → IsStrm u' → R (.d d) (O.set k u')) : sp_changed5 [.o k, .d (cfgD c)] O R RX := ⟨k, u, c, rfl, h1, h2, h3, h5⟩
theorem tape_use {k : Nat} {u : Ob} {m : Mach} {S Y : Int} {O : Sto} {R : C → Sto → Prop} {RX : Value → Sto → Prop} (h1 : O[k]? = some u) (h2 : IsStrm u) (hm : OkMach m S Y) (h5 : ∀ c u', OkCfg S Y c → IsStrm u' → R (.d (cfgD c)) (O.set k u')) : sp_tape [.o k, .d (machD m)] O R RX := ⟨k, u, m, S, Y, rfl, h1, h2, hm, h5⟩
theorem isCfg_ok {S Y : Int} {c : Cfg} (h : OkCfg S Y c) : isCfg S Y (cfgD c) = true := by
  obtain ⟨i, j, k, l⟩ := c
  obtain ⟨h1, h2, h3, h4, h5, h6, h7, h8, h9, h10, h11⟩ := h
  simp only at h1 h2 h3 h4 h5 h6 h7 h8 h9 h10 h11
  show isCfg S Y (.tuple [.int i, .int j, .int k, .tuple (l.map PyData.int)]) = true
  rw [isCfg_int, decide_eq_true ⟨h1, h2⟩, decide_eq_true ⟨by omega, by omega⟩, decide_eq_true ⟨by omega, by omega⟩, decide_eq_true (by omega)]
  have e1 : (l.all fun x => decide (0 ≤ x ∧ x < Y)) = true := List.all_eq_true.mpr fun x hx => decide_eq_true (h8 x hx)
  rw [e1]
  cases l with
  | nil =>
    have := h9 rfl
    subst this
    rfl
  | cons x r =>
    rw [cfg_c]
    have a1 : x ≠ 0 := h10 x rfl
    have a2 : r.getLastD x ≠ 0 := h11 _ (by
      rw [List.getLast?_cons]
      cases r with
      | nil => rfl
      | cons b r => rw [List.getLastD_eq_getLast?])
    rw [decide_eq_false a1, decide_eq_false a2]; rfl
theorem getLastD_rep {x : Int} : ∀ n : Nat, (List.replicate n x).getLastD x = x
  | 0 => rfl
  | n + 1 => by rw [List.replicate_succ, List.getLastD_cons]; exact getLastD_rep n
theorem isCfg_many {S Y : Int} {n : Int} (hS : 1 ≤ S) (hY : 2 ≤ Y) (h0 : 2 ≤ n) : isCfg S Y (.tuple [.int 0, .int 0, .int 5, .tuple (List.replicate n.toNat (.int 1))]) = decide (n ≤ 10000) := by
  have e : List.replicate n.toNat (PyData.int 1) = (List.replicate n.toNat (1 : Int)).map PyData.int := by rw [List.map_replicate]
  rw [e, isCfg_int, decide_eq_true ⟨by omega, by omega⟩, decide_eq_true ⟨by omega, by omega⟩, decide_eq_true ⟨by omega, by omega⟩, List.length_replicate]
  have e1 : ((List.replicate n.toNat (1 : Int)).all fun x => decide (0 ≤ x ∧ x < Y)) = true := List.all_eq_true.mpr fun x hx => by
    rw [List.eq_of_mem_replicate hx]
    exact decide_eq_true ⟨by omega, by omega⟩
  rw [e1]
  obtain ⟨m, hm⟩ : ∃ m, n.toNat = m + 1 := ⟨n.toNat - 1, by omega⟩
  rw [hm, List.replicate_succ, cfg_c, getLastD_rep]
  rw [Bool.eq_iff_iff]
  simp
  omega
theorem isCfg_blank {S Y : Int} (hS : 1 ≤ S) : isCfg S Y (.tuple [.int 0, .int 0, .int 0, .tuple []]) = true := by
  have := isCfg_int (S := S) (Y := Y) (i := 0) (j := 0) (k := 0) (l := [])
  rw [List.map_nil] at this
  rw [this, decide_eq_true ⟨by omega, by omega⟩]
  rfl
end K

set_option Elab.async false
set_option linter.all false
set_option maxRecDepth 100000
set_option maxHeartbeats 1000000
namespace T
open PySem PySem.Spec PyProof.Rows L2
section
variable {X : Cx}
/-- x in t, t a tuple of data -/
def rInT (K : PySem.W.Frag) : R2 := fun xv yv HH QQ => ∃ dd tt, Dp K HH xv dd ∧ Dp K HH yv (.tuple tt) ∧ SeqAt.shaped dd = true ∧ SeqAt.shaped (.tuple tt) = true ∧ QQ (.bl (tt.any fun z => PyData.eqv z dd)) HH
theorem op_inT (hroom : X.A.units + 65 < cLine) : OpR X (compareOp .In) (rInT X.K) := by
  intro pp st ss HH xv yv v1 v2 QQ II ra rb ⟨dd, tt, ha, hb, sa, sb, qq⟩
  obtain ⟨as1, q1⟩ := Dp.reads II dd xv v1 ha ra
  obtain ⟨as2, q2⟩ := Dp.reads II (.tuple tt) yv v2 hb rb
  exact SeqAt.in_tuple_reads q2 q1 (SeqAt.canLay_of_shaped sb) (SeqAt.canLay_of_shaped sa) (room_in_shaped sa hroom) ⟨.bl _, HH, II, rfl, qq⟩
end
section
variable {Y : Fam} {e a b c iter tg elt cond : Expr} {es : List Expr} {st : Stmt} {sts body : List Stmt} {Γ Γ' : Gam} {O O' : Sto} {R : C → Sto → Prop} {RT : Bool → Sto → Prop} {E : En} {pos p pos' np : Pos} {x : Str} {K : PySem.W.Frag}
/-- a display of data, never written -/
theorem xe_lstF (h : XA Y es Γ O fun cs O1 => ∃ ds, allD cs = some ds ∧ ds.length ≤ sizeLine ∧ R (.d (.list ds)) (O1 ++ [.gone])) : XE Y (.List es pos) Γ O R :=
  xe_frz (xe_lst (fun F as σ H Q S L tx t => h F as σ H Q S L tx fun F' as' cs vs O' H' g S' r ⟨ds, e, hz, hr⟩ => t F' as' cs vs O' H' g S' r (by
    have e := allD_eq e
    subst e
    exact ⟨by rw [List.length_map]; exact hz, O'.length, ds, rfl, by simp, by simpa using hr⟩)))
/-- the list of a slot is never written again -/
theorem xb_frz (i k : Nat) {ds : List PyData} (h1 : Γ[i]? = some (some (.o k))) (h2 : O[k]? = some (.lst (ds.map C.d))) (h : XB Y sts (Γ.set i (some (.d (.list ds)))) (O.set k .gone) E) : XB Y sts Γ O E := fun F as σ H D S L tx t => by
  obtain ⟨v, e1, ad, ha, rfl⟩ := L.get h1
  obtain ⟨F2, g2, S2, r2⟩ := S.freeze ha h2
  have L2' := (L.mono g2).set (show CR Y.K F2 as (.d (.list ds)) (.ref ad) from r2) i
  have e3 : σ.set i (some (.ref ad)) = σ := by
    apply List.ext_getElem?
    intro j
    by_cases hj : i = j
    · subst hj; rw [List.getElem?_set_self (List.getElem?_eq_some_iff.mp e1).1, e1]
    · rw [List.getElem?_set_ne hj]
  rw [e3] at L2'
  exact h F2 as σ H D S2 L2' (tx.mono g2) (t.mono g2)
/-- a slice of a list, a new list that may be written -/
theorem wsl_lstO {ds : List PyData} {lo hi : Option Int} (r : R (.o O.length) (O ++ [.lst ((cutD ds lo hi).map C.d)])) : WSl K (.d (.list ds)) lo hi O R := fun F as H x Q S rx t => by
  cases rx with
  | @lst a xs _ h hd =>
    refine .inr (.inl ⟨a, xs, rfl, S.ex.seq h, fun p hp => ?_⟩)
    obtain ⟨S2, g2⟩ := S.own (cs := (cutD ds lo hi).map C.d) hp (of_all (dpall_cut hd lo hi))
    exact t _ _ (.o O.length) _ _ _ g2 S2 ⟨p, by rw [← S.len]; simp, rfl⟩ r
/-- list(range(n)), tuple(range(n)) -/
theorem rgv_all {F : Hp} {n : Int} : DpAll K F (rgV 0 n) (rng 0 n.toNat) := by
  unfold rgV rng
  rw [Int.sub_zero]
  generalize List.range n.toNat = l
  induction l with
  | nil => exact .nil
  | cons i l ih => exact .cons (.int _) ih
theorem rgok {n : Int} (h0 : 0 ≤ n) (h1 : n ≤ 100000) : RgOk 0 n := ⟨by omega, by omega, by omega, by omega, by omega⟩
theorem xe_listRg {p2 : Pos} (hl : Y.mg "list" = none) (hr : Y.mg "range" = none) (h : XE Y a Γ O fun c O1 => ∃ n, c = .d (.int n) ∧ 0 ≤ n ∧ n ≤ 100000 ∧ R (.d (.list (rng 0 n.toNat))) O1) (hc : Y.cl = true := by rfl) (hg : ∀ i, Gl (Y.X i) "list" := by exact fun _ => rfl) (hg2 : ∀ i, Gl (Y.X i) "range" := by exact fun _ => rfl)
    (hs : ∀ i, starEach [a] (Y.X i).env = (false, eval a (Y.X i).env) :: starEach [] (Y.X i).env := by exact fun _ => rfl) (hs2 : ∀ i, starEach [.Call (.Name "range" p2) [a] [] pos'] (Y.X i).env = (false, eval (.Call (.Name "range" p2) [a] [] pos') (Y.X i).env) :: starEach [] (Y.X i).env := by exact fun _ => rfl) :
    XE Y (.Call (.Name "list" p) [.Call (.Name "range" p2) [a] [] pos'] [] pos) Γ O R :=
  xe_of (fun i => pe_listRg (Y.calm hc i) (hg i) (by rw [Y.hmg]; exact hl) (prg_1 (hg2 i) (by rw [Y.hmg]; exact hr) (peW i) (hs i)) (hs2 i)) fun F as σ H Q S L tx t => h F as σ H _ S L tx fun F1 as1 c1 v1 O1 H1 g1 S1 r1 ⟨n, ec, n0, n1, h1⟩ => by
    subst ec
    cases r1
    refine ⟨n, rfl, rgok n0 n1, fun q hq => ?_⟩
    obtain ⟨S2, g2⟩ := S1.froze (o := .lst (rgV 0 n)) hq
    exact t _ _ (.d (.list (rng 0 n.toNat))) _ _ _ (g1.trans g2) S2 (.lst (.inl (.inl upd_same)) rgv_all) h1
theorem xe_tupleRg {p2 : Pos} (hl : Y.mg "tuple" = none) (hr : Y.mg "range" = none) (h : XE Y a Γ O fun c O1 => ∃ n, c = .d (.int n) ∧ 0 ≤ n ∧ n ≤ 100000 ∧ R (.d (.tuple (rng 0 n.toNat))) O1) (hc : Y.cl = true := by rfl) (hg : ∀ i, Gl (Y.X i) "tuple" := by exact fun _ => rfl) (hg2 : ∀ i, Gl (Y.X i) "range" := by exact fun _ => rfl)
    (hs : ∀ i, starEach [a] (Y.X i).env = (false, eval a (Y.X i).env) :: starEach [] (Y.X i).env := by exact fun _ => rfl) (hs2 : ∀ i, starEach [.Call (.Name "range" p2) [a] [] pos'] (Y.X i).env = (false, eval (.Call (.Name "range" p2) [a] [] pos') (Y.X i).env) :: starEach [] (Y.X i).env := by exact fun _ => rfl) :
    XE Y (.Call (.Name "tuple" p) [.Call (.Name "range" p2) [a] [] pos'] [] pos) Γ O R :=
  xe_of (fun i => pe_tupRg (Y.calm hc i) (hg i) (by rw [Y.hmg]; exact hl) (prg_1 (hg2 i) (by rw [Y.hmg]; exact hr) (peW i) (hs i)) (hs2 i)) fun F as σ H Q S L tx t => h F as σ H _ S L tx fun F1 as1 c1 v1 O1 H1 g1 S1 r1 ⟨n, ec, n0, n1, h1⟩ => by
    subst ec
    cases r1
    refine ⟨n, rfl, rgok n0 n1, fun q hq => ?_⟩
    obtain ⟨S2, g2⟩ := S1.froze (o := .tup (rgV 0 n)) hq
    exact t _ _ (.d (.tuple (rng 0 n.toNat))) _ _ _ (g1.trans g2) S2 (.tup (.inl (.inl upd_same)) rgv_all) h1
/-- x in t, x in l of data -/
def rInn (K : PySem.W.Frag) : R2 := fun x y H Q => rInT K x y H Q ∨ rInD K x y H Q
theorem rl1 (h : Y.cl = true) (i : Y.ι) : (Y.X i).A.units + 65 < cLine := by have := (Y.room h i).un; omega
theorem xe_in (h : XE Y a Γ O fun c1 O1 => XE Y b Γ O1 fun c2 O2 => W2 Y.K (rInn Y.K) c1 c2 O2 R) (hc : Y.cl = true := by rfl) (hm : behindInMarks .In b = false := by rfl) : XE Y (.Compare a [.In] [b] pos) Γ O R := xe_cmp (fun i => by rw [← Y.hK i]; exact opor (op_inT (rl1 hc i)) (op_inD (rl1 hc i))) hm h
theorem xt_in (h : XE Y a Γ O fun c1 O1 => XE Y b Γ O1 fun c2 O2 => W2 Y.K (rInn Y.K) c1 c2 O2 (WB RT)) (hc : Y.cl = true := by rfl) (hm : behindInMarks .In b = false := by rfl) : XT Y (.Compare a [.In] [b] pos) Γ O RT := xt_cmp (fun i => by rw [← Y.hK i]; exact opor (op_inT (rl1 hc i)) (op_inD (rl1 hc i))) hm h
theorem w2_in_tup {d : PyData} {ts : List PyData} (s1 : SeqAt.shaped d = true) (s2 : SeqAt.shaped (.tuple ts) = true) (r : R (.d (.bool (ts.any fun z => PyData.eqv z d))) O) : W2 K (rInn K) (.d d) (.d (.tuple ts)) O R := w2_l fun F as H x y Q S rx ry t =>
  ⟨d, ts, dp_same S.ex _ _ rx, dp_same S.ex _ _ ry, s1, s2, t.go S (show CR K F as (.d (.bool _)) _ from .bl _) r⟩
theorem w2_in_lst {d : PyData} {ts : List PyData} (s1 : SeqAt.shaped d = true) (s2 : SeqAt.shaped (.list ts) = true) (r : R (.d (.bool (ts.any fun z => PyData.eqv z d))) O) : W2 K (rInn K) (.d d) (.d (.list ts)) O R := w2_r fun F as H x y Q S rx ry t =>
  ⟨d, ts, dp_same S.ex _ _ rx, dp_same S.ex _ _ ry, s1, s2, t.go S (show CR K F as (.d (.bool _)) _ from .bl _) r⟩
/-- l.index(x), l ints, x among them -/
theorem idx_first {n k : Int} : ∀ {ns : List Int} {m : Nat}, m < ns.idxOf n → ns[m]? = some k → k ≠ n
  | [], _, _, h => by simp at h
  | x :: ns, m, hm, h => by
    rw [List.idxOf_cons] at hm
    by_cases hx : x = n
    · subst hx; simp at hm
    · have hb : (x == n) = false := by simpa using hx
      rw [hb] at hm
      cases m with
      | zero => simp at h; rw [← h]; exact hx
      | succ m => exact idx_first (ns := ns) (m := m) (by simpa using hm) (by simpa using h)
theorem pr_erase {F : Hp} {as : List Addr} : ∀ {cs : List C} {vs : List V} {i : Nat}, Paired (CR K F as) cs vs → Paired (CR K F as) (cs.eraseIdx i) (vs.eraseIdx i)
  | _, _, _, .nil => .nil
  | _, _, 0, .cons _ t => t
  | _, _, i + 1, .cons r t => .cons r (pr_erase (i := i) t)
theorem ints_get {ns : List Int} {j : Nat} {z : V} (h : (ns.map V.int)[j]? = some z) : ∃ n, ns[j]? = some n ∧ z = .int n := by
  rw [List.getElem?_map] at h
  cases e : ns[j]? with
  | none => rw [e] at h; cases h
  | some n => rw [e] at h; exact ⟨n, rfl, (Option.some.inj h).symm⟩
theorem xe_index {ap : Pos} (h : XE Y a Γ O fun c1 O1 => ∃ ns : List Int, c1 = .d (.list (ns.map PyData.int)) ∧ XE Y b Γ O1 fun c2 O2 => ∃ n : Int, c2 = .d (.int n) ∧ n ∈ ns ∧ R (.d (.int ((ns.idxOf n : Nat) : Int))) O2)
    (hb : ∀ i, attributeBase a "index" (Y.X i).env (eval a (Y.X i).env) = eval a (Y.X i).env := by exact fun _ => rfl)
    (hkw : ∀ i, ((((backTo pos (starEach [b] (Y.X i).env)).all fun x => !x.fst) && (backToKw pos (keywordEach [] (Y.X i).env)).all fun x => x.fst.isSome) && decide (([b].length + ([] : List Keyword).length + if ([] : List Keyword).isEmpty = true then 0 else 1) < 30)) = true := by exact fun _ => rfl)
    (hl : (ap.endLine == pos.line) = true := by rfl) (hs : ∀ i, starEach [b] (Y.X i).env = (false, eval b (Y.X i).env) :: starEach [] (Y.X i).env := by exact fun _ => rfl) :
    XE Y (.Call (.Attribute a "index" ap) [b] [] pos) Γ O R :=
  xe_of (te := tBM Y.K "list" (rIndex Y.K) (wpE Y a) (tCons (wpE Y b) tNil)) (fun i => by
    rw [← Y.hK i]
    exact pe_bm PySem.F.plainAttrs_list PySem.F.slot_list_index PySem.F.type_list_index mt_index (peW i) (pa_cons (peW i) pa_nil (hs i)) (hb i) (hkw i) hl (hs i) (by rfl)) fun F as σ H Q S L tx t =>
    h F as σ H _ S L tx fun F1 as1 c1 v1 O1 H1 g1 S1 r1 ⟨ns, e1, h1⟩ => by
      subst e1
      cases r1 with
      | @lst ad xs _ hs1 ha1 =>
        have ex := ints_v ha1
        subst ex
        refine ⟨.inl ⟨rfl, _, S1.ex.seq hs1⟩, h1 F1 as1 σ H1 _ S1 (L.mono g1) (tx.mono g1) fun F2 as2 c2 v2 O2 H2 g2 S2 r2 ⟨n, e2, hn, h2⟩ => ?_⟩
        subst e2
        cases r2
        have hlt : ns.idxOf n < ns.length := List.idxOf_lt_length_of_mem hn
        refine ⟨ad, ns.map V.int, .int n, ns.idxOf n, .int n, rfl, rfl, S2.ex.seq (g2.fr.seq hs1), rfl, List.all_eq_true.mpr fun z hz => ?_, ?_, ?_, fun m z' hm hz' => ?_, t F2 as2 (.d (.int _)) _ O2 H2 (g1.trans g2) S2 (show CR Y.K F2 as2 (.d (.int _)) _ from .int _) h2⟩
        · obtain ⟨i, _, rfl⟩ := List.mem_map.mp hz; rfl
        · rw [List.getElem?_map, List.getElem?_eq_getElem hlt, List.getElem_idxOf hlt]; rfl
        · show (n == n) = true; simp
        · obtain ⟨k, hk, rfl⟩ := ints_get hz'
          have hkn : k ≠ n := idx_first hm hk
          show (k == n) = false
          simpa using hkn
/-- rows.pop(i), rows a written list -/
theorem xe_popAt {ap : Pos} (h : XE Y a Γ O fun c1 O1 => ∃ k, c1 = .o k ∧ (∃ cs, O1[k]? = some (.lst cs)) ∧ XE Y b Γ O1 fun c2 O2 => ∃ cs i y, O2[k]? = some (.lst cs) ∧ c2 = .d (.int i) ∧ 0 ≤ i ∧ i < 2 ^ 62 ∧ cs[i.toNat]? = some y ∧ R y (O2.set k (.lst (cs.eraseIdx i.toNat))))
    (hb : ∀ i, attributeBase a "pop" (Y.X i).env (eval a (Y.X i).env) = eval a (Y.X i).env := by exact fun _ => rfl)
    (hkw : ∀ i, ((((backTo pos (starEach [b] (Y.X i).env)).all fun x => !x.fst) && (backToKw pos (keywordEach [] (Y.X i).env)).all fun x => x.fst.isSome) && decide (([b].length + ([] : List Keyword).length + if ([] : List Keyword).isEmpty = true then 0 else 1) < 30)) = true := by exact fun _ => rfl)
    (hl : (ap.endLine == pos.line) = true := by rfl) (hs : ∀ i, starEach [b] (Y.X i).env = (false, eval b (Y.X i).env) :: starEach [] (Y.X i).env := by exact fun _ => rfl) :
    XE Y (.Call (.Attribute a "pop" ap) [b] [] pos) Γ O R :=
  xe_of (te := tBM Y.K "list" rPopAt (wpE Y a) (tCons (wpE Y b) tNil)) (fun i => by
    rw [← Y.hK i]
    exact pe_bm PySem.F.plainAttrs_list PySem.F.slot_list_pop PySem.F.type_list_pop mt_popAt (peW i) (pa_cons (peW i) pa_nil (hs i)) (hb i) (hkw i) hl (hs i) (by rfl)) fun F as σ H Q S L tx t =>
    h F as σ H _ S L tx fun F1 as1 c1 v1 O1 H1 g1 S1 r1 ⟨k, e1, ⟨cs0, e0⟩, h1⟩ => by
      subst e1
      obtain ⟨ad, ha, rfl⟩ := r1
      obtain ⟨_, vs0, ev0, _⟩ := S1.lst ha e0
      refine ⟨.inl ⟨rfl, _, SqL.of ev0⟩, h1 F1 as1 σ H1 _ S1 (L.mono g1) (tx.mono g1) fun F2 as2 c2 v2 O2 H2 g2 S2 r2 ⟨cs, i, y, e2, ei, h0, hi, hy, h2⟩ => ?_⟩
      subst ei
      cases r2
      have ha2 := px_get g2.px ha
      obtain ⟨hF, vs, ev, pv⟩ := S2.lst ha2 e2
      obtain ⟨v, hv, rv⟩ := cget pv hy
      have hlt : i.toNat < vs.length := (List.getElem?_eq_some_iff.mp hv).1
      refine ⟨ad, vs, i, i.toNat, v, rfl, rfl, ev, by omega, by omega, ?_, hv, t F2 as2 y v _ _ (g1.trans g2) (S2.put (u0 := .gone) ha2 hF (pr_erase pv)) rv h2⟩
      unfold seqIndex?
      first | (rw [if_pos (by omega)]; done) | (simp; omega)
end
end T

set_option Elab.async false
set_option linter.all false
set_option maxRecDepth 100000
set_option maxHeartbeats 1000000
namespace T
open PySem PySem.Spec PyProof.Rows L2
section
variable {Y : Fam} {e a b c iter tg elt cond : Expr} {es : List Expr} {st : Stmt} {sts body : List Stmt} {Γ Γ' : Gam} {O O' : Sto} {R : C → Sto → Prop} {RT : Bool → Sto → Prop} {E : En} {pos p pos' np p1 p2 p3 p4 p5 p6 : Pos} {x y n : Str} {K : PySem.W.Frag}
/-- try: body, except x as n: if isinstance(n, y): return None; what is raised is of the class C = x, which is a y -/
def tsAs (C : Addr) (i : Nat) (a : Addr) (cls : Value) (d : Option Addr) : TS := fun D σ H => cls = .ref C ∧ d = none ∧ (∀ v, σ[i]? = some v → v = some (.ref a)) ∧ D.rt .non H
theorem ps_as {X : Cx} {C B : Addr} {i j : Nat} {a : Addr} {oe : Obj} {cls : Value} {d : Option Addr} {pn : List (Addr × Obj)} (hi : X.N[i]? = some n) (hv : Vis X.env.scope n) (hd : (n == ("__debug__" : Str)) = false) (hcd : (n == ("__classdict__" : Str)) = false)
    (hg : Gl X "isinstance") (hm : X.mg "isinstance" = none) (hgy : Gl X y) (hmy : X.mg y = some (.ref B)) (hdy : (y == ("__debug__" : Str)) = false) (XC : ExcC X.K C) (hk : PySem.W.kitOne X.K (.ref C) (.ref B) = some true) (hz : Zc cls d oe) (hf : ∃ vs, oe.data = .fields vs)
    (he : starEach [.Name n p1, .Name y p2] X.env = (false, eval (.Name n p1) X.env) :: starEach [.Name y p2] X.env) (hs1 : starEach [.Name y p2] X.env = (false, eval (.Name y p2) X.env) :: starEach [] X.env) (hpl : (backTo p3 (starEach [.Name y p2] X.env)).any (·.1) = false)
    (ht : ∀ whole, isTrue (.Call (.Name "isinstance" p) [.Name n p1, .Name y p2] [] p3) X.env whole = (do let v ← whole; standAt (Expr.Call (.Name "isinstance" p) [.Name n p1, .Name y p2] [] p3).pos; holding [v] (truthy v))) :
    PSs (X.suite a ((a, oe) :: pn)) [.If (.Call (.Name "isinstance" p) [.Name n p1, .Name y p2] [] p3) [.Return (some (.Constant .none j p4)) p5] [] p6] (tsAs C i a cls d) := by
  refine ⟨fun pins s σ H D I ⟨e1, e2, hσ0, hr⟩ => ?_⟩
  subst e1 e2
  have hσ : σ[i]? = some (some (V.ref a)) := by
    have hlt : i < σ.length := by rw [I.len]; exact (List.getElem?_eq_some_iff.mp hi).1
    rw [List.getElem?_eq_getElem hlt, hσ0 _ (List.getElem?_eq_getElem hlt)]
  have cy := call_isE (X := X) (a := a) (D := C) (oe := oe) (pn := pn) XC hz hf
  have pe := pe_callB (X := X.suite a ((a, oe) :: pn)) (p := p) (pos := p3) (x := "isinstance") cy hg hm (by decide +kernel) (pa_cons (pe_var (i := i) (pos := p1) hi hv hd hcd) (pa_cons (pe_glob (u := .ref B) (v := .ref B) (pos := p2) hgy hmy rfl hdy) pa_nil hs1) he) (by decide) (by decide) he hpl
  have ps := pss_one (ps_if (pos := p6) (pt_val pe ht) (pss_one (ps_ret (pos := p5) (pe_non (j := j) (pos := p4)))) pss_nil)
  refine ps.run pins s σ H D I ?_
  exact ⟨_, hσ, V.ref B, Value.ref B, true, rfl, fun u r => r, hk, true, rfl, iteT hr⟩
theorem xs_tryAs {C B : Addr} (i : Nat) {j : Nat} (RX' : Value → Sto → Prop) (hN : Y.N[i]? = some n) (hm : Y.mg x = some (.ref C)) (hy : Y.mg y = some (.ref B)) (hmi : Y.mg "isinstance" = none) (XC : ExcC Y.K C) (hk : PySem.W.kitOne Y.K (.ref C) (.ref B) = some true) (hmm : PySem.W.exmOne Y.K (.ref C) (.ref C) = some true)
    (h : ∀ W', XB (Y.tr W' RX') body Γ O E) (hx : ∀ cl O', RX' cl O' → cl = .ref C ∧ E.rt (.d .none) O')
    (hs : ∀ i, (Y.X i).stack = (Y.X i).env :: (Y.X i).outer := by exact fun _ => rfl) (hf : ∀ i, (Y.X i).env.frame = some (Y.X i).env.locals := by exact fun _ => rfl) (hln : ∀ i, (Y.X i).env.kindOf n = some .local := by exact fun _ => rfl) (hg : ∀ i, Gl (Y.X i) x := by exact fun _ => rfl) (hgy : ∀ i, Gl (Y.X i) y := by exact fun _ => rfl) (hgi : ∀ i, Gl (Y.X i) "isinstance" := by exact fun _ => rfl)
    (hd : (x == ("__debug__" : Str)) = false := by decide) (hdn : (n == ("__debug__" : Str)) = false := by decide) (hcd : (n == ("__classdict__" : Str)) = false := by decide) (hdy : (y == ("__debug__" : Str)) = false := by decide)
    (he : ∀ i, starEach [.Name n p1, .Name y p2] (Y.X i).env = (false, eval (.Name n p1) (Y.X i).env) :: starEach [.Name y p2] (Y.X i).env := by exact fun _ => rfl) (hs1 : ∀ i, starEach [.Name y p2] (Y.X i).env = (false, eval (.Name y p2) (Y.X i).env) :: starEach [] (Y.X i).env := by exact fun _ => rfl) (hpl : ∀ i, (backTo p3 (starEach [.Name y p2] (Y.X i).env)).any (·.1) = false := by exact fun _ => rfl)
    (ht : ∀ i whole, isTrue (.Call (.Name "isinstance" p) [.Name n p1, .Name y p2] [] p3) (Y.X i).env whole = (do let v ← whole; standAt (Expr.Call (.Name "isinstance" p) [.Name n p1, .Name y p2] [] p3).pos; holding [v] (truthy v)) := by exact fun _ _ => rfl) :
    XS Y (.Try body [.ExceptHandler (some (.Name x np)) (some n) [.If (.Call (.Name "isinstance" p) [.Name n p1, .Name y p2] [] p3) [.Return (some (.Constant .none j p4)) p5] [] p6] pos'] [] [] pos) Γ O E :=
  xs_of (te := fun D σ H => wpB (Y.tr (wAs Y.K (.ref C) i (tsAs C i) Y.W D) RX') body D σ H) (fun u => by
    rw [← Y.hK u]
    exact ps_try_as (tb := fun W => wpB (Y.tr W RX') body) (ts := tsAs C i) (hs u) (hf u) (by rw [Y.hN]; exact Y.nd) (by rw [Y.hN]; exact hN) (hln u) ⟨hg u, hd, .inl (by rw [Y.hmg]; exact hm)⟩ (Y.tk u) (fun W pn xe tk own => pbW (Y := Y.tr W RX') ⟨(u, pn, xe), tk, own⟩)
      fun a oe cls d pn hz hfl => ps_as (by rw [Y.hN]; exact hN) (Or.inl (hln u)) hdn hcd (hgi u) (by rw [Y.hmg]; exact hmi) (hgy u) (by rw [Y.hmg]; exact hy) hdy (by rw [Y.hK]; exact XC) (by rw [Y.hK]; exact hk) hz hfl (he u) (hs1 u) (hpl u) (ht u)) fun F as σ H D S L tx t => by
    refine h _ F as σ H D S L (fun F' as' cl O' σ' H' g S' rx => ?_) t
    obtain ⟨ec, hr⟩ := hx cl O' rx
    subst ec
    refine ⟨true, hmm, fun _ a _ => ⟨rfl, rfl, fun v hv => ?_, t.rt F' as' (.d .none) .non O' H' g S' (show CR Y.K F' as' (.d .none) .non from .non) hr⟩, fun z => nomatch z⟩
    by_cases hlt : i < σ'.length
    · rw [List.getElem?_set_self hlt] at hv; cases hv; rfl
    · rw [List.getElem?_eq_none (by rw [List.length_set]; omega)] at hv; cases hv
/-- a pure comprehension whose list may be written later -/
theorem we_mapO {scope : Scope} {vs : List Nat} {τ : Tgt} (hj : ∀ j ∈ tgL τ, j ∈ vs) (hcl : Y.cl = true)
    (h : XI Y tg iter Γ O fun ds O1 => ∃ g : PyData → PyData, ds.length ≤ sizeLine ∧ (∀ d ∈ ds, ∀ acc, ∃ Γ2, tgS (wipeG Γ vs) τ d = some Γ2 ∧ XE (Y.blk scope) elt Γ2 (O1 ++ [.lst acc]) fun y O3 => y = .d (g d) ∧ ∃ E2, O3 = (O1 ++ [.lst acc]) ++ E2) ∧ R (.o O1.length) (O1 ++ [.lst ((ds.map g).map C.d)])) :
    We Y (tLc (wpI Y tg iter) (tgG Y.K τ) tYes (wpE (Y.blk scope) elt) vs) Γ O R := we_lc hj hcl fun F as σ H R' S L tx t => h F as σ H R' S L tx fun F1 as1 J ds O1 H1 g1 S1 j1 ⟨g, hz, hb, hr⟩ => t F1 as1 J ds O1 H1 g1 S1 j1
  ⟨fun i acc O' => O' = O1 ∧ acc = ((ds.take i).map g).map C.d, hz, ⟨rfl, by simp⟩, fun i acc O' ⟨e1, e2⟩ => by
    subst e1 e2
    refine ⟨rfl, S1.clo, fun c hc => ?_, by simp; omega⟩
    obtain ⟨d, _, rfl⟩ := List.mem_map.mp hc
    trivial, fun i d acc O' hd ⟨e1, e2⟩ => by
    subst e1
    obtain ⟨Γ2, ht, hx⟩ := hb d (List.mem_of_getElem? hd) acc
    refine ⟨Γ2, ht, hx.imp fun y O3 ⟨ey, E2, e3⟩ => ⟨O', E2, e3, rfl, ?_⟩⟩
    rw [take_succ' hd, e2, ey]
    simp, fun acc O' ⟨e1, e2⟩ => by
    subst e1 e2
    rw [List.take_length]
    exact hr⟩
end
end T

set_option Elab.async false
set_option linter.all false
set_option maxRecDepth 100000
set_option maxHeartbeats 1000000
namespace K
open PySem PySem.Spec PyProof.Rows L2 T
/-! ### data of bounded depth -/
def Sh (n : Nat) (d : PyData) : Prop := d.canLay0 = true ∧ d.depth ≤ n
theorem sh_up {n m : Nat} {d : PyData} (h : Sh n d) (hn : n ≤ m) : Sh m d := ⟨h.1, Nat.le_trans h.2 hn⟩
theorem sh_int {i : Int} : Sh 0 (.int i) := ⟨rfl, Nat.le_refl _⟩
theorem sh_all {n : Nat} : ∀ {ds : List PyData}, (∀ d ∈ ds, Sh n d) → PyData.canLayAll0 ds = true ∧ PyData.depthAll ds ≤ n
  | [], _ => ⟨rfl, Nat.zero_le _⟩
  | d :: ds, h => by
    obtain ⟨a, b⟩ := sh_all fun x hx => h x (List.mem_cons_of_mem _ hx)
    obtain ⟨c, e⟩ := h d (by simp)
    refine ⟨?_, ?_⟩
    · show (d.canLay0 && PyData.canLayAll0 ds) = true
      rw [c, a]; rfl
    · show max d.depth (PyData.depthAll ds) ≤ n
      exact Nat.max_le.mpr ⟨e, b⟩
theorem sh_tup {n : Nat} {ds : List PyData} (h : ∀ d ∈ ds, Sh n d) : Sh (n + 1) (.tuple ds) := ⟨(sh_all h).1, Nat.succ_le_succ (sh_all h).2⟩
theorem sh_lst {n : Nat} {ds : List PyData} (h : ∀ d ∈ ds, Sh n d) : Sh (n + 1) (.list ds) := ⟨(sh_all h).1, Nat.succ_le_succ (sh_all h).2⟩
theorem Sh.shaped {n : Nat} {d : PyData} (h : Sh n d) (hn : n ≤ 64) : SeqAt.shaped d = true := by
  show (d.canLay0 && decide (d.depth ≤ 64)) = true
  rw [h.1, decide_eq_true (Nat.le_trans h.2 hn)]; rfl
theorem sh_ints {l : List Int} : ∀ d ∈ l.map PyData.int, Sh 0 d := fun d hd => by
  obtain ⟨i, _, rfl⟩ := List.mem_map.mp hd
  exact sh_int
theorem sh_rng {lo : Int} {n : Nat} : ∀ d ∈ rng lo n, Sh 0 d := fun d hd => by
  obtain ⟨i, _, rfl⟩ := rng_mem hd
  exact sh_int
theorem sh_rule {r : Rule} : Sh 1 (ruleD r) := sh_tup fun d hd => by
  simp at hd
  rcases hd with rfl | rfl | rfl <;> exact sh_int
theorem sh_row {r : List Rule} : Sh 2 (rowD r) := sh_tup fun d hd => by
  obtain ⟨i, _, rfl⟩ := List.mem_map.mp hd
  exact sh_rule
theorem sh_mach {m : Mach} : Sh 3 (machD m) := sh_tup fun d hd => by
  obtain ⟨i, _, rfl⟩ := List.mem_map.mp hd
  exact sh_row
theorem sh_cfg {c : Cfg} : Sh 2 (cfgD c) := sh_tup fun d hd => by
  simp at hd
  rcases hd with rfl | rfl | rfl | rfl
  · exact sh_up sh_int (by decide)
  · exact sh_up sh_int (by decide)
  · exact sh_up sh_int (by decide)
  · exact sh_tup sh_ints
theorem Sh.refl {n : Nat} {d : PyData} (h : Sh n d) : PyData.eqv d d = true := SeqAt.eqv_refl d h.1
theorem eqvAll_ints : ∀ {a b : List Int}, PyData.eqvAll (a.map PyData.int) (b.map PyData.int) = decide (a = b)
  | [], [] => rfl
  | [], _ :: _ => by simp [PyData.eqvAll]
  | _ :: _, [] => by simp [PyData.eqvAll]
  | x :: a, y :: b => by
    show ((x == y) && PyData.eqvAll (a.map PyData.int) (b.map PyData.int)) = _
    rw [eqvAll_ints (a := a), Bool.eq_iff_iff]
    simp
theorem rng0 {n : Nat} : rng 0 n = ((List.range n).map fun i : Nat => (i : Int)).map PyData.int := by
  unfold rng
  rw [List.map_map]
  apply List.map_congr_left
  intro i _
  show PyData.int (0 + (i : Int)) = PyData.int (i : Int)
  rw [Int.zero_add]
def rg (n : Nat) : List Int := (List.range n).map fun i : Nat => (i : Int)
theorem rg_mem {n : Nat} {x : Int} : x ∈ rg n ↔ 0 ≤ x ∧ x < n := by
  unfold rg
  rw [List.mem_map]
  constructor
  · rintro ⟨i, hi, rfl⟩
    have := List.mem_range.mp hi
    omega
  · intro h
    exact ⟨x.toNat, List.mem_range.mpr (by omega), by omega⟩
theorem rg_nodup {n : Nat} : (rg n).Nodup := by
  unfold rg
  refine List.Pairwise.map (R := fun a b : Nat => a ≠ b) _ (fun a b h z => h (by omega)) List.nodup_range
theorem rg_len {n : Nat} : (rg n).length = n := by unfold rg; simp
theorem rg_srt {n : Nat} : (rg n).Pairwise (· ≤ ·) := by
  unfold rg
  refine List.Pairwise.map (R := fun a b : Nat => a < b) _ (fun a b h => by show (a : Int) ≤ b; omega) List.pairwise_lt_range
/-- a list with all of another's items, of the same length -/
theorem perm_of_sub {α : Type} [DecidableEq α] : ∀ {a b : List α}, a.Nodup → (∀ x ∈ a, x ∈ b) → a.length = b.length → a.Perm b
  | [], b, _, _, hl => by
    have : b = [] := List.eq_nil_of_length_eq_zero (by simpa using hl.symm)
    subst this
    exact List.Perm.refl _
  | x :: a, b, hn, hs, hl => by
    have hx := hs x (by simp)
    obtain ⟨hxa, hna⟩ := List.nodup_cons.mp hn
    have hp := List.perm_cons_erase hx
    refine List.Perm.trans (List.Perm.cons x (perm_of_sub hna (fun y hy => ?_) ?_)) hp.symm
    · exact (List.mem_erase_of_ne (fun z : y = x => hxa (by rw [← z]; exact hy))).mpr (hs y (List.mem_cons_of_mem _ hy))
    · have := hp.length_eq
      simp at this hl
      omega
/-! ### renamings -/
def isNaming (d : PyData) (n : Int) : Bool := match d with
  | .list ds => (ds.all fun c => within c 0 (n - 1)) && (PyData.eqv (.list (ds.take 1)) (.list [.int 0]) && PyData.eqv (.list ((isort (ds.map valI)).map PyData.int)) (.list (rng 0 n.toNat)))
  | _ => false
def isOrder (ds : List PyData) (n : Int) : Bool := !(ds.any fun d => (!_root_.T.isInt d) || isBl d) && (decide ((ds.length : Int) = n) && (PyData.eqv (ds.getD 0 .none) (.int 0) && (rng 0 n.toNat).all fun k => ds.any fun z => PyData.eqv z k))
/-- what both say -/
def Naming (l : List Int) (n : Nat) : Prop := l.Perm (rg n) ∧ l.head? = some 0
theorem val_ints {l : List Int} : (l.map PyData.int).map valI = l := by
  rw [List.map_map]
  exact (List.map_congr_left (fun _ _ => rfl)).trans (List.map_id _)
theorem naming_ints {l : List Int} {n : Nat} : isNaming (.list (l.map PyData.int)) n = true ↔ Naming l n := by
  show ((l.map PyData.int).all (fun c => within c 0 ((n : Int) - 1)) && (PyData.eqv (.list ((l.map PyData.int).take 1)) (.list [.int 0]) && PyData.eqv (.list ((isort ((l.map PyData.int).map valI)).map PyData.int)) (.list (rng 0 (n : Int).toNat)))) = true ↔ _
  rw [val_ints, rng0, Int.toNat_natCast]
  have e1 : PyData.eqv (.list ((l.map PyData.int).take 1)) (.list [.int 0]) = decide (l.take 1 = [0]) := by
    show PyData.eqvAll ((l.map PyData.int).take 1) ([0].map PyData.int) = _
    rw [← List.map_take, eqvAll_ints]
  have e2 : PyData.eqv (.list ((isort l).map PyData.int)) (.list (((List.range n).map fun i : Nat => (i : Int)).map PyData.int)) = decide (isort l = rg n) := eqvAll_ints
  rw [e1, e2]
  simp only [Bool.and_eq_true, decide_eq_true_eq]
  constructor
  · rintro ⟨_, h1, h2⟩
    refine ⟨by rw [← h2]; exact isort_perm.symm, ?_⟩
    cases l with
    | nil => simp at h1
    | cons x l => simp at h1; subst h1; rfl
  · rintro ⟨h1, h2⟩
    refine ⟨?_, ?_, (isort_eq h1.symm rg_srt).symm⟩
    · rw [List.all_eq_true]
      intro d hd
      obtain ⟨i, hi, rfl⟩ := List.mem_map.mp hd
      have := rg_mem.mp (h1.mem_iff.mp hi)
      simp [within]; omega
    · cases l with
      | nil => simp at h2
      | cons x l => simp at h2; subst h2; rfl
theorem order_ints {l : List Int} {n : Nat} (hn : 1 ≤ n) : isOrder (l.map PyData.int) n = true ↔ Naming l n := by
  unfold isOrder
  have e0 : ((l.map PyData.int).any fun d => (!_root_.T.isInt d) || isBl d) = false := by
    rw [List.any_eq_false]
    intro d hd
    obtain ⟨i, _, rfl⟩ := List.mem_map.mp hd
    simp [_root_.T.isInt, isBl]
  rw [e0, rng0, Int.toNat_natCast]
  simp only [Bool.not_false, Bool.true_and, Bool.and_eq_true, decide_eq_true_eq, List.length_map]
  have e3 : (((List.range n).map fun i : Nat => (i : Int)).map PyData.int).all (fun k => (l.map PyData.int).any fun z => PyData.eqv z k) = true ↔ ∀ k ∈ rg n, k ∈ l := by
    rw [List.all_map, List.all_eq_true]
    constructor
    · intro h k hk
      have := h k hk
      rw [Function.comp, List.any_map, List.any_eq_true] at this
      obtain ⟨z, hz, e⟩ := this
      have e : (z == k) = true := e
      rw [← eq_of_beq e]; exact hz
    · intro h k hk
      rw [Function.comp, List.any_map, List.any_eq_true]
      exact ⟨k, h k hk, by show (k == k) = true; simp⟩
  rw [e3]
  constructor
  · rintro ⟨h1, h2, h3⟩
    refine ⟨(perm_of_sub rg_nodup h3 (by rw [rg_len]; omega)).symm, ?_⟩
    cases l with
    | nil => simp at h1; omega
    | cons x l =>
      have h2 : (x == 0) = true := h2
      rw [eq_of_beq h2]; rfl
  · rintro ⟨h1, h2⟩
    refine ⟨by have := h1.length_eq; rw [rg_len] at this; omega, ?_, fun k hk => h1.mem_iff.mpr hk⟩
    cases l with
    | nil => simp at h2
    | cons x l => simp at h2; subst h2; rfl
theorem int_of {d : PyData} (h : ((!_root_.T.isInt d) || isBl d) = false) : ∃ i, d = .int i := by
  cases d with
  | int i => exact ⟨i, rfl⟩
  | _ => simp [_root_.T.isInt, isBl] at h
theorem naming_order {ds : List PyData} {n : Nat} (hn : 1 ≤ n) : isNaming (.list ds) n = isOrder ds n := by
  cases hb : ds.any fun d => (!_root_.T.isInt d) || isBl d with
  | true =>
    have e1 : isOrder ds n = false := by unfold isOrder; rw [hb]; rfl
    rw [e1, Bool.eq_false_iff]
    intro h
    have h : ((ds.all fun c => within c 0 ((n : Int) - 1)) && _) = true := h
    rw [Bool.and_eq_true] at h
    obtain ⟨l, rfl, _⟩ := all_within h.1
    obtain ⟨d, hd, q⟩ := List.any_eq_true.mp hb
    obtain ⟨i, _, rfl⟩ := List.mem_map.mp hd
    simp [_root_.T.isInt, isBl] at q
  | false =>
    obtain ⟨l, rfl⟩ : ∃ l : List Int, ds = l.map PyData.int := by
      clear hn
      induction ds with
      | nil => exact ⟨[], rfl⟩
      | cons d ds ih =>
        rw [List.any_cons, Bool.or_eq_false_iff] at hb
        obtain ⟨i, rfl⟩ := int_of hb.1
        obtain ⟨l, rfl⟩ := ih hb.2
        exact ⟨i :: l, rfl⟩
    rw [Bool.eq_iff_iff, naming_ints, order_ints hn]
/-! ### renamed and mirrored machines -/
def mirR (r : Rule) : Rule := (r.1, -r.2.1, r.2.2)
def mirM (m : Mach) : Mach := m.map (·.map mirR)
def renRule (st sy : List Int) (r : Rule) : Rule := (sy.getD r.1.toNat 0, r.2.1, if r.2.2 = -1 then -1 else st.getD r.2.2.toNat 0)
def renRow (st sy : List Int) (r : List Rule) : List Rule := (rg sy.length).map fun i => renRule st sy (r.getD (sy.idxOf i) (0, 0, 0))
def renM (st sy : List Int) (m : Mach) : Mach := (rg st.length).map fun i => renRow st sy (m.getD (st.idxOf i) [])
theorem ok_mir {m : Mach} {S Y : Int} (h : OkMach m S Y) : OkMach (mirM m) S Y := by
  refine ⟨by unfold mirM; rw [List.length_map]; exact h.len, h.s1, h.s4, h.y2, h.y4, fun r hr => ?_, fun r hr t ht => ?_⟩
  · obtain ⟨q, hq, rfl⟩ := List.mem_map.mp hr
    rw [List.length_map]; exact h.row q hq
  · obtain ⟨q, hq, rfl⟩ := List.mem_map.mp hr
    obtain ⟨z, hz, rfl⟩ := List.mem_map.mp ht
    have k := h.rul q hq z hz
    exact ⟨k.w0, k.w1, by show -z.2.1 = -1 ∨ -z.2.1 = 1; rcases k.mv with e | e <;> rw [e] <;> simp, k.s0, k.s1⟩
theorem mir_mir {m : Mach} : mirM (mirM m) = m := by
  unfold mirM
  rw [List.map_map]
  refine (List.map_congr_left fun r _ => ?_).trans (List.map_id _)
  show (r.map mirR).map mirR = r
  rw [List.map_map]
  refine (List.map_congr_left fun t _ => ?_).trans (List.map_id _)
  show mirR (mirR t) = t
  unfold mirR
  simp
theorem nam_len {l : List Int} {n : Nat} (h : Naming l n) : l.length = n := by rw [h.1.length_eq, rg_len]
theorem nam_nodup {l : List Int} {n : Nat} (h : Naming l n) : l.Nodup := h.1.nodup_iff.mpr rg_nodup
theorem nam_in {l : List Int} {n : Nat} (h : Naming l n) {x : Int} : x ∈ l ↔ 0 ≤ x ∧ x < n := by rw [h.1.mem_iff]; exact rg_mem
theorem nam_get {l : List Int} {n : Nat} (h : Naming l n) {i : Nat} (hi : i < n) : 0 ≤ l.getD i 0 ∧ l.getD i 0 < n ∧ l[i]? = some (l.getD i 0) := by
  have hl : i < l.length := by rw [nam_len h]; exact hi
  have e : l.getD i 0 = l[i] := by simp [List.getD, List.getElem?_eq_getElem hl]
  have := (nam_in h).mp (List.getElem_mem hl)
  rw [e]
  exact ⟨this.1, this.2, List.getElem?_eq_getElem hl⟩
theorem idx_get {l : List Int} : l.Nodup → ∀ {i : Nat} {x : Int}, l[i]? = some x → l.idxOf x = i := by
  intro hn
  induction l with
  | nil => intro i x h; simp at h
  | cons a l ih =>
    obtain ⟨ha, hn⟩ := List.nodup_cons.mp hn
    intro i x h
    rw [List.idxOf_cons]
    cases i with
    | zero => simp at h; subst h; simp
    | succ i =>
      have h : l[i]? = some x := by simpa using h
      have hx : x ∈ l := List.mem_of_getElem? h
      have : (a == x) = false := by
        rw [beq_eq_false_iff_ne]
        intro z; subst z; exact ha hx
      rw [this]
      simp [ih hn h]
end K
namespace K
open PySem PySem.Spec PyProof.Rows L2 T
def mirD : PyData → PyData
  | .tuple [a, .int b, c] => .tuple [a, .int (-b), c]
  | _ => .none
def mirRowD : PyData → PyData
  | .tuple rs => .tuple (rs.map mirD)
  | _ => .none
theorem mir_row {r : List Rule} : mirRowD (rowD r) = rowD (r.map mirR) := by
  show PyData.tuple ((r.map ruleD).map mirD) = .tuple ((r.map mirR).map ruleD)
  rw [List.map_map, List.map_map]
  rfl
theorem mir_mach {m : Mach} : PyData.tuple ((m.map rowD).map mirRowD) = machD (mirM m) := by
  unfold machD mirM
  rw [List.map_map, List.map_map]
  congr 1
  exact List.map_congr_left fun r _ => mir_row
def sp_mirrored : SpT := fun cs O R _ => ∃ m S Y, cs = [.d (machD m)] ∧ OkMach m S Y ∧ R (.d (machD (mirM m))) O
def sp_naming : SpT := fun cs O R _ => ∃ d n, cs = [.d d, .d (.int (n : Nat))] ∧ n ≤ 100 ∧ (∀ ds, d = .list ds → ds.length ≤ 1000) ∧ R (.d (.bool (isNaming d n))) O
def sp_ren_rule : SpT := fun cs O R _ => ∃ r st sy S Y, cs = [.d (ruleD r), .d (.list (List.map PyData.int st)), .d (.list (List.map PyData.int sy))] ∧ OkRule S Y r ∧ (st.length : Int) = S ∧ (sy.length : Int) = Y ∧ R (.d (ruleD (renRule st sy r))) O
def sp_ren_row : SpT := fun cs O R _ => ∃ r st sy S Y, cs = [.d (rowD r), .d (.list (List.map PyData.int st)), .d (.list (List.map PyData.int sy))] ∧ (∀ t ∈ r, OkRule S Y t) ∧ (r.length : Int) = Y ∧ (st.length : Int) = S ∧ Naming sy r.length ∧ r.length ≤ 100 ∧ R (.d (rowD (renRow st sy r))) O
def sp_renamed (CB : Addr) : SpT := fun cs O R RX => ∃ m S Y a b, cs = [.d (machD m), .d a, .d b] ∧ OkMach m S Y ∧ (∀ ds, a = .list ds → ds.length ≤ 1000) ∧ (∀ ds, b = .list ds → ds.length ≤ 1000) ∧
  ((isNaming a S && isNaming b Y) = false → RX (.ref CB) O) ∧ (∀ st sy : List Int, a = .list (st.map PyData.int) → b = .list (sy.map PyData.int) → Naming st m.length → Naming sy Y.toNat → R (.d (machD (renM st sy m))) O)
end K
namespace K
open PySem PySem.Spec PyProof.Rows L2 T
theorem nam_ret {l : List Int} {n : Nat} (h : ((l.map PyData.int).all fun c => within c 0 ((n : Int) - 1)) = true) : isNaming (.list (l.map PyData.int)) n = (PyData.eqv (.list ((l.map PyData.int).take (1 : Int).toNat)) (.list [.int 0]) && PyData.eqv (.list ((isort l).map PyData.int)) (.list (rng 0 (n : Int).toNat))) := by
  show ((l.map PyData.int).all (fun c => within c 0 ((n : Int) - 1)) && (PyData.eqv (.list ((l.map PyData.int).take 1)) (.list [.int 0]) && PyData.eqv (.list ((isort ((l.map PyData.int).map valI)).map PyData.int)) (.list (rng 0 (n : Int).toNat)))) = _
  rw [h, val_ints]; rfl
theorem nam_no {ds : List PyData} {n : Int} (h : ((!isLst (.list ds)) || (!(ds.all fun c => within c 0 (n - 1)))) = true) : isNaming (.list ds) n = false := by
  have : (ds.all fun c => within c 0 (n - 1)) = false := by simpa [isLst] using h
  show ((ds.all fun c => within c 0 (n - 1)) && _) = false
  rw [this]; rfl
theorem nam_inv {ds : List PyData} {n : Int} (h : ((!isLst (.list ds)) || (!(ds.all fun c => within c 0 (n - 1)))) = false) : ∃ l : List Int, ds = l.map PyData.int ∧ ((l.map PyData.int).all fun c => within c 0 (n - 1)) = true := by
  have h2 : (ds.all fun c => within c 0 (n - 1)) = true := by simpa [isLst] using h
  obtain ⟨l, rfl, _⟩ := all_within h2
  exact ⟨l, rfl, h2⟩
theorem naming_lst {d : PyData} {n : Nat} (h : isNaming d n = true) : ∃ l : List Int, d = .list (l.map PyData.int) ∧ Naming l n := by
  cases d with
  | list ds =>
    have h' : ((ds.all fun c => within c 0 ((n : Int) - 1)) && (PyData.eqv (.list (ds.take 1)) (.list [.int 0]) && PyData.eqv (.list ((isort (ds.map valI)).map PyData.int)) (.list (rng 0 (n : Int).toNat)))) = true := h
    rw [Bool.and_eq_true] at h'
    obtain ⟨l, rfl, _⟩ := all_within h'.1
    exact ⟨l, rfl, naming_ints.mp h⟩
  | _ => cases h
theorem getI {l : List Int} {i : Nat} (h : i < l.length) : (l.map PyData.int)[i]? = some (.int (l.getD i 0)) := by
  rw [List.getElem?_map, List.getElem?_eq_getElem h]
  simp [List.getD, List.getElem?_eq_getElem h]
theorem getR {r : List Rule} {i : Nat} (h : i < r.length) : (r.map ruleD)[i]? = some (ruleD (r.getD i (0, 0, 0))) := by
  rw [List.getElem?_map, List.getElem?_eq_getElem h]
  simp [List.getD, List.getElem?_eq_getElem h]
theorem getM {m : Mach} {i : Nat} (h : i < m.length) : (m.map rowD)[i]? = some (rowD (m.getD i [])) := by
  rw [List.getElem?_map, List.getElem?_eq_getElem h]
  simp [List.getD, List.getElem?_eq_getElem h]
theorem getR_mem {r : List Rule} {i : Nat} (h : i < r.length) : r.getD i (0, 0, 0) ∈ r := by
  have : r.getD i (0, 0, 0) = r[i] := by simp [List.getD, List.getElem?_eq_getElem h]
  rw [this]; exact List.getElem_mem h
theorem getM_mem {m : Mach} {i : Nat} (h : i < m.length) : m.getD i [] ∈ m := by
  have : m.getD i [] = m[i] := by simp [List.getD, List.getElem?_eq_getElem h]
  rw [this]; exact List.getElem_mem h
theorem idx_lt {l : List Int} {n : Nat} (h : Naming l n) {i : Nat} (hi : i < n) : ((0 : Int) + i) ∈ l ∧ l.idxOf ((0 : Int) + i) < n := by
  have hm : ((0 : Int) + i) ∈ l := (nam_in h).mpr (by omega)
  exact ⟨hm, by have := List.idxOf_lt_length_of_mem hm; rw [nam_len h] at this; exact this⟩
theorem ren_row_eq {r : List Rule} {st sy : List Int} : (rng 0 ((sy.map PyData.int).length : Int).toNat).map (fun d => ruleD (renRule st sy (r.getD (sy.idxOf (valI d)) (0, 0, 0)))) = (renRow st sy r).map ruleD := by
  unfold renRow rng rg
  rw [List.map_map, List.map_map, List.map_map, List.length_map, Int.toNat_natCast]
  refine List.map_congr_left fun i _ => ?_
  show ruleD (renRule st sy (r.getD (sy.idxOf ((0 : Int) + i)) (0, 0, 0))) = ruleD (renRule st sy (r.getD (sy.idxOf (i : Int)) (0, 0, 0)))
  rw [Int.zero_add]
theorem ren_m_eq {m : Mach} {st sy : List Int} : (rng 0 ((st.map PyData.int).length : Int).toNat).map (fun d => rowD (renRow st sy (m.getD (st.idxOf (valI d)) []))) = (renM st sy m).map rowD := by
  unfold renM rng rg
  rw [List.map_map, List.map_map, List.map_map, List.length_map, Int.toNat_natCast]
  refine List.map_congr_left fun i _ => ?_
  show rowD (renRow st sy (m.getD (st.idxOf ((0 : Int) + i)) [])) = rowD (renRow st sy (m.getD (st.idxOf (i : Int)) []))
  rw [Int.zero_add]
end K
namespace T
open PySem PySem.Spec PyProof.Rows L2
section
variable {Y : Fam} {e : Expr} {Γ : Gam} {O : Sto} {R : C → Sto → Prop} {RT : Bool → Sto → Prop} {K : PySem.W.Frag}
theorem prd_emp {α β : Type} {F : α → β → Prop} {a : List α} {b : List β} (h : Paired F a b) : b.isEmpty = a.isEmpty := by cases h <;> rfl
theorem xt_truO (h : XE Y e Γ O fun c O1 => ∃ k cs, c = .o k ∧ O1[k]? = some (.lst cs) ∧ RT (!cs.isEmpty) O1) (he : ∀ i whole, isTrue e (Y.X i).env whole = (do let v ← whole; standAt e.pos; holding [v] (truthy v)) := by intro _ _; rfl) : XT Y e Γ O RT :=
  xt_of (te := fun σ H Q => wpE Y e σ H fun x H' => ∃ k, TruV Y.K x H' k ∧ Q k H') (fun i => by rw [← Y.hK i]; exact pt_truth (peW i) (he i)) fun F as σ H Q S L tx t => h F as σ H _ S L tx fun F1 as1 c v O1 H1 g1 S1 r1 ⟨k, cs, ec, hO, h1⟩ => by
    subst ec
    obtain ⟨a, ha, rfl⟩ := r1
    obtain ⟨_, vs, e1, p1⟩ := S1.lst ha hO
    refine ⟨!cs.isEmpty, .inl ⟨vs, SqL.of e1, by rw [prd_emp p1]⟩, t F1 as1 _ _ O1 H1 g1 S1 rfl h1⟩
theorem wsl_own {k : Nat} {ds : List PyData} {lo hi : Option Int} (hO : O[k]? = some (.lst (ds.map C.d))) (r : R (.o O.length) (O ++ [.lst ((cutD ds lo hi).map C.d)])) : WSl K (.o k) lo hi O R := fun F as H x Q S rx t => by
  obtain ⟨a, ha, rfl⟩ := rx
  obtain ⟨_, vs, e1, p1⟩ := S.lst ha hO
  refine .inr (.inl ⟨a, vs, rfl, SqL.of e1, fun p hp => ?_⟩)
  obtain ⟨S2, g2⟩ := S.own (cs := (cutD ds lo hi).map C.d) hp (of_all (dpall_cut (all_of p1) lo hi))
  exact t _ _ (.o O.length) _ _ _ g2 S2 ⟨p, by rw [← S.len]; simp, rfl⟩ r
end
theorem ixN_int {n : Nat} {i : Int} (h0 : 0 ≤ i) (h : i < n) : ixN n i = some i.toNat := by
  unfold ixN
  rw [if_pos h0, if_pos h]
theorem cutD_mem {ds : List PyData} {lo hi : Option Int} {d : PyData} (h : d ∈ cutD ds lo hi) : d ∈ ds := List.mem_of_mem_drop (List.mem_of_mem_take h)
end T
namespace K
open PySem PySem.Spec PyProof.Rows L2 T
structure OrdOk (ds : List PyData) : Prop where
  len : ds.length ≤ 20
  sh : ∀ d ∈ ds, Sh 2 d
def sp_order : SpT := fun cs O R _ => ∃ k u n, cs = [.o k, .d (.int (n : Nat))] ∧ O[k]? = some u ∧ IsStrm u ∧ 1 ≤ n ∧ n ≤ 8 ∧ ∀ ds u', OrdOk ds → IsStrm u' → R (.d (.list ds)) (O.set k u')
theorem order_use {k : Nat} {u : Ob} {n : Nat} {O : Sto} {R : C → Sto → Prop} {RX : Value → Sto → Prop} (h1 : O[k]? = some u) (h2 : IsStrm u) (h3 : 1 ≤ n) (h4 : n ≤ 8) (h5 : ∀ ds u', OrdOk ds → IsStrm u' → R (.d (.list ds)) (O.set k u')) : sp_order [.o k, .d (.int (n : Nat))] O R RX := ⟨k, u, n, rfl, h1, h2, h3, h4, h5⟩
def sp_is_order : SpT := fun cs O R _ => ∃ ds n, cs = [.d (.list ds), .d (.int (n : Nat))] ∧ 1 ≤ n ∧ n ≤ 100 ∧ OrdOk ds ∧ R (.d (.bool (isOrder ds n))) O
def sp_givenM : SpT := fun cs O R _ => ∃ m S Y, cs = [.d (machD m)] ∧ OkMach m S Y ∧ R (.d (machD m)) O
def listI : PyData → List Int
  | .list ds => ds.map valI
  | _ => []
def toldF (m : Mach) (S Y : Int) (a b : PyData) : PyData := if isNaming a S && isNaming b Y then machD (renM (listI a) (listI b) m) else .none
def sp_told4 : SpT := fun cs O R _ => ∃ m S Y a b, cs = [.d (machD m), .d a, .d b] ∧ OkMach m S Y ∧ (∀ ds, a = .list ds → ds.length ≤ 1000) ∧ (∀ ds, b = .list ds → ds.length ≤ 1000) ∧ R (.d (toldF m S Y a b)) O
def sucD : PyData → PyData
  | .int i => .int (i + 1)
  | _ => .none
theorem suc_sh {n : Nat} : ∀ d ∈ (rng 0 n).map sucD, Sh 2 d := fun d hd => by
  obtain ⟨x, hx, rfl⟩ := List.mem_map.mp hd
  obtain ⟨i, _, rfl⟩ := rng_mem hx
  exact sh_up sh_int (by decide)
/-- the state of an order that is being made -/
structure Ord (rows found : List PyData) (u : Ob) (n : Nat) : Prop where
  len : rows.length + found.length = n
  one : 1 ≤ found.length
  r : ∀ d ∈ rows, Sh 2 d
  f : ∀ d ∈ found, Sh 2 d
  u : IsStrm u
theorem ord_pop {rows found : List PyData} {u u' : Ob} {n i : Nat} {y : PyData} (h : Ord rows found u n) (hy : rows[i]? = some y) (hu : IsStrm u') : Ord (rows.eraseIdx i) (found ++ [y]) u' n := by
  have hlt : i < rows.length := (List.getElem?_eq_some_iff.mp hy).1
  refine ⟨?_, ?_, fun d hd => h.r d (List.mem_of_mem_eraseIdx hd), fun d hd => ?_, hu⟩
  · have := h.len
    rw [List.length_eraseIdx_of_lt hlt, List.length_append]
    simp; omega
  · simp
  · rcases List.mem_append.mp hd with z | z
    · exact h.f d z
    · simp at z; subst z; exact h.r _ (List.mem_of_getElem? hy)
theorem cut_ok {ds : List PyData} {lo hi : Option Int} (h : ∀ d ∈ ds, Sh 2 d) : ∀ d ∈ cutD ds lo hi, Sh 2 d := fun d hd => h d (cutD_mem hd)
theorem sh_app {n : Nat} {a b : List PyData} (h1 : ∀ d ∈ a, Sh n d) (h2 : ∀ d ∈ b, Sh n d) : ∀ d ∈ a ++ b, Sh n d := fun d hd => (List.mem_append.mp hd).elim (h1 d) (h2 d)
theorem sh_one {n : Nat} {i : Int} : ∀ d ∈ [PyData.int i], Sh n d := fun d hd => by simp at hd; subst hd; exact sh_up sh_int (Nat.zero_le _)
theorem isOrder_r {ds : List PyData} {n : Int} (h : (ds.any fun d => (!_root_.T.isInt d) || isBl d) = false) : isOrder ds n = (decide ((ds.length : Int) = n) && (PyData.eqv (ds.getD 0 .none) (.int 0) && (rng 0 n.toNat).all fun k => ds.any fun z => PyData.eqv z k)) := by
  unfold isOrder
  rw [h]; rfl
theorem isOrder_n {ds : List PyData} {n : Int} (h : (ds.any fun d => (!_root_.T.isInt d) || isBl d) = true) : isOrder ds n = false := by
  unfold isOrder
  rw [h]; rfl
theorem eraseIdx_map {α β : Type} {f : α → β} : ∀ {l : List α} {i : Nat}, (l.eraseIdx i).map f = (l.map f).eraseIdx i
  | [], _ => rfl
  | _ :: _, 0 => rfl
  | a :: l, i + 1 => congrArg (f a :: ·) (eraseIdx_map (l := l) (i := i))
theorem menu_sh {i : Nat} {d : PyData} {ds : List PyData} (hd : ds[i]? = some d) (h : (ds.all fun d => d.canLay0 && decide (d.depth ≤ 2)) = true := by decide +kernel) : Sh 2 d := by
  have q := List.all_eq_true.mp h d (List.mem_of_getElem? hd)
  rw [Bool.and_eq_true] at q
  exact ⟨q.1, of_decide_eq_true q.2⟩
end K
namespace K
open PySem PySem.Spec PyProof.Rows L2 T
theorem given_no {m : Mach} (h : 1 ≤ m.length) : ((([PyData.tuple [.str "refused"], .tuple [.str "large"], .tuple [.str "wide"]] : List PyData).any fun z => PyData.eqv z (.tuple ((m.map rowD).take (1 : Int).toNat)))) = false := by
  cases m with
  | nil => simp at h
  | cons r m => rfl
theorem sh_order {ds : List PyData} (h : OrdOk ds) : Sh 3 (.list ds) := sh_lst h.sh
theorem sh_take {m : Mach} {k : Nat} : Sh 3 (.tuple ((m.map rowD).take k)) := sh_tup fun d hd => by
  obtain ⟨r, _, rfl⟩ := List.mem_map.mp (List.mem_of_mem_take hd)
  exact sh_row
end K
namespace K
open PySem PySem.Spec PyProof.Rows L2 T
theorem ren_ok {m : Mach} {S Y : Int} {st sy : List Int} (hm : OkMach m S Y) (h1 : Naming st m.length) (h2 : Naming sy Y.toNat) : OkMach (renM st sy m) S Y := by
  have hS := hm.len
  have hS1 := hm.s1
  have hY := hm.y2
  have l1 := nam_len h1
  have l2 := nam_len h2
  refine ⟨by unfold renM; rw [List.length_map, rg_len, l1]; exact hS, hm.s1, hm.s4, hm.y2, hm.y4, fun r hr => ?_, fun r hr t ht => ?_⟩
  · obtain ⟨i, hi, rfl⟩ := List.mem_map.mp hr
    unfold renRow
    rw [List.length_map, rg_len, l2]; omega
  · obtain ⟨i, hi, rfl⟩ := List.mem_map.mp hr
    obtain ⟨j, hj, rfl⟩ := List.mem_map.mp ht
    rw [rg_mem, l1] at hi
    rw [rg_mem, l2] at hj
    have a1 : st.idxOf i < m.length := by
      have := List.idxOf_lt_length_of_mem ((nam_in h1).mpr hi); rw [l1] at this; exact this
    have hrow := hm.row _ (getM_mem a1)
    have a2 : sy.idxOf j < (m.getD (st.idxOf i) []).length := by
      have := List.idxOf_lt_length_of_mem ((nam_in h2).mpr hj); rw [l2] at this; omega
    have k := hm.rul _ (getM_mem a1) _ (getR_mem a2)
    generalize (m.getD (st.idxOf i) []).getD (sy.idxOf j) (0, 0, 0) = r at k
    obtain ⟨w, v, t⟩ := r
    obtain ⟨k1, k2, k3, k4, k5⟩ := k
    dsimp only at k1 k2 k3 k4 k5
    have b1 := nam_get h2 (i := w.toNat) (by omega)
    refine ⟨b1.1, ?_, k3, ?_, ?_⟩
    · show sy.getD w.toNat 0 < Y
      have := b1.2.1; omega
    · show -1 ≤ (if t = -1 then -1 else st.getD t.toNat 0)
      split
      · omega
      · have := (nam_get h1 (i := t.toNat) (by omega)).1; omega
    · show (if t = -1 then -1 else st.getD t.toNat 0) < S
      split
      · omega
      · have := (nam_get h1 (i := t.toNat) (by omega)).2.1; omega
theorem told_ret {m : Mach} {S Y : Int} {a b : PyData} {st sy : List Int} {R : C → Sto → Prop} {O : Sto} (h : R (.d (toldF m S Y a b)) O) (ea : a = .list (st.map PyData.int)) (eb : b = .list (sy.map PyData.int)) (hm : OkMach m S Y) (h1 : Naming st m.length) (h2 : Naming sy Y.toNat) : R (.d (machD (renM st sy m))) O := by
  have e1 : isNaming a S = true := by rw [ea, ← hm.len]; exact naming_ints.mpr h1
  have e2 : isNaming b Y = true := by
    have hY := hm.y2
    rw [eb, show Y = ((Y.toNat : Nat) : Int) by omega]; exact naming_ints.mpr h2
  unfold toldF at h
  rw [e1, e2, ea, eb] at h
  have v1 : listI (.list (st.map PyData.int)) = st := val_ints
  have v2 : listI (.list (sy.map PyData.int)) = sy := val_ints
  rw [v1, v2] at h
  exact h
end K
namespace K
open PySem PySem.Spec PyProof.Rows L2 T
theorem odd_nl {i : Nat} {d t : PyData} (ht : ∀ ds, t ≠ .list ds) (h : ([PyData.none, .str "01", t, .int 0] : List PyData)[i]? = some d) : (∀ ds, d ≠ .list ds) := by
  have := List.mem_of_getElem? h
  simp at this
  rcases this with rfl | rfl | rfl | rfl
  · exact fun ds e => nomatch e
  · exact fun ds e => nomatch e
  · exact ht
  · exact fun ds e => nomatch e
theorem naming_nl {d : PyData} {n : Int} (h : ∀ ds, d ≠ .list ds) : isNaming d n = false := by
  cases d with
  | list ds => exact absurd rfl (h ds)
  | _ => rfl
theorem told_a {m : Mach} {S Y : Int} {a b : PyData} (h : ∀ ds, a ≠ .list ds) : toldF m S Y a b = .none := by
  unfold toldF
  rw [naming_nl h]; rfl
theorem told_b {m : Mach} {S Y : Int} {a b : PyData} (h : ∀ ds, b ≠ .list ds) : toldF m S Y a b = .none := by
  unfold toldF
  rw [naming_nl (d := b) h, Bool.and_false]; rfl
theorem told_no {m : Mach} {S Y : Int} {n1 n2 : Nat} {a b : List PyData} (e1 : (n1 : Int) = S) (e2 : (n2 : Int) = Y) (h1 : 1 ≤ n1) (h2 : 1 ≤ n2) (h : ((!isOrder a n1) || (!isOrder b n2)) = true) : toldF m S Y (.list a) (.list b) = .none := by
  subst e1 e2
  unfold toldF
  rw [naming_order h1, naming_order h2]
  have : (isOrder a n1 && isOrder b n2) = false := by
    rw [← Bool.not_eq_true, Bool.and_eq_true]
    rintro ⟨q1, q2⟩
    rw [q1, q2] at h
    cases h
  rw [this]; rfl
theorem told_yes {m : Mach} {S Y : Int} {n1 n2 : Nat} {a b : List PyData} (e1 : (n1 : Int) = S) (e2 : (n2 : Int) = Y) (h1 : 1 ≤ n1) (h2 : 1 ≤ n2) (h : ((!isOrder a n1) || (!isOrder b n2)) = false) :
    ∃ st sy : List Int, a = st.map PyData.int ∧ b = sy.map PyData.int ∧ Naming st n1 ∧ Naming sy n2 ∧ toldF m S Y (.list (st.map PyData.int)) (.list (sy.map PyData.int)) = machD (renM st sy m) := by
  subst e1 e2
  rw [Bool.or_eq_false_iff] at h
  have q1 : isNaming (.list a) n1 = true := by rw [naming_order h1]; simpa using h.1
  have q2 : isNaming (.list b) n2 = true := by rw [naming_order h2]; simpa using h.2
  obtain ⟨st, ea, hs⟩ := naming_lst q1
  obtain ⟨sy, eb, hy⟩ := naming_lst q2
  cases ea
  cases eb
  refine ⟨st, sy, rfl, rfl, hs, hy, ?_⟩
  unfold toldF
  rw [q1, q2]
  have v1 : listI (.list (st.map PyData.int)) = st := val_ints
  have v2 : listI (.list (sy.map PyData.int)) = sy := val_ints
  rw [v1, v2]; rfl
theorem rg_get {n k : Nat} (h : k < n) : (rg n)[k]? = some (k : Int) := by
  unfold rg
  rw [List.getElem?_map, List.getElem?_range h]
  rfl
theorem ren_at {m : Mach} {st sy : List Int} {i : Nat} (h1 : Naming st m.length) (hi : i < m.length) : ((renM st sy m).map rowD)[(st.getD i 0).toNat]? = some (rowD (renRow st sy (m.getD i []))) := by
  obtain ⟨a, b, c⟩ := nam_get h1 hi
  have e : st.idxOf (st.getD i 0) = i := idx_get (nam_nodup h1) c
  have hl : (st.getD i 0).toNat < st.length := by rw [nam_len h1]; omega
  unfold renM
  rw [List.map_map, List.getElem?_map, rg_get hl, Int.toNat_of_nonneg a]
  show some (rowD (renRow st sy (m.getD (st.idxOf (st.getD i 0)) []))) = _
  rw [e]
theorem ren_at2 {r : List Rule} {st sy : List Int} {j : Nat} (h1 : Naming sy r.length) (hj : j < r.length) : ((renRow st sy r).map ruleD)[(sy.getD j 0).toNat]? = some (ruleD (renRule st sy (r.getD j (0, 0, 0)))) := by
  obtain ⟨a, b, c⟩ := nam_get h1 hj
  have e : sy.idxOf (sy.getD j 0) = j := idx_get (nam_nodup h1) c
  have hl : (sy.getD j 0).toNat < sy.length := by rw [nam_len h1]; omega
  unfold renRow
  rw [List.map_map, List.getElem?_map, rg_get hl, Int.toNat_of_nonneg a]
  show some (ruleD (renRule st sy (r.getD (sy.idxOf (sy.getD j 0)) (0, 0, 0)))) = _
  rw [e]
theorem ren_eq {st sy : List Int} {t : Rule} : PyData.eqv (ruleD (renRule st sy t)) (.tuple [.int (sy.getD t.1.toNat 0), .int t.2.1, .int (if t.2.2 = -1 then -1 else st.getD t.2.2.toNat 0)]) = true := sh_rule.refl
theorem aft_eq {x y : Int} (h : x = -1) : x = if x = -1 then -1 else y := by rw [if_pos h]; exact h
end K

set_option Elab.async false
set_option linter.all false
set_option maxRecDepth 100000
set_option maxHeartbeats 1000000
namespace T
open PySem PySem.Spec PyProof.Rows L2
/-! ### instances -/
/-- the fields of an instance, one written -/
def putFC (f : Str) (c : C) : List (Str × C) → List (Str × C)
  | [] => [(f, c)]
  | p :: r => if p.1 = f then (p.1, c) :: r else p :: putFC f c r
section
variable {K : PySem.W.Frag} {F H : Hp} {as : List Addr} {O : Sto}
theorem fld_rel {fs : List (Str × C)} {gs : List (Str × V)} (h : Paired (FsR K F as) fs gs) (f : Str) : (∃ c v, fs.lookup f = some c ∧ gs.lookup f = some v ∧ CR K F as c v) ∨ (fs.lookup f = none ∧ gs.lookup f = none) := by
  induction h with
  | nil => exact .inr ⟨rfl, rfl⟩
  | @cons p q ps qs r _ ih =>
    obtain ⟨p1, p2⟩ := p
    obtain ⟨q1, q2⟩ := q
    obtain ⟨e, r⟩ := r
    simp only at e r
    subst e
    rw [List.lookup_cons, List.lookup_cons]
    cases hb : f == p1 with
    | true => exact .inl ⟨p2, q2, rfl, rfl, r⟩
    | false => exact ih
theorem putF_rel {fs : List (Str × C)} {gs : List (Str × V)} (h : Paired (FsR K F as) fs gs) {f : Str} {c : C} {v : V} (r : CR K F as c v) : Paired (FsR K F as) (putFC f c fs) (putF f v gs) := by
  induction h with
  | nil => exact .cons ⟨rfl, r⟩ .nil
  | @cons p q ps qs r' t ih =>
    obtain ⟨p1, p2⟩ := p
    obtain ⟨q1, q2⟩ := q
    obtain ⟨e, r'⟩ := r'
    simp only at e r'
    subst e
    unfold putFC putF
    by_cases hk : p1 = f
    · rw [if_pos hk, if_pos hk]; exact .cons ⟨rfl, r⟩ t
    · rw [if_neg hk, if_neg hk]; exact .cons ⟨rfl, r'⟩ ih
theorem Sat.ins {k : Nat} {a cl dx : Addr} {fs : List (Str × C)} (S : Sat K F H as O) (ha : as[k]? = some a) (hO : O[k]? = some (.ins cl dx fs)) : F a = none ∧ ∃ gs, H a = some (.ins cl dx gs) ∧ Paired (FsR K F as) fs gs := by
  obtain ⟨hF, o, e, gs, rfl, r⟩ := S.obG ha hO (by intro z; cases z)
  exact ⟨hF, gs, e, r⟩
/-- a new object of which nothing is kept -/
theorem Sat.skip {p : Addr} {o : HO} (S : Sat K F H as O) (h : H p = none) : Sat K F (upd H p o) as O := by
  have hF : F p = none := S.ex.free h
  refine ⟨fun b u e => ?_, S.nd, S.len, fun a ha => ?_, fun k a u ha hu => ?_⟩
  · rw [upd_ne (ne_of_none e hF)]; exact S.ex b u e
  · have n := S.al a ha
    have hap : a ≠ p := fun z => n (z ▸ h)
    rw [upd_ne hap]; exact n
  · have n := S.al a (List.mem_of_getElem? ha)
    have hap : a ≠ p := fun z => n (z ▸ h)
    exact (S.ob k a u ha hu).imp id fun ⟨o', e, r, q1⟩ => ⟨o', by rw [upd_ne hap]; exact e, r, q1⟩
end
section
variable {Y : Fam} {e a b o value : Expr} {es : List Expr} {st : Stmt} {Γ : Gam} {O : Sto} {R : C → Sto → Prop} {E : En} {pos p pos' tpos apos : Pos} {x f m : Str} {Cl : Addr} {sp : SpT}
/-- e.f, an attribute of an owned instance -/
theorem xe_fld (hC : Cls Y.K Cl) (hn : NoAttr Y.K Cl f) (h : XE Y e Γ O fun c1 O1 => ∃ k dx fs c, c1 = .o k ∧ O1[k]? = some (.ins Cl dx fs) ∧ fs.lookup f = some c ∧ R c O1)
    (hb : ∀ i, attributeBase e f (Y.X i).env (eval e (Y.X i).env) = eval e (Y.X i).env := by exact fun _ => rfl) : XE Y (.Attribute e f pos) Γ O R :=
  xe_of (te := tFld Y.K (wpE Y e) f) (fun i => by have := pe_fld (pos := pos) (peW i) (hb i); rw [Y.hK] at this; exact this) fun F as σ H Q S L tx t => h F as σ H _ S L tx fun F1 as1 c1 v1 O1 H1 g1 S1 r1 ⟨k, dx, fs, c, e1, hO, hl, h1⟩ => by
    subst e1
    obtain ⟨ad, ha, rfl⟩ := r1
    obtain ⟨hF, gs, hH, rr⟩ := S1.ins ha hO
    rcases fld_rel rr f with ⟨c', v', f1, f2, f3⟩ | ⟨f1, f2⟩
    · rw [hl] at f1
      cases f1
      exact ⟨ad, Cl, dx, gs, v', rfl, hH, hC, hn, f2, t F1 as1 c v' O1 H1 g1 S1 f3 h1⟩
    · rw [hl] at f1; cases f1
/-- o.f = value -/
theorem xs_fld (hC : Cls Y.K Cl) (hn : NoAttr Y.K Cl f) (h : XE Y value Γ O fun c1 O1 => XE Y o Γ O1 fun c2 O2 => ∃ k dx fs, c2 = .o k ∧ O2[k]? = some (.ins Cl dx fs) ∧ fs.length < 1000 ∧ E.nx Γ (O2.set k (.ins Cl dx (putFC f c1 fs))))
    (hs : ∀ i, swapsWith value (some (.Attribute o f pos')) pos.line (Y.X i).env = pure false := by exact fun _ => rfl) : XS Y (.Assign [.Attribute o f pos'] value pos) Γ O E :=
  xs_of (te := sFld Y.K (wpE Y o) (wpE Y value) f) (fun i => by have := ps_fld (X := Y.X i) (peW i) (peW i) (hs i); rw [Y.hK] at this; exact this) fun F as σ H D S L tx t => h F as σ H _ S L tx fun F1 as1 c1 v1 O1 H1 g1 S1 r1 h1 =>
    h1 F1 as1 σ H1 _ S1 (L.mono g1) (tx.mono g1) fun F2 as2 c2 v2 O2 H2 g2 S2 r2 ⟨k, dx, fs, e2, hO, hz, h2⟩ => by
      subst e2
      obtain ⟨ad, ha, rfl⟩ := r2
      obtain ⟨hF, gs, hH, rr⟩ := S2.ins ha hO
      refine ⟨ad, Cl, dx, gs, rfl, hH, hC, hn, by rw [← pr_len rr]; exact hz, ?_⟩
      exact t.nx F2 as2 Γ σ _ _ (g1.trans g2) (S2.putG ha hF (u1 := .ins Cl dx (putFC f c1 fs)) ⟨_, rfl, putF_rel rr (r1.mono g2)⟩) (L.mono (g1.trans g2)) h2
/-- o.f op= value, of numbers -/
theorem xs_fldaug {op : Operator} {rd : V → V → Hp → VK → Prop} (hC : Cls Y.K Cl) (hn : NoAttr Y.K Cl f) (ho : ∀ i, InOp (Y.X i) op rd)
    (h : XE Y o Γ O fun c1 O1 => ∃ k dx fs c, c1 = .o k ∧ O1[k]? = some (.ins Cl dx fs) ∧ fs.lookup f = some c ∧ XE Y value Γ O1 fun c2 O2 => W2 Y.K rd c c2 O2 fun c3 O3 => ∃ dx' fs', O3[k]? = some (.ins Cl dx' fs') ∧ fs'.length < 1000 ∧ E.nx Γ (O3.set k (.ins Cl dx' (putFC f c3 fs')))) : XS Y (.AugAssign (.Attribute o f tpos) op value pos) Γ O E :=
  xs_of (te := sFldAug Y.K (wpE Y o) (wpE Y value) rd f) (fun i => by have := ps_fldaug (X := Y.X i) (pos := pos) (tpos := tpos) (f := f) (peW (e := o) i) (peW (e := value) i) (ho i); rw [Y.hK] at this; exact this) fun F as σ H D S L tx t => h F as σ H _ S L tx fun F1 as1 c1 v1 O1 H1 g1 S1 r1 ⟨k, dx, fs, c, e1, hO, hl, h1⟩ => by
    subst e1
    obtain ⟨ad, ha, rfl⟩ := r1
    obtain ⟨hF, gs, hH, rr⟩ := S1.ins ha hO
    rcases fld_rel rr f with ⟨c', v', f1, f2, f3⟩ | ⟨f1, f2⟩
    · rw [hl] at f1
      cases f1
      refine ⟨ad, Cl, dx, gs, v', rfl, hH, hC, hn, f2, ?_⟩
      refine h1 F1 as1 σ H1 _ S1 (L.mono g1) (tx.mono g1) fun F2 as2 c2 v2 O2 H2 g2 S2 r2 h2 => ?_
      refine h2 F2 as2 H2 v' v2 _ S2 (f3.mono g2) r2 fun F3 as3 c3 v3 O3 H3 g3 S3 r3 ⟨dx', fs', hO3, hz, h3⟩ => ?_
      have ha3 := px_get g3.px (px_get g2.px ha)
      obtain ⟨hF3, gs3, hH3, rr3⟩ := S3.ins ha3 hO3
      refine ⟨dx', gs3, hH3, by rw [← pr_len rr3]; exact hz, ?_⟩
      exact t.nx F3 as3 Γ σ _ _ (g1.trans (g2.trans g3)) (S3.putG ha3 hF3 (u1 := .ins Cl dx' (putFC f c3 fs')) ⟨_, rfl, putF_rel rr3 r3⟩) (L.mono (g1.trans (g2.trans g3))) h3
    · rw [hl] at f1; cases f1
/-- the method m of the class at Cl keeps sp (self in front) -/
structure FnM (P : Program) (w : World) (K : PySem.W.Frag) (mg : Str → Option Value) (base : Heap) (lev : Nat) (Cl : Addr) (m : Str) (sp : SpT) : Prop where
  ex : ∃ (f : Addr) (fd : FuncData) (ps : List Str) (k : Nat), k ≤ lev ∧ FnOk P w K mg base (L2.CX P w) k f fd ps (spOf K sp) ∧ Meth K Cl m f ∧ Binds K fd ps []
theorem FnM.up {P w K mg base j k Cl m sp} (G : FnM P w K mg base j Cl m sp) (h : j ≤ k) : FnM P w K mg base k Cl m sp := let ⟨f, fd, ps, i, hi, q⟩ := G.ex; ⟨f, fd, ps, i, Nat.le_trans hi h, q⟩
abbrev Fam.FnM (Y : Fam) (Cl : Addr) (m : Str) (sp : SpT) : Prop := T.FnM Y.P Y.w Y.K Y.mg Y.base Y.lev Cl m sp
/-- o.m(e, ..) -/
theorem xe_methI (G : Y.FnM Cl m sp) (hC : Cls Y.K Cl) (h : XE Y o Γ O fun c1 O1 => ∃ k dx fs, c1 = .o k ∧ O1[k]? = some (.ins Cl dx fs) ∧ fs.lookup m = none ∧ XA Y (e :: es) Γ O1 fun cs O2 => sp (.o k :: cs) O2 R Y.RX) (hc : Y.cl = true := by rfl)
    (hst : ∀ i, starEach (e :: es) (Y.X i).env = (false, eval e (Y.X i).env) :: starEach es (Y.X i).env := by exact fun _ => rfl) (hpl : ∀ i, (backTo pos (starEach es (Y.X i).env)).any (·.1) = false := by exact fun _ => rfl)
    {pl : Y.ι → Sem Bool} (ht : ∀ i, eval (.Call (.Attribute o m apos) (e :: es) [] pos) (Y.X i).env = (do
      let ov ← eval o (Y.X i).env
      standAt apos.atName
      let (f, first) ← holding [ov] (getMethod ov m (pl i))
      callWith pos f first (backTo pos (starEach (e :: es) (Y.X i).env)) (backToKw pos (keywordEach [] (Y.X i).env))) := by exact fun _ => rfl) : XE Y (.Call (.Attribute o m apos) (e :: es) [] pos) Γ O R := by
  obtain ⟨f, fd, ps, k, hk, F, hm, bd⟩ := G.ex
  have pe : ∀ i, ∀ Ex : XK, (∀ cls d σ H, Ex cls d H → Y.W cls d σ H) → PE (Y.X i) (.Call (.Attribute o m apos) (e :: es) [] pos) (tMeth Cl m (spOf Y.K sp) [] Ex (wpE Y o) (wpA Y (e :: es))) := fun i Ex hE =>
    pe_meth (CX := L2.CX Y.P Y.w) (peW i) (by rw [Y.hK]; exact hC) (by rw [Y.hK]; exact hm) (by rw [Y.hP, Y.hw, Y.hK, Y.hmg, Y.hb]; exact F) ((Y.room hc i).mono hk) (by rw [Y.hK]; exact bd) .nil
      (fun pins σ H s u s' I q => passes_call (Y.tk i) hE pins σ H s u s' I (by rw [Y.hP, Y.hw]; exact q)) (paW i) (hst i) (hpl i) (ht i)
  intro F0 as σ H Q S L tx t
  refine wpE_of (te := tMeth Cl m (spOf Y.K sp) [] (fun cl d H' => ∀ σ', Y.W cl d σ' H') (wpE Y o) (wpA Y (e :: es))) (fun i => pe i _ fun cls d σ H q => q σ) ?_
  refine h F0 as σ H _ S L tx fun F1 as1 c1 v1 O1 H1 g1 S1 r1 ⟨k, dx, fs, e1, hO, hl, h1⟩ => ?_
  subst e1
  obtain ⟨ad, ha, rfl⟩ := r1
  obtain ⟨hF, gs, hH, rr⟩ := S1.ins ha hO
  refine ⟨ad, dx, gs, rfl, hH, ?_, ?_⟩
  · rcases fld_rel rr m with ⟨c', v', f1, f2, f3⟩ | ⟨f1, f2⟩
    · rw [hl] at f1; cases f1
    · exact f2
  · exact h1 F1 as1 σ H1 _ S1 (L.mono g1) (tx.mono g1) fun F2 as2 cs vs O2 H2 g2 S2 r2 h2 => ⟨F2, as2, O2, .o k :: cs, R, Y.RX, S2, by rw [List.append_nil]; exact .cons ⟨ad, px_get g2.px ha, rfl⟩ r2, h2, t.mono (g1.trans g2), fun F' as' cl O' H' g' S' r' σ' => tx F' as' cl O' σ' H' ((g1.trans g2).trans g') S' r'⟩
/-- o.m() -/
theorem xe_methI0 (G : Y.FnM Cl m sp) (hC : Cls Y.K Cl) (h : XE Y o Γ O fun c1 O1 => ∃ k dx fs, c1 = .o k ∧ O1[k]? = some (.ins Cl dx fs) ∧ fs.lookup m = none ∧ sp [.o k] O1 R Y.RX) (hc : Y.cl = true := by rfl)
    {pl : Y.ι → Sem Bool} (ht : ∀ i, eval (.Call (.Attribute o m apos) [] [] pos) (Y.X i).env = (do
      let ov ← eval o (Y.X i).env
      standAt apos.atName
      let (f, first) ← holding [ov] (getMethod ov m (pl i))
      callWith pos f first (backTo pos (starEach [] (Y.X i).env)) (backToKw pos (keywordEach [] (Y.X i).env))) := by exact fun _ => rfl) : XE Y (.Call (.Attribute o m apos) [] [] pos) Γ O R := by
  obtain ⟨f, fd, ps, k, hk, F, hm, bd⟩ := G.ex
  have pe : ∀ i, ∀ Ex : XK, (∀ cls d σ H, Ex cls d H → Y.W cls d σ H) → PE (Y.X i) (.Call (.Attribute o m apos) [] [] pos) (tMeth Cl m (spOf Y.K sp) [] Ex (wpE Y o) tNil) := fun i Ex hE =>
    pe_meth0 (CX := L2.CX Y.P Y.w) (peW i) (by rw [Y.hK]; exact hC) (by rw [Y.hK]; exact hm) (by rw [Y.hP, Y.hw, Y.hK, Y.hmg, Y.hb]; exact F) ((Y.room hc i).mono hk) (by rw [Y.hK]; exact bd) .nil
      (fun pins σ H s u s' I q => passes_call (Y.tk i) hE pins σ H s u s' I (by rw [Y.hP, Y.hw]; exact q)) (ht i)
  intro F0 as σ H Q S L tx t
  refine wpE_of (te := tMeth Cl m (spOf Y.K sp) [] (fun cl d H' => ∀ σ', Y.W cl d σ' H') (wpE Y o) tNil) (fun i => pe i _ fun cls d σ H q => q σ) ?_
  refine h F0 as σ H _ S L tx fun F1 as1 c1 v1 O1 H1 g1 S1 r1 ⟨k, dx, fs, e1, hO, hl, h1⟩ => ?_
  subst e1
  obtain ⟨ad, ha, rfl⟩ := r1
  obtain ⟨hF, gs, hH, rr⟩ := S1.ins ha hO
  refine ⟨ad, dx, gs, rfl, hH, ?_, ?_⟩
  · rcases fld_rel rr m with ⟨c', v', f1, f2, f3⟩ | ⟨f1, f2⟩
    · rw [hl] at f1; cases f1
    · exact f2
  · exact ⟨F1, as1, O1, [.o k], R, Y.RX, S1, .cons ⟨ad, ha, rfl⟩ .nil, h1, t.mono g1, fun F' as' cl O' H' g' S' r' σ' => tx F' as' cl O' σ' H' (g1.trans g') S' r'⟩
/-- the method m stands in the class at Cl as the text says -/
def MthAt (K : PySem.W.Frag) (Cl : Addr) (m qual : Str) (st : Stmt) : Prop := ∃ (f : Addr) (oc : Value) (od an : Option Addr) (sl : Array (Option Value)) (kV dc pm cd ct : Value),
  PySem.W.findIn K (.ref Cl) m = some (some (.ref f)) ∧ PySem.W.isFn K (.ref f) = true ∧ K.lookup f = some ⟨oc, od, .func (PySem.W.fnOf m qual (defArgs st) (defBody st) (defScope st) .none kV dc pm an cd ct), sl⟩ ∧ PySem.W.codeIn K cd qual = true ∧ PySem.W.keepIn K (.ref f) = true
theorem mthAt_mk {K : PySem.W.Frag} {Cl : Addr} {m qual : Str} {st : Stmt} {f : Addr} {oc : Value} {od an : Option Addr} {sl : Array (Option Value)} {kV dc pm cd ct : Value} (a : PySem.W.findIn K (.ref Cl) m = some (some (.ref f))) (i : PySem.W.isFn K (.ref f) = true)
    (l : K.lookup f = some ⟨oc, od, .func (PySem.W.fnOf m qual (defArgs st) (defBody st) (defScope st) .none kV dc pm an cd ct), sl⟩) (c : PySem.W.codeIn K cd qual = true) (k : PySem.W.keepIn K (.ref f) = true) : MthAt K Cl m qual st := ⟨f, oc, od, an, sl, kV, dc, pm, cd, ct, a, i, l, c, k⟩
theorem fnm_at {P : Program} {w : World} {K : PySem.W.Frag} {mg : Str → Option Value} {base : Heap} {k : Nat} {Cl : Addr} {m qual : Str} {st : Stmt} {ps : List Str} {sp : SpT} (D : MthAt K Cl m qual st) (bd : ∀ (kV doc pm : Value) (an : Option Addr) (cdv ct : Value) (us : List Value), us.length = ps.length → bindArgs (PySem.W.fnOf m qual (defArgs st) (defBody st) (defScope st) .none kV doc pm an cdv ct) ⟨us, []⟩ = pure (ps.zip us))
    (h : ∀ f fd, Fun K m qual st f fd → FnOk P w K mg base (L2.CX P w) k f fd ps (spOf K sp)) : FnM P w K mg base k Cl m sp := by
  obtain ⟨f, oc, od, an, sl, kV, dc, pm, cd, ct, a, i, l, c, kp⟩ := D
  have F := fun_mk (st := st) l c kp
  exact ⟨f, _, ps, k, Nat.le_refl _, h f _ F, ⟨a, i, kp⟩, F.binds bd⟩
/-- the class x of the module's, and what its __init__ keeps -/
structure MkC (P : Program) (w : World) (K : PySem.W.Frag) (mg : Str → Option Value) (base : Heap) (lev : Nat) (x : Str) (Cl : Addr) (sp : SpT) : Prop where
  ex : ∃ (f : Addr) (fd : FuncData) (ps : List Str) (k : Nat), k + 1 ≤ lev ∧ FnOk P w K mg base (L2.CX P w) k f fd ps (spOf K sp) ∧ Mk K Cl f ∧ mg x = some (.ref Cl) ∧ Binds K fd ps []
theorem MkC.up {P w K mg base j k x Cl sp} (G : MkC P w K mg base j x Cl sp) (h : j ≤ k) : MkC P w K mg base k x Cl sp := let ⟨f, fd, ps, i, hi, q⟩ := G.ex; ⟨f, fd, ps, i, Nat.le_trans hi h, q⟩
theorem mkc_at {P : Program} {w : World} {K : PySem.W.Frag} {mg : Str → Option Value} {base : Heap} {k : Nat} {x qual : Str} {Cl : Addr} {st : Stmt} {ps : List Str} {sp : SpT} (D : MthAt K Cl "__init__" qual st) (hm : mg x = some (.ref Cl)) (mk : PySem.W.makesIn K Cl = true) (kc : PySem.W.keepIn K (.ref Cl) = true) (bd : ∀ (kV doc pm : Value) (an : Option Addr) (cdv ct : Value) (us : List Value), us.length = ps.length → bindArgs (PySem.W.fnOf "__init__" qual (defArgs st) (defBody st) (defScope st) .none kV doc pm an cdv ct) ⟨us, []⟩ = pure (ps.zip us))
    (h : ∀ f fd, Fun K "__init__" qual st f fd → FnOk P w K mg base (L2.CX P w) k f fd ps (spOf K sp)) : MkC P w K mg base (k + 1) x Cl sp := by
  obtain ⟨f, oc, od, an, sl, kV, dc, pm, cd, ct, a, i, l, c, kp⟩ := D
  have F := fun_mk (st := st) l c kp
  exact ⟨f, _, ps, k, Nat.le_refl _, h f _ F, ⟨mk, a, i, kc⟩, hm, F.binds bd⟩
/-- C(e, ..) -/
theorem xe_make (G : MkC Y.P Y.w Y.K Y.mg Y.base Y.lev x Cl sp) (h : XA Y (e :: es) Γ O fun cs O1 => ∀ dx, sp (.o O1.length :: cs) (O1 ++ [.ins Cl dx []]) (fun c O2 => c = .d .none ∧ R (.o O1.length) O2) Y.RX) (hc : Y.cl = true := by rfl) (hg : ∀ i, Gl (Y.X i) x := by exact fun _ => rfl)
    (hdb : (x == ("__debug__" : Str)) = false := by decide) (he : ∀ i, starEach (e :: es) (Y.X i).env = (false, eval e (Y.X i).env) :: starEach es (Y.X i).env := by exact fun _ => rfl) (hpl : ∀ i, (backTo pos (starEach es (Y.X i).env)).any (·.1) = false := by exact fun _ => rfl) : XE Y (.Call (.Name x p) (e :: es) [] pos) Γ O R := by
  obtain ⟨f, fd, ps, k, hk, F, M, hm, bd⟩ := G.ex
  have pe : ∀ i, ∀ Ex : XK, (∀ cls d σ H, Ex cls d H → Y.W cls d σ H) → PE (Y.X i) (.Call (.Name x p) (e :: es) [] pos) (tMake Cl (spOf Y.K sp) [] Ex (wpA Y (e :: es))) := fun i Ex hE =>
    pe_make (CX := L2.CX Y.P Y.w) (by rw [Y.hK]; exact M) (by rw [Y.hP, Y.hw, Y.hK, Y.hmg, Y.hb]; exact F) ((Y.room hc i).mono hk) (hg i) (by rw [Y.hmg]; exact hm) (by rw [Y.hK]; exact bd) .nil
      (fun pins σ H s u s' I q => passes_call (Y.tk i) hE pins σ H s u s' I (by rw [Y.hP, Y.hw]; exact q)) (paW i) hdb (he i) (hpl i)
  intro F0 as σ H Q S L tx t
  refine wpE_of (te := tMake Cl (spOf Y.K sp) [] (fun cl d H' => ∀ σ', Y.W cl d σ' H') (wpA Y (e :: es))) (fun i => pe i _ fun cls d σ H q => q σ) ?_
  refine h F0 as σ H _ S L tx fun F1 as1 cs vs O1 H1 g1 S1 r1 h1 => fun x dx hx hdx hne => ?_
  have S2 := S1.skip (o := .own x) hdx
  have hx2 : upd H1 dx (.own x) x = none := by rw [upd_ne (fun z => hne z.symm)]; exact hx
  obtain ⟨S3, g3⟩ := S2.ownG hx2 (u0 := .ins Cl dx []) (o0 := .ins Cl dx []) ⟨[], rfl, .nil⟩
  have hx3 : (as1 ++ [x])[O1.length]? = some x := by rw [← S1.len]; simp
  refine ⟨F1, as1 ++ [x], O1 ++ [.ins Cl dx []], .o O1.length :: cs, _, Y.RX, S3, by rw [List.append_nil]; exact .cons ⟨x, hx3, rfl⟩ (pr_mono g3 r1), h1 dx, fun F' as' c v O' H' g' S' r' q => ?_, fun F' as' cl O' H' g' S' r' σ' => tx F' as' cl O' σ' H' ((g1.trans g3).trans g') S' r'⟩
  obtain ⟨e1, q⟩ := q
  subst e1
  refine ⟨by cases r'; rfl, ?_⟩
  exact t F' as' (.o O1.length) (.ref x) O' H' ((g1.trans g3).trans g') S' ⟨x, px_get g'.px hx3, rfl⟩ q
end
end T

set_option Elab.async false
set_option linter.all false
set_option maxRecDepth 100000
set_option maxHeartbeats 1000000
namespace T
open PySem PySem.Spec PyProof.Rows L2
/-! ### least and greatest key -/
/-- the view of the keys of the dict at a -/
def kvw (p a : Addr) : HO := .ext fun h => PySem.W.KdlKeysView h p a
theorem kvw_stay {p a : Addr} (h1 h2 : Heap) (x : PySem.W.KdlKeysView h1 p a) (k : ∀ u, h1.get? p = some u → h2.get? p = some u) : PySem.W.KdlKeysView h2 p a := let ⟨u, e, r⟩ := x; ⟨u, k u e, r⟩
section
variable {X : Cx} {o : Expr} {apos mpos : Pos} {td : TE}
def tKeysV (td : TE) : TE := fun σ H Q => td σ H fun x H1 => ∃ a kvs, x = .ref a ∧ H1 a = some (.dK kvs) ∧ ∀ p, H1 p = none → Q (.ref p) (upd H1 p (kvw p a))
theorem pe_keysV (ho : PE X o td) (hbase : attributeBase o "keys" X.env (eval o X.env) = eval o X.env := by rfl) (hline : (apos.endLine == mpos.line) = true := by rfl) : PE X (.Call (.Attribute o "keys" apos) [] [] mpos) (tKeysV td) := by
  refine ⟨fun pn st σ H Q I0 hq => ?_⟩
  refine wpAny_Call_method (T := "dict") (id := "dict.keys") hbase rfl hline PySem.F.plainAttrs_dict PySem.F.slot_dict_keys PySem.F.type_dict_keys (thn (ho.run pn st σ H _ I0 hq) fun dv s1 ⟨x, H1, I1, rx, a, kvs, ex, ea, fin⟩ => ?_)
  subst ex
  obtain rfl : dv = Value.ref a := rx
  obtain ⟨_, nsys, vs, rel, dof⟩ := dk_of I1.hok ea
  refine ⟨dof.typeIs, dof.mapOf.noDict, ?_⟩
  have grow : ∀ b u, s1.heap.get? b = some u → (s1.heap.push { cls := .type "dict_keys", data := .fields #[.ref a] }).get? b = some u := fun b u e => Heap.get?_push_of_some _ e
  have there : (s1.heap.push { cls := .type "dict_keys", data := .fields #[.ref a] }).get? s1.heap.objs.size = some { cls := .type "dict_keys", data := .fields #[.ref a] } := Heap.get?_push_size _ rfl
  have I2 : Inv X pn σ (upd H1 s1.heap.objs.size (kvw s1.heap.objs.size a)) { s1 with heap := s1.heap.push { cls := .type "dict_keys", data := .fields #[.ref a] }, toks := s1.toks } :=
    I1.laid grow (Nat.le_refl _) (show ObjOk _ _ _ _ _ (.ext _) from ⟨⟨_, there, rfl, rfl⟩, ⟨_, there⟩, kvw_stay⟩)
  show wpAny _ _ (callWith mpos (.builtin "dict.keys") [.ref a] [] []) _ X.xe s1
  refine method_meetsIn PySem.F.slot_dict_keys PySem.F.entry_dict_keys rfl (PySem.evalArgs_none ⟨rfl, dof.typeIs, PySem.F.args_dict_keys_1 _, _, PySem.W.kdl_meets_keys (mixKind X.prog X.w) a nsys, ⟨vs, dof⟩, ?_⟩)
  exact ⟨.ref s1.heap.objs.size, _, I2, rfl, fin _ (I1.hok.fresh (Nat.le_refl _))⟩
def rLowD : List V → List V → Hp → VK → Prop := fun xs zs H Q => ∃ p a kvs is z, xs = [V.ref p] ∧ zs = [z] ∧ H p = some (kvw p a) ∧ H a = some (.dK kvs) ∧ kvs.map (·.1) = is.map Sum.inl ∧ (is = [] → Q z H) ∧ ∀ m, m ∈ is → (∀ j ∈ is, m ≤ j) → Q (.int m) H
def rTopD : List V → List V → Hp → VK → Prop := fun xs zs H Q => ∃ p a kvs is z, xs = [V.ref p] ∧ zs = [z] ∧ H p = some (kvw p a) ∧ H a = some (.dK kvs) ∧ kvs.map (·.1) = is.map Sum.inl ∧ (is = [] → Q z H) ∧ ∀ m, m ∈ is → (∀ j ∈ is, j ≤ m) → Q (.int m) H
theorem key_ints {P : Program} {w : World} {ks : List (Key × V)} {vs : List (Key × Value)} {is : List Int} (rel : KV ks vs) (hk : ks.map (·.1) = is.map Sum.inl) (i : Nat) (v : Value) (h : ∃ k x, vs[i]? = some (k, x) ∧ (mixKind P w).is k v = true) : ∃ t, v = Value.int (is.getD i 0) t := by
  obtain ⟨k, x, e, q⟩ := h
  have e1 : (vs.map (·.1))[i]? = some k := by rw [List.getElem?_map, e]; rfl
  rw [← KV.keys rel, hk, List.getElem?_map] at e1
  obtain ⟨j, hj, e2⟩ := Option.map_eq_some_iff.mp e1
  subst e2
  obtain ⟨t, e3⟩ := Value.isInt_shape (show Value.isInt j v = true from q)
  exact ⟨t, by rw [e3, List.getD_eq_getElem?_getD, hj]; rfl⟩
theorem getD_mem {is : List Int} {i : Nat} (h : i < is.length) : is.getD i 0 ∈ is := by
  rw [List.getD_eq_getElem?_getD, List.getElem?_eq_getElem h]
  exact List.getElem_mem h
theorem mem_getD {is : List Int} {j : Int} (h : j ∈ is) : ∃ i, i < is.length ∧ is.getD i 0 = j := by
  obtain ⟨i, hi, e⟩ := List.mem_iff_getElem.mp h
  exact ⟨i, hi, by rw [List.getD_eq_getElem?_getD, List.getElem?_eq_getElem hi, ← e]; rfl⟩
theorem cr_lowK (hc : X.calm = true) : CallRK X (.builtin "min") ["default"] rLowD := by
  intro pn st σ H xs zs us ws Q I0 rx rz hq
  obtain ⟨p, a, kvs, is, z, rfl, rfl, ep, ea, hk, q0, q1⟩ := hq
  rw [Vals.ref1 rx]
  cases rz with
  | @cons _ w0 _ _ rw0 tl =>
  cases tl
  show wpAny _ _ (call (.builtin "min") [.ref p] [(Str.ofString "default", w0)]) _ _ _
  obtain ⟨hv, _, _⟩ := (show ObjOk X.prog X.w H st.heap p (.ext _) from I0.hok p _ ep)
  obtain ⟨_, nsys, vs, rel, dof⟩ := dk_of I0.hok ea
  obtain ⟨t0, dat⟩ := dof.dictAt
  have hlen : vs.length = is.length := by
    have e1 := congrArg List.length ((KV.keys rel).symm.trans hk)
    rw [List.length_map, List.length_map] at e1
    exact e1
  have hlt : a < st.heap.objs.size := (I0.hok a _ ea).lt
  have I1 : ∀ (s' : Shared), Moved [st.heap.objs.size] (fun a b => b = a) { st with heap := st.heap.push { cls := .type "dict_keyiterator", data := .fields #[.ref a, .int 0 0, .int vs.length 0, .int t0 0] } } s' → Inv X pn σ H s' := fun s' mv => by
    obtain ⟨m1, m2, m3, m4, m5⟩ := mv
    obtain ⟨hh, gg, dd, tt, oo⟩ := s'
    simp only at m1 m2 m3 m4 m5
    subst m2 m3 m4
    exact I0.kept (t' := tt) fun b u e => m1 b u (fun z => by
      have e1 : b = st.heap.objs.size := by simpa using z
      rw [e1] at e
      exact absurd (Heap.lt_size e) (Nat.lt_irrefl _)) (Heap.get?_push_of_some _ e)
  refine call_min_walkD (PySem.W.kdl_pyIter_keys (knd := mixKind X.prog X.w) hv dat ?_)
  refine ⟨st.heap.objs.size, _, _, _, _, _, _, { objs := #[] }, fun i j => decide (is.getD i 0 < is.getD j 0), rfl, (Walks.dictKeys (knd := mixKind X.prog X.w) (A := X.A.in1) (I0.ok.hd hc) st.heap.objs.size a (Nat.ne_of_lt hlt) vs t0).toS, ?_, ?_, ?_, ?_, ?_, ?_⟩
  · exact ⟨⟨_, Heap.get?_push_size _ rfl, rfl, rfl⟩, dat.keep fun b u e => Heap.get?_push_of_some _ e⟩
  · intro b hb
    show b < (st.heap.push _).objs.size
    rw [Heap.size_push]
    have hb' : b = st.heap.objs.size ∨ b = a := by simpa using hb
    rcases hb' with z | z
    · exact z ▸ Nat.lt_succ_self _
    · exact z ▸ Nat.lt_succ_of_lt hlt
  · intro b u e
    exact absurd (Heap.lt_size e) (Nat.not_lt_zero _)
  · intro b u e
    exact absurd (Heap.lt_size e) (Nat.not_lt_zero _)
  · intro h0 s' mv
    refine ⟨z, H, I1 s' mv, rw0, q0 ?_⟩
    exact List.length_eq_zero_iff.mp (by omega)
  · intro hn
    refine ⟨fun i j vi vj s' Q' E' _ hi hj hb => CmpOf.ints_lt (fun i => is.getD i 0) (key_ints rel hk) i j vi vj s' Q' E' hi hj hb, fun v s' hP mv => ?_⟩
    obtain ⟨t, rfl⟩ := key_ints rel hk _ v hP
    obtain ⟨b1, b2⟩ := argBest_lt (fun i => is.getD i 0) (vs.length - 1)
    refine ⟨.int _, H, I1 s' mv, ⟨t, rfl⟩, q1 _ (getD_mem (by omega)) fun j hj => ?_⟩
    obtain ⟨i, hi, e⟩ := mem_getD hj
    rw [← e]
    exact b2 i (by omega)
theorem cr_topK (hc : X.calm = true) : CallRK X (.builtin "max") ["default"] rTopD := by
  intro pn st σ H xs zs us ws Q I0 rx rz hq
  obtain ⟨p, a, kvs, is, z, rfl, rfl, ep, ea, hk, q0, q1⟩ := hq
  rw [Vals.ref1 rx]
  cases rz with
  | @cons _ w0 _ _ rw0 tl =>
  cases tl
  show wpAny _ _ (call (.builtin "max") [.ref p] [(Str.ofString "default", w0)]) _ _ _
  obtain ⟨hv, _, _⟩ := (show ObjOk X.prog X.w H st.heap p (.ext _) from I0.hok p _ ep)
  obtain ⟨_, nsys, vs, rel, dof⟩ := dk_of I0.hok ea
  obtain ⟨t0, dat⟩ := dof.dictAt
  have hlen : vs.length = is.length := by
    have e1 := congrArg List.length ((KV.keys rel).symm.trans hk)
    rw [List.length_map, List.length_map] at e1
    exact e1
  have hlt : a < st.heap.objs.size := (I0.hok a _ ea).lt
  have I1 : ∀ (s' : Shared), Moved [st.heap.objs.size] (fun a b => b = a) { st with heap := st.heap.push { cls := .type "dict_keyiterator", data := .fields #[.ref a, .int 0 0, .int vs.length 0, .int t0 0] } } s' → Inv X pn σ H s' := fun s' mv => by
    obtain ⟨m1, m2, m3, m4, m5⟩ := mv
    obtain ⟨hh, gg, dd, tt, oo⟩ := s'
    simp only at m1 m2 m3 m4 m5
    subst m2 m3 m4
    exact I0.kept (t' := tt) fun b u e => m1 b u (fun z => by
      have e1 : b = st.heap.objs.size := by simpa using z
      rw [e1] at e
      exact absurd (Heap.lt_size e) (Nat.lt_irrefl _)) (Heap.get?_push_of_some _ e)
  refine call_max_walkD (PySem.W.kdl_pyIter_keys (knd := mixKind X.prog X.w) hv dat ?_)
  refine ⟨st.heap.objs.size, _, _, _, _, _, _, { objs := #[] }, fun i j => decide (is.getD i 0 > is.getD j 0), rfl, (Walks.dictKeys (knd := mixKind X.prog X.w) (A := X.A.in1) (I0.ok.hd hc) st.heap.objs.size a (Nat.ne_of_lt hlt) vs t0).toS, ?_, ?_, ?_, ?_, ?_, ?_⟩
  · exact ⟨⟨_, Heap.get?_push_size _ rfl, rfl, rfl⟩, dat.keep fun b u e => Heap.get?_push_of_some _ e⟩
  · intro b hb
    show b < (st.heap.push _).objs.size
    rw [Heap.size_push]
    have hb' : b = st.heap.objs.size ∨ b = a := by simpa using hb
    rcases hb' with z | z
    · exact z ▸ Nat.lt_succ_self _
    · exact z ▸ Nat.lt_succ_of_lt hlt
  · intro b u e
    exact absurd (Heap.lt_size e) (Nat.not_lt_zero _)
  · intro b u e
    exact absurd (Heap.lt_size e) (Nat.not_lt_zero _)
  · intro h0 s' mv
    refine ⟨z, H, I1 s' mv, rw0, q0 ?_⟩
    exact List.length_eq_zero_iff.mp (by omega)
  · intro hn
    refine ⟨fun i j vi vj s' Q' E' _ hi hj hb => CmpOf.ints_gt (fun i => is.getD i 0) (key_ints rel hk) i j vi vj s' Q' E' hi hj hb, fun v s' hP mv => ?_⟩
    obtain ⟨t, rfl⟩ := key_ints rel hk _ v hP
    obtain ⟨b1, b2⟩ := argBest_gt (fun i => is.getD i 0) (vs.length - 1)
    refine ⟨.int _, H, I1 s' mv, ⟨t, rfl⟩, q1 _ (getD_mem (by omega)) fun j hj => ?_⟩
    obtain ⟨i, hi, e⟩ := mem_getD hj
    rw [← e]
    exact b2 i (by omega)
end
section
variable {Y : Fam} {a b o : Expr} {st : Stmt} {Γ : Gam} {O : Sto} {R : C → Sto → Prop} {E : En} {pos p apos mpos kpos tpos : Pos}
theorem low_rel {K : PySem.W.Frag} {F H : Hp} {as : List Addr} {O : Sto} {k : Nat} {a : Addr} {kvs : List (Key × C)} {is : List Int} (S : Sat K F H as O) (ha : as[k]? = some a) (hO : O[k]? = some (.dct kvs)) (hk : kvs.map (·.1) = is.map Sum.inl) : ∃ ws, H a = some (.dK ws) ∧ ws.map (·.1) = is.map Sum.inl := by
  obtain ⟨_, ws, e, r⟩ := S.dct ha hO
  refine ⟨ws, e, ?_⟩
  rw [← hk]
  clear hk hO e
  induction r with
  | nil => rfl
  | cons q _ ih => rw [List.map_cons, List.map_cons, ih, q.1]
theorem xe_minKeysD {z : Expr} (hm : Y.mg "min" = none) (h : XE Y o Γ O fun c1 O1 => ∃ k kvs0, c1 = .o k ∧ O1[k]? = some (.dct kvs0) ∧ XE Y z Γ O1 fun c2 O2 => ∃ kvs is, O2[k]? = some (.dct kvs) ∧ kvs.map (·.1) = is.map Sum.inl ∧ (is = [] → R c2 O2) ∧ ∀ m, m ∈ is → (∀ j ∈ is, m ≤ j) → R (.d (.int m)) O2) (hc : Y.cl = true := by rfl) (hg : ∀ i, Gl (Y.X i) "min" := by exact fun _ => rfl)
    (hbase : ∀ i, attributeBase o "keys" (Y.X i).env (eval o (Y.X i).env) = eval o (Y.X i).env := by exact fun _ => rfl) (hline : (apos.endLine == mpos.line) = true := by rfl) : XE Y (.Call (.Name "min" p) [.Call (.Attribute o "keys" apos) [] [] mpos] [⟨some "default", z, kpos⟩] pos) Γ O R :=
  xe_of (te := tCKw rLowD (tCons (tKeysV (wpE Y o)) tNil) (tCons (wpE Y z) tNil)) (fun i => pe_callBK (cr_lowK (Y.calm hc i)) (hg i) (by rw [Y.hmg]; exact hm) (by first | rfl | decide +kernel) (pa_cons (pe_keysV (peW i) (hbase i) hline) pa_nil rfl) (pk_cons (peW i) pk_nil) (by decide) (by decide) rfl rfl rfl rfl rfl) fun F as σ H Q S L tx t => h F as σ H _ S L tx fun F1 as1 c1 v1 O1 H1 g1 S1 r1 ⟨k, kvs0, e1, hO, h1⟩ => by
    subst e1
    obtain ⟨ad, ha, rfl⟩ := r1
    obtain ⟨_, ws0, e0, _⟩ := S1.dct ha hO
    refine ⟨ad, ws0, rfl, e0, fun q hq => ?_⟩
    obtain ⟨S2, g2⟩ := S1.froze (o := kvw q ad) hq
    refine h1 _ as1 σ _ _ S2 (L.mono (g1.trans g2)) (tx.mono (g1.trans g2)) fun F3 as3 c3 v3 O3 H3 g3 S3 r3 ⟨kvs, is, hO3, hk, h0, h2⟩ => ?_
    obtain ⟨ws, e3, hk3⟩ := low_rel S3 (px_get g3.px ha) hO3 hk
    exact ⟨q, ad, ws, is, v3, rfl, rfl, S3.ex _ _ (g3.fr _ _ upd_same), e3, hk3, fun hn => t F3 as3 c3 v3 O3 H3 ((g1.trans g2).trans g3) S3 r3 (h0 hn), fun m hm hl => t F3 as3 (.d (.int m)) _ O3 H3 ((g1.trans g2).trans g3) S3 (show CR Y.K F3 as3 (.d (.int m)) _ from .int m) (h2 m hm hl)⟩
theorem xe_maxKeysD {z : Expr} (hm : Y.mg "max" = none) (h : XE Y o Γ O fun c1 O1 => ∃ k kvs0, c1 = .o k ∧ O1[k]? = some (.dct kvs0) ∧ XE Y z Γ O1 fun c2 O2 => ∃ kvs is, O2[k]? = some (.dct kvs) ∧ kvs.map (·.1) = is.map Sum.inl ∧ (is = [] → R c2 O2) ∧ ∀ m, m ∈ is → (∀ j ∈ is, j ≤ m) → R (.d (.int m)) O2) (hc : Y.cl = true := by rfl) (hg : ∀ i, Gl (Y.X i) "max" := by exact fun _ => rfl)
    (hbase : ∀ i, attributeBase o "keys" (Y.X i).env (eval o (Y.X i).env) = eval o (Y.X i).env := by exact fun _ => rfl) (hline : (apos.endLine == mpos.line) = true := by rfl) : XE Y (.Call (.Name "max" p) [.Call (.Attribute o "keys" apos) [] [] mpos] [⟨some "default", z, kpos⟩] pos) Γ O R :=
  xe_of (te := tCKw rTopD (tCons (tKeysV (wpE Y o)) tNil) (tCons (wpE Y z) tNil)) (fun i => pe_callBK (cr_topK (Y.calm hc i)) (hg i) (by rw [Y.hmg]; exact hm) (by first | rfl | decide +kernel) (pa_cons (pe_keysV (peW i) (hbase i) hline) pa_nil rfl) (pk_cons (peW i) pk_nil) (by decide) (by decide) rfl rfl rfl rfl rfl) fun F as σ H Q S L tx t => h F as σ H _ S L tx fun F1 as1 c1 v1 O1 H1 g1 S1 r1 ⟨k, kvs0, e1, hO, h1⟩ => by
    subst e1
    obtain ⟨ad, ha, rfl⟩ := r1
    obtain ⟨_, ws0, e0, _⟩ := S1.dct ha hO
    refine ⟨ad, ws0, rfl, e0, fun q hq => ?_⟩
    obtain ⟨S2, g2⟩ := S1.froze (o := kvw q ad) hq
    refine h1 _ as1 σ _ _ S2 (L.mono (g1.trans g2)) (tx.mono (g1.trans g2)) fun F3 as3 c3 v3 O3 H3 g3 S3 r3 ⟨kvs, is, hO3, hk, h0, h2⟩ => ?_
    obtain ⟨ws, e3, hk3⟩ := low_rel S3 (px_get g3.px ha) hO3 hk
    exact ⟨q, ad, ws, is, v3, rfl, rfl, S3.ex _ _ (g3.fr _ _ upd_same), e3, hk3, fun hn => t F3 as3 c3 v3 O3 H3 ((g1.trans g2).trans g3) S3 r3 (h0 hn), fun m hm hl => t F3 as3 (.d (.int m)) _ O3 H3 ((g1.trans g2).trans g3) S3 (show CR Y.K F3 as3 (.d (.int m)) _ from .int m) (h2 m hm hl)⟩
/-! ### a key: taken out, looked for -/
def delC (kvs : List (Key × C)) (k : Key) : List (Key × C) := kvs.filter fun kv => decide (kv.1 ≠ k)
end
end T

set_option Elab.async false
set_option linter.all false
set_option maxRecDepth 100000
set_option maxHeartbeats 1000000
namespace T
open PySem PySem.Spec PyProof.Rows L2
/-! ### a key: looked for, taken out -/
theorem del_rel {K : PySem.W.Frag} {F : Hp} {as : List Addr} {kvs : List (Key × C)} {ws : List (Key × V)} (h : Paired (FsR K F as) kvs ws) (k : Key) : Paired (FsR K F as) (delC kvs k) (dropK ws k) := by
  unfold delC dropK
  induction h with
  | nil => exact .nil
  | @cons p q ps qs r t ih =>
    by_cases hk : q.1 = k
    · rw [List.filter_cons_of_neg (by rw [r.1]; simp [hk]), List.filter_cons_of_neg (by simp [hk])]
      exact ih
    · rw [List.filter_cons_of_pos (by rw [r.1]; simp [hk]), List.filter_cons_of_pos (by simp [hk])]
      exact .cons r ih
def rInK : R2 := fun x y H Q => ∃ a ov, y = .ref a ∧ DGet H a x ov ∧ Q (.bl ov.isSome) H
theorem op_inK {X : Cx} (hu : X.A.units + 1 < cLine) : OpR X (compareOp .In) rInK := by
  intro pn st σ H x y v u Q I0 rx ry hq
  obtain ⟨a, ov, rfl, g, q⟩ := hq
  obtain rfl : u = Value.ref a := ry
  exact d_in hu I0 g rx fun s3 I3 => ⟨.bl ov.isSome, H, I3, rfl, q⟩
section
variable {Y : Fam} {a b : Expr} {Γ : Gam} {O : Sto} {R : C → Sto → Prop} {RT : Bool → Sto → Prop} {E : En} {pos tpos : Pos} {K : PySem.W.Frag}
theorem w2_inK {k : Nat} {ky : Key} {kvs : List (Key × C)} (hd : IsDct O k kvs) (r : R (.d (.bool (valC kvs ky).isSome)) O) : W2 K rInK (.d (keyD ky)) (.o k) O R := fun F as H x y Q S rx ry t => by
  obtain ⟨ad, ha, rfl⟩ := ry
  obtain ⟨ws, hr, rr⟩ := S.rd ha hd
  have ek := key_of rx
  subst ek
  refine ⟨ad, valV ws ky, rfl, .inl ⟨ws, ky, hr, rfl, rfl⟩, ?_⟩
  have e : (valV ws ky).isSome = (valC kvs ky).isSome := by
    rcases val_rel rr ky with ⟨c', v', f1, f2, _⟩ | ⟨f1, f2⟩
    · rw [f1, f2]; rfl
    · rw [f1, f2]; rfl
  rw [e]
  exact t.go S (show CR K F as (.d (.bool _)) _ from .bl _) r
theorem xe_inK (h : XE Y a Γ O fun c1 O1 => XE Y b Γ O1 fun c2 O2 => W2 Y.K rInK c1 c2 O2 R) (hc : Y.cl = true := by rfl) (hm : behindInMarks .In b = false := by rfl) : XE Y (.Compare a [.In] [b] pos) Γ O R := xe_cmp (fun i => op_inK (hu1 hc i)) hm h
theorem xt_inK (h : XE Y a Γ O fun c1 O1 => XE Y b Γ O1 fun c2 O2 => W2 Y.K rInK c1 c2 O2 (WB RT)) (hc : Y.cl = true := by rfl) (hm : behindInMarks .In b = false := by rfl) : XT Y (.Compare a [.In] [b] pos) Γ O RT := xt_cmp (fun i => op_inK (hu1 hc i)) hm h
/-- del d[k], k in d -/
theorem xs_ddel (h : XE Y a Γ O fun c1 O1 => XE Y b Γ O1 fun c2 O2 => ∃ k kvs ky, c1 = .o k ∧ O2[k]? = some (.dct kvs) ∧ c2 = .d (keyD ky) ∧ (valC kvs ky).isSome = true ∧ E.nx Γ (O2.set k (.dct (delC kvs ky)))) : XS Y (.Delete [.Subscript a b tpos] pos) Γ O E :=
  xs_of (fun i => ps_ddel (peW i) (peW i)) fun F as σ H D S L tx t => h F as σ H _ S L tx fun F1 as1 c1 v1 O1 H1 g1 S1 r1 h1 =>
    h1 F1 as1 σ H1 _ S1 (L.mono g1) (tx.mono g1) fun F2 as2 c2 v2 O2 H2 g2 S2 r2 ⟨k, kvs, ky, e1, hO, e2, hs, h2⟩ => by
      subst e1 e2
      obtain ⟨ad, ha, rfl⟩ := r1.mono g2
      obtain ⟨hF, ws, e, rr⟩ := S2.dct ha hO
      have ek := key_of r2
      subst ek
      refine ⟨ad, ws, ky, rfl, e, rfl, ?_, ?_⟩
      · rcases val_rel rr ky with ⟨c', v', f1, f2, _⟩ | ⟨f1, f2⟩
        · rw [f2]; rfl
        · rw [f1] at hs; cases hs
      · exact t.nx F2 as2 Γ σ _ _ (g1.trans g2) (S2.putG ha hF (u1 := .dct (delC kvs ky)) ⟨_, rfl, del_rel rr ky⟩) (L.mono (g1.trans g2)) h2
end
end T

set_option Elab.async false
set_option linter.all false
set_option maxRecDepth 100000
set_option maxHeartbeats 2000000
/-! Tv: enumerate of a tuple. -/
namespace T
open PySem PySem.Spec PyProof.Rows L2
section
open Sem (wp)
theorem meets_enumT {tv : Value} {io : Obj} {Ph : Heap → Prop} (B : Begins tv io Ph) : Meets (Builtin.«enumerate.__new__» ⟨[.type "enumerate", tv], []⟩) fun _ Rz sz => Ph sz.heap ∧
    Rz (.ok (.ret (.ref (sz.heap.push io).objs.size))) { sz with heap := (sz.heap.push io).push { cls := .type "enumerate", data := .fields #[.none, .bool false, .ref sz.heap.objs.size, rawInt 0, .none, .none] } } :=
  .of_wp fun pr wd Ar Rz sz hz => by
    obtain ⟨h0, g0, d0, t0, o0⟩ := sz
    obtain ⟨hp, hr⟩ := hz
    have subE := sub_enumerate
    have it : ∀ {Az : Around} {Ez : Value → Shared → Prop} {Qz : Value → Shared → Prop}, Qz (.ref h0.objs.size) ⟨h0.push io, g0, d0, t0, o0⟩ → wpAny (model pr wd) Az (pyIter tv) Qz Ez ⟨h0, g0, d0, t0, o0⟩ := fun q => B.iter pr wd _ _ ⟨h0, g0, d0, t0, o0⟩ _ hp q
    wp_walk using it
    refine wpAny_stack_any fun stk => wpAny_pure ?_
    split
    · rename_i cz _ _ _ _ _
      cases (cz == Value.type "enumerate")
      all_goals
        wp_walk using it
        exact ⟨_, rfl, hr⟩
    · wp_walk using it
      exact ⟨_, rfl, hr⟩
end
theorem call_enumT {P : Program} {w : World} {A : Around} {E : Value → Shared → Prop} {s : Shared} {tv : Value} {io : Obj} {Ph : Heap → Prop} {Q : Value → Shared → Prop} (B : Begins tv io Ph) (hp : Ph s.heap)
    (k : ∀ h2, IsEnum h2 (s.heap.objs.size + 1) s.heap.objs.size 0 .none → h2.get? s.heap.objs.size = some io → (∀ c u, s.heap.get? c = some u → h2.get? c = some u) → Q (.ref (s.heap.objs.size + 1)) { s with heap := h2 }) : wpAny (model P w) A (call (.type "enumerate") [tv]) Q E s := by
  refine callType_new PySem.F.called_enumerate (by decide) (PySem.F.typeCall_enumerate_1 _) (PySem.F.newCall_enumerate_1 _) (fun ob => PySem.F.args_object_init_2 ob _) PySem.F.entry_enumerate_new (meets_enumT B) ⟨hp, ?_⟩
  have sz : (s.heap.push io).objs.size = s.heap.objs.size + 1 := Heap.size_push ..
  show _ ∧ _
  rw [sz]
  have new : ((s.heap.push io).push { cls := .type "enumerate", data := .fields #[.none, .bool false, .ref s.heap.objs.size, rawInt 0, .none, .none] }).get? (s.heap.push io).objs.size = some { cls := .type "enumerate", data := .fields #[.none, .bool false, .ref s.heap.objs.size, rawInt 0, .none, .none] } := Heap.get?_push_size _ rfl
  rw [sz] at new
  exact ⟨⟨_, new, rfl⟩, k _ new (Heap.get?_push_of_some _ (Heap.get?_push_size _ B.free)) fun c u e => Heap.get?_push_of_some _ (Heap.get?_push_of_some _ e)⟩
/-- the tuple at a, each item in a new pair with its place -/
def Itu (K : PySem.W.Frag) (a : Addr) : It where
  go := fun i H => ∃ (xs : List V) (x : V), SqT K H a xs ∧ xs[i]? = some x
  yld := fun i H v H' => ∃ p x, v = .ref p ∧ H p = none ∧ H' = upd H p (.tup [.int (i : Nat), x]) ∧ ∀ xs, SqT K H a xs → xs[i]? = some x
  stop := fun i H => ∃ xs : List V, SqT K H a xs ∧ xs.length ≤ i
theorem turn_enumT {P : Program} {w : World} {K : PySem.W.Frag} {elts : List Expr} {kk : Nat} {tpos : Pos} (a e it : Addr) :
    Turn P w K (.Tuple elts kk tpos) (Itu K a) [e, it] e (fun i h => (∃ u, IsEnum h e it ((i : Nat) : Int) u) ∧ h.IsTupleIter it a i) where
  mem := by simp
  obj := fun i h st b hb => by
    obtain ⟨⟨u, he⟩, q, hq, _, hd⟩ := st
    rcases (show b = e ∨ b = it by simpa using hb) with z | z
    · subst z; exact ⟨_, he, fun v y => nomatch y⟩
    · subst z; exact ⟨q, hq, fun v y => by rw [hd] at y; cases y⟩
  keep := fun i h h' ⟨⟨u, he⟩, hi⟩ k => ⟨⟨u, k e (by simp) _ he⟩, hi.at fun q y => k it (by simp) q y⟩
  item := by
    intro X hP hw hK hc i pn s σ H E I0 hf st hg
    subst hP hw hK
    obtain ⟨⟨u0, he⟩, hit⟩ := st
    obtain ⟨xs, x, hq, hx⟩ := hg
    obtain ⟨its, rv, tp, _⟩ := I0.tuple hq
    obtain ⟨u, hu, ru⟩ := rv.get hx
    have le : e < s.heap.objs.size := Heap.lt_size he
    have li : it < s.heap.objs.size := let ⟨_, y, _⟩ := hit; Heap.lt_size y
    have ne1 : e ≠ it := fun z => by
      obtain ⟨q, hq', hc', _⟩ := hit
      rw [← z] at hq'
      have := Option.some.inj (hq'.symm.trans he)
      subst this
      exact absurd (show Value.type "enumerate" = .type "tuple_iterator" from hc') (by decide)
    have ne2 : e ≠ a := fun z => by
      obtain ⟨q, hq', hc', _⟩ := tp
      rw [← z] at hq'
      have := Option.some.inj (hq'.symm.trans he)
      subst this
      exact absurd (show Value.type "enumerate" = .type "tuple" from hc') (by decide)
    have ne3 : a ≠ it := fun z => by
      obtain ⟨q, hq', hc', _⟩ := tp
      obtain ⟨q2, hq2, hc2, _⟩ := hit
      rw [z] at hq'
      have := Option.some.inj (hq'.symm.trans hq2)
      subst this
      rw [hc2] at hc'
      exact absurd hc' (by decide)
    have hlt : i < its.toArray.size := by simpa using (List.getElem?_eq_some_iff.mp hu).1
    refine wpAny_pyNext_enum_itemD (Draws.tuple (A := X.A.in1) (I0.ok.hd hc) it a ne3 its.toArray) he ⟨hit, tp⟩ hlt ne1 (by simp [ne1, ne2]) fun y h1 tk hy ho st1 hT hsz hk => ?_
    have ey : y = u := by
      have : its[i]? = some y := by simpa using hy
      rw [hu] at this
      exact (Option.some.inj this).symm
    subst ey
    refine ⟨_, rfl, wpAny_letOwnedTupleGo_enum (s := { s with heap := h1, toks := tk + 1 }) ho fun h2 he2 sb => ?_⟩
    have hT2 : h2.get? s.heap.objs.size = some { cls := .type "tuple", data := .seq #[.int i tk, y] } := (sb.2 _ (Nat.ne_of_gt le)).trans hT
    have new : ObjOk X.prog X.w (upd H s.heap.objs.size (.tup [.int (i : Nat), x])) h2 s.heap.objs.size (.tup [.int (i : Nat), x]) := ⟨by show 2 ≤ sizeLine; decide, [.int i tk, y], .cons ⟨_, rfl⟩ (.cons ru .nil), ⟨_, hT2, rfl, _, rfl⟩⟩
    have I1 : Inv X pn σ (upd H s.heap.objs.size (.tup [.int (i : Nat), x])) { s with heap := h2, toks := tk + 1 } :=
      I0.turnedNew (ch := [e, it]) (fun b q hb y => (sb.2 b fun z => hb (by simp [z])).trans (hk b q (fun z => hb (by simp [z])) (fun z => hb (by simp [z])) y)) hf (Nat.le_refl _) new
    refine ⟨.ref s.heap.objs.size, _, I1, rfl, ⟨_, x, rfl, I0.hok.fresh (Nat.le_refl _), rfl, fun ys hy => by rw [I0.tuple_inj hy hq]; exact hx⟩, ⟨⟨y, ?_⟩, st1.1.at fun q y => (sb.2 it (Ne.symm ne1)).trans y⟩, fun b hb => ?_⟩
    · rw [show ((i + 1 : Nat) : Int) = (i : Int) + 1 by omega]
      exact he2
    · have lb : b < s.heap.objs.size := by
        rcases (show b = e ∨ b = it by simpa using hb) with z | z
        · rw [z]; exact le
        · rw [z]; exact li
      rw [upd_ne (Nat.ne_of_lt lb)]
      exact (hf b hb).1
  done := by
    intro X hP hw hK hc i pn s σ H E I0 hf st hg
    subst hP hw hK
    obtain ⟨⟨u0, he⟩, hit⟩ := st
    obtain ⟨xs, hq, hx⟩ := hg
    obtain ⟨its, rv, tp, _⟩ := I0.tuple hq
    obtain ⟨f0, f1, f2, f3, f4, f5⟩ := hf it (by simp)
    have hn : its.toArray[i]? = none := by have := rv.length; simp; omega
    have D : Draws X.prog X.w X.A.in1 it [it, a] i (fun _ _ => False) (fun j h => j = i ∧ h.IsTupleIter it a i ∧ h.IsTuple a its.toArray) :=
      ⟨fun _ _ ⟨_, ⟨q, y, _⟩, _⟩ => ⟨q, y⟩, fun _ _ _ ⟨y, y1, y2⟩ k => ⟨y, y1.at fun q z => k it (by simp) q z, y2.at fun q z => k a (by simp) q z⟩, fun j _ _ _ lt ⟨y, _⟩ _ => absurd y (Nat.ne_of_lt lt), fun _ _ _ ⟨_, y1, y2⟩ k => wpAny_nextOf_tuple_end (I0.ok.hd hc) y1 y2 hn k⟩
    exact wpAny_pyNext_enum_endD D he ⟨rfl, hit, tp⟩ fun h1 eb => ⟨rfl, I0.turned (t' := s.toks) (fun b q hb y => eb b q hb y) f0 f1 f3 f4 f5⟩
  self := fun A i s Q E ⟨⟨_, he⟩, _⟩ k => wpAny_pyIter_enum he k
def iEnumT (K : PySem.W.Frag) (ta : TA) : TI := fun σ H R => ta σ H fun vs H1 => ∃ a xs, vs = [.ref a] ∧ SqT K H1 a xs ∧ R (Itu K a) H1
theorem pi_enumT {X : Cx} {e : Expr} {ta : TA} {p pos tpos : Pos} {elts : List Expr} {kk : Nat} (hg : Gl X "enumerate") (hm : X.mg "enumerate" = none) (ha : PA X [e] ta) (hs : starEach [e] X.env = [(false, eval e X.env)] := by rfl) : PI X (.Tuple elts kk tpos) (.Call (.Name "enumerate" p) [e] [] pos) (iEnumT X.K ta) := by
  refine ⟨fun pn s σ H R I0 hq => ?_⟩
  refine Call_ (ld_blt I0 hg hm boot_enumerate (PyProof.Rows.callWith_type1 (thn (ha.run pos pn s σ H _ I0 hq) fun us s1 ⟨vs, H1, I1, r1, a, xs, ex, ht, q⟩ => ?_) hs rfl))
  subst ex
  rw [Vals.ref1 r1]
  obtain ⟨its, rv, tp, _⟩ := I1.tuple ht
  refine call_enumT (begins_tuple a its.toArray) tp fun h2 he hi grow => wpAny_pyIter_enum he ?_
  refine ⟨s1.heap.objs.size + 1, [s1.heap.objs.size + 1, s1.heap.objs.size], _, _, H1, rfl, I1.kept (t' := s1.toks) grow, turn_enumT a (s1.heap.objs.size + 1) s1.heap.objs.size, ⟨⟨.none, he⟩, ⟨_, hi, rfl, rfl⟩⟩, fun b hb => ?_, q⟩
  have up : s1.heap.objs.size ≤ b := by
    rcases (show b = s1.heap.objs.size + 1 ∨ b = s1.heap.objs.size by simpa using hb) with z | z
    · rw [z]; exact Nat.le_succ _
    · rw [z]; exact Nat.le_refl _
  exact I1.fpOk up (I1.hok.fresh up)
/-- the pairs (place, item) -/
def enumD : Nat → List PyData → List PyData
  | _, [] => []
  | k, d :: ds => .tuple [.int k, d] :: enumD (k + 1) ds
theorem enumD_len : ∀ {k : Nat} {ds : List PyData}, (enumD k ds).length = ds.length
  | _, [] => rfl
  | k, _ :: ds => congrArg (· + 1) (enumD_len (k := k + 1) (ds := ds))
theorem enumD_get : ∀ {k i : Nat} {ds : List PyData} {d : PyData}, (enumD k ds)[i]? = some d → ∃ z, ds[i]? = some z ∧ d = .tuple [.int ((k + i : Nat) : Int), z]
  | _, _, [], _, h => by simp [enumD] at h
  | k, 0, z :: ds, d, h => ⟨z, rfl, by simp [enumD] at h; exact h.symm⟩
  | k, i + 1, z :: ds, d, h => by
    obtain ⟨y, h1, h2⟩ := enumD_get (k := k + 1) (i := i) (ds := ds) (by simpa [enumD] using h)
    exact ⟨y, h1, by rw [h2, show k + 1 + i = k + (i + 1) by omega]⟩
section
variable {Y : Fam} {a : Expr} {elts : List Expr} {kk : Nat} {Γ : Gam} {O : Sto} {RI : List PyData → Sto → Prop} {pos p tpos : Pos}
theorem xi_enumT (hm : Y.mg "enumerate" = none) (h : XA Y [a] Γ O fun cs O1 => ∃ ds, cs = [.d (.tuple ds)] ∧ RI (enumD 0 ds) O1) (hg : ∀ i, Gl (Y.X i) "enumerate" := by exact fun _ => rfl) (hs : ∀ i, starEach [a] (Y.X i).env = [(false, eval a (Y.X i).env)] := by exact fun _ => rfl) : XI Y (.Tuple elts kk tpos) (.Call (.Name "enumerate" p) [a] [] pos) Γ O RI := fun F as σ H R S L tx t =>
  wpI_of (wi := iEnumT Y.K (wpA Y [a])) (fun i => by rw [← Y.hK i]; exact pi_enumT (hg i) (by rw [Y.hmg]; exact hm) (paW i) (hs i)) (h F as σ H _ S L tx fun F1 as1 cs vs O1 H1 g1 S1 r1 ⟨ds, e, h1⟩ => by
    subst e
    cases r1 with
    | cons r r0 =>
      cases r0
      cases r with
      | @tup ad xs _ hs ha =>
        refine ⟨ad, xs, rfl, same_t S1.ex hs, t F1 as1 _ _ O1 H1 g1 S1 ⟨fun i H' e' hi => ⟨xs, same_t e' hs, by rw [dpall_len ha]; rwa [enumD_len] at hi⟩, fun i H' e' hi => ?_, fun i d H' x H'' e' hd y => ?_⟩ h1⟩
        · have hi' : i < xs.length := by rw [dpall_len ha]; rwa [enumD_len] at hi
          exact ⟨xs, xs[i], same_t e' hs, List.getElem?_eq_getElem hi'⟩
        · obtain ⟨z, hz, ez⟩ := enumD_get hd
          obtain ⟨v, hv, rv⟩ := dget ha hz
          obtain ⟨q, w, e1, e2, e3, e4⟩ := y
          have e5 : w = v := Option.some.inj ((e4 xs (same_t e' hs)).symm.trans hv)
          subst e5
          subst ez
          refine .inr ⟨q, _, e2, e3, ?_⟩
          rw [e1]
          have sm : Same F1 (upd F1 q (.tup [.int (i : Nat), w])) := fun b u y => by rw [upd_ne (ne_of_none y (e'.free e2))]; exact y
          refine .tup (.inl (.inl upd_same)) (.cons ?_ (.cons (dp_same sm _ _ rv) .nil))
          rw [Nat.zero_add]
          exact .int _)
end
end T

set_option Elab.async false
set_option linter.all false
set_option maxRecDepth 100000
set_option maxHeartbeats 1000000
/-! Tx: dict comprehensions. -/
namespace T
open PySem PySem.Spec PyProof.Rows L2
theorem putC_len (kvs : List (Key × C)) (k : Key) (c : C) : (putC kvs k c).length ≤ kvs.length + 1 := by
  unfold putC
  split
  · rw [List.length_map]; exact Nat.le_succ _
  · rw [List.length_append]; exact Nat.le_refl _
section
variable {Y : Fam} {a b iter tg kx vx cond : Expr} {Γ : Gam} {O : Sto} {R : C → Sto → Prop} {pos : Pos}
/-- {kx: vx for tg in iter if cond}, the store ahead of it unchanged -/
theorem we_dcI {scope : Scope} {vs : List Nat} {τ : Tgt} (hj : ∀ j ∈ tgL τ, j ∈ vs)
    (h : XI Y tg iter Γ O fun ds O1 => ∃ Pv : Nat → List (Key × C) → Prop, ds.length ≤ sizeLine ∧ Pv 0 [] ∧ (∀ i acc, Pv i acc → (∀ p ∈ acc, clC O1.length p.2) ∧ acc.length ≤ i) ∧
      (∀ i d acc, ds[i]? = some d → Pv i acc → ∃ Γ2, tgS (wipeG Γ vs) τ d = some Γ2 ∧ XT (Y.blk scope) cond Γ2 (O1 ++ [.dct acc]) fun k O3 => (k = true → XE (Y.blk scope) kx Γ2 O3 fun c1 O4 => XE (Y.blk scope) vx Γ2 O4 fun c2 O5 => ∃ ky E2, c1 = .d (keyD ky) ∧ O5 = (O1 ++ [.dct acc]) ++ E2 ∧ Pv (i + 1) (putC acc ky c2)) ∧ (k = false → ∃ E2, O3 = (O1 ++ [.dct acc]) ++ E2 ∧ Pv (i + 1) acc)) ∧
      (∀ acc, Pv ds.length acc → R (.o O1.length) (O1 ++ [.dct acc]))) :
    We Y (tDc (wpI Y tg iter) (tgG Y.K τ) (wpT (Y.blk scope) cond) (wpE (Y.blk scope) kx) (wpE (Y.blk scope) vx) vs) Γ O R := fun F as σ H Q S L tx t => h F as σ H _ S L tx fun F1 as1 J ds O1 H1 g1 S1 j1 ⟨Pv, hz, p0, pc, ps, pd⟩ => by
  intro D hD
  have txF : ∀ {F as}, ThX (Y.blk scope) F as := fun F' as' cl O' σ' H' _ _ (r : False) => r.elim
  obtain ⟨S2, g2⟩ := S1.ownG hD (u0 := .dct []) (o0 := .dK []) ⟨[], rfl, .nil⟩
  have aD : (as1 ++ [D])[O1.length]? = some D := by rw [← S1.len]; simp
  refine ⟨fun i m H' => i ≤ ds.length ∧ m = ds.length - i ∧ ∃ F' acc, Same F1 F' ∧ Sat Y.K F' H' (as1 ++ [D]) (O1 ++ [.dct acc]) ∧ Pv i acc, ⟨ds.length, Nat.zero_le _, by omega, F1, [], Same.refl _, S2, p0⟩, ?_⟩
  rintro i m H' ⟨hi, rfl, F2, acc, e2, S3, p2⟩
  have j2 := j1.mono e2
  obtain ⟨c3, c4⟩ := pc i acc p2
  by_cases hlt : i < ds.length
  · refine .inr ⟨j2.go i H' S3.ex hlt, fun H4 => ∃ F' acc, Same F1 F' ∧ Sat Y.K F' H4 (as1 ++ [D]) (O1 ++ [.dct acc]) ∧ Pv (i + 1) acc, fun H4 ⟨F', acc', a1, a2, a3⟩ => ⟨ds.length - (i + 1), by omega, hlt, rfl, F', acc', a1, a2, a3⟩, fun x H3 y => ?_⟩
    obtain ⟨F3, g3, S4, r3⟩ := jd_item j2 S3 (List.getElem?_eq_getElem hlt) y
    obtain ⟨Γ2, ht, hb⟩ := ps i _ acc (List.getElem?_eq_getElem hlt) p2
    have gg : Gr F as F3 (as1 ++ [D]) := ⟨(g1.fr.trans e2).trans g3.fr, g1.px.trans (List.prefix_append _ _)⟩
    -- what came behind the new dict is forgotten
    have cutS : ∀ {F4 as4 H4 E2}, Gr F3 (as1 ++ [D]) F4 as4 → Sat Y.K F4 H4 as4 ((O1 ++ [.dct acc]) ++ E2) → Sat Y.K F4 H4 (as1 ++ [D]) (O1 ++ [.dct acc]) := by
      intro F4 as4 H4 E2 g4 S5
      have hl : (as1 ++ [D]).length = (O1 ++ [Ob.dct acc]).length := by simp [S1.len]
      refine S5.cut g4.px hl ?_
      have hn : (O1 ++ [Ob.dct acc]).length = O1.length + 1 := by simp
      rw [hn]
      intro u hu
      have up : ∀ {c : C}, clC O1.length c → clC (O1.length + 1) c := fun {c} q => by
        cases c with
        | d x => trivial
        | o k => exact Nat.lt_succ_of_lt q
      rcases List.mem_append.mp hu with z | z
      · exact fun c hc => up (S1.clo u z c hc)
      · have : u = .dct acc := by simpa using z
        subst this
        intro c hc
        obtain ⟨p, hp, rfl⟩ := List.mem_map.mp hc
        exact up (c3 p hp)
    refine tg_run S4 hj (slr_wipe (L.mono gg) vs) r3 ht fun σ2 L2' ew => ⟨ew, ?_⟩
    refine hb F3 _ σ2 H3 _ S4 L2' txF fun F4 as4 k v O4 H4 g4 S5 r4 hk => ?_
    have r4 : v = k := by rw [← r4]
    subst r4
    cases v with
    | true =>
      refine iteT (hk.1 rfl F4 as4 σ2 H4 _ S5 (L2'.mono g4) txF fun F5 as5 cx vx' O5 H5 g5 S6 r5 hv => ?_)
      refine hv F5 as5 σ2 H5 _ S6 (L2'.mono (g4.trans g5)) txF fun F6 as6 cy vy O6 H6 g6 S7 r6 ⟨ky, E2, e5, e6, p6⟩ => ?_
      subst e5 e6
      have gA := (g4.trans g5).trans g6
      have S7 := cutS gA S7
      obtain ⟨d3, d4⟩ := pc (i + 1) _ p6
      have hO : (O1 ++ [Ob.dct acc])[O1.length]? = some (.dct acc) := by simp
      obtain ⟨hF, ws, e7, p7⟩ := S7.dct aD hO
      have ek := key_of r5
      subst ek
      have hc2 : clC O1.length cy := by
        have : ∃ p ∈ putC acc ky cy, p.2 = cy := by
          unfold putC
          by_cases hq : (acc.any fun kv => decide (kv.1 = ky)) = true
          · rw [if_pos hq]
            obtain ⟨p, hp, hpk⟩ := List.any_eq_true.mp hq
            exact ⟨(p.1, cy), List.mem_map.mpr ⟨p, hp, by rw [if_pos (by simpa using hpk)]⟩, rfl⟩
          · rw [if_neg hq]
            exact ⟨(ky, cy), by simp, rfl⟩
        obtain ⟨p, hp, e⟩ := this
        exact e ▸ d3 p hp
      have r7 : CR Y.K F6 (as1 ++ [D]) cy vy := cr_back r6 gA.px (by
        cases cy with
        | d x => trivial
        | o k => exact Nat.lt_of_lt_of_le hc2 (by simp [S1.len]))
      have hlen : ws.length ≤ i := by rw [← pr_len p7]; exact c4
      refine ⟨ws, ky, rfl, e7, by omega, F6, putC acc ky cy, (e2.trans g3.fr).trans gA.fr, ?_, p6⟩
      have S8 := S7.putG aD hF (u1 := .dct (putC acc ky cy)) ⟨_, rfl, put_rel p7 r7⟩
      have e8 : (O1 ++ [Ob.dct acc]).set O1.length (.dct (putC acc ky cy)) = O1 ++ [.dct (putC acc ky cy)] := by simp
      rw [e8] at S8
      exact S8
    | false =>
      obtain ⟨E2, e4, p4⟩ := hk.2 rfl
      subst e4
      exact iteF ⟨F4, acc, (e2.trans g3.fr).trans g4.fr, cutS g4 S5, p4⟩
  · have e : i = ds.length := by omega
    subst e
    refine .inl ⟨j2.stop _ H' S3.ex (Nat.le_refl _), ?_⟩
    exact t F2 (as1 ++ [D]) (.o O1.length) _ _ H' ⟨g1.fr.trans e2, g1.px.trans (List.prefix_append _ _)⟩ S3 ⟨D, aD, rfl⟩ (pd acc p2)
theorem xe_dcI {scope : Scope} {own : List (Str × Nat)} {τ : Tgt} (ok : ∀ i, BlkOk (Y.X i).N (Y.X i).env.scope scope own) (hg : ∀ i, PG ((Y.blk scope).X i) tg (tgG Y.K τ)) (w : We Y (tDc (wpI Y tg iter) (tgG Y.K τ) (wpT (Y.blk scope) cond) (wpE (Y.blk scope) kx) (wpE (Y.blk scope) vx) (own.map (·.2))) Γ O R) (hc : Y.cl = true := by rfl)
    (hs : ∀ i x, foldedSetIterable iter (Y.X i).env x = pure x := by intro _ _; rfl) : XE Y (.DictComp kx vx [⟨tg, iter, [cond], 0⟩] scope pos) Γ O R :=
  xe_of (fun i => pe_dc (Y.calm hc i) (by rw [Y.hN]; exact Y.nd) (piW i) (ok i) (fun s H C cl fp => hg (i, s, H, C, cl, fp)) (fun s H C cl fp => pts_one (ptW (Y := Y.blk scope) (i, s, H, C, cl, fp))) (fun s H C cl fp => peW (Y := Y.blk scope) (i, s, H, C, cl, fp)) (fun s H C cl fp => peW (Y := Y.blk scope) (i, s, H, C, cl, fp)) (hs i)) w
end
end T

set_option Elab.async false
set_option linter.all false
set_option maxRecDepth 100000
set_option maxHeartbeats 1000000
namespace T
open PySem PySem.Spec PyProof.Rows L2
section
variable {Y : Fam} {e : Expr} {es : List Expr} {Γ : Gam} {O : Sto} {R : C → Sto → Prop} {pos p : Pos}
theorem xe_min2 (hm : Y.mg "min" = none) (h : XA Y (e :: es) Γ O fun cs O1 => ∃ i j, cs = [.d (.int i), .d (.int j)] ∧ R (.d (.int (if j < i then j else i))) O1) (hc : Y.cl = true := by rfl) (hg : ∀ i, Gl (Y.X i) "min" := by exact fun _ => rfl)
    (he : ∀ i, starEach (e :: es) (Y.X i).env = (false, eval e (Y.X i).env) :: starEach es (Y.X i).env := by exact fun _ => rfl) (hpl : ∀ i, (backTo pos (starEach es (Y.X i).env)).any (·.1) = false := by exact fun _ => rfl) : XE Y (.Call (.Name "min" p) (e :: es) [] pos) Γ O R :=
  xe_blt (fun i => call_min2 (Y.calm hc i)) hm (by first | rfl | decide +kernel) (fun F as σ H Q S L tx t => h F as σ H Q S L tx fun F1 as1 cs vs O1 H1 g1 S1 r1 ⟨i, j, ec, h1⟩ => t F1 as1 cs vs O1 H1 g1 S1 r1 (by
    subst ec
    intro F2 as2 H2 xs Q2 S2 r2 t2
    cases r2 with
    | cons ra rb =>
    cases rb with
    | cons rb rc =>
    cases rc
    cases ra
    cases rb
    exact ⟨i, j, rfl, t2.go S2 (show CR Y.K F2 as2 (.d (.int _)) _ from .int _) h1⟩)) hg (by decide) (by decide) he hpl
theorem xe_max2 (hm : Y.mg "max" = none) (h : XA Y (e :: es) Γ O fun cs O1 => ∃ i j, cs = [.d (.int i), .d (.int j)] ∧ R (.d (.int (if j > i then j else i))) O1) (hc : Y.cl = true := by rfl) (hg : ∀ i, Gl (Y.X i) "max" := by exact fun _ => rfl)
    (he : ∀ i, starEach (e :: es) (Y.X i).env = (false, eval e (Y.X i).env) :: starEach es (Y.X i).env := by exact fun _ => rfl) (hpl : ∀ i, (backTo pos (starEach es (Y.X i).env)).any (·.1) = false := by exact fun _ => rfl) : XE Y (.Call (.Name "max" p) (e :: es) [] pos) Γ O R :=
  xe_blt (fun i => call_max2 (Y.calm hc i)) hm (by first | rfl | decide +kernel) (fun F as σ H Q S L tx t => h F as σ H Q S L tx fun F1 as1 cs vs O1 H1 g1 S1 r1 ⟨i, j, ec, h1⟩ => t F1 as1 cs vs O1 H1 g1 S1 r1 (by
    subst ec
    intro F2 as2 H2 xs Q2 S2 r2 t2
    cases r2 with
    | cons ra rb =>
    cases rb with
    | cons rb rc =>
    cases rc
    cases ra
    cases rb
    exact ⟨i, j, rfl, t2.go S2 (show CR Y.K F2 as2 (.d (.int _)) _ from .int _) h1⟩)) hg (by decide) (by decide) he hpl
end
theorem w2_in_add {K : PySem.W.Frag} {i j : Int} {O : Sto} {R : C → Sto → Prop} (r : R (.d (.int (i + j))) O) : W2 K rAdd (.d (.int i)) (.d (.int j)) O R := fun F as H x y Q S rx ry t => by
  cases rx
  cases ry
  exact ⟨i, j, rfl, rfl, t.go S (show CR K F as (.d (.int _)) _ from .int _) r⟩
/-! ### a walk -/
def wkF (st pl : Int) (kd : Nat) (lo hi : Int) : List (Str × C) := [("state", .d (.int st)), ("place", .d (.int pl)), ("marks", .o kd), ("low", .d (.int lo)), ("high", .d (.int hi))]
def wkO (CW dx : Addr) (st pl : Int) (kd : Nat) (lo hi : Int) : Ob := .ins CW dx (wkF st pl kd lo hi)
theorem wk_len {st pl lo hi : Int} {kd : Nat} : (wkF st pl kd lo hi).length < 1000 := show 5 < 1000 by decide
section
variable {st pl lo hi v : Int} {kd : Nat} {CW dx : Addr}
theorem wk_put_state : Ob.ins CW dx (putFC "state" (.d (.int v)) (wkF st pl kd lo hi)) = wkO CW dx v pl kd lo hi := rfl
theorem wk_put_place : Ob.ins CW dx (putFC "place" (.d (.int v)) (wkF st pl kd lo hi)) = wkO CW dx st v kd lo hi := rfl
theorem wk_put_low : Ob.ins CW dx (putFC "low" (.d (.int v)) (wkF st pl kd lo hi)) = wkO CW dx st pl kd v hi := rfl
theorem wk_put_high : Ob.ins CW dx (putFC "high" (.d (.int v)) (wkF st pl kd lo hi)) = wkO CW dx st pl kd lo v := rfl
end
/-! ### marks: tapes without blanks -/
def delI (t : Tp) (x : Int) : Tp := t.filter fun p => decide (p.1 ≠ x)
def NZ (t : Tp) : Prop := ∀ p ∈ t, p.2 ≠ 0
theorem del_tp {t : Tp} {x : Int} : delC (tpC t) (.inl x) = tpC (delI t x) := by
  unfold delC delI tpC
  rw [List.filter_map]
  congr 1
  apply List.filter_congr
  intro p _
  simp
theorem look_del {t : Tp} {x y : Int} : look (delI t x) y = if y = x then 0 else look t y := by
  unfold look delI
  rw [List.find?_filter]
  by_cases hy : y = x
  · rw [if_pos hy]
    have : t.find? (fun p => decide (decide (p.1 ≠ x) = true ∧ decide (p.1 = y) = true)) = none := List.find?_eq_none.mpr fun p _ => by simp; intro h; rw [hy]; exact h
    rw [this]
  · rw [if_neg hy]
    have e : (fun p : Int × Int => decide (decide (p.1 ≠ x) = true ∧ decide (p.1 = y) = true)) = fun p => decide (p.1 = y) := by
      funext p
      by_cases h : p.1 = y
      · simp [h, hy]
      · simp [h]
    rw [e]
theorem nz_del {t : Tp} {x : Int} (h : NZ t) : NZ (delI t x) := fun p hp => h p (List.mem_filter.mp hp).1
theorem nz_put {t : Tp} {x v : Int} (h : NZ t) (hv : v ≠ 0) : NZ (putI t x v) := fun p hp => by
  unfold putI at hp
  split at hp
  · obtain ⟨q, hq, rfl⟩ := List.mem_map.mp hp
    split
    · exact hv
    · exact h q hq
  · rcases List.mem_append.mp hp with z | z
    · exact h p z
    · have : p = (x, v) := by simpa using z
      rw [this]; exact hv
theorem look_mem {t : Tp} {x : Int} (h : NZ t) : look t x ≠ 0 ↔ x ∈ t.map (·.1) := by
  constructor
  · intro hx
    unfold look at hx
    cases e : t.find? (fun p => decide (p.1 = x)) with
    | none => rw [e] at hx; exact absurd rfl hx
    | some p => exact List.mem_map.mpr ⟨p, List.mem_of_find?_eq_some e, by simpa using List.find?_some e⟩
  · intro hx
    unfold look
    cases e : t.find? (fun p => decide (p.1 = x)) with
    | some p => exact h p (List.mem_of_find?_eq_some e)
    | none =>
      obtain ⟨p, hp, hq⟩ := List.mem_map.mp hx
      exact absurd hq (by simpa using List.find?_eq_none.mp e p hp)
theorem keys_inl {t : Tp} : (tpC t).map (·.1) = (t.map (·.1)).map Sum.inl := by
  unfold tpC
  rw [List.map_map, List.map_map]
  rfl
theorem has_tp {t : Tp} {x : Int} : (valC (tpC t) (.inl x)).isSome = decide (x ∈ t.map (·.1)) := by
  by_cases h : x ∈ t.map (·.1)
  · rw [at_tp h]; simp [h]
  · rw [val_tp]
    have : t.find? (fun p => decide (p.1 = x)) = none := List.find?_eq_none.mpr fun p hp => by
      simp
      intro z
      exact h (List.mem_map.mpr ⟨p, hp, z⟩)
    rw [this]; simp [h]
/-- the least key, or 0; the greatest key, or -1 -/
def lowK (t : Tp) : Int := match isort (t.map (·.1)) with
  | [] => 0
  | s :: _ => s
def topK (t : Tp) : Int := match isort (t.map (·.1)) with
  | [] => -1
  | s :: r => r.getLastD s
theorem isort_nil {ns : List Int} : isort ns = [] ↔ ns = [] := by
  constructor
  · intro h
    have := (isort_perm (ns := ns)).length_eq
    rw [h] at this
    exact List.length_eq_zero_iff.mp this.symm
  · intro h; subst h; exact List.length_eq_zero_iff.mp (isort_perm (ns := [])).length_eq
theorem low_nil {t : Tp} (h : t.map (·.1) = []) : lowK t = 0 := by unfold lowK; rw [isort_nil.mpr h]
theorem top_nil {t : Tp} (h : t.map (·.1) = []) : topK t = -1 := by unfold topK; rw [isort_nil.mpr h]
theorem low_eq {t : Tp} {m : Int} (hm : m ∈ t.map (·.1)) (hl : ∀ j ∈ t.map (·.1), m ≤ j) : lowK t = m := by
  unfold lowK
  cases e : isort (t.map (·.1)) with
  | nil => rw [isort_nil.mp e] at hm; cases hm
  | cons s r =>
    have hs : (s :: r).Pairwise (· ≤ ·) := by rw [← e]; exact isort_srt
    have hp : ∀ x, x ∈ s :: r ↔ x ∈ t.map (·.1) := fun x => by rw [← e]; exact isort_perm.mem_iff
    have h1 := hl s ((hp s).mp (by simp))
    rcases List.mem_cons.mp ((hp m).mpr hm) with z | z
    · exact z.symm
    · exact Int.le_antisymm ((List.pairwise_cons.mp hs).1 m z) h1
theorem top_eq {t : Tp} {m : Int} (hm : m ∈ t.map (·.1)) (hl : ∀ j ∈ t.map (·.1), j ≤ m) : topK t = m := by
  unfold topK
  cases e : isort (t.map (·.1)) with
  | nil => rw [isort_nil.mp e] at hm; cases hm
  | cons s r =>
    have hs : (s :: r).Pairwise (· ≤ ·) := by rw [← e]; exact isort_srt
    have hp : ∀ x, x ∈ s :: r ↔ x ∈ t.map (·.1) := fun x => by rw [← e]; exact isort_perm.mem_iff
    exact Int.le_antisymm (hl _ ((hp _).mp getLastD_mem)) (srt_last hs m ((hp m).mpr hm))
theorem spots_nz {t : Tp} (h : NZ t) : spots t = isort (t.map (·.1)) := by
  unfold spots
  congr 1
  exact List.filter_eq_self.mpr fun x hx => by simpa using (look_mem h).mpr hx
section
variable {Y : Fam} {o z : Expr} {Γ : Gam} {O : Sto} {R : C → Sto → Prop} {pos p apos mpos kpos : Pos}
theorem xe_minKT (hm : Y.mg "min" = none) (h : XE Y o Γ O fun c1 O1 => ∃ k t0, c1 = .o k ∧ O1[k]? = some (dctI t0) ∧ XE Y z Γ O1 fun c2 O2 => ∃ t, O2[k]? = some (dctI t) ∧ c2 = .d (.int 0) ∧ R (.d (.int (lowK t))) O2) (hc : Y.cl = true := by rfl) (hg : ∀ i, Gl (Y.X i) "min" := by exact fun _ => rfl)
    (hbase : ∀ i, attributeBase o "keys" (Y.X i).env (eval o (Y.X i).env) = eval o (Y.X i).env := by exact fun _ => rfl) (hline : (apos.endLine == mpos.line) = true := by rfl) : XE Y (.Call (.Name "min" p) [.Call (.Attribute o "keys" apos) [] [] mpos] [⟨some "default", z, kpos⟩] pos) Γ O R :=
  xe_minKeysD hm (h.imp fun c1 O1 ⟨k, t0, e1, hO, hx⟩ => ⟨k, _, e1, hO, hx.imp fun c2 O2 ⟨t, h1, e2, r⟩ => ⟨_, t.map (·.1), h1, keys_inl, fun e => by rw [low_nil e] at r; rw [e2]; exact r, fun m hm hl => by rw [low_eq hm hl] at r; exact r⟩⟩) hc hg hbase hline
theorem xe_maxKT (hm : Y.mg "max" = none) (h : XE Y o Γ O fun c1 O1 => ∃ k t0, c1 = .o k ∧ O1[k]? = some (dctI t0) ∧ XE Y z Γ O1 fun c2 O2 => ∃ t, O2[k]? = some (dctI t) ∧ c2 = .d (.int (-1)) ∧ R (.d (.int (topK t))) O2) (hc : Y.cl = true := by rfl) (hg : ∀ i, Gl (Y.X i) "max" := by exact fun _ => rfl)
    (hbase : ∀ i, attributeBase o "keys" (Y.X i).env (eval o (Y.X i).env) = eval o (Y.X i).env := by exact fun _ => rfl) (hline : (apos.endLine == mpos.line) = true := by rfl) : XE Y (.Call (.Name "max" p) [.Call (.Attribute o "keys" apos) [] [] mpos] [⟨some "default", z, kpos⟩] pos) Γ O R :=
  xe_maxKeysD hm (h.imp fun c1 O1 ⟨k, t0, e1, hO, hx⟩ => ⟨k, _, e1, hO, hx.imp fun c2 O2 ⟨t, h1, e2, r⟩ => ⟨_, t.map (·.1), h1, keys_inl, fun e => by rw [top_nil e] at r; rw [e2]; exact r, fun m hm hl => by rw [top_eq hm hl] at r; exact r⟩⟩) hc hg hbase hline
end
/-- what configuration() makes of a walk -/
def confF (st pl : Int) (t : Tp) : Cfg := (st, pl, lowK t, (List.range (topK t + 1 - lowK t).toNat).map fun i => look t (lowK t + (i : Nat)))
theorem conf_end {st pl : Int} {t : Tp} (h : NZ t) : confF st pl t = endF st pl t := by
  unfold confF
  cases e : spots t with
  | nil =>
    rw [endF_nil e]
    rw [spots_nz h] at e
    have e := isort_nil.mp e
    rw [low_nil e, top_nil e]
    rfl
  | cons s r =>
    rw [endF_cons e]
    rw [spots_nz h] at e
    have e1 : lowK t = s := by unfold lowK; rw [e]
    have e2 : topK t = r.getLastD s := by unfold topK; rw [e]
    rw [e1, e2]
theorem srt_eq {ns ms : List Int} (h1 : ns.Pairwise (· < ·)) (h2 : ms.Pairwise (· < ·)) (h : ∀ x, x ∈ ns ↔ x ∈ ms) : ns = ms :=
  List.Perm.eq_of_pairwise (le := fun a b : Int => a < b) (fun a b _ _ h1 h2 => by omega) h1 h2 ((List.perm_ext_iff_of_nodup (h1.imp fun h => Int.ne_of_lt h) (h2.imp fun h => Int.ne_of_lt h)).mpr h)
/-- tapes alike at every place end alike -/
theorem endF_look {st pl : Int} {t u : Tp} (h : ∀ x, look t x = look u x) : endF st pl t = endF st pl u := by
  have hm : ∀ x, x ∈ spots t ↔ x ∈ spots u := fun x => by rw [spots_mem, spots_mem, h]
  cases e : spots t with
  | nil =>
    have e' : spots u = [] := by
      cases e' : spots u with
      | nil => rfl
      | cons s r => have := (hm s).mpr (by rw [e']; simp); rw [e] at this; cases this
    rw [endF_nil e, endF_nil e']
  | cons s r =>
    cases e' : spots u with
    | nil => have := (hm s).mp (by rw [e]; simp); rw [e'] at this; cases this
    | cons s' r' =>
      obtain ⟨a1, a2, a3, a4⟩ := spots_ends e
      obtain ⟨b1, b2, b3, b4⟩ := spots_ends e'
      have e1 : s = s' := Int.le_antisymm (a4 s' (by rw [h]; exact b1)).1 (b4 s (by rw [← h]; exact a1)).1
      have e2 : r.getLastD s = r'.getLastD s' := Int.le_antisymm (b4 _ (by rw [← h]; exact a2)).2 (a4 _ (by rw [h]; exact b2)).2
      rw [endF_cons e, endF_cons e', e1]
      rw [e1] at e2
      rw [e2]
      simp only [h]
/-- the marks of a configuration -/
def markT : Nat → Int → List Int → Tp
  | _, _, [] => []
  | i, f, x :: xs => if x ≠ 0 then (f + i, x) :: markT (i + 1) f xs else markT (i + 1) f xs
theorem mark_key : ∀ {i : Nat} {f : Int} {xs : List Int} {p : Int × Int}, p ∈ markT i f xs → f + i ≤ p.1 ∧ p.1 < f + i + xs.length
  | _, _, [], _, h => by cases h
  | i, f, x :: xs, p, h => by
    unfold markT at h
    have rec_ : p ∈ markT (i + 1) f xs → f + i ≤ p.1 ∧ p.1 < f + i + (x :: xs).length := fun h => by
      have := mark_key h
      rw [List.length_cons]
      omega
    split at h
    · rcases List.mem_cons.mp h with e | h
      · subst e
        rw [List.length_cons]
        exact ⟨by show f + i ≤ f + i; omega, by show f + i < _; omega⟩
      · exact rec_ h
    · exact rec_ h
theorem mark_snoc : ∀ {i : Nat} {f : Int} {xs : List Int} {x : Int}, markT i f (xs ++ [x]) = markT i f xs ++ (if x ≠ 0 then [(f + ((i + xs.length : Nat) : Int), x)] else [])
  | i, f, [], x => by
    show markT i f [x] = _
    unfold markT
    split
    · rfl
    · rfl
  | i, f, y :: xs, x => by
    show markT i f (y :: (xs ++ [x])) = _
    unfold markT
    rw [mark_snoc]
    have e : i + 1 + xs.length = i + (y :: xs).length := by rw [List.length_cons]; omega
    rw [e]
    split
    · rfl
    · rfl
theorem mark_put {f : Int} {xs : List Int} {x : Int} (hx : x ≠ 0) : putC (tpC (markT 0 f xs)) (.inl (f + ((xs.length : Nat) : Int))) (.d (.int x)) = tpC (markT 0 f (xs ++ [x])) := by
  rw [put_tp, mark_snoc, if_pos hx]
  unfold putI
  rw [if_neg]
  · rw [Nat.zero_add]
  · intro h
    obtain ⟨p, hp, e⟩ := List.any_eq_true.mp h
    have := mark_key hp
    have e : p.1 = f + (xs.length : Nat) := by simpa using e
    omega
theorem mark_skip {f : Int} {xs : List Int} : markT 0 f (xs ++ [0]) = markT 0 f xs := by
  rw [mark_snoc, if_neg (by simp), List.append_nil]
theorem mark_len : ∀ {i : Nat} {f : Int} {xs : List Int}, (markT i f xs).length ≤ xs.length
  | _, _, [] => Nat.le_refl _
  | i, f, x :: xs => by
    unfold markT
    have := mark_len (i := i + 1) (f := f) (xs := xs)
    split
    · rw [List.length_cons, List.length_cons]; omega
    · rw [List.length_cons]; omega
theorem mark_nz : ∀ {i : Nat} {f : Int} {xs : List Int}, NZ (markT i f xs)
  | _, _, [], _, h => by cases h
  | i, f, x :: xs, p, h => by
    unfold markT at h
    split at h
    · rcases List.mem_cons.mp h with e | h
      · subst e; assumption
      · exact mark_nz p h
    · exact mark_nz p h
/-- a walk that is being made -/
def wkP (st pl : Int) : List (Str × C) := [("state", .d (.int st)), ("place", .d (.int pl))]
def wkQ (st pl : Int) (kd : Nat) : List (Str × C) := [("state", .d (.int st)), ("place", .d (.int pl)), ("marks", .o kd)]
def wkR (st pl : Int) (kd : Nat) (lo : Int) : List (Str × C) := [("state", .d (.int st)), ("place", .d (.int pl)), ("marks", .o kd), ("low", .d (.int lo))]
def wkS (st : Int) : List (Str × C) := [("state", .d (.int st))]
section
variable {st pl lo hi v : Int} {kd : Nat} {CW dx : Addr}
theorem wk_n1 : Ob.ins CW dx (putFC "state" (.d (.int v)) []) = .ins CW dx (wkS v) := rfl
theorem wk_n2 : Ob.ins CW dx (putFC "place" (.d (.int v)) (wkS st)) = .ins CW dx (wkP st v) := rfl
theorem wk_n3 : Ob.ins CW dx (putFC "marks" (.o kd) (wkP st pl)) = .ins CW dx (wkQ st pl kd) := rfl
theorem wk_n4 : Ob.ins CW dx (putFC "low" (.d (.int v)) (wkQ st pl kd)) = .ins CW dx (wkR st pl kd v) := rfl
theorem wk_n5 : Ob.ins CW dx (putFC "high" (.d (.int v)) (wkR st pl kd lo)) = wkO CW dx st pl kd lo v := rfl
theorem wk_l1 : (wkS st).length < 1000 := show 1 < 1000 by decide
theorem wk_l2 : (wkP st pl).length < 1000 := show 2 < 1000 by decide
theorem wk_l3 : (wkQ st pl kd).length < 1000 := show 3 < 1000 by decide
theorem wk_l4 : (wkR st pl kd lo).length < 1000 := show 4 < 1000 by decide
end
end T

set_option Elab.async false
set_option linter.all false
set_option maxRecDepth 100000
set_option maxHeartbeats 1000000
namespace T
open PySem PySem.Spec PyProof.Rows L2
/-- a configuration all of whose cells and head lie in -n .. n -/
structure OkZ (n : Int) (S Y : Int) (c : Cfg) : Prop where
  s0 : -1 ≤ c.1
  s1 : c.1 < S
  p0 : -n ≤ c.2.1
  p1 : c.2.1 ≤ n
  ends : c.2.2.2 ≠ [] → -n ≤ c.2.2.1 ∧ c.2.2.1 + c.2.2.2.length ≤ n + 1
  sym : ∀ x ∈ c.2.2.2, 0 ≤ x ∧ x < Y
  nil : c.2.2.2 = [] → c.2.2.1 = 0
  hd : ∀ x, c.2.2.2.head? = some x → x ≠ 0
  lst : ∀ x, c.2.2.2.getLast? = some x → x ≠ 0
theorem OkZ.cfg {n S Y : Int} {c : Cfg} (h : OkZ n S Y c) (hn : n ≤ 400) : OkCfg S Y c := by
  have a1 := h.p0
  have a2 := h.p1
  by_cases e : c.2.2.2 = []
  · have := h.nil e
    exact ⟨h.s0, h.s1, by omega, by omega, by omega, by omega, by rw [e]; decide, h.sym, h.nil, h.hd, h.lst⟩
  · have := h.ends e
    exact ⟨h.s0, h.s1, by omega, by omega, by omega, by omega, by omega, h.sym, h.nil, h.hd, h.lst⟩
theorem okZ_endF {S Y st pl n : Int} {t : Tp} (h0 : -1 ≤ st) (h1 : st < S) (p0 : -n ≤ pl) (p1 : pl ≤ n) (ht : ∀ x, look t x ≠ 0 → -n ≤ x ∧ x ≤ n) (hs : ∀ x, 0 ≤ look t x ∧ look t x < Y) : OkZ n S Y (endF st pl t) := by
  cases e : spots t with
  | nil =>
    rw [endF_nil e]
    exact ⟨h0, h1, p0, p1, fun z => absurd rfl z, fun x hx => (by cases hx), fun _ => rfl, fun x hx => (by cases hx), fun x hx => (by cases hx)⟩
  | cons s r =>
    rw [endF_cons e]
    obtain ⟨e1, e2, e3, e4⟩ := spots_ends e
    have q1 := ht _ e1
    have q2 := ht _ e2
    have hm : ((r.getLastD s) + 1 - s).toNat = (r.getLastD s - s).toNat + 1 := by omega
    refine ⟨h0, h1, p0, p1, fun _ => ⟨q1.1, ?_⟩, ?_, ?_, ?_, ?_⟩
    · show s + (((List.range _).map _).length : Nat) ≤ n + 1
      rw [List.length_map, List.length_range]; omega
    · intro x hx
      obtain ⟨i, _, rfl⟩ := List.mem_map.mp hx
      exact hs _
    · intro z
      have z : (List.range ((r.getLastD s) + 1 - s).toNat).map (fun i => look t (s + (i : Nat))) = [] := z
      rw [hm, List.range_succ] at z
      simp at z
    · intro x hx
      have hx : ((List.range ((r.getLastD s) + 1 - s).toNat).map (fun i => look t (s + (i : Nat)))).head? = some x := hx
      rw [hm, List.range_succ_eq_map] at hx
      simp at hx
      rw [← hx]
      exact e1
    · intro x hx
      have hx : ((List.range ((r.getLastD s) + 1 - s).toNat).map (fun i => look t (s + (i : Nat)))).getLast? = some x := hx
      rw [hm, List.range_succ, List.map_append, List.map_cons, List.map_nil, List.getLast?_append] at hx
      have hx : look t (s + ((r.getLastD s - s).toNat : Nat)) = x := by simpa only [List.getLast?_singleton, Option.some_or, Option.some.injEq] using hx
      rw [← hx, show s + ((r.getLastD s - s).toNat : Int) = r.getLastD s by omega]
      exact e2
end T

set_option Elab.async false
set_option linter.all false
set_option maxRecDepth 100000
set_option maxHeartbeats 2000000
/-! Ty: zip of two tuples. -/
namespace T
open PySem PySem.Spec PyProof.Rows L2
/-- the pairs -/
def zipD (xs ys : List PyData) : List PyData := List.zipWith (fun x y => .tuple [x, y]) xs ys
theorem zipD_len {xs ys : List PyData} : (zipD xs ys).length = min xs.length ys.length := List.length_zipWith
theorem zipD_get {xs ys : List PyData} {i : Nat} {d : PyData} (h : (zipD xs ys)[i]? = some d) : ∃ x y, xs[i]? = some x ∧ ys[i]? = some y ∧ d = .tuple [x, y] := by
  unfold zipD at h
  rw [List.getElem?_zipWith] at h
  cases ex : xs[i]? with
  | none => rw [ex] at h; cases h
  | some x =>
    cases ey : ys[i]? with
    | none => rw [ex, ey] at h; cases h
    | some y => rw [ex, ey] at h; exact ⟨x, y, rfl, rfl, (Option.some.inj h).symm⟩
section
variable {Y : Fam} {a b : Expr} {elts : List Expr} {kk : Nat} {Γ : Gam} {O : Sto} {RI : List PyData → Sto → Prop} {pos p tpos : Pos}
theorem xi_zip (hm : Y.mg "zip" = none) (h : XA Y [a, b] Γ O fun cs O1 => ∃ ds es, cs = [.d (.tuple ds), .d (.tuple es)] ∧ RI (zipD ds es) O1) (hg : ∀ i, Gl (Y.X i) "zip" := by exact fun _ => rfl)
    (hs : ∀ i, starEach [a, b] (Y.X i).env = (false, eval a (Y.X i).env) :: starEach [b] (Y.X i).env := by exact fun _ => rfl) (hpl : ∀ i, (backTo pos (starEach [b] (Y.X i).env)).any (·.1) = false := by exact fun _ => rfl) : XI Y (.Tuple elts kk tpos) (.Call (.Name "zip" p) [a, b] [] pos) Γ O RI := fun F as σ H R S L tx t =>
  wpI_of (wi := RZ.iZipA Y.K (wpA Y [a, b])) (fun i => by rw [← Y.hK i]; exact RZ.pi_zipA (hg i) (by rw [Y.hmg]; exact hm) (paW i) (hs i) (hpl i)) (h F as σ H _ S L tx fun F1 as1 cs vs O1 H1 g1 S1 r1 ⟨ds, es, e, h1⟩ => by
    subst e
    cases r1 with
    | cons r r0 =>
      cases r0 with
      | cons r' r0 =>
        cases r0
        cases r with
        | @tup ad xs _ hs ha =>
          cases r' with
          | @tup bd ys _ hs' ha' =>
            refine ⟨ad, bd, xs, ys, rfl, .inr ⟨same_t S1.ex hs, same_t S1.ex hs', t F1 as1 _ _ O1 H1 g1 S1 ⟨fun i H' e' hi => ⟨xs, ys, same_t e' hs, same_t e' hs', ?_⟩, fun i H' e' hi => ?_, fun i d H' x H'' e' hd y => ?_⟩ h1⟩⟩
            · rw [dpall_len ha, dpall_len ha']; rw [zipD_len] at hi; omega
            · rw [zipD_len] at hi
              have hi1 : i < xs.length := by rw [dpall_len ha]; omega
              have hi2 : i < ys.length := by rw [dpall_len ha']; omega
              exact ⟨xs, ys, xs[i], ys[i], same_t e' hs, same_t e' hs', List.getElem?_eq_getElem hi1, List.getElem?_eq_getElem hi2⟩
            · obtain ⟨z1, z2, hz1, hz2, ez⟩ := zipD_get hd
              obtain ⟨v1, hv1, rv1⟩ := dget ha hz1
              obtain ⟨v2, hv2, rv2⟩ := dget ha' hz2
              obtain ⟨q, w1, w2, e1, e2, e3, e4, e5⟩ := y
              have f1 : w1 = v1 := Option.some.inj ((e4 xs (same_t e' hs)).symm.trans hv1)
              have f2 : w2 = v2 := Option.some.inj ((e5 ys (same_t e' hs')).symm.trans hv2)
              subst f1 f2
              subst ez
              refine .inr ⟨q, _, e2, e3, ?_⟩
              rw [e1]
              have sm : Same F1 (upd F1 q (.tup [w1, w2])) := fun b u y => by rw [upd_ne (ne_of_none y (e'.free e2))]; exact y
              exact .tup (.inl (.inl upd_same)) (.cons (dp_same sm _ _ rv1) (.cons (dp_same sm _ _ rv2) .nil)))
end
/-- a list times a number, never written -/
theorem w2_mul_lstF {K : PySem.W.Frag} {O : Sto} {R : C → Sto → Prop} {k : Nat} {n : Int} {cs : List C} {ds : List PyData} (hO : O[k]? = some (.lst cs)) (hd : allD cs = some ds) (h1 : 0 ≤ n) (h2 : n ≤ 1000) (hz : ds.length ≤ 100) (r : R (.d (.list (List.replicate n.toNat ds).flatten)) O) : W2 K (rTimes K) (.o k) (.d (.int n)) O R := fun F as H x y Q S rx ry t => by
  obtain ⟨a, ha, rfl⟩ := rx
  cases ry
  obtain ⟨_, vs, e1, p1⟩ := S.lst ha hO
  have hl : vs.length = ds.length := dpall_len (all_cs p1 hd)
  refine .inr (.inr (.inl ⟨a, n, vs, rfl, rfl, e1, by omega, by omega, ?_, fun p hp => ?_⟩))
  · rw [hl]
    have : ds.length * n.toNat ≤ 100 * 1000 := Nat.mul_le_mul hz (by omega)
    exact Nat.le_trans this (by decide)
  · obtain ⟨S2, g2⟩ := S.froze (o := .lst (List.replicate n.toNat vs).flatten) hp
    exact t _ _ (.d (.list _)) _ _ _ g2 S2 (.lst (.inl (.inl upd_same)) (dp_sameAll g2.fr _ _ (dpall_flat (all_cs p1 hd) n.toNat))) r
end T

set_option Elab.async false
set_option linter.all false
set_option maxRecDepth 100000
set_option maxHeartbeats 2000000
/-! Tz: comprehensions whose items are new objects; walks over owned lists. -/
namespace T
open PySem PySem.Spec PyProof.Rows L2
section
variable {Y : Fam} {e a b c iter tg elt cond : Expr} {es : List Expr} {st : Stmt} {sts : List Stmt} {Γ Γ2 : Gam} {O O1 O2 : Sto} {R : C → Sto → Prop} {RT : Bool → Sto → Prop} {E : En} {pos p : Pos} {x : Str}
/-- a comprehension whose items may be new objects: the whole store is told -/
theorem we_lcN {scope : Scope} {vs : List Nat} {τ : Tgt} (hj : ∀ j ∈ tgL τ, j ∈ vs) (hcl : Y.cl = true)
    (h : XI Y tg iter Γ O fun ds O1 => ∃ Pv : Nat → List C → Sto → Prop, ds.length ≤ sizeLine ∧ Pv 0 [] (O1 ++ [.lst []]) ∧ (∀ i acc O', Pv i acc O' → O'[O1.length]? = some (.lst acc) ∧ acc.length ≤ i) ∧
      (∀ i d acc O', ds[i]? = some d → Pv i acc O' → ∃ Γ2, tgS (wipeG Γ vs) τ d = some Γ2 ∧ XE (Y.blk scope) elt Γ2 O' fun y O3 => O3[O1.length]? = some (.lst acc) ∧ Pv (i + 1) (acc ++ [y]) (O3.set O1.length (.lst (acc ++ [y])))) ∧
      (∀ acc O', Pv ds.length acc O' → R (.o O1.length) O')) :
    We Y (tLc (wpI Y tg iter) (tgG Y.K τ) tYes (wpE (Y.blk scope) elt) vs) Γ O R := fun F as σ H Q S L tx t => h F as σ H _ S L tx fun F1 as1 J ds O1 H1 g1 S1 j1 ⟨Pv, hz, p0, pc, ps, pd⟩ => by
  intro D hD
  have txF : ∀ {F as}, ThX (Y.blk scope) F as := fun F' as' cl O' σ' H' _ _ (r : False) => r.elim
  obtain ⟨S2, g2⟩ := S1.own (cs := []) (vs := []) hD .nil
  have aD : (as1 ++ [D])[O1.length]? = some D := by rw [← S1.len]; simp
  refine ⟨fun i m H' => i ≤ ds.length ∧ m = ds.length - i ∧ ∃ F' as' acc O', Gr F1 (as1 ++ [D]) F' as' ∧ Sat Y.K F' H' as' O' ∧ Pv i acc O', ⟨ds.length, Nat.zero_le _, by omega, F1, _, [], _, Gr.refl, S2, p0⟩, ?_⟩
  rintro i m H' ⟨hi, rfl, F2, as2, acc, O2, e2, S3, p2⟩
  have j2 := j1.mono e2.fr
  obtain ⟨c1, c2⟩ := pc i acc O2 p2
  by_cases hlt : i < ds.length
  · refine .inr ⟨j2.go i H' S3.ex hlt, fun H4 => ∃ F' as' acc O', Gr F1 (as1 ++ [D]) F' as' ∧ Sat Y.K F' H4 as' O' ∧ Pv (i + 1) acc O', fun H4 ⟨F', as', acc', O', a1, a2, a3⟩ => ⟨ds.length - (i + 1), by omega, hlt, rfl, F', as', acc', O', a1, a2, a3⟩, fun x H3 y => ?_⟩
    obtain ⟨F3, g3, S4, r3⟩ := jd_item j2 S3 (List.getElem?_eq_getElem hlt) y
    obtain ⟨Γ2, ht, hb⟩ := ps i _ acc O2 (List.getElem?_eq_getElem hlt) p2
    have gg : Gr F as F3 as2 := ((g1.trans g2).trans e2).trans g3
    refine tg_run S4 hj (slr_wipe (L.mono gg) vs) r3 ht fun σ2 L2' ew => ⟨ew, ?_⟩
    unfold tYes
    dsimp only
    rw [if_pos rfl]
    refine hb F3 _ σ2 H3 _ S4 L2' txF fun F4 as4 c v O4 H4 g4 S5 r4 ⟨hO, p4⟩ => ?_
    have aD4 : as4[O1.length]? = some D := px_get ((e2.trans g3).trans g4).px aD
    obtain ⟨hF, us, e5, p5⟩ := S5.lst aD4 hO
    have hlen : us.length ≤ i := by rw [← pr_len p5]; exact c2
    refine ⟨us, e5, by omega, F4, as4, acc ++ [c], _, (e2.trans g3).trans g4, ?_, p4⟩
    exact S5.put (u0 := .gone) (cs := acc ++ [c]) aD4 hF (Paired.snoc p5 r4)
  · have e : i = ds.length := by omega
    subst e
    refine .inl ⟨j2.stop _ H' S3.ex (Nat.le_refl _), ?_⟩
    exact t F2 as2 (.o O1.length) _ _ H' ((g1.trans g2).trans e2) S3 ⟨D, px_get e2.px aD, rfl⟩ (pd acc O2 p2)
/-- an owned list is walked -/
def XIo (Y : Fam) (tg iter : Expr) (Γ : Gam) (O : Sto) (RI : Nat → List C → Sto → Prop) : Prop := ∀ F as σ H R, Sat Y.K F H as O → SlR Y.K F as Γ σ → ThX Y F as → (∀ F' as' a k cs O' H', Gr F as F' as' → Sat Y.K F' H' as' O' → as'[k]? = some a → O'[k]? = some (.lst cs) → RI k cs O' → R (Itl Y.K a) H') → wpI Y tg iter σ H R
theorem xi_own (h : XE Y iter Γ O fun c O1 => ∃ k cs, c = .o k ∧ O1[k]? = some (.lst cs) ∧ RI k cs O1) : XIo Y tg iter Γ O RI := fun F as σ H R S L tx t => wpI_of (wi := iSeq Y.K (wpE Y iter)) (fun i => by rw [← Y.hK i]; exact pi_seq (peW i)) (h F as σ H _ S L tx fun F1 as1 c v O1 H1 g1 S1 r1 ⟨k, cs, e, hO, h1⟩ => by
  subst e
  obtain ⟨a, ha, rfl⟩ := r1
  obtain ⟨_, vs, e1, _⟩ := S1.lst ha hO
  exact ⟨a, rfl, .inl ⟨⟨vs, SqL.of e1⟩, t F1 as1 a k cs O1 H1 g1 S1 ha hO h1⟩⟩)
/-- what an owned list yields -/
theorem own_item {K : PySem.W.Frag} {F H H' : Hp} {as : List Addr} {k i : Nat} {a : Addr} {cs : List C} {x : V} (S : Sat K F H as O) (ha : as[k]? = some a) (hO : O[k]? = some (.lst cs)) (y : (Itl K a).yld i H x H') (hi : i < cs.length) : H' = H ∧ ∃ c, cs[i]? = some c ∧ CR K F as c x := by
  obtain ⟨_, vs, e1, p1⟩ := S.lst ha hO
  have hv := y.2 vs (SqL.of e1)
  obtain ⟨v, h1, h2⟩ := cget p1 (List.getElem?_eq_getElem hi)
  rw [hv] at h1
  cases h1
  exact ⟨y.1, _, List.getElem?_eq_getElem hi, h2⟩
theorem own_go {K : PySem.W.Frag} {F H : Hp} {as : List Addr} {k i : Nat} {a : Addr} {cs : List C} (S : Sat K F H as O) (ha : as[k]? = some a) (hO : O[k]? = some (.lst cs)) (hi : i < cs.length) : (Itl K a).go i H := by
  obtain ⟨_, vs, e1, p1⟩ := S.lst ha hO
  have hl := pr_len p1
  exact ⟨vs, vs[i]'(by omega), SqL.of e1, List.getElem?_eq_getElem _⟩
theorem own_stop {K : PySem.W.Frag} {F H : Hp} {as : List Addr} {k i : Nat} {a : Addr} {cs : List C} (S : Sat K F H as O) (ha : as[k]? = some a) (hO : O[k]? = some (.lst cs)) (hi : cs.length ≤ i) : (Itl K a).stop i H := by
  obtain ⟨_, vs, e1, p1⟩ := S.lst ha hO
  have hl := pr_len p1
  exact ⟨vs, SqL.of e1, by omega⟩
/-- a comprehension over an owned list, one name -/
theorem we_lcO {scope : Scope} {vs : List Nat} {j : Nat} (hj : j ∈ vs) (hcl : Y.cl = true)
    (h : XIo Y tg iter Γ O fun k ds O1 => ∃ Pv : Nat → List C → Sto → Prop, ds.length ≤ sizeLine ∧ Pv 0 [] (O1 ++ [.lst []]) ∧ (∀ i acc O', Pv i acc O' → O'[O1.length]? = some (.lst acc) ∧ acc.length ≤ i ∧ O'[k]? = some (.lst ds)) ∧
      (∀ i d acc O', ds[i]? = some d → Pv i acc O' → XE (Y.blk scope) elt ((wipeG Γ vs).set j (some d)) O' fun y O3 => O3[O1.length]? = some (.lst acc) ∧ Pv (i + 1) (acc ++ [y]) (O3.set O1.length (.lst (acc ++ [y])))) ∧
      (∀ acc O', Pv ds.length acc O' → R (.o O1.length) O')) :
    We Y (tLc (wpI Y tg iter) (tgG Y.K (.one j)) tYes (wpE (Y.blk scope) elt) vs) Γ O R := fun F as σ H Q S L tx t => h F as σ H _ S L tx fun F1 as1 ad k ds O1 H1 g1 S1 ha hk ⟨Pv, hz, p0, pc, ps, pd⟩ => by
  intro D hD
  have txF : ∀ {F as}, ThX (Y.blk scope) F as := fun F' as' cl O' σ' H' _ _ (r : False) => r.elim
  obtain ⟨S2, g2⟩ := S1.own (cs := []) (vs := []) hD .nil
  have aD : (as1 ++ [D])[O1.length]? = some D := by rw [← S1.len]; simp
  refine ⟨fun i m H' => i ≤ ds.length ∧ m = ds.length - i ∧ ∃ F' as' acc O', Gr F1 (as1 ++ [D]) F' as' ∧ Sat Y.K F' H' as' O' ∧ Pv i acc O', ⟨ds.length, Nat.zero_le _, by omega, F1, _, [], _, Gr.refl, S2, p0⟩, ?_⟩
  rintro i m H' ⟨hi, rfl, F2, as2, acc, O2, e2, S3, p2⟩
  obtain ⟨c1, c2, c3⟩ := pc i acc O2 p2
  have ha2 : as2[k]? = some ad := px_get (g2.trans e2).px ha
  by_cases hlt : i < ds.length
  · refine .inr ⟨own_go S3 ha2 c3 hlt, fun H4 => ∃ F' as' acc O', Gr F1 (as1 ++ [D]) F' as' ∧ Sat Y.K F' H4 as' O' ∧ Pv (i + 1) acc O', fun H4 ⟨F', as', acc', O', a1, a2, a3⟩ => ⟨ds.length - (i + 1), by omega, hlt, rfl, F', as', acc', O', a1, a2, a3⟩, fun x H3 y => ?_⟩
    obtain ⟨rfl, d, hd, r3⟩ := own_item S3 ha2 c3 y hlt
    have hb := ps i d acc O2 hd p2
    have gg : Gr F as F2 as2 := (g1.trans g2).trans e2
    refine ⟨wipe_set hj, ?_⟩
    unfold tYes
    dsimp only
    rw [if_pos rfl]
    refine hb F2 _ _ H3 _ S3 ((slr_wipe (L.mono gg) vs).set r3 j) txF fun F4 as4 c v O4 H4 g4 S5 r4 ⟨hO, p4⟩ => ?_
    have aD4 : as4[O1.length]? = some D := px_get (e2.trans g4).px aD
    obtain ⟨hF, us, e5, p5⟩ := S5.lst aD4 hO
    have hlen : us.length ≤ i := by rw [← pr_len p5]; exact c2
    refine ⟨us, e5, by omega, F4, as4, acc ++ [c], _, e2.trans g4, ?_, p4⟩
    exact S5.put (u0 := .gone) (cs := acc ++ [c]) aD4 hF (Paired.snoc p5 r4)
  · have e : i = ds.length := by omega
    subst e
    refine .inl ⟨own_stop S3 ha2 c3 (Nat.le_refl _), ?_⟩
    exact t F2 as2 (.o O1.length) _ _ H' ((g1.trans g2).trans e2) S3 ⟨D, px_get e2.px aD, rfl⟩ (pd acc O2 p2)
/-- for, over an owned list -/
theorem xs_forOG (h : XIo Y tg iter Γ O fun k ds O1 => ∃ Pv : Nat → Gam → Sto → Prop, Pv 0 Γ O1 ∧ (∀ i Γ' O', Pv i Γ' O' → O'[k]? = some (.lst ds)) ∧ (∀ i d Γ' O', ds[i]? = some d → Pv i Γ' O' → XG Y tg d Γ' O' fun Γ2 O2 => XB Y sts Γ2 O2 { E with nx := Pv (i + 1), ct := Pv (i + 1), bk := E.nx }) ∧ (∀ Γ' O', Pv ds.length Γ' O' → E.nx Γ' O'))
    (hc : Y.cl = true := by rfl) (hs : ∀ i x, foldedSetIterable iter (Y.X i).env x = pure x := by intro _ _; rfl) : XS Y (.For tg iter sts [] pos) Γ O E :=
  xs_of (fun i => ps_for (Y.own i) (Y.calm hc i) (piW i) (pgW i) (pbW i) (hs i)) fun F as σ H D S L tx t => h F as σ H _ S L tx fun F1 as1 a k ds O1 H1 g1 S1 ha hk ⟨Pv, p0, pk, ps, pd⟩ => by
    refine ⟨fun i m σ' H' => i ≤ ds.length ∧ m = ds.length - i ∧ ∃ F' as' Γ' O', Gr F1 as1 F' as' ∧ Sat Y.K F' H' as' O' ∧ SlR Y.K F' as' Γ' σ' ∧ Pv i Γ' O', ⟨ds.length, Nat.zero_le _, by omega, F1, as1, Γ, O1, Gr.refl, S1, L.mono g1, p0⟩, ?_⟩
    rintro i m σ' H' ⟨hi, rfl, F2, as2, Γ2, O2, g2, S2, L2', p2⟩
    have ha2 := px_get g2.px ha
    have hk2 := pk i Γ2 O2 p2
    by_cases hlt : i < ds.length
    · refine .inr ⟨own_go S2 ha2 hk2 hlt, fun σ3 H3 => ∃ F' as' Γ' O', Gr F1 as1 F' as' ∧ Sat Y.K F' H3 as' O' ∧ SlR Y.K F' as' Γ' σ3 ∧ Pv (i + 1) Γ' O', fun σ3 H3 ⟨F', as', Γ', O', a1, a2, a3, a4⟩ => ⟨ds.length - (i + 1), by omega, hlt, rfl, F', as', Γ', O', a1, a2, a3, a4⟩, fun x H3 y => ?_⟩
      obtain ⟨rfl, d, hd, r3⟩ := own_item S2 ha2 hk2 y hlt
      refine ps i d Γ2 O2 hd p2 F2 as2 σ' H3 x _ S2 L2' (tx.mono (g1.trans g2)) r3 fun F4 as4 Γ4 σ4 O4 H4 g4 S4 L4 b4 => ?_
      have gg := (g1.trans g2).trans g4
      have gn : ∀ {F' as'}, Gr F4 as4 F' as' → Gr F1 as1 F' as' := fun g => (g2.trans g4).trans g
      exact b4 F4 as4 σ4 H4 _ S4 L4 (tx.mono gg) ⟨fun F5 as5 Γ5 σ5 O5 H5 g5 S5 L5 q5 => ⟨F5, as5, Γ5, O5, gn g5, S5, L5, q5⟩, (t.mono gg).rt, (t.mono gg).nx, fun F5 as5 Γ5 σ5 O5 H5 g5 S5 L5 q5 => ⟨F5, as5, Γ5, O5, gn g5, S5, L5, q5⟩⟩
    · have e : i = ds.length := by omega
      subst e
      exact .inl ⟨own_stop S2 ha2 hk2 (Nat.le_refl _), t.nx F2 as2 Γ2 σ' O2 H' (g1.trans g2) S2 L2' (pd Γ2 O2 p2)⟩
theorem xs_forO {S : Type} (gs : S → List (Nat × Option C)) (os : S → List (Nat × Ob)) (Iv : Nat → S → Prop)
    (h : XIo Y tg iter Γ O fun k ds O1 => ∃ s0, Iv 0 s0 ∧ gset Γ (gs s0) = Γ ∧ oset O1 (os s0) = O1 ∧ (∀ i s, Iv i s → (oset O1 (os s))[k]? = some (.lst ds)) ∧
      (∀ i d s, ds[i]? = some d → Iv i s → XG Y tg d (gset Γ (gs s)) (oset O1 (os s)) fun Γ2 O2 => O2.length = O1.length ∧ XB Y sts Γ2 O2 { E with nx := Nx Γ O1 gs os (Iv (i + 1)), ct := Nx Γ O1 gs os (Iv (i + 1)), bk := E.nx }) ∧ (∀ s, Iv ds.length s → E.nx (gset Γ (gs s)) (oset O1 (os s))))
    (hc : Y.cl = true := by rfl) (hs : ∀ i x, foldedSetIterable iter (Y.X i).env x = pure x := by intro _ _; rfl) : XS Y (.For tg iter sts [] pos) Γ O E :=
  fun F0 as0 σ0 H0 D0 S0 L0 tx0 t0 => by
    refine xs_forOG (Γ := Γ) (fun F as σ H R S L tx t => h F as σ H R S L tx fun F1 as1 ad k ds O1 H1 g1 S1 ha hk ⟨s0, i0, w0, o0, hkk, hb, hd⟩ => t F1 as1 ad k ds O1 H1 g1 S1 ha hk ?_) hc hs F0 as0 σ0 H0 D0 S0 L0 tx0 t0
    have hG : ClG O1.length Γ := by
      have q := slr_cl L
      intro g hg c e
      have q := q g hg c e
      have le : as.length ≤ O1.length := by rw [← S1.len]; exact g1.px.length_le
      cases c with
      | d x => trivial
      | o k => exact Nat.lt_of_lt_of_le q le
    have hO : Clo O1.length O1 := S1.clo
    refine ⟨fun i Γ' O' => Px Γ O1 gs os (Iv i) Γ' O', ⟨s0, i0, w0.symm, o0.symm⟩, fun i Γ' O' hP => ?_, fun i d Γ' O' hdi hP => ?_, fun Γ' O' hP => ?_⟩
    · obtain ⟨s, hi, rfl, rfl⟩ := hP
      exact hkk i s hi
    · obtain ⟨s, hi, rfl, rfl⟩ := hP
      intro F3 as3 σ3 H3 v3 Q3 S3 L3 tx3 r3 t3
      refine hb i d s hdi hi F3 as3 σ3 H3 v3 Q3 S3 L3 tx3 r3 fun F4 as4 Γ4 σ4 O4 H4 g4 S4 L4 ⟨hl4, b4⟩ => ?_
      refine t3 F4 as4 Γ4 σ4 O4 H4 g4 S4 L4 ?_
      intro F5 as5 σ5 H5 D5 S5 L5 tx5 t5
      exact b4 F5 as5 σ5 H5 D5 S5 L5 tx5 ⟨thn_cut (S5.len.trans hl4) hG hO t5.nx, t5.rt, t5.bk, thn_cut (S5.len.trans hl4) hG hO t5.ct⟩
    · obtain ⟨s, hi, rfl, rfl⟩ := hP
      exact hd s hi
end
end T

set_option Elab.async false
set_option linter.all false
set_option maxRecDepth 100000
set_option maxHeartbeats 2000000
namespace K
open PySem PySem.Spec PyProof.Rows L2 T

/-- a walk's store: the walk at k, its marks at kd -/
theorem clOb_wk {CW dx : Addr} {st pl lo hi : Int} {kd n : Nat} (h : kd < n) : clOb n (wkO CW dx st pl kd lo hi) := fun c hc => by
  have hc : c ∈ [C.d (.int st), .d (.int pl), .o kd, .d (.int lo), .d (.int hi)] := hc
  simp only [List.mem_cons, List.not_mem_nil, or_false] at hc
  rcases hc with e | e | e | e | e <;> subst e
  all_goals first | trivial | exact h
theorem back_wk {O E : Sto} {R : C → Sto → Prop} {d : PyData} {k kd : Nat} {CW dx : Addr} {st pl lo hi : Int} {t : Tp} (hc : Clo O.length O) (hk : kd < O.length) (r : R (.d d) ((O.set k (wkO CW dx st pl kd lo hi)).set kd (dctI t))) : Back O R (.d d) (ext2 O k (wkO CW dx st pl kd lo hi) kd (dctI t) E) :=
  ⟨(O.set k (wkO CW dx st pl kd lo hi)).set kd (dctI t), E, rfl, by simp, by rw [List.length_set, List.length_set]; have h1 := hc.set (k := k) (clOb_wk (CW := CW) (dx := dx) (st := st) (pl := pl) (lo := lo) (hi := hi) hk); rw [← List.length_set (i := k) (a := wkO CW dx st pl kd lo hi)] at h1 ⊢; exact h1.set clOb_dct, trivial, r⟩
def AtW (O : Sto) (CW : Addr) (k kd : Nat) (dx : Addr) (st pl lo hi : Int) (t : Tp) : Prop := O[k]? = some (wkO CW dx st pl kd lo hi) ∧ O[kd]? = some (dctI t) ∧ kd ≠ k ∧ t.length ≤ 90000
def sp_narrow (CW : Addr) : SpT := fun cs O R _ => ∃ k kd dx st pl lo hi t, cs = [.o k] ∧ AtW O CW k kd dx st pl lo hi t ∧ R (.d .none) ((O.set k (wkO CW dx st pl kd (lowK t) (topK t))).set kd (dctI t))
def bigB (pl first many : Int) : Bool := decide ((if pl < 0 then -pl else pl) > 1000000000) || (decide ((if first < 0 then -first else first) > 1000000000) || decide (many > 10000))
def sp_big : SpT := fun cs O R _ => ∃ a b c, cs = [.d (.int a), .d (.int b), .d (.int c)] ∧ R (.d (.bool (bigB a b c))) O
def roomB (lo hi : Int) (t : Tp) : Bool := if (decide ((if lo < 0 then -lo else lo) > 1000000000) || decide (hi - lo ≥ 10000)) = true then false else (decide (hi ≤ 1000000000) || decide (lo ∈ t.map (·.1)))
def sp_room (CW : Addr) : SpT := fun cs O R _ => ∃ k kd dx st pl lo hi t, cs = [.o k] ∧ AtW O CW k kd dx st pl lo hi t ∧ R (.d (.bool (roomB lo hi t))) O
def sp_wbig (CW : Addr) : SpT := fun cs O R _ => ∃ k kd dx st pl lo hi t, cs = [.o k] ∧ AtW O CW k kd dx st pl lo hi t ∧
  (roomB lo hi t = true → R (.d (.bool (bigB pl lo (hi - lo + 1)))) ((O.set k (wkO CW dx st pl kd lo hi)).set kd (dctI t))) ∧
  (roomB lo hi t = false → R (.d (.bool (bigB pl (lowK t) (topK t - lowK t + 1)))) ((O.set k (wkO CW dx st pl kd (lowK t) (topK t))).set kd (dctI t)))
def ruleAt (m : Mach) (s x : Int) : Rule := (m.getD s.toNat []).getD x.toNat (0, 0, 0)
def advT (t : Tp) (pl wr : Int) : Tp := if wr ≠ 0 then putI t pl wr else if pl ∈ t.map (·.1) then delI t pl else t
def advLo (wr lo pl : Int) : Int := if wr ≠ 0 then (if pl < lo then pl else lo) else lo
def advHi (wr hi pl : Int) : Int := if wr ≠ 0 then (if pl > hi then pl else hi) else hi
def sp_advance (CW : Addr) : SpT := fun cs O R _ => ∃ k kd dx st pl lo hi t m S Y, cs = [.o k, .d (machD m)] ∧ AtW O CW k kd dx st pl lo hi t ∧ OkMach m S Y ∧ 0 ≤ st ∧ st < S ∧ (0 ≤ look t pl ∧ look t pl < Y) ∧
  R (.d .none) ((O.set k (wkO CW dx (ruleAt m st (look t pl)).2.2 (pl + (ruleAt m st (look t pl)).2.1) kd (advLo (ruleAt m st (look t pl)).1 lo pl) (advHi (ruleAt m st (look t pl)).1 hi pl))).set kd (dctI (advT t pl (ruleAt m st (look t pl)).1)))
theorem rowAt {m : Mach} {S Y st : Int} (h : OkMach m S Y) (s0 : 0 ≤ st) (s1 : st < S) : (m.map rowD)[st.toNat]? = some (rowD (m.getD st.toNat [])) ∧ m.getD st.toNat [] ∈ m ∧ ((m.getD st.toNat []).length : Int) = Y := by
  have hl := h.len
  have hi : st.toNat < m.length := by omega
  have e : m.getD st.toNat [] = m[st.toNat] := by rw [List.getD_eq_getElem?_getD, List.getElem?_eq_getElem hi]; rfl
  rw [e]
  exact ⟨by rw [List.getElem?_map, List.getElem?_eq_getElem hi]; rfl, List.getElem_mem hi, h.row _ (List.getElem_mem hi)⟩
theorem ruleAt_ok {m : Mach} {S Y st x : Int} (hr : m.getD st.toNat [] ∈ m) (h : OkMach m S Y) (hl : ((m.getD st.toNat []).length : Int) = Y) (x0 : 0 ≤ x) (x1 : x < Y) : ((m.getD st.toNat []).map ruleD)[x.toNat]? = some (ruleD (ruleAt m st x)) ∧ OkRule S Y (ruleAt m st x) := by
  have hi : x.toNat < (m.getD st.toNat []).length := by omega
  have e : ruleAt m st x = (m.getD st.toNat [])[x.toNat] := by unfold ruleAt; rw [List.getD_eq_getElem?_getD (l := m.getD st.toNat []), List.getElem?_eq_getElem hi]; rfl
  rw [e]
  exact ⟨by rw [List.getElem?_map, List.getElem?_eq_getElem hi]; rfl, h.rul _ hr _ (List.getElem_mem hi)⟩
theorem cfgD_mk {a b c : Int} {l : List Int} : cfgD (a, b, c, l) = .tuple [.int a, .int b, .int c, .tuple (l.map PyData.int)] := rfl
theorem back_init {O : Sto} {R : C → Sto → Prop} {k : Nat} {CW dx : Addr} {st pl lo hi : Int} {t : Tp} (hc : Clo O.length O) (r : R (.d .none) (O.set k (wkO CW dx st pl O.length lo hi) ++ [dctI t])) : Back O R (.d .none) (ext O k (wkO CW dx st pl O.length lo hi) [dctI t]) :=
  ⟨ext O k (wkO CW dx st pl O.length lo hi) [dctI t], [], (List.append_nil _).symm, by rw [ext_len]; simp, fun u hu => by
    rw [ext_len]
    rcases List.mem_append.mp hu with z | z
    · rcases List.mem_or_eq_of_mem_set z with z | z
      · intro c hc'
        have := hc u z c hc'
        cases c with
        | d x => trivial
        | o j => exact Nat.lt_of_lt_of_le this (by simp)
      · subst z; exact clOb_wk (by simp)
    · have : u = dctI t := by simpa using z
      subst this; exact clOb_dct, trivial, r⟩
def sp_init (CW : Addr) : SpT := fun cs O R _ => ∃ k dx c, cs = [.o k, .d (cfgD c)] ∧ O[k]? = some (.ins CW dx []) ∧ c.2.2.2.length ≤ 50000 ∧
  R (.d .none) (O.set k (wkO CW dx c.1 c.2.1 O.length c.2.2.1 (c.2.2.1 + c.2.2.2.length - 1)) ++ [dctI (markT 0 c.2.2.1 c.2.2.2)])
def sp_conf (CW : Addr) : SpT := fun cs O R _ => ∃ k kd dx st pl lo hi t, cs = [.o k] ∧ AtW O CW k kd dx st pl lo hi t ∧ (-(2 ^ 61) ≤ lowK t ∧ lowK t ≤ 2 ^ 61 ∧ -(2 ^ 61) ≤ topK t ∧ topK t + 1 ≤ 2 ^ 61 ∧ topK t + 1 - lowK t ≤ 90000) ∧ R (.d (cfgD (confF st pl t))) ((O.set k (wkO CW dx st pl kd (lowK t) (topK t))).set kd (dctI t))

/-! runs -/
def rawT : Nat → Int → List Int → Tp
  | _, _, [] => []
  | i, f, x :: xs => (f + i, x) :: rawT (i + 1) f xs
theorem look_cons {p : Int × Int} {t : Tp} {y : Int} : look (p :: t) y = if p.1 = y then p.2 else look t y := by
  unfold look
  by_cases h : p.1 = y
  · rw [List.find?_cons_of_pos (by simpa using h), if_pos h]
  · rw [List.find?_cons_of_neg (by simpa using h), if_neg h]
theorem raw_look : ∀ {i : Nat} {f : Int} {xs : List Int} {y : Int}, look (rawT i f xs) y = look (markT i f xs) y
  | _, _, [], _ => rfl
  | i, f, x :: xs, y => by
    unfold rawT markT
    rw [look_cons]
    by_cases hx : x ≠ 0
    · rw [if_pos hx, look_cons, raw_look]
    · rw [if_neg hx, ← raw_look]
      have hx : x = 0 := by omega
      subst hx
      by_cases hy : f + (i : Int) = y
      · rw [if_pos hy]
        have : look (markT (i + 1) f xs) y = 0 := Classical.byContradiction fun q => by
          obtain ⟨p, hp, e⟩ := List.mem_map.mp ((look_mem mark_nz).mp q)
          have := mark_key hp
          omega
        rw [raw_look]
        exact this.symm
      · rw [if_neg hy]
theorem mark_sym : ∀ {i : Nat} {f : Int} {xs : List Int} {p : Int × Int}, p ∈ markT i f xs → p.2 ∈ xs
  | _, _, [], _, h => by cases h
  | i, f, x :: xs, p, h => by
    unfold markT at h
    split at h
    · rcases List.mem_cons.mp h with e | h
      · subst e; simp
      · exact List.mem_cons_of_mem _ (mark_sym h)
    · exact List.mem_cons_of_mem _ (mark_sym h)
theorem look_in {t : Tp} {x : Int} : look t x = 0 ∨ ∃ p ∈ t, look t x = p.2 := by
  unfold look
  cases e : t.find? (fun p => decide (p.1 = x)) with
  | none => exact .inl rfl
  | some p => exact .inr ⟨p, List.mem_of_find?_eq_some e, rfl⟩
abbrev WS := Int × Int × Tp
def takeT (m : Mach) (s : WS) : WS := ((ruleAt m s.1 (look s.2.2 s.2.1)).2.2, s.2.1 + (ruleAt m s.1 (look s.2.2 s.2.1)).2.1, putI s.2.2 s.2.1 (ruleAt m s.1 (look s.2.2 s.2.1)).1)
def runT (m : Mach) : Nat → WS → Nat × WS
  | 0, s => (0, s)
  | n + 1, s => if s.1 = -1 then (0, s) else ((runT m n (takeT m s)).1 + 1, (runT m n (takeT m s)).2)
theorem look_adv {t u : Tp} {pl wr : Int} (h : ∀ x, look t x = look u x) (x : Int) : look (putI t pl wr) x = look (advT u pl wr) x := by
  rw [look_put]
  unfold advT
  by_cases hw : wr ≠ 0
  · rw [if_pos hw, look_put, h]
  · rw [if_neg hw]
    have hw : wr = 0 := by omega
    by_cases hm : pl ∈ u.map (·.1)
    · rw [if_pos hm, look_del, h, hw]
    · rw [if_neg hm]
      by_cases hx : x = pl
      · rw [if_pos hx, hx, hw]
        have : look u pl = 0 := Classical.byContradiction fun q => by
          rcases look_in (t := u) (x := pl) with z | ⟨p, hp, z⟩
          · exact q z
          · unfold look at q
            cases e : u.find? (fun p => decide (p.1 = pl)) with
            | none => rw [e] at q; exact q rfl
            | some p => exact hm (List.mem_map.mpr ⟨p, List.mem_of_find?_eq_some e, by simpa using List.find?_some e⟩)
        exact this.symm
      · rw [if_neg hx, h]
theorem adv_nz {u : Tp} {pl wr : Int} (h : NZ u) : NZ (advT u pl wr) := by
  unfold advT
  split
  · exact nz_put h (by assumption)
  · split
    · exact nz_del h
    · exact h
theorem adv_len {u : Tp} {pl wr : Int} : (advT u pl wr).length ≤ u.length + 1 := by
  unfold advT
  split
  · exact putI_len
  · split
    · exact Nat.le_succ_of_le (List.length_filter_le _ _)
    · exact Nat.le_succ _
theorem adv_key {u : Tp} {pl wr x : Int} (h : x ∈ (advT u pl wr).map (·.1)) : x ∈ u.map (·.1) ∨ x = pl := by
  obtain ⟨p, hp, rfl⟩ := List.mem_map.mp h
  unfold advT putI delI at hp
  split at hp
  · split at hp
    · obtain ⟨q, hq, rfl⟩ := List.mem_map.mp hp
      refine .inl (List.mem_map.mpr ⟨q, hq, ?_⟩)
      split <;> rfl
    · rcases List.mem_append.mp hp with z | z
      · exact .inl (List.mem_map.mpr ⟨p, z, rfl⟩)
      · have : p = (pl, wr) := by simpa using z
        exact .inr (by rw [this])
  · split at hp
    · exact .inl (List.mem_map.mpr ⟨p, (List.mem_filter.mp hp).1, rfl⟩)
    · exact .inl (List.mem_map.mpr ⟨p, hp, rfl⟩)
/-- a small walk, j steps on -/
structure OkW (S Y : Int) (j : Nat) (st pl lo hi : Int) (t : Tp) : Prop where
  s0 : -1 ≤ st
  s1 : st < S
  p0 : -(2000 + (j : Int)) ≤ pl
  p1 : pl ≤ 2000 + j
  l0 : -(2000 + (j : Int)) ≤ lo
  l1 : lo ≤ 2000 + j
  h0 : -(2001 + (j : Int)) ≤ hi
  h1 : hi ≤ 2000 + j
  nz : NZ t
  len : t.length ≤ 1000 + j
  key : ∀ x ∈ t.map (·.1), -(2000 + (j : Int)) ≤ x ∧ x ≤ 2000 + j
  sym : ∀ x, 0 ≤ look t x ∧ look t x < Y
theorem okW_init {S Y : Int} {c : Cfg} (h : OkCfg S Y c) (hY : 0 < Y) : OkW S Y 0 c.1 c.2.1 c.2.2.1 (c.2.2.1 + c.2.2.2.length - 1) (markT 0 c.2.2.1 c.2.2.2) := by
  have a1 := h.p0
  have a2 := h.p1
  have a3 := h.f0
  have a4 := h.f1
  have a5 := h.len
  refine ⟨h.s0, h.s1, by omega, by omega, by omega, by omega, by omega, by omega, mark_nz, Nat.le_trans mark_len (by omega), fun x hx => ?_, fun x => ?_⟩
  · obtain ⟨p, hp, rfl⟩ := List.mem_map.mp hx
    have := mark_key hp
    omega
  · rcases look_in (t := markT 0 c.2.2.1 c.2.2.2) (x := x) with z | ⟨p, hp, z⟩
    · rw [z]; omega
    · rw [z]; exact h.sym _ (mark_sym hp)
theorem okW_adv {m : Mach} {S Y st pl lo hi : Int} {j : Nat} {t : Tp} (h : OkW S Y j st pl lo hi t) (hm : OkMach m S Y) (hs : st ≠ -1) : OkW S Y (j + 1) (ruleAt m st (look t pl)).2.2 (pl + (ruleAt m st (look t pl)).2.1) (advLo (ruleAt m st (look t pl)).1 lo pl) (advHi (ruleAt m st (look t pl)).1 hi pl) (advT t pl (ruleAt m st (look t pl)).1) := by
  have b1 := h.s0
  obtain ⟨_, hr2, hr3⟩ := rowAt hm (st := st) (by omega) h.s1
  have hr := (ruleAt_ok hr2 hm hr3 (h.sym pl).1 (h.sym pl).2).2
  generalize ruleAt m st (look t pl) = r at hr ⊢
  obtain ⟨wr, mv, ns⟩ := r
  have a1 := h.p0
  have a2 := h.p1
  have a3 := h.l0
  have a4 := h.l1
  have a5 := h.h0
  have a6 := h.h1
  have a7 := hr.w0
  have a8 := hr.w1
  have a9 := hr.mv
  dsimp only at a7 a8 a9 ⊢
  refine ⟨hr.s0, hr.s1, by omega, by omega, ?_, ?_, ?_, ?_, adv_nz h.nz, by have := adv_len (u := t) (pl := pl) (wr := wr); have := h.len; omega, fun x hx => ?_, fun x => ?_⟩
  · unfold advLo; split <;> (try split) <;> omega
  · unfold advLo; split <;> (try split) <;> omega
  · unfold advHi; split <;> (try split) <;> omega
  · unfold advHi; split <;> (try split) <;> omega
  · rcases adv_key hx with z | z
    · have := h.key x z; omega
    · omega
  · rw [← look_adv (t := t) (fun _ => rfl), look_put]
    split
    · exact ⟨a7, a8⟩
    · exact h.sym x
theorem abs_small {x b : Int} (h0 : -b ≤ x) (h1 : x ≤ b) (hb : b ≤ 1000000000) : decide ((if x < 0 then -x else x) > 1000000000) = false := by
  apply decide_eq_false
  split <;> omega
theorem room_small {S Y st pl lo hi : Int} {j : Nat} {t : Tp} (h : OkW S Y j st pl lo hi t) (hj : j ≤ 1001) : roomB lo hi t = true := by
  have a3 := h.l0
  have a4 := h.l1
  have a5 := h.h0
  have a6 := h.h1
  unfold roomB
  rw [abs_small (b := 4000) (by omega) (by omega) (by decide), decide_eq_false (show ¬ hi - lo ≥ 10000 by omega), if_neg (by decide), decide_eq_true (show hi ≤ 1000000000 by omega)]
  rfl
theorem big_small {S Y st pl lo hi : Int} {j : Nat} {t : Tp} (h : OkW S Y j st pl lo hi t) (hj : j ≤ 1001) : bigB pl lo (hi - lo + 1) = false := by
  have a1 := h.p0
  have a2 := h.p1
  have a3 := h.l0
  have a4 := h.l1
  have a5 := h.h0
  have a6 := h.h1
  unfold bigB
  rw [abs_small (b := 4000) (by omega) (by omega) (by decide), abs_small (b := 4000) (by omega) (by omega) (by decide), decide_eq_false (show ¬ hi - lo + 1 > 10000 by omega)]
  rfl
theorem low_mem {t : Tp} : (t.map (·.1) = [] ∧ lowK t = 0 ∧ topK t = -1) ∨ (lowK t ∈ t.map (·.1) ∧ topK t ∈ t.map (·.1)) := by
  cases e : isort (t.map (·.1)) with
  | nil => exact .inl ⟨isort_nil.mp e, low_nil (isort_nil.mp e), top_nil (isort_nil.mp e)⟩
  | cons s r =>
    have hp : ∀ x, x ∈ s :: r ↔ x ∈ t.map (·.1) := fun x => by rw [← e]; exact isort_perm.mem_iff
    refine .inr ⟨?_, ?_⟩
    · unfold lowK; rw [e]; exact (hp s).mp (by simp)
    · unfold topK; rw [e]; exact (hp _).mp getLastD_mem
theorem conf_small {S Y st pl lo hi : Int} {j : Nat} {t : Tp} (h : OkW S Y j st pl lo hi t) (hj : j ≤ 1001) : -(2 ^ 61) ≤ lowK t ∧ lowK t ≤ 2 ^ 61 ∧ -(2 ^ 61) ≤ topK t ∧ topK t + 1 ≤ 2 ^ 61 ∧ topK t + 1 - lowK t ≤ 90000 := by
  rcases low_mem (t := t) with ⟨_, e1, e2⟩ | ⟨e1, e2⟩
  · rw [e1, e2]; omega
  · have := h.key _ e1
    have := h.key _ e2
    omega
theorem app_0 {O E : Sto} {A : Ob} : (O ++ A :: E)[O.length]? = some A := by simp
theorem app_1 {O E : Sto} {A D : Ob} : (O ++ A :: D :: E)[O.length + 1]? = some D := by simp
theorem app_set0 {O E : Sto} {A B : Ob} : (O ++ A :: E).set O.length B = O ++ B :: E := by simp
theorem app_set1 {O E : Sto} {A D B : Ob} : (O ++ A :: D :: E).set (O.length + 1) B = O ++ A :: B :: E := by simp
theorem set_last0 {O : Sto} {A B : Ob} : (O ++ [A]).set O.length B = O ++ [B] := by simp
theorem run_step {m : Mach} {q : Nat} {st pl : Int} {t : Tp} (h : st ≠ -1) : runT m (q + 1) (st, pl, t) = ((runT m q (takeT m (st, pl, t))).1 + 1, (runT m q (takeT m (st, pl, t))).2) := by
  conv => lhs; unfold runT
  rw [if_neg h]
theorem run_stop {m : Mach} {q : Nat} {s : WS} (h : q = 0 ∨ s.1 = -1) : runT m q s = (0, s) := by
  cases q with
  | zero => rfl
  | succ q =>
    rcases h with z | z
    · cases z
    · unfold runT; rw [if_pos z]
theorem op_iadd {X : Cx} : OpR X (inplaceOp .Add) rAdd := fun pn s σ H x y v u Q I0 rx ry q => in_add pn s σ H x y v u Q I0 rx ry q
theorem given7_dummy : True := trivial
def sp_run : SpT := fun cs O R _ => ∃ m S Y c n, cs = [.d (machD m), .d (cfgD c), .d (.int ((n : Nat) : Int))] ∧ OkMach m S Y ∧ OkCfg S Y c ∧ n ≤ 1000 ∧
  R (.d (.tuple [cfgD (endF (runT m n (c.1, c.2.1, rawT 0 c.2.2.1 c.2.2.2)).2.1 (runT m n (c.1, c.2.1, rawT 0 c.2.2.1 c.2.2.2)).2.2.1 (runT m n (c.1, c.2.1, rawT 0 c.2.2.1 c.2.2.2)).2.2.2), .int ((runT m n (c.1, c.2.1, rawT 0 c.2.2.1 c.2.2.2)).1 : Nat)])) O
/-! the law's own steps -/
def startC (c : Cfg) : WS := (c.1, c.2.1, rawT 0 c.2.2.1 c.2.2.2)
def stepC (m : Mach) (c : Cfg) : Cfg := endF (takeT m (startC c)).1 (takeT m (startC c)).2.1 (takeT m (startC c)).2.2
theorem run_one {m : Mach} {c : Cfg} (h : c.1 ≠ -1) : runT m 1 (c.1, c.2.1, rawT 0 c.2.2.1 c.2.2.2) = (1, takeT m (startC c)) := by
  rw [show (1 : Nat) = 0 + 1 from rfl, run_step h]
  rfl
def sp_step (CT : Addr) : SpT := fun cs O R RX => ∃ m S Y c, cs = [.d (machD m), .d (cfgD c)] ∧ OkMach m S Y ∧ OkCfg S Y c ∧ (c.1 = -1 → RX (.ref CT) O) ∧ (c.1 ≠ -1 → R (.d (cfgD (stepC m c))) O)
theorem raw_key : ∀ {i : Nat} {f : Int} {xs : List Int} {p : Int × Int}, p ∈ rawT i f xs → f + i ≤ p.1 ∧ p.1 < f + i + xs.length
  | _, _, [], _, h => by cases h
  | i, f, x :: xs, p, h => by
    unfold rawT at h
    rcases List.mem_cons.mp h with e | h
    · subst e
      rw [List.length_cons]
      exact ⟨by show f + i ≤ f + i; omega, by show f + i < _; omega⟩
    · have := raw_key h
      rw [List.length_cons]
      omega
theorem raw_snoc : ∀ {i : Nat} {f : Int} {xs : List Int} {x : Int}, rawT i f (xs ++ [x]) = rawT i f xs ++ [(f + ((i + xs.length : Nat) : Int), x)]
  | i, f, [], x => rfl
  | i, f, y :: xs, x => by
    show rawT i f (y :: (xs ++ [x])) = _
    unfold rawT
    rw [raw_snoc, show i + 1 + xs.length = i + (y :: xs).length by rw [List.length_cons]; omega]
    rfl
theorem raw_put {f : Int} {xs : List Int} {x : Int} : putI (rawT 0 f xs) (f + ((xs.length : Nat) : Int)) x = rawT 0 f (xs ++ [x]) := by
  rw [raw_snoc]
  unfold putI
  rw [if_neg]
  · rw [Nat.zero_add]
  · intro h
    obtain ⟨p, hp, e⟩ := List.any_eq_true.mp h
    have := raw_key hp
    have e : p.1 = f + (xs.length : Nat) := by simpa using e
    omega
theorem raw_len : ∀ {i : Nat} {f : Int} {xs : List Int}, (rawT i f xs).length = xs.length
  | _, _, [] => rfl
  | i, f, x :: xs => by unfold rawT; rw [List.length_cons, List.length_cons, raw_len]
theorem back_start {O : Sto} {R : C → Sto → Prop} {a b : Int} {t : Tp} (hc : Clo O.length O) (r : R (.o (O.length + 1)) (O ++ [dctI t, .lst [.d (.int a), .d (.int b), .o O.length]])) : Back O R (.o (O.length + 1)) (O ++ [dctI t, .lst [.d (.int a), .d (.int b), .o O.length]]) :=
  ⟨O ++ [dctI t, .lst [.d (.int a), .d (.int b), .o O.length]], [], (List.append_nil _).symm, by simp, fun u hu => by
    rcases List.mem_append.mp hu with z | z
    · intro c hc'
      have := hc u z c hc'
      cases c with
      | d x => trivial
      | o j => exact Nat.lt_of_lt_of_le this (by simp)
    · simp only [List.mem_cons, List.not_mem_nil, or_false] at z
      rcases z with z | z
      · subst z; exact clOb_dct
      · subst z
        intro c hc'
        have hc' : c ∈ [C.d (.int a), .d (.int b), .o O.length] := hc'
        simp only [List.mem_cons, List.not_mem_nil, or_false] at hc'
        rcases hc' with e | e | e <;> subst e
        · trivial
        · trivial
        · show O.length < _; simp, by show O.length + 1 < _; simp, r⟩
def sp_start : SpT := fun cs O R _ => ∃ c, cs = [.d (cfgD c)] ∧ c.2.2.2.length ≤ 1000 ∧ R (.o (O.length + 1)) (O ++ [dctI (rawT 0 c.2.2.1 c.2.2.2), .lst [.d (.int c.1), .d (.int c.2.1), .o O.length]])
def sp_take : SpT := fun cs O R _ => ∃ k kd st pl t m S Y, cs = [.d (machD m), .o k] ∧ O[k]? = some (.lst [.d (.int st), .d (.int pl), .o kd]) ∧ O[kd]? = some (dctI t) ∧ kd ≠ k ∧ t.length ≤ 90000 ∧ OkMach m S Y ∧ 0 ≤ st ∧ st < S ∧ (0 ≤ look t pl ∧ look t pl < Y) ∧
  R (.d .none) ((O.set k (.lst [.d (.int (takeT m (st, pl, t)).1), .d (.int (takeT m (st, pl, t)).2.1), .o kd])).set kd (dctI (takeT m (st, pl, t)).2.2))
theorem clOb_now {a b : Int} {kd n : Nat} (h : kd < n) : clOb n (.lst [.d (.int a), .d (.int b), .o kd]) := fun c hc' => by
  have hc' : c ∈ [C.d (.int a), .d (.int b), .o kd] := hc'
  simp only [List.mem_cons, List.not_mem_nil, or_false] at hc'
  rcases hc' with e | e | e <;> subst e
  · trivial
  · trivial
  · exact h
theorem back_now {O E : Sto} {R : C → Sto → Prop} {d : PyData} {k kd : Nat} {a b : Int} {t : Tp} (hc : Clo O.length O) (hk : kd < O.length) (r : R (.d d) ((O.set k (.lst [.d (.int a), .d (.int b), .o kd])).set kd (dctI t))) : Back O R (.d d) (ext2 O k (.lst [.d (.int a), .d (.int b), .o kd]) kd (dctI t) E) :=
  ⟨(O.set k (.lst [.d (.int a), .d (.int b), .o kd])).set kd (dctI t), E, rfl, by simp, by rw [List.length_set, List.length_set]; have h1 := hc.set (k := k) (clOb_now (a := a) (b := b) hk); rw [← List.length_set (i := k) (a := Ob.lst [.d (.int a), .d (.int b), .o kd])] at h1 ⊢; exact h1.set clOb_dct, trivial, r⟩
/-- the law's tape, j steps on -/
structure OkR (S Y : Int) (j : Nat) (st pl : Int) (t : Tp) : Prop where
  s0 : -1 ≤ st
  s1 : st < S
  p0 : -(2000 + (j : Int)) ≤ pl
  p1 : pl ≤ 2000 + j
  len : t.length ≤ 1000 + j
  key : ∀ x, look t x ≠ 0 → -(2000 + (j : Int)) ≤ x ∧ x ≤ 2000 + j
  sym : ∀ x, 0 ≤ look t x ∧ look t x < Y
theorem okR_init {S Y : Int} {c : Cfg} (h : OkCfg S Y c) (hY : 0 < Y) : OkR S Y 0 c.1 c.2.1 (rawT 0 c.2.2.1 c.2.2.2) := by
  have w := okW_init h hY
  refine ⟨w.s0, w.s1, w.p0, w.p1, by rw [raw_len]; have := h.len; omega, fun x hx => ?_, fun x => by rw [raw_look]; exact w.sym x⟩
  rw [raw_look] at hx
  exact w.key x ((look_mem mark_nz).mp hx)
theorem okR_take {m : Mach} {S Y st pl : Int} {j : Nat} {t : Tp} (h : OkR S Y j st pl t) (hm : OkMach m S Y) (hs : st ≠ -1) : OkR S Y (j + 1) (takeT m (st, pl, t)).1 (takeT m (st, pl, t)).2.1 (takeT m (st, pl, t)).2.2 := by
  have b1 := h.s0
  obtain ⟨_, hr2, hr3⟩ := rowAt hm (st := st) (by omega) h.s1
  have hr := (ruleAt_ok hr2 hm hr3 (h.sym pl).1 (h.sym pl).2).2
  unfold takeT
  dsimp only
  generalize ruleAt m st (look t pl) = r at hr ⊢
  obtain ⟨wr, mv, ns⟩ := r
  have a1 := h.p0
  have a2 := h.p1
  have a7 := hr.w0
  have a8 := hr.w1
  have a9 := hr.mv
  dsimp only at a7 a8 a9 ⊢
  refine ⟨hr.s0, hr.s1, by omega, by omega, by have := putI_len (t := t) (x := pl) (v := wr); have := h.len; omega, fun x hx => ?_, fun x => ?_⟩
  · rw [look_put] at hx
    by_cases e : x = pl
    · omega
    · rw [if_neg e] at hx; have := h.key x hx; omega
  · rw [look_put]
    split
    · exact ⟨a7, a8⟩
    · exact h.sym x
theorem OkR.small {S Y st pl : Int} {j : Nat} {t : Tp} (h : OkR S Y j st pl t) (hj : j ≤ 1001) : Small t (-5000) := ⟨by have := h.len; omega, by decide, by decide, fun x hx => by have := h.key x hx; omega⟩
theorem step_Z {m : Mach} {S Y n : Int} {c : Cfg} (h : OkZ n S Y c) (hm : OkMach m S Y) (hs : c.1 ≠ -1) (hn : n ≤ 400) : OkZ (n + 1) S Y (stepC m c) := by
  have hy := hm.y2
  have r := okR_take (okR_init (h.cfg hn) (by omega)) hm hs
  obtain ⟨st, pl, f, cells⟩ := c
  have a0 := h.s0
  have a1 := h.p0
  have a2 := h.p1
  have hsym := (okR_init (h.cfg hn) (by omega)).sym
  dsimp only at hs a0 a1 a2 hsym
  obtain ⟨_, hr2, hr3⟩ := rowAt hm (st := st) (by omega) h.s1
  have hr := (ruleAt_ok hr2 hm hr3 (hsym pl).1 (hsym pl).2).2.mv
  unfold stepC startC
  refine okZ_endF r.s0 r.s1 ?_ ?_ (fun x hx => ?_) r.sym
  · show -(n + 1) ≤ pl + (ruleAt m st (look (rawT 0 f cells) pl)).2.1; omega
  · show pl + (ruleAt m st (look (rawT 0 f cells) pl)).2.1 ≤ n + 1; omega
  · have hx : look (putI (rawT 0 f cells) pl (ruleAt m st (look (rawT 0 f cells) pl)).1) x ≠ 0 := hx
    rw [look_put] at hx
    by_cases e : x = pl
    · omega
    · rw [if_neg e, raw_look] at hx
      obtain ⟨p, hp, e2⟩ := List.mem_map.mp ((look_mem mark_nz).mp hx)
      have q := mark_key hp
      have hne : cells ≠ [] := fun z => by subst z; cases hp
      have := h.ends hne
      dsimp only at this
      omega
theorem given7 {i : Int} {b c e : PyData} : ((([PyData.tuple [.str "refused"], .tuple [.str "large"], .tuple [.str "wide"]] : List PyData).any fun z => PyData.eqv z (.tuple ([.int i, b, c, e].take (1 : Int).toNat)))) = false := rfl
def sp_given7 : SpT := fun cs O R _ => ∃ c, cs = [.d (cfgD c)] ∧ R (.d (cfgD c)) O
def told7 (m : Mach) (c : Cfg) : PyData := if c.1 = -1 then .none else cfgD (stepC m c)
def sp_told7 : SpT := fun cs O R _ => ∃ m S Y c, cs = [.d (machD m), .d (cfgD c)] ∧ OkMach m S Y ∧ OkCfg S Y c ∧ R (.d (told7 m c)) O
def sp_tapeZ : SpT := fun cs O R _ => ∃ k u m S Y, cs = [.o k, .d (machD m)] ∧ O[k]? = some u ∧ IsStrm u ∧ OkMach m S Y ∧ ∀ c u', OkZ 100 S Y c → IsStrm u' → R (.d (cfgD c)) (O.set k u')
theorem tapeZ_use {k : Nat} {u : Ob} {m : Mach} {S Y : Int} {O : Sto} {R : C → Sto → Prop} {RX : Value → Sto → Prop} (h1 : O[k]? = some u) (h2 : IsStrm u) (h3 : OkMach m S Y) (h4 : ∀ c u', OkZ 100 S Y c → IsStrm u' → R (.d (cfgD c)) (O.set k u')) : sp_tapeZ [.o k, .d (machD m)] O R RX := ⟨_, _, _, _, _, rfl, h1, h2, h3, h4⟩
theorem lrun_use {m : Mach} {S Y : Int} {c : Cfg} {O : Sto} {R : C → Sto → Prop} {RX : Value → Sto → Prop} (hm : OkMach m S Y) (ok : OkCfg S Y c) (hne : c.1 ≠ -1) (h : R (.d (.tuple [cfgD (stepC m c), .int 1])) O) : sp_run [.d (machD m), .d (cfgD c), .d (.int 1)] O R RX := ⟨m, S, Y, c, 1, rfl, hm, ok, by decide, by rw [run_one hne]; exact h⟩
theorem told7_go {m : Mach} {c : Cfg} (h : c.1 ≠ -1) : told7 m c = cfgD (stepC m c) := if_neg h
theorem told7_non {m : Mach} {c : Cfg} (h : c.1 = -1) : told7 m c = .none := if_pos h

end K

set_option Elab.async false
set_option linter.all false
set_option maxRecDepth 100000
set_option maxHeartbeats 2000000
namespace K
open PySem PySem.Spec PyProof.Rows L2 T
/-! Kr: runs, whether too large or not -/
def endW (s : WS) : Cfg := endF s.1 s.2.1 s.2.2
def bigCfg (c : Cfg) : Bool := bigB c.2.1 c.2.2.1 (c.2.2.2.length : Nat)
/-- a configuration on the way is too large -/
def bigRun (m : Mach) : Nat → WS → Bool
  | 0, _ => false
  | n + 1, s => if s.1 = -1 then false else bigCfg (endW (takeT m s)) || bigRun m n (takeT m s)
/-- all keys lie in lo .. hi -/
def InR (t : Tp) (lo hi : Int) : Prop := ∀ x ∈ t.map (·.1), lo ≤ x ∧ x ≤ hi
theorem low_top {t : Tp} : lowK t ≤ topK t + 1 := by
  rcases low_mem (t := t) with ⟨_, e1, e2⟩ | ⟨e1, e2⟩
  · rw [e1, e2]; decide
  · have h : ∀ x ∈ t.map (·.1), lowK t ≤ x := by
      intro x hx
      unfold lowK
      cases e : isort (t.map (·.1)) with
      | nil => rw [isort_nil.mp e] at hx; cases hx
      | cons s r =>
        have hs : (s :: r).Pairwise (· ≤ ·) := by rw [← e]; exact isort_srt
        have hp : x ∈ s :: r := by rw [← e]; exact isort_perm.mem_iff.mpr hx
        rcases List.mem_cons.mp hp with z | z
        · show s ≤ x; omega
        · exact (List.pairwise_cons.mp hs).1 x z
    have := h _ e2
    omega
theorem big_conf {st pl : Int} {t : Tp} (h : NZ t) : bigCfg (endF st pl t) = bigB pl (lowK t) (topK t - lowK t + 1) := by
  rw [← conf_end h]
  unfold bigCfg confF
  dsimp only
  rw [List.length_map, List.length_range]
  have := low_top (t := t)
  rw [show (((topK t + 1 - lowK t).toNat : Nat) : Int) = topK t - lowK t + 1 by omega]
theorem big_room {pl lo hi : Int} {t : Tp} (hr : InR t lo hi) (h : roomB lo hi t = true) : bigB pl lo (hi - lo + 1) = bigB pl (lowK t) (topK t - lowK t + 1) := by
  unfold roomB at h
  cases e0 : (decide ((if lo < 0 then -lo else lo) > 1000000000) || decide (hi - lo ≥ 10000)) with
  | true => rw [e0, if_pos rfl] at h; cases h
  | false =>
    rw [e0, if_neg (by decide)] at h
    rw [Bool.or_eq_false_iff] at e0
    have g1 := of_decide_eq_false e0.1
    have g2 := of_decide_eq_false e0.2
    have hlo : -1000000000 ≤ lo ∧ lo ≤ 1000000000 := by
      by_cases q : lo < 0
      · rw [if_pos q] at g1; omega
      · rw [if_neg q] at g1; omega
    have e1 : decide (hi - lo + 1 > 10000) = false := decide_eq_false (by omega)
    unfold bigB
    rw [e0.1, e1]
    rcases low_mem (t := t) with ⟨e, e2, e3⟩ | ⟨a1, a2⟩
    · rw [e2, e3]; rfl
    · have b1 := hr _ a1
      have b2 := hr _ a2
      have lk : -1000000000 ≤ lowK t ∧ lowK t ≤ 1000000000 := by
        refine ⟨by omega, ?_⟩
        rw [Bool.or_eq_true] at h
        rcases h with z | z
        · have z := of_decide_eq_true z; omega
        · have z := of_decide_eq_true z
          have := low_eq (t := t) z fun j hj => (hr j hj).1
          omega
      rw [abs_small (x := lowK t) (b := 1000000000) (by omega) (by omega) (by decide), show decide (topK t - lowK t + 1 > 10000) = false from decide_eq_false (by omega)]
theorem in_low {t : Tp} : InR t (lowK t) (topK t) := by
  intro x hx
  unfold lowK topK
  cases e : isort (t.map (·.1)) with
  | nil => rw [isort_nil.mp e] at hx; cases hx
  | cons s r =>
    have hs : (s :: r).Pairwise (· ≤ ·) := by rw [← e]; exact isort_srt
    have hp : x ∈ s :: r := by rw [← e]; exact isort_perm.mem_iff.mpr hx
    refine ⟨?_, srt_last hs x hp⟩
    rcases List.mem_cons.mp hp with z | z
    · show s ≤ x; omega
    · exact (List.pairwise_cons.mp hs).1 x z
/-- is_too_large, its answer told by the configuration -/
theorem wbig_use {CW : Addr} {O : Sto} {R : C → Sto → Prop} {RX : Value → Sto → Prop} {k kd : Nat} {dx : Addr} {st pl lo hi : Int} {t : Tp} (h : AtW O CW k kd dx st pl lo hi t) (hr : InR t lo hi) (hz : NZ t) (r : ∀ lo' hi', InR t lo' hi' → R (.d (.bool (bigCfg (endF st pl t)))) ((O.set k (wkO CW dx st pl kd lo' hi')).set kd (dctI t))) : sp_wbig CW [.o k] O R RX := by
  refine ⟨k, kd, dx, st, pl, lo, hi, t, rfl, h, fun q => ?_, fun q => ?_⟩
  · rw [big_room hr q, ← big_conf (st := st) hz]; exact r lo hi hr
  · rw [← big_conf (st := st) hz]; exact r _ _ in_low
/-- keys come once -/
def Nd (t : Tp) : Prop := (t.map (·.1)).Nodup
theorem nd_put {t : Tp} {x v : Int} (h : Nd t) : Nd (putI t x v) := by
  unfold Nd putI
  split
  · rw [List.map_map]
    have : ((fun p : Int × Int => p.1) ∘ fun p : Int × Int => if p.1 = x then (p.1, v) else p) = fun p => p.1 := by
      funext p
      show (if p.1 = x then (p.1, v) else p).1 = p.1
      split <;> rfl
    rw [this]; exact h
  · rename_i hx
    rw [List.map_append]
    refine List.nodup_append.mpr ⟨h, by simp, fun a ha b hb => ?_⟩
    have hb : b = x := by simpa using hb
    subst hb
    intro e
    subst e
    apply hx
    obtain ⟨p, hp, e⟩ := List.mem_map.mp ha
    exact List.any_eq_true.mpr ⟨p, hp, by simpa using e⟩
theorem nd_del {t : Tp} {x : Int} (h : Nd t) : Nd (delI t x) := List.Sublist.nodup (List.Sublist.map _ List.filter_sublist) h
theorem nd_adv {t : Tp} {pl wr : Int} (h : Nd t) : Nd (advT t pl wr) := by
  unfold advT
  split
  · exact nd_put h
  · split
    · exact nd_del h
    · exact h
theorem nd_mark : ∀ {i : Nat} {f : Int} {xs : List Int}, Nd (markT i f xs)
  | _, _, [] => List.nodup_nil
  | i, f, x :: xs => by
    unfold markT
    split
    · refine List.nodup_cons.mpr ⟨fun h => ?_, nd_mark⟩
      obtain ⟨p, hp, e⟩ := List.mem_map.mp h
      have := mark_key hp
      dsimp only at e
      omega
    · exact nd_mark
theorem lt_len : ∀ {l : List Int} {a b : Int}, l.Pairwise (· < ·) → (∀ x ∈ l, a ≤ x ∧ x ≤ b) → a ≤ b + 1 → (l.length : Int) ≤ b - a + 1
  | [], a, b, _, _, h => by simp; omega
  | x :: l, a, b, hp, hr, h => by
    have h1 := List.pairwise_cons.mp hp
    have hx := hr x (by simp)
    have := lt_len (a := x + 1) (b := b) h1.2 (fun y hy => ⟨h1.1 y hy, (hr y (List.mem_cons_of_mem _ hy)).2⟩) (by omega)
    rw [List.length_cons]
    omega
theorem nd_len {t : Tp} (h : Nd t) : (t.length : Int) ≤ topK t + 1 - lowK t := by
  have hs : (isort (t.map (·.1))).Pairwise (· < ·) := by
    have h1 : (isort (t.map (·.1))).Nodup := isort_perm.nodup_iff.mpr h
    have h2 := isort_srt (ns := t.map (·.1))
    exact (List.Pairwise.and h2 h1).imp fun ⟨a, b⟩ => by omega
  have := lt_len (a := lowK t) (b := topK t) hs (fun x hx => in_low x (isort_perm.mem_iff.mp hx)) low_top
  rw [isort_perm.length_eq, List.length_map] at this
  omega
/-- the configuration is not out of all bounds -/
structure SmT (t : Tp) : Prop where
  l0 : -(2 ^ 40) ≤ lowK t
  l1 : lowK t ≤ 2 ^ 40
  n : topK t + 1 - lowK t ≤ 20000
theorem SmT.conf {t : Tp} (h : SmT t) : -(2 ^ 61) ≤ lowK t ∧ lowK t ≤ 2 ^ 61 ∧ -(2 ^ 61) ≤ topK t ∧ topK t + 1 ≤ 2 ^ 61 ∧ topK t + 1 - lowK t ≤ 90000 := by
  have := h.l0; have := h.l1; have := h.n; have := low_top (t := t)
  omega
theorem SmT.len {t : Tp} (h : SmT t) (hn : Nd t) : t.length ≤ 20000 := by have := nd_len hn; have := h.n; omega
theorem smT_of {st pl : Int} {t : Tp} (hz : NZ t) (h : bigCfg (endF st pl t) = false) : SmT t := by
  rw [big_conf hz] at h
  unfold bigB at h
  simp only [Bool.or_eq_false_iff, decide_eq_false_iff_not] at h
  obtain ⟨_, h2, h3⟩ := h
  exact ⟨by split at h2 <;> omega, by split at h2 <;> omega, by omega⟩
/-- what a run begins with -/
structure CfgB (S Y : Int) (c : Cfg) : Prop where
  s0 : -1 ≤ c.1
  s1 : c.1 < S
  f0 : -(2 ^ 39) ≤ c.2.2.1
  f1 : c.2.2.1 ≤ 2 ^ 39
  len : c.2.2.2.length ≤ 20000
  sym : ∀ x ∈ c.2.2.2, 0 ≤ x ∧ x < Y
/-- a walk on its way -/
structure OkG (S Y : Int) (st pl lo hi : Int) (t : Tp) : Prop where
  s0 : -1 ≤ st
  s1 : st < S
  nz : NZ t
  nd : Nd t
  key : InR t lo hi
  sym : ∀ x, 0 ≤ look t x ∧ look t x < Y
  sm : SmT t
theorem mark_in {i : Nat} {f : Int} {xs : List Int} {x : Int} (h : x ∈ (markT i f xs).map (·.1)) : f + i ≤ x ∧ x < f + i + xs.length := by
  obtain ⟨p, hp, rfl⟩ := List.mem_map.mp h
  exact mark_key hp
theorem okG_init {S Y : Int} {c : Cfg} (h : CfgB S Y c) (hY : 0 < Y) : OkG S Y c.1 c.2.1 c.2.2.1 (c.2.2.1 + c.2.2.2.length - 1) (markT 0 c.2.2.1 c.2.2.2) := by
  have a3 := h.f0
  have a4 := h.f1
  have a5 := h.len
  have hk : InR (markT 0 c.2.2.1 c.2.2.2) c.2.2.1 (c.2.2.1 + c.2.2.2.length - 1) := fun x hx => by have := mark_in hx; omega
  refine ⟨h.s0, h.s1, mark_nz, nd_mark, hk, fun x => ?_, ?_⟩
  · rcases look_in (t := markT 0 c.2.2.1 c.2.2.2) (x := x) with z | ⟨p, hp, z⟩
    · rw [z]; omega
    · rw [z]; exact h.sym _ (mark_sym hp)
  · rcases low_mem (t := markT 0 c.2.2.1 c.2.2.2) with ⟨_, e1, e2⟩ | ⟨e1, e2⟩
    · exact ⟨by rw [e1]; decide, by rw [e1]; decide, by rw [e1, e2]; decide⟩
    · have := hk _ e1
      have := hk _ e2
      exact ⟨by omega, by omega, by omega⟩
theorem okG_adv {m : Mach} {S Y st pl lo hi : Int} {t : Tp} (h : OkG S Y st pl lo hi t) (hm : OkMach m S Y) (hs : st ≠ -1) :
    (-1 ≤ (ruleAt m st (look t pl)).2.2 ∧ (ruleAt m st (look t pl)).2.2 < S) ∧ NZ (advT t pl (ruleAt m st (look t pl)).1) ∧ Nd (advT t pl (ruleAt m st (look t pl)).1) ∧ InR (advT t pl (ruleAt m st (look t pl)).1) (advLo (ruleAt m st (look t pl)).1 lo pl) (advHi (ruleAt m st (look t pl)).1 hi pl) ∧ (∀ x, 0 ≤ look (advT t pl (ruleAt m st (look t pl)).1) x ∧ look (advT t pl (ruleAt m st (look t pl)).1) x < Y) ∧ (advT t pl (ruleAt m st (look t pl)).1).length ≤ 20001 := by
  have b1 := h.s0
  obtain ⟨_, hr2, hr3⟩ := rowAt hm (st := st) (by omega) h.s1
  have hr := (ruleAt_ok hr2 hm hr3 (h.sym pl).1 (h.sym pl).2).2
  generalize ruleAt m st (look t pl) = r at hr ⊢
  obtain ⟨wr, mv, ns⟩ := r
  have a7 := hr.w0
  have a8 := hr.w1
  dsimp only at a7 a8 ⊢
  refine ⟨⟨hr.s0, hr.s1⟩, adv_nz h.nz, nd_adv h.nd, fun x hx => ?_, fun x => ?_, by have := adv_len (u := t) (pl := pl) (wr := wr); have := h.sm.len h.nd; omega⟩
  · have hx0 := adv_key hx
    by_cases hw : wr ≠ 0
    · unfold advLo advHi
      rw [if_pos hw, if_pos hw]
      rcases hx0 with z | z
      · have := h.key x z
        split <;> split <;> omega
      · split <;> split <;> omega
    · unfold advLo advHi
      rw [if_neg hw, if_neg hw]
      have hx1 : x ∈ t.map (·.1) := by
        unfold advT at hx
        rw [if_neg hw] at hx
        split at hx
        · obtain ⟨p, hp, rfl⟩ := List.mem_map.mp hx
          exact List.mem_map.mpr ⟨p, (List.mem_filter.mp hp).1, rfl⟩
        · exact hx
      exact h.key x hx1
  · rw [← look_adv (t := t) (fun _ => rfl), look_put]
    split
    · exact ⟨a7, a8⟩
    · exact h.sym x
theorem run_stop2 {m : Mach} {q : Nat} {s : WS} (h : q = 0 ∨ s.1 = -1) : runT m q s = (0, s) := by
  cases q with
  | zero => rfl
  | succ q => unfold runT; rw [if_pos (by simpa using h)]
theorem big_step {m : Mach} {q : Nat} {s : WS} (h : s.1 ≠ -1) : bigRun m (q + 1) s = (bigCfg (endW (takeT m s)) || bigRun m q (takeT m s)) := by
  show (if s.1 = -1 then false else _) = _
  rw [if_neg h]
def sp_runG (CL : Addr) : SpT := fun cs O R RX => ∃ m S Y c n, cs = [.d (machD m), .d (cfgD c), .d (.int ((n : Nat) : Int))] ∧ OkMach m S Y ∧ CfgB S Y c ∧
  (bigRun m n (startC c) = true → RX (.ref CL) O) ∧ (bigRun m n (startC c) = false → R (.d (.tuple [cfgD (endW (runT m n (startC c)).2), .int (((runT m n (startC c)).1 : Nat) : Int)])) O)
end K

set_option Elab.async false
set_option linter.all false
set_option maxRecDepth 100000
set_option maxHeartbeats 2000000
/-! T2: comprehensions with two generators, of data. -/
namespace T
open PySem PySem.Spec PyProof.Rows L2
section
variable {Y : Fam} {e a b c iter tg elt cond iter1 tg1 : Expr} {es : List Expr} {st : Stmt} {sts : List Stmt} {Γ Γ2 : Gam} {O O1 O2 : Sto} {R : C → Sto → Prop} {RT : Bool → Sto → Prop} {E : En} {pos p : Pos} {x : Str}
theorem sum_le {α : Type} {l : List α} {f g : α → Nat} (h : ∀ x ∈ l, f x ≤ g x) : (l.map f).sum ≤ (l.map g).sum := by
  induction l with
  | nil => exact Nat.le_refl _
  | cons x l ih =>
    have h1 := h x (by simp)
    have h2 := ih fun y hy => h y (List.mem_cons_of_mem _ hy)
    simp
    omega

theorem we_map2 {scope : Scope} {vs vs1 : List Nat} {τ τ1 : Tgt} (hj : ∀ j ∈ tgL τ, j ∈ vs) (hj1 : ∀ j ∈ tgL τ1, j ∈ vs1) (hcl : Y.cl = true)
    (h : XI Y tg iter Γ O fun ds O1 => ∃ (f : PyData → List PyData) (g : PyData → PyData → PyData), (ds.flatMap f).length < sizeLine ∧
      (∀ d ∈ ds, ∀ acc, ∃ Γ2, tgS (wipeG Γ vs) τ d = some Γ2 ∧ XI (Y.blk scope) tg1 iter1 Γ2 (O1 ++ [.lst acc]) fun es O3 => es = f d ∧ (∃ E2, O3 = (O1 ++ [.lst acc]) ++ E2) ∧
        ∀ e ∈ es, ∀ acc', ∃ Γ3, tgS (wipeG Γ2 vs1) τ1 e = some Γ3 ∧ XE (Y.blk scope) elt Γ3 (O1 ++ [.lst acc']) fun y O4 => y = .d (g d e) ∧ ∃ E2, O4 = (O1 ++ [.lst acc']) ++ E2) ∧
      R (.d (.list (ds.flatMap fun d => (f d).map (g d)))) (O1 ++ [.gone])) :
    We Y (tLc2 (wpI Y tg iter) (tgG Y.K τ) tYes (wpI (Y.blk scope) tg1 iter1) (tgG Y.K τ1) tYes (wpE (Y.blk scope) elt) vs vs1) Γ O R := we_frz (fun F as σ H Q S L tx t => h F as σ H _ S L tx fun F1 as1 J ds O1 H1 g1 S1 j1 ⟨f, g, hz, hb, hr⟩ => by
  intro D hD
  have txF : ∀ {F as}, ThX (Y.blk scope) F as := fun F' as' cl O' σ' H' _ _ (r : False) => r.elim
  obtain ⟨S2, g2⟩ := S1.own (cs := []) (vs := []) hD .nil
  have aD : (as1 ++ [D])[O1.length]? = some D := by rw [← S1.len]; simp
  have aO : ∀ acc, (O1 ++ [Ob.lst acc])[O1.length]? = some (.lst acc) := fun acc => by simp
  have cutS : ∀ {F4 as4 H4 E2} {acc : List PyData}, as1 ++ [D] <+: as4 → Sat Y.K F4 H4 as4 ((O1 ++ [.lst (acc.map C.d)]) ++ E2) → Sat Y.K F4 H4 (as1 ++ [D]) (O1 ++ [.lst (acc.map C.d)]) := by
    intro F4 as4 H4 E2 acc g4 S5
    refine S5.cut g4 (by simp [S1.len]) ?_
    intro u hu
    rcases List.mem_append.mp hu with z | z
    · exact (S1.clo.up (by simp)) u z
    · have : u = .lst (acc.map C.d) := by simpa using z
      subst this
      intro c hc
      obtain ⟨d, _, rfl⟩ := List.mem_map.mp hc
      trivial
  have acc0 : ∀ i, (ds.take i).flatMap (fun d => (f d).map (g d)) = (ds.take i).flatMap (fun d => (f d).map (g d)) := fun _ => rfl
  have accz : ∀ i, ((ds.take i).flatMap fun d => (f d).map (g d)).length ≤ ((ds.take i).flatMap f).length := fun i => by
    rw [List.length_flatMap, List.length_flatMap]
    refine sum_le ?_
    intro d _
    rw [List.length_map]; exact Nat.le_refl _
  have tkz : ∀ (i : Nat) (d : PyData), ds[i]? = some d → ((ds.take i).flatMap f).length + (f d).length ≤ (ds.flatMap f).length := fun i d hd => by
    have e1 : ds.flatMap f = (ds.take (i + 1)).flatMap f ++ (ds.drop (i + 1)).flatMap f := by rw [← List.flatMap_append, List.take_append_drop]
    rw [e1, take_succ' hd, List.flatMap_append]
    simp <;> omega
  refine ⟨fun i m H' => i ≤ ds.length ∧ m = ds.length - i ∧ ∃ F', Same F1 F' ∧ Sat Y.K F' H' (as1 ++ [D]) (O1 ++ [.lst (((ds.take i).flatMap fun d => (f d).map (g d)).map C.d)]), ⟨ds.length, Nat.zero_le _, by omega, F1, Same.refl _, S2⟩, ?_⟩
  rintro i m H' ⟨hi, rfl, F2, e2, S3⟩
  have j2 := j1.mono e2
  by_cases hlt : i < ds.length
  · refine .inr ⟨j2.go i H' S3.ex hlt, fun H4 => ∃ F', Same F1 F' ∧ Sat Y.K F' H4 (as1 ++ [D]) (O1 ++ [.lst (((ds.take (i + 1)).flatMap fun d => (f d).map (g d)).map C.d)]), fun H4 ⟨F', a1, a2⟩ => ⟨ds.length - (i + 1), by omega, hlt, rfl, F', a1, a2⟩, fun x H3 y => ?_⟩
    have hdi : ds[i]? = some ds[i] := List.getElem?_eq_getElem hlt
    obtain ⟨F3, g3, S4, r3⟩ := jd_item j2 S3 hdi y
    generalize ds[i] = d at hdi r3
    obtain ⟨Γ2, ht, hb1⟩ := hb d (List.mem_of_getElem? hdi) (((ds.take i).flatMap fun d => (f d).map (g d)).map C.d)
    have gg : Gr F as F3 (as1 ++ [D]) := ⟨(g1.fr.trans e2).trans g3.fr, g1.px.trans (List.prefix_append _ _)⟩
    refine tg_run S4 hj (slr_wipe (L.mono gg) vs) r3 ht fun σ2 L2' ew => ⟨ew, ?_⟩
    unfold tYes
    dsimp only
    rw [if_pos rfl]
    refine hb1 F3 _ σ2 H3 _ S4 L2' txF fun F4 as4 J1 es O4 H4 g4 S5 j4 ⟨ees, ⟨E2, e4⟩, hin⟩ => ?_
    subst ees e4
    have S6 := cutS g4.px S5
    have take_i : (ds.take (i + 1)).flatMap (fun d => (f d).map (g d)) = ((ds.take i).flatMap fun d => (f d).map (g d)) ++ (f d).map (g d) := by
      rw [take_succ' hdi, List.flatMap_append]; simp
    refine ⟨fun j k H' => j ≤ (f d).length ∧ k = (f d).length - j ∧ ∃ F', Same F4 F' ∧ Sat Y.K F' H' (as1 ++ [D]) (O1 ++ [.lst ((((ds.take i).flatMap fun d => (f d).map (g d)) ++ ((f d).take j).map (g d)).map C.d)]), ⟨(f d).length, Nat.zero_le _, by omega, F4, Same.refl _, by simpa using S6⟩, ?_⟩
    rintro j k H5 ⟨hij, rfl, F5, e5, S7⟩
    have j5 := j4.mono e5
    by_cases hlt1 : j < (f d).length
    · refine .inr ⟨j5.go j H5 S7.ex hlt1, fun H6 => ∃ F', Same F4 F' ∧ Sat Y.K F' H6 (as1 ++ [D]) (O1 ++ [.lst ((((ds.take i).flatMap fun d => (f d).map (g d)) ++ ((f d).take (j + 1)).map (g d)).map C.d)]), fun H6 ⟨F', a1, a2⟩ => ⟨(f d).length - (j + 1), by omega, hlt1, rfl, F', a1, a2⟩, fun x H6 y => ?_⟩
      have hej : (f d)[j]? = some (f d)[j] := List.getElem?_eq_getElem hlt1
      obtain ⟨F6, g6, S8, r6⟩ := jd_item j5 S7 hej y
      generalize (f d)[j] = ee at hej r6
      obtain ⟨Γ3, ht1, hb2⟩ := hin ee (List.mem_of_getElem? hej) ((((ds.take i).flatMap fun d => (f d).map (g d)) ++ ((f d).take j).map (g d)).map C.d)
      have g46 : Gr F3 (as1 ++ [D]) F6 (as1 ++ [D]) := ⟨(g4.fr.trans e5).trans g6.fr, List.prefix_refl _⟩
      have szj : (((ds.take i).flatMap fun d => (f d).map (g d)) ++ ((f d).take j).map (g d)).length < sizeLine := by
        have h1 := accz i
        have h2 := tkz i d hdi
        have h3 : (((f d).take j).map (g d)).length ≤ (f d).length := by
          rw [List.length_map, List.length_take]; omega
        rw [List.length_append]
        omega
      refine tg_run S8 hj1 (slr_wipe (L2'.mono g46) vs1) r6 ht1 fun σ3 L3' ew1 => ⟨ew1, ?_⟩
      dsimp only
      refine hb2 F6 _ σ3 H6 _ S8 L3' txF fun F7 as7 c v O7 H7 g7 S9 r7 ⟨ec, E3, e7⟩ => ?_
      subst ec e7
      have S10 := cutS g7.px S9
      obtain ⟨hF, us, eu, pu⟩ := S10.lst aD (aO _)
      refine ⟨us, eu, by rw [← pr_len pu, List.length_map]; exact szj, F7, (e5.trans g6.fr).trans g7.fr, ?_⟩
      have S11 := S10.put (u0 := .gone) (cs := _ ++ [C.d (g d ee)]) aD hF (Paired.snoc pu (show CR Y.K F7 (as1 ++ [D]) (.d (g d ee)) v from r7))
      have e9 : ∀ (l l' : List C), (O1 ++ [Ob.lst l]).set O1.length (.lst l') = O1 ++ [.lst l'] := fun l l' => by simp
      rw [e9] at S11
      rw [take_succ' hej]
      simpa using S11
    · have e : j = (f d).length := by omega
      subst e
      refine .inl ⟨j5.stop _ H5 S7.ex (Nat.le_refl _), F5, (e2.trans g3.fr).trans (g4.fr.trans e5), ?_⟩
      rw [take_i]
      rw [List.take_length] at S7
      exact S7
  · have e : i = ds.length := by omega
    subst e
    refine .inl ⟨j2.stop _ H' S3.ex (Nat.le_refl _), ?_⟩
    rw [List.take_length] at S3
    refine t F2 (as1 ++ [D]) (.o O1.length) _ _ H' ⟨g1.fr.trans e2, g1.px.trans (List.prefix_append _ _)⟩ S3 ⟨D, aD, rfl⟩ ⟨O1.length, _, rfl, aO _, ?_⟩
    have e9 : ∀ (l : List C), (O1 ++ [Ob.lst l]).set O1.length .gone = O1 ++ [.gone] := fun l => by simp
    rw [e9]
    exact hr)

theorem we_map2I {scope : Scope} {vs vs1 : List Nat} {τ τ1 : Tgt} (hj : ∀ j ∈ tgL τ, j ∈ vs) (hj1 : ∀ j ∈ tgL τ1, j ∈ vs1) (hcl : Y.cl = true)
    (h : XI Y tg iter Γ O fun ds O1 => ∃ (f : PyData → List PyData) (q : PyData → PyData → Bool) (g : PyData → PyData → PyData), (ds.flatMap f).length < sizeLine ∧
      (∀ d ∈ ds, ∀ acc, ∃ Γ2, tgS (wipeG Γ vs) τ d = some Γ2 ∧ XI (Y.blk scope) tg1 iter1 Γ2 (O1 ++ [.lst acc]) fun es O3 => es = f d ∧ (∃ E2, O3 = (O1 ++ [.lst acc]) ++ E2) ∧
        ∀ e ∈ es, ∀ acc', ∃ Γ3, tgS (wipeG Γ2 vs1) τ1 e = some Γ3 ∧ XT (Y.blk scope) cond Γ3 (O1 ++ [.lst acc']) fun k O4 => k = q d e ∧ (∃ E2, O4 = (O1 ++ [.lst acc']) ++ E2) ∧ (q d e = true → XE (Y.blk scope) elt Γ3 O4 fun y O5 => y = .d (g d e) ∧ ∃ E2, O5 = (O1 ++ [.lst acc']) ++ E2)) ∧
      R (.d (.list (ds.flatMap fun d => ((f d).filter (q d)).map (g d)))) (O1 ++ [.gone])) :
    We Y (tLc2 (wpI Y tg iter) (tgG Y.K τ) tYes (wpI (Y.blk scope) tg1 iter1) (tgG Y.K τ1) (wpT (Y.blk scope) cond) (wpE (Y.blk scope) elt) vs vs1) Γ O R := we_frz (fun F as σ H Q S L tx t => h F as σ H _ S L tx fun F1 as1 J ds O1 H1 g1 S1 j1 ⟨f, q, g, hz, hb, hr⟩ => by
  intro D hD
  have txF : ∀ {F as}, ThX (Y.blk scope) F as := fun F' as' cl O' σ' H' _ _ (r : False) => r.elim
  obtain ⟨S2, g2⟩ := S1.own (cs := []) (vs := []) hD .nil
  have aD : (as1 ++ [D])[O1.length]? = some D := by rw [← S1.len]; simp
  have aO : ∀ acc, (O1 ++ [Ob.lst acc])[O1.length]? = some (.lst acc) := fun acc => by simp
  have cutS : ∀ {F4 as4 H4 E2} {acc : List PyData}, as1 ++ [D] <+: as4 → Sat Y.K F4 H4 as4 ((O1 ++ [.lst (acc.map C.d)]) ++ E2) → Sat Y.K F4 H4 (as1 ++ [D]) (O1 ++ [.lst (acc.map C.d)]) := by
    intro F4 as4 H4 E2 acc g4 S5
    refine S5.cut g4 (by simp [S1.len]) ?_
    intro u hu
    rcases List.mem_append.mp hu with z | z
    · exact (S1.clo.up (by simp)) u z
    · have : u = .lst (acc.map C.d) := by simpa using z
      subst this
      intro c hc
      obtain ⟨d, _, rfl⟩ := List.mem_map.mp hc
      trivial
  have acc0 : ∀ i, (ds.take i).flatMap (fun d => ((f d).filter (q d)).map (g d)) = (ds.take i).flatMap (fun d => ((f d).filter (q d)).map (g d)) := fun _ => rfl
  have accz : ∀ i, ((ds.take i).flatMap fun d => ((f d).filter (q d)).map (g d)).length ≤ ((ds.take i).flatMap f).length := fun i => by
    rw [List.length_flatMap, List.length_flatMap]
    refine sum_le ?_
    intro d _
    rw [List.length_map]; exact List.length_filter_le _ _
  have tkz : ∀ (i : Nat) (d : PyData), ds[i]? = some d → ((ds.take i).flatMap f).length + (f d).length ≤ (ds.flatMap f).length := fun i d hd => by
    have e1 : ds.flatMap f = (ds.take (i + 1)).flatMap f ++ (ds.drop (i + 1)).flatMap f := by rw [← List.flatMap_append, List.take_append_drop]
    rw [e1, take_succ' hd, List.flatMap_append]
    simp <;> omega
  refine ⟨fun i m H' => i ≤ ds.length ∧ m = ds.length - i ∧ ∃ F', Same F1 F' ∧ Sat Y.K F' H' (as1 ++ [D]) (O1 ++ [.lst (((ds.take i).flatMap fun d => ((f d).filter (q d)).map (g d)).map C.d)]), ⟨ds.length, Nat.zero_le _, by omega, F1, Same.refl _, S2⟩, ?_⟩
  rintro i m H' ⟨hi, rfl, F2, e2, S3⟩
  have j2 := j1.mono e2
  by_cases hlt : i < ds.length
  · refine .inr ⟨j2.go i H' S3.ex hlt, fun H4 => ∃ F', Same F1 F' ∧ Sat Y.K F' H4 (as1 ++ [D]) (O1 ++ [.lst (((ds.take (i + 1)).flatMap fun d => ((f d).filter (q d)).map (g d)).map C.d)]), fun H4 ⟨F', a1, a2⟩ => ⟨ds.length - (i + 1), by omega, hlt, rfl, F', a1, a2⟩, fun x H3 y => ?_⟩
    have hdi : ds[i]? = some ds[i] := List.getElem?_eq_getElem hlt
    obtain ⟨F3, g3, S4, r3⟩ := jd_item j2 S3 hdi y
    generalize ds[i] = d at hdi r3
    obtain ⟨Γ2, ht, hb1⟩ := hb d (List.mem_of_getElem? hdi) (((ds.take i).flatMap fun d => ((f d).filter (q d)).map (g d)).map C.d)
    have gg : Gr F as F3 (as1 ++ [D]) := ⟨(g1.fr.trans e2).trans g3.fr, g1.px.trans (List.prefix_append _ _)⟩
    refine tg_run S4 hj (slr_wipe (L.mono gg) vs) r3 ht fun σ2 L2' ew => ⟨ew, ?_⟩
    unfold tYes
    dsimp only
    rw [if_pos rfl]
    refine hb1 F3 _ σ2 H3 _ S4 L2' txF fun F4 as4 J1 es O4 H4 g4 S5 j4 ⟨ees, ⟨E2, e4⟩, hin⟩ => ?_
    subst ees e4
    have S6 := cutS g4.px S5
    have take_i : (ds.take (i + 1)).flatMap (fun d => ((f d).filter (q d)).map (g d)) = ((ds.take i).flatMap fun d => ((f d).filter (q d)).map (g d)) ++ ((f d).filter (q d)).map (g d) := by
      rw [take_succ' hdi, List.flatMap_append]; simp
    refine ⟨fun j k H' => j ≤ (f d).length ∧ k = (f d).length - j ∧ ∃ F', Same F4 F' ∧ Sat Y.K F' H' (as1 ++ [D]) (O1 ++ [.lst ((((ds.take i).flatMap fun d => ((f d).filter (q d)).map (g d)) ++ (((f d).take j).filter (q d)).map (g d)).map C.d)]), ⟨(f d).length, Nat.zero_le _, by omega, F4, Same.refl _, by simpa using S6⟩, ?_⟩
    rintro j k H5 ⟨hij, rfl, F5, e5, S7⟩
    have j5 := j4.mono e5
    by_cases hlt1 : j < (f d).length
    · refine .inr ⟨j5.go j H5 S7.ex hlt1, fun H6 => ∃ F', Same F4 F' ∧ Sat Y.K F' H6 (as1 ++ [D]) (O1 ++ [.lst ((((ds.take i).flatMap fun d => ((f d).filter (q d)).map (g d)) ++ (((f d).take (j + 1)).filter (q d)).map (g d)).map C.d)]), fun H6 ⟨F', a1, a2⟩ => ⟨(f d).length - (j + 1), by omega, hlt1, rfl, F', a1, a2⟩, fun x H6 y => ?_⟩
      have hej : (f d)[j]? = some (f d)[j] := List.getElem?_eq_getElem hlt1
      obtain ⟨F6, g6, S8, r6⟩ := jd_item j5 S7 hej y
      generalize (f d)[j] = ee at hej r6
      obtain ⟨Γ3, ht1, hb2⟩ := hin ee (List.mem_of_getElem? hej) ((((ds.take i).flatMap fun d => ((f d).filter (q d)).map (g d)) ++ (((f d).take j).filter (q d)).map (g d)).map C.d)
      have g46 : Gr F3 (as1 ++ [D]) F6 (as1 ++ [D]) := ⟨(g4.fr.trans e5).trans g6.fr, List.prefix_refl _⟩
      have szj : (((ds.take i).flatMap fun d => ((f d).filter (q d)).map (g d)) ++ (((f d).take j).filter (q d)).map (g d)).length < sizeLine := by
        have h1 := accz i
        have h2 := tkz i d hdi
        have h3 : ((((f d).take j).filter (q d)).map (g d)).length ≤ (f d).length := by
          rw [List.length_map]; exact Nat.le_trans (List.length_filter_le _ _) (by rw [List.length_take]; omega)
        rw [List.length_append]
        omega
      refine tg_run S8 hj1 (slr_wipe (L2'.mono g46) vs1) r6 ht1 fun σ3 L3' ew1 => ⟨ew1, ?_⟩
      refine hb2 F6 _ σ3 H6 _ S8 L3' txF fun F7 as7 k v O7 H7 g7 S9 r7 ⟨ek, ⟨E3, e7⟩, hb3⟩ => ?_
      have r7 : v = k := by rw [← r7]
      subst r7
      subst e7
      cases v with
      | true =>
        refine iteT (hb3 ek.symm F7 as7 σ3 H7 _ S9 (L3'.mono g7) txF fun F8 as8 c v O8 H8 g8 S10 r8 ⟨ec, E4, e8⟩ => ?_)
        subst ec e8
        have S11 := cutS (g7.px.trans g8.px) S10
        obtain ⟨hF, us, eu, pu⟩ := S11.lst aD (aO _)
        refine ⟨us, eu, by rw [← pr_len pu, List.length_map]; exact szj, F8, ((e5.trans g6.fr).trans g7.fr).trans g8.fr, ?_⟩
        have S12 := S11.put (u0 := .gone) (cs := _ ++ [C.d (g d ee)]) aD hF (Paired.snoc pu (show CR Y.K F8 (as1 ++ [D]) (.d (g d ee)) v from r8))
        have e9 : ∀ (l l' : List C), (O1 ++ [Ob.lst l]).set O1.length (.lst l') = O1 ++ [.lst l'] := fun l l' => by simp
        rw [e9] at S12
        rw [take_succ' hej]
        simpa [← ek] using S12
      | false =>
        refine iteF ?_
        refine ⟨F7, (e5.trans g6.fr).trans g7.fr, ?_⟩
        rw [take_succ' hej]
        have S10 := cutS g7.px S9
        simpa [← ek] using S10
    · have e : j = (f d).length := by omega
      subst e
      refine .inl ⟨j5.stop _ H5 S7.ex (Nat.le_refl _), F5, (e2.trans g3.fr).trans (g4.fr.trans e5), ?_⟩
      rw [take_i]
      rw [List.take_length] at S7
      exact S7
  · have e : i = ds.length := by omega
    subst e
    refine .inl ⟨j2.stop _ H' S3.ex (Nat.le_refl _), ?_⟩
    rw [List.take_length] at S3
    refine t F2 (as1 ++ [D]) (.o O1.length) _ _ H' ⟨g1.fr.trans e2, g1.px.trans (List.prefix_append _ _)⟩ S3 ⟨D, aD, rfl⟩ ⟨O1.length, _, rfl, aO _, ?_⟩
    have e9 : ∀ (l : List C), (O1 ++ [Ob.lst l]).set O1.length .gone = O1 ++ [.gone] := fun l => by simp
    rw [e9]
    exact hr)

theorem xe_lc2 {scope : Scope} {own : List (Str × Nat)} {vs1 : List Nat} {τ τ1 : Tgt} (ok : ∀ i, BlkOk (Y.X i).N (Y.X i).env.scope scope own) (hv : ∀ i ∈ vs1, i ∈ own.map (·.2)) (hg : ∀ i, PG ((Y.blk scope).X i) tg (tgG Y.K τ)) (hg1 : ∀ i, PG ((Y.blk scope).X i) tg1 (tgG Y.K τ1)) (w : We Y (tLc2 (wpI Y tg iter) (tgG Y.K τ) tYes (wpI (Y.blk scope) tg1 iter1) (tgG Y.K τ1) tYes (wpE (Y.blk scope) elt) (own.map (·.2)) vs1) Γ O R) (hc : Y.cl = true := by rfl)
    (hs : ∀ i x, foldedSetIterable iter (Y.X i).env x = pure x := by intro _ _; rfl) (hs1 : ∀ env x, foldedSetIterable iter1 env x = pure x := by intro _ _; rfl) : XE Y (.ListComp elt [⟨tg, iter, [], 0⟩, ⟨tg1, iter1, [], 0⟩] scope pos) Γ O R :=
  xe_of (fun i => pe_lc2 (Y.calm hc i) (by rw [Y.hN]; exact Y.nd) (piW i) (ok i) hv (fun s H C cl fp => hg (i, s, H, C, cl, fp)) (fun _ _ _ _ _ => pts_nil) (fun s H C cl fp => piW (Y := Y.blk scope) (i, s, H, C, cl, fp)) (fun s H C cl fp => hg1 (i, s, H, C, cl, fp)) (fun s H C cl fp => pts_nil) (fun s H C cl fp => peW (Y := Y.blk scope) (i, s, H, C, cl, fp)) (hs i) hs1) w
theorem xs_setLc2 (i : Nat) {p' spos : Pos} {scope : Scope} {own : List (Str × Nat)} {vs1 : List Nat} {τ τ1 : Tgt} (hi : Y.N[i]? = some x) (hyl : ∀ j, (Y.X j).env.scope.names.lookup x = some .local) (hsw : ∀ j, swapsWith (.ListComp elt [⟨tg, iter, [], 0⟩, ⟨tg1, iter1, [], 0⟩] scope pos) (some (.Name x p')) spos.line (Y.X j).env = pure true)
    (ok : ∀ i, BlkOk (Y.X i).N (Y.X i).env.scope scope own) (hv : ∀ i ∈ vs1, i ∈ own.map (·.2)) (hg : ∀ i, PG ((Y.blk scope).X i) tg (tgG Y.K τ)) (hg1 : ∀ i, PG ((Y.blk scope).X i) tg1 (tgG Y.K τ1)) (w : We Y (tLc2 (wpI Y tg iter) (tgG Y.K τ) tYes (wpI (Y.blk scope) tg1 iter1) (tgG Y.K τ1) tYes (wpE (Y.blk scope) elt) (own.map (·.2)) vs1) Γ O fun c O1 => E.nx (Γ.set i (some c)) O1) (hc : Y.cl = true := by rfl)
    (hs : ∀ i x, foldedSetIterable iter (Y.X i).env x = pure x := by intro _ _; rfl) (hs1 : ∀ env x, foldedSetIterable iter1 env x = pure x := by intro _ _; rfl) : XS Y (.Assign [.Name x p'] (.ListComp elt [⟨tg, iter, [], 0⟩, ⟨tg1, iter1, [], 0⟩] scope pos) spos) Γ O E :=
  xs_of (fun j => ps_setLc2 (i := i) (Y.calm hc j) (by rw [Y.hN]; exact Y.nd) (by rw [Y.hN]; exact hi) (hyl j) (hsw j) (piW j) (ok j) hv (fun s H C cl fp => hg (j, s, H, C, cl, fp)) (fun _ _ _ _ _ => pts_nil) (fun s H C cl fp => piW (Y := Y.blk scope) (j, s, H, C, cl, fp)) (fun s H C cl fp => hg1 (j, s, H, C, cl, fp)) (fun s H C cl fp => pts_nil) (fun s H C cl fp => peW (Y := Y.blk scope) (j, s, H, C, cl, fp)) (hs j) hs1) fun F as σ H D S L tx t =>
    w F as σ H _ S L tx fun F1 as1 c v O1 H1 g1 S1 r1 h1 => t.nx F1 as1 _ _ O1 H1 g1 S1 ((L.mono g1).set r1 i) h1

theorem xe_lc2I {scope : Scope} {own : List (Str × Nat)} {vs1 : List Nat} {τ τ1 : Tgt} (ok : ∀ i, BlkOk (Y.X i).N (Y.X i).env.scope scope own) (hv : ∀ i ∈ vs1, i ∈ own.map (·.2)) (hg : ∀ i, PG ((Y.blk scope).X i) tg (tgG Y.K τ)) (hg1 : ∀ i, PG ((Y.blk scope).X i) tg1 (tgG Y.K τ1)) (w : We Y (tLc2 (wpI Y tg iter) (tgG Y.K τ) tYes (wpI (Y.blk scope) tg1 iter1) (tgG Y.K τ1) (wpT (Y.blk scope) cond) (wpE (Y.blk scope) elt) (own.map (·.2)) vs1) Γ O R) (hc : Y.cl = true := by rfl)
    (hs : ∀ i x, foldedSetIterable iter (Y.X i).env x = pure x := by intro _ _; rfl) (hs1 : ∀ env x, foldedSetIterable iter1 env x = pure x := by intro _ _; rfl) : XE Y (.ListComp elt [⟨tg, iter, [], 0⟩, ⟨tg1, iter1, [cond], 0⟩] scope pos) Γ O R :=
  xe_of (fun i => pe_lc2 (Y.calm hc i) (by rw [Y.hN]; exact Y.nd) (piW i) (ok i) hv (fun s H C cl fp => hg (i, s, H, C, cl, fp)) (fun _ _ _ _ _ => pts_nil) (fun s H C cl fp => piW (Y := Y.blk scope) (i, s, H, C, cl, fp)) (fun s H C cl fp => hg1 (i, s, H, C, cl, fp)) (fun s H C cl fp => pts_one (ptW (Y := Y.blk scope) (i, s, H, C, cl, fp))) (fun s H C cl fp => peW (Y := Y.blk scope) (i, s, H, C, cl, fp)) (hs i) hs1) w
theorem xs_setLc2I (i : Nat) {p' spos : Pos} {scope : Scope} {own : List (Str × Nat)} {vs1 : List Nat} {τ τ1 : Tgt} (hi : Y.N[i]? = some x) (hyl : ∀ j, (Y.X j).env.scope.names.lookup x = some .local) (hsw : ∀ j, swapsWith (.ListComp elt [⟨tg, iter, [], 0⟩, ⟨tg1, iter1, [cond], 0⟩] scope pos) (some (.Name x p')) spos.line (Y.X j).env = pure true)
    (ok : ∀ i, BlkOk (Y.X i).N (Y.X i).env.scope scope own) (hv : ∀ i ∈ vs1, i ∈ own.map (·.2)) (hg : ∀ i, PG ((Y.blk scope).X i) tg (tgG Y.K τ)) (hg1 : ∀ i, PG ((Y.blk scope).X i) tg1 (tgG Y.K τ1)) (w : We Y (tLc2 (wpI Y tg iter) (tgG Y.K τ) tYes (wpI (Y.blk scope) tg1 iter1) (tgG Y.K τ1) (wpT (Y.blk scope) cond) (wpE (Y.blk scope) elt) (own.map (·.2)) vs1) Γ O fun c O1 => E.nx (Γ.set i (some c)) O1) (hc : Y.cl = true := by rfl)
    (hs : ∀ i x, foldedSetIterable iter (Y.X i).env x = pure x := by intro _ _; rfl) (hs1 : ∀ env x, foldedSetIterable iter1 env x = pure x := by intro _ _; rfl) : XS Y (.Assign [.Name x p'] (.ListComp elt [⟨tg, iter, [], 0⟩, ⟨tg1, iter1, [cond], 0⟩] scope pos) spos) Γ O E :=
  xs_of (fun j => ps_setLc2 (i := i) (Y.calm hc j) (by rw [Y.hN]; exact Y.nd) (by rw [Y.hN]; exact hi) (hyl j) (hsw j) (piW j) (ok j) hv (fun s H C cl fp => hg (j, s, H, C, cl, fp)) (fun _ _ _ _ _ => pts_nil) (fun s H C cl fp => piW (Y := Y.blk scope) (j, s, H, C, cl, fp)) (fun s H C cl fp => hg1 (j, s, H, C, cl, fp)) (fun s H C cl fp => pts_one (ptW (Y := Y.blk scope) (j, s, H, C, cl, fp))) (fun s H C cl fp => peW (Y := Y.blk scope) (j, s, H, C, cl, fp)) (hs j) hs1) fun F as σ H D S L tx t =>
    w F as σ H _ S L tx fun F1 as1 c v O1 H1 g1 S1 r1 h1 => t.nx F1 as1 _ _ O1 H1 g1 S1 ((L.mono g1).set r1 i) h1
end
end T

set_option Elab.async false
set_option linter.all false
set_option maxRecDepth 100000
set_option maxHeartbeats 2000000
/-! T3: a, b = x, y. -/
namespace T
open PySem PySem.Spec PyProof.Rows L2
section
variable {Y : Fam} {a b c : Expr} {Γ : Gam} {O : Sto} {E : En} {pos : Pos} {x y z : Str}
theorem xs_par (i j : Nat) {px py pt pt2 : Pos} {kt k2} (hi : Y.N[i]? = some x) (hj : Y.N[j]? = some y) (hij : i ≠ j) (h : XA Y [a, b] Γ O fun cs O1 => ∃ c1 c2, cs = [c1, c2] ∧ E.nx ((Γ.set i (some c1)).set j (some c2)) O1) (hc : Y.cl = true := by rfl)
    (hx : ∀ q, (Y.X q).env.scope.names.lookup x = some .local := by exact fun _ => rfl) (hy : ∀ q, (Y.X q).env.scope.names.lookup y = some .local := by exact fun _ => rfl)
    (hw : ∀ q, swappedStores [.Tuple [.Name x px, .Name y py] kt pt] (.Tuple [a, b] k2 pt2) (Y.X q).env = pure (some [x, y]) := by exact fun _ => rfl)
    (hs : ∀ q, swapsWithSole [.Tuple [.Name x px, .Name y py] kt pt] (.Tuple [a, b] k2 pt2) pos.line (Y.X q).env = pure false := by exact fun _ => rfl) : XS Y (.Assign [.Tuple [.Name x px, .Name y py] kt pt] (.Tuple [a, b] k2 pt2) pos) Γ O E :=
  xs_of (fun q => ps_par (Y.calm hc q) (by rw [Y.hN]; exact Y.nd) (by rw [Y.hN]; exact hi) (by rw [Y.hN]; exact hj) hij (hx q) (hy q) (paW q) (hw q) (hs q)) fun F as σ H D S L tx t => h F as σ H _ S L tx fun F1 as1 cs vs O1 H1 g1 S1 r1 ⟨c1, c2, e, h2⟩ => by
    subst e
    cases r1 with
    | cons r1 r0 =>
      cases r0 with
      | cons r2 r0 =>
        cases r0
        exact ⟨_, _, rfl, t.nx F1 as1 _ _ O1 H1 g1 S1 (((L.mono g1).set r1 i).set r2 j) h2⟩
theorem xs_par3 (i j l : Nat) {px py pz pt pt2 : Pos} {kt k2} (hi : Y.N[i]? = some x) (hj : Y.N[j]? = some y) (hl : Y.N[l]? = some z) (hij : i ≠ j) (hil : i ≠ l) (hjl : j ≠ l) (h : XA Y [a, b, c] Γ O fun cs O1 => ∃ c1 c2 c3, cs = [c1, c2, c3] ∧ E.nx (((Γ.set i (some c1)).set j (some c2)).set l (some c3)) O1) (hc : Y.cl = true := by rfl)
    (hx : ∀ q, (Y.X q).env.scope.names.lookup x = some .local := by exact fun _ => rfl) (hy : ∀ q, (Y.X q).env.scope.names.lookup y = some .local := by exact fun _ => rfl) (hz : ∀ q, (Y.X q).env.scope.names.lookup z = some .local := by exact fun _ => rfl)
    (hw : ∀ q, swappedStores [.Tuple [.Name x px, .Name y py, .Name z pz] kt pt] (.Tuple [a, b, c] k2 pt2) (Y.X q).env = pure (some [x, y, z]) := by exact fun _ => rfl)
    (hs : ∀ q, swapsWithSole [.Tuple [.Name x px, .Name y py, .Name z pz] kt pt] (.Tuple [a, b, c] k2 pt2) pos.line (Y.X q).env = pure false := by exact fun _ => rfl) : XS Y (.Assign [.Tuple [.Name x px, .Name y py, .Name z pz] kt pt] (.Tuple [a, b, c] k2 pt2) pos) Γ O E :=
  xs_of (fun q => ps_par3 (Y.calm hc q) (by rw [Y.hN]; exact Y.nd) (by rw [Y.hN]; exact hi) (by rw [Y.hN]; exact hj) (by rw [Y.hN]; exact hl) hij hil hjl (hx q) (hy q) (hz q) (paW q) (hw q) (hs q)) fun F as σ H D S L tx t => h F as σ H _ S L tx fun F1 as1 cs vs O1 H1 g1 S1 r1 ⟨c1, c2, c3, e, h2⟩ => by
    subst e
    cases r1 with
    | cons r1 r0 =>
      cases r0 with
      | cons r2 r0 =>
        cases r0 with
        | cons r3 r0 =>
          cases r0
          exact ⟨_, _, _, rfl, t.nx F1 as1 _ _ O1 H1 g1 S1 ((((L.mono g1).set r1 i).set r2 j).set r3 l) h2⟩
end
end T

set_option Elab.async false
set_option linter.all false
set_option maxRecDepth 100000
set_option maxHeartbeats 2000000
/-! Tm: dicts whose keys are tuples. -/
namespace T
open PySem PySem.Spec PyProof.Rows L2
mutual
theorem hash_eq (w : World) : ∀ k : NestedKey, textless k = true → k.hash w = hash0 k
  | .none, _ => by rw [NestedKey.hash, hash0]
  | .num i, _ => by rw [NestedKey.hash, hash0]
  | .text _, h => by cases h
  | .tup ks, h => by rw [NestedKey.hash, hash0, hashes_eq w ks h]
theorem hashes_eq (w : World) : ∀ ks : List NestedKey, textless.textlessAll ks = true → NestedKey.hashes w ks = hashes0 ks
  | [], _ => by rw [NestedKey.hashes, hashes0]
  | k :: ks, h => by
    rw [textless.textlessAll, Bool.and_eq_true] at h
    rw [NestedKey.hashes, hashes0, hash_eq w k h.1, hashes_eq w ks h.2]
end
section
variable {X : Cx} {pins : List (Addr × Obj)} {σ : L2.St} {H : Hp} {s : Shared}
mutual
theorem nested_is (I : Inv X pins σ H s) : ∀ (k : NestedKey) (v : V) (u : Value), Dp X.K H v k.data → RelV v u → NestedIs s.heap k u
  | .none, _, _, h, r => by
    rw [NestedKey.data] at h
    cases h
    cases (show _ = _ from r)
    exact .none
  | .num i, _, _, h, r => by
    rw [NestedKey.data] at h
    cases h
    obtain ⟨t, rfl⟩ := r
    exact .int i t
  | .text x, _, _, h, r => by
    rw [NestedKey.data] at h
    cases h
    obtain ⟨t, rfl⟩ := r
    exact .text x t
  | .tup ks, _, _, h, r => by
    rw [NestedKey.data] at h
    cases h with
    | @tup a xs _ hs ha =>
      cases (show _ = _ from r)
      obtain ⟨its, rv, ⟨o, ho, hc, n, hd⟩, _⟩ := I.tuple hs
      exact .tup ho hc hd (nested_all I ks xs its ha rv)
theorem nested_all (I : Inv X pins σ H s) : ∀ (ks : List NestedKey) (vs : List V) (us : List Value), DpAll X.K H vs (NestedKey.datas ks) → Vals vs us → NestedAll s.heap ks us
  | [], _, _, h, r => by
    rw [NestedKey.datas] at h
    cases h
    cases r
    exact .nil
  | k :: ks, _, _, h, r => by
    rw [NestedKey.datas] at h
    cases h with
    | cons h1 h2 =>
      cases r with
      | cons r1 r2 => exact .cons (nested_is I k _ _ h1 r1) (nested_all I ks _ _ h2 r2)
end
/-- the keys of xs as they stand -/
def AllK (K : PySem.W.Frag) (H : Hp) (xs : List (NestedKey × Addr × V)) : Prop := ∀ p ∈ xs, KeyOk p.1 ∧ Dp K H (.ref p.2.1) p.1.data
abbrev YR (p : NestedKey × Addr × V) (q : NestedKey × Addr × Value) : Prop := p.1 = q.1 ∧ p.2.1 = q.2.1 ∧ RelV p.2.2 q.2.2
theorem keys_of {K : PySem.W.Frag} {H : Hp} {xs : List (NestedKey × Addr × V)} {ys : List (NestedKey × Addr × Value)} (py : Paired YR xs ys) (hk : AllK K H xs) : ∀ y ∈ ys, KeyOk y.1 ∧ Dp K H (.ref y.2.1) y.1.data := by
  induction py with
  | nil => intro y hy; cases hy
  | @cons p q ps qs r _ ih =>
    intro y hy
    rcases List.mem_cons.mp hy with z | z
    · subst z
      obtain ⟨r1, r2, _⟩ := r
      rw [← r1, ← r2]
      exact hk p (by simp)
    · exact ih (fun p hp => hk p (List.mem_cons_of_mem _ hp)) y z
theorem kis {P : Program} {w : World} {h : Heap} {k : NestedKey} {a : Addr} (x : NestedIs h k (.ref a)) (d : k.depth ≤ 8) : (nestedKind P w).is h k a := ⟨x, d⟩
theorem dkt_heap (I : Inv X pins σ H s) {a : Addr} {xs : List (NestedKey × Addr × V)} (e : H a = some (dktO a xs)) (hk : AllK X.K H xs) : ∃ ys, Paired YR xs ys ∧ s.heap.DictOfH (nestedKind X.prog X.w) a ys ∧ (a == sysModules) = false ∧ xs.length ≤ sizeLine := by
  obtain ⟨⟨hsys, ys, py, hz, o, es, ep, ho, hx, hd, he, hn⟩, _, _⟩ := (show ObjOk X.prog X.w H s.heap a (dktO a xs) from I.hok a _ e)
  have fk := keys_of py hk
  refine ⟨ys, py, ⟨o, es, ep, ho, hx, hd, ?_, fun y hy => ?_, hn⟩, hsys, hz⟩
  · rw [he]
    refine List.map_congr_left fun y hy => ?_
    show (⟨hash0 y.1, .ref y.2.1, y.2.2⟩ : DictEntry) = ⟨NestedKey.hash X.w y.1, .ref y.2.1, y.2.2⟩
    rw [hash_eq X.w y.1 (fk y hy).1.t]
  · exact ⟨nested_is I y.1 _ _ (fk y hy).2 rfl, (fk y hy).1.d⟩
end
/-! ### look-ups on three levels -/
def valN (kvs : List (NestedKey × C)) (k : NestedKey) : Option C := (kvs.find? fun kv => decide (kv.1 = k)).map (·.2)
def putN (kvs : List (NestedKey × C)) (k : NestedKey) (c : C) : List (NestedKey × C) := if (kvs.any fun kv => decide (kv.1 = k)) = true then kvs.map (fun kv => if kv.1 = k then (kv.1, c) else kv) else kvs ++ [(k, c)]
def val3 (xs : List (NestedKey × Addr × V)) (k : NestedKey) : Option V := (xs.find? fun p => decide (p.1 = k)).map (·.2.2)
def put3 (xs : List (NestedKey × Addr × V)) (k : NestedKey) (b : Addr) (v : V) : List (NestedKey × Addr × V) := if (xs.any fun p => decide (p.1 = k)) = true then xs.map (fun p => if p.1 = k then (p.1, p.2.1, v) else p) else xs ++ [(k, b, v)]
theorem atKey_ne {q : NestedKey × Addr × Value} {qs : List (NestedKey × Addr × Value)} {k : NestedKey} (h : ¬ q.1 = k) : atKey (q :: qs) k = atKey qs k := by
  unfold atKey
  rw [List.find?_cons_of_neg (by simpa using h)]
theorem atKey_eq {q : NestedKey × Addr × Value} {qs : List (NestedKey × Addr × Value)} {k : NestedKey} (h : q.1 = k) : atKey (q :: qs) k = some q.2 := by
  unfold atKey
  rw [List.find?_cons_of_pos (by simpa using h)]
  rfl
theorem putmap_rel {ps : List (NestedKey × Addr × V)} {qs : List (NestedKey × Addr × Value)} (h : Paired YR ps qs) {k : NestedKey} {v : V} {u : Value} (r : RelV v u) : Paired YR (ps.map (fun p => if p.1 = k then (p.1, p.2.1, v) else p)) (qs.map (putAt k u)) := by
  induction h with
  | nil => exact .nil
  | @cons p q ps qs r' _ ih =>
    rw [List.map_cons, List.map_cons]
    refine .cons ?_ ih
    unfold putAt
    by_cases hq : q.1 = k
    · rw [if_pos (r'.1.trans hq), if_pos hq]; exact ⟨r'.1, r'.2.1, r⟩
    · rw [if_neg (fun z => hq (r'.1.symm.trans z)), if_neg hq]; exact r'
theorem at_rel {xs : List (NestedKey × Addr × V)} {ys : List (NestedKey × Addr × Value)} (h : Paired YR xs ys) (k : NestedKey) : (∃ v p, val3 xs k = some v ∧ atKey ys k = some p ∧ RelV v p.2) ∨ (val3 xs k = none ∧ atKey ys k = none) := by
  induction h with
  | nil => exact .inr ⟨rfl, rfl⟩
  | @cons p q ps qs r _ ih =>
    obtain ⟨e1, e2, r⟩ := r
    by_cases hk : q.1 = k
    · refine .inl ⟨p.2.2, q.2, ?_, ?_, r⟩
      · unfold val3; rw [List.find?_cons]; simp [e1, hk]
      · exact atKey_eq hk
    · have f1 : val3 (p :: ps) k = val3 ps k := by unfold val3; rw [List.find?_cons]; simp [e1, hk]
      have f2 := atKey_ne (qs := qs) hk
      rw [f1, f2]
      exact ih
theorem put_rel3 {xs : List (NestedKey × Addr × V)} {ys : List (NestedKey × Addr × Value)} (h : Paired YR xs ys) {k : NestedKey} {b : Addr} {v : V} {u : Value} (r : RelV v u) : Paired YR (put3 xs k b v) (storedH ys k b u) := by
  have e : (xs.any fun kv => decide (kv.1 = k)) = (atKey ys k).isSome := by
    induction h with
    | nil => rfl
    | @cons p q ps qs r _ ih =>
      rw [List.any_cons, ih, r.1]
      by_cases hk : q.1 = k
      · rw [atKey_eq hk]; simp [hk]
      · rw [atKey_ne hk]; simp [hk]
  unfold put3 storedH
  rw [e]
  split
  · exact putmap_rel h r
  · exact Paired.snoc h ⟨rfl, rfl, r⟩
section
variable {K : PySem.W.Frag} {F H : Hp} {as : List Addr} {O : Sto} {R : C → Sto → Prop}
theorem valN_rel {kvs : List (NestedKey × C)} {xs : List (NestedKey × Addr × V)} (h : Paired (KxR K F as) kvs xs) (k : NestedKey) : (∃ c v, valN kvs k = some c ∧ val3 xs k = some v ∧ CR K F as c v) ∨ (valN kvs k = none ∧ val3 xs k = none) := by
  induction h with
  | nil => exact .inr ⟨rfl, rfl⟩
  | @cons p q ps qs r _ ih =>
    obtain ⟨e, _, _, r⟩ := r
    by_cases hk : p.1 = k
    · refine .inl ⟨p.2, q.2.2, ?_, ?_, r⟩
      · unfold valN; rw [List.find?_cons]; simp [hk]
      · unfold val3; rw [List.find?_cons]; simp [← e, hk]
    · have e1 : valN (p :: ps) k = valN ps k := by unfold valN; rw [List.find?_cons]; simp [hk]
      have e2 : val3 (q :: qs) k = val3 qs k := by unfold val3; rw [List.find?_cons]; simp [← e, hk]
      rw [e1, e2]
      exact ih
theorem putN_rel {kvs : List (NestedKey × C)} {xs : List (NestedKey × Addr × V)} (h : Paired (KxR K F as) kvs xs) {k : NestedKey} {b : Addr} {c : C} {v : V} (ok : KeyOk k) (d : Dp K F (.ref b) k.data) (r : CR K F as c v) : Paired (KxR K F as) (putN kvs k c) (put3 xs k b v) := by
  have e : (kvs.any fun kv => decide (kv.1 = k)) = (xs.any fun kv => decide (kv.1 = k)) := by
    induction h with
    | nil => rfl
    | cons r _ ih => rw [List.any_cons, List.any_cons, ih, r.1]
  unfold putN put3
  rw [e]
  by_cases hk : (xs.any fun kv => decide (kv.1 = k)) = true
  · rw [if_pos hk, if_pos hk]
    clear e hk
    induction h with
    | nil => exact .nil
    | @cons p q ps qs r' _ ih =>
      rw [List.map_cons, List.map_cons]
      refine .cons ?_ ih
      by_cases hq : q.1 = k
      · rw [if_pos (r'.1.trans hq), if_pos hq]; exact ⟨r'.1, r'.2.1, r'.2.2.1, r⟩
      · rw [if_neg (fun z => hq (r'.1.symm.trans z)), if_neg hq]; exact r'
  · rw [if_neg hk, if_neg hk]
    exact Paired.snoc h ⟨rfl, ok, d, r⟩
theorem allk_of {kvs : List (NestedKey × C)} {xs : List (NestedKey × Addr × V)} (h : Paired (KxR K F as) kvs xs) (ex : Same F H) : AllK K H xs := by
  induction h with
  | nil => intro p hp; cases hp
  | cons r _ ih =>
    intro p hp
    rcases List.mem_cons.mp hp with z | z
    · subst z
      rw [← r.1]
      exact ⟨r.2.1, dp_same ex _ _ r.2.2.1⟩
    · exact ih p z
theorem Sat.dkt {k : Nat} {a : Addr} {kvs : List (NestedKey × C)} (S : Sat K F H as O) (ha : as[k]? = some a) (hO : O[k]? = some (.dkt kvs)) : F a = none ∧ ∃ xs, H a = some (dktO a xs) ∧ Paired (KxR K F as) kvs xs := by
  obtain ⟨hF, o, e, xs, rfl, r⟩ := S.obG ha hO (by intro z; cases z)
  exact ⟨hF, xs, e, r⟩
end
/-! ### the steps -/
section
variable {X : Cx} {o i e f value : Expr} {pos pos' tpos cpos apos : Pos} {td ty tv tx : TE}
theorem dktO_new {P : Program} {w : World} {H : Hp} {h : Heap} {a : Addr} {xs : List (NestedKey × Addr × V)} (hp : dktP hash0 a xs h) : ObjOk P w H h a (dktO a xs) := by
  refine ⟨hp, ?_, fun h1 h2 p1 k => ?_⟩
  · obtain ⟨_, _, _, _, o, _, _, ho, _⟩ := hp
    exact ⟨o, ho⟩
  · obtain ⟨a1, ys, a2, a3, o, es, ep, ho, r⟩ := p1
    exact ⟨a1, ys, a2, a3, o, es, ep, k o ho, r⟩
def tKGet (K : PySem.W.Frag) (td ty : TE) : TE := fun σ H Q => td σ H fun x H1 => ty σ H1 fun y H2 => ∃ a b xs k v, x = .ref a ∧ y = .ref b ∧ H2 a = some (dktO a xs) ∧ AllK K H2 xs ∧ KeyOk k ∧ Dp K H2 (.ref b) k.data ∧ val3 xs k = some v ∧ Q v H2
theorem pe_kget (hu : X.A.units + 64 < cLine) (ho : PE X o td) (hi : PE X i ty) (hs : NoSl i) : PE X (.Subscript o i pos) (tKGet X.K td ty) := by
  refine ⟨fun pins s σ H Q I h => ?_⟩
  refine subD_of PySem.F.slot_dict_getitem.lookup hs (thn (ho.run pins s σ H _ I h) fun u s1 ⟨x, H1, I1, rx, q1⟩ => thn (hi.run pins s1 σ H1 _ I1 q1) fun iv s2 ⟨y, H2, I2, ry, a, b, xs, k, v, ex, ey, e, hk, ok, hd, hv, q2⟩ => ?_)
  subst ex ey
  obtain rfl : u = Value.ref a := rx
  obtain rfl : iv = Value.ref b := ry
  obtain ⟨ys, py, dof, hsys, hz⟩ := dkt_heap I2 e hk
  refine ⟨dof.typeIs, ?_⟩
  rcases at_rel py k with ⟨v', p, f1, f2, f3⟩ | ⟨f1, _⟩
  · rw [hv] at f1
    cases f1
    exact wpAny_getItem_heap (knd := nestedKind X.prog X.w) (by show X.A.units + 1 + 8 < cLine; omega) (kis (nested_is I2 k _ _ hd rfl) ok.d) dof f2 ⟨v, H2, I2.tok _, f3, q2⟩
  · rw [hv] at f1; cases f1
def rInN (K : PySem.W.Frag) : R2 := fun x y H Q => ∃ a b xs k, y = .ref a ∧ x = .ref b ∧ H a = some (dktO a xs) ∧ AllK K H xs ∧ KeyOk k ∧ Dp K H (.ref b) k.data ∧ Q (.bl (val3 xs k).isSome) H
theorem at_isSome {xs : List (NestedKey × Addr × V)} {ys : List (NestedKey × Addr × Value)} (h : Paired YR xs ys) (k : NestedKey) : (atKey ys k).isSome = (val3 xs k).isSome := by
  rcases at_rel h k with ⟨v', p, f1, f2, f3⟩ | ⟨f1, f2⟩
  · rw [f1, f2]; rfl
  · rw [f1, f2]; rfl
theorem op_inN (hu : X.A.units + 64 < cLine) : OpR X (compareOp .In) (rInN X.K) := by
  intro pn st σ H x y v u Q I0 rx ry hq
  obtain ⟨a, b, xs, k, ey, ex, e, hk, ok, hd, q⟩ := hq
  subst ex ey
  obtain rfl : u = Value.ref a := ry
  obtain rfl : v = Value.ref b := rx
  obtain ⟨ys, py, dof, hsys, hz⟩ := dkt_heap I0 e hk
  refine wpAny_in_heap (knd := nestedKind X.prog X.w) (by show X.A.units + 1 + 8 < cLine; omega) (kis (nested_is I0 k _ _ hd rfl) ok.d) hsys dof ⟨.bl (val3 xs k).isSome, H, I0.tok _, ?_, q⟩
  rw [at_isSome py]
  rfl
def rNinN (K : PySem.W.Frag) : R2 := fun x y H Q => ∃ a b xs k, y = .ref a ∧ x = .ref b ∧ H a = some (dktO a xs) ∧ AllK K H xs ∧ KeyOk k ∧ Dp K H (.ref b) k.data ∧ Q (.bl (!(val3 xs k).isSome)) H
theorem op_ninN (hu : X.A.units + 64 < cLine) : OpR X (compareOp .NotIn) (rNinN X.K) := by
  intro pn st σ H x y v u Q I0 rx ry hq
  obtain ⟨a, b, xs, k, ey, ex, e, hk, ok, hd, q⟩ := hq
  subst ex ey
  obtain rfl : u = Value.ref a := ry
  obtain rfl : v = Value.ref b := rx
  obtain ⟨ys, py, dof, hsys, hz⟩ := dkt_heap I0 e hk
  show wpAny _ _ (do return Value.bool (!(← contains (Value.ref a) (Value.ref b)))) _ _ _
  refine wpAny_bind (wpAny_contains_heap (knd := nestedKind X.prog X.w) (by show X.A.units + 1 + 8 < cLine; omega) (kis (nested_is I0 k _ _ hd rfl) ok.d) hsys dof (wpAny_pure ⟨.bl (!(val3 xs k).isSome), H, I0.tok _, ?_, q⟩))
  rw [at_isSome py]
  rfl
def rSetN (K : PySem.W.Frag) : TSet := fun o i v H Q => ∃ a b xs k, o = .ref a ∧ i = .ref b ∧ H a = some (dktO a xs) ∧ AllK K H xs ∧ KeyOk k ∧ Dp K H (.ref b) k.data ∧ xs.length < sizeLine ∧ Q (upd H a (dktO a (put3 xs k b v)))
theorem set_keyedN (hu : X.A.units + 64 < cLine) : PSet X (rSetN X.K) := by
  intro pins s σ H ov iv v uo ui u Q I ro ri rv h
  obtain ⟨a, b, xs, k, eo, ei, e, hk, ok, hd, hz, q⟩ := h
  subst eo ei
  obtain rfl : uo = Value.ref a := ro
  obtain rfl : ui = Value.ref b := ri
  obtain ⟨ys, py, dof, hsys, hz2⟩ := dkt_heap I e hk
  have hlen : ys.length = xs.length := (pr_len py).symm
  refine wpAny_setItem_heap (knd := nestedKind X.prog X.w) (hsz := by omega) (by show X.A.units + 1 + 8 < cLine; omega) (kis (nested_is I k _ _ hd rfl) ok.d) dof fun h' hm' hs => ?_
  have ky : ∀ y ∈ storedH ys k b u, textless y.1 = true := by
    intro y hy
    have p3 := put_rel3 (k := k) (b := b) py rv
    have fk : ∀ p ∈ put3 xs k b v, textless p.1 = true := by
      intro p hp
      unfold put3 at hp
      split at hp
      · obtain ⟨q, hq, rfl⟩ := List.mem_map.mp hp
        split
        · exact (hk q hq).1.t
        · exact (hk q hq).1.t
      · rcases List.mem_append.mp hp with z | z
        · exact (hk p z).1.t
        · have : p = (k, b, v) := by simpa using z
          subst this; exact ok.t
    clear hm' hs
    generalize put3 xs k b v = L1 at p3 fk
    generalize storedH ys k b u = L2 at p3 hy
    induction p3 with
    | nil => cases hy
    | cons r _ ih =>
      rcases List.mem_cons.mp hy with z | z
      · subst z; rw [← r.1]; exact fk _ (by simp)
      · exact ih (fun p hp => fk p (List.mem_cons_of_mem _ hp)) z
  have hp : dktP hash0 a (put3 xs k b v) h' := by
    obtain ⟨o', es', ep', ho', hx', hd', he', _, hn'⟩ := hm'
    refine ⟨hsys, _, put_rel3 py rv, ?_, o', es', ep', ho', hx', hd', ?_, hn'⟩
    · unfold put3
      split
      · rw [List.length_map]; omega
      · rw [List.length_append, List.length_singleton]; omega
    · rw [he']
      refine List.map_congr_left fun y hy => ?_
      show (⟨NestedKey.hash X.w y.1, .ref y.2.1, y.2.2⟩ : DictEntry) = ⟨hash0 y.1, .ref y.2.1, y.2.2⟩
      rw [hash_eq X.w y.1 (ky y hy)]
  refine ⟨upd H a (dktO a (put3 xs k b v)), I.write (t' := _) (by rw [e]; trivial) (.inl rfl) (fun b' u' hb hu' => (hs.2 b' hb).trans hu') ?_ (dktO_new hp), q⟩
  obtain ⟨o', _, _, ho', _⟩ := hm'
  exact ⟨o', ho'⟩
end
end T

set_option Elab.async false
set_option linter.all false
set_option maxRecDepth 100000
set_option maxHeartbeats 2000000
/-! T4: isinstance(e, (S, T)). -/
namespace T
open PySem PySem.Spec PyProof.Rows L2
theorem any2 {K : PySem.W.Frag} {t c1 c2 : Value} {b1 b2 : Bool} (h1 : PySem.W.kitOne K t c1 = some b1) (h2 : PySem.W.kitOne K t c2 = some b2) : PySem.W.kitAny K t [c1, c2] = some (b1 || b2) := by
  refine kitAny_cons h1 (fun e => ?_) (fun e => by rw [e]; rfl)
  rw [e, Bool.false_or]
  exact kitAny_cons h2 (fun e => by rw [e]; exact kitAny_nil) id
section
variable {Y : Fam} {e : Expr} {Γ : Gam} {O : Sto} {R : C → Sto → Prop} {pos p : Pos}
theorem xe_isi2 {y y2 : Str} {p2 p3 pt : Pos} {z : Nat} {Ty Ty2 : String} (hm : Y.mg "isinstance" = none) (hmT : Y.mg y = none) (hmT2 : Y.mg y2 = none) (hvT : bootBuiltins y = some (.type Ty)) (hvT2 : bootBuiltins y2 = some (.type Ty2))
    (h : XE Y e Γ O fun c1 O1 => ∃ d b1 b2, c1 = .d d ∧ PySem.W.kitOne Y.K (.type (tyName d)) (.type Ty) = some b1 ∧ PySem.W.kitOne Y.K (.type (tyName d)) (.type Ty2) = some b2 ∧ R (.d (.bool (b1 || b2))) O1)
    (hg : ∀ i, Gl (Y.X i) "isinstance" := by exact fun _ => rfl) (hgT : ∀ i, Gl (Y.X i) y := by exact fun _ => rfl) (hgT2 : ∀ i, Gl (Y.X i) y2 := by exact fun _ => rfl) (hn : y ≠ "__name__" := by decide) (hn2 : y2 ≠ "__name__" := by decide) (hdb : (y == ("__debug__" : Str)) = false := by decide) (hdb2 : (y2 == ("__debug__" : Str)) = false := by decide)
    (he : ∀ i, starEach [e, .Tuple [.Name y p2, .Name y2 p3] z pt] (Y.X i).env = (false, eval e (Y.X i).env) :: starEach [.Tuple [.Name y p2, .Name y2 p3] z pt] (Y.X i).env := by exact fun _ => rfl)
    (hs1 : ∀ i, starEach [.Tuple [.Name y p2, .Name y2 p3] z pt] (Y.X i).env = (false, eval (.Tuple [.Name y p2, .Name y2 p3] z pt) (Y.X i).env) :: starEach [] (Y.X i).env := by exact fun _ => rfl)
    (hs2 : ∀ i, starEach [.Name y p2, .Name y2 p3] (Y.X i).env = (false, eval (.Name y p2) (Y.X i).env) :: starEach [.Name y2 p3] (Y.X i).env := by exact fun _ => rfl) (hs3 : ∀ i, starEach [.Name y2 p3] (Y.X i).env = (false, eval (.Name y2 p3) (Y.X i).env) :: starEach [] (Y.X i).env := by exact fun _ => rfl)
    (hpl : ∀ i, (backTo pos (starEach [.Tuple [.Name y p2, .Name y2 p3] z pt] (Y.X i).env)).any (·.1) = false := by exact fun _ => rfl) :
    XE Y (.Call (.Name "isinstance" p) [e, .Tuple [.Name y p2, .Name y2 p3] z pt] [] pos) Γ O R :=
  xe_of (te := tCB (rIsiT Y.K) (tCons (wpE Y e) (tCons (tTup (tCons (tC (.ty Ty)) (tCons (tC (.ty Ty2)) tNil))) tNil))) (fun i => by
    rw [← Y.hK i]
    exact pe_callB call_isiT (hg i) (by rw [Y.hmg]; exact hm) (by decide +kernel) (pa_cons (peW i) (pa_cons (pe_tup (pa_cons (pe_bltn (hgT i) (by rw [Y.hmg]; exact hmT) hvT rfl hn hdb) (pa_cons (pe_bltn (hgT2 i) (by rw [Y.hmg]; exact hmT2) hvT2 rfl hn2 hdb2) pa_nil (hs3 i)) (hs2 i))) pa_nil (hs1 i)) (he i)) (by decide) (by decide) (he i) (hpl i)) fun F as σ H Q S L tx t =>
    h F as σ H _ S L tx fun F1 as1 c1 v1 O1 H1 g1 S1 r1 ⟨d, b1, b2, ec, k1, k2, h1⟩ => by
      subst ec
      refine ⟨by show 2 ≤ sizeLine; decide, fun q hq => ?_⟩
      obtain ⟨S2, g2⟩ := S1.froze (o := .tup [.ty Ty, .ty Ty2]) hq
      exact ⟨v1, q, [.ty Ty, .ty Ty2], .type (tyName d), [.type Ty, .type Ty2], b1 || b2, rfl, upd_same, .cons (.ty Ty) (.cons (.ty Ty2) .nil), tyX_of (dp_same g2.fr _ _ (show Dp Y.K F1 v1 d from r1)) S2.ex, any2 k1 k2, t _ _ (.d (.bool (b1 || b2))) _ O1 _ (g1.trans g2) S2 (show CR Y.K _ as1 (.d (.bool (b1 || b2))) _ from .bl _) h1⟩
end
end T

set_option Elab.async false
set_option linter.all false
set_option maxRecDepth 100000
set_option maxHeartbeats 2000000
namespace K
open PySem PySem.Spec PyProof.Rows L2 T
/-! K08m: runs, one behind the other -/
/-- the same tape at every place -/
def Like (s s' : WS) : Prop := s.1 = s'.1 ∧ s.2.1 = s'.2.1 ∧ ∀ x, look s.2.2 x = look s'.2.2 x
theorem like_take {m : Mach} {s s' : WS} (h : Like s s') : Like (takeT m s) (takeT m s') := by
  obtain ⟨a, p, t⟩ := s
  obtain ⟨a', p', t'⟩ := s'
  obtain ⟨h1, h2, h3⟩ := h
  dsimp only at h1 h2 h3
  subst h1 h2
  unfold takeT
  dsimp only
  rw [h3]
  refine ⟨rfl, rfl, fun x => ?_⟩
  show look (putI t p _) x = look (putI t' p _) x
  rw [look_put, look_put, h3]
theorem run_stepS {m : Mach} {q : Nat} {s : WS} (h : s.1 ≠ -1) : runT m (q + 1) s = ((runT m q (takeT m s)).1 + 1, (runT m q (takeT m s)).2) := by
  obtain ⟨st, pl, t⟩ := s
  exact run_step h
theorem like_run {m : Mach} : ∀ {n : Nat} {s s' : WS}, Like s s' → (runT m n s).1 = (runT m n s').1 ∧ Like (runT m n s).2 (runT m n s').2
  | 0, _, _, h => ⟨rfl, h⟩
  | n + 1, s, s', h => by
    by_cases e : s.1 = -1
    · rw [run_stop2 (.inr e), run_stop2 (.inr (h.1 ▸ e))]; exact ⟨rfl, h⟩
    · rw [run_stepS e, run_stepS (h.1 ▸ e)]
      obtain ⟨q1, q2⟩ := like_run (n := n) (like_take (m := m) h)
      exact ⟨congrArg (· + 1) q1, q2⟩
theorem like_end {s s' : WS} (h : Like s s') : endW s = endW s' := by
  unfold endW
  rw [h.1, h.2.1, endF_look h.2.2]
theorem like_big {m : Mach} : ∀ {n : Nat} {s s' : WS}, Like s s' → bigRun m n s = bigRun m n s'
  | 0, _, _, _ => rfl
  | n + 1, s, s', h => by
    unfold bigRun
    by_cases e : s.1 = -1
    · rw [if_pos e, if_pos (h.1 ▸ e)]
    · rw [if_neg e, if_neg (h.1 ▸ e), like_end (like_take h), like_big (like_take h)]
theorem run_add {m : Mach} : ∀ {a b : Nat} {s : WS}, runT m (a + b) s = ((runT m a s).1 + (runT m b (runT m a s).2).1, (runT m b (runT m a s).2).2)
  | 0, b, s => by
    rw [Nat.zero_add]
    exact Prod.ext (Nat.zero_add _).symm rfl
  | a + 1, b, s => by
    rw [show a + 1 + b = (a + b) + 1 by omega]
    by_cases e : s.1 = -1
    · rw [run_stop2 (q := a + b + 1) (.inr e), run_stop2 (q := a + 1) (.inr e)]
      dsimp only
      rw [run_stop2 (q := b) (.inr e)]
      exact Prod.ext (Nat.zero_add _).symm rfl
    · rw [run_stepS e, run_stepS e, run_add]
      dsimp only
      exact Prod.ext (by show _ + _ + 1 = _ + 1 + _; omega) rfl
theorem raw_out {i : Nat} {f : Int} {xs : List Int} {x : Int} (h : x < f + i ∨ f + i + xs.length ≤ x) : look (rawT i f xs) x = 0 := by
  rcases look_in (t := rawT i f xs) (x := x) with z | ⟨p, hp, z⟩
  · exact z
  · unfold look
    cases e : (rawT i f xs).find? (fun p => decide (p.1 = x)) with
    | none => rfl
    | some q =>
      have hq := raw_key (List.mem_of_find?_eq_some e)
      have hx : q.1 = x := by simpa using List.find?_some e
      omega
theorem raw_at : ∀ {i : Nat} {f : Int} {xs : List Int} {j : Nat} {x : Int}, xs[j]? = some x → look (rawT i f xs) (f + i + j) = x
  | i, f, [], j, x, h => by simp at h
  | i, f, y :: xs, 0, x, h => by
    unfold rawT
    rw [look_cons, if_pos (by show f + (i : Int) = f + i + 0; omega)]
    simpa using h
  | i, f, y :: xs, j + 1, x, h => by
    unfold rawT
    rw [look_cons, if_neg (by show ¬ f + (i : Int) = f + i + ((j + 1 : Nat) : Int); omega)]
    have := raw_at (i := i + 1) (f := f) (xs := xs) (j := j) (x := x) (by simpa using h)
    rw [show f + (i : Int) + ((j + 1 : Nat) : Int) = f + ((i + 1 : Nat) : Int) + (j : Int) by omega]
    exact this
theorem raw_at0 {f : Int} {xs : List Int} {j : Nat} {x : Int} (h : xs[j]? = some x) : look (rawT 0 f xs) (f + j) = x := by
  have q := raw_at (i := 0) (f := f) h
  rw [show f + ((0 : Nat) : Int) + (j : Int) = f + j by omega] at q
  exact q
/-- the end of a tape, begun again -/
theorem like_start {s : WS} : Like (startC (endW s)) s := by
  obtain ⟨st, pl, t⟩ := s
  unfold endW
  dsimp only
  cases e : spots t with
  | nil =>
    rw [endF_nil e]
    refine ⟨rfl, rfl, fun x => ?_⟩
    show 0 = look t x
    exact (Classical.byContradiction fun q => by
      have := spots_mem.mpr (fun z => q z.symm : look t x ≠ 0)
      rw [e] at this
      cases this)
  | cons s r =>
    rw [endF_cons e]
    obtain ⟨e1, e2, e3, e4⟩ := spots_ends e
    refine ⟨rfl, rfl, fun x => ?_⟩
    show look (rawT 0 s ((List.range ((r.getLastD s) + 1 - s).toNat).map fun i => look t (s + (i : Nat)))) x = look t x
    by_cases hx : s ≤ x ∧ x ≤ r.getLastD s
    · have hj : ((List.range ((r.getLastD s) + 1 - s).toNat).map fun i => look t (s + (i : Nat)))[(x - s).toNat]? = some (look t x) := by
        rw [List.getElem?_map, List.getElem?_range (by omega)]
        show some (look t (s + ((x - s).toNat : Nat))) = _
        rw [show s + (((x - s).toNat : Nat) : Int) = x by omega]
      have q := raw_at0 (f := s) hj
      rw [show s + (((x - s).toNat : Nat) : Int) = x by omega] at q
      exact q
    · rw [raw_out (by rw [List.length_map, List.length_range]; omega)]
      exact (Classical.byContradiction fun q => by
        have := e4 x (fun z => q z.symm)
        omega)
/-- a well-formed configuration begun and ended at once -/
theorem end_start {n S Y : Int} {c : Cfg} (h : OkZ n S Y c) : endW (startC c) = c := by
  obtain ⟨st, pl, f, xs⟩ := c
  have h1 := h.nil
  have h2 := h.hd
  have h3 := h.lst
  dsimp only at h1 h2 h3
  unfold endW startC
  dsimp only
  have hz : ∀ x, look (rawT 0 f xs) x ≠ 0 → f ≤ x ∧ x < f + xs.length := fun x hx => Classical.byContradiction fun q => hx (raw_out (by omega))
  cases e : spots (rawT 0 f xs) with
  | nil =>
    rw [endF_nil e]
    cases xs with
    | nil => rw [h1 rfl]
    | cons x xs =>
      have q := raw_at0 (f := f) (xs := x :: xs) (j := 0) (x := x) rfl
      have := spots_mem.mpr (show look (rawT 0 f (x :: xs)) (f + ((0 : Nat) : Int)) ≠ 0 by rw [q]; exact h2 x rfl)
      rw [e] at this; cases this
  | cons s r =>
    rw [endF_cons e]
    obtain ⟨e1, e2, e3, e4⟩ := spots_ends e
    have q1 := hz _ e1
    have q2 := hz _ e2
    cases xs with
    | nil => simp at q1; omega
    | cons x xs =>
      have es : s = f := by
        have q := raw_at0 (f := f) (xs := x :: xs) (j := 0) (x := x) rfl
        rw [show f + ((0 : Nat) : Int) = f by omega] at q
        have := (e4 f (by rw [q]; exact h2 x rfl)).1
        omega
      have el : r.getLastD s = f + (xs.length : Nat) := by
        obtain ⟨y, hy⟩ : ∃ y, (x :: xs)[xs.length]? = some y := ⟨(x :: xs)[xs.length]'(by simp), List.getElem?_eq_getElem _⟩
        have q := raw_at0 (f := f) (xs := x :: xs) (j := xs.length) (x := y) hy
        have hy2 : (x :: xs).getLast? = some y := by rw [List.getLast?_eq_getElem?]; simpa using hy
        have hw := (e4 (f + (xs.length : Nat)) (by rw [q]; exact h3 y hy2)).2
        rw [List.length_cons] at q2
        generalize r.getLastD s = w at q2 hw
        omega
      rw [es] at el ⊢
      rw [el]
      refine Prod.ext rfl (Prod.ext rfl (Prod.ext rfl ?_))
      show (List.range (f + ((xs.length : Nat) : Int) + 1 - f).toNat).map (fun i => look (rawT 0 f (x :: xs)) (f + (i : Nat))) = x :: xs
      rw [show (f + ((xs.length : Nat) : Int) + 1 - f).toNat = (x :: xs).length by simp; omega]
      apply List.ext_getElem?
      intro i
      by_cases hi : i < (x :: xs).length
      · rw [List.getElem?_map, List.getElem?_range hi, List.getElem?_eq_getElem hi]
        have q := raw_at0 (f := f) (List.getElem?_eq_getElem hi)
        show some (look _ _) = _
        rw [q]
      · rw [List.getElem?_eq_none (by simp at hi ⊢; omega), List.getElem?_eq_none (by simp at hi ⊢; omega)]
/-! bounds -/
theorem raw_sym : ∀ {i : Nat} {f : Int} {xs : List Int} {p : Int × Int}, p ∈ rawT i f xs → p.2 ∈ xs
  | _, _, [], _, h => by cases h
  | i, f, x :: xs, p, h => by
    unfold rawT at h
    rcases List.mem_cons.mp h with e | h
    · subst e; simp
    · exact List.mem_cons_of_mem _ (raw_sym h)
theorem OkR.mono {S Y : Int} {j j' : Nat} {st pl : Int} {t : Tp} (h : OkR S Y j st pl t) (hj : j ≤ j') : OkR S Y j' st pl t := by
  have a1 := h.p0
  have a2 := h.p1
  have a3 := h.len
  exact ⟨h.s0, h.s1, by omega, by omega, by omega, fun x hx => by have := h.key x hx; omega, h.sym⟩
theorem OkZ.cfgB {n S Y : Int} {c : Cfg} (h : OkZ n S Y c) (hn : n ≤ 5000) : CfgB S Y c := by
  by_cases e : c.2.2.2 = []
  · have := h.nil e
    exact ⟨h.s0, h.s1, by omega, by omega, by rw [e]; decide, h.sym⟩
  · have := h.ends e
    exact ⟨h.s0, h.s1, by omega, by omega, by omega, h.sym⟩
theorem okR_Z {n S Y : Int} {c : Cfg} (h : OkZ n S Y c) (hn : n ≤ 1200) (hY : 0 < Y) : OkR S Y 1500 (startC c).1 (startC c).2.1 (startC c).2.2 := by
  have a1 := h.p0
  have a2 := h.p1
  have hz : ∀ x, look (rawT 0 c.2.2.1 c.2.2.2) x ≠ 0 → c.2.2.2 ≠ [] ∧ c.2.2.1 ≤ x ∧ x < c.2.2.1 + c.2.2.2.length := fun x hx => by
    refine ⟨fun e => ?_, Classical.byContradiction fun q => hx (raw_out (by omega))⟩
    rw [e] at hx
    exact hx rfl
  refine ⟨h.s0, h.s1, by show -(2000 + ((1500 : Nat) : Int)) ≤ c.2.1; omega, by show c.2.1 ≤ 2000 + ((1500 : Nat) : Int); omega, ?_, fun x hx => ?_, fun x => ?_⟩
  · show (rawT 0 c.2.2.1 c.2.2.2).length ≤ 1000 + 1500
    rw [raw_len]
    by_cases e : c.2.2.2 = []
    · rw [e]; decide
    · have := h.ends e; omega
  · obtain ⟨q1, q2⟩ := hz x hx
    have := h.ends q1
    omega
  · rcases look_in (t := rawT 0 c.2.2.1 c.2.2.2) (x := x) with z | ⟨p, hp, z⟩
    · show 0 ≤ look (rawT 0 c.2.2.1 c.2.2.2) x ∧ look (rawT 0 c.2.2.1 c.2.2.2) x < Y
      rw [z]; omega
    · show 0 ≤ look (rawT 0 c.2.2.1 c.2.2.2) x ∧ look (rawT 0 c.2.2.1 c.2.2.2) x < Y
      rw [z, ]
      refine h.sym _ ?_
      clear z
      exact raw_sym hp
theorem endR_bounds {S Y st pl : Int} {t : Tp} {j : Nat} (h : OkR S Y j st pl t) (hj : j ≤ 2950) : bigCfg (endF st pl t) = false := by
  have a1 := h.p0
  have a2 := h.p1
  have hp : decide ((if pl < 0 then -pl else pl) > 1000000000) = false := abs_small (b := 10000) (by omega) (by omega) (by decide)
  cases e : spots t with
  | nil => rw [endF_nil e]; unfold bigCfg bigB; dsimp only; rw [hp]; rfl
  | cons s r =>
    rw [endF_cons e]
    obtain ⟨e1, e2, e3, e4⟩ := spots_ends e
    have q1 := h.key _ e1
    have q2 := h.key _ e2
    unfold bigCfg bigB
    dsimp only
    rw [hp, abs_small (b := 10000) (by omega) (by omega) (by decide), List.length_map, List.length_range, decide_eq_false (by omega)]
    rfl
theorem big_no {m : Mach} {S Y : Int} (hm : OkMach m S Y) : ∀ {n j : Nat} {s : WS}, OkR S Y j s.1 s.2.1 s.2.2 → j + n ≤ 2950 → bigRun m n s = false
  | 0, _, _, _, _ => rfl
  | n + 1, j, s, h, hj => by
    unfold bigRun
    by_cases e : s.1 = -1
    · rw [if_pos e]
    · rw [if_neg e]
      have h1 := okR_take h hm e
      rw [show bigCfg (endW (takeT m s)) = false from endR_bounds h1 (by omega), big_no hm (j := j + 1) h1 (by omega)]
      rfl
/-- where a run ends -/
theorem run_Z {m : Mach} {S Y : Int} (hm : OkMach m S Y) : ∀ {n j : Nat} {s : WS}, OkR S Y j s.1 s.2.1 s.2.2 → OkR S Y (j + n) (runT m n s).2.1 (runT m n s).2.2.1 (runT m n s).2.2.2
  | 0, _, _, h => h
  | n + 1, j, s, h => by
    by_cases e : s.1 = -1
    · rw [run_stop2 (.inr e)]
      exact h.mono (by omega)
    · rw [run_stepS e]
      have := run_Z hm (n := n) (okR_take h hm e)
      rw [show j + (n + 1) = j + 1 + n by omega]
      exact this
theorem endR_Z {S Y st pl : Int} {t : Tp} {n : Int} (h0 : -1 ≤ st) (h1 : st < S) (p0 : -n ≤ pl) (p1 : pl ≤ n) (ht : ∀ x, look t x ≠ 0 → -n ≤ x ∧ x ≤ n) (hs : ∀ x, 0 ≤ look t x ∧ look t x < Y) : OkZ n S Y (endW (st, pl, t)) := okZ_endF h0 h1 p0 p1 ht hs
/-- bounds of a run, sharp -/
structure OkS (n : Int) (S Y : Int) (s : WS) : Prop where
  s0 : -1 ≤ s.1
  s1 : s.1 < S
  p0 : -n ≤ s.2.1
  p1 : s.2.1 ≤ n
  key : ∀ x, look s.2.2 x ≠ 0 → -n ≤ x ∧ x ≤ n
  sym : ∀ x, 0 ≤ look s.2.2 x ∧ look s.2.2 x < Y
theorem okS_init {n S Y : Int} {c : Cfg} (h : OkZ n S Y c) (hY : 0 < Y) : OkS n S Y (startC c) := by
  have hz : ∀ x, look (rawT 0 c.2.2.1 c.2.2.2) x ≠ 0 → c.2.2.2 ≠ [] ∧ c.2.2.1 ≤ x ∧ x < c.2.2.1 + c.2.2.2.length := fun x hx => by
    refine ⟨fun e => ?_, Classical.byContradiction fun q => hx (raw_out (by omega))⟩
    rw [e] at hx
    exact hx rfl
  refine ⟨h.s0, h.s1, h.p0, h.p1, fun x hx => ?_, fun x => ?_⟩
  · obtain ⟨q1, q2⟩ := hz x hx
    have := h.ends q1
    omega
  · show 0 ≤ look (rawT 0 c.2.2.1 c.2.2.2) x ∧ look (rawT 0 c.2.2.1 c.2.2.2) x < Y
    rcases look_in (t := rawT 0 c.2.2.1 c.2.2.2) (x := x) with z | ⟨p, hp, z⟩
    · rw [z]; omega
    · rw [z]; exact h.sym _ (raw_sym hp)
theorem okS_take {m : Mach} {n S Y : Int} {s : WS} (h : OkS n S Y s) (hm : OkMach m S Y) (hs : s.1 ≠ -1) : OkS (n + 1) S Y (takeT m s) := by
  obtain ⟨st, pl, t⟩ := s
  have b1 := h.s0
  have a1 := h.p0
  have a2 := h.p1
  have hsy := h.sym
  have hk := h.key
  have b2 := h.s1
  dsimp only at b1 a1 a2 hsy hk hs b2
  obtain ⟨_, hr2, hr3⟩ := rowAt hm (st := st) (by omega) b2
  have hr := (ruleAt_ok hr2 hm hr3 (hsy pl).1 (hsy pl).2).2
  unfold takeT
  dsimp only
  generalize ruleAt m st (look t pl) = r at hr ⊢
  obtain ⟨wr, mv, ns⟩ := r
  have a7 := hr.w0
  have a8 := hr.w1
  have a9 := hr.mv
  dsimp only at a7 a8 a9 ⊢
  refine ⟨hr.s0, hr.s1, by show -(n + 1) ≤ pl + mv; omega, by show pl + mv ≤ n + 1; omega, fun x hx => ?_, fun x => ?_⟩
  · have hx : look (putI t pl wr) x ≠ 0 := hx
    rw [look_put] at hx
    by_cases e : x = pl
    · omega
    · rw [if_neg e] at hx; have := hk x hx; omega
  · show 0 ≤ look (putI t pl wr) x ∧ look (putI t pl wr) x < Y
    rw [look_put]
    split
    · exact ⟨a7, a8⟩
    · exact hsy x
theorem okS_run {m : Mach} {S Y : Int} (hm : OkMach m S Y) : ∀ {k : Nat} {n : Int} {s : WS}, OkS n S Y s → OkS (n + k) S Y (runT m k s).2
  | 0, n, s, h => by rw [show n + ((0 : Nat) : Int) = n by omega]; exact h
  | k + 1, n, s, h => by
    by_cases e : s.1 = -1
    · rw [run_stop2 (.inr e)]
      exact ⟨h.s0, h.s1, by have := h.p0; dsimp only; omega, by have := h.p1; dsimp only; omega, fun x hx => by have := h.key x hx; omega, h.sym⟩
    · rw [run_stepS e]
      have := okS_run hm (k := k) (okS_take h hm e)
      rw [show n + ((k + 1 : Nat) : Int) = n + 1 + (k : Int) by omega]
      exact this
theorem OkS.endZ {n S Y : Int} {s : WS} (h : OkS n S Y s) : OkZ n S Y (endW s) := okZ_endF h.s0 h.s1 h.p0 h.p1 h.key h.sym
/-! the run over blanks -/
def m2 (mv : Int) : Mach := [[(0, mv, 0), (1, -mv, 0)]]
theorem ok_m2 {mv : Int} (h : mv = -1 ∨ mv = 1) : OkMach (m2 mv) 1 2 := by
  refine ⟨rfl, by decide, by decide, by decide, by decide, fun r hr => ?_, fun r hr t ht => ?_⟩
  · have : r = [(0, mv, 0), (1, -mv, 0)] := by simpa [m2] using hr
    subst this; rfl
  · have : r = [(0, mv, 0), (1, -mv, 0)] := by simpa [m2] using hr
    subst this
    simp only [List.mem_cons, List.not_mem_nil, or_false] at ht
    rcases ht with e | e <;> subst e
    · exact ⟨by show (0 : Int) ≤ 0; decide, by show (0 : Int) < 2; decide, h, by show (-1 : Int) ≤ 0; decide, by show (0 : Int) < 1; decide⟩
    · exact ⟨by show (0 : Int) ≤ 1; decide, by show (1 : Int) < 2; decide, by show -mv = -1 ∨ -mv = 1; omega, by show (-1 : Int) ≤ 0; decide, by show (0 : Int) < 1; decide⟩
structure Zs (p : Int) (s : WS) : Prop where
  st : s.1 = 0
  pl : s.2.1 = p
  z : ∀ x, look s.2.2 x = 0
theorem zs_take {mv p : Int} {s : WS} (h : Zs p s) : Zs (p + mv) (takeT (m2 mv) s) := by
  obtain ⟨st, pl, t⟩ := s
  have h1 := h.st
  have h2 := h.pl
  have h3 := h.z
  dsimp only at h1 h2 h3
  subst h1 h2
  unfold takeT
  dsimp only
  rw [h3]
  have e : ruleAt (m2 mv) 0 0 = (0, mv, 0) := rfl
  rw [e]
  refine ⟨rfl, rfl, fun x => ?_⟩
  show look (putI t pl 0) x = 0
  rw [look_put, h3]
  split <;> rfl
theorem zs_run {mv : Int} : ∀ {n : Nat} {p : Int} {s : WS}, Zs p s → (runT (m2 mv) n s).1 = n ∧ Zs (p + mv * n) (runT (m2 mv) n s).2
  | 0, p, s, h => ⟨rfl, by rw [show p + mv * ((0 : Nat) : Int) = p by rw [Int.natCast_zero, Int.mul_zero, Int.add_zero]]; exact h⟩
  | n + 1, p, s, h => by
    rw [run_stepS (by rw [h.st]; decide)]
    obtain ⟨q1, q2⟩ := zs_run (n := n) (zs_take (mv := mv) h)
    refine ⟨congrArg (· + 1) q1, ?_⟩
    rw [show p + mv * ((n + 1 : Nat) : Int) = p + mv + mv * (n : Int) by rw [Int.natCast_succ, Int.mul_add, Int.mul_one]; omega]
    exact q2
theorem zs_end {p : Int} {s : WS} (h : Zs p s) : endW s = (0, p, 0, []) := by
  unfold endW
  rw [h.st, h.pl]
  cases e : spots s.2.2 with
  | nil => rw [endF_nil e]
  | cons x r =>
    have := (spots_ends e).1
    exact absurd (h.z x) this
theorem zs_big {mv : Int} (hv : mv = -1 ∨ mv = 1) : ∀ {n : Nat} {p : Int} {s : WS}, Zs p s → -(900000000 : Int) ≤ p - n → p + n ≤ 900000000 → bigRun (m2 mv) n s = false
  | 0, _, _, _, _, _ => rfl
  | n + 1, p, s, h, h1, h2 => by
    unfold bigRun
    rw [if_neg (by rw [h.st]; decide)]
    have h3 := zs_take (mv := mv) h
    rw [zs_end h3, zs_big hv h3 (by omega) (by omega), show bigCfg (0, p + mv, 0, []) = false by unfold bigCfg bigB; dsimp only; rw [abs_small (b := 1000000000) (by omega) (by omega) (by decide)]; rfl]
    rfl
theorem zs_0 : Zs 0 (startC (0, 0, 0, [])) := ⟨rfl, rfl, fun _ => rfl⟩
/-! values without True and False -/
def PlD : Nat → PyData → Prop
  | 0, d => (∃ i, d = .int i) ∨ (∃ x, d = .str x) ∨ d = .none
  | n + 1, d => ((∃ i, d = .int i) ∨ (∃ x, d = .str x) ∨ d = .none) ∨ ∃ ds : List PyData, (d = .tuple ds ∨ d = .list ds) ∧ ds.length ≤ 100000 ∧ ∀ x ∈ ds, PlD n x
theorem pl_int {n : Nat} {i : Int} : PlD n (.int i) := by cases n with | zero => exact .inl ⟨i, rfl⟩ | succ n => exact .inl (.inl ⟨i, rfl⟩)
theorem pl_str {n : Nat} {x : Str} : PlD n (.str x) := by cases n with | zero => exact .inr (.inl ⟨x, rfl⟩) | succ n => exact .inl (.inr (.inl ⟨x, rfl⟩))
theorem pl_tup {n : Nat} {ds : List PyData} (hz : ds.length ≤ 100000) (h : ∀ x ∈ ds, PlD n x) : PlD (n + 1) (.tuple ds) := .inr ⟨ds, .inl rfl, hz, h⟩
theorem pl_lst {n : Nat} {ds : List PyData} (hz : ds.length ≤ 100000) (h : ∀ x ∈ ds, PlD n x) : PlD (n + 1) (.list ds) := .inr ⟨ds, .inr rfl, hz, h⟩
theorem pl_ints {n : Nat} {l : List Int} : ∀ x ∈ l.map PyData.int, PlD n x := fun x hx => by
  obtain ⟨i, _, rfl⟩ := List.mem_map.mp hx
  exact pl_int
theorem pl_cfg {c : Cfg} (h : c.2.2.2.length ≤ 100000) : PlD 2 (cfgD c) := pl_tup (by show (4 : Nat) ≤ 100000; decide) fun d hd => by
  simp at hd
  rcases hd with rfl | rfl | rfl | rfl
  · exact pl_int
  · exact pl_int
  · exact pl_int
  · exact pl_tup (by rw [List.length_map]; exact h) pl_ints
def sp_plain (n : Nat) : SpT := fun cs O R _ => ∃ d, cs = [.d d] ∧ PlD n d ∧ R (.d (.bool true)) O
theorem all_t {ds : List PyData} : (ds.all fun _ => true) = true := List.all_eq_true.mpr fun _ _ => rfl
theorem OkZ.lenB {n S Y : Int} {c : Cfg} (h : OkZ n S Y c) (hn : n ≤ 5000) : c.2.2.2.length ≤ 100000 := by
  by_cases e : c.2.2.2 = []
  · rw [e]; decide
  · have := h.ends e; omega
theorem blank_Z {n S Y : Int} (hn : 0 ≤ n) (hS : 1 ≤ S) : OkZ n S Y (0, 0, 0, []) := ⟨(by show (-1 : Int) ≤ 0; decide), (by show (0 : Int) < S; omega), (by show -n ≤ 0; omega), hn, fun z => absurd rfl z, fun x hx => absurd hx List.not_mem_nil, fun _ => rfl, fun x hx => (by simp at hx), fun x hx => (by simp at hx)⟩
def sp_lrunB : SpT := fun cs O R _ => ∃ m S Y c n, cs = [.d (machD m), .d (cfgD c), .d (.int ((n : Nat) : Int))] ∧ OkMach m S Y ∧ OkZ 300 S Y c ∧ n ≤ 1200 ∧
  R (.d (.tuple [cfgD (endW (runT m n (startC c)).2), .int (((runT m n (startC c)).1 : Nat) : Int)])) O
theorem OkR.smallB {S Y st pl : Int} {j : Nat} {t : Tp} (h : OkR S Y j st pl t) (hj : j ≤ 90000) : Small t (-100000) := ⟨by have := h.len; omega, by decide, by decide, fun x hx => by have := h.key x hx; omega⟩
theorem sh_pair {c : Cfg} {i : Int} : Sh 3 (.tuple [cfgD c, .int i]) := sh_tup fun d hd => by
  simp at hd
  rcases hd with rfl | rfl
  · exact sh_cfg
  · exact sh_up sh_int (by decide)
theorem ne_self {a : PyData} (h : PyData.eqv a a = true) : ¬ ((!PyData.eqv a a) = true) := by rw [h]; decide
theorem pl_pair {c : Cfg} {i : Int} (h : c.2.2.2.length ≤ 100000) : PlD 3 (.tuple [cfgD c, .int i]) := pl_tup (by show (2 : Nat) ≤ 100000; decide) fun d hd => by
  simp at hd
  rcases hd with rfl | rfl
  · exact pl_cfg h
  · exact pl_int
theorem OkZ.mono {n n' S Y : Int} {c : Cfg} (h : OkZ n S Y c) (hn : n ≤ n') : OkZ n' S Y c := ⟨h.s0, h.s1, by have := h.p0; omega, by have := h.p1; omega, fun e => by have := h.ends e; omega, h.sym, h.nil, h.hd, h.lst⟩
section
variable {m : Mach} {S Y i : Int} {c : Cfg} {O : Sto} {R : C → Sto → Prop} {RX : Value → Sto → Prop} {CL : Addr}
theorem lrunB_use (hm : OkMach m S Y) (ok : OkZ 100 S Y c) (h0 : 0 ≤ i) (h1 : i ≤ 1200) (h : R (.d (.tuple [cfgD (endW (runT m i.toNat (startC c)).2), .int (((runT m i.toNat (startC c)).1 : Nat) : Int)])) O) : sp_lrunB [.d (machD m), .d (cfgD c), .d (.int i)] O R RX :=
  ⟨m, S, Y, c, i.toNat, by rw [Int.toNat_of_nonneg h0], hm, OkZ.mono ok (by decide), by omega, h⟩
theorem run_first (hm : OkMach m S Y) (ok : OkZ 100 S Y c) (h0 : 0 ≤ i) (h1 : i ≤ 1000) (h : R (.d (.tuple [cfgD (endW (runT m i.toNat (startC c)).2), .int (((runT m i.toNat (startC c)).1 : Nat) : Int)])) O) : sp_runG CL [.d (machD m), .d (cfgD c), .d (.int i)] O R RX := by
  have hb := big_no hm (n := i.toNat) (okR_Z ok (by decide) (by have := hm.y2; omega)) (by omega)
  exact ⟨m, S, Y, c, i.toNat, by rw [Int.toNat_of_nonneg h0], hm, OkZ.cfgB ok (by decide), fun e => Bool.noConfusion (hb.symm.trans e), fun _ => h⟩
theorem run_zero (hm : OkMach m S Y) (ok : OkZ 100 S Y c) (h : R (.d (.tuple [cfgD c, .int 0])) O) : sp_runG CL [.d (machD m), .d (cfgD c), .d (.int 0)] O R RX :=
  ⟨m, S, Y, c, 0, rfl, hm, OkZ.cfgB ok (by decide), fun e => Bool.noConfusion e, fun _ => by
    show R (.d (.tuple [cfgD (endW (startC c)), .int 0])) O
    rw [end_start ok]
    exact h⟩
theorem m2_use {mv : Int} (hv : mv = -1 ∨ mv = 1) (h0 : 0 ≤ i) (h1 : i ≤ 100000) (h : R (.d (.tuple [cfgD (0, mv * i, 0, []), .int i])) O) : sp_runG CL [.d (machD (m2 mv)), .d (cfgD (0, 0, 0, [])), .d (.int i)] O R RX := by
  have hb := zs_big hv (n := i.toNat) zs_0 (by omega) (by omega)
  obtain ⟨e1, e2⟩ := zs_run (mv := mv) (n := i.toNat) zs_0
  refine ⟨m2 mv, 1, 2, (0, 0, 0, []), i.toNat, by rw [Int.toNat_of_nonneg h0], ok_m2 hv, OkZ.cfgB (blank_Z (n := 0) (S := 1) (Y := 2) (by decide) (by decide)) (by decide), fun e => Bool.noConfusion (hb.symm.trans e), fun _ => ?_⟩
  rw [e1, zs_end e2, Int.toNat_of_nonneg h0, Int.zero_add]
  exact h
theorem run_more {n : Int} (hm : OkMach m S Y) (ok : OkZ 100 S Y c) (n0 : 0 ≤ n) (n1 : n ≤ 1000) (h0 : 0 ≤ i) (h1 : i < 100)
    (h : R (.d (.tuple [cfgD (endW (runT m (n + i).toNat (startC c)).2), .int ((((runT m (n + i).toNat (startC c)).1 : Nat) : Int) - (((runT m n.toNat (startC c)).1 : Nat) : Int))])) O) : sp_runG CL [.d (machD m), .d (cfgD (endW (runT m n.toNat (startC c)).2)), .d (.int i)] O R RX := by
  have hY : 0 < Y := by have := hm.y2; omega
  have z := (okS_run hm (k := n.toNat) (okS_init ok hY)).endZ
  have r := run_Z hm (n := n.toNat) (okR_Z ok (by decide) hY)
  have hb := big_no hm (n := i.toNat) r (by omega)
  rw [← like_big like_start] at hb
  rw [show (n + i).toNat = n.toNat + i.toNat by omega, run_add] at h
  obtain ⟨e1, e2⟩ := like_run (m := m) (n := i.toNat) (like_start (s := (runT m n.toNat (startC c)).2))
  refine ⟨m, S, Y, _, i.toNat, by rw [Int.toNat_of_nonneg h0], hm, OkZ.cfgB z (by omega), fun e => Bool.noConfusion (hb.symm.trans e), fun _ => ?_⟩
  rw [e1, like_end e2]
  dsimp only at h
  rw [show ((((runT m n.toNat (startC c)).1 + (runT m i.toNat (runT m n.toNat (startC c)).2).1 : Nat) : Int) - ((runT m n.toNat (startC c)).1 : Nat)) = ((runT m i.toNat (runT m n.toNat (startC c)).2).1 : Nat) by omega] at h
  exact h
end
end K

set_option Elab.async false
set_option linter.all false
set_option maxRecDepth 100000
set_option maxHeartbeats 2000000
/-! T5: t[::-1] of a tuple. -/
namespace T
open PySem PySem.Spec PyProof.Rows L2 PySem.Calls
section
variable {prog : Program} {w : World} {A : Around} {E : Value → Shared → Prop} {s : Shared}
theorem rev_items (its : Array Value) : (List.range its.size).filterMap (fun (k : Nat) => its[(((its.size : Int) - 1) + (k : Int) * (-1)).toNat]?) = its.toList.reverse := by
  have e : (List.range its.size).filterMap (fun (k : Nat) => its[(((its.size : Int) - 1) + (k : Int) * (-1)).toNat]?) = ((List.range its.size).map fun k => its.size - 1 - k).filterMap (its[·]?) := by
    rw [List.filterMap_map]
    refine congrArg (fun g => List.filterMap g (List.range its.size)) (funext fun k => ?_)
    show its[(((its.size : Int) - 1) + (k : Int) * (-1)).toNat]? = its[its.size - 1 - k]?
    rw [show (((its.size : Int) - 1) + (k : Int) * (-1)).toNat = its.size - 1 - k by omega]
  rw [e, PySem.W.krv_range, List.filterMap_reverse, PySem.W.krv_all]
theorem rev_applied {sl : Addr} {vl vu vs : Value} {n : Nat} {Q : Int × Int × Nat → Shared → Prop} (hs : s.heap.IsSliceOf sl vl vu vs) (pl : IsPart vl none) (pu : IsPart vu none) (ps : IsPart vs (some (-1)))
    (h : Q ((n : Int) - 1, -1, n) s) : wpAny (model prog w) A (Builtin.Slice.sliceApplied (.ref sl) (pure (n : Int))) Q E s := by
  obtain ⟨o, ho, _, hd⟩ := hs
  have f0 : wpAny (model prog w) A (Builtin.Slice.sliceFields (.ref sl)) (fun r s' => r = (vl, vu, vs) ∧ s' = s) E s := by
    unfold Builtin.Slice.sliceFields
    refine wpAny_bind (wpAny_field ho hd (x := vl) rfl ?_)
    refine wpAny_bind (wpAny_field ho hd (x := vu) rfl ?_)
    exact wpAny_bind (wpAny_field ho hd (x := vs) rfl (wpAny_pure ⟨rfl, rfl⟩))
  unfold Builtin.Slice.sliceApplied
  refine wpAny_bind (wpAny_mono f0 (fun r s' ⟨e1, e2⟩ => ?_) fun _ _ e => e)
  subst e1 e2
  refine wpAny_bind (HT.slicePart_ ps ?_)
  show wpAny _ _ (if ((-1 : Int) == 0) = true then _ else _) _ _ s'
  rw [if_neg (by decide)]
  refine wpAny_bind (HT.slicePart_ pl ?_)
  refine wpAny_bind (HT.slicePart_ pu ?_)
  refine wpAny_bind (wpAny_pure ?_)
  have e3 : Builtin.Slice.slicePlaces ((n : Int) - 1) (-1) (-1) = n := by
    unfold Builtin.Slice.slicePlaces
    rw [if_neg (show ¬ ((-1 : Int) > 0) by decide), show (-(-1) : Int) = 1 by decide, Int.ediv_one]
    split <;> omega
  show wpAny _ _ (pure ((n : Int) - 1, (-1 : Int), Builtin.Slice.slicePlaces ((n : Int) - 1) (-1) (-1))) _ _ s'
  rw [e3]
  exact wpAny_pure h
theorem rev_got {t sl : Addr} {its : Array Value} {vl vu vs : Value} {Q : Value → Shared → Prop} (ht : IsTup s.heap t its) (hs : s.heap.IsSliceOf sl vl vu vs) (pl : IsPart vl none) (pu : IsPart vu none) (ps : IsPart vs (some (-1))) (hz : its.size ≤ sizeLine)
    (h : Q (.ref s.heap.objs.size) { s with heap := s.heap.push { cls := .type "tuple", data := .seq its.toList.reverse.toArray } }) : wpAny (model prog w) A (getItem (.ref t) (.ref sl)) Q E s := by
  have so : sizeOk (.seq its.toList.reverse.toArray) := by
    show its.toList.reverse.toArray.size ≤ sizeLine
    rw [List.size_toArray, List.length_reverse, Array.length_toList]
    exact hz
  have st : s.TypeIs (.ref sl) "slice" := by
    obtain ⟨o, ho, hc, _⟩ := hs
    exact ⟨o, ho, hc⟩
  have body : ∀ A', wpAny (model prog w) A' (Builtin.«tuple.__getitem__» ⟨[.ref t, .ref sl], []⟩) (fun r s' => ∃ v, r = .done (.ret v) ∧ Q v s') E s := by
    intro A'
    show wpAny _ _ (Builtin.Tuple.tupleItemsOf (.ref t) >>= _) _ _ s
    refine wpAny_bind (tupleItemsOf_ ht ?_)
    refine wpAny_bind (wpAny_typeOf st ?_)
    rw [if_pos (by decide)]
    refine wpAny_bind (rev_applied hs pl pu ps ?_)
    have hf : ¬ ((((its.size : Int) - 1) == 0 && (-1 : Int) == 1 && its.size == its.size) = true) := by
      rw [show ((-1 : Int) == 1) = false by decide, Bool.and_false, Bool.false_and]
      exact Bool.false_ne_true
    show wpAny _ _ (if (((its.size : Int) - 1) == 0 && (-1 : Int) == 1 && its.size == its.size) = true then _ else _) _ _ s
    rw [if_neg hf, rev_items]
    have fin : wpAny (model prog w) A' (Builtin.Tuple.tupleExact its.toList.reverse.toArray) (fun v s' => Q v s') E s := wpAny_newObj_type h so
    exact wpAny_bind (wpAny_mono fin (fun v s' q => wpAny_pure ⟨_, rfl, q⟩) fun _ _ e => e)
  unfold getItem
  try with_reducible refine wpAny_holding ?_
  first | refine wpAny_bind (wpAny_pure ?_) | skip
  refine wpAny_bind (wpAny_sequenceKey ht.typeIs (by decide) ?_)
  exact wpAny_bind (wpAny_callSpecial?_slot (name := Str.ofString "__getitem__") ht.typeIs slot_tuple_getitem (wpAny_call_entry slot_tuple_getitem ht.typeIs entry_tuple_getitem (wpAny_mono (body _) (fun r s' ⟨v, e, q⟩ => ⟨v, e, wpAny_pure q⟩) fun _ _ e => e) (args_tuple_getitem _ _)))
end
/-- what t[::-1] does -/
def tTurn (K : PySem.W.Frag) (te : TE) : TE := fun σ H Q => te σ H fun x H1 => ∃ a xs, x = .ref a ∧ SqT K H1 a xs ∧ ∀ p, H1 p = none → Q (.ref p) (upd H1 p (.tup xs.reverse))
theorem pe_turn {X : Cx} {e : Expr} {te : TE} {k : Nat} {p1 p2 p3 pos : Pos} (he : PE X e te) : PE X (.Subscript e (.Slice none none (some (.UnaryOp .USub (.Constant (.int 1) k p1) p2)) p3) pos) (tTurn X.K te) := ⟨fun pins s σ H Q I h => by
  have ms : PO X (some (.UnaryOp .USub (.Constant (.int 1) k p1) p2)) (tPart (tUn (rU fun i => .int (-i)) (tC (.int 1)))) := po_some (pe_un un_neg pe_int)
  refine Subscript_ (thn (he.run pins s σ H _ I h) fun v s1 ⟨x, H1, I1, r1, a, xs, ex, hx, q⟩ => ?_)
  subst ex
  cases r1
  have nothing : ∀ s0, Inv X pins σ H1 s0 → wpAny _ _ _ _ _ s0 := fun s0 I0 => po_none.run pins s0 σ H1 (fun o G => o = none ∧ G = H1) I0 ⟨rfl, rfl⟩
  refine wpAny_Slice (thn (nothing s1 I1) fun vl s2 ⟨l, H2, I2, pl, el, e2⟩ => ?_)
  subst el e2
  refine thn (nothing s2 I2) fun vu s3 ⟨u, H3, I3, pu, eu, e3⟩ => ?_
  subst eu e3
  refine thn (ms.run pins s3 σ H3 (fun o G => o = some (-1) ∧ G = H3) I3 ⟨1, rfl, -1, rfl, rfl, rfl⟩) fun vs s4 ⟨o, H4, I4, ps, eo, e4⟩ => ?_
  subst eo e4
  have kept : ∀ b ob, s4.heap.get? b = some ob → (s4.heap.push { cls := .type "slice", data := .fields #[vl, vu, vs] }).get? b = some ob := fun b ob g => Heap.get?_push_of_some _ g
  have I5 : Inv X pins σ H4 { s4 with heap := s4.heap.push { cls := .type "slice", data := .fields #[vl, vu, vs] } } := I4.kept (t' := s4.toks) kept
  obtain ⟨its, r, ht, hz⟩ := I5.tuple hx
  have hn : its.toArray.size ≤ sizeLine := by
    rw [List.size_toArray, ← r.length]
    exact hz
  refine tail_any (ops := [.ref a, .ref s4.heap.objs.size]) ht.typeIs (PyProof.Rows.slot_tuple_getitem.lookup) (rev_got ht (Heap.IsSliceOf.new _ vl vu vs) pl pu ps hn ?_) (by with_unfolding_all rfl)
  refine ⟨.ref _, _, I5.laid (t' := s4.toks) (o := .tup xs.reverse) (fun b ob g => Heap.get?_push_of_some _ g) (Nat.le_refl _) ?_, rfl, q _ (I5.hok.fresh (Nat.le_refl _))⟩
  exact ⟨by rw [List.length_reverse]; exact hz, _, r.reverse, IsTup.new _ _⟩⟩
section
variable {Y : Fam} {a : Expr} {Γ : Gam} {O : Sto} {R : C → Sto → Prop} {pos p : Pos}
theorem dpall_rev {K : PySem.W.Frag} {F : Hp} : ∀ {vs : List V} {ds : List PyData}, DpAll K F vs ds → DpAll K F vs.reverse ds.reverse
  | _, _, .nil => .nil
  | _, _, .cons h t => by
    rw [List.reverse_cons, List.reverse_cons]
    exact dpall_app (dpall_rev t) (.cons h .nil)
theorem xe_turn {k : Nat} {p1 p2 p3 : Pos} (h : XE Y a Γ O fun c1 O1 => ∃ ds, c1 = .d (.tuple ds) ∧ R (.d (.tuple ds.reverse)) O1) : XE Y (.Subscript a (.Slice none none (some (.UnaryOp .USub (.Constant (.int 1) k p1) p2)) p3) pos) Γ O R :=
  xe_of (te := tTurn Y.K (wpE Y a)) (fun i => by rw [← Y.hK i]; exact pe_turn (peW i)) fun F as σ H Q S L tx t => h F as σ H _ S L tx fun F1 as1 c1 v1 O1 H1 g1 S1 r1 ⟨ds, e1, h1⟩ => by
    subst e1
    cases r1 with
    | @tup b xs _ hx hd =>
      refine ⟨b, xs, rfl, same_t S1.ex hx, fun q hq => ?_⟩
      obtain ⟨S2, g2⟩ := S1.froze (o := .tup xs.reverse) hq
      exact t _ _ (.d (.tuple ds.reverse)) _ _ _ (g1.trans g2) S2 (.tup (.inl (.inl upd_same)) (dp_sameAll g2.fr _ _ (dpall_rev hd))) h1
end
end T

set_option Elab.async false
set_option linter.all false
set_option maxRecDepth 100000
set_option maxHeartbeats 1000000
/-! T6: except x as n: if isinstance(n, y) and isinstance(n, z): return None; y is a class of the module's, z of the language's. -/
namespace T
open PySem PySem.Spec PyProof.Rows L2
section
variable {Y : Fam} {body : List Stmt} {Γ : Gam} {O : Sto} {E : En} {pos pos' np p p1 p2 p3 q q1 q2 q3 p4 p5 p6 p7 : Pos} {x y z n : Str}
/-- a test by isinstance, as a truth -/
def IsT (X : Cx) (n y : Str) (p p1 p2 p3 : Pos) : Prop := (starEach [.Name n p1, .Name y p2] X.env = (false, eval (.Name n p1) X.env) :: starEach [.Name y p2] X.env) ∧ (starEach [.Name y p2] X.env = (false, eval (.Name y p2) X.env) :: starEach [] X.env) ∧ (backTo p3 (starEach [.Name y p2] X.env)).any (·.1) = false ∧
  ∀ whole, isTrue (.Call (.Name "isinstance" p) [.Name n p1, .Name y p2] [] p3) X.env whole = (do let v ← whole; standAt (Expr.Call (.Name "isinstance" p) [.Name n p1, .Name y p2] [] p3).pos; holding [v] (truthy v))
theorem ps_as2 {X : Cx} {C B : Addr} {Z : String} {i j : Nat} {a : Addr} {oe : Obj} {cls : Value} {d : Option Addr} {pn : List (Addr × Obj)} (hi : X.N[i]? = some n) (hv : Vis X.env.scope n) (hd : (n == ("__debug__" : Str)) = false) (hcd : (n == ("__classdict__" : Str)) = false)
    (hg : Gl X "isinstance") (hm : X.mg "isinstance" = none) (hgy : Gl X y) (hmy : X.mg y = some (.ref B)) (hdy : (y == ("__debug__" : Str)) = false) (hgz : Gl X z) (hmz : X.mg z = none) (hvz : bootBuiltins z = some (.type Z)) (hnz : z ≠ "__name__") (hdz : (z == ("__debug__" : Str)) = false)
    (XC : ExcC X.K C) (hk : PySem.W.kitOne X.K (.ref C) (.ref B) = some true) (hk2 : PySem.W.kitOne X.K (.ref C) (.type Z) = some true) (hz : Zc cls d oe) (hf : ∃ vs, oe.data = .fields vs)
    (t1 : IsT X n y p p1 p2 p3) (t2 : IsT X n z q q1 q2 q3) :
    PSs (X.suite a ((a, oe) :: pn)) [.If (.BoolOp .And [.Call (.Name "isinstance" p) [.Name n p1, .Name y p2] [] p3, .Call (.Name "isinstance" q) [.Name n q1, .Name z q2] [] q3] p7) [.Return (some (.Constant .none j p4)) p5] [] p6] (tsAs C i a cls d) := by
  refine ⟨fun pins s σ H D I ⟨e1, e2, own, hr⟩ => ?_⟩
  subst e1 e2
  obtain ⟨a1, a2, a3, a4⟩ := t1
  obtain ⟨b1, b2, b3, b4⟩ := t2
  have here : σ[i]? = some (some (V.ref a)) := by
    have lt : i < σ.length := I.len.symm ▸ (List.getElem?_eq_some_iff.mp hi).1
    exact (List.getElem?_eq_getElem lt).trans (congrArg some (own _ (List.getElem?_eq_getElem lt)))
  have cy := call_isE (X := X) (a := a) (D := C) (oe := oe) (pn := pn) XC hz hf
  have ex1 := pe_callB (X := X.suite a ((a, oe) :: pn)) (p := p) (pos := p3) (x := "isinstance") cy hg hm (by decide +kernel) (pa_cons (pe_var (i := i) (pos := p1) hi hv hd hcd) (pa_cons (pe_glob (u := .ref B) (v := .ref B) (pos := p2) hgy hmy rfl hdy) pa_nil a2) a1) (by decide) (by decide) a1 a3
  have ex2 := pe_callB (X := X.suite a ((a, oe) :: pn)) (p := q) (pos := q3) (x := "isinstance") cy hg hm (by decide +kernel) (pa_cons (pe_var (i := i) (pos := q1) hi hv hd hcd) (pa_cons (pe_bltn (v := .ty Z) (pos := q2) hgz hmz hvz rfl hnz hdz) pa_nil b2) b1) (by decide) (by decide) b1 b3
  have both := (pw_and (pos := p7) (pt_val ex1 a4) (pw_and1 (pt_val ex2 b4))).pt
  have ps := pss_one (ps_if (pos := p6) both (pss_one (ps_ret (pos := p5) (pe_non (j := j) (pos := p4)))) pss_nil)
  refine ps.run pins s σ H D I ?_
  refine ⟨_, here, V.ref B, Value.ref B, true, rfl, fun u r => r, hk, true, rfl, iteT ?_⟩
  exact ⟨_, here, V.ty Z, Value.type Z, true, rfl, fun u r => r, hk2, true, rfl, iteT hr⟩
theorem xs_tryAs2 {C B : Addr} {Z : String} (i : Nat) {j : Nat} (RX' : Value → Sto → Prop) (hN : Y.N[i]? = some n) (hm : Y.mg x = some (.ref C)) (hy : Y.mg y = some (.ref B)) (hmi : Y.mg "isinstance" = none) (hmz : Y.mg z = none) (hvz : bootBuiltins z = some (.type Z)) (XC : ExcC Y.K C) (hk : PySem.W.kitOne Y.K (.ref C) (.ref B) = some true) (hk2 : PySem.W.kitOne Y.K (.ref C) (.type Z) = some true) (hmm : PySem.W.exmOne Y.K (.ref C) (.ref C) = some true)
    (h : ∀ W', XB (Y.tr W' RX') body Γ O E) (hx : ∀ cl O', RX' cl O' → cl = .ref C ∧ E.rt (.d .none) O')
    (hs : ∀ i, (Y.X i).stack = (Y.X i).env :: (Y.X i).outer := by exact fun _ => rfl) (hf : ∀ i, (Y.X i).env.frame = some (Y.X i).env.locals := by exact fun _ => rfl) (hln : ∀ i, (Y.X i).env.kindOf n = some .local := by exact fun _ => rfl) (hg : ∀ i, Gl (Y.X i) x := by exact fun _ => rfl) (hgy : ∀ i, Gl (Y.X i) y := by exact fun _ => rfl) (hgz : ∀ i, Gl (Y.X i) z := by exact fun _ => rfl) (hgi : ∀ i, Gl (Y.X i) "isinstance" := by exact fun _ => rfl)
    (hd : (x == ("__debug__" : Str)) = false := by decide) (hdn : (n == ("__debug__" : Str)) = false := by decide) (hcd : (n == ("__classdict__" : Str)) = false := by decide) (hdy : (y == ("__debug__" : Str)) = false := by decide) (hnz : z ≠ "__name__" := by decide) (hdz : (z == ("__debug__" : Str)) = false := by decide)
    (t1 : ∀ i, IsT (Y.X i) n y p p1 p2 p3 := by exact fun _ => ⟨rfl, rfl, rfl, fun _ => rfl⟩) (t2 : ∀ i, IsT (Y.X i) n z q q1 q2 q3 := by exact fun _ => ⟨rfl, rfl, rfl, fun _ => rfl⟩) :
    XS Y (.Try body [.ExceptHandler (some (.Name x np)) (some n) [.If (.BoolOp .And [.Call (.Name "isinstance" p) [.Name n p1, .Name y p2] [] p3, .Call (.Name "isinstance" q) [.Name n q1, .Name z q2] [] q3] p7) [.Return (some (.Constant .none j p4)) p5] [] p6] pos'] [] [] pos) Γ O E :=
  xs_of (te := fun D σ H => wpB (Y.tr (wAs Y.K (.ref C) i (tsAs C i) Y.W D) RX') body D σ H) (fun u => by
    rw [← Y.hK u]
    refine ps_try_as (tb := fun W => wpB (Y.tr W RX') body) (ts := tsAs C i) (hs u) (hf u) (by rw [Y.hN]; exact Y.nd) (by rw [Y.hN]; exact hN) (hln u) ⟨hg u, hd, .inl (by rw [Y.hmg]; exact hm)⟩ (Y.tk u) (fun W pn xe tk own => pbW (Y := Y.tr W RX') ⟨(u, pn, xe), tk, own⟩) fun a oe cls d pn hz hfl => ?_
    exact ps_as2 (by rw [Y.hN]; exact hN) (Or.inl (hln u)) hdn hcd (hgi u) (by rw [Y.hmg]; exact hmi) (hgy u) (by rw [Y.hmg]; exact hy) hdy (hgz u) (by rw [Y.hmg]; exact hmz) hvz hnz hdz (by rw [Y.hK]; exact XC) (by rw [Y.hK]; exact hk) (by rw [Y.hK]; exact hk2) hz hfl (t1 u) (t2 u)) fun F as σ H D S L tx t => by
    refine h _ F as σ H D S L (fun F' as' cl O' σ' H' g S' rx => ?_) t
    obtain ⟨ec, hr⟩ := hx cl O' rx
    subst ec
    refine ⟨true, hmm, fun _ a _ => ⟨rfl, rfl, fun v hv => ?_, t.rt F' as' (.d .none) .non O' H' g S' (show CR Y.K F' as' (.d .none) .non from .non) hr⟩, fun w => nomatch w⟩
    by_cases hlt : i < σ'.length
    · rw [List.getElem?_set_self hlt] at hv; cases hv; rfl
    · rw [List.getElem?_eq_none (by rw [List.length_set]; omega)] at hv; cases hv
end
end T

set_option Elab.async false
set_option linter.all false
set_option maxRecDepth 100000
set_option maxHeartbeats 2000000
namespace K
open PySem PySem.Spec PyProof.Rows L2 T
/-! K09m: runs that may lead to what is too large, followed with both ends in hand -/
def Tg (t : Tp) (lo hi : Int) : Prop := (lo > hi ∧ ∀ x, look t x = 0) ∨ (lo ≤ hi ∧ look t lo ≠ 0 ∧ look t hi ≠ 0 ∧ ∀ x, look t x ≠ 0 → lo ≤ x ∧ x ≤ hi)
def Wd (t : Tp) (lo hi : Int) : Prop := ∀ x, look t x ≠ 0 → lo ≤ x ∧ x ≤ hi
theorem Tg.wd {t : Tp} {lo hi : Int} (h : Tg t lo hi) : Wd t lo hi := fun x hx => by
  rcases h with ⟨_, h⟩ | ⟨_, _, _, h⟩
  · exact absurd (h x) hx
  · exact h x hx
theorem tg_empty {t : Tp} {lo hi st pl : Int} (h : Tg t lo hi) (hl : lo > hi) : endF st pl t = (st, pl, 0, []) := by
  have hz : ∀ x, look t x = 0 := fun x => Classical.byContradiction fun q => by have := h.wd x q; omega
  cases e : spots t with
  | nil => exact endF_nil e
  | cons s r => exact absurd (hz s) (spots_ends e).1
theorem tg_full {t : Tp} {lo hi st pl : Int} (h : Tg t lo hi) (hl : lo ≤ hi) : endF st pl t = (st, pl, lo, (List.range (hi + 1 - lo).toNat).map fun i => look t (lo + (i : Nat))) := by
  rcases h with ⟨z, _⟩ | ⟨_, h1, h2, h3⟩
  · omega
  · cases e : spots t with
    | nil =>
      have := spots_mem.mpr h1
      rw [e] at this; cases this
    | cons s r =>
      obtain ⟨e1, e2, e3, e4⟩ := spots_ends e
      have a1 := h3 _ e1
      have a2 := h3 _ e2
      have a3 := e4 _ h1
      have a4 := e4 _ h2
      rw [endF_cons e]
      have g1 : s = lo := by omega
      have g2 : r.getLastD s = hi := by omega
      rw [g2, g1]
/-- what the two ends tell -/
def bigE (pl lo hi : Int) : Bool := decide ((if pl < 0 then -pl else pl) > 1000000000) || (decide (hi - lo > 9999) || (decide (lo ≤ hi) && decide ((if lo < 0 then -lo else lo) > 1000000000)))
theorem tg_big {t : Tp} {lo hi st pl : Int} (h : Tg t lo hi) : bigCfg (endF st pl t) = bigE pl lo hi := by
  unfold bigE
  by_cases hl : lo > hi
  · rw [tg_empty h hl]
    unfold bigCfg bigB
    dsimp only
    rw [decide_eq_false (show ¬ hi - lo > 9999 by omega), decide_eq_false (show ¬ lo ≤ hi by omega)]
    rfl
  · rw [tg_full h (by omega)]
    unfold bigCfg bigB
    dsimp only
    rw [List.length_map, List.length_range, decide_eq_true (show lo ≤ hi by omega), Bool.true_and]
    rw [show decide ((((hi + 1 - lo).toNat : Nat) : Int) > 10000) = decide (hi - lo > 9999) from decide_eq_decide.mpr (by omega)]
    rw [Bool.or_comm (decide ((if lo < 0 then -lo else lo) > 1000000000))]
def loA (wr lo hi pl : Int) : Int := if wr ≠ 0 ∧ lo > hi then pl else lo
def hiA (wr lo hi pl : Int) : Int := if wr ≠ 0 ∧ lo > hi then pl else hi
theorem wd_put {t : Tp} {lo hi pl wr : Int} (h : Wd t lo hi) : Wd (putI t pl wr) (if wr ≠ 0 then (if pl < (if wr ≠ 0 ∧ lo > hi then pl else lo) then pl else (if wr ≠ 0 ∧ lo > hi then pl else lo)) else lo) (if wr ≠ 0 then (if pl > (if wr ≠ 0 ∧ lo > hi then pl else hi) then pl else (if wr ≠ 0 ∧ lo > hi then pl else hi)) else hi) := fun x hx => by
  rw [look_put] at hx
  have hx2 : x = pl ∧ wr ≠ 0 ∨ lo ≤ x ∧ x ≤ hi := by
    by_cases e : x = pl
    · rw [if_pos e] at hx; exact .inl ⟨e, hx⟩
    · rw [if_neg e] at hx; exact .inr (h x hx)
  clear hx h
  by_cases hw : wr ≠ 0
  · by_cases hl : lo > hi
    · simp only [if_pos hw, if_pos (And.intro hw hl)]
      constructor <;> (repeat' split) <;> omega
    · simp only [if_pos hw, if_neg (fun z : wr ≠ 0 ∧ lo > hi => hl z.2)]
      constructor <;> (repeat' split) <;> omega
  · simp only [if_neg hw]
    omega
theorem wd_lo {t : Tp} {lo hi : Int} (h : Wd t lo hi) (h0 : look t lo = 0) : Wd t (lo + 1) hi := fun x hx => by
  have := h x hx
  have : x ≠ lo := fun e => hx (e ▸ h0)
  omega
theorem wd_hi {t : Tp} {lo hi : Int} (h : Wd t lo hi) (h0 : look t hi = 0) : Wd t lo (hi - 1) := fun x hx => by
  have := h x hx
  have : x ≠ hi := fun e => hx (e ▸ h0)
  omega
theorem wd_tg {t : Tp} {lo hi : Int} (h : Wd t lo hi) (h1 : lo > hi ∨ look t lo ≠ 0) (h2 : lo > hi ∨ look t hi ≠ 0) : Tg t lo hi := by
  by_cases hl : lo > hi
  · exact .inl ⟨hl, fun x => Classical.byContradiction fun q => by have := h x q; omega⟩
  · exact .inr ⟨by omega, h1.resolve_left hl, h2.resolve_left hl, h⟩
theorem tg_start {n S Y : Int} {st pl f : Int} {xs : List Int} (h : OkZ n S Y (st, pl, f, xs)) : Tg (rawT 0 f xs) f (f + xs.length - 1) := by
  cases xs with
  | nil => exact .inl ⟨by show f > f + 0 - 1; omega, fun x => rfl⟩
  | cons y ys =>
    refine .inr ⟨by rw [List.length_cons]; omega, ?_, ?_, fun x hx => Classical.byContradiction fun q => hx (raw_out (by rw [List.length_cons] at q ⊢; omega))⟩
    · have q := raw_at0 (f := f) (xs := y :: ys) (j := 0) (x := y) rfl
      rw [show f + ((0 : Nat) : Int) = f by omega] at q
      rw [q]
      exact h.hd y rfl
    · obtain ⟨z, hz⟩ : ∃ z, (y :: ys)[ys.length]? = some z := ⟨(y :: ys)[ys.length]'(by simp), List.getElem?_eq_getElem _⟩
      have q := raw_at0 (f := f) (xs := y :: ys) (j := ys.length) (x := z) hz
      rw [show f + ((y :: ys).length : Int) - 1 = f + (ys.length : Nat) by rw [List.length_cons]; omega, q]
      exact h.lst z (by rw [List.getLast?_eq_getElem?]; simpa using hz)
/-! a run followed -/
def fol (m : Mach) : Nat → WS → Bool × Nat × WS
  | 0, s => (false, 0, s)
  | n + 1, s => if s.1 = -1 then (false, 0, s) else if bigCfg (endW (takeT m s)) = true then (true, 1, takeT m s) else ((fol m n (takeT m s)).1, (fol m n (takeT m s)).2.1 + 1, (fol m n (takeT m s)).2.2)
theorem fol_stop {m : Mach} {n : Nat} {s : WS} (h : n = 0 ∨ s.1 = -1) : fol m n s = (false, 0, s) := by
  cases n with
  | zero => rfl
  | succ n =>
    rcases h with z | z
    · cases z
    · unfold fol; rw [if_pos z]
theorem fol_hit {m : Mach} {n : Nat} {s : WS} (h : s.1 ≠ -1) (hb : bigCfg (endW (takeT m s)) = true) : fol m (n + 1) s = (true, 1, takeT m s) := by
  conv => lhs; unfold fol
  rw [if_neg h, if_pos hb]
theorem fol_go {m : Mach} {n : Nat} {s : WS} (h : s.1 ≠ -1) (hb : bigCfg (endW (takeT m s)) = false) : fol m (n + 1) s = ((fol m n (takeT m s)).1, (fol m n (takeT m s)).2.1 + 1, (fol m n (takeT m s)).2.2) := by
  conv => lhs; unfold fol
  rw [if_neg h, if_neg (by rw [hb]; decide)]
theorem fol_big {m : Mach} : ∀ {n : Nat} {s : WS}, (fol m n s).1 = bigRun m n s
  | 0, _ => rfl
  | n + 1, s => by
    by_cases e : s.1 = -1
    · rw [fol_stop (.inr e)]; unfold bigRun; rw [if_pos e]
    · unfold bigRun
      rw [if_neg e]
      cases hb : bigCfg (endW (takeT m s)) with
      | true => rw [fol_hit e hb, Bool.true_or]
      | false => rw [fol_go e hb, Bool.false_or]; exact fol_big
theorem fol_run {m : Mach} : ∀ {n : Nat} {s : WS}, (fol m n s).1 = false → (fol m n s).2 = runT m n s
  | 0, _, _ => rfl
  | n + 1, s, h => by
    by_cases e : s.1 = -1
    · rw [fol_stop (.inr e), run_stop2 (.inr e)]
    · cases hb : bigCfg (endW (takeT m s)) with
      | true => rw [fol_hit e hb] at h; cases h
      | false =>
        rw [fol_go e hb] at h ⊢
        rw [run_stepS e, ← fol_run (n := n) h]
theorem fol_end {m : Mach} : ∀ {n : Nat} {s : WS}, (fol m n s).1 = false → bigCfg (endW s) = false → bigCfg (endW (runT m n s).2) = false
  | 0, _, _, h0 => h0
  | n + 1, s, h, h0 => by
    by_cases e : s.1 = -1
    · rw [run_stop2 (.inr e)]; exact h0
    · cases hb : bigCfg (endW (takeT m s)) with
      | true => rw [fol_hit e hb] at h; cases h
      | false =>
        rw [fol_go e hb] at h
        rw [run_stepS e]
        exact fol_end (n := n) h hb
/-- just before -/
theorem fol_near {m : Mach} : ∀ {n : Nat} {s : WS}, (fol m n s).1 = true → ∃ k, (fol m n s).2.1 = k + 1 ∧ k < n ∧ (fol m k s).1 = false ∧ (runT m k s).1 = k ∧ (runT m k s).2.1 ≠ -1 ∧ bigCfg (endW (takeT m (runT m k s).2)) = true
  | 0, _, h => by cases h
  | n + 1, s, h => by
    by_cases e : s.1 = -1
    · rw [fol_stop (.inr e)] at h; cases h
    · cases hb : bigCfg (endW (takeT m s)) with
      | true => exact ⟨0, by rw [fol_hit e hb], Nat.succ_pos _, rfl, rfl, e, hb⟩
      | false =>
        rw [fol_go e hb] at h
        obtain ⟨k, h1, h2, h3, h4, h5, h6⟩ := fol_near (n := n) h
        refine ⟨k + 1, by rw [fol_go e hb]; exact congrArg (· + 1) h1, by omega, by rw [fol_go e hb]; exact h3, ?_, ?_, ?_⟩
        · rw [run_stepS e]; exact congrArg (· + 1) h4
        · rw [run_stepS e]; exact h5
        · rw [run_stepS e]; exact h6
theorem big_cfg {c : Cfg} (h : bigCfg c = false) : -1000000000 ≤ c.2.1 ∧ c.2.1 ≤ 1000000000 ∧ -1000000000 ≤ c.2.2.1 ∧ c.2.2.1 ≤ 1000000000 ∧ c.2.2.2.length ≤ 10000 := by
  unfold bigCfg bigB at h
  simp only [Bool.or_eq_false_iff, decide_eq_false_iff_not] at h
  obtain ⟨h1, h2, h3⟩ := h
  refine ⟨?_, ?_, ?_, ?_, by omega⟩ <;> (first | (split at h1 <;> omega) | (split at h2 <;> omega))
theorem okZ_CfgB {n S Y : Int} {c : Cfg} (h : OkZ n S Y c) (hb : bigCfg c = false) : CfgB S Y c := by
  obtain ⟨h1, h2, h3, h4, h5⟩ := big_cfg hb
  exact ⟨h.s0, h.s1, by omega, by omega, by omega, h.sym⟩
end K
namespace K
open PySem PySem.Spec PyProof.Rows L2 T
theorem bigE_b {pl lo hi : Int} (h : bigE pl lo hi = false) (hl : lo ≤ hi) : -1000000000 ≤ lo ∧ lo ≤ 1000000000 ∧ hi - lo ≤ 9999 := by
  unfold bigE at h
  rw [decide_eq_true hl, Bool.true_and] at h
  simp only [Bool.or_eq_false_iff, decide_eq_false_iff_not] at h
  obtain ⟨_, h2, h3⟩ := h
  refine ⟨?_, ?_, by omega⟩ <;> split at h3 <;> omega
structure OkF (S Y st : Int) (t : Tp) (j : Nat) : Prop where
  s0 : -1 ≤ st
  s1 : st < S
  sym : ∀ x, 0 ≤ look t x ∧ look t x < Y
  len : t.length ≤ 10000 + j
def OkV (S Y : Int) (c : Cfg) : Prop := OkZ 2000000000 S Y c ∧ bigCfg c = false
theorem okF_0 {S Y : Int} {c : Cfg} (h : OkV S Y c) (hY : 0 < Y) : OkF S Y c.1 (rawT 0 c.2.2.1 c.2.2.2) 0 := ⟨h.1.s0, h.1.s1, (okS_init h.1 hY).sym, by rw [raw_len]; have := (big_cfg h.2).2.2.2.2; omega⟩
theorem okF_take {m : Mach} {S Y st pl : Int} {t : Tp} {j : Nat} (h : OkF S Y st t j) (hm : OkMach m S Y) (hs : st ≠ -1) : OkF S Y (takeT m (st, pl, t)).1 (takeT m (st, pl, t)).2.2 (j + 1) := by
  have b0 := h.s0
  obtain ⟨_, hr2, hr3⟩ := rowAt hm (st := st) (by omega) h.s1
  have hr := (ruleAt_ok hr2 hm hr3 (h.sym pl).1 (h.sym pl).2).2
  unfold takeT
  dsimp only
  generalize ruleAt m st (look t pl) = r at hr ⊢
  refine ⟨hr.s0, hr.s1, fun x => ?_, by have := putI_len (t := t) (x := pl) (v := r.1); have := h.len; omega⟩
  rw [look_put]
  split
  · exact ⟨hr.w0, hr.w1⟩
  · exact h.sym x
def dueD (r : Bool × Nat × WS) : PyData := if r.1 = true then .none else cfgD (endW r.2.2)
def sp_follow : SpT := fun cs O R _ => ∃ m S Y c n, cs = [.d (machD m), .d (cfgD c), .d (.int ((n : Nat) : Int))] ∧ OkMach m S Y ∧ OkV S Y c ∧ n ≤ 1000 ∧ R (.d (.tuple [dueD (fol m n (startC c)), .int (((fol m n (startC c)).2.1 : Nat) : Int)])) O
def sp_stepG (CL : Addr) : SpT := fun cs O R RX => ∃ m S Y c, cs = [.d (machD m), .d (cfgD c)] ∧ OkMach m S Y ∧ CfgB S Y c ∧ c.1 ≠ -1 ∧ (bigRun m 1 (startC c) = true → RX (.ref CL) O) ∧ (bigRun m 1 (startC c) = false → R (.d (cfgD (endW (runT m 1 (startC c)).2))) O)
def sp_given9 : SpT := fun cs O R _ => ∃ d, cs = [.d d] ∧ (∃ c, d = cfgD c ∨ ∃ i, d = .tuple [cfgD c, .int i]) ∧ R (.d d) O
theorem given9 {i : Int} {c : Cfg} : ((([PyData.tuple [.str "refused"], .tuple [.str "large"], .tuple [.str "wide"]] : List PyData).any fun z => PyData.eqv z (.tuple ([cfgD c, .int i].take (1 : Int).toNat)))) = false := rfl
def sp_told9 : SpT := fun cs O R _ => ∃ m S Y c n, cs = [.d (machD m), .d (cfgD c), .d (.int ((n : Nat) : Int))] ∧ OkMach m S Y ∧ CfgB S Y c ∧ (bigRun m n (startC c) = true → R (.d .none) O) ∧ (bigRun m n (startC c) = false → R (.d (.tuple [cfgD (endW (runT m n (startC c)).2), .int (((runT m n (startC c)).1 : Nat) : Int)])) O)
def sp_stepped9 : SpT := fun cs O R _ => ∃ m S Y c, cs = [.d (machD m), .d (cfgD c)] ∧ OkMach m S Y ∧ CfgB S Y c ∧ c.1 ≠ -1 ∧ (bigRun m 1 (startC c) = true → R (.d .none) O) ∧ (bigRun m 1 (startC c) = false → R (.d (cfgD (endW (runT m 1 (startC c)).2))) O)
def sp_value9 : SpT := fun cs O R _ => ∃ k u m S Y, cs = [.o k, .d (machD m)] ∧ O[k]? = some u ∧ IsStrm u ∧ OkMach m S Y ∧ ∀ c u', OkV S Y c → IsStrm u' → R (.d (cfgD c)) (O.set k u')
section
variable {m : Mach} {S Y i : Int} {c : Cfg} {O : Sto} {R : C → Sto → Prop} {RX : Value → Sto → Prop}
theorem value9_use {k : Nat} {u : Ob} (h1 : O[k]? = some u) (h2 : IsStrm u) (h3 : OkMach m S Y) (h4 : ∀ c u', OkV S Y c → IsStrm u' → R (.d (cfgD c)) (O.set k u')) : sp_value9 [.o k, .d (machD m)] O R RX := ⟨_, _, _, _, _, rfl, h1, h2, h3, h4⟩
theorem follow_use (hm : OkMach m S Y) (ok : OkV S Y c) (h0 : 0 ≤ i) (h1 : i ≤ 1000) (h : R (.d (.tuple [dueD (fol m i.toNat (startC c)), .int (((fol m i.toNat (startC c)).2.1 : Nat) : Int)])) O) : sp_follow [.d (machD m), .d (cfgD c), .d (.int i)] O R RX := ⟨m, S, Y, c, i.toNat, by rw [Int.toNat_of_nonneg h0], hm, ok, by omega, h⟩
/-- k steps that nothing stops -/
theorem follow_k {k : Nat} (hm : OkMach m S Y) (ok : OkV S Y c) (hk : k ≤ 1000) (ei : i = (k : Int)) (hf : (fol m k (startC c)).1 = false) (h : R (.d (.tuple [cfgD (endW (runT m k (startC c)).2), .int (((runT m k (startC c)).1 : Nat) : Int)])) O) : sp_follow [.d (machD m), .d (cfgD c), .d (.int i)] O R RX := ⟨m, S, Y, c, k, by rw [ei], hm, ok, hk, by
  unfold dueD
  rw [if_neg (by rw [hf]; decide), fol_run hf]
  exact h⟩
theorem told_big (hm : OkMach m S Y) (ok : OkV S Y c) (h0 : 0 ≤ i) (hf : (fol m i.toNat (startC c)).1 = true) (h : R (.d .none) O) : sp_told9 [.d (machD m), .d (cfgD c), .d (.int i)] O R RX := ⟨m, S, Y, c, i.toNat, by rw [Int.toNat_of_nonneg h0], hm, okZ_CfgB ok.1 ok.2, fun _ => h, fun e => by rw [← fol_big, hf] at e; cases e⟩
theorem told_k {k : Nat} (hm : OkMach m S Y) (ok : OkV S Y c) (ei : i = (k : Int)) (hf : (fol m k (startC c)).1 = false) (h : R (.d (.tuple [cfgD (endW (runT m k (startC c)).2), .int (((runT m k (startC c)).1 : Nat) : Int)])) O) : sp_told9 [.d (machD m), .d (cfgD c), .d (.int i)] O R RX := ⟨m, S, Y, c, k, by rw [ei], hm, okZ_CfgB ok.1 ok.2, fun e => (by rw [← fol_big, hf] at e; cases e), fun _ => h⟩
theorem told_1 (hm : OkMach m S Y) (ok : OkV S Y c) (hb : bigRun m 1 (startC c) = true) (h : R (.d .none) O) : sp_told9 [.d (machD m), .d (cfgD c), .d (.int 1)] O R RX := ⟨m, S, Y, c, 1, rfl, hm, okZ_CfgB ok.1 ok.2, fun _ => h, fun e => by rw [hb] at e; cases e⟩
theorem stepped_n (hm : OkMach m S Y) (ok : OkV S Y c) (hs : c.1 ≠ -1) (hb : bigRun m 1 (startC c) = true) (h : R (.d .none) O) : sp_stepped9 [.d (machD m), .d (cfgD c)] O R RX := ⟨m, S, Y, c, rfl, hm, okZ_CfgB ok.1 ok.2, hs, fun _ => h, fun e => by rw [hb] at e; cases e⟩
theorem big_one (hs : c.1 ≠ -1) : bigRun m 1 (startC c) = bigCfg (endW (takeT m (startC c))) := by
  unfold bigRun
  rw [if_neg (show ¬ (startC c).1 = -1 from hs)]
  exact Bool.or_false _
theorem stepped_y (hm : OkMach m S Y) (ok : OkV S Y c) (hs : c.1 ≠ -1) (hb : bigCfg (endW (takeT m (startC c))) = false) (h : R (.d (cfgD (endW (takeT m (startC c))))) O) : sp_stepped9 [.d (machD m), .d (cfgD c)] O R RX := ⟨m, S, Y, c, rfl, hm, okZ_CfgB ok.1 ok.2, hs, fun e => (by rw [big_one hs, hb] at e; cases e), fun _ => by rw [run_stepS hs]; exact h⟩
theorem follow_1 (hm : OkMach m S Y) (ok : OkV S Y c) (hs : c.1 ≠ -1) (hb : bigCfg (endW (takeT m (startC c))) = false) (h : R (.d (.tuple [cfgD (endW (takeT m (startC c))), .int 1])) O) : sp_follow [.d (machD m), .d (cfgD c), .d (.int 1)] O R RX := follow_k (k := 1) hm ok (by decide) rfl (by rw [fol_big, big_one hs]; exact hb) (by rw [run_stepS hs]; exact h)
end
theorem okV_end {m : Mach} {S Y : Int} {c : Cfg} {k : Nat} (hm : OkMach m S Y) (ok : OkV S Y c) (hk : k ≤ 1000) (hf : (fol m k (startC c)).1 = false) : OkV S Y (endW (runT m k (startC c)).2) := by
  have hb := fol_end hf (by rw [end_start ok.1]; exact ok.2)
  have z := (okS_run hm (k := k) (okS_init ok.1 (by have := hm.y2; omega))).endZ
  obtain ⟨a1, a2, a3, a4, a5⟩ := big_cfg hb
  exact ⟨⟨z.s0, z.s1, by omega, by omega, fun e => by omega, z.sym, z.nil, z.hd, z.lst⟩, hb⟩
theorem dueD_f {r : Bool × Nat × WS} (h : isN (dueD r) = false) : r.1 = false := by
  unfold dueD at h
  cases e : r.1 with
  | false => rfl
  | true => rw [if_pos e] at h; cases h
theorem dueD_t {r : Bool × Nat × WS} (h : isN (dueD r) = true) : r.1 = true := by
  unfold dueD at h
  cases e : r.1 with
  | true => rfl
  | false => rw [if_neg (by rw [e]; decide)] at h; cases h
theorem dueD_go {r : Bool × Nat × WS} (h : r.1 = false) : dueD r = cfgD (endW r.2.2) := if_neg (by rw [h]; decide)
theorem dueD_no {r : Bool × Nat × WS} (h : r.1 = true) : dueD r = .none := if_pos h
/-- the steps that are looked at again -/
def Rest (m : Mach) (S Y : Int) (n i : Nat) (c : Cfg) : Prop := OkV S Y c ∧ ∃ q, q ≤ 1000 ∧ (fol m q (startC c)).1 = false ∧ (runT m q (startC c)).1 + i = n
theorem rest_go {m : Mach} {S Y : Int} {n i : Nat} {c : Cfg} (hm : OkMach m S Y) (h : Rest m S Y n i c) (hi : i < n) : c.1 ≠ -1 ∧ bigCfg (endW (takeT m (startC c))) = false ∧ Rest m S Y n (i + 1) (endW (takeT m (startC c))) := by
  obtain ⟨ok, q, hq, h1, h2⟩ := h
  have hs : (startC c).1 ≠ -1 := fun e => by rw [run_stop2 (.inr e)] at h2; dsimp only at h2; omega
  cases q with
  | zero => have h2 : 0 + i = n := h2; omega
  | succ q =>
    cases hb : bigCfg (endW (takeT m (startC c))) with
    | true => rw [fol_hit hs hb] at h1; cases h1
    | false =>
      rw [fol_go hs hb] at h1
      rw [run_stepS hs] at h2
      have f1 : (fol m 1 (startC c)).1 = false := by rw [fol_big, big_one hs]; exact hb
      have k1 := okV_end (k := 1) hm ok (by decide) f1
      rw [run_stepS hs] at k1
      have l : Like (startC (endW (takeT m (startC c)))) (takeT m (startC c)) := like_start
      refine ⟨hs, rfl, k1, q, by omega, ?_, ?_⟩
      · rw [fol_big, like_big l, ← fol_big]; exact h1
      · rw [(like_run l).1]
        dsimp only at h2
        omega
theorem menu6 {a0 a1 a2 a3 a4 a5 : Int} {i : Nat} {d : PyData} (h : ([.int a0, .int a1, .int a2, .int a3, .int a4, .int a5] : List PyData)[i]? = some d) : ∃ x, d = .int x ∧ (x = a0 ∨ x = a1 ∨ x = a2 ∨ x = a3 ∨ x = a4 ∨ x = a5) := by
  have := List.mem_of_getElem? h
  simp only [List.mem_cons, List.not_mem_nil, or_false] at this
  rcases this with e | e | e | e | e | e
  · exact ⟨_, e, .inl rfl⟩
  · exact ⟨_, e, .inr (.inl rfl)⟩
  · exact ⟨_, e, .inr (.inr (.inl rfl))⟩
  · exact ⟨_, e, .inr (.inr (.inr (.inl rfl)))⟩
  · exact ⟨_, e, .inr (.inr (.inr (.inr (.inl rfl))))⟩
  · exact ⟨_, e, .inr (.inr (.inr (.inr (.inr rfl))))⟩
theorem okV_ones {S Y st pl : Int} {n : Nat} (hs : 0 ≤ st ∧ st < S) (hp : -1 ≤ pl ∧ pl ≤ 10000) (hn : 1 ≤ n ∧ n ≤ 10000) (hY : 2 ≤ Y) : OkV S Y (st, pl, 0, List.replicate n 1) := by
  refine ⟨⟨by show -1 ≤ st; omega, hs.2, by show -2000000000 ≤ pl; omega, by show pl ≤ 2000000000; omega, fun _ => ?_, fun x hx => ?_, fun e => rfl, fun x hx => ?_, fun x hx => ?_⟩, ?_⟩
  · show -2000000000 ≤ (0 : Int) ∧ (0 : Int) + ((List.replicate n (1 : Int)).length : Int) ≤ 2000000000 + 1
    rw [List.length_replicate]; omega
  · have := List.eq_of_mem_replicate hx; omega
  · have := List.eq_of_mem_replicate (List.mem_of_mem_head? hx); omega
  · have := List.eq_of_mem_replicate (List.mem_of_mem_getLast? hx); omega
  · unfold bigCfg bigB
    dsimp only
    rw [abs_small (b := 10000) (by omega) (by omega) (by decide), List.length_replicate, decide_eq_false (show ¬ ((n : Nat) : Int) > 10000 by omega)]
    rfl
theorem okV_far {S Y st pl f : Int} {xs : List Int} (hs : 0 ≤ st ∧ st < S) (hp : -1000000000 ≤ pl ∧ pl ≤ 1000000000) (hf : -1000000000 ≤ f ∧ f ≤ 1000000000) (h0 : xs = [] → f = 0) (hn : xs.length ≤ 4) (hx : ∀ x ∈ xs, 1 ≤ x ∧ x < Y) : OkV S Y (st, pl, f, xs) := by
  refine ⟨⟨by show -1 ≤ st; omega, hs.2, by show -2000000000 ≤ pl; omega, by show pl ≤ 2000000000; omega, fun _ => ?_, fun x h => by have := hx x h; omega, h0, fun x h => ?_, fun x h => ?_⟩, ?_⟩
  · show -2000000000 ≤ f ∧ f + (xs.length : Int) ≤ 2000000000 + 1
    omega
  · have := hx x (List.mem_of_mem_head? h); omega
  · have := hx x (List.mem_of_mem_getLast? h); omega
  · unfold bigCfg bigB
    dsimp only
    rw [abs_small (b := 1000000000) (by omega) (by omega) (by decide), abs_small (b := 1000000000) (by omega) (by omega) (by decide), decide_eq_false (show ¬ ((xs.length : Nat) : Int) > 10000 by omega)]
    rfl
end K

set_option Elab.async false
set_option linter.all false
set_option maxRecDepth 100000
set_option maxHeartbeats 1000000
/-! T7: dicts whose keys are tuples, as syntax: d[k], k in d, d[k] = v. -/
namespace T
open PySem PySem.Spec PyProof.Rows L2
section
variable {Y : Fam} {a b : Expr} {Γ : Gam} {O : Sto} {R : C → Sto → Prop} {RT : Bool → Sto → Prop} {RG : Gam → Sto → Prop} {E : En} {pos tpos : Pos} {K : PySem.W.Frag} {F H : Hp} {as : List Addr}
/-- a key that is a tuple -/
structure KeyT (ky : NestedKey) (d : PyData) : Prop where
  ok : KeyOk ky
  eq : ky.data = d
  tup : ∃ ds, d = .tuple ds
theorem KeyT.ref {ky : NestedKey} {d : PyData} (h : KeyT ky d) {v : V} (r : Dp K F v d) : ∃ q, v = .ref q ∧ Dp K F (.ref q) ky.data := by
  obtain ⟨ds, e⟩ := h.tup
  have h2 := h.eq
  subst e
  cases r with
  | tup x y => exact ⟨_, rfl, by rw [h2]; exact .tup x y⟩
theorem allK_of {kvs : List (NestedKey × C)} {xs : List (NestedKey × Addr × V)} (e : Same F H) (h : Paired (KxR K F as) kvs xs) : AllK K H xs := fun p hp => by
  induction h with
  | nil => cases hp
  | @cons x y ps qs r _ ih =>
    rcases List.mem_cons.mp hp with z | z
    · subst z
      obtain ⟨e1, e2, e3, _⟩ := r
      rw [← e1]
      exact ⟨e2, dp_same e _ _ e3⟩
    · exact ih z
theorem xe_kget (h : XE Y a Γ O fun c1 O1 => XE Y b Γ O1 fun c2 O2 => ∃ k kvs ky d c, c1 = .o k ∧ O2[k]? = some (.dkt kvs) ∧ c2 = .d d ∧ KeyT ky d ∧ valN kvs ky = some c ∧ R c O2) (hc : Y.cl = true := by rfl) (hs : NoSl b := by exact fun _ _ => rfl) : XE Y (.Subscript a b pos) Γ O R :=
  xe_of (te := tKGet Y.K (wpE Y a) (wpE Y b)) (fun i => by rw [← Y.hK i]; exact pe_kget (rl hc i) (peW i) (peW i) hs) fun F as σ H Q S L tx t => h F as σ H _ S L tx fun F1 as1 c1 v1 O1 H1 g1 S1 r1 h1 =>
    h1 F1 as1 σ H1 _ S1 (L.mono g1) (tx.mono g1) fun F2 as2 c2 v2 O2 H2 g2 S2 r2 ⟨k, kvs, ky, d, cc, e1, hO, e2, hk, hv, h2⟩ => by
      subst e1 e2
      obtain ⟨ad, ha, rfl⟩ := r1.mono g2
      obtain ⟨q, rfl, hd⟩ := hk.ref r2
      obtain ⟨hF, xs, e, rr⟩ := S2.dkt ha hO
      rcases valN_rel rr ky with ⟨c', v', f1, f2, f3⟩ | ⟨f1, f2⟩
      · rw [hv] at f1
        cases f1
        exact ⟨ad, q, xs, ky, v', rfl, rfl, e, allK_of S2.ex rr, hk.ok, dp_same S2.ex _ _ hd, f2, t F2 as2 cc v' O2 H2 (g1.trans g2) S2 f3 h2⟩
      · rw [hv] at f1; cases f1
theorem w2_inN {k : Nat} {ky : NestedKey} {d : PyData} {kvs : List (NestedKey × C)} (hO : O[k]? = some (.dkt kvs)) (hk : KeyT ky d) (r : R (.d (.bool (valN kvs ky).isSome)) O) : W2 K (rInN K) (.d d) (.o k) O R := fun F as H x y Q S rx ry t => by
  obtain ⟨ad, ha, rfl⟩ := ry
  obtain ⟨q, rfl, hd⟩ := hk.ref rx
  obtain ⟨hF, xs, e, rr⟩ := S.dkt ha hO
  have es : (val3 xs ky).isSome = (valN kvs ky).isSome := by
    rcases valN_rel rr ky with ⟨c', v', f1, f2, _⟩ | ⟨f1, f2⟩ <;> rw [f1, f2] <;> rfl
  refine ⟨ad, q, xs, ky, rfl, rfl, e, allK_of S.ex rr, hk.ok, dp_same S.ex _ _ hd, ?_⟩
  rw [es]
  exact t.go S (show CR K F as (.d (.bool _)) _ from .bl _) r
theorem w2_ninN {k : Nat} {ky : NestedKey} {d : PyData} {kvs : List (NestedKey × C)} (hO : O[k]? = some (.dkt kvs)) (hk : KeyT ky d) (r : R (.d (.bool (!(valN kvs ky).isSome))) O) : W2 K (rNinN K) (.d d) (.o k) O R := fun F as H x y Q S rx ry t => by
  obtain ⟨ad, ha, rfl⟩ := ry
  obtain ⟨q, rfl, hd⟩ := hk.ref rx
  obtain ⟨hF, xs, e, rr⟩ := S.dkt ha hO
  have es : (val3 xs ky).isSome = (valN kvs ky).isSome := by
    rcases valN_rel rr ky with ⟨c', v', f1, f2, _⟩ | ⟨f1, f2⟩ <;> rw [f1, f2] <;> rfl
  refine ⟨ad, q, xs, ky, rfl, rfl, e, allK_of S.ex rr, hk.ok, dp_same S.ex _ _ hd, ?_⟩
  rw [es]
  exact t.go S (show CR K F as (.d (.bool _)) _ from .bl _) r
theorem xe_inN (h : XE Y a Γ O fun c1 O1 => XE Y b Γ O1 fun c2 O2 => W2 Y.K (rInN Y.K) c1 c2 O2 R) (hc : Y.cl = true := by rfl) (hm : behindInMarks .In b = false := by rfl) : XE Y (.Compare a [.In] [b] pos) Γ O R := xe_cmp (fun i => by rw [← Y.hK i]; exact op_inN (rl hc i)) hm h
theorem xt_inN (h : XE Y a Γ O fun c1 O1 => XE Y b Γ O1 fun c2 O2 => W2 Y.K (rInN Y.K) c1 c2 O2 (WB RT)) (hc : Y.cl = true := by rfl) (hm : behindInMarks .In b = false := by rfl) : XT Y (.Compare a [.In] [b] pos) Γ O RT := xt_cmp (fun i => by rw [← Y.hK i]; exact op_inN (rl hc i)) hm h
theorem xe_ninN (h : XE Y a Γ O fun c1 O1 => XE Y b Γ O1 fun c2 O2 => W2 Y.K (rNinN Y.K) c1 c2 O2 R) (hc : Y.cl = true := by rfl) (hm : behindInMarks .NotIn b = false := by rfl) : XE Y (.Compare a [.NotIn] [b] pos) Γ O R := xe_cmp (fun i => by rw [← Y.hK i]; exact op_ninN (rl hc i)) hm h
theorem xt_ninN (h : XE Y a Γ O fun c1 O1 => XE Y b Γ O1 fun c2 O2 => W2 Y.K (rNinN Y.K) c1 c2 O2 (WB RT)) (hc : Y.cl = true := by rfl) (hm : behindInMarks .NotIn b = false := by rfl) : XT Y (.Compare a [.NotIn] [b] pos) Γ O RT := xt_cmp (fun i => by rw [← Y.hK i]; exact op_ninN (rl hc i)) hm h
theorem wset_dkt {k : Nat} {ky : NestedKey} {d : PyData} {kvs : List (NestedKey × C)} {g : C} {R : Sto → Prop} (hO : O[k]? = some (.dkt kvs)) (hk : KeyT ky d) (hz : kvs.length < sizeLine) (r : R (O.set k (.dkt (putN kvs ky g)))) : WSet K (rSetN K) (.o k) (.d d) g O R := fun F as H o iv v Q S ro ri rv t => by
  obtain ⟨ad, ha, rfl⟩ := ro
  obtain ⟨q, rfl, hd⟩ := hk.ref ri
  obtain ⟨hF, xs, e, rr⟩ := S.dkt ha hO
  exact ⟨ad, q, xs, ky, rfl, rfl, e, allK_of S.ex rr, hk.ok, dp_same S.ex _ _ hd, by rw [← pr_len rr]; exact hz, t F as _ _ Gr.refl (S.putG ha hF (u1 := .dkt (putN kvs ky g)) ⟨_, rfl, putN_rel rr hk.ok hd rv⟩) r⟩
theorem xg_kset {g : C} (h : XE Y a Γ O fun co O1 => XE Y b Γ O1 fun ci O2 => WSet Y.K (rSetN Y.K) co ci g O2 (RG Γ)) (hc : Y.cl = true := by rfl)
    (ha : ∀ i v, assign (.Subscript a b pos) (Y.X i).env v = (do
      let ov ← holding [v] (eval a (Y.X i).env)
      let iv ← holding [v, ov] (eval b (Y.X i).env)
      standAt pos
      holding [v, ov, iv] (setItem ov iv v)
      release [v, ov, iv] []) := by intro _ _; rfl) : XG Y (.Subscript a b pos) g Γ O RG := xg_sub (r := rSetN Y.K) (fun i => by rw [← Y.hK i]; exact set_keyedN (rl hc i)) h ha
end
/-! {}, to be a dict of such keys -/
theorem fresh_kdict {P : Program} {w : World} {H : Hp} (h : Heap) (hb : sysModules < h.objs.size) : ObjOk P w H (h.push { cls := .type "dict", data := .dict #[] }) h.objs.size (dktO h.objs.size []) :=
  dktO_new ⟨beq_eq_false_iff_ne.mpr fun e => absurd hb (by rw [e]; exact Nat.lt_irrefl _), [], .nil, Nat.zero_le _, _, #[], 0, Heap.get?_push_size _ rfl, ⟨rfl, rfl, rfl⟩, rfl, rfl, List.nodup_nil⟩
def tKNew : TE := fun _ H Q => ∀ p, H p = none → Q (.ref p) (upd H p (dktO p []))
theorem pe_knew {X : Cx} {pos : Pos} : PE X (.Dict [] [] pos) tKNew := ⟨fun pins s σ H Q I h => by
  have I2 := I.laid (a := s.heap.objs.size) (t' := s.toks) (fun _ _ q => Heap.get?_push_of_some _ q) (Nat.le_refl _) (fresh_kdict s.heap I.big)
  exact wpAny_Dict_empty ⟨.ref s.heap.objs.size, _, I2, rfl, h _ (I.hok.fresh (Nat.le_refl _))⟩⟩
theorem xe_knew {Y : Fam} {Γ : Gam} {O : Sto} {R : C → Sto → Prop} {pos : Pos} (r : R (.o O.length) (O ++ [.dkt []])) : XE Y (.Dict [] [] pos) Γ O R :=
  xe_of (fun i => pe_knew) fun F as σ H Q S L tx t => fun p hp => by
    obtain ⟨S2, g2⟩ := S.ownG hp (u0 := .dkt []) (o0 := dktO p []) ⟨[], rfl, .nil⟩
    exact t _ _ (.o O.length) _ _ _ g2 S2 ⟨p, by rw [← S.len]; simp, rfl⟩ r
end T

set_option Elab.async false
set_option linter.all false
set_option maxRecDepth 100000
set_option maxHeartbeats 1000000
/-! T8: [x] * n, a list that is written later. -/
namespace T
open PySem PySem.Spec PyProof.Rows L2
theorem pr_two {α β : Type} {r : α → β → Prop} {b : List α} {d : List β} (h2 : Paired r b d) : ∀ {a : List α} {c : List β}, Paired r a c → Paired r (a ++ b) (c ++ d)
  | _, _, .nil => h2
  | _, _, .cons x t => .cons x (pr_two h2 t)
theorem pr_flat {K : PySem.W.Frag} {F : Hp} {as : List Addr} {cs : List C} {vs : List V} (h : Paired (CR K F as) cs vs) : ∀ n : Nat, Paired (CR K F as) (List.replicate n cs).flatten (List.replicate n vs).flatten
  | 0 => .nil
  | n + 1 => by
    rw [List.replicate_succ, List.replicate_succ, List.flatten_cons, List.flatten_cons]
    exact pr_two (pr_flat h n) h
theorem flat_one {α : Type} {x : α} : ∀ n : Nat, (List.replicate n [x]).flatten = List.replicate n x
  | 0 => rfl
  | n + 1 => by rw [List.replicate_succ, List.flatten_cons, flat_one n]; rfl
theorem w2_mul_lstO {K : PySem.W.Frag} {O : Sto} {R : C → Sto → Prop} {k : Nat} {n : Int} {d : PyData} (hO : O[k]? = some (.lst [.d d])) (h1 : 0 ≤ n) (h2 : n ≤ 100000) (r : R (.o O.length) (O ++ [.lst (List.replicate n.toNat (.d d))])) : W2 K (rTimes K) (.o k) (.d (.int n)) O R := fun F as H x y Q S rx ry t => by
  obtain ⟨a, ha, rfl⟩ := rx
  cases ry
  obtain ⟨_, vs, e1, p1⟩ := S.lst ha hO
  have hl : vs.length = 1 := (pr_len p1).symm
  refine .inr (.inr (.inl ⟨a, n, vs, rfl, rfl, e1, by omega, by omega, ?_, fun p hp => ?_⟩))
  · rw [hl, Nat.one_mul]
    exact Nat.le_trans (m := 100000) (by omega) (by decide)
  · have q := pr_flat p1 n.toNat
    rw [flat_one] at q
    obtain ⟨S2, g2⟩ := S.ownG hp (u0 := .lst (List.replicate n.toNat (.d d))) (o0 := .lst (List.replicate n.toNat vs).flatten) ⟨_, rfl, q⟩
    exact t _ _ (.o O.length) _ _ _ g2 S2 ⟨p, by rw [← S.len]; simp, rfl⟩ r
end T

set_option Elab.async false
set_option linter.all false
set_option maxRecDepth 100000
set_option maxHeartbeats 2000000
namespace K
open PySem PySem.Spec PyProof.Rows L2 T
/-! K11m: the pairs that a run over blanks meets, by a row of 2 n + 1 cells -/
def trP (m : Mach) : Nat → WS → List (Int × Int)
  | 0, _ => []
  | n + 1, s => if s.1 = -1 then [] else (s.1, look s.2.2 s.2.1) :: trP m n (takeT m s)
theorem trP_stop {m : Mach} {n : Nat} {s : WS} (h : n = 0 ∨ s.1 = -1) : trP m n s = [] := by
  cases n with
  | zero => rfl
  | succ n =>
    rcases h with z | z
    · cases z
    · unfold trP; rw [if_pos z]
theorem trP_go {m : Mach} {n : Nat} {s : WS} (h : s.1 ≠ -1) : trP m (n + 1) s = (s.1, look s.2.2 s.2.1) :: trP m n (takeT m s) := by
  conv => lhs; unfold trP
  rw [if_neg h]
theorem trP_len {m : Mach} : ∀ {n : Nat} {s : WS}, (trP m n s).length ≤ n
  | 0, _ => Nat.le_refl _
  | n + 1, s => by
    by_cases e : s.1 = -1
    · rw [trP_stop (.inr e)]; exact Nat.zero_le _
    · rw [trP_go e, List.length_cons]
      exact Nat.succ_le_succ trP_len
def pairD (p : Int × Int) : PyData := .tuple [.int p.1, .int p.2]
/-- the row l holds the tape t, its middle at n -/
structure RowT (n : Nat) (l : List Int) (t : Tp) : Prop where
  len : l.length = 2 * n + 1
  at_ : ∀ i : Nat, i < 2 * n + 1 → l[i]? = some (look t ((i : Int) - n))
theorem rowT_0 {n : Nat} : RowT n (List.replicate (2 * n + 1) 0) [] := ⟨List.length_replicate, fun i hi => by
  rw [List.getElem?_replicate, if_pos hi]
  rfl⟩
theorem rowT_set {n : Nat} {l : List Int} {t : Tp} {p w : Int} (h : RowT n l t) (h0 : 0 ≤ p) (h1 : p ≤ 2 * n) : RowT n (l.set p.toNat w) (putI t (p - n) w) := by
  refine ⟨by rw [List.length_set]; exact h.len, fun i hi => ?_⟩
  rw [look_put]
  by_cases e : i = p.toNat
  · subst e
    rw [List.getElem?_set_self (by rw [h.len]; omega), if_pos (by omega)]
  · rw [List.getElem?_set_ne (Ne.symm e), h.at_ i hi, if_neg (by omega)]
theorem rowT_get {n : Nat} {l : List Int} {t : Tp} {p : Int} (h : RowT n l t) (h0 : 0 ≤ p) (h1 : p ≤ 2 * n) : l[p.toNat]? = some (look t (p - n)) := by
  rw [h.at_ p.toNat (by omega), show ((p.toNat : Nat) : Int) - n = p - n by omega]
theorem app_2 {O E : Sto} {A B D : Ob} : (O ++ A :: B :: D :: E)[O.length + 2]? = some D := by simp
theorem app_set2 {O E : Sto} {A B D G : Ob} : (O ++ A :: B :: D :: E).set (O.length + 2) G = O ++ A :: B :: G :: E := by simp
def sp_trace : SpT := fun cs O R _ => ∃ m S Y n, cs = [.d (machD m), .d (.int ((n : Nat) : Int))] ∧ OkMach m S Y ∧ n ≤ 2000 ∧ R (.d (.list ((trP m n (0, 0, [])).map pairD))) O
theorem okS_zero {S Y : Int} (hS : 1 ≤ S) (hY : 2 ≤ Y) : OkS 0 S Y (0, 0, []) := ⟨by show (-1 : Int) ≤ 0; decide, by show (0 : Int) < S; omega, Int.le_refl _, Int.le_refl _, fun x hx => absurd rfl hx, fun x => ⟨Int.le_refl _, by show (0 : Int) < Y; omega⟩⟩
theorem zeros {n : Nat} : List.replicate (2 * (n : Int) + 1).toNat (C.d (PyData.int 0)) = ((List.replicate (2 * n + 1) (0 : Int)).map PyData.int).map C.d := by
  rw [List.map_replicate, List.map_replicate, show (2 * (n : Int) + 1).toNat = 2 * n + 1 by omega]
/-- where a run goes -/
def viP (m : Mach) : Nat → WS → List (Int × Int)
  | 0, _ => []
  | n + 1, s => if s.1 = -1 then [] else ((takeT m s).2.1, (takeT m s).1) :: viP m n (takeT m s)
theorem viP_go {m : Mach} {n : Nat} {s : WS} (h : s.1 ≠ -1) : viP m (n + 1) s = ((takeT m s).2.1, (takeT m s).1) :: viP m n (takeT m s) := by
  conv => lhs; unfold viP
  rw [if_neg h]
theorem viP_nil {m : Mach} {n : Nat} {s : WS} (h : trP m n s = []) : viP m n s = [] := by
  cases n with
  | zero => rfl
  | succ n =>
    by_cases e : s.1 = -1
    · unfold viP; rw [if_pos e]
    · rw [trP_go e] at h; cases h
theorem viP_len {m : Mach} : ∀ {n : Nat} {s : WS}, (viP m n s).length ≤ n
  | 0, _ => Nat.le_refl _
  | n + 1, s => by
    by_cases e : s.1 = -1
    · unfold viP; rw [if_pos e]; exact Nat.zero_le _
    · rw [viP_go e, List.length_cons]
      exact Nat.succ_le_succ viP_len
theorem drop_at {α : Type} : ∀ {l : List α} {i : Nat} {p : α}, l[i]? = some p → l.drop i = p :: l.drop (i + 1)
  | [], _, _, h => by simp at h
  | a :: l, 0, p, h => by
    have : a = p := by simpa using h
    subst this
    rfl
  | a :: l, i + 1, p, h => by
    rw [List.drop_succ_cons, List.drop_succ_cons]
    exact drop_at (by simpa using h)
theorem trP_cons {m : Mach} {q : Nat} {w : WS} {p : Int × Int} {r : List (Int × Int)} (h : trP m q w = p :: r) : ∃ q', q = q' + 1 ∧ w.1 ≠ -1 ∧ p = (w.1, look w.2.2 w.2.1) ∧ r = trP m q' (takeT m w) := by
  cases q with
  | zero => cases h
  | succ q =>
    by_cases e : w.1 = -1
    · rw [trP_stop (.inr e)] at h; cases h
    · rw [trP_go e] at h
      injection h with h1 h2
      exact ⟨q, rfl, e, h1.symm, h2.symm⟩
def sp_visits : SpT := fun cs O R _ => ∃ m S Y n, cs = [.d (machD m), .d (.int ((n : Nat) : Int))] ∧ OkMach m S Y ∧ n ≤ 2000 ∧ R (.d (.list (((0, 0) :: viP m n (0, 0, [])).map pairD))) O
def fstD : PyData → PyData
  | .tuple (a :: _) => a
  | _ => .none
theorem fst_ints {l : List (Int × Int)} : (l.map pairD).map fstD = (l.map (·.1)).map PyData.int := by
  rw [List.map_map, List.map_map]
  rfl
theorem clOb_data {n : Nat} {ds : List PyData} : clOb n (.lst (ds.map C.d)) := fun c hc => by
  obtain ⟨d, _, rfl⟩ := List.mem_map.mp hc
  trivial
def plL (m : Mach) (n : Nat) : List Int := ((0, 0) :: viP m n (0, 0, [])).map (·.1)
def sp_places : SpT := fun cs O R _ => ∃ m S Y n, cs = [.d (machD m), .d (.int ((n : Nat) : Int))] ∧ OkMach m S Y ∧ n ≤ 2000 ∧ R (.o O.length) (O ++ [.lst (((plL m n).map PyData.int).map C.d)])
end K

set_option Elab.async false
set_option linter.all false
set_option maxRecDepth 100000
set_option maxHeartbeats 1000000
/-! T9: a pair put into a dict of tuple keys by a comprehension. -/
namespace T
open PySem PySem.Spec PyProof.Rows L2
section
variable {X : Cx} {pins : List (Addr × Obj)} {σ : L2.St} {H : Hp} {s : Shared}
theorem k_dictSet {E : Value → Shared → Prop} {a b : Addr} {xs : List (NestedKey × Addr × V)} {k : NestedKey} {v : V} {u : Value} {Q : Unit → Shared → Prop} (hu : X.A.units + 64 < cLine) (I : L2.Inv X pins σ H s) (e : H a = some (dktO a xs)) (hk : AllK X.K H xs) (ok : KeyOk k) (hd : Dp X.K H (.ref b) k.data) (hz : xs.length < sizeLine) (rv : RelV v u)
    (h : ∀ s', L2.Inv X pins σ (upd H a (dktO a (put3 xs k b v))) s' → Q () s') : wpAny (model X.prog X.w) X.A (dictSet a (.ref b) u) Q E s := by
  obtain ⟨ys, py, dof, hsys, hz2⟩ := dkt_heap I e hk
  have hlen : ys.length = xs.length := (pr_len py).symm
  refine wpAny_dictSet_heap (knd := nestedKind X.prog X.w) (hsz := by omega) (by show X.A.units + 8 < cLine; omega) (kis (nested_is I k _ _ hd rfl) ok.d) dof fun h' hm' hs => ?_
  have all : ∀ p ∈ put3 xs k b v, textless p.1 = true := fun p hp => by
    unfold put3 at hp
    split at hp
    · obtain ⟨q, hq, rfl⟩ := List.mem_map.mp hp
      split <;> exact (hk q hq).1.t
    · rcases List.mem_append.mp hp with z | z
      · exact (hk p z).1.t
      · have : p = (k, b, v) := by simpa using z
        subst this; exact ok.t
  have ky : ∀ {l1 : List (NestedKey × Addr × V)} {l2 : List (NestedKey × Addr × Value)}, Paired YR l1 l2 → (∀ p ∈ l1, textless p.1 = true) → ∀ y ∈ l2, textless y.1 = true := by
    intro l1 l2 p3
    induction p3 with
    | nil => intro _ y hy; cases hy
    | cons r _ ih =>
      intro fk y hy
      rcases List.mem_cons.mp hy with z | z
      · subst z; rw [← r.1]; exact fk _ (by simp)
      · exact ih (fun p hp => fk p (List.mem_cons_of_mem _ hp)) y z
  have p3 := put_rel3 (k := k) (b := b) py rv
  obtain ⟨o', es', ep', ho', hx', hd', he', hh', hn'⟩ := hm'
  have hp : dktP hash0 a (put3 xs k b v) h' := by
    refine ⟨hsys, _, p3, ?_, o', es', ep', ho', hx', hd', ?_, hn'⟩
    · unfold put3
      split
      · rw [List.length_map]; omega
      · rw [List.length_append, List.length_singleton]; omega
    · rw [he']
      refine List.map_congr_left fun y hy => ?_
      show (⟨NestedKey.hash X.w y.1, .ref y.2.1, y.2.2⟩ : DictEntry) = ⟨hash0 y.1, .ref y.2.1, y.2.2⟩
      rw [hash_eq X.w y.1 (ky p3 all y hy)]
  exact h _ (I.write (t' := _) (by rw [e]; trivial) (.inl rfl) (fun b' u' hb hu' => (hs.2 b' hb).trans hu') ⟨o', ho'⟩ (dktO_new hp))
end
end T

set_option Elab.async false
set_option linter.all false
set_option maxRecDepth 100000
set_option maxHeartbeats 1000000
/-! Ua: what an owned list is worth as data; calls with keywords; not in. -/
namespace T
open PySem PySem.Spec PyProof.Rows L2
mutual
/-- c is worth d, as the store stands -/
inductive Vw (O : Sto) : C → PyData → Prop
  | d (x : PyData) : Vw O (.d x) x
  | o {k : Nat} {cs : List C} {ds : List PyData} : O[k]? = some (.lst cs) → VwAll O cs ds → Vw O (.o k) (.list ds)
inductive VwAll (O : Sto) : List C → List PyData → Prop
  | nil : VwAll O [] []
  | cons {c : C} {d : PyData} {cs : List C} {ds : List PyData} : Vw O c d → VwAll O cs ds → VwAll O (c :: cs) (d :: ds)
end
theorem vw_map {O : Sto} : ∀ {ds : List PyData}, VwAll O (ds.map C.d) ds
  | [] => .nil
  | x :: _ => .cons (.d x) vw_map
theorem vw_own {O : Sto} {k : Nat} {ds : List PyData} (h : O[k]? = some (.lst (ds.map C.d))) : Vw O (.o k) (.list ds) := .o h vw_map
section
variable {K : PySem.W.Frag} {F H : Hp} {as : List Addr} {O : Sto}
mutual
theorem vw_dp (S : Sat K F H as O) : ∀ {c : C} {d : PyData} {v : V}, Vw O c d → CR K F as c v → Dp K H v d
  | _, _, _, .d x, r => dp_same S.ex x _ r
  | _, _, _, .o hO ha, r => by
    obtain ⟨a, h2, rfl⟩ := r
    obtain ⟨_, vs, e, p⟩ := S.lst h2 hO
    exact .lst (.inl (.inl e)) (vw_dps S ha p)
theorem vw_dps (S : Sat K F H as O) : ∀ {cs : List C} {ds : List PyData} {vs : List V}, VwAll O cs ds → Paired (CR K F as) cs vs → DpAll K H vs ds
  | _, _, _, .nil, .nil => .nil
  | _, _, _, .cons h t, .cons r q => .cons (vw_dp S h r) (vw_dps S t q)
end
variable {R : C → Sto → Prop}
theorem w2_eq_v {c1 c2 : C} {d e : PyData} (v1 : Vw O c1 d) (v2 : Vw O c2 e) (h1 : SeqAt.shaped d = true) (h2 : SeqAt.shaped e = true) (r : R (.d (.bool (PyData.eqv d e))) O) : W2 K (rEqq K) c1 c2 O R :=
  fun F as H x y Q S rx ry t => .inr ⟨d, e, vw_dp S v1 rx, vw_dp S v2 ry, h1, h2, t.go S (show CR K F as (.d (.bool _)) _ from .bl _) r⟩
theorem w2_ne_v {c1 c2 : C} {d e : PyData} (v1 : Vw O c1 d) (v2 : Vw O c2 e) (h1 : SeqAt.shaped d = true) (h2 : SeqAt.shaped e = true) (r : R (.d (.bool (!PyData.eqv d e))) O) : W2 K (rNeq K) c1 c2 O R :=
  fun F as H x y Q S rx ry t => .inr ⟨d, e, vw_dp S v1 rx, vw_dp S v2 ry, h1, h2, t.go S (show CR K F as (.d (.bool _)) _ from .bl _) r⟩
theorem w2_in_v {c1 c2 : C} {d : PyData} {ds : List PyData} (v1 : Vw O c1 d) (v2 : Vw O c2 (.list ds)) (h1 : SeqAt.shaped d = true) (h2 : SeqAt.shaped (.list ds) = true) (r : R (.d (.bool (ds.any fun z => PyData.eqv z d))) O) : W2 K (rInn K) c1 c2 O R :=
  fun F as H x y Q S rx ry t => .inr ⟨d, ds, vw_dp S v1 rx, vw_dp S v2 ry, h1, h2, t.go S (show CR K F as (.d (.bool _)) _ from .bl _) r⟩
/-- not in -/
def rNinT (K : PySem.W.Frag) : R2 := fun xv yv HH QQ => ∃ dd tt, Dp K HH xv dd ∧ Dp K HH yv (.tuple tt) ∧ SeqAt.shaped dd = true ∧ SeqAt.shaped (.tuple tt) = true ∧ QQ (.bl (!tt.any fun z => PyData.eqv z dd)) HH
theorem op_ninT {X : Cx} (hroom : X.A.units + 65 < cLine) : OpR X (compareOp .NotIn) (rNinT X.K) := by
  intro pp st ss HH xv yv v1 v2 QQ II ra rb ⟨dd, tt, ha, hb, sa, sb, qq⟩
  obtain ⟨as1, q1⟩ := Dp.reads II dd xv v1 ha ra
  obtain ⟨as2, q2⟩ := Dp.reads II (.tuple tt) yv v2 hb rb
  exact SeqAt.notIn_tuple_reads q2 q1 (SeqAt.canLay_of_shaped sb) (SeqAt.canLay_of_shaped sa) (room_in_shaped sa hroom) ⟨.bl _, HH, II, rfl, qq⟩
def rNinn (K : PySem.W.Frag) : R2 := fun x y H Q => rNinT K x y H Q ∨ rNotInD K x y H Q
theorem w2_nin_v {c1 c2 : C} {d : PyData} {ds : List PyData} (v1 : Vw O c1 d) (v2 : Vw O c2 (.list ds)) (h1 : SeqAt.shaped d = true) (h2 : SeqAt.shaped (.list ds) = true) (r : R (.d (.bool (!ds.any fun z => PyData.eqv z d))) O) : W2 K (rNinn K) c1 c2 O R :=
  fun F as H x y Q S rx ry t => .inr ⟨d, ds, vw_dp S v1 rx, vw_dp S v2 ry, h1, h2, t.go S (show CR K F as (.d (.bool _)) _ from .bl _) r⟩
theorem w2_nin_tup {d : PyData} {ts : List PyData} (h1 : SeqAt.shaped d = true) (h2 : SeqAt.shaped (.tuple ts) = true) (r : R (.d (.bool (!ts.any fun z => PyData.eqv z d))) O) : W2 K (rNinn K) (.d d) (.d (.tuple ts)) O R :=
  fun F as H x y Q S rx ry t => .inl ⟨d, ts, dp_same S.ex _ _ rx, dp_same S.ex _ _ ry, h1, h2, t.go S (show CR K F as (.d (.bool _)) _ from .bl _) r⟩
end
section
variable {Y : Fam} {a b e : Expr} {es : List Expr} {kws : List Keyword} {Γ : Gam} {O : Sto} {R : C → Sto → Prop} {RT : Bool → Sto → Prop} {RA : List C → Sto → Prop} {p pos : Pos} {x : Str}
theorem xe_nin (h : XE Y a Γ O fun c1 O1 => XE Y b Γ O1 fun c2 O2 => W2 Y.K (rNinn Y.K) c1 c2 O2 R) (hc : Y.cl = true := by rfl) (hm : behindInMarks .NotIn b = false := by rfl) : XE Y (.Compare a [.NotIn] [b] pos) Γ O R :=
  xe_cmp (fun i => by rw [← Y.hK i]; exact opor (op_ninT (rl1 hc i)) (op_notInD (rl1 hc i))) hm h
theorem xt_nin (h : XE Y a Γ O fun c1 O1 => XE Y b Γ O1 fun c2 O2 => W2 Y.K (rNinn Y.K) c1 c2 O2 (WB RT)) (hc : Y.cl = true := by rfl) (hm : behindInMarks .NotIn b = false := by rfl) : XT Y (.Compare a [.NotIn] [b] pos) Γ O RT :=
  xt_cmp (fun i => by rw [← Y.hK i]; exact opor (op_ninT (rl1 hc i)) (op_notInD (rl1 hc i))) hm h
/-! ### keywords -/
def wpK (Y : Fam) (kws : List Keyword) : TA := fun σ H Q => ∀ i pos pins s, Inv (Y.X i) pins σ H s → wpAny (model (Y.X i).prog (Y.X i).w) (Y.X i).A (evalAll ((backToKw pos (keywordEach kws (Y.X i).env)).map (·.2))) (AP (Y.X i) pins σ Q) (Y.X i).xe s
theorem pkW (i : Y.ι) : PK (Y.X i) kws (wpK Y kws) := ⟨fun pos pins s σ H Q I h => h i pos pins s I⟩
def XKw (Y : Fam) (kws : List Keyword) (Γ : Gam) (O : Sto) (R : List C → Sto → Prop) : Prop := Wa Y (wpK Y kws) Γ O R
theorem xk_of {te : TA} (h : ∀ i, PK (Y.X i) kws te) (w : Wa Y te Γ O RA) : XKw Y kws Γ O RA := fun F as σ H Q S L tx t => fun i pos pins s I => (h i).run pos pins s σ H Q I (w F as σ H Q S L tx t)
theorem xk_nil (r : RA [] O) : XKw Y [] Γ O RA := xk_of (fun _ => pk_nil) fun F as σ H Q S L tx t => t.go S .nil r
theorem xk_cons {nm : Option Str} {kpos : Pos} (h : XE Y e Γ O fun c1 O1 => XKw Y kws Γ O1 fun cs O2 => RA (c1 :: cs) O2) : XKw Y (⟨nm, e, kpos⟩ :: kws) Γ O RA :=
  xk_of (fun i => pk_cons (peW i) (pkW i)) fun F as σ H Q S L tx t => h F as σ H _ S L tx fun F1 as1 c1 v1 O1 H1 g1 S1 r1 h1 =>
    h1 F1 as1 σ H1 _ S1 (L.mono g1) (tx.mono g1) fun F2 as2 cs vs O2 H2 g2 S2 r2 h2 => t F2 as2 (c1 :: cs) (v1 :: vs) O2 H2 (g1.trans g2) S2 (.cons (r1.mono g2) r2) h2
/-- a def of the module, called with n values and keywords ks, in the parameters' order -/
structure FnK (P : Program) (w : World) (K : PySem.W.Frag) (mg : Str → Option Value) (base : Heap) (lev : Nat) (x : Str) (n : Nat) (ks : List Str) (sp : SpT) : Prop where
  ex : ∃ (f : Addr) (fd : FuncData) (ps : List Str) (k : Nat), k ≤ lev ∧ FnOk P w K mg base (L2.CX P w) k f fd ps (spOf K sp) ∧ mg x = some (.ref f) ∧ PySem.W.keepIn K (.ref f) = true ∧ KBn K fd ps n ks (fun us ws => us ++ ws) (fun vs zs => vs ++ zs)
theorem FnK.up {P w K mg base j k x n ks sp} (G : FnK P w K mg base j x n ks sp) (h : j ≤ k) : FnK P w K mg base k x n ks sp := by
  obtain ⟨f, fd, ps, i, hi, r⟩ := G.ex
  exact ⟨f, fd, ps, i, Nat.le_trans hi h, r⟩
theorem pr_append {K : PySem.W.Frag} {F : Hp} {as : List Addr} : ∀ {cs ds : List C} {vs ws : List V}, Paired (CR K F as) cs vs → Paired (CR K F as) ds ws → Paired (CR K F as) (cs ++ ds) (vs ++ ws)
  | _, _, _, _, .nil, q => q
  | _, _, _, _, .cons r t, q => .cons r (pr_append t q)
theorem xe_callK {n : Nat} {ks : List Str} {sp : SpT} (G : FnK Y.P Y.w Y.K Y.mg Y.base Y.lev x n ks sp) (h : XA Y (e :: es) Γ O fun cs O1 => XKw Y kws Γ O1 fun ds O2 => cs.length = n ∧ ds.length = ks.length ∧ sp (cs ++ ds) O2 R Y.RX) (hc : Y.cl = true := by rfl) (hg : ∀ i, Gl (Y.X i) x := by exact fun _ => rfl)
    (hall : ∀ i, (backToKw pos (keywordEach kws (Y.X i).env)).all (·.1.isSome) = true := by exact fun _ => rfl) (hks : ∀ i, (backToKw pos (keywordEach kws (Y.X i).env)).filterMap (·.1) = ks := by exact fun _ => rfl)
    (hdb : (x == ("__debug__" : Str)) = false := by decide) (he : ∀ i, starEach (e :: es) (Y.X i).env = (false, eval e (Y.X i).env) :: starEach es (Y.X i).env := by exact fun _ => rfl)
    (hpl : ∀ i, ((backTo pos (starEach (e :: es) (Y.X i).env)).any (·.1) || (backToKw pos (keywordEach kws (Y.X i).env)).any (·.1.isNone)) = false := by exact fun _ => rfl) : XE Y (.Call (.Name x p) (e :: es) kws pos) Γ O R := by
  obtain ⟨f, fd, ps, k, hk, FF, hm, kp, bd⟩ := G.ex
  have pe : ∀ i, ∀ Ex : L2.XK, (∀ cls d σ H, Ex cls d H → Y.W cls d σ H) → PE (Y.X i) (.Call (.Name x p) (e :: es) kws pos) (tCallN n ks.length (spOf Y.K sp) (fun vs zs => vs ++ zs) Ex (wpA Y (e :: es)) (wpK Y kws)) := fun i Ex hE =>
    pe_callN (CX := L2.CX Y.P Y.w) (by rw [Y.hP, Y.hw, Y.hK, Y.hmg, Y.hb]; exact FF) ((Y.room hc i).mono hk) (hg i) (by rw [Y.hmg]; exact hm) (by rw [Y.hK]; exact kp) (by rw [Y.hK]; exact bd)
      (fun pins σ H s u s' I q => passes_call (Y.tk i) hE pins σ H s u s' I (by rw [Y.hP, Y.hw]; exact q)) (paW i) (pkW i) (hall i) (hks i) hdb (he i) (hpl i)
  intro F0 as σ H Q S L tx t
  refine wpE_of (te := tCallN n ks.length (spOf Y.K sp) (fun vs zs => vs ++ zs) (fun cl d H' => ∀ σ', Y.W cl d σ' H') (wpA Y (e :: es)) (wpK Y kws)) (fun i => pe i _ fun cls d σ H q => q σ) ?_
  refine h F0 as σ H _ S L tx fun F1 as1 cs vs O1 H1 g1 S1 r1 h1 => h1 F1 as1 σ H1 _ S1 (L.mono g1) (tx.mono g1) fun F2 as2 ds ws O2 H2 g2 S2 r2 ⟨l1, l2, h2⟩ => ?_
  exact ⟨(pr_len r1).symm.trans l1, (pr_len r2).symm.trans l2, F2, as2, O2, cs ++ ds, R, Y.RX, S2, pr_append (pr_mono g2 r1) r2, h2, t.mono (g1.trans g2), fun F' as' cl O' H' g' S' r' σ' => tx F' as' cl O' σ' H' ((g1.trans g2).trans g') S' r'⟩
end
theorem kbn_mk {K : PySem.W.Frag} {fd : FuncData} {ps ks : List Str} {n : Nat} (h : ∀ us ws : List Value, us.length = n → ws.length = ks.length → bindArgs fd ⟨us, ks.zip ws⟩ = pure (ps.zip (us ++ ws))) : KBn K fd ps n ks (fun us ws => us ++ ws) (fun vs zs => vs ++ zs) :=
  ⟨fun s us ws _ l1 l2 => .of_eq (h us ws l1 l2), fun r1 r2 => r1.append r2⟩
theorem fnk_at {P : Program} {w : World} {K : PySem.W.Frag} {mg : Str → Option Value} {base : Heap} {x : Str} {st : Stmt} {ps ks : List Str} {k n : Nat} {sp : SpT} (D : DefAt K x st) (M : ∀ u, PySem.W.nsIn K mainGlobals x = some (some u) → mg x = some u)
    (bd : ∀ (kV doc pm : Value) (an : Option Addr) (cdv ct : Value) (us ws : List Value), us.length = n → ws.length = ks.length → bindArgs (PySem.W.fnOf x x (defArgs st) (defBody st) (defScope st) .none kV doc pm an cdv ct) ⟨us, ks.zip ws⟩ = pure (ps.zip (us ++ ws)))
    (h : ∀ f fd, Fun K x x st f fd → FnOk P w K mg base (L2.CX P w) k f fd ps (spOf K sp)) : FnK P w K mg base k x n ks sp := by
  obtain ⟨f, oc, od, an, sl, kV, dc, pm, cd, ct, a, l, c, kp⟩ := D
  have F := fun_mk (st := st) l c kp
  exact ⟨f, _, ps, k, Nat.le_refl _, h f _ F, M _ a, kp, kbn_mk fun us ws l1 l2 => bd kV dc pm an cd ct us ws l1 l2⟩
end T

set_option Elab.async false
set_option linter.all false
set_option maxRecDepth 100000
set_option maxHeartbeats 1000000
/-! Ub: dict comprehensions whose new dict is of any form (o0: the empty one, put: how a pair is put in). -/
namespace T
open PySem PySem.Spec PyProof.Rows L2
abbrev PutT := Addr → V → V → Hp → (Hp → Prop) → Prop
def tDcG (o0 : Addr → HO) (put : PutT) (wi : TI) (gt : TG) (tt : TT) (tk tv : TE) (vs : List Nat) : TE := fun st hp Q => wi st hp fun J hp1 => ∀ D, hp1 D = none → ∃ W : Nat → Nat → Hp → Prop, (∃ m, W 0 m (upd hp1 D (o0 D))) ∧ ∀ i m hq, W i m hq →
  (J.stop i hq ∧ Q (.ref D) hq) ∨ (J.go i hq ∧ ∃ Nx : Hp → Prop, (∀ hq', Nx hq' → ∃ m', m' < m ∧ W (i + 1) m' hq') ∧ ∀ v hq', J.yld i hq v hq' → gt v (wipe st vs) hq' fun st2 hq2 => wipe st2 vs = wipe st vs ∧ tt st2 hq2 fun yes hq3 =>
    if yes = true then tk st2 hq3 fun ky hq4 => tv st2 hq4 fun vl hq5 => put D ky vl hq5 Nx else Nx hq3)
/-- put is how the machine puts a pair in -/
def PutOk (X : Cx) (put : PutT) : Prop := ∀ (Z : Cx) (E : Value → Shared → Prop) (pn : List (Addr × Obj)) (st : L2.St) (hp : Hp) (s : Shared) (D : Addr) (y z : V) (u r : Value) (Nx : Hp → Prop) (Qd : Unit → Shared → Prop), Z.A = X.A → Z.K = X.K → Z.prog = X.prog → Z.w = X.w → Inv Z pn st hp s → RelV y u → RelV z r → put D y z hp Nx →
  (∀ s' hp', Inv Z pn st hp' s' → Nx hp' → Qd () s') → wpAny (model Z.prog Z.w) Z.A (dictSet D u r) Qd E s
def NewOk (X : Cx) (o0 : Addr → HO) : Prop := ∀ (hp : Hp) (h : Heap), sysModules < h.objs.size → ObjOk X.prog X.w hp (h.push { cls := .type "dict", data := .dict #[] }) h.objs.size (o0 h.objs.size)
section
variable {X : Cx}
theorem gdc_core {o0 : Addr → HO} {put : PutT} {pn : List (Addr × Obj)} {s : Shared} {st : L2.St} {hp : Hp} {Q : VK} {ke ve tg it : Expr} {cs : List Expr} {blk : Scope} {own : List (Str × Nat)} {ps ps' : Pos} {wi : TI} {gt : TG} {tt : TT} {tk tv : TE} {use : Option (Value → Sem Unit)} {Qf : Value → Shared → Prop}
    (hnew : NewOk X o0) (hput : PutOk X put) (calm : X.calm = true) (nd : X.N.Nodup) (I0 : Inv X pn st hp s) (pit : PI X tg it wi) (ok : BlkOk X.N X.env.scope blk own)
    (pgt : ∀ (s : Shared) (hp : Hp) (C : Addr) (cl : List (Str × Addr)) (fp : List Addr), PG (X.blk s hp blk (compEnvC blk cl C X.env) fp) tg gt) (ptt : ∀ (s : Shared) (hp : Hp) (C : Addr) (cl : List (Str × Addr)) (fp : List Addr), PTs (X.blk s hp blk (compEnvC blk cl C X.env) fp) cs tt)
    (pke : ∀ (s : Shared) (hp : Hp) (C : Addr) (cl : List (Str × Addr)) (fp : List Addr), PE (X.blk s hp blk (compEnvC blk cl C X.env) fp) ke tk)
    (pve : ∀ (s : Shared) (hp : Hp) (C : Addr) (cl : List (Str × Addr)) (fp : List Addr), PE (X.blk s hp blk (compEnvC blk cl C X.env) fp) ve tv) (fold : ∀ z, foldedSetIterable it X.env z = pure z)
    (h : tDcG o0 put wi gt tt tk tv (own.map (·.2)) st hp Q)
    (fin : ∀ D C s' m hp', Inv X pn st hp' s' → Q (.ref D) hp' → s'.heap.Ns C m → FpOk X pn hp' C → compPost (model X.prog X.w) X.A X.xe use Qf (.ref D) C (.ok .next) s') :
    wpAny (model X.prog X.w) X.A (comprehension (.DictComp ke ve [⟨tg, it, cs, 0⟩] blk ps) blk X.env ps' newDict false (eval it X.env) use) Qf X.xe s := by
  have cells : ∀ y ∈ blk.names, y.2 = .free → ∃ c, X.env.cells.lookup y.1 = some c := fun y hy e => (ok.free y hy e).elim (fun k => I0.ok.has _ (.inl k)) fun k => I0.ok.has _ (.inr k)
  refine wpAny_comprehension_free (use := use) rfl fold (closure_ok cells) ok.kind (fun y hy e => by rw [ok.uniq y hy, e]) (thn (pit.run pn s st hp _ I0 h) fun iv sA hA => thn hA fun itv sB hB => ?_)
  obtain ⟨ia, fp, tn, J, hpB, rfl, IB, T, stB, fB, q⟩ := hB
  refine wpAny_newObj_type (newEnv_comp ?_)
  obtain ⟨D, hD⟩ : ∃ D, D = sB.heap.objs.size := ⟨_, rfl⟩
  rw [← hD]
  have freeD : hpB D = none := IB.hok.fresh (Nat.le_of_eq hD.symm)
  obtain ⟨W, ⟨m0, w0⟩, each⟩ := q D freeD
  generalize hC : ({ sB with heap := sB.heap.push { cls := .type "dict", data := .dict #[] } } : Shared) = sC
  have IC : Inv X pn st (upd hpB D (o0 D)) sC := by
    rw [← hC]
    refine IB.laid (t' := sB.toks) (fun b o e => Heap.get?_push_of_some _ e) (Nat.le_of_eq hD.symm) ?_
    rw [hD]
    exact hnew _ sB.heap IB.big
  have heapC : sC.heap = sB.heap.push { cls := .type "dict", data := .dict #[] } := by rw [← hC]
  have below : ∀ b ∈ fp, b < sB.heap.objs.size := fun b hb => let ⟨_, e, _⟩ := T.obj _ _ stB b hb; Heap.lt_size e
  have fC : ∀ b ∈ fp, FpOk X pn (upd hpB D (o0 D)) b ∧ b < sC.heap.objs.size := fun b hb => by
    have lt := below b hb
    refine ⟨⟨?_, (fB b hb).2⟩, by rw [heapC, Heap.size_push]; exact Nat.lt_succ_of_lt lt⟩
    rw [upd_ne (by rw [hD]; exact Nat.ne_of_lt lt)]; exact (fB b hb).1
  have stC : tn 0 sC.heap := T.keep _ _ _ stB fun b _ o e => by rw [heapC]; exact Heap.get?_push_of_some _ e
  have ID := block_start IC ok nd fC
  have g1 := pgt sC (upd hpB D (o0 D)) sC.heap.objs.size (cellsFrom (sC.heap.objs.size + 1) blk.names (cloFrom X.env.cells blk.names [])) fp
  have g2 := ptt sC (upd hpB D (o0 D)) sC.heap.objs.size (cellsFrom (sC.heap.objs.size + 1) blk.names (cloFrom X.env.cells blk.names [])) fp
  have g3 := pke sC (upd hpB D (o0 D)) sC.heap.objs.size (cellsFrom (sC.heap.objs.size + 1) blk.names (cloFrom X.env.cells blk.names [])) fp
  have g4 := pve sC (upd hpB D (o0 D)) sC.heap.objs.size (cellsFrom (sC.heap.objs.size + 1) blk.names (cloFrom X.env.cells blk.names [])) fp
  show codeAny _ _ (.compStart (.DictComp ke ve [⟨tg, it, cs, 0⟩] blk ps) 0 (.ref ia) (.ref D) (compEnvC blk (cellsFrom (sC.heap.objs.size + 1) blk.names (cloFrom X.env.cells blk.names [])) sC.heap.objs.size X.env)) (compPost (model X.prog X.w) X.A X.xe use Qf (.ref D) sC.heap.objs.size) { sC with heap := pushCells (sC.heap.push { cls := .type "dict", data := .dict #[] }) blk.names }
  have none_fp : ∀ b ∈ fp, (upd hpB D (o0 D)) b = none := fun b hb => (fC b hb).1.1
  generalize eenv : compEnvC blk (cellsFrom (sC.heap.objs.size + 1) blk.names (cloFrom X.env.cells blk.names [])) sC.heap.objs.size X.env = inner at ID g1 g2 g3 g4 ⊢
  have locE : inner.locals = sC.heap.objs.size := by subst eenv; rfl
  generalize ehp : upd hpB D (o0 D) = hpC at IC ID g1 g2 g3 g4 w0 none_fp fC
  generalize esD : ({ sC with heap := pushCells (sC.heap.push { cls := .type "dict", data := .dict #[] }) blk.names } : Shared) = sD at ID ⊢
  have stD : tn 0 sD.heap := T.keep _ _ _ stC fun b _ o e => by rw [← esD]; exact pushCells_keeps _ _ _ _ (Heap.get?_push_of_some _ e)
  have still : ∀ {st' : L2.St} {hp' : Hp} {s' : Shared}, Inv (X.blk sC hpC blk inner fp) [] st' hp' s' → (∀ b ∈ fp, hp' b = none) → ∀ b ∈ fp, FpOk (X.blk sC hpC blk inner fp) [] hp' b := fun {st' hp' s'} Ii hn b hb =>
    ⟨hn b hb, (Ii.ok.exf b hb).1, Ii.ok.exfs b hb, .inl hb, fun z c e => (Ii.ok.exf b hb).2 z c e, fun pr hpr => absurd (show pr ∈ ([] : List (Addr × Obj)) ++ [] from hpr) (by simp)⟩
  have round : codeAny (model X.prog X.w) X.A (.compLoop (.DictComp ke ve [⟨tg, it, cs, 0⟩] blk ps) 0 (.ref ia) (.ref D) inner) (compPost (model X.prog X.w) X.A X.xe use Qf (.ref D) sC.heap.objs.size) sD := by
    refine compLoop_anyD (fun n s' => ∃ i hp', Inv (X.blk sC hpC blk inner fp) [] (wipe st (own.map (·.2))) hp' s' ∧ tn i s'.heap ∧ (∀ b ∈ fp, hp' b = none) ∧ W i n hp') ?_ m0 ⟨0, hpC, ID, stD, none_fp, w0⟩
    rintro n sE ⟨i, hpE, IE, stE, nE, wE⟩
    rcases each i n hpE wE with ⟨stop, qq⟩ | ⟨go, Nx, nx, step⟩
    · have over := T.done (X.blk sC hpC blk inner fp) rfl rfl rfl calm i [] sE _ hpE (fun _ _ => False) IE (still IE nE) stE stop
      refine thnF over fun r sF ⟨er, IF_⟩ => ?_
      subst er
      have IG : Inv X pn st hpE sF := IC.call' (ch := fp) IF_.os IF_.base IF_.hok IF_.bare fun b hb => ⟨(fC b hb).1.2.2.2.1, (fC b hb).1.2.1, (fC b hb).1.2.2.2.2.1, (fC b hb).1.2.2.2.2.2⟩
      have freeC : hpE sC.heap.objs.size = none := by have z : hpE inner.locals = none := IF_.free; rwa [locE] at z
      obtain ⟨m, hn, _⟩ := IF_.loc
      have hn : sF.heap.Ns inner.locals m := hn
      rw [locE] at hn
      exact fin D sC.heap.objs.size sF m hpE IG qq hn (IC.fpOk (Nat.le_refl _) freeC)
    · have next := T.item (X.blk sC hpC blk inner fp) rfl rfl rfl calm i [] sE _ hpE (fun _ _ => False) IE (still IE nE) stE go
      refine thnF next fun r sF ⟨uv, er, hF⟩ => ?_
      subst er
      refine thnF hF fun _ sG ⟨v, hpG, IG, rG, yG, stG, nG⟩ => ?_
      have IG' := IG.pinned (still IG nG) (T.obj _ _ stG)
      refine thnF (g1.run _ sG _ hpG v uv _ IG' rG (step v hpG yG)) fun _ sH ⟨stH, hpH, IH, wH, qH⟩ => ?_
      refine thnF (g2.run _ sH stH hpH _ IH qH) fun yes sI ⟨hpI, II, qI⟩ => ?_
      have close : ∀ {s' : Shared} {hp' : Hp}, Inv (X.blk sC hpC blk inner fp) ([] ++ pinsAt fp sG.heap) stH hp' s' → Nx hp' → ∃ m, m < n ∧ ∃ i hp', Inv (X.blk sC hpC blk inner fp) [] (wipe st (own.map (·.2))) hp' s' ∧ tn i s'.heap ∧ (∀ b ∈ fp, hp' b = none) ∧ W i m hp' := fun {s' hp'} Ii q => by
        obtain ⟨m', lt, w'⟩ := nx hp' q
        have kept : ∀ b ∈ fp, ∀ o, sG.heap.get? b = some o → s'.heap.get? b = some o ∧ hp' b = none := fun b hb o e => let z := Ii.pin (b, o) (List.mem_append_right _ (List.mem_append_right _ (mem_pinsAt hb e))); ⟨z.1, z.2.1⟩
        have len : (wipe st (own.map (·.2))).length = stH.length := by rw [← wH, wipe_length]
        refine ⟨m', lt, i + 1, hp', (Ii.unpinned (pins := [])).weak len (fun j v e => by rw [← wH] at e; exact (wipe_some e).1), T.keep _ _ _ stG fun b hb o e => (kept b hb o e).1, fun b hb => ?_, w'⟩
        obtain ⟨o, e, _⟩ := T.obj _ _ stG b hb
        exact (kept b hb o e).2
      cases yes with
      | false => simp only [Bool.false_eq_true, if_false] at qI ⊢; exact close II qI
      | true =>
        simp only [if_true] at qI ⊢
        refine thnF (g3.run _ sI stH hpI _ II qI) fun ku sJ ⟨kv, hpJ, IJ, rJ, qJ⟩ => ?_
        refine thnF (g4.run _ sJ stH hpJ _ IJ qJ) fun vu sK ⟨vv, hpK, IK, rK, qK⟩ => ?_
        exact hput (X.blk sC hpC blk inner fp) _ _ _ _ _ _ _ _ _ _ _ _ rfl rfl rfl rfl IK rJ rK qK fun sL hpL IL nxL => close IL nxL
  exact codeAny_compStart_dict round (T.self X.A 0 _ _ _ stD round)
theorem pe_dcG {o0 : Addr → HO} {put : PutT} {ke ve tg it : Expr} {cs : List Expr} {blk : Scope} {own : List (Str × Nat)} {ps : Pos} {wi : TI} {gt : TG} {tt : TT} {tk tv : TE} (hnew : NewOk X o0) (hput : PutOk X put) (calm : X.calm = true) (nd : X.N.Nodup) (pit : PI X tg it wi) (ok : BlkOk X.N X.env.scope blk own)
    (pgt : ∀ (s : Shared) (hp : Hp) (C : Addr) (cl : List (Str × Addr)) (fp : List Addr), PG (X.blk s hp blk (compEnvC blk cl C X.env) fp) tg gt) (ptt : ∀ (s : Shared) (hp : Hp) (C : Addr) (cl : List (Str × Addr)) (fp : List Addr), PTs (X.blk s hp blk (compEnvC blk cl C X.env) fp) cs tt)
    (pke : ∀ (s : Shared) (hp : Hp) (C : Addr) (cl : List (Str × Addr)) (fp : List Addr), PE (X.blk s hp blk (compEnvC blk cl C X.env) fp) ke tk)
    (pve : ∀ (s : Shared) (hp : Hp) (C : Addr) (cl : List (Str × Addr)) (fp : List Addr), PE (X.blk s hp blk (compEnvC blk cl C X.env) fp) ve tv) (fold : ∀ z, foldedSetIterable it X.env z = pure z := by intro _; rfl) :
    PE X (.DictComp ke ve [⟨tg, it, cs, 0⟩] blk ps) (tDcG o0 put wi gt tt tk tv (own.map (·.2))) := ⟨fun pn s st hp Q I h => by
  rw [arm_eval_DictComp]
  exact gdc_core hnew hput calm nd I pit ok pgt ptt pke pve fold h fun D C s' m hp' I' q hn ⟨f0, f1, f2, f3, f4, f5⟩ => ⟨m, hn, fun h'' sb => ⟨.ref D, hp', I'.turned (t' := s'.toks) (fun b o hb e => (sb.2 b hb).trans e) f0 f1 f3 f4 f5, rfl, q⟩⟩⟩
/-! ### keys that are tuples -/
def putNT (K : PySem.W.Frag) : PutT := fun D y z hp Nx => ∃ b xs k, y = .ref b ∧ hp D = some (dktO D xs) ∧ AllK K hp xs ∧ KeyOk k ∧ Dp K hp (.ref b) k.data ∧ xs.length < sizeLine ∧ Nx (upd hp D (dktO D (put3 xs k b z)))
theorem putN_ok (hu : X.A.units + 64 < cLine) : PutOk X (putNT X.K) := fun Z E pn st hp s D y z u r Nx Qd eA eK eP eW I ry rz ⟨b, xs, k, ey, e, hk, ok, hd, hz, nx⟩ q => by
  subst ey
  cases ry
  refine k_dictSet (X := Z) (by rw [eA]; exact hu) I e (by rw [eK]; exact hk) ok (by rw [eK]; exact hd) hz rz fun s' I' => q s' _ I' nx
theorem newN_ok : NewOk X (fun D => dktO D []) := fun hp h hb => fresh_kdict h hb
end
end T

set_option Elab.async false
set_option linter.all false
set_option maxRecDepth 100000
set_option maxHeartbeats 1000000
/-! Uc: {k: v for ..} whose keys are tuples; list(d), sorted walks over such dicts. -/
namespace T
open PySem PySem.Spec PyProof.Rows L2
theorem putN_len (kvs : List (NestedKey × C)) (k : NestedKey) (c : C) : (putN kvs k c).length ≤ kvs.length + 1 := by
  unfold putN
  split
  · rw [List.length_map]; exact Nat.le_succ _
  · rw [List.length_append]; exact Nat.le_refl _
section
variable {Y : Fam} {a b iter tg kx vx cond : Expr} {Γ : Gam} {O : Sto} {R : C → Sto → Prop} {pos : Pos}
theorem we_dcN {scope : Scope} {vs : List Nat} {τ : Tgt} (hj : ∀ j ∈ tgL τ, j ∈ vs)
    (h : XI Y tg iter Γ O fun ds O1 => ∃ Pv : Nat → List (NestedKey × C) → Prop, ds.length ≤ sizeLine ∧ Pv 0 [] ∧ (∀ i acc, Pv i acc → (∀ p ∈ acc, clC O1.length p.2) ∧ acc.length ≤ i) ∧
      (∀ i d acc, ds[i]? = some d → Pv i acc → ∃ Γ2, tgS (wipeG Γ vs) τ d = some Γ2 ∧ XE (Y.blk scope) kx Γ2 (O1 ++ [.dkt acc]) fun c1 O4 => XE (Y.blk scope) vx Γ2 O4 fun c2 O5 => ∃ kd ky x E2, c1 = .d kd ∧ KeyT ky kd ∧ c2 = .d x ∧ O5 = (O1 ++ [.dkt acc]) ++ E2 ∧ Pv (i + 1) (putN acc ky (.d x))) ∧
      (∀ acc, Pv ds.length acc → R (.o O1.length) (O1 ++ [.dkt acc]))) :
    We Y (tDcG (fun D => dktO D []) (putNT Y.K) (wpI Y tg iter) (tgG Y.K τ) tYes (wpE (Y.blk scope) kx) (wpE (Y.blk scope) vx) vs) Γ O R := fun F as σ H Q S L tx t => h F as σ H _ S L tx fun F1 as1 J ds O1 H1 g1 S1 j1 ⟨Pv, hz, p0, pc, ps, pd⟩ => by
  intro D hD
  have txF : ∀ {F as}, ThX (Y.blk scope) F as := fun F' as' cl O' σ' H' _ _ (r : False) => r.elim
  obtain ⟨S2, g2⟩ := S1.ownG hD (u0 := .dkt []) (o0 := dktO D []) ⟨[], rfl, .nil⟩
  have aD : (as1 ++ [D])[O1.length]? = some D := by rw [← S1.len]; simp
  refine ⟨fun i m H' => i ≤ ds.length ∧ m = ds.length - i ∧ ∃ F' acc, Same F1 F' ∧ Sat Y.K F' H' (as1 ++ [D]) (O1 ++ [.dkt acc]) ∧ Pv i acc, ⟨ds.length, Nat.zero_le _, by omega, F1, [], Same.refl _, S2, p0⟩, ?_⟩
  rintro i m H' ⟨hi, rfl, F2, acc, e2, S3, p2⟩
  have j2 := j1.mono e2
  obtain ⟨c3, c4⟩ := pc i acc p2
  by_cases hlt : i < ds.length
  · refine .inr ⟨j2.go i H' S3.ex hlt, fun H4 => ∃ F' acc, Same F1 F' ∧ Sat Y.K F' H4 (as1 ++ [D]) (O1 ++ [.dkt acc]) ∧ Pv (i + 1) acc, fun H4 ⟨F', acc', a1, a2, a3⟩ => ⟨ds.length - (i + 1), by omega, hlt, rfl, F', acc', a1, a2, a3⟩, fun x H3 y => ?_⟩
    obtain ⟨F3, g3, S4, r3⟩ := jd_item j2 S3 (List.getElem?_eq_getElem hlt) y
    obtain ⟨Γ2, ht, hb⟩ := ps i _ acc (List.getElem?_eq_getElem hlt) p2
    have cutS : ∀ {F4 as4 H4 E2}, Gr F3 (as1 ++ [D]) F4 as4 → Sat Y.K F4 H4 as4 ((O1 ++ [.dkt acc]) ++ E2) → Sat Y.K F4 H4 (as1 ++ [D]) (O1 ++ [.dkt acc]) := by
      intro F4 as4 H4 E2 g4 S5
      have hl : (as1 ++ [D]).length = (O1 ++ [Ob.dkt acc]).length := by simp [S1.len]
      refine S5.cut g4.px hl ?_
      have hn : (O1 ++ [Ob.dkt acc]).length = O1.length + 1 := by simp
      rw [hn]
      intro u hu
      have up : ∀ {c : C}, clC O1.length c → clC (O1.length + 1) c := fun {c} q => by
        cases c with
        | d x => trivial
        | o k => exact Nat.lt_succ_of_lt q
      rcases List.mem_append.mp hu with z | z
      · exact fun c hc => up (S1.clo u z c hc)
      · have : u = .dkt acc := by simpa using z
        subst this
        intro c hc
        obtain ⟨p, hp, rfl⟩ := List.mem_map.mp hc
        exact up (c3 p hp)
    refine tg_run S4 hj (slr_wipe (L.mono ⟨(g1.fr.trans e2).trans g3.fr, g1.px.trans (List.prefix_append _ _)⟩) vs) r3 ht fun σ2 L2' ew => ⟨ew, ?_⟩
    simp only [tYes, if_true]
    refine hb F3 _ σ2 H3 _ S4 L2' txF fun F5 as5 cx vx' O5 H5 g5 S6 r5 hv => ?_
    refine hv F5 as5 σ2 H5 _ S6 (L2'.mono g5) txF fun F6 as6 cy vy O6 H6 g6 S7 r6 ⟨kd, ky, xx, E2, e5, hk, e7, e6, p6⟩ => ?_
    subst e5 e6 e7
    have gA := g5.trans g6
    have S7 := cutS gA S7
    have hO : (O1 ++ [Ob.dkt acc])[O1.length]? = some (.dkt acc) := by simp
    obtain ⟨hF, ws, e7, p7⟩ := S7.dkt aD hO
    obtain ⟨q, rfl, hd⟩ := hk.ref (r5.mono g6)
    have hlen : ws.length ≤ i := by rw [← pr_len p7]; exact c4
    refine ⟨q, ws, ky, rfl, e7, allK_of S7.ex p7, hk.ok, dp_same S7.ex _ _ hd, by omega, F6, putN acc ky (.d xx), (e2.trans g3.fr).trans gA.fr, ?_, p6⟩
    have S8 := S7.putG aD hF (u1 := .dkt (putN acc ky (.d xx))) ⟨_, rfl, putN_rel p7 hk.ok hd r6⟩
    have e8 : (O1 ++ [Ob.dkt acc]).set O1.length (.dkt (putN acc ky (.d xx))) = O1 ++ [.dkt (putN acc ky (.d xx))] := by simp
    rw [e8] at S8
    exact S8
  · have e : i = ds.length := by omega
    subst e
    refine .inl ⟨j2.stop _ H' S3.ex (Nat.le_refl _), ?_⟩
    exact t F2 (as1 ++ [D]) (.o O1.length) _ _ H' ⟨g1.fr.trans e2, g1.px.trans (List.prefix_append _ _)⟩ S3 ⟨D, aD, rfl⟩ (pd acc p2)
theorem xe_dcN {scope : Scope} {own : List (Str × Nat)} {τ : Tgt} (ok : ∀ i, BlkOk (Y.X i).N (Y.X i).env.scope scope own) (hg : ∀ i, PG ((Y.blk scope).X i) tg (tgG Y.K τ)) (w : We Y (tDcG (fun D => dktO D []) (putNT Y.K) (wpI Y tg iter) (tgG Y.K τ) tYes (wpE (Y.blk scope) kx) (wpE (Y.blk scope) vx) (own.map (·.2))) Γ O R) (hc : Y.cl = true := by rfl)
    (hs : ∀ i x, foldedSetIterable iter (Y.X i).env x = pure x := by intro _ _; rfl) : XE Y (.DictComp kx vx [⟨tg, iter, [], 0⟩] scope pos) Γ O R :=
  xe_of (fun i => pe_dcG newN_ok (by rw [← Y.hK i]; exact putN_ok (rl hc i)) (Y.calm hc i) (by rw [Y.hN]; exact Y.nd) (piW i) (ok i) (fun s H C cl fp => hg (i, s, H, C, cl, fp)) (fun s H C cl fp => pts_nil) (fun s H C cl fp => peW (Y := Y.blk scope) (i, s, H, C, cl, fp)) (fun s H C cl fp => peW (Y := Y.blk scope) (i, s, H, C, cl, fp)) (hs i)) w
end
/-! list(d) -/
section
variable {X : Cx}
theorem vals_pairs : ∀ {xs : List (NestedKey × Addr × V)} {ys : List (NestedKey × Addr × Value)}, Paired YR xs ys → Vals (xs.map fun p => V.ref p.2.1) (ys.map fun y => Value.ref y.2.1)
  | _, _, .nil => .nil
  | _, _, .cons r t => .cons (by show RelV (V.ref _) (Value.ref _); rw [r.2.1]; rfl) (vals_pairs t)
def rListN (K : PySem.W.Frag) : List V → Hp → VK → Prop := fun vs H Q => ∃ d xs, vs = [V.ref d] ∧ H d = some (dktO d xs) ∧ AllK K H xs ∧ ∀ p, H p = none → Q (.ref p) (upd H p (.lst (xs.map fun p => V.ref p.2.1)))
theorem call_list_N (hc : X.calm = true) : CallR X (.type "list") (rListN X.K) := by
  intro pins s st H vs us Q I r h
  obtain ⟨d, xs, rfl, hd, hk, q⟩ := h
  obtain ⟨u, rfl, rx⟩ := r.one
  cases rx
  obtain ⟨⟨hs, ys, py, hz, o, es, ep, ho, hx, hdt, he, hn⟩, _, _⟩ := (show ObjOk X.prog X.w H s.heap d (dktO d xs) from I.hok d _ hd)
  have l1 : es.size = ys.length := by rw [← Array.length_toList, he, List.length_map]
  have l2 : xs.length = ys.length := pr_len py
  refine PySem.W.kdl_call (kdl_raw hs hx hdt) (I.ok.hd hc) ho (by omega) fun h' tk acc' c' kp e it => ?_
  have ea : acc'.toList = ys.map fun y => Value.ref y.2.1 := by
    apply List.ext_getElem?
    intro j
    rw [List.getElem?_map]
    cases hj : acc'.toList[j]? with
    | none =>
      have h1 := List.getElem?_eq_none_iff.mp hj
      rw [Array.length_toList, it.1, l1] at h1
      rw [List.getElem?_eq_none h1]; rfl
    | some v =>
      obtain ⟨en, hen, hv⟩ := it.2 j v (by rw [← Array.getElem?_toList]; exact hj)
      rw [← Array.getElem?_toList, he, List.getElem?_map] at hen
      obtain ⟨y, hy, rfl⟩ := Option.map_eq_some_iff.mp hen
      rw [hy, hv]; rfl
  refine ⟨.ref s.heap.objs.size, _, I.laid (t' := tk) (o := .lst (xs.map fun p => V.ref p.2.1)) kp (Nat.le_refl _) ?_, rfl, q _ (I.hok.fresh (Nat.le_refl _))⟩
  exact ⟨by rw [List.length_map]; exact hz, acc'.toList, c', by rw [ea]; exact vals_pairs py, by rw [Array.toArray_toList]; exact e⟩
end
section
variable {Y : Fam} {e : Expr} {es : List Expr} {Γ : Gam} {O : Sto} {R : C → Sto → Prop} {pos p : Pos} {K : PySem.W.Frag}
theorem pr_keys {K : PySem.W.Frag} {F : Hp} {as : List Addr} : ∀ {kvs : List (NestedKey × C)} {xs : List (NestedKey × Addr × V)}, Paired (KxR K F as) kvs xs → Paired (CR K F as) ((kvs.map fun q => q.1.data).map C.d) (xs.map fun q => V.ref q.2.1)
  | _, _, .nil => .nil
  | _, _, .cons r t => .cons (by obtain ⟨e1, e2, e3, _⟩ := r; exact e3) (pr_keys t)
/-- list(d), d a dict of tuple keys: a new list -/
theorem wc_listN {k : Nat} {kvs : List (NestedKey × C)} (hO : O[k]? = some (.dkt kvs)) (r : R (.o O.length) (O ++ [.lst ((kvs.map fun q => q.1.data).map C.d)])) : Wc K (rListN K) [.o k] O R := fun F as H xs Q S rs t => by
  cases rs with
  | cons r1 r2 =>
    cases r2
    obtain ⟨a, ha, rfl⟩ := r1
    obtain ⟨hF, ws, e, pr⟩ := S.dkt ha hO
    refine ⟨a, ws, rfl, e, allK_of S.ex pr, fun q hq => ?_⟩
    obtain ⟨S2, g2⟩ := S.own hq (pr_keys pr)
    exact t _ _ (.o O.length) _ _ _ g2 S2 ⟨q, by rw [← S.len]; simp, rfl⟩ r
theorem xe_listN (hm : Y.mg "list" = none) (h : XA Y (e :: es) Γ O fun cs O1 => Wc Y.K (rListN Y.K) cs O1 R) (hc : Y.cl = true := by rfl) (hg : ∀ i, Gl (Y.X i) "list" := by exact fun _ => rfl) (he : ∀ i, starEach (e :: es) (Y.X i).env = (false, eval e (Y.X i).env) :: starEach es (Y.X i).env := by exact fun _ => rfl)
    (hpl : ∀ i, (backTo pos (starEach es (Y.X i).env)).any (·.1) = false := by exact fun _ => rfl) : XE Y (.Call (.Name "list" p) (e :: es) [] pos) Γ O R :=
  xe_ty (fun i => by rw [← Y.hK i]; exact call_list_N (Y.calm hc i)) hm (by decide +kernel) h hg (by decide) (by decide) he hpl
end
end T

set_option Elab.async false
set_option linter.all false
set_option maxRecDepth 100000
set_option maxHeartbeats 1000000
/-! Ud: enumerate of a list; isinstance of what an owned list is worth. -/
namespace T
open PySem PySem.Spec PyProof.Rows L2
section
variable {Y : Fam} {a e : Expr} {elts : List Expr} {kk : Nat} {Γ : Gam} {O : Sto} {R : C → Sto → Prop} {RI : List PyData → Sto → Prop} {pos p tpos : Pos}
theorem xi_enumL (hm : Y.mg "enumerate" = none) (h : XA Y [a] Γ O fun cs O1 => ∃ ds, cs = [.d (.list ds)] ∧ RI (enumD 0 ds) O1) (hg : ∀ i, Gl (Y.X i) "enumerate" := by exact fun _ => rfl) (hs : ∀ i, starEach [a] (Y.X i).env = [(false, eval a (Y.X i).env)] := by exact fun _ => rfl) : XI Y (.Tuple elts kk tpos) (.Call (.Name "enumerate" p) [a] [] pos) Γ O RI := fun F as σ H R S L tx t =>
  wpI_of (wi := iEnum Y.K (wpA Y [a])) (fun i => by rw [← Y.hK i]; exact pi_enum (hg i) (by rw [Y.hmg]; exact hm) (paW i) (hs i)) (h F as σ H _ S L tx fun F1 as1 cs vs O1 H1 g1 S1 r1 ⟨ds, e, h1⟩ => by
    subst e
    cases r1 with
    | cons r r0 =>
      cases r0
      cases r with
      | @lst ad xs _ hs ha =>
        refine ⟨ad, xs, rfl, S1.ex.seq hs, t F1 as1 _ _ O1 H1 g1 S1 ⟨fun i H' e' hi => ⟨xs, e'.seq hs, by rw [dpall_len ha]; rwa [enumD_len] at hi⟩, fun i H' e' hi => ?_, fun i d H' x H'' e' hd y => ?_⟩ h1⟩
        · have hi' : i < xs.length := by rw [dpall_len ha]; rwa [enumD_len] at hi
          exact ⟨xs, xs[i], e'.seq hs, List.getElem?_eq_getElem hi'⟩
        · obtain ⟨z, hz, ez⟩ := enumD_get hd
          obtain ⟨v, hv, rv⟩ := dget ha hz
          obtain ⟨q, w, e1, e2, e3, e4⟩ := y
          have e5 : w = v := Option.some.inj ((e4 xs (e'.seq hs)).symm.trans hv)
          subst e5
          subst ez
          refine .inr ⟨q, _, e2, e3, ?_⟩
          rw [e1]
          have sm : Same F1 (upd F1 q (.tup [.int (i : Nat), w])) := fun b u y => by rw [upd_ne (ne_of_none y (e'.free e2))]; exact y
          refine .tup (.inl (.inl upd_same)) (.cons ?_ (.cons (dp_same sm _ _ rv) .nil))
          rw [Nat.zero_add]
          exact .int _)
theorem xe_isiV {y : Str} {p2 : Pos} {Ty : String} (hm : Y.mg "isinstance" = none) (hmT : Y.mg y = none) (hvT : bootBuiltins y = some (.type Ty)) (h : XE Y e Γ O fun c1 O1 => ∃ d bb, Vw O1 c1 d ∧ PySem.W.kitOne Y.K (.type (tyName d)) (.type Ty) = some bb ∧ R (.d (.bool bb)) O1)
    (hg : ∀ i, Gl (Y.X i) "isinstance" := by exact fun _ => rfl) (hgT : ∀ i, Gl (Y.X i) y := by exact fun _ => rfl) (hn : y ≠ "__name__" := by decide) (hdb : (y == ("__debug__" : Str)) = false := by decide)
    (he : ∀ i, starEach [e, .Name y p2] (Y.X i).env = (false, eval e (Y.X i).env) :: starEach [.Name y p2] (Y.X i).env := by exact fun _ => rfl) (hs1 : ∀ i, starEach [.Name y p2] (Y.X i).env = (false, eval (.Name y p2) (Y.X i).env) :: starEach [] (Y.X i).env := by exact fun _ => rfl)
    (hpl : ∀ i, (backTo pos (starEach [.Name y p2] (Y.X i).env)).any (·.1) = false := by exact fun _ => rfl) :
    XE Y (.Call (.Name "isinstance" p) [e, .Name y p2] [] pos) Γ O R :=
  xe_of (te := tCB (rIsi Y.K) (tCons (wpE Y e) (tCons (tC (.ty Ty)) tNil))) (fun i => by
    rw [← Y.hK i]
    exact pe_callB call_isi (hg i) (by rw [Y.hmg]; exact hm) (by decide +kernel) (pa_cons (peW i) (pa_cons (pe_bltn (hgT i) (by rw [Y.hmg]; exact hmT) hvT rfl hn hdb) pa_nil (hs1 i)) (he i)) (by decide) (by decide) (he i) (hpl i)) fun F as σ H Q S L tx t =>
    h F as σ H _ S L tx fun F1 as1 c1 v1 O1 H1 g1 S1 r1 ⟨d, bb, vw, hk, h1⟩ =>
      ⟨v1, .ty Ty, .type (tyName d), .type Ty, bb, rfl, .ty Ty, tyX_of (vw_dp S1 vw r1) (Same.refl _), hk, t F1 as1 (.d (.bool bb)) _ O1 H1 g1 S1 (show CR Y.K F1 as1 (.d (.bool bb)) _ from .bl _) h1⟩
theorem xe_isiV2 {y y2 : Str} {p2 p3 pt : Pos} {z : Nat} {Ty Ty2 : String} (hm : Y.mg "isinstance" = none) (hmT : Y.mg y = none) (hmT2 : Y.mg y2 = none) (hvT : bootBuiltins y = some (.type Ty)) (hvT2 : bootBuiltins y2 = some (.type Ty2))
    (h : XE Y e Γ O fun c1 O1 => ∃ d b1 b2, Vw O1 c1 d ∧ PySem.W.kitOne Y.K (.type (tyName d)) (.type Ty) = some b1 ∧ PySem.W.kitOne Y.K (.type (tyName d)) (.type Ty2) = some b2 ∧ R (.d (.bool (b1 || b2))) O1)
    (hg : ∀ i, Gl (Y.X i) "isinstance" := by exact fun _ => rfl) (hgT : ∀ i, Gl (Y.X i) y := by exact fun _ => rfl) (hgT2 : ∀ i, Gl (Y.X i) y2 := by exact fun _ => rfl) (hn : y ≠ "__name__" := by decide) (hn2 : y2 ≠ "__name__" := by decide) (hdb : (y == ("__debug__" : Str)) = false := by decide) (hdb2 : (y2 == ("__debug__" : Str)) = false := by decide)
    (he : ∀ i, starEach [e, .Tuple [.Name y p2, .Name y2 p3] z pt] (Y.X i).env = (false, eval e (Y.X i).env) :: starEach [.Tuple [.Name y p2, .Name y2 p3] z pt] (Y.X i).env := by exact fun _ => rfl)
    (hs1 : ∀ i, starEach [.Tuple [.Name y p2, .Name y2 p3] z pt] (Y.X i).env = (false, eval (.Tuple [.Name y p2, .Name y2 p3] z pt) (Y.X i).env) :: starEach [] (Y.X i).env := by exact fun _ => rfl)
    (hs2 : ∀ i, starEach [.Name y p2, .Name y2 p3] (Y.X i).env = (false, eval (.Name y p2) (Y.X i).env) :: starEach [.Name y2 p3] (Y.X i).env := by exact fun _ => rfl) (hs3 : ∀ i, starEach [.Name y2 p3] (Y.X i).env = (false, eval (.Name y2 p3) (Y.X i).env) :: starEach [] (Y.X i).env := by exact fun _ => rfl)
    (hpl : ∀ i, (backTo pos (starEach [.Tuple [.Name y p2, .Name y2 p3] z pt] (Y.X i).env)).any (·.1) = false := by exact fun _ => rfl) :
    XE Y (.Call (.Name "isinstance" p) [e, .Tuple [.Name y p2, .Name y2 p3] z pt] [] pos) Γ O R :=
  xe_of (te := tCB (rIsiT Y.K) (tCons (wpE Y e) (tCons (tTup (tCons (tC (.ty Ty)) (tCons (tC (.ty Ty2)) tNil))) tNil))) (fun i => by
    rw [← Y.hK i]
    exact pe_callB call_isiT (hg i) (by rw [Y.hmg]; exact hm) (by decide +kernel) (pa_cons (peW i) (pa_cons (pe_tup (pa_cons (pe_bltn (hgT i) (by rw [Y.hmg]; exact hmT) hvT rfl hn hdb) (pa_cons (pe_bltn (hgT2 i) (by rw [Y.hmg]; exact hmT2) hvT2 rfl hn2 hdb2) pa_nil (hs3 i)) (hs2 i))) pa_nil (hs1 i)) (he i)) (by decide) (by decide) (he i) (hpl i)) fun F as σ H Q S L tx t =>
    h F as σ H _ S L tx fun F1 as1 c1 v1 O1 H1 g1 S1 r1 ⟨d, b1, b2, vw, k1, k2, h1⟩ => by
      refine ⟨by show 2 ≤ sizeLine; decide, fun q hq => ?_⟩
      obtain ⟨S2, g2⟩ := S1.froze (o := .tup [.ty Ty, .ty Ty2]) hq
      exact ⟨v1, q, [.ty Ty, .ty Ty2], .type (tyName d), [.type Ty, .type Ty2], b1 || b2, rfl, upd_same, .cons (.ty Ty) (.cons (.ty Ty2) .nil), tyX_of (vw_dp S2 vw (r1.mono g2)) (Same.refl _), any2 k1 k2, t _ _ (.d (.bool (b1 || b2))) _ O1 _ (g1.trans g2) S2 (show CR Y.K _ as1 (.d (.bool (b1 || b2))) _ from .bl _) h1⟩
end
end T

set_option Elab.async false
set_option linter.all false
set_option maxRecDepth 100000
set_option maxHeartbeats 1000000
/-! Ue: max, min, sum of a list of ints; the store told with less, or otherwise. -/
namespace T
open PySem PySem.Spec PyProof.Rows L2
section
variable {K : PySem.W.Frag} {F H : Hp} {as : List Addr} {O : Sto}
theorem Sat.reob {j : Nat} {u : Ob} (S : Sat K F H as O) (h : ∀ a, as[j]? = some a → ObR K F as H a u) : Sat K F H as (O.set j u) := by
  refine ⟨S.ex, S.nd, by rw [List.length_set]; exact S.len, S.al, fun k a v ha hv => ?_⟩
  by_cases e : k = j
  · subst e
    by_cases hl : k < O.length
    · rw [List.getElem?_set_self hl] at hv
      cases hv
      exact h a ha
    · rw [List.getElem?_eq_none (by rw [List.length_set]; omega)] at hv
      cases hv
  · rw [List.getElem?_set_ne (Ne.symm e)] at hv
    exact S.ob k a v ha hv
theorem Sat.gone' {j : Nat} (S : Sat K F H as O) : Sat K F H as (O.set j .gone) := S.reob fun _ _ => .inl rfl
theorem pr_put {cs : List C} {vs : List V} (h : Paired (CR K F as) cs vs) {c c' : C} (hv : ∀ v, CR K F as c v → CR K F as c' v) : ∀ {i : Nat}, cs[i]? = some c → Paired (CR K F as) (cs.set i c') vs := by
  induction h with
  | nil => intro i e; simp at e
  | cons r t ih =>
    intro i e
    cases i with
    | zero =>
      exact .cons (hv _ ((Option.some.inj (show some _ = some c from e)) ▸ r)) t
    | succ i => exact .cons r (ih (by simpa using e))
end
section
variable {Y : Fam} {e : Expr} {es : List Expr} {sts : List Stmt} {Γ : Gam} {O : Sto} {R : C → Sto → Prop} {E : En} {pos p : Pos}
theorem xb_gone (j : Nat) (h : XB Y sts Γ (O.set j .gone) E) : XB Y sts Γ O E := fun F as σ H D S L tx t => h F as σ H D S.gone' L tx t
theorem xe_gone (j : Nat) (h : XE Y e Γ (O.set j .gone) R) : XE Y e Γ O R := fun F as σ H D S L tx t => h F as σ H D S.gone' L tx t
/-- an owned list within an owned list is never written again -/
theorem xb_frzIn (k j i : Nat) {ds : List PyData} {cs : List C} (h1 : O[k]? = some (.lst (ds.map C.d))) (h2 : O[j]? = some (.lst cs)) (h3 : cs[i]? = some (.o k)) (hn : k ≠ j) (h : XB Y sts Γ ((O.set k .gone).set j (.lst (cs.set i (.d (.list ds))))) E) : XB Y sts Γ O E := fun F as σ H D S L tx t => by
  have hk : k < as.length := by rw [S.len]; exact (List.getElem?_eq_some_iff.mp h1).1
  have ha : as[k]? = some as[k] := List.getElem?_eq_getElem hk
  obtain ⟨F', g, S2, hd⟩ := S.freeze ha h1
  refine h F' as σ H D (S2.reob fun a hj => ?_) (L.mono g) (tx.mono g) (t.mono g)
  have hO : (O.set k .gone)[j]? = some (.lst cs) := by rw [List.getElem?_set_ne hn]; exact h2
  obtain ⟨hF, vs, hH, pr⟩ := S2.lst hj hO
  refine .inr ⟨_, hH, ⟨vs, rfl, pr_put pr (fun v rv => ?_) h3⟩, hF⟩
  obtain ⟨b, hb, rfl⟩ := rv
  have : b = as[k] := Option.some.inj (hb.symm.trans ha)
  subst this
  exact hd
/-! ### max, min, sum -/
theorem vw_ints {K : PySem.W.Frag} {F H : Hp} {as : List Addr} {ns : List Int} {c : C} {v : V} (S : Sat K F H as O) (vw : Vw O c (.list (ns.map PyData.int))) (r : CR K F as c v) : ∃ a, v = .ref a ∧ SqL K H a (ns.map V.int) := by
  cases vw_dp S vw r with
  | lst hs ha => exact ⟨_, rfl, by rw [← ints_v ha]; exact hs⟩
theorem xe_maxL (hm : Y.mg "max" = none) (h : XA Y (e :: es) Γ O fun cs O1 => ∃ (c : C) (ns : List Int), cs = [c] ∧ Vw O1 c (.list (ns.map PyData.int)) ∧ 0 < ns.length ∧ ∀ m, m ∈ ns → (∀ y, y ∈ ns → y ≤ m) → R (.d (.int m)) O1) (hc : Y.cl = true := by rfl) (hg : ∀ i, Gl (Y.X i) "max" := by exact fun _ => rfl)
    (he : ∀ i, starEach (e :: es) (Y.X i).env = (false, eval e (Y.X i).env) :: starEach es (Y.X i).env := by exact fun _ => rfl) (hpl : ∀ i, (backTo pos (starEach es (Y.X i).env)).any (·.1) = false := by exact fun _ => rfl) : XE Y (.Call (.Name "max" p) (e :: es) [] pos) Γ O R :=
  xe_blt (r := rMax Y.K) (fun i => by rw [← Y.hK i]; exact cr_max (Y.calm hc i)) hm (by first | rfl | decide +kernel) (fun F as σ H Q S L tx t => h F as σ H Q S L tx fun F1 as1 cs vs O1 H1 g1 S1 r1 ⟨c, ns, ec, vw, h0, h1⟩ => t F1 as1 cs vs O1 H1 g1 S1 r1 (by
    subst ec
    intro F2 as2 H2 xs Q2 S2 r2 t2
    cases r2 with
    | cons ra rb =>
    cases rb
    obtain ⟨a, rfl, hs⟩ := vw_ints S2 vw ra
    exact ⟨a, ns, rfl, hs, h0, fun m q1 q2 => t2.go S2 (show CR Y.K F2 as2 (.d (.int _)) _ from .int _) (h1 m q1 q2)⟩)) hg (by decide) (by decide) he hpl
theorem xe_minL (hm : Y.mg "min" = none) (h : XA Y (e :: es) Γ O fun cs O1 => ∃ (c : C) (ns : List Int), cs = [c] ∧ Vw O1 c (.list (ns.map PyData.int)) ∧ 0 < ns.length ∧ ∀ m, m ∈ ns → (∀ y, y ∈ ns → m ≤ y) → R (.d (.int m)) O1) (hc : Y.cl = true := by rfl) (hg : ∀ i, Gl (Y.X i) "min" := by exact fun _ => rfl)
    (he : ∀ i, starEach (e :: es) (Y.X i).env = (false, eval e (Y.X i).env) :: starEach es (Y.X i).env := by exact fun _ => rfl) (hpl : ∀ i, (backTo pos (starEach es (Y.X i).env)).any (·.1) = false := by exact fun _ => rfl) : XE Y (.Call (.Name "min" p) (e :: es) [] pos) Γ O R :=
  xe_blt (r := rMin Y.K) (fun i => by rw [← Y.hK i]; exact cr_min (Y.calm hc i)) hm (by first | rfl | decide +kernel) (fun F as σ H Q S L tx t => h F as σ H Q S L tx fun F1 as1 cs vs O1 H1 g1 S1 r1 ⟨c, ns, ec, vw, h0, h1⟩ => t F1 as1 cs vs O1 H1 g1 S1 r1 (by
    subst ec
    intro F2 as2 H2 xs Q2 S2 r2 t2
    cases r2 with
    | cons ra rb =>
    cases rb
    obtain ⟨a, rfl, hs⟩ := vw_ints S2 vw ra
    exact ⟨a, ns, rfl, hs, h0, fun m q1 q2 => t2.go S2 (show CR Y.K F2 as2 (.d (.int _)) _ from .int _) (h1 m q1 q2)⟩)) hg (by decide) (by decide) he hpl
theorem xe_sumL (hm : Y.mg "sum" = none) (h : XA Y (e :: es) Γ O fun cs O1 => ∃ (c : C) (ns : List Int), cs = [c] ∧ Vw O1 c (.list (ns.map PyData.int)) ∧ R (.d (.int ns.sum)) O1) (hc : Y.cl = true := by rfl) (hg : ∀ i, Gl (Y.X i) "sum" := by exact fun _ => rfl)
    (he : ∀ i, starEach (e :: es) (Y.X i).env = (false, eval e (Y.X i).env) :: starEach es (Y.X i).env := by exact fun _ => rfl) (hpl : ∀ i, (backTo pos (starEach es (Y.X i).env)).any (·.1) = false := by exact fun _ => rfl) : XE Y (.Call (.Name "sum" p) (e :: es) [] pos) Γ O R :=
  xe_blt (r := rSum Y.K) (fun i => by rw [← Y.hK i]; exact cr_sum (Y.calm hc i)) hm (by first | rfl | decide +kernel) (fun F as σ H Q S L tx t => h F as σ H Q S L tx fun F1 as1 cs vs O1 H1 g1 S1 r1 ⟨c, ns, ec, vw, h1⟩ => t F1 as1 cs vs O1 H1 g1 S1 r1 (by
    subst ec
    intro F2 as2 H2 xs Q2 S2 r2 t2
    cases r2 with
    | cons ra rb =>
    cases rb
    obtain ⟨a, rfl, hs⟩ := vw_ints S2 vw ra
    exact ⟨a, ns, rfl, hs, t2.go S2 (show CR Y.K F2 as2 (.d (.int _)) _ from .int _) h1⟩)) hg (by decide) (by decide) he hpl
end
end T

set_option Elab.async false
set_option linter.all false
set_option maxRecDepth 100000
set_option maxHeartbeats 1000000
/-! Uf: what is handed back with some objects forgotten. -/
namespace T
open PySem PySem.Spec PyProof.Rows L2
section
variable {Y : Fam} {e : Expr} {Γ : Gam} {O E E2 : Sto} {R : C → Sto → Prop} {c : C}
theorem xe_fgt (j : Nat) (h : XE Y e Γ O fun c O' => R c (O'.set j .gone)) : XE Y e Γ O R := fun F as σ H Q S L tx t => h F as σ H Q S L tx fun F' as' c v O' H' g S' r p => t F' as' c v _ H' g S'.gone' r p
theorem back_app (hc : Clo O.length O) (hE : ∀ u ∈ E, clOb (O.length + E.length) u) (hcl : clC (O.length + E.length) c) (r : R c (O ++ E)) : Back O R c ((O ++ E) ++ E2) := ⟨O ++ E, E2, rfl, by simp, fun w hw => by
  rw [List.length_append]
  rcases List.mem_append.mp hw with z | z
  · exact (hc.up (Nat.le_add_right _ _)) w z
  · exact hE w z, by rw [List.length_append]; exact hcl, r⟩
theorem back_app0 (hc : Clo O.length O) (hE : ∀ u ∈ E, clOb (O.length + E.length) u) (hcl : clC (O.length + E.length) c) (r : R c (O ++ E)) : Back O R c (O ++ E) := by
  have := back_app (E2 := []) hc hE hcl r
  rwa [List.append_nil] at this
theorem clE0 {n : Nat} : ∀ u ∈ ([] : Sto), clOb n u := fun u hu => by cases hu
theorem clE {n : Nat} {u : Ob} {E : Sto} (h : clOb n u) (t : ∀ u ∈ E, clOb n u) : ∀ v ∈ (u :: E), clOb n v := fun v hv => (List.mem_cons.mp hv).elim (fun e => e ▸ h) (t v)
theorem clOb_gone {n : Nat} : clOb n .gone := fun c hc => by cases hc
theorem clOb_ds {n : Nat} {ds : List PyData} : clOb n (.lst (ds.map C.d)) := fun c hc => by
  obtain ⟨d, _, rfl⟩ := List.mem_map.mp hc
  trivial
end
end T

set_option Elab.async false
set_option linter.all false
set_option maxRecDepth 100000
set_option maxHeartbeats 2000000
namespace K
open PySem PySem.Spec PyProof.Rows L2 T
/-! N11m: what is seen of a run, records, rules used. -/
theorem eqv_int {a b : Int} : PyData.eqv (.int a) (.int b) = decide (a = b) := by
  show (a == b) = _
  rfl
theorem eqv_pair {p q : Int × Int} : PyData.eqv (pairD p) (pairD q) = decide (p = q) := by
  show PyData.eqvAll ([p.1, p.2].map PyData.int) ([q.1, q.2].map PyData.int) = _
  rw [eqvAll_ints]
  obtain ⟨a, b⟩ := p
  obtain ⟨c, d⟩ := q
  simp [Prod.ext_iff]
theorem any_pair {l : List (Int × Int)} {p : Int × Int} : ((l.map pairD).any fun z => PyData.eqv z (pairD p)) = decide (p ∈ l) := by
  rw [Bool.eq_iff_iff, List.any_eq_true, decide_eq_true_iff]
  constructor
  · rintro ⟨z, hz, e⟩
    obtain ⟨q, hq, rfl⟩ := List.mem_map.mp hz
    rw [eqv_pair] at e
    exact (of_decide_eq_true e) ▸ hq
  · intro h
    exact ⟨pairD p, List.mem_map.mpr ⟨p, h, rfl⟩, by rw [eqv_pair]; simp⟩
theorem any_ints {l : List Int} {x : Int} : ((l.map PyData.int).any fun z => PyData.eqv z (.int x)) = decide (x ∈ l) := by
  rw [Bool.eq_iff_iff, List.any_eq_true, decide_eq_true_iff]
  constructor
  · rintro ⟨z, hz, e⟩
    obtain ⟨q, hq, rfl⟩ := List.mem_map.mp hz
    rw [eqv_int] at e
    exact (of_decide_eq_true e) ▸ hq
  · intro h
    exact ⟨.int x, List.mem_map.mpr ⟨x, h, rfl⟩, by rw [eqv_int]; simp⟩
section
variable {α : Type} [DecidableEq α]
def addN (l : List α) (x : α) : List α := if x ∈ l then l else l ++ [x]
def nubF (acc xs : List α) : List α := xs.foldl addN acc
theorem addN_in {l : List α} {x : α} (h : x ∈ l) : addN l x = l := if_pos h
theorem addN_out {l : List α} {x : α} (h : x ∉ l) : addN l x = l ++ [x] := if_neg h
theorem nubF_cons {acc xs : List α} {x : α} : nubF acc (x :: xs) = nubF (addN acc x) xs := rfl
theorem nubF_nil {acc : List α} : nubF acc [] = acc := rfl
theorem addN_len {l : List α} {x : α} : (addN l x).length ≤ l.length + 1 := by
  unfold addN
  split
  · exact Nat.le_succ _
  · rw [List.length_append]; exact Nat.le_refl _
theorem nubF_len : ∀ {xs acc : List α}, (nubF acc xs).length ≤ acc.length + xs.length
  | [], _ => Nat.le_refl _
  | x :: xs, acc => by
    rw [nubF_cons]
    have h1 := nubF_len (xs := xs) (acc := addN acc x)
    have h2 := addN_len (l := acc) (x := x)
    rw [List.length_cons]
    omega
end
abbrev Seen := List (Int × Int) × List Int × List Int × List Int × Option (Int × Int)
def seenP (m : Mach) : Nat → WS → List (Int × Int) → List Int → List Int → List Int → Seen
  | 0, _, ks, ss, ys, ps => (ks, ss, ys, ps, none)
  | n + 1, w, ks, ss, ys, ps =>
    if (takeT m w).1 = -1 then (addN ks (w.1, look w.2.2 w.2.1), ss, ys, ps ++ [(takeT m w).2.1], some (w.1, look w.2.2 w.2.1))
    else seenP m n (takeT m w) (addN ks (w.1, look w.2.2 w.2.1)) (addN ss (takeT m w).1) (addN ys (ruleAt m w.1 (look w.2.2 w.2.1)).1) (ps ++ [(takeT m w).2.1])
theorem seenP_stop {m : Mach} {n : Nat} {w : WS} {ks ss ys ps} (h : (takeT m w).1 = -1) : seenP m (n + 1) w ks ss ys ps = (addN ks (w.1, look w.2.2 w.2.1), ss, ys, ps ++ [(takeT m w).2.1], some (w.1, look w.2.2 w.2.1)) := by
  conv => lhs; unfold seenP
  rw [if_pos h]
theorem seenP_go {m : Mach} {n : Nat} {w : WS} {ks ss ys ps} (h : (takeT m w).1 ≠ -1) : seenP m (n + 1) w ks ss ys ps = seenP m n (takeT m w) (addN ks (w.1, look w.2.2 w.2.1)) (addN ss (takeT m w).1) (addN ys (ruleAt m w.1 (look w.2.2 w.2.1)).1) (ps ++ [(takeT m w).2.1]) := by
  conv => lhs; unfold seenP
  rw [if_neg h]
theorem seenP_keys {m : Mach} : ∀ {n : Nat} {w : WS} {ks ss ys ps}, w.1 ≠ -1 → (seenP m n w ks ss ys ps).1 = nubF ks (trP m n w)
  | 0, _, _, _, _, _, _ => rfl
  | n + 1, w, ks, ss, ys, ps, h => by
    rw [trP_go h, nubF_cons]
    by_cases e : (takeT m w).1 = -1
    · rw [seenP_stop e, trP_stop (.inr e)]; rfl
    · rw [seenP_go e]; exact seenP_keys e
theorem seenP_places {m : Mach} : ∀ {n : Nat} {w : WS} {ks ss ys ps}, w.1 ≠ -1 → (seenP m n w ks ss ys ps).2.2.2.1 = ps ++ (viP m n w).map (·.1)
  | 0, _, _, _, _, _, _ => by unfold viP; exact (List.append_nil _).symm
  | n + 1, w, ks, ss, ys, ps, h => by
    rw [viP_go h]
    by_cases e : (takeT m w).1 = -1
    · rw [seenP_stop e]
      have : viP m n (takeT m w) = [] := by
        cases n with
        | zero => rfl
        | succ n => unfold viP; rw [if_pos e]
      rw [this]; rfl
    · rw [seenP_go e, seenP_places e, List.append_assoc]; rfl
def optD : Option (Int × Int) → PyData
  | none => .none
  | some p => pairD p
def seenD (s : Seen) : PyData := .list [.list (s.1.map pairD), .list (s.2.1.map PyData.int), .list (s.2.2.1.map PyData.int), .list (s.2.2.2.1.map PyData.int), optD s.2.2.2.2]
def seen0 (m : Mach) (n : Nat) : Seen := seenP m n (0, 0, []) [] [0] [0] [0]
def sp_seen : SpT := fun cs O R _ => ∃ m S Y n, cs = [.d (machD m), .d (.int ((n : Nat) : Int))] ∧ OkMach m S Y ∧ n ≤ 2000 ∧ R (.d (seenD (seen0 m n))) O
theorem seen0_keys {m : Mach} {n : Nat} : (seen0 m n).1 = nubF [] (trP m n (0, 0, [])) := seenP_keys (by decide)
theorem seen0_places {m : Mach} {n : Nat} : (seen0 m n).2.2.2.1 = plL m n := seenP_places (by decide)
/-! records -/
def triD (t : Int × Int × Int) : PyData := .tuple [.int t.1, .int t.2.1, .int t.2.2]
def recF (sg : Int) : Nat → Int → List (Int × Int) → List (Int × Int × Int)
  | _, _, [] => []
  | i, far, (p, s) :: r => if sg * p > far ∧ s ≠ -1 then (((i : Nat) : Int), p, s) :: recF sg (i + 1) (sg * p) r else recF sg (i + 1) far r
theorem recF_yes {sg far p s : Int} {i : Nat} {r : List (Int × Int)} (h : sg * p > far) (h2 : s ≠ -1) : recF sg i far ((p, s) :: r) = (((i : Nat) : Int), p, s) :: recF sg (i + 1) (sg * p) r := by
  conv => lhs; unfold recF
  rw [if_pos ⟨h, h2⟩]
theorem recF_no {sg far p s : Int} {i : Nat} {r : List (Int × Int)} (h : ¬ (sg * p > far ∧ s ≠ -1)) : recF sg i far ((p, s) :: r) = recF sg (i + 1) far r := by
  conv => lhs; unfold recF
  rw [if_neg h]
theorem recF_len {sg : Int} : ∀ {l : List (Int × Int)} {i : Nat} {far : Int}, (recF sg i far l).length ≤ l.length
  | [], _, _ => Nat.le_refl _
  | (p, s) :: r, i, far => by
    by_cases h : sg * p > far ∧ s ≠ -1
    · rw [recF_yes h.1 h.2, List.length_cons, List.length_cons]; exact Nat.succ_le_succ recF_len
    · rw [recF_no h, List.length_cons]; exact Nat.le_succ_of_le recF_len
def viL (m : Mach) (n : Nat) : List (Int × Int) := (0, 0) :: viP m n (0, 0, [])
def sgn (b : Bool) : Int := if b = true then 1 else -1
def sp_records : SpT := fun cs O R _ => ∃ m S Y n b, cs = [.d (machD m), .d (.int ((n : Nat) : Int)), .d (.bool b)] ∧ OkMach m S Y ∧ n ≤ 2000 ∧ R (.o O.length) (O ++ [.lst (((recF (sgn b) 0 0 (viL m n)).map triD).map C.d)])
theorem vi_bound {m : Mach} {S Y : Int} (hm : OkMach m S Y) : ∀ {n : Nat} {w : WS} {j : Int}, OkS j S Y w → ∀ p ∈ viP m n w, (-(j + n) ≤ p.1 ∧ p.1 ≤ j + n) ∧ -1 ≤ p.2 ∧ p.2 < S
  | 0, _, _, _, p, hp => by cases hp
  | n + 1, w, j, h, p, hp => by
    by_cases e : w.1 = -1
    · unfold viP at hp; rw [if_pos e] at hp; cases hp
    · rw [viP_go e] at hp
      have h1 := okS_take h hm e
      rcases List.mem_cons.mp hp with z | z
      · subst z
        have a := h1.p0
        have b := h1.p1
        have c := h1.s0
        have d := h1.s1
        refine ⟨?_, c, d⟩
        constructor <;> (show _ ≤ _; omega)
      · have := vi_bound hm h1 p z
        refine ⟨?_, this.2⟩
        have := this.1
        constructor <;> omega
theorem viL_bound {m : Mach} {S Y : Int} {n : Nat} (hm : OkMach m S Y) (hn : n ≤ 2000) : ∀ p ∈ viL m n, (-2000 ≤ p.1 ∧ p.1 ≤ 2000) ∧ -1 ≤ p.2 ∧ p.2 < S := fun p hp => by
  rcases List.mem_cons.mp hp with z | z
  · subst z; have := hm.s1; exact ⟨⟨by decide, by decide⟩, by decide, by show (0 : Int) < S; omega⟩
  · have := vi_bound hm (okS_zero hm.s1 hm.y2) p z
    refine ⟨?_, this.2⟩
    have := this.1
    constructor <;> omega
theorem mul_sgn {b : Bool} {p : Int} : CMul (sgn b) p := by cases b <;> exact .inl ⟨by decide, by decide⟩
/-! rules used: the keys of a new dict -/
def keyP (p : Int × Int) : NestedKey := .tup [.num p.1, .num p.2]
theorem keyP_data {p : Int × Int} : (keyP p).data = pairD p := rfl
theorem keyP_t {p : Int × Int} : KeyT (keyP p) (pairD p) := ⟨⟨rfl, Nat.le_of_ble_eq_true rfl⟩, rfl, _, rfl⟩
theorem keyP_inj {p q : Int × Int} : keyP p = keyP q ↔ p = q := by
  obtain ⟨a, b⟩ := p
  obtain ⟨c, d⟩ := q
  simp [keyP]
def dkP (l : List (Int × Int)) (x : PyData) : List (NestedKey × C) := l.map fun p => (keyP p, .d x)
theorem dkP_any {l : List (Int × Int)} {x : PyData} {p : Int × Int} : ((dkP l x).any fun kv => decide (kv.1 = keyP p)) = decide (p ∈ l) := by
  unfold dkP
  rw [Bool.eq_iff_iff, List.any_map, List.any_eq_true, decide_eq_true_iff]
  constructor
  · rintro ⟨q, hq, e⟩
    have e : keyP q = keyP p := of_decide_eq_true e
    exact (keyP_inj.mp e) ▸ hq
  · intro h
    exact ⟨p, h, decide_eq_true rfl⟩
theorem dkP_put {l : List (Int × Int)} {x : PyData} {p : Int × Int} : putN (dkP l x) (keyP p) (.d x) = dkP (addN l p) x := by
  unfold putN addN
  rw [dkP_any]
  by_cases h : p ∈ l
  · rw [if_pos (by simpa using h), if_pos h]
    unfold dkP
    rw [List.map_map]
    refine List.map_congr_left fun q hq => ?_
    show (if keyP q = keyP p then (keyP q, C.d x) else (keyP q, C.d x)) = _
    split <;> rfl
  · rw [if_neg (by simpa using h), if_neg h]
    unfold dkP
    rw [List.map_append]; rfl
theorem dkP_len {l : List (Int × Int)} {x : PyData} : (dkP l x).length = l.length := List.length_map _
theorem dkP_keys {l : List (Int × Int)} {x : PyData} : ((dkP l x).map fun q => q.1.data) = l.map pairD := by
  unfold dkP; rw [List.map_map]; rfl
theorem dkP_val {l : List (Int × Int)} {x : PyData} {p : Int × Int} : (valN (dkP l x) (keyP p)).isSome = decide (p ∈ l) := by
  unfold valN
  rw [Option.isSome_map]
  rw [← dkP_any (x := x)]
  rw [Bool.eq_iff_iff, List.find?_isSome, List.any_eq_true]
theorem dkP_cl {l : List (Int × Int)} {x : PyData} {n : Nat} : ∀ p ∈ dkP l x, clC n p.2 := fun p hp => by
  obtain ⟨q, _, rfl⟩ := List.mem_map.mp hp
  trivial
def usL (m : Mach) (n : Nat) : List (Int × Int) := nubF [] (trP m n (0, 0, []))
def sp_used : SpT := fun cs O R _ => ∃ m S Y n, cs = [.d (machD m), .d (.int ((n : Nat) : Int))] ∧ OkMach m S Y ∧ n ≤ 2000 ∧ R (.o (O.length + 1)) (O ++ [.gone, .lst (((usL m n).map pairD).map C.d)])
theorem nubF_take {α : Type} [DecidableEq α] {acc l : List α} {i : Nat} {x : α} (h : l[i]? = some x) : nubF acc (l.take (i + 1)) = addN (nubF acc (l.take i)) x := by
  rw [take_succ' h]
  unfold nubF
  rw [List.foldl_append]; rfl
end K
namespace K
open PySem PySem.Spec PyProof.Rows L2 T
theorem sh_pr1 {p : Int × Int} : Sh 1 (pairD p) := sh_tup fun d hd => by
  simp only [List.mem_cons, List.not_mem_nil, or_false] at hd
  rcases hd with rfl | rfl <;> exact sh_int
theorem sh_prs {l : List (Int × Int)} : ∀ d ∈ l.map pairD, Sh 1 d := fun d hd => by
  obtain ⟨p, _, rfl⟩ := List.mem_map.mp hd
  exact sh_pr1
theorem sh_trs {l : List (Int × Int × Int)} : ∀ d ∈ l.map triD, Sh 1 d := fun d hd => by
  obtain ⟨p, _, rfl⟩ := List.mem_map.mp hd
  exact sh_tup fun d hd => by
    simp only [List.mem_cons, List.not_mem_nil, or_false] at hd
    rcases hd with rfl | rfl | rfl <;> exact sh_int
structure SeenI (m : Mach) (n : Nat) (S Y : Int) (i : Nat) (w : WS) (ks : List (Int × Int)) (ss ys ps : List Int) : Prop where
  eq : seen0 m n = seenP m (n - i) w ks ss ys ps
  st : w.1 ≠ -1
  ok : OkS (i : Nat) S Y w
  tl : w.2.2.length ≤ i
  l1 : ks.length ≤ i
  l2 : ss.length ≤ i + 1
  l3 : ys.length ≤ i + 1
  l4 : ps.length ≤ i + 1
theorem seenI_0 {m : Mach} {n : Nat} {S Y : Int} (hm : OkMach m S Y) : SeenI m n S Y 0 (0, 0, []) [] [0] [0] [0] :=
  ⟨rfl, by decide, okS_zero hm.s1 hm.y2, Nat.le_refl _, Nat.le_refl _, Nat.le_refl _, Nat.le_refl _, Nat.le_refl _⟩
theorem SeenI.next {m : Mach} {n : Nat} {S Y : Int} {i : Nat} {w : WS} {ks : List (Int × Int)} {ss ys ps : List Int} (h : SeenI m n S Y i w ks ss ys ps) (hm : OkMach m S Y) (hi : i < n) (hg : (takeT m w).1 ≠ -1) :
    SeenI m n S Y (i + 1) (takeT m w) (addN ks (w.1, look w.2.2 w.2.1)) (addN ss (takeT m w).1) (addN ys (ruleAt m w.1 (look w.2.2 w.2.1)).1) (ps ++ [(takeT m w).2.1]) := by
  refine ⟨?_, hg, ?_, ?_, ?_, ?_, ?_, ?_⟩
  · rw [h.eq, show n - i = (n - (i + 1)) + 1 by omega, seenP_go hg]
  · exact okS_take h.ok hm h.st
  · have := putI_len (t := w.2.2) (x := w.2.1) (v := (ruleAt m w.1 (look w.2.2 w.2.1)).1)
    have := h.tl
    show (putI w.2.2 w.2.1 _).length ≤ _
    omega
  · exact Nat.le_trans addN_len (Nat.succ_le_succ h.l1)
  · exact Nat.le_trans addN_len (Nat.succ_le_succ h.l2)
  · exact Nat.le_trans addN_len (Nat.succ_le_succ h.l3)
  · rw [List.length_append]; exact Nat.succ_le_succ h.l4
theorem SeenI.last {m : Mach} {n : Nat} {S Y : Int} {i : Nat} {w : WS} {ks : List (Int × Int)} {ss ys ps : List Int} (h : SeenI m n S Y i w ks ss ys ps) (hi : i < n) (hg : (takeT m w).1 = -1) :
    (addN ks (w.1, look w.2.2 w.2.1), ss, ys, ps ++ [(takeT m w).2.1], some (w.1, look w.2.2 w.2.1)) = seen0 m n := by
  rw [h.eq, show n - i = (n - (i + 1)) + 1 by omega, seenP_stop hg]
theorem SeenI.over {m : Mach} {n : Nat} {S Y : Int} {w : WS} {ks : List (Int × Int)} {ss ys ps : List Int} (h : SeenI m n S Y n w ks ss ys ps) : (ks, ss, ys, ps, (none : Option (Int × Int))) = seen0 m n := by
  rw [h.eq, Nat.sub_self]; rfl
end K
namespace K
open PySem PySem.Spec PyProof.Rows L2 T
theorem ext_app {O : Sto} {u0 u : Ob} {E : List Ob} : ext (O ++ [u0]) O.length u E = O ++ (u :: E) := by unfold ext; simp
theorem back_law5 {O G : Sto} {R : C → Sto → Prop} {b : Bool} (hc : Clo O.length O) (r : R (.d (.bool true)) O) (hb : b = true) : Back O R (.d (.bool b)) (O ++ G) := by
  subst hb
  exact back_d hc r
theorem rep_bool {n : Nat} : List.replicate n (PyData.bool true) = (List.replicate n true).map PyData.bool := by rw [List.map_replicate]
theorem rep_all {n : Nat} : (List.replicate n true).all id = true := by simp
def sp_plainO (n : Nat) : SpT := fun cs O R _ => ∃ (k : Nat) (ds : List PyData), cs = [.o k] ∧ O[k]? = some (.lst (ds.map C.d)) ∧ ds.length ≤ 100000 ∧ (∀ d ∈ ds, PlD n d) ∧ R (.d (.bool true)) O
def sp_plainOO (n : Nat) : SpT := fun cs O R _ => ∃ (k : Nat) (as : List C), cs = [.o k] ∧ O[k]? = some (.lst as) ∧ as.length ≤ 1000 ∧ (∀ c ∈ as, ∃ (j : Nat) (ds : List PyData), c = .o j ∧ O[j]? = some (.lst (ds.map C.d)) ∧ ds.length ≤ 100000 ∧ ∀ d ∈ ds, PlD n d) ∧ R (.d (.bool true)) O
theorem vw_list {O : Sto} {k : Nat} {as : List C} {n : Nat} (h : O[k]? = some (.lst as)) (ha : ∀ c ∈ as, ∃ (j : Nat) (ds : List PyData), c = .o j ∧ O[j]? = some (.lst (ds.map C.d)) ∧ ds.length ≤ 100000 ∧ ∀ d ∈ ds, PlD n d) : ∃ es, Vw O (.o k) (.list es) := by
  have : ∃ es, VwAll O as es := by
    clear h
    induction as with
    | nil => exact ⟨[], .nil⟩
    | cons c as ih =>
      obtain ⟨j, ds, rfl, hO, _⟩ := ha c (List.mem_cons_self ..)
      obtain ⟨es, he⟩ := ih fun d hd => ha d (List.mem_cons_of_mem _ hd)
      exact ⟨_, .cons (vw_own hO) he⟩
  obtain ⟨es, he⟩ := this
  exact ⟨es, .o h he⟩
theorem pl_prs {l : List (Int × Int)} : ∀ d ∈ l.map pairD, PlD 1 d := fun d hd => by
  obtain ⟨p, _, rfl⟩ := List.mem_map.mp hd
  exact pl_tup (by show 2 ≤ 100000; decide) fun x hx => by
    simp only [List.mem_cons, List.not_mem_nil, or_false] at hx
    rcases hx with rfl | rfl <;> exact pl_int
theorem pl_trs {l : List (Int × Int × Int)} : ∀ d ∈ l.map triD, PlD 1 d := fun d hd => by
  obtain ⟨p, _, rfl⟩ := List.mem_map.mp hd
  exact pl_tup (by show 3 ≤ 100000; decide) fun x hx => by
    simp only [List.mem_cons, List.not_mem_nil, or_false] at hx
    rcases hx with rfl | rfl | rfl <;> exact pl_int
theorem seen_form {m : Mach} {n : Nat} : ∃ A B z, seenD (seen0 m n) = .list [.list ((usL m n).map pairD), A, B, .list ((plL m n).map PyData.int), z] :=
  ⟨_, _, _, by unfold seenD; rw [seen0_keys, seen0_places]; rfl⟩
theorem plL_vi {m : Mach} {n : Nat} : plL m n = (viL m n).map (·.1) := rfl
theorem viL_len {m : Mach} {n : Nat} : (viL m n).length ≤ n + 1 := by unfold viL; rw [List.length_cons]; exact Nat.succ_le_succ viP_len
theorem plL_len {m : Mach} {n : Nat} : (plL m n).length = (viL m n).length := List.length_map _
theorem plL_len1 {m : Mach} {n : Nat} : 1 ≤ (plL m n).length := by rw [plL_len]; unfold viL; rw [List.length_cons]; omega
theorem usL_len {m : Mach} {n : Nat} : (usL m n).length ≤ n := Nat.le_trans nubF_len (by have := trP_len (m := m) (n := n) (s := (0, 0, [])); show 0 + _ ≤ n; omega)
theorem recV_len {m : Mach} {n : Nat} {sg : Int} : (recF sg 0 0 (viL m n)).length ≤ n + 1 := Nat.le_trans recF_len viL_len
/-! the law's own records -/
structure RecI (m : Mach) (n : Nat) (S Y : Int) (i : Nat) (w : WS) (rs ls : List (Int × Int × Int)) (fr fl : Int) : Prop where
  ok : OkS (i : Nat) S Y w
  tl : w.2.2.length ≤ i
  vi : (viL m n).drop (i + 1) = viP m (n - i) w
  r1 : recF 1 0 0 (viL m n) = rs ++ recF 1 (i + 1) fr ((viL m n).drop (i + 1))
  r2 : recF (-1) 0 0 (viL m n) = ls ++ recF (-1) (i + 1) fl ((viL m n).drop (i + 1))
  m1 : w.1 ≠ -1 → fr ∈ (plL m n).take (i + 1) ∧ ∀ y ∈ (plL m n).take (i + 1), y ≤ fr
  m2 : w.1 ≠ -1 → -fl ∈ (plL m n).take (i + 1) ∧ ∀ y ∈ (plL m n).take (i + 1), -fl ≤ y
  l1 : rs.length ≤ i
  l2 : ls.length ≤ i
theorem recI_0 {m : Mach} {n : Nat} {S Y : Int} (hm : OkMach m S Y) : RecI m n S Y 0 (0, 0, []) [] [] 0 0 := by
  refine ⟨okS_zero hm.s1 hm.y2, Nat.le_refl _, rfl, ?_, ?_, fun _ => ⟨?_, ?_⟩, fun _ => ⟨?_, ?_⟩, Nat.le_refl _, Nat.le_refl _⟩
  · show recF 1 0 0 ((0, 0) :: viP m n (0, 0, [])) = _
    rw [recF_no (by omega)]; rfl
  · show recF (-1) 0 0 ((0, 0) :: viP m n (0, 0, [])) = _
    rw [recF_no (by omega)]; rfl
  · show (0 : Int) ∈ [0]; simp
  · intro y hy; have : y ∈ [(0 : Int)] := hy; simp at this; omega
  · show (-0 : Int) ∈ [0]; simp
  · intro y hy; have : y ∈ [(0 : Int)] := hy; simp at this; omega
theorem RecI.go {m : Mach} {n : Nat} {S Y : Int} {i : Nat} {w : WS} {rs ls : List (Int × Int × Int)} {fr fl : Int} (h : RecI m n S Y i w rs ls fr fl) (hi : i + 1 < (viL m n).length) : w.1 ≠ -1 ∧ i < n ∧ (viL m n)[i + 1]? = some ((takeT m w).2.1, (takeT m w).1) := by
  have e := h.vi
  have hd : (viL m n).drop (i + 1) = (viL m n)[i + 1] :: (viL m n).drop (i + 1 + 1) := drop_at (List.getElem?_eq_getElem hi)
  cases hq : n - i with
  | zero => rw [hq, hd] at e; cases e
  | succ q =>
    rw [hq] at e
    by_cases hs : w.1 = -1
    · rw [hd] at e; unfold viP at e; rw [if_pos hs] at e; cases e
    · rw [viP_go hs, hd] at e
      injection e with e1 e2
      exact ⟨hs, by omega, by rw [List.getElem?_eq_getElem hi, e1]⟩
/-- what a step adds to a row of records -/
def recS (sg : Int) (i : Nat) (far p st : Int) (rs : List (Int × Int × Int)) : List (Int × Int × Int) := if sg * p > far ∧ st ≠ -1 then rs ++ [(((i : Nat) : Int), p, st)] else rs
def farS (sg far p st : Int) : Int := if sg * p > far ∧ st ≠ -1 then sg * p else far
theorem recS_eq {sg : Int} {i : Nat} {far p st : Int} {rs r l : List (Int × Int × Int)} {tl : List (Int × Int)} (h : l = rs ++ recF sg i far ((p, st) :: tl)) : l = recS sg i far p st rs ++ recF sg (i + 1) (farS sg far p st) tl := by
  unfold recS farS
  by_cases c : sg * p > far ∧ st ≠ -1
  · rw [if_pos c, if_pos c, h, recF_yes c.1 c.2, List.append_assoc]; rfl
  · rw [if_neg c, if_neg c, h, recF_no c]
theorem recS_len {sg : Int} {i : Nat} {far p st : Int} {rs : List (Int × Int × Int)} (h : rs.length ≤ i) : (recS sg (i + 1) far p st rs).length ≤ i + 1 := by
  unfold recS
  split
  · rw [List.length_append]; exact Nat.succ_le_succ h
  · omega
theorem RecI.next {m : Mach} {n : Nat} {S Y : Int} {i : Nat} {w : WS} {rs ls : List (Int × Int × Int)} {fr fl : Int} (h : RecI m n S Y i w rs ls fr fl) (hm : OkMach m S Y) (hi : i + 1 < (viL m n).length) :
    RecI m n S Y (i + 1) (takeT m w) (recS 1 (i + 1) fr (takeT m w).2.1 (takeT m w).1 rs) (recS (-1) (i + 1) fl (takeT m w).2.1 (takeT m w).1 ls) (farS 1 fr (takeT m w).2.1 (takeT m w).1) (farS (-1) fl (takeT m w).2.1 (takeT m w).1) := by
  obtain ⟨hs, hn, hg⟩ := h.go hi
  have hd := drop_at hg
  have e1 := h.m1 hs
  have e2 := h.m2 hs
  have hp : (plL m n)[i + 1]? = some (takeT m w).2.1 := by rw [plL_vi, List.getElem?_map, hg]; rfl
  have ht : (plL m n).take (i + 1 + 1) = (plL m n).take (i + 1) ++ [(takeT m w).2.1] := take_succ' hp
  refine ⟨okS_take h.ok hm hs, ?_, ?_, recS_eq (r := []) (by rw [← hd]; exact h.r1), recS_eq (r := []) (by rw [← hd]; exact h.r2), fun hz => ?_, fun hz => ?_, recS_len h.l1, recS_len h.l2⟩
  · have := putI_len (t := w.2.2) (x := w.2.1) (v := (ruleAt m w.1 (look w.2.2 w.2.1)).1)
    have := h.tl
    show (putI w.2.2 w.2.1 _).length ≤ _
    omega
  · have e := h.vi
    rw [show n - i = (n - (i + 1)) + 1 by omega, viP_go hs, hd] at e
    injection e
  · rw [ht]
    unfold farS
    by_cases c : 1 * (takeT m w).2.1 > fr ∧ (takeT m w).1 ≠ -1
    · rw [if_pos c]
      refine ⟨by rw [Int.one_mul]; simp, fun y hy => ?_⟩
      rcases List.mem_append.mp hy with z | z
      · have := e1.2 y z; omega
      · have : y = (takeT m w).2.1 := by simpa using z
        omega
    · rw [if_neg c]
      refine ⟨List.mem_append_left _ e1.1, fun y hy => ?_⟩
      rcases List.mem_append.mp hy with z | z
      · exact e1.2 y z
      · have : y = (takeT m w).2.1 := by simpa using z
        have : ¬ (1 * (takeT m w).2.1 > fr) := fun q => c ⟨q, hz⟩
        omega
  · rw [ht]
    unfold farS
    by_cases c : (-1) * (takeT m w).2.1 > fl ∧ (takeT m w).1 ≠ -1
    · rw [if_pos c]
      refine ⟨by simp, fun y hy => ?_⟩
      rcases List.mem_append.mp hy with z | z
      · have := e2.2 y z; omega
      · have : y = (takeT m w).2.1 := by simpa using z
        omega
    · rw [if_neg c]
      refine ⟨List.mem_append_left _ e2.1, fun y hy => ?_⟩
      rcases List.mem_append.mp hy with z | z
      · exact e2.2 y z
      · have : y = (takeT m w).2.1 := by simpa using z
        have : ¬ ((-1) * (takeT m w).2.1 > fl) := fun q => c ⟨q, hz⟩
        omega
theorem RecI.over {m : Mach} {n : Nat} {S Y : Int} {i : Nat} {w : WS} {rs ls : List (Int × Int × Int)} {fr fl : Int} (h : RecI m n S Y i w rs ls fr fl) (hi : (viL m n).length ≤ i + 1) : recF 1 0 0 (viL m n) = rs ∧ recF (-1) 0 0 (viL m n) = ls := by
  have e1 := h.r1
  have e2 := h.r2
  rw [List.drop_eq_nil_of_le hi] at e1 e2
  exact ⟨e1.trans (List.append_nil _), e2.trans (List.append_nil _)⟩
theorem max_uniq {l : List Int} {a b : Int} (h1 : a ∈ l) (h2 : ∀ y ∈ l, y ≤ a) (h3 : b ∈ l) (h4 : ∀ y ∈ l, y ≤ b) : a = b := Int.le_antisymm (h4 a h1) (h2 b h3)
theorem min_uniq {l : List Int} {a b : Int} (h1 : a ∈ l) (h2 : ∀ y ∈ l, a ≤ y) (h3 : b ∈ l) (h4 : ∀ y ∈ l, b ≤ y) : a = b := Int.le_antisymm (h2 b h3) (h4 a h1)
end K

set_option Elab.async false
set_option linter.all false
set_option maxRecDepth 100000
set_option maxHeartbeats 1000000
/-! Ug: list + list, either of them never written. -/
namespace T
open PySem PySem.Spec PyProof.Rows L2
def rCatL (K : PySem.W.Frag) : R2 := fun x y H Q => ∃ l b xs zs, x = .ref l ∧ y = .ref b ∧ SqL K H l xs ∧ SqL K H b zs ∧ xs.length + zs.length ≤ sizeLine ∧ ∀ p, H p = none → Q (.ref p) (upd H p (.lst (xs ++ zs)))
theorem op_catL {X : Cx} : OpR X (binaryOp .Add) (rCatL X.K) := by
  intro pins st σ H x y v u Q I rx ry ⟨l, b, xs, zs, e1, e2, hl, hb, hz, q⟩
  subst e1 e2
  cases rx
  cases ry
  obtain ⟨its, r, ⟨⟨c1, d1, t1, s1⟩, n, g1, hc, hdd, hd⟩, z1⟩ := I.list hl
  obtain ⟨its2, r2, ⟨⟨c2, d2, t2, s2⟩, n2, g2, hc2, hdd2, hd2⟩, z2⟩ := I.list hb
  simp only at hc hdd hd hc2 hdd2 hd2
  subst hc hdd hd hc2 hdd2 hd2
  have l1 := r.length
  have l2 := r2.length
  refine concat_meets ⟨_, g1, rfl⟩ ⟨_, g2, rfl⟩ noFill_list_add seq_list_add PySem.F.slot_list_add PySem.F.entry_list_add (PySem.F.args_list_add_2 _ _) (list_addW l b its.toArray its2.toArray n n2 none none s1 s2 (by rw [List.size_toArray, List.size_toArray]; omega)) ⟨g1, g2, ?_⟩
  rw [show its.toArray ++ its2.toArray = (its ++ its2).toArray by simp]
  exact ⟨.ref _, _, I.lnew (t' := _) (r.append r2) (by rw [List.length_append]; omega), rfl, q _ I.fresh⟩
/-- flat lists of data, owned or not -/
def FlL (O : Sto) (c : C) (ds : List PyData) : Prop := c = .d (.list ds) ∨ ∃ k, c = .o k ∧ O[k]? = some (.lst (ds.map C.d))
theorem flL_d {O : Sto} {ds : List PyData} : FlL O (.d (.list ds)) ds := .inl rfl
theorem flL_o {O : Sto} {k : Nat} {ds : List PyData} (h : O[k]? = some (.lst (ds.map C.d))) : FlL O (.o k) ds := .inr ⟨k, rfl, h⟩
section
variable {K : PySem.W.Frag} {F H : Hp} {as : List Addr} {O : Sto} {R : C → Sto → Prop}
theorem flL_sq {c : C} {ds : List PyData} {v : V} (S : Sat K F H as O) (h : FlL O c ds) (r : CR K F as c v) : ∃ a xs, v = .ref a ∧ SqL K H a xs ∧ DpAll K F xs ds := by
  rcases h with e | ⟨k, e, hO⟩
  · subst e
    cases (show Dp K F v (.list ds) from r) with
    | lst hs ha => exact ⟨_, _, rfl, S.ex.seq hs, ha⟩
  · subst e
    obtain ⟨a, ha, rfl⟩ := r
    obtain ⟨_, vs, e, p⟩ := S.lst ha hO
    exact ⟨a, vs, rfl, .inl (.inl e), all_of p⟩
def rPlusL (K : PySem.W.Frag) : R2 := rCatL K
theorem w2_add_v {c1 c2 : C} {xs ys : List PyData} (h1 : FlL O c1 xs) (h2 : FlL O c2 ys) (hz : xs.length + ys.length ≤ sizeLine) (r : R (.o O.length) (O ++ [.lst ((xs ++ ys).map C.d)])) : W2 K (rCatL K) c1 c2 O R := fun F as H x y Q S rx ry t => by
  obtain ⟨a, vs, rfl, s1, d1⟩ := flL_sq S h1 rx
  obtain ⟨b, ws, rfl, s2, d2⟩ := flL_sq S h2 ry
  refine ⟨a, b, vs, ws, rfl, rfl, s1, s2, by rw [dpall_len d1, dpall_len d2]; exact hz, fun p hp => ?_⟩
  obtain ⟨S2, g2⟩ := S.own hp (of_all (dpall_app d1 d2))
  exact t _ _ (.o O.length) _ _ _ g2 S2 ⟨p, by rw [← S.len]; simp, rfl⟩ r
end
section
variable {Y : Fam} {a b : Expr} {Γ : Gam} {O : Sto} {R : C → Sto → Prop} {pos : Pos}
theorem xe_catL (h : XE Y a Γ O fun c1 O1 => XE Y b Γ O1 fun c2 O2 => W2 Y.K (rCatL Y.K) c1 c2 O2 R) : XE Y (.BinOp a .Add b pos) Γ O R := xe_bin (fun i => by rw [← Y.hK i]; exact op_catL) h
end
end T

set_option Elab.async false
set_option linter.all false
set_option maxRecDepth 100000
set_option maxHeartbeats 1000000
namespace K
open PySem PySem.Spec PyProof.Rows L2 T
/-! Kg: a machine as an owned list of owned rows -/
def rowO (r : List Rule) : Ob := .lst ((r.map ruleD).map C.d)
def outL (b n : Nat) : List C := (List.range n).map fun q => C.o (b + 1 + q)
def gridE (b : Nat) (m : Mach) : List Ob := .lst (outL b m.length) :: m.map rowO
structure GridAt (O : Sto) (j : Nat) (m : Mach) : Prop where
  out : O[j]? = some (.lst (outL j m.length))
  row : ∀ (q : Nat) (r : List Rule), m[q]? = some r → O[j + 1 + q]? = some (.lst ((r.map ruleD).map C.d))
theorem oset_append {O : Sto} {l1 l2 : List (Nat × Ob)} : oset O (l1 ++ l2) = oset (oset O l1) l2 := List.foldl_append
def rowsOs (b : Nat) (m : Mach) : List (Nat × Ob) := (List.range m.length).map fun q => (b + 1 + q, rowO (m.getD q []))
theorem oset_rng {X : Sto} {c : Nat} {f : Nat → Ob} : ∀ {n : Nat} (i : Nat), (oset X ((List.range n).map fun q => (c + q, f q)))[i]? = if c ≤ i ∧ i < c + n then (if i < X.length then some (f (i - c)) else none) else X[i]?
  | 0, i => by
    rw [if_neg (by omega)]; rfl
  | n + 1, i => by
    rw [List.range_succ, List.map_append, oset_append]
    show (List.set (oset X ((List.range n).map fun q => (c + q, f q))) (c + n) (f n))[i]? = _
    by_cases h : c + n = i
    · subst h
      rw [if_pos ⟨by omega, by omega⟩]
      by_cases hl : c + n < X.length
      · rw [if_pos hl, List.getElem?_set_self (by rw [oset_len]; exact hl)]
        rw [show c + n - c = n by omega]
      · rw [if_neg hl, List.getElem?_eq_none (by rw [List.length_set, oset_len]; omega)]
    · rw [List.getElem?_set_ne h, oset_rng i]
      by_cases h2 : c ≤ i ∧ i < c + n
      · rw [if_pos h2, if_pos (show c ≤ i ∧ i < c + (n + 1) from ⟨h2.1, by omega⟩)]
      · rw [if_neg h2, if_neg (by omega)]
theorem gridE_len {b : Nat} {m : Mach} : (gridE b m).length = m.length + 1 := by simp [gridE]
theorem oset_grid {O : Sto} {k b : Nat} {u : Ob} {E0 : List Ob} {m m0 : Mach} (hb : b = O.length + E0.length) (hl : m.length = m0.length) : oset (ext O k u (E0 ++ gridE b m0)) (rowsOs b m) = ext O k u (E0 ++ gridE b m) := by
  apply List.ext_getElem?
  intro i
  unfold rowsOs
  rw [oset_rng, ext_len, List.length_append, gridE_len]
  by_cases h : b + 1 ≤ i ∧ i < b + 1 + m.length
  · rw [if_pos h, if_pos (by omega)]
    obtain ⟨q, rfl⟩ : ∃ q, i = b + 1 + q := ⟨i - (b + 1), by omega⟩
    rw [show b + 1 + q - (b + 1) = q by omega, show b + 1 + q = O.length + (E0.length + (1 + q)) by omega]
    symm
    refine ext_j ?_
    rw [List.getElem?_append_right (by omega), show E0.length + (1 + q) - E0.length = q + 1 by omega]
    show (m.map rowO)[q]? = _
    rw [List.getElem?_map, List.getElem?_eq_getElem (by omega), List.getD_eq_getElem?_getD, List.getElem?_eq_getElem (by omega)]
    rfl
  · rw [if_neg h]
    by_cases h1 : i < O.length + E0.length
    · unfold ext
      have hs : (O.set k u).length = O.length := List.length_set
      by_cases h2 : i < (O.set k u).length
      · rw [List.getElem?_append_left h2, List.getElem?_append_left h2]
      · have hlt : i - (O.set k u).length < E0.length := by omega
        have g : ∀ m : Mach, (O.set k u ++ (E0 ++ gridE b m))[i]? = E0[i - (O.set k u).length]? := fun m => by
          rw [List.getElem?_append_right (by omega), List.getElem?_append_left hlt]
        rw [g, g]
    · by_cases h3 : i = b
      · subst h3
        rw [hb]
        have e1 : ∀ m : Mach, (ext O k u (E0 ++ gridE (O.length + E0.length) m))[O.length + E0.length]? = some (.lst (outL (O.length + E0.length) m.length)) := fun m => ext_j (by rw [List.getElem?_append_right (Nat.le_refl _), Nat.sub_self]; rfl)
        rw [e1, e1, hl]
      · rw [List.getElem?_eq_none (by rw [ext_len, List.length_append, gridE_len]; omega), List.getElem?_eq_none (by rw [ext_len, List.length_append, gridE_len]; omega)]
theorem grid_at {O : Sto} {k b : Nat} {u : Ob} {E0 : List Ob} {m : Mach} (hb : b = O.length + E0.length) : GridAt (ext O k u (E0 ++ gridE b m)) b m := by
  subst hb
  refine ⟨ext_j (by rw [List.getElem?_append_right (Nat.le_refl _), Nat.sub_self]; rfl), fun q r hq => ?_⟩
  rw [show O.length + E0.length + 1 + q = O.length + (E0.length + (1 + q)) by omega]
  refine ext_j ?_
  rw [List.getElem?_append_right (by omega), show E0.length + (1 + q) - E0.length = q + 1 by omega]
  show (m.map rowO)[q]? = _
  rw [List.getElem?_map, hq]
  rfl
theorem clOb_row {n : Nat} {r : List Rule} : clOb n (rowO r) := fun c hc => by
  obtain ⟨d, _, rfl⟩ := List.mem_map.mp hc
  trivial
theorem clo_rows {n b : Nat} {m : Mach} : ∀ p ∈ rowsOs b m, clOb n p.2 := fun p hp => by
  unfold rowsOs at hp
  obtain ⟨q, _, rfl⟩ := List.mem_map.mp hp
  exact clOb_row
theorem out_get {b n i : Nat} (h : i < n) : (outL b n)[i]? = some (.o (b + 1 + i)) := by
  unfold outL
  rw [List.getElem?_map, List.getElem?_range h]; rfl
def NeedD (S Y : Int) (d : PyData) : Prop := d = .none ∨ ∃ s x, d = .tuple [.int s, .int x] ∧ 0 ≤ s ∧ s < S ∧ 0 ≤ x ∧ x < Y
def sp_needed : SpT := fun cs O R _ => ∃ j n m S Y, cs = [.o j, .d (.int ((n : Nat) : Int))] ∧ GridAt O j m ∧ OkMach m S Y ∧ n ≤ 1000 ∧ ∀ d, NeedD S Y d → R (.d d) O
def sp_machG : SpT := fun cs O R _ => ∃ k u, cs = [.o k] ∧ O[k]? = some u ∧ IsStrm u ∧ ∀ m S Y u', OkMach m S Y → IsStrm u' → R (.d (machD m)) (O.set k u')
theorem machG_use {k : Nat} {u : Ob} {O : Sto} {R : C → Sto → Prop} {RX : Value → Sto → Prop} (h1 : O[k]? = some u) (h2 : IsStrm u) (h5 : ∀ m S Y u', OkMach m S Y → IsStrm u' → R (.d (machD m)) (O.set k u')) : sp_machG [.o k] O R RX := ⟨k, u, rfl, h1, h2, h5⟩
/-- cells of a tape, symbols below Y -/
structure TpS (t : Tp) (Y : Int) (i : Nat) : Prop where
  len : t.length ≤ i
  sym : ∀ x, 0 ≤ look t x ∧ look t x < Y
theorem tpS_nil {Y : Int} (h : 0 < Y) : TpS [] Y 0 := ⟨Nat.le_refl _, fun x => ⟨Int.le_refl _, h⟩⟩
theorem tpS_put {t : Tp} {Y v p : Int} {i : Nat} (h : TpS t Y i) (h0 : 0 ≤ v) (h1 : v < Y) : TpS (putI t p v) Y (i + 1) := by
  refine ⟨Nat.le_trans putI_len (Nat.succ_le_succ h.len), fun x => ?_⟩
  rw [look_put]
  split
  · exact ⟨h0, h1⟩
  · exact h.sym x
theorem mget {m : Mach} {S Y i : Int} (h : OkMach m S Y) (h0 : 0 ≤ i) (h1 : i < S) : ∃ r, m[i.toNat]? = some r ∧ r ∈ m ∧ (r.length : Int) = Y := by
  have hl := h.len
  have hi : i.toNat < m.length := by omega
  exact ⟨m[i.toNat], List.getElem?_eq_getElem hi, List.getElem_mem hi, h.row _ (List.getElem_mem hi)⟩
theorem rget {r : List Rule} {Y i : Int} (h : (r.length : Int) = Y) (h0 : 0 ≤ i) (h1 : i < Y) : ∃ t, r[i.toNat]? = some t ∧ t ∈ r := by
  have hi : i.toNat < r.length := by omega
  exact ⟨r[i.toNat], List.getElem?_eq_getElem hi, List.getElem_mem hi⟩
theorem menu_sy {v : Int} {d : PyData} (h : ([.int 2, .int 2, .int 2, .int 3, .int 4] : List PyData)[v.toNat]? = some d) : ∃ y, d = .int y ∧ 2 ≤ y ∧ y ≤ 4 := by
  have hm := List.mem_of_getElem? h
  simp only [List.mem_cons, List.not_mem_nil, or_false] at hm
  rcases hm with e | e | e | e | e <;> exact ⟨_, e, by decide, by decide⟩
theorem menu_st {v : Int} {d : PyData} (h : ([.int 2, .int 3, .int 2, .int 3, .int 1, .int 4] : List PyData)[v.toNat]? = some d) : ∃ y, d = .int y ∧ 1 ≤ y ∧ y ≤ 4 := by
  have hm := List.mem_of_getElem? h
  simp only [List.mem_cons, List.not_mem_nil, or_false] at hm
  rcases hm with e | e | e | e | e | e <;> exact ⟨_, e, by decide, by decide⟩
theorem menu_stop {v : Int} {d : PyData} (h : ([.int 20, .int 6, .int 9] : List PyData)[v.toNat]? = some d) : ∃ y, d = .int y ∧ 1 ≤ y ∧ y ≤ 20 := by
  have hm := List.mem_of_getElem? h
  simp only [List.mem_cons, List.not_mem_nil, or_false] at hm
  rcases hm with e | e | e <;> exact ⟨_, e, by decide, by decide⟩
/-- all rules plain stops -/
theorem ok_plain {S Y : Int} (hS1 : 1 ≤ S) (hS4 : S ≤ 4) (hY2 : 2 ≤ Y) (hY4 : Y ≤ 4) : OkMach (List.replicate S.toNat (List.replicate Y.toNat ((1, 1, -1) : Rule))) S Y := by
  refine ⟨by simp; omega, hS1, hS4, hY2, hY4, fun r hr => ?_, fun r hr t ht => ?_⟩
  · obtain ⟨_, rfl⟩ := List.mem_replicate.mp hr
    simp; omega
  · obtain ⟨_, rfl⟩ := List.mem_replicate.mp hr
    obtain ⟨_, rfl⟩ := List.mem_replicate.mp ht
    exact ⟨by decide, by show (1 : Int) < Y; omega, .inr rfl, by decide, by show (-1 : Int) < S; omega⟩
theorem ok_setRule {m : Mach} {S Y : Int} {i j : Nat} {r : List Rule} {t : Rule} (h : OkMach m S Y) (hr : m[i]? = some r) (ht : OkRule S Y t) : OkMach (m.set i (r.set j t)) S Y := by
  have hm : r ∈ m := List.mem_of_getElem? hr
  refine ⟨by rw [List.length_set]; exact h.len, h.s1, h.s4, h.y2, h.y4, fun q hq => ?_, fun q hq z hz => ?_⟩
  · rcases List.mem_or_eq_of_mem_set hq with e | e
    · exact h.row q e
    · subst e; rw [List.length_set]; exact h.row r hm
  · rcases List.mem_or_eq_of_mem_set hq with e | e
    · exact h.rul q e z hz
    · subst e
      rcases List.mem_or_eq_of_mem_set hz with e | e
      · exact h.rul r hm z e
      · subst e; exact ht
theorem need_tup {S Y : Int} {d : PyData} (h : NeedD S Y d) (hn : isN d = false) : ∃ s x, d = .tuple [.int s, .int x] ∧ 0 ≤ s ∧ s < S ∧ 0 ≤ x ∧ x < Y := by
  rcases h with rfl | h
  · cases hn
  · exact h
theorem map_repl {α : Type} {β : Type} {f : α → β} {n : Nat} {x : α} : (List.replicate n x).map f = List.replicate n (f x) := List.map_replicate
theorem rng_const {n : Nat} {d : PyData} : ((rng 0 n).map fun _ => d) = List.replicate n d := by
  unfold rng
  rw [List.map_map]
  induction n with
  | zero => rfl
  | succ n ih => rw [List.range_succ, List.map_append, ih, List.replicate_succ']; rfl
/-- the rows as they are made -/
def growE (B0 : List Ob) (b i : Nat) (r0 : List Rule) : List Ob := B0 ++ (.lst (outL b i) :: List.replicate i (rowO r0))
theorem grow_0 {B0 : List Ob} {b : Nat} {r0 : List Rule} : growE B0 b 0 r0 = B0 ++ [.lst []] := rfl
theorem grow_at {O : Sto} {k b i : Nat} {u : Ob} {B0 : List Ob} {r0 : List Rule} (hb : b = O.length + B0.length) : (ext O k u (growE B0 b i r0))[b]? = some (.lst (outL b i)) := by
  subst hb
  exact ext_j (by unfold growE; rw [List.getElem?_append_right (Nat.le_refl _), Nat.sub_self]; rfl)
theorem outL_succ {b i : Nat} : outL b (i + 1) = outL b i ++ [.o (b + 1 + i)] := by
  unfold outL
  rw [List.range_succ, List.map_append]; rfl
theorem outL_len {b i : Nat} : (outL b i).length = i := by simp [outL]
theorem grow_step {O : Sto} {k b i : Nat} {u : Ob} {B0 : List Ob} {r0 : List Rule} (hb : b = O.length + B0.length) : List.set (ext O k u (growE B0 b i r0 ++ [rowO r0])) b (.lst (outL b (i + 1))) = ext O k u (growE B0 b (i + 1) r0) := by
  subst hb
  rw [ext_set_j]
  unfold growE
  rw [List.append_assoc, List.set_append_right _ _ (Nat.le_refl _), Nat.sub_self, List.replicate_succ']
  rfl
theorem grow_len {B0 : List Ob} {b i : Nat} {r0 : List Rule} : (growE B0 b i r0).length = B0.length + (i + 1) := by simp [growE]
theorem grow_full {B0 : List Ob} {b n : Nat} {r0 : List Rule} : growE B0 b n r0 = B0 ++ gridE b (List.replicate n r0) := by
  unfold growE gridE
  rw [List.length_replicate, List.map_replicate]
theorem grow_at2 {O : Sto} {k b i : Nat} {u x : Ob} {B0 : List Ob} {r0 : List Rule} (hb : b = O.length + B0.length) : (ext O k u (growE B0 b i r0 ++ [x]))[b]? = some (.lst (outL b i)) := by
  subst hb
  exact ext_j (by unfold growE; rw [List.append_assoc, List.getElem?_append_right (Nat.le_refl _), Nat.sub_self]; rfl)
theorem grid_at2 {O : Sto} {k b : Nat} {u : Ob} {E0 F : List Ob} {m : Mach} (hb : b = O.length + E0.length) : GridAt (ext O k u (E0 ++ gridE b m ++ F)) b m := by
  have h := grid_at (k := k) (u := u) (m := m) hb
  rw [← ext_push]
  exact ⟨o_app h.out, fun q r hq => o_app (h.row q r hq)⟩
theorem grid_set {O : Sto} {k b x : Nat} {s : Int} {u : Ob} {B0 : List Ob} {m : Mach} {r : List Rule} {t : Rule} (hb : b = O.length + B0.length) (hr : m[s.toNat]? = some r) : List.set (ext O k u (B0 ++ gridE b m)) (b + 1 + s.toNat) (.lst (((r.map ruleD).map C.d).set x (.d (ruleD t)))) = ext O k u (B0 ++ gridE b (m.set s.toNat (r.set x t))) := by
  subst hb
  rw [show O.length + B0.length + 1 + s.toNat = O.length + (B0.length + (1 + s.toNat)) by omega, ext_set_j, List.set_append_right _ _ (by omega), show B0.length + (1 + s.toNat) - B0.length = s.toNat + 1 by omega]
  unfold gridE
  rw [List.length_set, List.map_set]
  show ext O k u (B0 ++ (_ :: (m.map rowO).set s.toNat _)) = _
  rw [show (Ob.lst (((r.map ruleD).map C.d).set x (.d (ruleD t)))) = rowO (r.set x t) by unfold rowO; rw [List.map_set, List.map_set]]
end K

set_option Elab.async false
set_option linter.all false
set_option maxRecDepth 100000
set_option maxHeartbeats 2000000
namespace K
open PySem PySem.Spec PyProof.Rows L2 T
/-! N12m: normal forms. -/
abbrev plainR : Rule := (1, 1, -1)
def namesF (l : List Int) (n : Nat) : List Int := (rg n).map fun x => (((nubF [] ([0] ++ l ++ rg n)).idxOf x : Nat) : Int)
/-! nubF -/
theorem addN_mem {l : List Int} {x y : Int} : y ∈ addN l x ↔ y ∈ l ∨ y = x := by
  unfold addN
  split
  · rename_i h
    constructor
    · exact .inl
    · rintro (z | z)
      · exact z
      · exact z ▸ h
  · simp
theorem nub_mem : ∀ {xs acc : List Int} {y : Int}, y ∈ nubF acc xs ↔ y ∈ acc ∨ y ∈ xs
  | [], acc, y => by rw [nubF_nil]; simp
  | x :: xs, acc, y => by
    rw [nubF_cons, nub_mem, addN_mem, List.mem_cons]
    constructor
    · rintro ((h | h) | h)
      · exact .inl h
      · exact .inr (.inl h)
      · exact .inr (.inr h)
    · rintro (h | h | h)
      · exact .inl (.inl h)
      · exact .inl (.inr h)
      · exact .inr h
theorem addN_nd {l : List Int} {x : Int} (h : l.Nodup) : (addN l x).Nodup := by
  unfold addN
  split
  · exact h
  · rename_i hx
    rw [List.nodup_append]
    exact ⟨h, by simp, fun a ha b hb => by have : b = x := by simpa using hb
                                           subst this; exact fun e => hx (e ▸ ha)⟩
theorem nub_nd : ∀ {xs acc : List Int}, acc.Nodup → (nubF acc xs).Nodup
  | [], _, h => h
  | x :: xs, acc, h => by rw [nubF_cons]; exact nub_nd (addN_nd h)
theorem nub_app {xs ys acc : List Int} : nubF acc (xs ++ ys) = nubF (nubF acc xs) ys := by unfold nubF; rw [List.foldl_append]
theorem addN_head {l : List Int} {x a : Int} (h : l.head? = some a) : (addN l x).head? = some a := by
  unfold addN
  split
  · exact h
  · cases l with
    | nil => cases h
    | cons b l => exact h
theorem nub_head : ∀ {xs acc : List Int} {a : Int}, acc.head? = some a → (nubF acc xs).head? = some a
  | [], _, _, h => h
  | x :: xs, acc, a, h => by rw [nubF_cons]; exact nub_head (addN_head h)
theorem nub_nub {xs acc : List Int} : nubF acc (nubF [] xs) = nubF acc xs := by
  suffices h : ∀ (xs a acc : List Int), nubF acc (nubF a xs) = nubF (nubF acc a) xs by
    have := h xs [] acc
    rwa [nubF_nil] at this
  intro xs
  induction xs with
  | nil => intro a acc; rfl
  | cons x xs ih =>
    intro a acc
    rw [nubF_cons, nubF_cons, ih]
    congr 1
    unfold addN
    by_cases hx : x ∈ a
    · rw [if_pos hx, if_pos (nub_mem.mpr (.inr hx))]
    · rw [if_neg hx]
      rw [nub_app]
      rfl
theorem nub_fil {xs acc : List Int} (hx : xs.Nodup) : nubF acc xs = acc ++ xs.filter fun x => decide (x ∉ acc) := by
  induction xs generalizing acc with
  | nil => simp [nubF_nil]
  | cons x xs ih =>
    rw [List.nodup_cons] at hx
    rw [nubF_cons, ih hx.2]
    by_cases h : x ∈ acc
    · rw [addN_in h, List.filter_cons_of_neg (by simpa using h)]
    · rw [addN_out h, List.filter_cons_of_pos (by simpa using h), List.append_assoc]
      congr 1
      show x :: _ = x :: _
      congr 1
      refine List.filter_congr fun y hy => ?_
      have : y ≠ x := fun e => hx.1 (e ▸ hy)
      simp [this]
/-! the order -/
theorem ord_perm {l : List Int} {n : Nat} (hn : 1 ≤ n) (hl : ∀ x ∈ l, 0 ≤ x ∧ x < n) : (nubF [] ([0] ++ l ++ rg n)).Perm (rg n) ∧ (nubF [] ([0] ++ l ++ rg n)).head? = some 0 := by
  have hnd : (nubF [] ([0] ++ l ++ rg n)).Nodup := nub_nd List.nodup_nil
  have hmem : ∀ x, x ∈ nubF [] ([0] ++ l ++ rg n) ↔ x ∈ rg n := fun x => by
    rw [nub_mem]
    constructor
    · rintro (h | h)
      · cases h
      · rcases List.mem_append.mp h with h | h
        · rcases List.mem_append.mp h with h | h
          · have : x = 0 := by simpa using h
            subst this; exact rg_mem.mpr ⟨Int.le_refl _, by omega⟩
          · exact rg_mem.mpr (hl x h)
        · exact h
    · exact fun h => .inr (List.mem_append_right _ h)
  refine ⟨(List.perm_ext_iff_of_nodup hnd rg_nodup).mpr hmem, ?_⟩
  rw [List.append_assoc, nub_app]
  exact nub_head rfl
theorem idx_perm {l : List Int} {n : Nat} (hp : l.Perm (rg n)) (hn : l.Nodup) : ((rg n).map fun x => ((l.idxOf x : Nat) : Int)).Perm (rg n) := by
  have h1 : ((rg n).map fun x => ((l.idxOf x : Nat) : Int)).Perm (l.map fun x => ((l.idxOf x : Nat) : Int)) := (hp.symm.map _)
  refine h1.trans ?_
  have hl : l.length = n := by rw [hp.length_eq, rg_len]
  have h2 : (l.map fun x => ((l.idxOf x : Nat) : Int)) = rg n := by
    apply List.ext_getElem?
    intro i
    rw [List.getElem?_map]
    by_cases hi : i < n
    · rw [rg_get hi, List.getElem?_eq_getElem (by omega)]
      have hi2 : i < l.length := by omega
      exact congrArg (fun z : Nat => some (z : Int)) (idx_get hn (List.getElem?_eq_getElem hi2))
    · rw [List.getElem?_eq_none (by omega), List.getElem?_eq_none (by rw [rg_len]; omega)]; rfl
  rw [h2]
theorem names_ok {l : List Int} {n : Nat} (hn : 1 ≤ n) (hl : ∀ x ∈ l, 0 ≤ x ∧ x < n) : Naming (namesF l n) n := by
  obtain ⟨h1, h2⟩ := ord_perm hn hl
  refine ⟨idx_perm h1 (nub_nd List.nodup_nil), ?_⟩
  unfold namesF
  rw [List.head?_map]
  obtain ⟨n', rfl⟩ : ∃ n', n = n' + 1 := ⟨n - 1, by omega⟩
  have : (rg (n' + 1)).head? = some 0 := by
    have := rg_get (n := n' + 1) (k := 0) (by omega)
    rw [List.head?_eq_getElem?]; exact this
  rw [this]
  show some _ = some _
  cases hq : nubF [] ([0] ++ l ++ rg (n' + 1)) with
  | nil => rw [hq] at h2; cases h2
  | cons a r =>
    rw [hq] at h2
    have : a = 0 := by simpa using h2
    subst this
    simp
theorem names_nub {l : List Int} {n : Nat} : (nubF [] ([0] ++ l ++ rg n)) = (nubF [0] l) ++ (rg n).filter fun x => decide (x ∉ nubF [0] l) := by
  rw [nub_app, nub_app]
  have : nubF [] [0] = [(0 : Int)] := rfl
  rw [this]
  exact nub_fil rg_nodup
theorem names_len {l : List Int} {n : Nat} : (namesF l n).length = n := by unfold namesF; rw [List.length_map, rg_len]
/-! the rules that a run uses -/
def rulP (m : Mach) (p : Int × Int) : Rule := ruleAt m p.1 p.2
theorem trP_bound {m : Mach} {S Y : Int} (hm : OkMach m S Y) : ∀ {n : Nat} {w : WS} {j : Int}, OkS j S Y w → ∀ p ∈ trP m n w, (0 ≤ p.1 ∧ p.1 < S) ∧ 0 ≤ p.2 ∧ p.2 < Y
  | 0, _, _, _, p, hp => by cases hp
  | n + 1, w, j, h, p, hp => by
    by_cases e : w.1 = -1
    · rw [trP_stop (.inr e)] at hp; cases hp
    · rw [trP_go e] at hp
      rcases List.mem_cons.mp hp with z | z
      · subst z
        have := h.s0
        exact ⟨⟨by show 0 ≤ w.1; omega, h.s1⟩, h.sym _⟩
      · exact trP_bound hm (okS_take h hm e) p z
theorem tr_bound {m : Mach} {S Y : Int} (hm : OkMach m S Y) {n : Nat} : ∀ p ∈ trP m n (0, 0, []), (0 ≤ p.1 ∧ p.1 < S) ∧ 0 ≤ p.2 ∧ p.2 < Y := trP_bound hm (okS_zero hm.s1 hm.y2)
theorem rule_in {m : Mach} {S Y : Int} (hm : OkMach m S Y) {p : Int × Int} (h : (0 ≤ p.1 ∧ p.1 < S) ∧ 0 ≤ p.2 ∧ p.2 < Y) : OkRule S Y (rulP m p) := by
  obtain ⟨hr1, hr2, hr3⟩ := rowAt hm h.1.1 h.1.2
  exact (ruleAt_ok hr2 hm hr3 h.2.1 h.2.2).2
def goR (r : Rule) : Bool := !decide (r.2.2 = -1)
def stsP (rs : List Rule) : List Int := (rs.filter goR).map (·.2.2)
def sysP (rs : List Rule) : List Int := (rs.filter goR).map (·.1)
def upRow (ps : List (Int × Int)) (s : Int) : Nat → List Rule → List Rule
  | _, [] => []
  | x, r :: rs => (if (s, (x : Int)) ∈ ps then r else plainR) :: upRow ps s (x + 1) rs
def upM (ps : List (Int × Int)) : Nat → Mach → Mach
  | _, [] => []
  | s, r :: rs => upRow ps s 0 r :: upM ps (s + 1) rs
def stopR (r : Rule) : Rule := if r.2.2 = -1 then plainR else r
def stopM (m : Mach) : Mach := m.map (·.map stopR)
def leftFirst (rs : List Rule) : Bool := match rs with | [] => false | r :: _ => decide (r.2.1 = -1)
def nfM (m : Mach) (n : Nat) : Mach :=
  let ps := trP m n (0, 0, [])
  let rs := ps.map (rulP m)
  stopM (renM (namesF (stsP rs) m.length) (namesF (sysP rs) (m.getD 0 []).length) (if leftFirst rs = true then mirM (upM ps 0 m) else upM ps 0 m))
theorem upRow_len {ps : List (Int × Int)} {s : Int} : ∀ {rs : List Rule} {x : Nat}, (upRow ps s x rs).length = rs.length
  | [], _ => rfl
  | _ :: rs, x => congrArg (· + 1) (upRow_len (rs := rs) (x := x + 1))
theorem upM_len {ps : List (Int × Int)} : ∀ {m : Mach} {s : Nat}, (upM ps s m).length = m.length
  | [], _ => rfl
  | _ :: m, s => congrArg (· + 1) (upM_len (m := m) (s := s + 1))
theorem upRow_get {ps : List (Int × Int)} {s : Int} : ∀ {rs : List Rule} {x i : Nat} {r : Rule}, rs[i]? = some r → (upRow ps s x rs)[i]? = some (if (s, ((x + i : Nat) : Int)) ∈ ps then r else plainR)
  | [], _, _, _, h => by simp at h
  | a :: rs, x, 0, r, h => by
    have : a = r := by simpa using h
    subst this; rfl
  | a :: rs, x, i + 1, r, h => by
    have := upRow_get (ps := ps) (s := s) (x := x + 1) (i := i) (rs := rs) (by simpa using h)
    rw [show x + 1 + i = x + (i + 1) by omega] at this
    exact this
theorem upM_get {ps : List (Int × Int)} : ∀ {m : Mach} {s i : Nat} {r : List Rule}, m[i]? = some r → (upM ps s m)[i]? = some (upRow ps ((s + i : Nat) : Int) 0 r)
  | [], _, _, _, h => by simp at h
  | a :: m, s, 0, r, h => by
    have : a = r := by simpa using h
    subst this; rfl
  | a :: m, s, i + 1, r, h => by
    have := upM_get (ps := ps) (s := s + 1) (i := i) (m := m) (by simpa using h)
    rw [show s + 1 + i = s + (i + 1) by omega] at this
    exact this
theorem ok_plainR {S Y : Int} (hS : 1 ≤ S) (hY : 2 ≤ Y) : OkRule S Y plainR := ⟨by decide, by show (1 : Int) < Y; omega, .inr rfl, by decide, by show (-1 : Int) < S; omega⟩
theorem ok_up {m : Mach} {S Y : Int} {ps : List (Int × Int)} (hm : OkMach m S Y) : OkMach (upM ps 0 m) S Y := by
  refine ⟨by rw [upM_len]; exact hm.len, hm.s1, hm.s4, hm.y2, hm.y4, fun r hr => ?_, fun r hr t ht => ?_⟩
  · obtain ⟨i, hi, rfl⟩ := List.mem_iff_getElem.mp hr
    have hi' : i < m.length := by rwa [upM_len] at hi
    have := upM_get (ps := ps) (s := 0) (List.getElem?_eq_getElem hi')
    rw [List.getElem?_eq_getElem hi] at this
    rw [Option.some.inj this, upRow_len]
    exact hm.row _ (List.getElem_mem hi')
  · obtain ⟨i, hi, rfl⟩ := List.mem_iff_getElem.mp hr
    have hi' : i < m.length := by rwa [upM_len] at hi
    have e := upM_get (ps := ps) (s := 0) (List.getElem?_eq_getElem hi')
    rw [List.getElem?_eq_getElem hi] at e
    rw [Option.some.inj e] at ht
    obtain ⟨j, hj, rfl⟩ := List.mem_iff_getElem.mp ht
    have hj' : j < (m[i]).length := by rwa [upRow_len] at hj
    have e2 := upRow_get (ps := ps) (s := ((0 + i : Nat) : Int)) (x := 0) (List.getElem?_eq_getElem hj')
    rw [List.getElem?_eq_getElem hj] at e2
    rw [Option.some.inj e2]
    split
    · exact hm.rul _ (List.getElem_mem hi') _ (List.getElem_mem hj')
    · exact ok_plainR hm.s1 hm.y2
theorem ok_stop {m : Mach} {S Y : Int} (hm : OkMach m S Y) : OkMach (stopM m) S Y := by
  refine ⟨by unfold stopM; rw [List.length_map]; exact hm.len, hm.s1, hm.s4, hm.y2, hm.y4, fun r hr => ?_, fun r hr t ht => ?_⟩
  · obtain ⟨q, hq, rfl⟩ := List.mem_map.mp hr
    rw [List.length_map]; exact hm.row q hq
  · obtain ⟨q, hq, rfl⟩ := List.mem_map.mp hr
    obtain ⟨z, hz, rfl⟩ := List.mem_map.mp ht
    unfold stopR
    split
    · exact ok_plainR hm.s1 hm.y2
    · exact hm.rul q hq z hz
/-! as data -/
def plainD : PyData := ruleD plainR
def gInD (ps : List (Int × Int)) (s : Int) : PyData → PyData
  | .tuple [.int x, r] => if (s, x) ∈ ps then r else plainD
  | _ => .none
def gOutD (ps : List (Int × Int)) : PyData → PyData
  | .tuple [.int s, .tuple rs] => .tuple ((enumD 0 rs).map (gInD ps s))
  | _ => .none
theorem gIn_row {ps : List (Int × Int)} {s : Int} : ∀ {rs : List Rule} {x : Nat}, (enumD x (rs.map ruleD)).map (gInD ps s) = (upRow ps s x rs).map ruleD
  | [], _ => rfl
  | r :: rs, x => by
    show gInD ps s (.tuple [.int (x : Nat), ruleD r]) :: (enumD (x + 1) (rs.map ruleD)).map (gInD ps s) = _
    rw [gIn_row]
    show _ = ruleD (if _ then _ else _) :: _
    congr 1
    show (if _ then _ else _) = _
    split <;> rfl
theorem gOut_m {ps : List (Int × Int)} : ∀ {m : Mach} {s : Nat}, (enumD s (m.map rowD)).map (gOutD ps) = (upM ps s m).map rowD
  | [], _ => rfl
  | r :: m, s => by
    show gOutD ps (.tuple [.int (s : Nat), rowD r]) :: (enumD (s + 1) (m.map rowD)).map (gOutD ps) = _
    rw [gOut_m]
    show PyData.tuple ((enumD 0 (r.map ruleD)).map (gInD ps s)) :: _ = _
    rw [gIn_row]; rfl
def stopD : PyData → PyData
  | .tuple [w, mv, .int q] => if q = -1 then plainD else .tuple [w, mv, .int q]
  | _ => .none
def stopRD : PyData → PyData
  | .tuple rs => .tuple (rs.map stopD)
  | _ => .none
theorem stop_rule {r : Rule} : stopD (ruleD r) = ruleD (stopR r) := by
  show (if _ then _ else _) = ruleD (if _ then _ else _)
  split <;> rfl
theorem stop_row {r : List Rule} : stopRD (rowD r) = rowD (r.map stopR) := by
  show PyData.tuple ((r.map ruleD).map stopD) = .tuple ((r.map stopR).map ruleD)
  rw [List.map_map, List.map_map]
  congr 1
  exact List.map_congr_left fun _ _ => stop_rule
theorem stop_mach {m : Mach} : (m.map rowD).map stopRD = (stopM m).map rowD := by
  unfold stopM
  rw [List.map_map, List.map_map]
  exact List.map_congr_left fun _ _ => stop_row
end K

set_option Elab.async false
set_option linter.all false
set_option maxRecDepth 100000
set_option maxHeartbeats 2000000
namespace K
open PySem PySem.Spec PyProof.Rows L2 T
/-! K10m: runs under a change of names, of direction, of place; runs that see only a part of a tape -/
structure Sy (m m' : Mach) (S Y : Int) (σ π δ ρ : Int → Int) : Prop where
  inj : ∀ x y, π x = π y → x = y
  sur : ∀ y, ∃ x, π x = y
  stop : ∀ s, -1 ≤ s → s < S → (σ s = -1 ↔ s = -1)
  rule : ∀ s x, 0 ≤ s → s < S → 0 ≤ x → x < Y → ruleAt m' (σ s) (ρ x) = (ρ (ruleAt m s x).1, δ (ruleAt m s x).2.1, σ (ruleAt m s x).2.2)
  mv : ∀ p d, π (p + d) = π p + δ d
def Rl (σ π ρ : Int → Int) (s s' : WS) : Prop := s'.1 = σ s.1 ∧ s'.2.1 = π s.2.1 ∧ ∀ x, look s'.2.2 (π x) = ρ (look s.2.2 x)
section
variable {m m' : Mach} {S Y : Int} {σ π δ ρ : Int → Int}
theorem rl_take (h : Sy m m' S Y σ π δ ρ) {n : Int} {s s' : WS} (ok : OkS n S Y s) (hs : s.1 ≠ -1) (r : Rl σ π ρ s s') : Rl σ π ρ (takeT m s) (takeT m' s') := by
  obtain ⟨st, pl, t⟩ := s
  obtain ⟨st', pl', t'⟩ := s'
  obtain ⟨r1, r2, r3⟩ := r
  have b1 := ok.s0
  have b2 := ok.s1
  have b3 := ok.sym
  dsimp only at r1 r2 r3 hs b1 b2 b3
  subst r1 r2
  have e := h.rule st (look t pl) (by omega) b2 (b3 pl).1 (b3 pl).2
  unfold takeT
  dsimp only
  rw [r3, e]
  generalize ruleAt m st (look t pl) = q
  refine ⟨rfl, (h.mv _ _).symm, fun x => ?_⟩
  show look (putI t' (π pl) (ρ q.1)) (π x) = ρ (look (putI t pl q.1) x)
  rw [look_put, look_put]
  by_cases hx : x = pl
  · rw [if_pos hx, if_pos (congrArg π hx)]
  · rw [if_neg hx, if_neg (fun z => hx (h.inj _ _ z)), r3]
theorem rl_run (h : Sy m m' S Y σ π δ ρ) (hm : OkMach m S Y) : ∀ {k : Nat} {n : Int} {s s' : WS}, OkS n S Y s → Rl σ π ρ s s' → (runT m' k s').1 = (runT m k s).1 ∧ Rl σ π ρ (runT m k s).2 (runT m' k s').2
  | 0, _, _, _, _, r => ⟨rfl, r⟩
  | k + 1, n, s, s', ok, r => by
    have hst := h.stop s.1 ok.s0 ok.s1
    rw [← r.1] at hst
    by_cases e : s.1 = -1
    · rw [run_stop2 (.inr e), run_stop2 (.inr (hst.mpr e))]; exact ⟨rfl, r⟩
    · rw [run_stepS e, run_stepS (fun z => e (hst.mp z))]
      obtain ⟨q1, q2⟩ := rl_run h hm (k := k) (okS_take ok hm e) (rl_take h ok e r)
      exact ⟨congrArg (· + 1) q1, q2⟩
/-- where two runs end -/
theorem rl_end {μ : Cfg → Cfg} {n n' : Int} (h : Sy m m' S Y σ π δ ρ) {s s' : WS} (ok : OkS n S Y s) (r : Rl σ π ρ s s') (hμ : ∀ c, OkZ n S Y c → Rl σ π ρ (startC c) (startC (μ c)) ∧ OkZ n' S Y (μ c)) : endW s' = μ (endW s) := by
  obtain ⟨q1, q2⟩ := hμ (endW s) ok.endZ
  have l : Like (startC (endW s)) s := like_start
  have l2 : Like s' (startC (μ (endW s))) := by
    refine ⟨by rw [r.1, q1.1, l.1], by rw [r.2.1, q1.2.1, l.2.1], fun y => ?_⟩
    obtain ⟨x, rfl⟩ := h.sur y
    rw [r.2.2, q1.2.2, l.2.2]
  rw [like_end l2, end_start q2]
theorem rl_all {μ : Cfg → Cfg} {n n' : Int} {k : Nat} (h : Sy m m' S Y σ π δ ρ) (hm : OkMach m S Y) {c : Cfg} (ok : OkZ n S Y c) {n2 n3 : Int} (h0 : Rl σ π ρ (startC c) (startC (μ c))) (hμ : ∀ c, OkZ (n + k) S Y c → Rl σ π ρ (startC c) (startC (μ c)) ∧ OkZ n' S Y (μ c)) :
    (runT m' k (startC (μ c))).1 = (runT m k (startC c)).1 ∧ endW (runT m' k (startC (μ c))).2 = μ (endW (runT m k (startC c)).2) := by
  have i := okS_init ok (by have := hm.y2; omega)
  obtain ⟨e1, e2⟩ := rl_run h hm (k := k) i h0
  exact ⟨e1, rl_end h (okS_run hm (k := k) i) e2 hμ⟩
end
/-! the looks of a row -/
theorem raw_look_at {f x : Int} {xs : List Int} : look (rawT 0 f xs) x = if f ≤ x ∧ x < f + xs.length then xs.getD (x - f).toNat 0 else 0 := by
  by_cases h : f ≤ x ∧ x < f + xs.length
  · rw [if_pos h]
    have hl : (x - f).toNat < xs.length := by omega
    have q := raw_at0 (f := f) (List.getElem?_eq_getElem hl)
    rw [show f + (((x - f).toNat : Nat) : Int) = x by omega] at q
    rw [q, List.getD_eq_getElem?_getD, List.getElem?_eq_getElem hl]
    rfl
  · rw [if_neg h]
    exact raw_out (by omega)
/-! the other direction -/
def mirC (c : Cfg) : Cfg := (c.1, -c.2.1, if c.2.2.2 = [] then 0 else -(c.2.2.1 + c.2.2.2.length - 1), c.2.2.2.reverse)
theorem getD_rev {xs : List Int} {i : Nat} (h : i < xs.length) : xs.reverse.getD i 0 = xs.getD (xs.length - 1 - i) 0 := by
  rw [List.getD_eq_getElem?_getD, List.getD_eq_getElem?_getD, List.getElem?_reverse h]
theorem sy_mir {m : Mach} {S Y : Int} (hm : OkMach m S Y) : Sy m (mirM m) S Y id (fun x => -x) (fun x => -x) id where
  inj := fun x y h => by have h : -x = -y := h; omega
  sur := fun y => ⟨-y, by show - -y = y; omega⟩
  stop := fun s _ _ => Iff.rfl
  mv := fun p d => by show -(p + d) = -p + -d; omega
  rule := fun s x s0 s1 x0 x1 => by
    obtain ⟨_, hr, hl⟩ := rowAt hm s0 s1
    have hi : s.toNat < m.length := by have := hm.len; omega
    have hj : x.toNat < (m.getD s.toNat []).length := by omega
    show ruleAt (mirM m) s x = mirR (ruleAt m s x)
    unfold ruleAt mirM
    rw [show (m.map (·.map mirR)).getD s.toNat [] = (m.getD s.toNat []).map mirR by
      rw [List.getD_eq_getElem?_getD, List.getElem?_map, List.getElem?_eq_getElem hi, List.getD_eq_getElem?_getD, List.getElem?_eq_getElem hi]; rfl]
    generalize m.getD s.toNat [] = r at hj
    rw [List.getD_eq_getElem?_getD, List.getElem?_map, List.getElem?_eq_getElem hj, List.getD_eq_getElem?_getD, List.getElem?_eq_getElem hj]
    rfl
theorem last_rev {xs : List Int} : xs.reverse.getLast? = xs.head? := by simp
theorem head_rev {xs : List Int} : xs.reverse.head? = xs.getLast? := by simp
theorem okZ_mir {n S Y : Int} {c : Cfg} (h : OkZ n S Y c) : OkZ n S Y (mirC c) := by
  have a1 := h.p0
  have a2 := h.p1
  refine ⟨h.s0, h.s1, by show -n ≤ -c.2.1; omega, by show -c.2.1 ≤ n; omega, fun e => ?_, fun x hx => h.sym x (List.mem_reverse.mp hx), fun e => ?_, fun x hx => h.lst x (by rw [← head_rev]; exact hx), fun x hx => h.hd x (by rw [← last_rev]; exact hx)⟩
  · have e : c.2.2.2 ≠ [] := fun z => e (by show c.2.2.2.reverse = []; rw [z]; rfl)
    have := h.ends e
    have hp : 0 < c.2.2.2.length := List.length_pos_iff.mpr e
    show -n ≤ (if c.2.2.2 = [] then 0 else -(c.2.2.1 + c.2.2.2.length - 1)) ∧ (if c.2.2.2 = [] then 0 else -(c.2.2.1 + c.2.2.2.length - 1)) + (c.2.2.2.reverse.length : Int) ≤ n + 1
    rw [if_neg e, List.length_reverse]
    omega
  · have e : c.2.2.2 = [] := List.reverse_eq_nil_iff.mp e
    exact if_pos e
theorem rl_mir {c : Cfg} : Rl id (fun x => -x) id (startC c) (startC (mirC c)) := by
  refine ⟨rfl, rfl, fun x => ?_⟩
  show look (rawT 0 (if c.2.2.2 = [] then 0 else -(c.2.2.1 + c.2.2.2.length - 1)) c.2.2.2.reverse) (-x) = look (rawT 0 c.2.2.1 c.2.2.2) x
  by_cases e : c.2.2.2 = []
  · rw [e]; rfl
  · rw [if_neg e, raw_look_at, raw_look_at, List.length_reverse]
    by_cases hx : c.2.2.1 ≤ x ∧ x < c.2.2.1 + c.2.2.2.length
    · rw [if_pos (by omega), if_pos hx, getD_rev (by omega)]
      congr 1
      omega
    · rw [if_neg (by omega), if_neg hx]
/-! another place -/
def shC (b : Int) (c : Cfg) : Cfg := (c.1, c.2.1 + b, if c.2.2.2 = [] then 0 else c.2.2.1 + b, c.2.2.2)
theorem sy_sh {m : Mach} {S Y b : Int} : Sy m m S Y id (fun x => x + b) id id where
  inj := fun x y h => by have h : x + b = y + b := h; omega
  sur := fun y => ⟨y - b, by show y - b + b = y; omega⟩
  stop := fun s _ _ => Iff.rfl
  mv := fun p d => by show p + d + b = p + b + d; omega
  rule := fun s x _ _ _ _ => rfl
theorem okZ_sh {n S Y b B : Int} {c : Cfg} (h : OkZ n S Y c) (h0 : -B ≤ b) (h1 : b ≤ B) : OkZ (n + B) S Y (shC b c) := by
  have a1 := h.p0
  have a2 := h.p1
  refine ⟨h.s0, h.s1, by show -(n + B) ≤ c.2.1 + b; omega, by show c.2.1 + b ≤ n + B; omega, fun e => ?_, h.sym, fun e => if_pos e, h.hd, h.lst⟩
  have := h.ends e
  have e : c.2.2.2 ≠ [] := e
  show -(n + B) ≤ (if c.2.2.2 = [] then 0 else c.2.2.1 + b) ∧ (if c.2.2.2 = [] then 0 else c.2.2.1 + b) + (c.2.2.2.length : Int) ≤ n + B + 1
  rw [if_neg e]
  omega
theorem rl_sh {b : Int} {c : Cfg} : Rl id (fun x => x + b) id (startC c) (startC (shC b c)) := by
  refine ⟨rfl, rfl, fun x => ?_⟩
  show look (rawT 0 (if c.2.2.2 = [] then 0 else c.2.2.1 + b) c.2.2.2) (x + b) = look (rawT 0 c.2.2.1 c.2.2.2) x
  by_cases e : c.2.2.2 = []
  · rw [e]; rfl
  · rw [if_neg e, raw_look_at, raw_look_at]
    by_cases hx : c.2.2.1 ≤ x ∧ x < c.2.2.1 + c.2.2.2.length
    · rw [if_pos (by omega), if_pos hx]
      congr 1
      omega
    · rw [if_neg (by omega), if_neg hx]
/-! other names -/
def renS (l : List Int) (s : Int) : Int := if s = -1 then -1 else l.getD s.toNat 0
def renC (st sy : List Int) (c : Cfg) : Cfg := (renS st c.1, c.2.1, c.2.2.1, c.2.2.2.map fun x => sy.getD x.toNat 0)
theorem ruleD_inj {a b : Rule} (h : ruleD a = ruleD b) : a = b := by
  obtain ⟨a1, a2, a3⟩ := a
  obtain ⟨b1, b2, b3⟩ := b
  unfold ruleD at h
  simp at h
  rw [h.1, h.2.1, h.2.2]
theorem rowD_inj {a b : List Rule} (h : rowD a = rowD b) : a = b := by
  have h : a.map ruleD = b.map ruleD := by unfold rowD at h; injection h
  exact List.map_inj_right (fun _ _ e => ruleD_inj e) |>.mp h
theorem nam_zero {l : List Int} {n : Nat} (h : Naming l n) : l.getD 0 0 = 0 := by
  cases l with
  | nil => rfl
  | cons a l => have := h.2; simp at this; rw [this]; rfl
theorem sy_ren {m : Mach} {S Y : Int} {st sy : List Int} (hm : OkMach m S Y) (h1 : Naming st m.length) (h2 : Naming sy Y.toNat) : Sy m (renM st sy m) S Y (renS st) id id (fun x => sy.getD x.toNat 0) where
  inj := fun x y h => h
  sur := fun y => ⟨y, rfl⟩
  mv := fun p d => rfl
  stop := fun s s0 s1 => by
    unfold renS
    by_cases e : s = -1
    · rw [if_pos e]; exact ⟨fun _ => e, fun _ => rfl⟩
    · rw [if_neg e]
      have := (nam_get h1 (i := s.toNat) (by have := hm.len; omega)).1
      exact ⟨fun z => by omega, fun z => absurd z e⟩
  rule := fun s x s0 s1 x0 x1 => by
    have hi : s.toNat < m.length := by have := hm.len; omega
    obtain ⟨_, hr, hl⟩ := rowAt hm s0 s1
    have hj : x.toNat < (m.getD s.toNat []).length := by omega
    have e0 : renS st s = st.getD s.toNat 0 := if_neg (by omega)
    have q1 := ren_at (sy := sy) h1 hi
    have q2 := ren_at2 (st := st) (r := m.getD s.toNat []) (by rw [show (m.getD s.toNat []).length = Y.toNat by omega]; exact h2) hj
    show ruleAt (renM st sy m) (renS st s) (sy.getD x.toNat 0) = renRule st sy (ruleAt m s x)
    rw [e0]
    unfold ruleAt
    rw [List.getElem?_map] at q1 q2
    obtain ⟨r', g1, g2⟩ := Option.map_eq_some_iff.mp q1
    obtain ⟨t', g3, g4⟩ := Option.map_eq_some_iff.mp q2
    have e1 : (renM st sy m).getD (st.getD s.toNat 0).toNat [] = r' := by rw [List.getD_eq_getElem?_getD, g1]; rfl
    have e2 : r' = renRow st sy (m.getD s.toNat []) := rowD_inj g2
    rw [e1, e2, List.getD_eq_getElem?_getD, g3]
    exact ruleD_inj g4
theorem okZ_ren {n S Y : Int} {m : Mach} {st sy : List Int} {c : Cfg} (hm : OkMach m S Y) (h1 : Naming st m.length) (h2 : Naming sy Y.toNat) (h : OkZ n S Y c) : OkZ n S Y (renC st sy c) := by
  have b0 := h.s0
  have b1 := h.s1
  have hy := hm.y2
  have nz : ∀ x, 0 ≤ x → x < Y → x ≠ 0 → sy.getD x.toNat 0 ≠ 0 := fun x x0 x1 hx z => by
    have e0 := idx_get (nam_nodup h2) (nam_get h2 (i := x.toNat) (by omega)).2.2
    have e1 := idx_get (nam_nodup h2) (nam_get h2 (i := 0) (by omega)).2.2
    rw [z] at e0
    rw [nam_zero h2] at e1
    omega
  have hst : -1 ≤ renS st c.1 ∧ renS st c.1 < S := by
    unfold renS
    split
    · omega
    · have := nam_get h1 (i := c.1.toNat) (by have := hm.len; omega)
      have := hm.len
      omega
  refine ⟨hst.1, hst.2, h.p0, h.p1, fun e => ?_, fun x hx => ?_, fun e => h.nil (List.map_eq_nil_iff.mp e), fun x hx => ?_, fun x hx => ?_⟩
  · show -n ≤ c.2.2.1 ∧ c.2.2.1 + ((c.2.2.2.map fun x => sy.getD x.toNat 0).length : Int) ≤ n + 1
    rw [List.length_map]
    exact h.ends fun z => e (by show c.2.2.2.map _ = []; rw [z]; rfl)
  · obtain ⟨y, hy1, rfl⟩ := List.mem_map.mp hx
    have := h.sym y hy1
    have := nam_get h2 (i := y.toNat) (by omega)
    omega
  · have hx : (c.2.2.2.map fun x => sy.getD x.toNat 0).head? = some x := hx
    rw [List.head?_map] at hx
    obtain ⟨y, e1, rfl⟩ := Option.map_eq_some_iff.mp hx
    have := h.sym y (List.mem_of_mem_head? e1)
    exact nz y this.1 this.2 (h.hd y e1)
  · have hx : (c.2.2.2.map fun x => sy.getD x.toNat 0).getLast? = some x := hx
    rw [List.getLast?_map] at hx
    obtain ⟨y, e1, rfl⟩ := Option.map_eq_some_iff.mp hx
    have := h.sym y (List.mem_of_mem_getLast? e1)
    exact nz y this.1 this.2 (h.lst y e1)
theorem rl_ren {n : Nat} {st sy : List Int} {c : Cfg} (h2 : Naming sy n) : Rl (renS st) id (fun x => sy.getD x.toNat 0) (startC c) (startC (renC st sy c)) := by
  refine ⟨rfl, rfl, fun x => ?_⟩
  show look (rawT 0 c.2.2.1 (c.2.2.2.map fun x => sy.getD x.toNat 0)) x = sy.getD (look (rawT 0 c.2.2.1 c.2.2.2) x).toNat 0
  rw [raw_look_at, raw_look_at, List.length_map]
  by_cases hx : c.2.2.1 ≤ x ∧ x < c.2.2.1 + c.2.2.2.length
  · rw [if_pos hx, if_pos hx, List.getD_eq_getElem?_getD, List.getElem?_map, List.getElem?_eq_getElem (show (x - c.2.2.1).toNat < c.2.2.2.length by omega), List.getD_eq_getElem?_getD (l := c.2.2.2), List.getElem?_eq_getElem (show (x - c.2.2.1).toNat < c.2.2.2.length by omega)]
    rfl
  · rw [if_neg hx, if_neg hx]
    exact (nam_zero h2).symm
/-! only a part of a tape -/
def Nr (p R : Int) (s s' : WS) : Prop := s'.1 = s.1 ∧ s'.2.1 = s.2.1 ∧ ∀ x, p - R ≤ x → x ≤ p + R → look s'.2.2 x = look s.2.2 x
theorem nr_run {m : Mach} {S Y p R : Int} (hm : OkMach m S Y) : ∀ {k j : Nat} {n : Int} {s s' : WS}, OkS n S Y s → Nr p R s s' → p - j ≤ s.2.1 → s.2.1 ≤ p + j → ((j + k : Nat) : Int) ≤ R → (runT m k s').1 = (runT m k s).1 ∧ Nr p R (runT m k s).2 (runT m k s').2
  | 0, _, _, _, _, _, r, _, _, _ => ⟨rfl, r⟩
  | k + 1, j, n, s, s', ok, r, h0, h1, hR => by
    obtain ⟨r1, r2, r3⟩ := r
    by_cases e : s.1 = -1
    · rw [run_stop2 (.inr e), run_stop2 (.inr (r1.trans e))]; exact ⟨rfl, r1, r2, r3⟩
    · rw [run_stepS e, run_stepS (fun z => e (r1.symm.trans z))]
      have hq : p - ((j + 1 : Nat) : Int) ≤ (takeT m s).2.1 ∧ (takeT m s).2.1 ≤ p + ((j + 1 : Nat) : Int) := by
        obtain ⟨_, hr2, hr3⟩ := rowAt hm (st := s.1) (by have := ok.s0; omega) ok.s1
        have hr := (ruleAt_ok hr2 hm hr3 (ok.sym s.2.1).1 (ok.sym s.2.1).2).2.mv
        show p - ((j + 1 : Nat) : Int) ≤ s.2.1 + (ruleAt m s.1 (look s.2.2 s.2.1)).2.1 ∧ s.2.1 + (ruleAt m s.1 (look s.2.2 s.2.1)).2.1 ≤ p + ((j + 1 : Nat) : Int)
        omega
      have rt : Nr p R (takeT m s) (takeT m s') := by
        have e3 : look s'.2.2 s'.2.1 = look s.2.2 s.2.1 := by rw [r2]; exact r3 _ (by omega) (by omega)
        unfold takeT
        rw [e3, r1, r2]
        refine ⟨rfl, rfl, fun x x0 x1 => ?_⟩
        show look (putI s'.2.2 s.2.1 _) x = look (putI s.2.2 s.2.1 _) x
        rw [look_put, look_put, r3 x x0 x1]
      obtain ⟨q1, q2⟩ := nr_run hm (k := k) (j := j + 1) (okS_take ok hm e) rt hq.1 hq.2 (by omega)
      exact ⟨congrArg (· + 1) q1, q2⟩
/-! the program's and the law's own words -/
def sp_moved : SpT := fun cs O R _ => ∃ st pl f xs, cs = [.d (.int st), .d (.int pl), .d (.int f), .d (.tuple (List.map PyData.int xs))] ∧ -5000 ≤ pl ∧ pl ≤ 5000 ∧ (xs ≠ [] → -5000 ≤ f ∧ f ≤ 5000) ∧ xs.length ≤ 9000 ∧ R (.d (cfgD (st, pl, if xs = [] then 0 else f, xs))) O
def sp_mirT : SpT := fun cs O R _ => ∃ n S Y c, cs = [.d (cfgD c)] ∧ OkZ n S Y c ∧ n ≤ 2000 ∧ R (.d (cfgD (mirC c))) O
def sp_shT : SpT := fun cs O R _ => ∃ n S Y c b, cs = [.d (cfgD c), .d (.int b)] ∧ OkZ n S Y c ∧ n ≤ 2000 ∧ -1000 ≤ b ∧ b ≤ 1000 ∧ R (.d (cfgD (shC b c))) O
def symC (c : Cfg) (x : Int) : Int := look (rawT 0 c.2.2.1 c.2.2.2) x
def sp_symAt : SpT := fun cs O R _ => ∃ c x, cs = [.d (cfgD c), .d (.int x)] ∧ c.2.2.2.length ≤ 90000 ∧ R (.d (.int (symC c x))) O
theorem symC_in {st pl f x : Int} {xs : List Int} (h : f ≤ x ∧ x < f + xs.length) : symC (st, pl, f, xs) x = xs.getD (x - f).toNat 0 := by
  show look (rawT 0 f xs) x = _
  rw [raw_look_at, if_pos h]
theorem symC_out {st pl f x : Int} {xs : List Int} (h : ¬ (f ≤ x ∧ x < f + xs.length)) : symC (st, pl, f, xs) x = 0 := by
  show look (rawT 0 f xs) x = _
  rw [raw_look_at, if_neg h]
theorem symC_end {s : WS} {x : Int} : symC (endW s) x = look s.2.2 x := (like_start (s := s)).2.2 x
theorem erase_perm : ∀ {l : List Int} {i : Nat} {y : Int}, l[i]? = some y → (y :: l.eraseIdx i).Perm l
  | [], _, _, h => by simp at h
  | a :: l, 0, y, h => by
    have : a = y := by simpa using h
    subst this
    exact List.Perm.refl _
  | a :: l, i + 1, y, h => (List.Perm.swap a y _).trans ((erase_perm (by simpa using h)).cons a)
structure OrdN (rows found : List Int) (u : Ob) (n : Nat) : Prop where
  perm : (found ++ rows).Perm (rg n)
  hd : found.head? = some 0
  u : IsStrm u
theorem OrdN.len {rows found : List Int} {u : Ob} {n : Nat} (h : OrdN rows found u n) : found.length + rows.length = n := by
  have := h.perm.length_eq
  rw [List.length_append, rg_len] at this
  exact this
theorem ordN_pop {rows found : List Int} {u u' : Ob} {n i : Nat} {y : Int} (h : OrdN rows found u n) (hy : rows[i]? = some y) (hu : IsStrm u') : OrdN (rows.eraseIdx i) (found ++ [y]) u' n := by
  have hlt : i < rows.length := (List.getElem?_eq_some_iff.mp hy).1
  refine ⟨?_, ?_, hu⟩
  · rw [List.append_assoc]
    exact (List.Perm.append_left found (erase_perm hy)).trans h.perm
  · have := h.hd
    cases found with
    | nil => cases this
    | cons a b => exact this
theorem ordN_0 {n : Nat} {u : Ob} (hn : 1 ≤ n) (hu : IsStrm u) : OrdN ((List.range (n - 1)).map fun k : Nat => (0 : Int) + k + 1) [0] u n := by
  refine ⟨?_, rfl, hu⟩
  have e : rg n = 0 :: (List.range (n - 1)).map fun k : Nat => (0 : Int) + k + 1 := by
    obtain ⟨k, rfl⟩ : ∃ k, n = k + 1 := ⟨n - 1, by omega⟩
    unfold rg
    rw [List.range_succ_eq_map, List.map_cons, List.map_map, Nat.add_sub_cancel]
    refine congrArg (List.cons _) (List.map_congr_left fun a _ => ?_)
    show ((a + 1 : Nat) : Int) = 0 + a + 1
    omega
  rw [e]
  exact List.Perm.refl _
def sp_orderN : SpT := fun cs O R _ => ∃ k u n, cs = [.o k, .d (.int (n : Nat))] ∧ O[k]? = some u ∧ IsStrm u ∧ 1 ≤ n ∧ n ≤ 8 ∧ ∀ l u', Naming l n → IsStrm u' → R (.d (.list (List.map PyData.int l))) (O.set k u')
theorem orderN_use {k : Nat} {u : Ob} {n : Nat} {O : Sto} {R : C → Sto → Prop} {RX : Value → Sto → Prop} (h1 : O[k]? = some u) (h2 : IsStrm u) (h3 : 1 ≤ n) (h4 : n ≤ 8) (h5 : ∀ l u', Naming l n → IsStrm u' → R (.d (.list (List.map PyData.int l))) (O.set k u')) : sp_orderN [.o k, .d (.int (n : Nat))] O R RX := ⟨k, u, n, rfl, h1, h2, h3, h4, h5⟩
def sp_renT : SpT := fun cs O R _ => ∃ n S Y c st sy, cs = [.d (cfgD c), .d (.list (List.map PyData.int st)), .d (.list (List.map PyData.int sy))] ∧ OkZ n S Y c ∧ n ≤ 2000 ∧ (st.length : Int) = S ∧ (sy.length : Int) = Y ∧ R (.d (cfgD (renC st sy c))) O
/-- a tape that differs outside a window only -/
def Sp (S Y : Int) (n : Nat) (c c' : Cfg) : Prop := c'.1 = c.1 ∧ c'.2.1 = c.2.1 ∧ (∀ x, c.2.1 - n ≤ x → x ≤ c.2.1 + n → symC c' x = symC c x) ∧ OkZ 200 S Y c'
def sp_spoilT : SpT := fun cs O R _ => ∃ k u S Y c n, cs = [.o k, .d (cfgD c), .d (.int ((n : Nat) : Int)), .d (.int Y)] ∧ O[k]? = some u ∧ IsStrm u ∧ OkZ 100 S Y c ∧ n ≤ 60 ∧ 1 ≤ Y ∧ Y ≤ 1000 ∧ ∀ c' u', Sp S Y n c c' → IsStrm u' → R (.d (cfgD c')) (O.set k u')
theorem spoilT_use {k : Nat} {u : Ob} {S Y : Int} {c : Cfg} {n : Int} {O : Sto} {R : C → Sto → Prop} {RX : Value → Sto → Prop} (h1 : O[k]? = some u) (h2 : IsStrm u) (h3 : OkZ 100 S Y c) (n0 : 0 ≤ n) (n1 : n ≤ 60) (hY : 1 ≤ Y) (hY2 : Y ≤ 1000) (h5 : ∀ c' u', Sp S Y n.toNat c c' → IsStrm u' → R (.d (cfgD c')) (O.set k u')) : sp_spoilT [.o k, .d (cfgD c), .d (.int n), .d (.int Y)] O R RX := ⟨k, u, S, Y, c, n.toNat, by rw [Int.toNat_of_nonneg n0], h1, h2, h3, by omega, hY, hY2, h5⟩
section
variable {m m' : Mach} {S Y i : Int} {c : Cfg} {O : Sto} {R : C → Sto → Prop} {RX : Value → Sto → Prop} {CL : Addr}
theorem run_gen {n : Int} (hm : OkMach m S Y) (ok : OkZ n S Y c) (hn : n ≤ 1200) (h0 : 0 ≤ i) (h1 : i ≤ 1000) (h : R (.d (.tuple [cfgD (endW (runT m i.toNat (startC c)).2), .int (((runT m i.toNat (startC c)).1 : Nat) : Int)])) O) : sp_runG CL [.d (machD m), .d (cfgD c), .d (.int i)] O R RX := by
  have hb := big_no hm (n := i.toNat) (okR_Z ok hn (by have := hm.y2; omega)) (by omega)
  exact ⟨m, S, Y, c, i.toNat, by rw [Int.toNat_of_nonneg h0], hm, OkZ.cfgB ok (by omega), fun e => Bool.noConfusion (hb.symm.trans e), fun _ => h⟩
theorem run_mir (hm : OkMach m S Y) (ok : OkZ 100 S Y c) (h0 : 0 ≤ i) (h1 : i ≤ 60) (h : R (.d (.tuple [cfgD (mirC (endW (runT m i.toNat (startC c)).2)), .int (((runT m i.toNat (startC c)).1 : Nat) : Int)])) O) : sp_runG CL [.d (machD (mirM m)), .d (cfgD (mirC c)), .d (.int i)] O R RX := by
  refine run_gen (ok_mir hm) (okZ_mir ok) (by decide) h0 (by omega) ?_
  obtain ⟨e1, e2⟩ := rl_all (μ := mirC) (k := i.toNat) (n' := 100 + i.toNat) (n2 := 0) (n3 := 0) (sy_mir hm) hm ok rl_mir fun c z => ⟨rl_mir, okZ_mir z⟩
  rw [e1, e2]
  exact h
theorem run_ren {st sy : List Int} (hm : OkMach m S Y) (n1 : Naming st m.length) (n2 : Naming sy Y.toNat) (ok : OkZ 100 S Y c) (h0 : 0 ≤ i) (h1 : i ≤ 60) (h : R (.d (.tuple [cfgD (renC st sy (endW (runT m i.toNat (startC c)).2)), .int (((runT m i.toNat (startC c)).1 : Nat) : Int)])) O) : sp_runG CL [.d (machD (renM st sy m)), .d (cfgD (renC st sy c)), .d (.int i)] O R RX := by
  refine run_gen (ren_ok hm n1 n2) (okZ_ren hm n1 n2 ok) (by decide) h0 (by omega) ?_
  obtain ⟨e1, e2⟩ := rl_all (μ := renC st sy) (k := i.toNat) (n' := 100 + i.toNat) (n2 := 0) (n3 := 0) (sy_ren hm n1 n2) hm ok (rl_ren n2) fun c z => ⟨rl_ren n2, okZ_ren hm n1 n2 z⟩
  rw [e1, e2]
  exact h
theorem run_sh {b : Int} (hm : OkMach m S Y) (ok : OkZ 100 S Y c) (b0 : -1000 ≤ b) (b1 : b ≤ 1000) (h0 : 0 ≤ i) (h1 : i ≤ 60) (h : R (.d (.tuple [cfgD (shC b (endW (runT m i.toNat (startC c)).2)), .int (((runT m i.toNat (startC c)).1 : Nat) : Int)])) O) : sp_runG CL [.d (machD m), .d (cfgD (shC b c)), .d (.int i)] O R RX := by
  refine run_gen hm (okZ_sh (B := 1000) ok b0 b1) (by decide) h0 (by omega) ?_
  obtain ⟨e1, e2⟩ := rl_all (μ := shC b) (k := i.toNat) (n' := 100 + i.toNat + 1000) (n2 := 0) (n3 := 0) sy_sh hm ok rl_sh fun c z => ⟨rl_sh, okZ_sh z b0 b1⟩
  rw [e1, e2]
  exact h
end
/-- two runs that see the same -/
theorem sp_runs {m : Mach} {S Y : Int} {n : Nat} {c c' : Cfg} (hm : OkMach m S Y) (ok : OkZ 100 S Y c) (h : Sp S Y n c c') : (runT m n (startC c')).1 = (runT m n (startC c)).1 ∧ (endW (runT m n (startC c')).2).1 = (endW (runT m n (startC c)).2).1 ∧ (endW (runT m n (startC c')).2).2.1 = (endW (runT m n (startC c)).2).2.1 ∧
    ∀ x, c.2.1 - n ≤ x → x ≤ c.2.1 + n → symC (endW (runT m n (startC c')).2) x = symC (endW (runT m n (startC c)).2) x := by
  obtain ⟨e1, e2, e3, _⟩ := h
  obtain ⟨q1, q2, q3, q4⟩ := nr_run (p := c.2.1) (R := n) (k := n) (j := 0) (s := startC c) (s' := startC c') hm (okS_init ok (by have := hm.y2; omega)) ⟨e1, e2, fun x x0 x1 => e3 x x0 x1⟩ (by show c.2.1 - ((0 : Nat) : Int) ≤ c.2.1; omega) (by show c.2.1 ≤ c.2.1 + ((0 : Nat) : Int); omega) (by omega)
  have f : ∀ s : WS, (endW s).1 = s.1 ∧ (endW s).2.1 = s.2.1 := fun s => ⟨(like_start (s := s)).1, (like_start (s := s)).2.1⟩
  refine ⟨q1, by rw [(f _).1, (f _).1, q2], by rw [(f _).2, (f _).2, q3], fun x x0 x1 => by rw [symC_end, symC_end]; exact q4 x x0 x1⟩
end K
namespace K
open PySem PySem.Spec PyProof.Rows L2 T
theorem suc_ints {n : Nat} : (rng 0 n).map sucD = ((List.range n).map fun k : Nat => (0 : Int) + k + 1).map PyData.int := by
  unfold rng
  rw [List.map_map, List.map_map]
  rfl
theorem ren_cells {sy xs : List Int} : ((xs.map PyData.int).map fun d => PyData.int (sy.getD (valI d).toNat 0)) = (xs.map fun x => sy.getD x.toNat 0).map PyData.int := by
  rw [List.map_map, List.map_map]
  rfl
theorem look_rawZ {n S Y : Int} {c : Cfg} (h : OkZ n S Y c) (x : Int) (hx : look (rawT 0 c.2.2.1 c.2.2.2) x ≠ 0) : -n ≤ x ∧ x ≤ n := (okS_init h (Classical.byContradiction fun q => by
  rcases look_in (t := rawT 0 c.2.2.1 c.2.2.2) (x := x) with z | ⟨p, hp, z⟩
  · exact hx z
  · have := h.sym _ (raw_sym hp); omega)).key x hx
theorem len_Z {n S Y : Int} {c : Cfg} (h : OkZ n S Y c) (hn : n ≤ 200) : c.2.2.2.length ≤ 1000 := by
  by_cases e : c.2.2.2 = []
  · rw [e]; decide
  · have := h.ends e; omega
section
variable {S Y st pl f x1 x2 w1 w2 : Int} {xs : List Int} {n : Nat}
theorem small_spoil (h : OkZ 100 S Y (st, pl, f, xs)) (hn : n ≤ 60) (h1 : x1 ≤ pl + n + 3) (h1' : pl + n < x1) (h2 : pl - n - 3 ≤ x2) (h2' : x2 < pl - n) : Small (putI (putI (rawT 0 f xs) x1 w1) x2 w2) (-100000) := by
  have a1 := h.p0
  have a2 := h.p1
  dsimp only at a1 a2
  refine ⟨?_, by decide, by decide, fun x hx => ?_⟩
  · have q1 := putI_len (t := putI (rawT 0 f xs) x1 w1) (x := x2) (v := w2)
    have q2 := putI_len (t := rawT 0 f xs) (x := x1) (v := w1)
    have q3 := raw_len (i := 0) (f := f) (xs := xs)
    have q4 := len_Z h (by decide)
    dsimp only at q4
    omega
  · rw [look_put, look_put] at hx
    by_cases e2 : x = x2
    · omega
    · rw [if_neg e2] at hx
      by_cases e1 : x = x1
      · omega
      · rw [if_neg e1] at hx
        have := look_rawZ h x hx
        omega
theorem sp_spoil (h : OkZ 100 S Y (st, pl, f, xs)) (hn : n ≤ 60) (h1 : x1 ≤ pl + n + 3) (h1' : pl + n < x1) (h2 : pl - n - 3 ≤ x2) (h2' : x2 < pl - n) (hw1 : 0 ≤ w1 ∧ w1 < Y) (hw2 : 0 ≤ w2 ∧ w2 < Y) : Sp S Y n (st, pl, f, xs) (endF st pl (putI (putI (rawT 0 f xs) x1 w1) x2 w2)) := by
  have a1 := h.p0
  have a2 := h.p1
  dsimp only at a1 a2
  have l := like_start (s := (st, pl, putI (putI (rawT 0 f xs) x1 w1) x2 w2))
  refine ⟨l.1, l.2.1, fun x x0 x1' => ?_, okZ_endF h.s0 h.s1 (by omega) (by omega) (fun x hx => ?_) fun x => ?_⟩
  · dsimp only at x0 x1'
    refine (l.2.2 x).trans ?_
    show look (putI (putI (rawT 0 f xs) x1 w1) x2 w2) x = look (rawT 0 f xs) x
    rw [look_put, look_put, if_neg (by omega), if_neg (by omega)]
  · rw [look_put, look_put] at hx
    by_cases e2 : x = x2
    · omega
    · rw [if_neg e2] at hx
      by_cases e1 : x = x1
      · omega
      · rw [if_neg e1] at hx
        have := look_rawZ h x hx
        omega
  · rw [look_put, look_put]
    split
    · exact hw2
    · split
      · exact hw1
      · exact (okS_init h (by omega)).sym x
end
theorem big_false {a b c : Int} (h0 : -5000 ≤ a) (h1 : a ≤ 5000) (h2 : -5000 ≤ b) (h3 : b ≤ 5000) (h4 : c ≤ 9000) : bigB a b c = false := by
  unfold bigB
  rw [abs_small (b := 5000) (by omega) (by omega) (by decide), abs_small (b := 5000) (by omega) (by omega) (by decide), decide_eq_false (by omega)]
  rfl
end K
namespace K
open PySem PySem.Spec PyProof.Rows L2 T
theorem ne_map {l : List Int} (h : (!(l.map PyData.int).isEmpty) = true) : l ≠ [] := fun e => by subst e; cases h
theorem em_map {l : List Int} (h : (!(l.map PyData.int).isEmpty) = false) : l = [] := by
  cases l with
  | nil => rfl
  | cons a l => cases h
theorem rev_if {xs : List Int} {a b : Int} : (if xs.reverse = [] then a else b) = if xs = [] then a else b := by
  by_cases e : xs = []
  · subst e; rfl
  · rw [if_neg e, if_neg (fun z => e (List.reverse_eq_nil_iff.mp z))]
theorem OkZ.lenC {n S Y : Int} {c : Cfg} (h : OkZ n S Y c) (hn : n ≤ 5000) : c.2.2.2.length ≤ 90000 := by
  by_cases e : c.2.2.2 = []
  · rw [e]; decide
  · have := h.ends e; omega
theorem hz_l {l : List Int} (h : l.length ≤ 1000) : ∀ ds, PyData.list (l.map PyData.int) = .list ds → ds.length ≤ 1000 := fun ds e => by
  injection e with e
  rw [← e, List.length_map]
  exact h
theorem ints_inj {a b : List Int} (h : PyData.list (a.map PyData.int) = .list (b.map PyData.int)) : a = b := by
  injection h with h
  exact (List.map_inj_right (fun x y e => by injection e)).mp h
theorem nam_both {m : Mach} {S Y : Int} {a b : List Int} (hm : OkMach m S Y) (h1 : Naming a m.length) (h2 : Naming b Y.toNat) : (isNaming (.list (a.map PyData.int)) S && isNaming (.list (b.map PyData.int)) Y) = true := by
  have q1 := naming_ints.mpr h1
  have q2 := naming_ints.mpr h2
  rw [hm.len] at q1
  rw [Int.toNat_of_nonneg (by have := hm.y2; omega)] at q2
  rw [q1, q2]
  rfl
theorem sh_two {c : Cfg} : SeqAt.shaped (.tuple [.int c.1, .int c.2.1]) = true := rfl
theorem ren_stop {l : List Int} {s : Int} (h : s = -1) : s = renS l s := by rw [h]; rfl
theorem near_eq {a b : Nat} {c c' : Cfg} {p q : PyData} (h1 : a = b) (h2 : c.1 = c'.1) (h3 : c.2.1 = c'.2.1) : ¬ ((!decide ((a : Int) = (b : Int)) || !(PyData.eqv (.tuple (List.take (Int.toNat 2) [.int c.1, .int c.2.1, .int c.2.2.1, p])) (.tuple (List.take (Int.toNat 2) [.int c'.1, .int c'.2.1, .int c'.2.2.1, q])))) = true) := by
  show ¬ ((!decide ((a : Int) = (b : Int)) || !(PyData.eqv (.tuple [.int c.1, .int c.2.1]) (.tuple [.int c'.1, .int c'.2.1]))) = true)
  rw [h1, h2, h3, decide_eq_true rfl, (sh_tup (n := 0) (ds := [.int c'.1, .int c'.2.1]) fun d hd => by
    simp at hd
    rcases hd with rfl | rfl
    · exact sh_int
    · exact sh_int).refl]
  decide
end K

set_option Elab.async false
set_option linter.all false
set_option maxRecDepth 100000
set_option maxHeartbeats 2000000
namespace K
open PySem PySem.Spec PyProof.Rows L2 T
/-! N12b: the law's normal form is the program's. -/
section
variable {m m' : Mach} {S Y : Int} {σ π δ ρ : Int → Int}
theorem rl_trP (h : Sy m m' S Y σ π δ ρ) (hm : OkMach m S Y) : ∀ {k : Nat} {n : Int} {s s' : WS}, OkS n S Y s → Rl σ π ρ s s' → trP m' k s' = (trP m k s).map fun p => (σ p.1, ρ p.2)
  | 0, _, _, _, _, _ => rfl
  | k + 1, n, s, s', ok, r => by
    have e1 : s'.1 = -1 ↔ s.1 = -1 := by rw [r.1]; exact h.stop s.1 ok.s0 ok.s1
    by_cases hs : s.1 = -1
    · rw [trP_stop (.inr hs), trP_stop (.inr (e1.mpr hs))]; rfl
    · rw [trP_go hs, trP_go (fun z => hs (e1.mp z)), List.map_cons]
      rw [rl_trP h hm (okS_take ok hm hs) (rl_take h ok hs r)]
      rw [r.1, r.2.1, r.2.2]
end
theorem rl_0 {σ π ρ : Int → Int} (h0 : σ 0 = 0) (h1 : π 0 = 0) (h2 : ρ 0 = 0) : Rl σ π ρ (0, 0, []) (0, 0, []) := ⟨h0.symm, h1.symm, fun x => h2.symm⟩
theorem tr_mir {m : Mach} {S Y : Int} (hm : OkMach m S Y) {n : Nat} : trP (mirM m) n (0, 0, []) = trP m n (0, 0, []) := by
  rw [rl_trP (sy_mir hm) hm (okS_zero hm.s1 hm.y2) (rl_0 rfl rfl rfl)]
  exact (List.map_congr_left fun p _ => rfl).trans (List.map_id _)
theorem rul_mir {m : Mach} {S Y : Int} (hm : OkMach m S Y) {p : Int × Int} (h : (0 ≤ p.1 ∧ p.1 < S) ∧ 0 ≤ p.2 ∧ p.2 < Y) : rulP (mirM m) p = mirR (rulP m p) := (sy_mir hm).rule p.1 p.2 h.1.1 h.1.2 h.2.1 h.2.2
theorem fil_mir {rs : List Rule} : (rs.map mirR).filter goR = (rs.filter goR).map mirR := by
  rw [List.filter_map]
  rfl
theorem sts_mir {rs : List Rule} : stsP (rs.map mirR) = stsP rs := by unfold stsP; rw [fil_mir, List.map_map]; rfl
theorem sys_mir {rs : List Rule} : sysP (rs.map mirR) = sysP rs := by unfold sysP; rw [fil_mir, List.map_map]; rfl
theorem tr_head {m : Mach} {n : Nat} : (trP m (n + 1) (0, 0, [])) = (0, 0) :: trP m n (takeT m (0, 0, [])) := trP_go (by decide)
/-- the machine that the law runs -/
def turnM (m : Mach) (n : Nat) : Mach := if 0 < n ∧ (ruleAt m 0 0).2.1 = -1 then mirM m else m
theorem left_first {m : Mach} {n : Nat} : leftFirst ((trP m n (0, 0, [])).map (rulP m)) = true ↔ 0 < n ∧ (ruleAt m 0 0).2.1 = -1 := by
  cases n with
  | zero => simp [trP, leftFirst]
  | succ n =>
    rw [tr_head, List.map_cons]
    show decide (_ = _) = true ↔ _
    rw [decide_eq_true_iff]
    exact ⟨fun h => ⟨Nat.succ_pos _, h⟩, fun h => h.2⟩
theorem turn_ok {m : Mach} {S Y : Int} {n : Nat} (hm : OkMach m S Y) : OkMach (turnM m n) S Y := by
  unfold turnM; split
  · exact ok_mir hm
  · exact hm
theorem turn_tr {m : Mach} {S Y : Int} {n k : Nat} (hm : OkMach m S Y) : trP (turnM m n) k (0, 0, []) = trP m k (0, 0, []) := by
  unfold turnM; split
  · exact tr_mir hm
  · rfl
theorem turn_ruls {m : Mach} {S Y : Int} {n : Nat} (hm : OkMach m S Y) : stsP ((trP m n (0, 0, [])).map (rulP (turnM m n))) = stsP ((trP m n (0, 0, [])).map (rulP m)) ∧ sysP ((trP m n (0, 0, [])).map (rulP (turnM m n))) = sysP ((trP m n (0, 0, [])).map (rulP m)) := by
  unfold turnM; split
  · have e : (trP m n (0, 0, [])).map (rulP (mirM m)) = ((trP m n (0, 0, [])).map (rulP m)).map mirR := by
      rw [List.map_map]
      exact List.map_congr_left fun p hp => rul_mir hm (tr_bound hm p hp)
    rw [e]
    exact ⟨sts_mir, sys_mir⟩
  · exact ⟨rfl, rfl⟩
/-! what is seen -/
theorem sts_cons {r : Rule} {rs : List Rule} : stsP (r :: rs) = if r.2.2 = -1 then stsP rs else r.2.2 :: stsP rs := by
  unfold stsP goR
  by_cases h : r.2.2 = -1
  · rw [if_pos h, List.filter_cons_of_neg (by simp [h])]
  · rw [if_neg h, List.filter_cons_of_pos (by simp [h])]; rfl
theorem sys_cons {r : Rule} {rs : List Rule} : sysP (r :: rs) = if r.2.2 = -1 then sysP rs else r.1 :: sysP rs := by
  unfold sysP goR
  by_cases h : r.2.2 = -1
  · rw [if_pos h, List.filter_cons_of_neg (by simp [h])]
  · rw [if_neg h, List.filter_cons_of_pos (by simp [h])]; rfl
theorem seenP_sts {m : Mach} : ∀ {n : Nat} {w : WS} {ks ss ys ps}, w.1 ≠ -1 → (seenP m n w ks ss ys ps).2.1 = nubF ss (stsP ((trP m n w).map (rulP m))) ∧ (seenP m n w ks ss ys ps).2.2.1 = nubF ys (sysP ((trP m n w).map (rulP m)))
  | 0, _, _, _, _, _, _ => ⟨rfl, rfl⟩
  | n + 1, w, ks, ss, ys, ps, h => by
    rw [trP_go h, List.map_cons, sts_cons, sys_cons]
    have e0 : (rulP m (w.1, look w.2.2 w.2.1)).2.2 = (takeT m w).1 := rfl
    rw [e0]
    by_cases e : (takeT m w).1 = -1
    · rw [seenP_stop e, trP_stop (.inr e), if_pos e, if_pos e]; exact ⟨rfl, rfl⟩
    · rw [seenP_go e, if_neg e, if_neg e]
      exact seenP_sts e
theorem seenP_sk1 {m : Mach} : ∀ {n : Nat} {w : WS} {ks ss ys ps} {q : Int × Int}, (seenP m n w ks ss ys ps).2.2.2.2 = some q → (rulP m q).2.2 = -1
  | 0, _, _, _, _, _, _, h => by cases h
  | n + 1, w, ks, ss, ys, ps, q, h => by
    by_cases e : (takeT m w).1 = -1
    · rw [seenP_stop e] at h
      cases h
      exact e
    · rw [seenP_go e] at h; exact seenP_sk1 h
theorem seenP_sk2 {m : Mach} : ∀ {n : Nat} {w : WS} {ks ss ys ps} {q : Int × Int}, w.1 ≠ -1 → q ∈ trP m n w → (rulP m q).2.2 = -1 → (seenP m n w ks ss ys ps).2.2.2.2 = some q
  | 0, _, _, _, _, _, _, _, hq, _ => by cases hq
  | n + 1, w, ks, ss, ys, ps, q, hw, hq, h => by
    rw [trP_go hw] at hq
    by_cases e : (takeT m w).1 = -1
    · rw [trP_stop (.inr e)] at hq
      have : q = (w.1, look w.2.2 w.2.1) := by simpa using hq
      subst this
      rw [seenP_stop e]
    · rw [seenP_go e]
      rcases List.mem_cons.mp hq with z | z
      · subst z; exact absurd h e
      · exact seenP_sk2 e z h
/-! the law's table -/
def cellF (st sy : List Int) (m : Mach) (l : List (Int × Int)) (i j : Int) : Rule := if (((st.idxOf i : Nat) : Int), ((sy.idxOf j : Nat) : Int)) ∈ l then stopR (renRule st sy (ruleAt m (st.idxOf i : Nat) (sy.idxOf j : Nat))) else plainR
def tabF (st sy : List Int) (m : Mach) (n y : Nat) (l : List (Int × Int)) : Mach := (rg n).map fun i => (rg y).map fun j => cellF st sy m l i j
theorem map_set_rg {α : Type} {n k : Nat} {f : Int → α} {v : α} (hk : k < n) : ((rg n).map f).set k v = (rg n).map fun i => if i = (k : Int) then v else f i := by
  apply List.ext_getElem?
  intro i
  by_cases e : i = k
  · subst e
    rw [List.getElem?_set_self (by rw [List.length_map, rg_len]; exact hk), List.getElem?_map, rg_get hk]
    simp
  · rw [List.getElem?_set_ne (Ne.symm e), List.getElem?_map, List.getElem?_map]
    by_cases hi : i < n
    · rw [rg_get hi]
      exact congrArg some (if_neg (by omega)).symm
    · rw [List.getElem?_eq_none (by rw [rg_len]; omega)]; rfl
theorem tab_get {st sy : List Int} {m : Mach} {n y : Nat} {l : List (Int × Int)} {i : Nat} (hi : i < n) : (tabF st sy m n y l)[i]? = some ((rg y).map fun j => cellF st sy m l i j) := by
  unfold tabF
  rw [List.getElem?_map, rg_get hi]; rfl
theorem tab_0 {st sy : List Int} {m : Mach} {n y : Nat} : tabF st sy m n y [] = List.replicate n (List.replicate y plainR) := by
  unfold tabF
  have e : ∀ i : Int, ((rg y).map fun j => cellF st sy m [] i j) = List.replicate y plainR := fun i => by
    rw [List.eq_replicate_iff]
    refine ⟨by rw [List.length_map, rg_len], fun b hb => ?_⟩
    obtain ⟨j, _, rfl⟩ := List.mem_map.mp hb
    exact if_neg List.not_mem_nil
  rw [List.eq_replicate_iff]
  refine ⟨by rw [List.length_map, rg_len], fun b hb => ?_⟩
  obtain ⟨j, _, rfl⟩ := List.mem_map.mp hb
  exact e j
theorem nam_idx {l : List Int} {n : Nat} (h : Naming l n) {i : Int} {s : Nat} (h0 : 0 ≤ i) (h1 : i < n) (hs : s < n) : l.idxOf i = s ↔ i = l.getD s 0 := by
  have hm : i ∈ l := (nam_in h).mpr ⟨h0, h1⟩
  obtain ⟨g1, g2, g3⟩ := nam_get h hs
  constructor
  · intro e
    subst e
    rw [List.getD_eq_getElem?_getD, List.getElem?_eq_getElem (List.idxOf_lt_length_of_mem hm)]
    exact (List.getElem_idxOf _).symm
  · intro e
    subst e
    exact idx_get (nam_nodup h) g3
theorem tab_same {st sy : List Int} {m : Mach} {n y : Nat} {l l' : List (Int × Int)} (h : ∀ i j : Nat, i < n → j < y → cellF st sy m l i j = cellF st sy m l' i j) : tabF st sy m n y l = tabF st sy m n y l' := by
  unfold tabF
  refine List.map_congr_left fun i hi => List.map_congr_left fun j hj => ?_
  obtain ⟨a, b⟩ := rg_mem.mp hi
  obtain ⟨c, d⟩ := rg_mem.mp hj
  have := h i.toNat j.toNat (by omega) (by omega)
  rwa [Int.toNat_of_nonneg a, Int.toNat_of_nonneg c] at this
theorem tab_stop {st sy : List Int} {m : Mach} {n y : Nat} {l : List (Int × Int)} {p : Int × Int} (h : (rulP m p).2.2 = -1) : tabF st sy m n y (l ++ [p]) = tabF st sy m n y l := by
  refine tab_same fun i j hi hj => ?_
  unfold cellF
  by_cases e : (((st.idxOf (i : Int) : Nat) : Int), ((sy.idxOf (j : Int) : Nat) : Int)) = p
  · subst e
    have e2 : stopR (renRule st sy (ruleAt m (st.idxOf (i : Int) : Nat) (sy.idxOf (j : Int) : Nat))) = plainR := by
      unfold stopR renRule
      have h' : (ruleAt m (st.idxOf (i : Int) : Nat) (sy.idxOf (j : Int) : Nat)).2.2 = -1 := h
      rw [h']; rfl
    rw [e2]
    split <;> split <;> rfl
  · have : ((((st.idxOf (i : Int) : Nat) : Int), ((sy.idxOf (j : Int) : Nat) : Int)) ∈ l ++ [p]) ↔ ((((st.idxOf (i : Int) : Nat) : Int), ((sy.idxOf (j : Int) : Nat) : Int)) ∈ l) := by simp [e]
    simp only [this]
theorem tab_set {st sy : List Int} {m : Mach} {n y : Nat} {l : List (Int × Int)} {s x : Nat} (h1 : Naming st n) (h2 : Naming sy y) (hs : s < n) (hx : x < y) (hg : (ruleAt m s x).2.2 ≠ -1) (h0 : 0 ≤ (ruleAt m s x).2.2) (hn : (ruleAt m s x).2.2 < n) :
    tabF st sy m n y (l ++ [((s : Int), (x : Int))]) = (tabF st sy m n y l).set (st.getD s 0).toNat (((rg y).map fun j => cellF st sy m l (st.getD s 0) j).set (sy.getD x 0).toNat (sy.getD (ruleAt m s x).1.toNat 0, (ruleAt m s x).2.1, st.getD (ruleAt m s x).2.2.toNat 0)) := by
  obtain ⟨a1, a2, _⟩ := nam_get h1 hs
  obtain ⟨b1, b2, _⟩ := nam_get h2 hx
  rw [map_set_rg (by omega)]
  unfold tabF
  rw [map_set_rg (by omega)]
  refine List.map_congr_left fun i hi => ?_
  obtain ⟨c, d⟩ := rg_mem.mp hi
  rw [Int.toNat_of_nonneg a1, Int.toNat_of_nonneg b1]
  have hnew : stopR (renRule st sy (ruleAt m s x)) = (sy.getD (ruleAt m s x).1.toNat 0, (ruleAt m s x).2.1, st.getD (ruleAt m s x).2.2.toNat 0) := by
    obtain ⟨q1, q2, _⟩ := nam_get h1 (i := (ruleAt m s x).2.2.toNat) (by omega)
    unfold stopR renRule
    rw [if_neg hg]
    exact if_neg (by show st.getD _ 0 ≠ -1; omega)
  by_cases e : i = st.getD s 0
  · rw [if_pos e]
    subst e
    refine List.map_congr_left fun j hj => ?_
    obtain ⟨c2, d2⟩ := rg_mem.mp hj
    have ei : st.idxOf (st.getD s 0) = s := (nam_idx h1 c d hs).mpr rfl
    by_cases e2 : j = sy.getD x 0
    · rw [if_pos e2]
      subst e2
      have ej : sy.idxOf (sy.getD x 0) = x := (nam_idx h2 c2 d2 hx).mpr rfl
      unfold cellF
      rw [ei, ej, if_pos (by simp), hnew]
    · rw [if_neg e2]
      have ej : sy.idxOf j ≠ x := fun z => e2 ((nam_idx h2 c2 d2 hx).mp z)
      unfold cellF
      have : ((((st.idxOf (st.getD s 0) : Nat) : Int), ((sy.idxOf j : Nat) : Int)) ∈ l ++ [((s : Int), (x : Int))]) ↔ ((((st.idxOf (st.getD s 0) : Nat) : Int), ((sy.idxOf j : Nat) : Int)) ∈ l) := by
        simp only [List.mem_append, List.mem_cons, List.not_mem_nil, or_false, Prod.mk.injEq]
        constructor
        · rintro (z | z)
          · exact z
          · exact absurd (by omega) ej
        · exact .inl
      simp only [this]
  · rw [if_neg e]
    refine List.map_congr_left fun j hj => ?_
    have ei : st.idxOf i ≠ s := fun z => e ((nam_idx h1 c d hs).mp z)
    unfold cellF
    have : ((((st.idxOf i : Nat) : Int), ((sy.idxOf j : Nat) : Int)) ∈ l ++ [((s : Int), (x : Int))]) ↔ ((((st.idxOf i : Nat) : Int), ((sy.idxOf j : Nat) : Int)) ∈ l) := by
      simp only [List.mem_append, List.mem_cons, List.not_mem_nil, or_false, Prod.mk.injEq]
      constructor
      · rintro (z | z)
        · exact z
        · exact absurd (by omega) ei
      · exact .inl
    simp only [this]
/-- a machine's entries, renamed and with plain stops -/
theorem stop_ren {st sy : List Int} {A : Mach} {n y : Nat} (hr : ∀ i : Nat, i < n → (A.getD i []).length = y) (h1 : Naming st n) (h2 : Naming sy y) : stopM (renM st sy A) = (rg n).map fun i => (rg y).map fun j => stopR (renRule st sy (ruleAt A (st.idxOf i : Nat) (sy.idxOf j : Nat))) := by
  unfold stopM renM renRow
  rw [List.map_map, nam_len h1, nam_len h2]
  refine List.map_congr_left fun i hi => ?_
  show ((rg y).map _).map _ = _
  rw [List.map_map]
  rfl
theorem up_at {m : Mach} {ps : List (Int × Int)} {s x : Nat} {S Y : Int} (hm : OkMach m S Y) (hs : s < m.length) (hx : (x : Int) < Y) : ruleAt (upM ps 0 m) s x = if ((s : Int), (x : Int)) ∈ ps then ruleAt m s x else plainR := by
  have hl : ((m[s]).length : Int) = Y := hm.row _ (List.getElem_mem hs)
  have hx' : x < (m[s]).length := by omega
  have e1 := upM_get (ps := ps) (s := 0) (List.getElem?_eq_getElem hs)
  rw [Nat.zero_add] at e1
  have e2 := upRow_get (ps := ps) (s := (s : Int)) (x := 0) (List.getElem?_eq_getElem hx')
  rw [Nat.zero_add] at e2
  unfold ruleAt
  rw [Int.toNat_natCast, Int.toNat_natCast, List.getD_eq_getElem?_getD (l := upM ps 0 m), e1]
  show (upRow ps (s : Int) 0 m[s]).getD x _ = _
  rw [List.getD_eq_getElem?_getD, e2, List.getD_eq_getElem?_getD (l := m), List.getElem?_eq_getElem hs]
  show _ = if _ then (m[s]).getD x _ else _
  rw [List.getD_eq_getElem?_getD, List.getElem?_eq_getElem hx']
  rfl
theorem row_len {m : Mach} {S Y : Int} (hm : OkMach m S Y) {i : Nat} (hi : i < m.length) : (m.getD i []).length = Y.toNat := by
  have := hm.row _ (getM_mem hi)
  omega
theorem stsP_mem {rs : List Rule} {S Y : Int} (h : ∀ r ∈ rs, OkRule S Y r) : (∀ x ∈ stsP rs, 0 ≤ x ∧ x < S) ∧ ∀ x ∈ sysP rs, 0 ≤ x ∧ x < Y := by
  constructor
  · intro x hx
    obtain ⟨r, hr, rfl⟩ := List.mem_map.mp hx
    obtain ⟨a, b⟩ := List.mem_filter.mp hr
    have := (h r a).s0
    have := (h r a).s1
    unfold goR at b
    simp at b
    constructor <;> omega
  · intro x hx
    obtain ⟨r, hr, rfl⟩ := List.mem_map.mp hx
    obtain ⟨a, b⟩ := List.mem_filter.mp hr
    exact ⟨(h r a).w0, (h r a).w1⟩
section
variable {m : Mach} {S Y : Int} {n : Nat}
def rsP (m : Mach) (n : Nat) : List Rule := (trP m n (0, 0, [])).map (rulP m)
def stL (m : Mach) (n : Nat) : List Int := namesF (stsP (rsP m n)) m.length
def syL (m : Mach) (n : Nat) : List Int := namesF (sysP (rsP m n)) (m.getD 0 []).length
theorem rsP_ok (hm : OkMach m S Y) : ∀ r ∈ rsP m n, OkRule S Y r := fun r hr => by
  obtain ⟨p, hp, rfl⟩ := List.mem_map.mp hr
  exact rule_in hm (tr_bound hm p hp)
theorem m_pos (hm : OkMach m S Y) : 1 ≤ m.length := by have := hm.len; have := hm.s1; omega
theorem row0_len (hm : OkMach m S Y) : (m.getD 0 []).length = Y.toNat := row_len hm (m_pos hm)
theorem stL_ok (hm : OkMach m S Y) : Naming (stL m n) m.length := names_ok (m_pos hm) fun x hx => by
  have := (stsP_mem (rsP_ok hm)).1 x hx
  have := hm.len
  omega
theorem syL_ok (hm : OkMach m S Y) : Naming (syL m n) Y.toNat := by
  unfold syL
  rw [row0_len hm]
  exact names_ok (by have := hm.y2; omega) fun x hx => by
    have := (stsP_mem (rsP_ok hm)).2 x hx
    omega
theorem nfM_ok (hm : OkMach m S Y) : OkMach (nfM m n) S Y := by
  unfold nfM
  dsimp only
  refine ok_stop (ren_ok ?_ ?_ (syL_ok hm))
  · split
    · exact ok_mir (ok_up hm)
    · exact ok_up hm
  · have e : (if leftFirst (List.map (rulP m) (trP m n (0, 0, []))) = true then mirM (upM (trP m n (0, 0, [])) 0 m) else upM (trP m n (0, 0, [])) 0 m).length = m.length := by
      split
      · unfold mirM; rw [List.length_map, upM_len]
      · exact upM_len
    rw [e]
    exact stL_ok hm
theorem nf_tab (hm : OkMach m S Y) : nfM m n = tabF (stL m n) (syL m n) (turnM m n) m.length Y.toNat (trP m n (0, 0, [])) := by
  have h1 := stL_ok (n := n) hm
  have h2 := syL_ok (n := n) hm
  have hY := hm.y2
  show stopM (renM (stL m n) (syL m n) (if leftFirst (rsP m n) = true then mirM (upM (trP m n (0, 0, [])) 0 m) else upM (trP m n (0, 0, [])) 0 m)) = _
  have cell : ∀ (A : Mach), (∀ i : Nat, i < m.length → (A.getD i []).length = Y.toNat) → (∀ s x : Nat, s < m.length → (x : Int) < Y → stopR (renRule (stL m n) (syL m n) (ruleAt A s x)) = if ((s : Int), (x : Int)) ∈ trP m n (0, 0, []) then stopR (renRule (stL m n) (syL m n) (ruleAt (turnM m n) s x)) else plainR) →
      stopM (renM (stL m n) (syL m n) A) = tabF (stL m n) (syL m n) (turnM m n) m.length Y.toNat (trP m n (0, 0, [])) := by
    intro A ha hc
    rw [stop_ren ha h1 h2]
    unfold tabF
    refine List.map_congr_left fun i hi => List.map_congr_left fun j hj => ?_
    obtain ⟨c1, c2⟩ := rg_mem.mp hi
    obtain ⟨d1, d2⟩ := rg_mem.mp hj
    have l1 : (stL m n).idxOf i < m.length := by rw [← nam_len h1]; exact List.idxOf_lt_length_of_mem ((nam_in h1).mpr ⟨c1, c2⟩)
    have l2 : (syL m n).idxOf j < Y.toNat := by
      have := List.idxOf_lt_length_of_mem ((nam_in h2).mpr ⟨d1, d2⟩)
      rwa [nam_len h2] at this
    exact hc _ _ l1 (by omega)
  have plain0 : ∀ r : Rule, r.2.2 = -1 → stopR (renRule (stL m n) (syL m n) r) = plainR := fun r hr => by
    unfold stopR renRule; rw [hr]; rfl
  by_cases hl : leftFirst (rsP m n) = true
  · rw [if_pos hl]
    have ht : turnM m n = mirM m := by unfold turnM; rw [if_pos (left_first.mp hl)]
    have hu := ok_up (ps := trP m n (0, 0, [])) hm
    refine cell _ (fun i hi => ?_) fun s x hs hx => ?_
    · exact row_len (ok_mir hu) (by unfold mirM; rw [List.length_map, upM_len]; exact hi)
    · have hp : (0 ≤ ((s : Int), (x : Int)).1 ∧ ((s : Int), (x : Int)).1 < S) ∧ 0 ≤ ((s : Int), (x : Int)).2 ∧ ((s : Int), (x : Int)).2 < Y := by
        have := hm.len
        exact ⟨⟨Int.natCast_nonneg _, by show (s : Int) < S; omega⟩, Int.natCast_nonneg _, hx⟩
      have e1 : ruleAt (mirM (upM (trP m n (0, 0, [])) 0 m)) s x = mirR (ruleAt (upM (trP m n (0, 0, [])) 0 m) s x) := rul_mir hu hp
      have e2 : ruleAt (mirM m) s x = mirR (ruleAt m s x) := rul_mir hm hp
      rw [e1, up_at hm hs hx, ht, e2]
      split
      · rfl
      · exact plain0 _ rfl
  · rw [if_neg hl]
    have ht : turnM m n = m := by unfold turnM; rw [if_neg fun z => hl (left_first.mpr z)]
    refine cell _ (fun i hi => ?_) fun s x hs hx => ?_
    · exact row_len (ok_up hm) (by rw [upM_len]; exact hi)
    · rw [up_at hm hs hx, ht]
      split
      · rfl
      · exact plain0 _ rfl
theorem nf_us (hm : OkMach m S Y) : nfM m n = tabF (stL m n) (syL m n) (turnM m n) m.length Y.toNat (usL (turnM m n) n) := by
  rw [nf_tab hm]
  refine tab_same fun i j _ _ => ?_
  unfold cellF usL
  rw [turn_tr hm]
  have : ∀ p, p ∈ nubF [] (trP m n (0, 0, [])) ↔ p ∈ trP m n (0, 0, []) := fun p => by
    have key : ∀ (xs acc : List (Int × Int)), p ∈ nubF acc xs ↔ p ∈ acc ∨ p ∈ xs := by
      intro xs
      induction xs with
      | nil => intro acc; rw [nubF_nil]; simp
      | cons x xs ih =>
        intro acc
        rw [nubF_cons, ih]
        unfold addN
        by_cases hx : x ∈ acc
        · rw [if_pos hx, List.mem_cons]
          constructor
          · rintro (z | z)
            · exact .inl z
            · exact .inr (.inr z)
          · rintro (z | z | z)
            · exact .inl z
            · exact .inl (z ▸ hx)
            · exact .inr z
        · rw [if_neg hx]; simp [or_assoc]
    rw [key]; simp
  simp only [this]
/-- what is seen of the turned machine -/
theorem seen_turn (hm : OkMach m S Y) : (seen0 (turnM m n) n).2.1 = nubF [0] (stsP (rsP m n)) ∧ (seen0 (turnM m n) n).2.2.1 = nubF [0] (sysP (rsP m n)) := by
  have h := seenP_sts (m := turnM m n) (n := n) (w := (0, 0, [])) (ks := []) (ss := [0]) (ys := [0]) (ps := [0]) (by decide)
  rw [turn_tr hm] at h
  obtain ⟨a, b⟩ := turn_ruls (n := n) hm
  rw [a, b] at h
  exact h
/-- the law's names -/
theorem law_names {l : List Int} {k : Nat} : ((rg k).map fun x => (((nubF [0] l ++ (rg k).filter fun x => decide (x ∉ nubF [0] l)).idxOf x : Nat) : Int)) = namesF l k := by
  unfold namesF
  rw [names_nub]
end
end K

set_option Elab.async false
set_option linter.all false
set_option maxRecDepth 100000
set_option maxHeartbeats 2000000
namespace K
open PySem PySem.Spec PyProof.Rows L2 T
/-! N12c: a table of rows behind the store; what the defs of k12 promise. -/
theorem ext_out {O : Sto} {u : Ob} {E : List Ob} : ext O O.length u E = O ++ E := by
  unfold ext
  rw [List.set_eq_of_length_le (Nat.le_refl _)]
theorem gr_at {O : Sto} {m : Mach} : GridAt (O ++ gridE O.length m) O.length m := by
  have := grid_at (O := O) (k := O.length) (u := .gone) (E0 := []) (m := m) (b := O.length) rfl
  rwa [ext_out] at this
theorem gr_at2 {O : Sto} {m : Mach} {F : List Ob} : GridAt (O ++ (gridE O.length m ++ F)) O.length m := by
  have := grid_at2 (O := O) (k := O.length) (u := .gone) (E0 := []) (F := F) (m := m) (b := O.length) rfl
  rwa [ext_out] at this
theorem gr_oset {O : Sto} {m m0 : Mach} (h : m.length = m0.length) : oset (O ++ gridE O.length m0) (rowsOs O.length m) = O ++ gridE O.length m := by
  have := oset_grid (O := O) (k := O.length) (u := .gone) (E0 := []) (m := m) (m0 := m0) (b := O.length) rfl h
  rwa [ext_out, ext_out] at this
theorem gr_set {O : Sto} {m : Mach} {r : List Rule} {t : Rule} {s : Int} {x : Nat} (hr : m[s.toNat]? = some r) : List.set (O ++ gridE O.length m) (O.length + 1 + s.toNat) (.lst (((r.map ruleD).map C.d).set x (.d (ruleD t)))) = O ++ gridE O.length (m.set s.toNat (r.set x t)) := by
  have := grid_set (O := O) (k := O.length) (u := .gone) (B0 := []) (m := m) (r := r) (t := t) (s := s) (x := x) (b := O.length) rfl hr
  rwa [ext_out, ext_out] at this
theorem gw_at {O : Sto} {i : Nat} {r0 : List Rule} : (O ++ growE [] O.length i r0)[O.length]? = some (.lst (outL O.length i)) := by
  have := grow_at (O := O) (k := O.length) (u := .gone) (B0 := []) (b := O.length) (i := i) (r0 := r0) rfl
  rwa [ext_out] at this
theorem gw_at2 {O : Sto} {i : Nat} {r0 : List Rule} {x : Ob} : (O ++ (growE [] O.length i r0 ++ [x]))[O.length]? = some (.lst (outL O.length i)) := by
  have := grow_at2 (O := O) (k := O.length) (u := .gone) (x := x) (B0 := []) (b := O.length) (i := i) (r0 := r0) rfl
  rwa [ext_out] at this
theorem gw_step {O : Sto} {i : Nat} {r0 : List Rule} : List.set (O ++ (growE [] O.length i r0 ++ [rowO r0])) O.length (.lst (outL O.length (i + 1))) = O ++ growE [] O.length (i + 1) r0 := by
  have := grow_step (O := O) (k := O.length) (u := .gone) (B0 := []) (b := O.length) (i := i) (r0 := r0) rfl
  rwa [ext_out, ext_out] at this
theorem gw_full {b n : Nat} {r0 : List Rule} : growE [] b n r0 = gridE b (List.replicate n r0) := grow_full
/-! promises -/
def sp_names : SpT := fun cs O R _ => ∃ (l : List Int) (n : Nat), cs = [.d (.list (l.map PyData.int)), .d (.int ((n : Nat) : Int))] ∧ n ≤ 100 ∧ l.length ≤ 3000 ∧ R (.d (.list ((namesF l n).map PyData.int))) O
def sp_part : SpT := fun cs O R _ => ∃ m S Y ps, cs = [.d (machD m), .d (.list (ps.map pairD))] ∧ OkMach m S Y ∧ ps.length ≤ 3000 ∧ R (.d (machD (upM ps 0 m))) O
def sp_pstop : SpT := fun cs O R _ => ∃ m S Y, cs = [.d (machD m)] ∧ OkMach m S Y ∧ R (.d (machD (stopM m))) O
def sp_normal : SpT := fun cs O R _ => ∃ m S Y n, cs = [.d (machD m), .d (.int ((n : Nat) : Int))] ∧ OkMach m S Y ∧ n ≤ 2000 ∧ R (.d (machD (nfM m n))) O
def lnamF (l : List Int) (n : Nat) : List Int := (rg n).map fun x => (((l ++ (rg n).filter fun x => decide (x ∉ l)).idxOf x : Nat) : Int)
def sp_lnames : SpT := fun cs O R _ => ∃ (l : List Int) (n : Nat), cs = [.d (.list (l.map PyData.int)), .d (.int ((n : Nat) : Int))] ∧ n ≤ 100 ∧ l.length ≤ 3000 ∧ R (.d (.list ((lnamF l n).map PyData.int))) O
def sp_lnormal : SpT := fun cs O R _ => ∃ m S Y n, cs = [.d (machD m), .d (.int ((n : Nat) : Int))] ∧ OkMach m S Y ∧ n ≤ 2000 ∧ R (.d (machD (nfM m n))) O
theorem lnam_sts {m : Mach} {n : Nat} : lnamF (nubF [0] (stsP (rsP m n))) m.length = stL m n := law_names
theorem lnam_sys {m : Mach} {n : Nat} : lnamF (nubF [0] (sysP (rsP m n))) (m.getD 0 []).length = syL m n := law_names
theorem nm_ds {l : List Int} {n : Nat} : (PyData.int 0 :: (l.map PyData.int ++ rng 0 ((n : Int)).toNat)) = (0 :: (l ++ rg n)).map PyData.int := by
  rw [Int.toNat_natCast, rng0]
  simp [rg]
def idxD (ord : List Int) : PyData → PyData
  | .int x => .int ((ord.idxOf x : Nat) : Int)
  | _ => .none
theorem nm_res {l : List Int} {n : Nat} : (rng 0 ((n : Int)).toNat).map (idxD (nubF [] ([0] ++ l ++ rg n))) = (namesF l n).map PyData.int := by
  rw [Int.toNat_natCast, rng0]
  unfold namesF rg
  rw [List.map_map, List.map_map, List.map_map, List.map_map]
  rfl
theorem ln_res {l : List Int} {n : Nat} : (rng 0 ((n : Int)).toNat).map (idxD (l ++ (rg n).filter fun x => decide (x ∉ l))) = (lnamF l n).map PyData.int := by
  rw [Int.toNat_natCast, rng0]
  unfold lnamF rg
  rw [List.map_map, List.map_map, List.map_map, List.map_map]
  rfl
theorem nm_in {l : List Int} {n i : Nat} (h : i < n) : ((0 : Int) + i) ∈ nubF [] ([0] ++ l ++ rg n) := nub_mem.mpr (.inr (List.mem_append_right _ (rg_mem.mpr ⟨by omega, by omega⟩)))
theorem ln_in {l : List Int} {n i : Nat} (h : i < n) : ((0 : Int) + i) ∈ l ++ (rg n).filter fun x => decide (x ∉ l) := by
  by_cases e : ((0 : Int) + i) ∈ l
  · exact List.mem_append_left _ e
  · exact List.mem_append_right _ (List.mem_filter.mpr ⟨rg_mem.mpr ⟨by omega, by omega⟩, by simpa using e⟩)
theorem ln_fil {l : List Int} {n : Nat} {q : PyData → Bool} {g : PyData → PyData} (hq : ∀ x, q (.int x) = decide (x ∉ l)) (hg : ∀ d, g d = d) : (((rng 0 ((n : Int)).toNat).filter q).map g) = ((rg n).filter fun x => decide (x ∉ l)).map PyData.int := by
  have e1 : g = id := funext hg
  rw [e1, List.map_id, Int.toNat_natCast, rng0]
  show ((rg n).map PyData.int).filter q = _
  rw [List.filter_map]
  congr 1
  exact List.filter_congr fun x _ => hq x
theorem enum_mem {k : Nat} {ds : List PyData} {d : PyData} (h : d ∈ enumD k ds) : ∃ (i : Nat) (z : PyData), ds[i]? = some z ∧ d = .tuple [.int ((k + i : Nat) : Int), z] := by
  obtain ⟨i, hi⟩ := List.getElem?_of_mem h
  obtain ⟨z, hz, e⟩ := enumD_get hi
  exact ⟨i, z, hz, e⟩
def rulD (m : Mach) : PyData → PyData
  | .tuple [.int s, .int x] => ruleD (ruleAt m s x)
  | _ => .none
theorem rul_list {m : Mach} {n : Nat} : ((trP m n (0, 0, [])).map pairD).map (rulD m) = (rsP m n).map ruleD := by
  unfold rsP
  rw [List.map_map, List.map_map]; rfl
def goD : PyData → Bool
  | .tuple [_, _, .int q] => !decide (q = -1)
  | _ => false
def thrD : PyData → PyData
  | .tuple [_, _, c] => c
  | _ => .none
theorem sts_list {rs : List Rule} : ((rs.map ruleD).filter goD).map thrD = (stsP rs).map PyData.int := by
  unfold stsP
  rw [List.filter_map, List.map_map, List.map_map]; rfl
theorem sys_list {rs : List Rule} : ((rs.map ruleD).filter goD).map fstD = (sysP rs).map PyData.int := by
  unfold sysP
  rw [List.filter_map, List.map_map, List.map_map]; rfl
theorem rsP_len {m : Mach} {n : Nat} : (rsP m n).length ≤ n := by unfold rsP; rw [List.length_map]; exact trP_len
theorem stsP_len {rs : List Rule} : (stsP rs).length ≤ rs.length ∧ (sysP rs).length ≤ rs.length := by
  unfold stsP sysP
  rw [List.length_map, List.length_map]
  exact ⟨List.length_filter_le _ _, List.length_filter_le _ _⟩
structure SkOk (mt : Mach) (us : List (Int × Int)) (sk : Option (Int × Int)) : Prop where
  a : ∀ q, sk = some q → (rulP mt q).2.2 = -1
  b : ∀ q ∈ us, (rulP mt q).2.2 = -1 → sk = some q
theorem nub_memP {xs acc : List (Int × Int)} {p : Int × Int} : p ∈ nubF acc xs ↔ p ∈ acc ∨ p ∈ xs := by
  induction xs generalizing acc with
  | nil => rw [nubF_nil]; simp
  | cons x xs ih =>
    rw [nubF_cons, ih]
    unfold addN
    by_cases hx : x ∈ acc
    · rw [if_pos hx, List.mem_cons]
      constructor
      · rintro (z | z)
        · exact .inl z
        · exact .inr (.inr z)
      · rintro (z | z | z)
        · exact .inl z
        · exact .inl (z ▸ hx)
        · exact .inr z
    · rw [if_neg hx]; simp [or_assoc]
theorem us_bound {m : Mach} {S Y : Int} (hm : OkMach m S Y) {n : Nat} : ∀ p ∈ usL m n, (0 ≤ p.1 ∧ p.1 < S) ∧ 0 ≤ p.2 ∧ p.2 < Y := fun p hp => tr_bound hm p ((nub_memP.mp hp).resolve_left (by simp))
theorem seen_form12 {m : Mach} {S Y : Int} {n : Nat} (hm : OkMach m S Y) : ∃ z sk, seenD (seen0 (turnM m n) n) = .list [.list ((usL (turnM m n) n).map pairD), .list ((nubF [0] (stsP (rsP m n))).map PyData.int), .list ((nubF [0] (sysP (rsP m n))).map PyData.int), z, optD sk] ∧ SkOk (turnM m n) (usL (turnM m n) n) sk := by
  obtain ⟨e1, e2⟩ := seen_turn (n := n) hm
  refine ⟨_, (seen0 (turnM m n) n).2.2.2.2, by unfold seenD; rw [seen0_keys, e1, e2]; rfl, fun q h => seenP_sk1 h, fun q hq h => ?_⟩
  exact seenP_sk2 (by decide) ((nub_memP.mp hq).resolve_left (by simp)) h
theorem sh_opt {s : Option (Int × Int)} : Sh 1 (optD s) := by
  cases s with
  | none => exact ⟨rfl, Nat.zero_le _⟩
  | some p => exact sh_pr1
theorem ne_opt {p : Int × Int} {s : Option (Int × Int)} : PyData.eqv (pairD p) (optD s) = decide (s = some p) := by
  cases s with
  | none => rfl
  | some q =>
    show PyData.eqv (pairD p) (pairD q) = _
    rw [eqv_pair, decide_eq_decide]
    exact ⟨fun e => e ▸ rfl, fun e => (Option.some.inj e).symm⟩
theorem turn_len {m : Mach} {n : Nat} : (turnM m n).length = m.length := by
  unfold turnM; split
  · unfold mirM; rw [List.length_map]
  · rfl
end K

set_option Elab.async false
set_option linter.all false
set_option maxRecDepth 100000
set_option maxHeartbeats 2000000
namespace K
open PySem PySem.Spec PyProof.Rows L2 T
/-! N13m: what a normal form hangs on. -/
abbrev Cell3 := Int × Int × Option Rule
def osP (rs : List Rule) : List Int := nubF [0] (stsP rs)
def oyP (rs : List Rule) : List Int := nubF [0] (sysP rs)
def codeR (os oy : List Int) (p : Int × Int) (r : Rule) : Cell3 := (((os.idxOf p.1 : Nat) : Int), ((oy.idxOf p.2 : Nat) : Int), if r.2.2 = -1 then none else some (((oy.idxOf r.1 : Nat) : Int), r.2.1, ((os.idxOf r.2.2 : Nat) : Int)))
def rsT (m : Mach) (n : Nat) : List Rule := (trP m n (0, 0, [])).map (rulP (turnM m n))
def codeL (m : Mach) (n : Nat) : List Cell3 := (trP m n (0, 0, [])).map fun p => codeR (osP (rsT m n)) (oyP (rsT m n)) p (rulP (turnM m n) p)
def putC (T : Mach) (e : Cell3) : Mach := match e.2.2 with
  | none => T
  | some r => T.set e.1.toNat ((T.getD e.1.toNat []).set e.2.1.toNat r)
def tabC (S Y : Nat) (c : List Cell3) : Mach := c.foldl putC (List.replicate S (List.replicate Y plainR))
theorem idx_app {a b : List Int} {x : Int} (h : x ∈ a) : (a ++ b).idxOf x = a.idxOf x := by rw [List.idxOf_append, if_pos h]
theorem names_vis {l : List Int} {n : Nat} {x : Int} (h0 : 0 ≤ x) (h1 : x < n) (h : x ∈ nubF [0] l) : (namesF l n).getD x.toNat 0 = (((nubF [0] l).idxOf x : Nat) : Int) := by
  unfold namesF
  rw [List.getD_eq_getElem?_getD, List.getElem?_map, rg_get (by omega)]
  show (((nubF [] ([0] ++ l ++ rg n)).idxOf ((x.toNat : Nat) : Int) : Nat) : Int) = _
  rw [Int.toNat_of_nonneg h0, names_nub, idx_app h]
/-- what a run reads was written, where it is was led to -/
theorem trP_vis {m : Mach} : ∀ {n : Nat} {w : WS} {A B : Int → Prop}, A w.1 → (∀ x, B (look w.2.2 x)) → ∀ p ∈ trP m n w, (A p.1 ∨ p.1 ∈ stsP ((trP m n w).map (rulP m))) ∧ (B p.2 ∨ p.2 ∈ sysP ((trP m n w).map (rulP m)))
  | 0, _, _, _, _, _, p, hp => by cases hp
  | n + 1, w, A, B, hA, hB, p, hp => by
    by_cases e : w.1 = -1
    · rw [trP_stop (.inr e)] at hp; cases hp
    · rw [trP_go e] at hp ⊢
      rcases List.mem_cons.mp hp with z | z
      · subst z
        exact ⟨.inl hA, .inl (hB _)⟩
      · rw [List.map_cons, sts_cons, sys_cons]
        have e0 : (rulP m (w.1, look w.2.2 w.2.1)).2.2 = (takeT m w).1 := rfl
        by_cases e2 : (takeT m w).1 = -1
        · rw [trP_stop (.inr e2)] at z; cases z
        · rw [e0, if_neg e2, if_neg e2]
          have ih := trP_vis (n := n) (w := takeT m w) (A := fun y => A y ∨ y = (takeT m w).1) (B := fun y => B y ∨ y = (rulP m (w.1, look w.2.2 w.2.1)).1) (.inr rfl) (fun x => by
            show B (look (putI w.2.2 w.2.1 _) x) ∨ look (putI w.2.2 w.2.1 _) x = _
            rw [look_put]
            split
            · exact .inr rfl
            · exact .inl (hB x)) p z
          refine ⟨?_, ?_⟩
          · rcases ih.1 with (h | h) | h
            · exact .inl h
            · exact .inr (h ▸ List.mem_cons_self ..)
            · exact .inr (List.mem_cons_of_mem _ h)
          · rcases ih.2 with (h | h) | h
            · exact .inl h
            · exact .inr (h ▸ List.mem_cons_self ..)
            · exact .inr (List.mem_cons_of_mem _ h)
section
variable {m : Mach} {S Y : Int} {n : Nat}
theorem rsT_sts (hm : OkMach m S Y) : stsP (rsT m n) = stsP (rsP m n) ∧ sysP (rsT m n) = sysP (rsP m n) := turn_ruls hm
theorem vis (hm : OkMach m S Y) : ∀ p ∈ trP m n (0, 0, []), p.1 ∈ osP (rsT m n) ∧ p.2 ∈ oyP (rsT m n) := fun p hp => by
  have h := trP_vis (m := m) (n := n) (w := (0, 0, [])) (A := fun y => y = 0) (B := fun y => y = 0) rfl (fun x => rfl) p hp
  unfold osP oyP
  rw [(rsT_sts hm).1, (rsT_sts hm).2]
  refine ⟨nub_mem.mpr ?_, nub_mem.mpr ?_⟩
  · rcases h.1 with z | z
    · exact .inl (by simp [z])
    · exact .inr z
  · rcases h.2 with z | z
    · exact .inl (by simp [z])
    · exact .inr z
theorem vis2 (hm : OkMach m S Y) : ∀ p ∈ trP m n (0, 0, []), (rulP (turnM m n) p).2.2 ≠ -1 → (rulP (turnM m n) p).2.2 ∈ osP (rsT m n) ∧ (rulP (turnM m n) p).1 ∈ oyP (rsT m n) := fun p hp h => by
  have hr : rulP (turnM m n) p ∈ (rsT m n).filter goR := List.mem_filter.mpr ⟨List.mem_map.mpr ⟨p, hp, rfl⟩, by unfold goR; simp [h]⟩
  exact ⟨nub_mem.mpr (.inr (List.mem_map.mpr ⟨_, hr, rfl⟩)), nub_mem.mpr (.inr (List.mem_map.mpr ⟨_, hr, rfl⟩))⟩
theorem stL_vis (hm : OkMach m S Y) {x : Int} (h0 : 0 ≤ x) (h1 : x < S) (h : x ∈ osP (rsT m n)) : (stL m n).getD x.toNat 0 = (((osP (rsT m n)).idxOf x : Nat) : Int) := by
  unfold osP at h ⊢
  rw [(rsT_sts hm).1] at h ⊢
  exact names_vis h0 (by have := hm.len; omega) h
theorem syL_vis (hm : OkMach m S Y) {x : Int} (h0 : 0 ≤ x) (h1 : x < Y) (h : x ∈ oyP (rsT m n)) : (syL m n).getD x.toNat 0 = (((oyP (rsT m n)).idxOf x : Nat) : Int) := by
  unfold oyP at h ⊢
  rw [(rsT_sts hm).2] at h ⊢
  unfold syL
  exact names_vis h0 (by rw [row0_len hm]; omega) h
theorem take_map {α β : Type} {f : α → β} {l : List α} {k : Nat} : (l.take k).map f = (l.map f).take k := List.map_take
/-- a normal form by its code -/
theorem nf_code (hm : OkMach m S Y) : nfM m n = tabC m.length Y.toNat (codeL m n) := by
  rw [nf_tab hm]
  have hn1 := stL_ok (n := n) hm
  have hn2 := syL_ok (n := n) hm
  have key : ∀ k, k ≤ (trP m n (0, 0, [])).length → tabF (stL m n) (syL m n) (turnM m n) m.length Y.toNat ((trP m n (0, 0, [])).take k) = tabC m.length Y.toNat ((codeL m n).take k) := by
    intro k
    induction k with
    | zero => intro _; rw [List.take_zero, List.take_zero, tab_0]; rfl
    | succ k ih =>
      intro hk
      have hk' : k < (trP m n (0, 0, [])).length := by omega
      obtain ⟨p, hp⟩ : ∃ p, (trP m n (0, 0, []))[k]? = some p := ⟨_, List.getElem?_eq_getElem hk'⟩
      have hpm : p ∈ trP m n (0, 0, []) := List.mem_of_getElem? hp
      have hc : (codeL m n)[k]? = some (codeR (osP (rsT m n)) (oyP (rsT m n)) p (rulP (turnM m n) p)) := by
        unfold codeL; rw [List.getElem?_map, hp]; rfl
      rw [take_succ' hp, take_succ' hc]
      have ih := ih (by omega)
      have hstep : tabC m.length Y.toNat ((codeL m n).take k ++ [codeR (osP (rsT m n)) (oyP (rsT m n)) p (rulP (turnM m n) p)]) = putC (tabC m.length Y.toNat ((codeL m n).take k)) (codeR (osP (rsT m n)) (oyP (rsT m n)) p (rulP (turnM m n) p)) := by
        unfold tabC; rw [List.foldl_append]; rfl
      rw [hstep, ← ih]
      obtain ⟨⟨b1, b2⟩, b3, b4⟩ := tr_bound hm p hpm
      have ht := turn_ok (n := n) hm
      have hrk := rule_in ht (p := p) ⟨⟨b1, b2⟩, b3, b4⟩
      by_cases hs : (rulP (turnM m n) p).2.2 = -1
      · rw [tab_stop hs]
        unfold putC codeR
        dsimp only
        rw [if_pos hs]
      · obtain ⟨v1, v2⟩ := vis hm p hpm
        obtain ⟨v3, v4⟩ := vis2 hm p hpm hs
        have q0 := hrk.s0
        have q1 := hrk.s1
        have e := tab_set (m := turnM m n) (l := (trP m n (0, 0, [])).take k) (s := p.1.toNat) (x := p.2.toNat) hn1 hn2 (by have := hm.len; omega) (by omega)
        rw [Int.toNat_of_nonneg b1, Int.toNat_of_nonneg b3] at e
        have e := e hs (by show 0 ≤ (rulP (turnM m n) p).2.2; omega) (by show (rulP (turnM m n) p).2.2 < _; have := hm.len; omega)
        have ep : ((p.1 : Int), p.2) = p := rfl
        rw [ep] at e
        rw [e]
        unfold putC codeR
        dsimp only
        rw [if_neg hs]
        dsimp only
        obtain ⟨c1, c2, _⟩ := nam_get hn1 (i := p.1.toNat) (by have := hm.len; omega)
        rw [← stL_vis hm b1 b2 v1, ← syL_vis hm b3 b4 v2, ← stL_vis hm (by omega) q1 v3, ← syL_vis hm hrk.w0 hrk.w1 v4]
        have eg : (tabF (stL m n) (syL m n) (turnM m n) m.length Y.toNat ((trP m n (0, 0, [])).take k)).getD ((stL m n).getD p.1.toNat 0).toNat [] = (rg Y.toNat).map fun j => cellF (stL m n) (syL m n) (turnM m n) ((trP m n (0, 0, [])).take k) ((stL m n).getD p.1.toNat 0) j := by
          rw [List.getD_eq_getElem?_getD, tab_get (by omega), Int.toNat_of_nonneg c1]; rfl
        rw [eg]
        rfl
  have := key (trP m n (0, 0, [])).length (Nat.le_refl _)
  rw [List.take_length] at this
  rw [this]
  congr 1
  exact List.take_of_length_le (by unfold codeL; rw [List.length_map]; exact Nat.le_refl _)
/-! mirrors -/
theorem first_mv (hm : OkMach m S Y) : (ruleAt m 0 0).2.1 = -1 ∨ (ruleAt m 0 0).2.1 = 1 := (rule_in hm (p := (0, 0)) ⟨⟨Int.le_refl _, by show (0 : Int) < S; have := hm.s1; omega⟩, Int.le_refl _, by show (0 : Int) < Y; have := hm.y2; omega⟩).mv
theorem first_mir (hm : OkMach m S Y) : ruleAt (mirM m) 0 0 = mirR (ruleAt m 0 0) := rul_mir hm (p := (0, 0)) ⟨⟨Int.le_refl _, by show (0 : Int) < S; have := hm.s1; omega⟩, Int.le_refl _, by show (0 : Int) < Y; have := hm.y2; omega⟩
theorem turn_mir (hm : OkMach m S Y) (hn : 0 < n) : turnM (mirM m) n = turnM m n := by
  have h1 := first_mv hm
  have h2 := first_mir hm
  unfold turnM
  rcases h1 with h | h
  · rw [if_neg (by rw [h2]; show ¬ (0 < n ∧ -(ruleAt m 0 0).2.1 = -1); omega), if_pos ⟨hn, h⟩]
  · rw [if_pos (by rw [h2]; show 0 < n ∧ -(ruleAt m 0 0).2.1 = -1; omega), if_neg (by omega), mir_mir]
theorem mir_len : (mirM m).length = m.length := by unfold mirM; rw [List.length_map]
theorem nf_mir (hm : OkMach m S Y) (hn : 0 < n) : nfM (mirM m) n = nfM m n := by
  rw [nf_code (ok_mir hm), nf_code hm, mir_len]
  unfold codeL rsT
  rw [turn_mir hm hn, tr_mir hm]
/-! names -/
theorem nub_map {f : Int → Int} {P : Int → Prop} (hf : ∀ a b, P a → P b → f a = f b → a = b) : ∀ {xs acc : List Int}, (∀ x ∈ acc, P x) → (∀ x ∈ xs, P x) → nubF (acc.map f) (xs.map f) = (nubF acc xs).map f
  | [], _, _, _ => rfl
  | x :: xs, acc, ha, hx => by
    rw [List.map_cons, nubF_cons, nubF_cons]
    have hx1 := hx x (List.mem_cons_self ..)
    have hx2 := fun y hy => hx y (List.mem_cons_of_mem x hy)
    have hmem : f x ∈ acc.map f ↔ x ∈ acc := by
      rw [List.mem_map]
      constructor
      · rintro ⟨y, hy, e⟩
        exact (hf y x (ha y hy) hx1 e) ▸ hy
      · exact fun h => ⟨x, h, rfl⟩
    by_cases h : x ∈ acc
    · rw [addN_in h, addN_in (hmem.mpr h)]
      exact nub_map hf ha hx2
    · rw [addN_out h, addN_out (fun z => h (hmem.mp z))]
      have := nub_map hf (xs := xs) (acc := acc ++ [x]) (fun y hy => by
        rcases List.mem_append.mp hy with z | z
        · exact ha y z
        · have : y = x := by simpa using z
          subst this; exact hx1) hx2
      rw [List.map_append] at this
      exact this
theorem idx_map {f : Int → Int} {P : Int → Prop} (hf : ∀ a b, P a → P b → f a = f b → a = b) : ∀ {l : List Int} {x : Int}, (∀ y ∈ l, P y) → P x → (l.map f).idxOf (f x) = l.idxOf x
  | [], _, _, _ => rfl
  | a :: l, x, hl, hx => by
    rw [List.map_cons, List.idxOf_cons, List.idxOf_cons]
    have ha := hl a (List.mem_cons_self ..)
    by_cases e : a = x
    · subst e; simp
    · have e2 : f a ≠ f x := fun z => e (hf a x ha hx z)
      have b1 : (f a == f x) = false := by simpa using e2
      have b2 : (a == x) = false := by simpa using e
      rw [b1, b2]
      show _ + 1 = _ + 1
      rw [idx_map hf (fun y hy => hl y (List.mem_cons_of_mem _ hy)) hx]
end
section
variable {m : Mach} {S Y : Int} {n : Nat} {st sy : List Int}
theorem ren_len (h1 : Naming st m.length) : (renM st sy m).length = m.length := by unfold renM; rw [List.length_map, rg_len, nam_len h1]
theorem ruleAt_ren (hm : OkMach m S Y) (h1 : Naming st m.length) (h2 : Naming sy Y.toNat) {s x : Int} (s0 : 0 ≤ s) (s1 : s < S) (x0 : 0 ≤ x) (x1 : x < Y) : ruleAt (renM st sy m) (renS st s) (sy.getD x.toNat 0) = (sy.getD (ruleAt m s x).1.toNat 0, (ruleAt m s x).2.1, renS st (ruleAt m s x).2.2) := (sy_ren hm h1 h2).rule s x s0 s1 x0 x1
theorem ren_inj (h1 : Naming st m.length) (hm : OkMach m S Y) : ∀ a b : Int, (0 ≤ a ∧ a < S) → (0 ≤ b ∧ b < S) → st.getD a.toNat 0 = st.getD b.toNat 0 → a = b := fun a b ⟨a0, a1⟩ ⟨b0, b1⟩ e => by
  have hl := hm.len
  obtain ⟨_, _, g1⟩ := nam_get h1 (i := a.toNat) (by omega)
  obtain ⟨_, _, g2⟩ := nam_get h1 (i := b.toNat) (by omega)
  have i1 := idx_get (nam_nodup h1) g1
  have i2 := idx_get (nam_nodup h1) g2
  rw [e, i2] at i1
  omega
theorem reny_inj (h2 : Naming sy Y.toNat) : ∀ a b : Int, (0 ≤ a ∧ a < Y) → (0 ≤ b ∧ b < Y) → sy.getD a.toNat 0 = sy.getD b.toNat 0 → a = b := fun a b ⟨a0, a1⟩ ⟨b0, b1⟩ e => by
  obtain ⟨_, _, g1⟩ := nam_get h2 (i := a.toNat) (by omega)
  obtain ⟨_, _, g2⟩ := nam_get h2 (i := b.toNat) (by omega)
  have i1 := idx_get (nam_nodup h2) g1
  have i2 := idx_get (nam_nodup h2) g2
  rw [e, i2] at i1
  omega
theorem mir_ren : mirM (renM st sy m) = renM st sy (mirM m) := by
  unfold mirM renM
  rw [List.map_map]
  refine List.map_congr_left fun i _ => ?_
  show (renRow st sy (m.getD (st.idxOf i) [])).map mirR = renRow st sy ((m.map (·.map mirR)).getD (st.idxOf i) [])
  have e1 : (m.map (·.map mirR)).getD (st.idxOf i) [] = (m.getD (st.idxOf i) []).map mirR := by
    rw [List.getD_eq_getElem?_getD, List.getD_eq_getElem?_getD, List.getElem?_map]
    cases m[st.idxOf i]? <;> rfl
  rw [e1]
  unfold renRow
  rw [List.map_map]
  refine List.map_congr_left fun j _ => ?_
  show mirR (renRule st sy ((m.getD (st.idxOf i) []).getD (sy.idxOf j) (0, 0, 0))) = renRule st sy (((m.getD (st.idxOf i) []).map mirR).getD (sy.idxOf j) (0, 0, 0))
  have e2 : ((m.getD (st.idxOf i) []).map mirR).getD (sy.idxOf j) (0, 0, 0) = mirR ((m.getD (st.idxOf i) []).getD (sy.idxOf j) (0, 0, 0)) := by
    generalize m.getD (st.idxOf i) [] = row
    rw [List.getD_eq_getElem?_getD, List.getD_eq_getElem?_getD, List.getElem?_map]
    cases row[sy.idxOf j]? <;> rfl
  rw [e2]; rfl
theorem first_ren (hm : OkMach m S Y) (h1 : Naming st m.length) (h2 : Naming sy Y.toNat) : (ruleAt (renM st sy m) 0 0).2.1 = (ruleAt m 0 0).2.1 := by
  have e := ruleAt_ren hm h1 h2 (s := 0) (x := 0) (Int.le_refl _) (by have := hm.s1; omega) (Int.le_refl _) (by have := hm.y2; omega)
  have e1 : renS st 0 = 0 := by unfold renS; rw [if_neg (by decide)]; exact nam_zero h1
  have e2 : sy.getD (0 : Int).toNat 0 = 0 := nam_zero h2
  rw [e1, e2] at e
  rw [e]
theorem turn_ren (hm : OkMach m S Y) (h1 : Naming st m.length) (h2 : Naming sy Y.toNat) : turnM (renM st sy m) n = renM st sy (turnM m n) := by
  unfold turnM
  rw [first_ren hm h1 h2]
  split
  · exact mir_ren
  · rfl
def renP (st sy : List Int) (p : Int × Int) : Int × Int := (renS st p.1, sy.getD p.2.toNat 0)
theorem tr_ren (hm : OkMach m S Y) (h1 : Naming st m.length) (h2 : Naming sy Y.toNat) : trP (renM st sy m) n (0, 0, []) = (trP m n (0, 0, [])).map (renP st sy) :=
  rl_trP (sy_ren hm h1 h2) hm (okS_zero hm.s1 hm.y2) (rl_0 (by unfold renS; rw [if_neg (by decide)]; exact nam_zero h1) rfl (nam_zero h2))
theorem renS_ge {s : Int} (h : 0 ≤ s) : renS st s = st.getD s.toNat 0 := by unfold renS; rw [if_neg (by omega)]
theorem rsT_ren (hm : OkMach m S Y) (h1 : Naming st m.length) (h2 : Naming sy Y.toNat) : rsT (renM st sy m) n = (rsT m n).map fun r => (sy.getD r.1.toNat 0, r.2.1, renS st r.2.2) := by
  unfold rsT
  rw [turn_ren hm h1 h2, tr_ren hm h1 h2, List.map_map, List.map_map]
  refine List.map_congr_left fun p hp => ?_
  obtain ⟨⟨b1, b2⟩, b3, b4⟩ := tr_bound hm p hp
  exact ruleAt_ren (turn_ok hm) (by rw [turn_len]; exact h1) h2 b1 b2 b3 b4
theorem rsT_ok (hm : OkMach m S Y) : ∀ r ∈ rsT m n, OkRule S Y r := fun r hr => by
  obtain ⟨p, hp, rfl⟩ := List.mem_map.mp hr
  exact rule_in (turn_ok hm) (tr_bound hm p hp)
theorem renS_stop (h1 : Naming st m.length) (hm : OkMach m S Y) {q : Int} (q0 : -1 ≤ q) (q1 : q < S) : renS st q = -1 ↔ q = -1 := by
  unfold renS
  have := hm.len
  by_cases e : q = -1
  · rw [if_pos e]; exact ⟨fun _ => e, fun _ => rfl⟩
  · rw [if_neg e]
    obtain ⟨g, _, _⟩ := nam_get h1 (i := q.toNat) (by omega)
    exact ⟨fun z => by omega, fun z => absurd z e⟩
theorem sts_ren {rs : List Rule} (h1 : Naming st m.length) (hm : OkMach m S Y) (ok : ∀ r ∈ rs, OkRule S Y r) : stsP (rs.map fun r => (sy.getD r.1.toNat 0, r.2.1, renS st r.2.2)) = (stsP rs).map (fun x => st.getD x.toNat 0) ∧ sysP (rs.map fun r => (sy.getD r.1.toNat 0, r.2.1, renS st r.2.2)) = (sysP rs).map (fun x => sy.getD x.toNat 0) := by
  induction rs with
  | nil => exact ⟨rfl, rfl⟩
  | cons r rs ih =>
    have hr := ok r (List.mem_cons_self ..)
    obtain ⟨i1, i2⟩ := ih fun x hx => ok x (List.mem_cons_of_mem _ hx)
    rw [List.map_cons, sts_cons, sys_cons, sts_cons, sys_cons]
    have hs := renS_stop h1 hm hr.s0 hr.s1
    by_cases e : r.2.2 = -1
    · rw [if_pos (hs.mpr e), if_pos (hs.mpr e), if_pos e, if_pos e]; exact ⟨i1, i2⟩
    · rw [if_neg (fun z => e (hs.mp z)), if_neg (fun z => e (hs.mp z)), if_neg e, if_neg e, List.map_cons, List.map_cons, i1, i2]
      have := hr.s0
      exact ⟨by rw [renS_ge (by omega)], rfl⟩
theorem os_ren (hm : OkMach m S Y) (h1 : Naming st m.length) (h2 : Naming sy Y.toNat) : osP (rsT (renM st sy m) n) = (osP (rsT m n)).map (fun x => st.getD x.toNat 0) ∧ oyP (rsT (renM st sy m) n) = (oyP (rsT m n)).map (fun x => sy.getD x.toNat 0) := by
  have hok := rsT_ok (n := n) hm
  obtain ⟨e1, e2⟩ := sts_ren (sy := sy) h1 hm hok
  have hb := stsP_mem hok
  unfold osP oyP
  rw [rsT_ren hm h1 h2, e1, e2]
  have z1 : [(0 : Int)] = [(0 : Int)].map fun x => st.getD x.toNat 0 := by
    show [(0 : Int)] = [st.getD (0 : Int).toNat 0]
    rw [show st.getD (0 : Int).toNat 0 = 0 from nam_zero h1]
  have z2 : [(0 : Int)] = [(0 : Int)].map fun x => sy.getD x.toNat 0 := by
    show [(0 : Int)] = [sy.getD (0 : Int).toNat 0]
    rw [show sy.getD (0 : Int).toNat 0 = 0 from nam_zero h2]
  have s1 := hm.s1
  have y2 := hm.y2
  constructor
  · conv => lhs; rw [z1]
    exact nub_map (P := fun x => 0 ≤ x ∧ x < S) (ren_inj h1 hm) (fun x hx => (fun e : x = 0 => by subst e; exact ⟨Int.le_refl _, by omega⟩) (by simpa using hx)) hb.1
  · conv => lhs; rw [z2]
    exact nub_map (P := fun x => 0 ≤ x ∧ x < Y) (reny_inj h2) (fun x hx => (fun e : x = 0 => by subst e; exact ⟨Int.le_refl _, by omega⟩) (by simpa using hx)) hb.2
theorem os_bound (hm : OkMach m S Y) : (∀ x ∈ osP (rsT m n), 0 ≤ x ∧ x < S) ∧ ∀ x ∈ oyP (rsT m n), 0 ≤ x ∧ x < Y := by
  have hb := stsP_mem (rsT_ok (n := n) hm)
  have s1 := hm.s1
  have y2 := hm.y2
  constructor
  · intro x hx
    rcases nub_mem.mp hx with z | z
    · have : x = 0 := by simpa using z
      omega
    · exact hb.1 x z
  · intro x hx
    rcases nub_mem.mp hx with z | z
    · have : x = 0 := by simpa using z
      omega
    · exact hb.2 x z
theorem nf_ren (hm : OkMach m S Y) (h1 : Naming st m.length) (h2 : Naming sy Y.toNat) : nfM (renM st sy m) n = nfM m n := by
  rw [nf_code (ren_ok hm h1 h2), nf_code hm, ren_len h1]
  congr 1
  unfold codeL
  obtain ⟨o1, o2⟩ := os_ren (n := n) hm h1 h2
  obtain ⟨c1, c2⟩ := os_bound (n := n) hm
  rw [o1, o2, turn_ren hm h1 h2, tr_ren hm h1 h2, List.map_map]
  refine List.map_congr_left fun p hp => ?_
  obtain ⟨⟨b1, b2⟩, b3, b4⟩ := tr_bound hm p hp
  have hrk := rule_in (turn_ok (n := n) hm) (p := p) ⟨⟨b1, b2⟩, b3, b4⟩
  show codeR _ _ (renP st sy p) (ruleAt (renM st sy (turnM m n)) (renS st p.1) (sy.getD p.2.toNat 0)) = _
  rw [ruleAt_ren (turn_ok hm) (by rw [turn_len]; exact h1) h2 b1 b2 b3 b4]
  have hs := renS_stop h1 hm hrk.s0 hrk.s1
  unfold codeR renP
  dsimp only
  rw [renS_ge b1, idx_map (P := fun x => 0 ≤ x ∧ x < S) (ren_inj h1 hm) c1 ⟨b1, b2⟩, idx_map (P := fun x => 0 ≤ x ∧ x < Y) (reny_inj h2) c2 ⟨b3, b4⟩]
  have hs : renS st (ruleAt (turnM m n) p.1 p.2).2.2 = -1 ↔ (rulP (turnM m n) p).2.2 = -1 := hs
  by_cases e : (rulP (turnM m n) p).2.2 = -1
  · rw [if_pos (hs.mpr e), if_pos e]
  · rw [if_neg (fun z => e (hs.mp z)), if_neg e]
    have q0 := hrk.s0
    have q1 : 0 ≤ (ruleAt (turnM m n) p.1 p.2).2.2 := by
      have : (rulP (turnM m n) p).2.2 = (ruleAt (turnM m n) p.1 p.2).2.2 := rfl
      omega
    rw [renS_ge q1, idx_map (P := fun x => 0 ≤ x ∧ x < S) (ren_inj h1 hm) c1 ⟨q1, hrk.s1⟩]
    have e3 := idx_map (P := fun x => 0 ≤ x ∧ x < Y) (reny_inj h2) c2 ⟨hrk.w0, hrk.w1⟩
    have e4 : (rulP (turnM m n) p) = ruleAt (turnM m n) p.1 p.2 := rfl
    rw [e4] at e3 ⊢
    rw [e3]
end
/-! machines that agree where a run comes -/
def AgR (r r' : Rule) : Prop := r' = r ∨ (r.2.2 = -1 ∧ r'.2.2 = -1)
theorem tr_ag {m m' : Mach} : ∀ {n : Nat} {w : WS}, (∀ p ∈ trP m n w, AgR (rulP m p) (rulP m' p)) → trP m' n w = trP m n w
  | 0, _, _ => rfl
  | n + 1, w, h => by
    by_cases e : w.1 = -1
    · rw [trP_stop (.inr e), trP_stop (.inr e)]
    · rw [trP_go e] at h ⊢
      rw [trP_go e]
      congr 1
      rcases h _ (List.mem_cons_self ..) with g | ⟨g1, g2⟩
      · have e2 : takeT m' w = takeT m w := by
          have g : ruleAt m' w.1 (look w.2.2 w.2.1) = ruleAt m w.1 (look w.2.2 w.2.1) := g
          unfold takeT; rw [g]
        rw [e2]
        exact tr_ag fun p hp => h p (List.mem_cons_of_mem _ hp)
      · have e1 : (takeT m w).1 = -1 := g1
        have e2 : (takeT m' w).1 = -1 := g2
        rw [trP_stop (.inr e1), trP_stop (.inr e2)]
section
variable {m m' : Mach} {S Y : Int} {n : Nat}
theorem ag_mir {r r' : Rule} (h : AgR r r') : AgR (mirR r) (mirR r') := h.elim (fun e => .inl (by rw [e])) fun e => .inr e
theorem sts_ag : ∀ {l : List (Int × Int)} {f g : Int × Int → Rule}, (∀ p ∈ l, AgR (f p) (g p)) → stsP (l.map g) = stsP (l.map f) ∧ sysP (l.map g) = sysP (l.map f)
  | [], _, _, _ => ⟨rfl, rfl⟩
  | p :: l, f, g, h => by
    obtain ⟨i1, i2⟩ := sts_ag (l := l) (f := f) (g := g) fun q hq => h q (List.mem_cons_of_mem _ hq)
    rw [List.map_cons, List.map_cons, sts_cons, sts_cons, sys_cons, sys_cons, i1, i2]
    rcases h p (List.mem_cons_self ..) with e | ⟨e1, e2⟩
    · rw [e]; exact ⟨rfl, rfl⟩
    · rw [if_pos e1, if_pos e2, if_pos e1, if_pos e2]; exact ⟨rfl, rfl⟩
theorem nf_ag (hm : OkMach m S Y) (hm' : OkMach m' S Y) (h : ∀ p ∈ trP m n (0, 0, []), AgR (rulP m p) (rulP m' p)) : nfM m' n = nfM m n := by
  have hl : m'.length = m.length := by have := hm.len; have := hm'.len; omega
  rw [nf_code hm', nf_code hm, hl]
  congr 1
  have ht := tr_ag h
  unfold codeL rsT
  rw [ht]
  cases n with
  | zero => rfl
  | succ n =>
    -- the turned machines agree, or the run stops at once
    have key : (∀ p ∈ trP m (n + 1) (0, 0, []), AgR (rulP (turnM m (n + 1)) p) (rulP (turnM m' (n + 1)) p)) := by
      have h0 : AgR (rulP m (0, 0)) (rulP m' (0, 0)) := h (0, 0) (by rw [tr_head]; exact List.mem_cons_self ..)
      rcases h0 with e | ⟨e1, e2⟩
      · have e : ruleAt m' 0 0 = ruleAt m 0 0 := e
        unfold turnM
        rw [e]
        split
        · intro p hp
          rw [rul_mir hm (tr_bound hm p hp), rul_mir hm' (tr_bound hm p hp)]
          exact ag_mir (h p hp)
        · exact h
      · intro p hp
        rw [tr_head, trP_stop (.inr (show (takeT m (0, 0, [])).1 = -1 from e1))] at hp
        have : p = (0, 0) := by simpa using hp
        subst this
        refine .inr ⟨?_, ?_⟩
        · unfold turnM
          split
          · show (ruleAt (mirM m) 0 0).2.2 = -1
            rw [first_mir hm]; exact e1
          · exact e1
        · unfold turnM
          split
          · show (ruleAt (mirM m') 0 0).2.2 = -1
            rw [first_mir hm']; exact e2
          · exact e2
    obtain ⟨i1, i2⟩ := sts_ag key
    unfold osP oyP
    rw [i1, i2]
    refine List.map_congr_left fun p hp => ?_
    rcases key p hp with e | ⟨e1, e2⟩
    · rw [e]
    · unfold codeR
      rw [if_pos e1, if_pos e2]
/-- a normal form is its own -/
def gM (m : Mach) (n : Nat) : Mach := renM (stL m n) (syL m n) (turnM m n)
theorem nf_entry (hm : OkMach m S Y) {p : Int × Int} (hp : p ∈ trP m n (0, 0, [])) : rulP (nfM m n) (renP (stL m n) (syL m n) p) = stopR (renRule (stL m n) (syL m n) (rulP (turnM m n) p)) := by
  obtain ⟨⟨b1, b2⟩, b3, b4⟩ := tr_bound hm p hp
  have hn1 := stL_ok (n := n) hm
  have hn2 := syL_ok (n := n) hm
  have hl := hm.len
  obtain ⟨a1, a2, _⟩ := nam_get hn1 (i := p.1.toNat) (by omega)
  obtain ⟨a3, a4, _⟩ := nam_get hn2 (i := p.2.toNat) (by omega)
  rw [nf_tab hm]
  show ruleAt _ (renS (stL m n) p.1) ((syL m n).getD p.2.toNat 0) = _
  rw [renS_ge b1]
  unfold ruleAt
  rw [List.getD_eq_getElem?_getD (l := tabF _ _ _ _ _ _), tab_get (by omega), Int.toNat_of_nonneg a1]
  show ((rg Y.toNat).map _).getD _ _ = _
  rw [List.getD_eq_getElem?_getD, List.getElem?_map, rg_get (by omega), Int.toNat_of_nonneg a3]
  show cellF _ _ _ _ _ _ = _
  unfold cellF
  have i1 : (stL m n).idxOf ((stL m n).getD p.1.toNat 0) = p.1.toNat := (nam_idx hn1 a1 a2 (by omega)).mpr rfl
  have i2 : (syL m n).idxOf ((syL m n).getD p.2.toNat 0) = p.2.toNat := (nam_idx hn2 a3 a4 (by omega)).mpr rfl
  rw [i1, i2, Int.toNat_of_nonneg b1, Int.toNat_of_nonneg b3, if_pos hp]
  rfl
theorem g_ok (hm : OkMach m S Y) : OkMach (gM m n) S Y := ren_ok (turn_ok hm) (by rw [turn_len]; exact stL_ok hm) (syL_ok hm)
theorem g_tr (hm : OkMach m S Y) : trP (gM m n) n (0, 0, []) = (trP m n (0, 0, [])).map (renP (stL m n) (syL m n)) := by
  unfold gM
  rw [tr_ren (turn_ok hm) (by rw [turn_len]; exact stL_ok hm) (syL_ok hm), turn_tr hm]
theorem renRule_S {st sy : List Int} {r : Rule} : renRule st sy r = (sy.getD r.1.toNat 0, r.2.1, renS st r.2.2) := rfl
theorem g_ag (hm : OkMach m S Y) : ∀ p ∈ trP (gM m n) n (0, 0, []), AgR (rulP (gM m n) p) (rulP (nfM m n) p) := fun p' hp' => by
  rw [g_tr hm] at hp'
  obtain ⟨p, hp, rfl⟩ := List.mem_map.mp hp'
  obtain ⟨⟨b1, b2⟩, b3, b4⟩ := tr_bound hm p hp
  rw [nf_entry hm hp]
  have e : rulP (gM m n) (renP (stL m n) (syL m n) p) = renRule (stL m n) (syL m n) (rulP (turnM m n) p) := ruleAt_ren (turn_ok hm) (by rw [turn_len]; exact stL_ok hm) (syL_ok hm) b1 b2 b3 b4
  rw [e]
  unfold stopR
  split
  · rename_i z
    exact .inr ⟨z, rfl⟩
  · exact .inl rfl
theorem nf_tr (hm : OkMach m S Y) : trP (nfM m n) n (0, 0, []) = (trP m n (0, 0, [])).map (renP (stL m n) (syL m n)) := by
  rw [tr_ag (g_ag hm), g_tr hm]
theorem nf_nf (hm : OkMach m S Y) (hn : 0 < n) : nfM (nfM m n) n = nfM m n := by
  rw [nf_ag (g_ok hm) (nfM_ok hm) (g_ag hm)]
  unfold gM
  rw [nf_ren (turn_ok hm) (by rw [turn_len]; exact stL_ok hm) (syL_ok hm)]
  unfold turnM
  split
  · exact nf_mir hm hn
  · rfl
/-! the runs -/
theorem runT_len {m : Mach} : ∀ {n : Nat} {w : WS}, (runT m n w).1 = (trP m n w).length
  | 0, _ => rfl
  | n + 1, w => by
    by_cases e : w.1 = -1
    · rw [run_stop (.inr e), trP_stop (.inr e)]; rfl
    · obtain ⟨st, pl, t⟩ := w
      rw [run_step e, trP_go e, List.length_cons, runT_len]
theorem runT_stop {m : Mach} : ∀ {n : Nat} {w : WS}, w.1 ≠ -1 → ((runT m n w).2.1 = -1 ↔ ∃ p ∈ trP m n w, (rulP m p).2.2 = -1)
  | 0, w, h => by
    constructor
    · exact fun e => absurd e h
    · rintro ⟨p, hp, _⟩; cases hp
  | n + 1, w, h => by
    obtain ⟨st, pl, t⟩ := w
    rw [run_step h, trP_go h]
    by_cases e : (takeT m (st, pl, t)).1 = -1
    · rw [run_stop (.inr e), trP_stop (.inr e)]
      constructor
      · exact fun _ => ⟨_, List.mem_cons_self .., e⟩
      · exact fun _ => e
    · show (runT m n (takeT m (st, pl, t))).2.1 = -1 ↔ _
      rw [runT_stop e]
      constructor
      · rintro ⟨p, hp, q⟩; exact ⟨p, List.mem_cons_of_mem _ hp, q⟩
      · rintro ⟨p, hp, q⟩
        rcases List.mem_cons.mp hp with z | z
        · subst z; exact absurd q e
        · exact ⟨p, z, q⟩
theorem nf_run (hm : OkMach m S Y) : (runT (nfM m n) n (0, 0, [])).1 = (runT m n (0, 0, [])).1 ∧ ((runT (nfM m n) n (0, 0, [])).2.1 = -1 ↔ (runT m n (0, 0, [])).2.1 = -1) := by
  refine ⟨by rw [runT_len, runT_len, nf_tr hm, List.length_map], ?_⟩
  rw [runT_stop (by decide), runT_stop (by decide), nf_tr hm]
  have turned : ∀ p ∈ trP m n (0, 0, []), (rulP (turnM m n) p).2.2 = (rulP m p).2.2 := fun p hp => by
    unfold turnM
    split
    · rw [rul_mir hm (tr_bound hm p hp)]; rfl
    · rfl
  have ent : ∀ p ∈ trP m n (0, 0, []), ((rulP (nfM m n) (renP (stL m n) (syL m n) p)).2.2 = -1 ↔ (rulP m p).2.2 = -1) := fun p hp => by
    rw [nf_entry hm hp, ← turned p hp]
    have hrk := rule_in (turn_ok (n := n) hm) (tr_bound hm p hp)
    have hs := renS_stop (stL_ok (n := n) hm) hm hrk.s0 hrk.s1
    unfold stopR
    rw [renRule_S]
    by_cases e : (rulP (turnM m n) p).2.2 = -1
    · rw [if_pos (hs.mpr e)]; exact ⟨fun _ => e, fun _ => rfl⟩
    · rw [if_neg (fun z => e (hs.mp z))]; exact hs
  constructor
  · rintro ⟨p', hp', q⟩
    obtain ⟨p, hp, rfl⟩ := List.mem_map.mp hp'
    exact ⟨p, hp, (ent p hp).mp q⟩
  · rintro ⟨p, hp, q⟩
    exact ⟨_, List.mem_map.mpr ⟨p, hp, rfl⟩, (ent p hp).mpr q⟩
theorem us_head {m : Mach} (hn : 0 < n) : ∃ r, usL m n = (0, 0) :: r := by
  obtain ⟨k, rfl⟩ : ∃ k, n = k + 1 := ⟨n - 1, by omega⟩
  unfold usL
  rw [tr_head, nubF_cons]
  have : ∀ (xs acc : List (Int × Int)) (a : Int × Int) (r : List (Int × Int)), acc = a :: r → ∃ r', nubF acc xs = a :: r' := by
    intro xs
    induction xs with
    | nil => intro acc a r e; exact ⟨r, e⟩
    | cons x xs ih =>
      intro acc a r e
      rw [nubF_cons]
      refine ih _ a (if x ∈ acc then r else r ++ [x]) ?_
      unfold addN
      split <;> rw [e] <;> rfl
  exact this _ _ _ _ rfl
end
end K
namespace K
open PySem PySem.Spec PyProof.Rows L2 T
def sp_other : SpT := fun cs O R _ => ∃ k u m S Y n, cs = [.o k, .d (machD m), .d (.int ((n : Nat) : Int))] ∧ O[k]? = some u ∧ IsStrm u ∧ OkMach m S Y ∧ n ≤ 2000 ∧ ∀ mo u', OkMach mo S Y → (∀ p ∈ usL m n, rulP mo p = rulP m p) → IsStrm u' → R (.d (machD mo)) (O.set k u')
theorem other_use {k : Nat} {u : Ob} {m : Mach} {S Y : Int} {n : Nat} {O : Sto} {R : C → Sto → Prop} {RX : Value → Sto → Prop} (h1 : O[k]? = some u) (h2 : IsStrm u) (hm : OkMach m S Y) (hn : n ≤ 2000) (h5 : ∀ mo u', OkMach mo S Y → (∀ p ∈ usL m n, rulP mo p = rulP m p) → IsStrm u' → R (.d (machD mo)) (O.set k u')) : sp_other [.o k, .d (machD m), .d (.int ((n : Nat) : Int))] O R RX := ⟨k, u, m, S, Y, n, rfl, h1, h2, hm, hn, h5⟩
theorem nf_other {m mo : Mach} {S Y : Int} {n : Nat} (hm : OkMach m S Y) (ho : OkMach mo S Y) (h : ∀ p ∈ usL m n, rulP mo p = rulP m p) : nfM mo n = nfM m n := nf_ag hm ho fun p hp => .inl (h p (nub_memP.mpr (.inr hp)))
/-- rows so far that agree with m on the pairs of us -/
structure OthI (m : Mach) (us : List (Int × Int)) (S Y : Int) (i : Nat) (rw1 : Mach) : Prop where
  len : rw1.length = i
  row : ∀ r ∈ rw1, (r.length : Int) = Y
  rul : ∀ r ∈ rw1, ∀ t ∈ r, OkRule S Y t
  ag : ∀ a x : Nat, a < i → (x : Int) < Y → ((a : Int), (x : Int)) ∈ us → (rw1.getD a []).getD x (0, 0, 0) = ruleAt m a x
structure OthJ (m : Mach) (us : List (Int × Int)) (S Y : Int) (i j : Nat) (ro : List Rule) : Prop where
  len : ro.length = j
  rul : ∀ t ∈ ro, OkRule S Y t
  ag : ∀ x : Nat, x < j → ((i : Int), (x : Int)) ∈ us → ro.getD x (0, 0, 0) = ruleAt m i x
theorem getD_snoc {α : Type} {l : List α} {a d : α} {x : Nat} (h : x ≤ l.length) : (l ++ [a]).getD x d = if x = l.length then a else l.getD x d := by
  rw [List.getD_eq_getElem?_getD]
  by_cases e : x = l.length
  · subst e; simp
  · rw [if_neg e, List.getElem?_append_left (by omega), List.getD_eq_getElem?_getD]
theorem OthJ.snoc {m : Mach} {us : List (Int × Int)} {S Y : Int} {i j : Nat} {ro : List Rule} {t : Rule} (h : OthJ m us S Y i j ro) (ht : OkRule S Y t) (he : ((i : Int), (j : Int)) ∈ us → t = ruleAt m i j) : OthJ m us S Y i (j + 1) (ro ++ [t]) := by
  have hl := h.len
  refine ⟨by rw [List.length_append, hl]; rfl, ok_snoc h.rul ht, fun x hx hu => ?_⟩
  rw [getD_snoc (by omega)]
  by_cases e : x = ro.length
  · rw [if_pos e]
    have : x = j := by omega
    subst this
    exact he hu
  · rw [if_neg e]; exact h.ag x (by omega) hu
theorem OthI.snoc {m : Mach} {us : List (Int × Int)} {S Y : Int} {i j : Nat} {rw1 : Mach} {ro : List Rule} (h : OthI m us S Y i rw1) (hj : OthJ m us S Y i j ro) (hjy : (j : Int) = Y) : OthI m us S Y (i + 1) (rw1 ++ [ro]) := by
  have hl := h.len
  have hl2 := hj.len
  refine ⟨by rw [List.length_append, hl]; rfl, ok_snoc h.row (by omega), ok_snoc h.rul hj.rul, fun a x ha hx hu => ?_⟩
  rw [getD_snoc (by omega)]
  by_cases e : a = rw1.length
  · rw [if_pos e]
    have : a = i := by omega
    subst this
    exact hj.ag x (by omega) hu
  · rw [if_neg e]; exact h.ag a x (by omega) hx hu
theorem oth_0 {m : Mach} {us : List (Int × Int)} {S Y : Int} : OthI m us S Y 0 [] := ⟨rfl, fun r hr => (by cases hr), fun r hr => (by cases hr), fun a x ha => absurd ha (Nat.not_lt_zero _)⟩
theorem othj_0 {m : Mach} {us : List (Int × Int)} {S Y : Int} {i : Nat} : OthJ m us S Y i 0 [] := ⟨rfl, fun r hr => (by cases hr), fun a ha => absurd ha (Nat.not_lt_zero _)⟩
theorem OthI.fin {m : Mach} {S Y : Int} {n : Nat} {rw1 : Mach} (hm : OkMach m S Y) (h : OthI m (usL m n) S Y m.length rw1) : OkMach rw1 S Y ∧ ∀ p ∈ usL m n, rulP rw1 p = rulP m p := by
  refine ⟨⟨by rw [h.len]; exact hm.len, hm.s1, hm.s4, hm.y2, hm.y4, h.row, h.rul⟩, fun p hp => ?_⟩
  obtain ⟨⟨b1, b2⟩, b3, b4⟩ := us_bound hm p hp
  have hl := hm.len
  have e := h.ag p.1.toNat p.2.toNat (by omega) (by omega) (by rw [Int.toNat_of_nonneg b1, Int.toNat_of_nonneg b3]; exact hp)
  rw [Int.toNat_of_nonneg b1, Int.toNat_of_nonneg b3] at e
  exact e
end K
namespace K
open PySem PySem.Spec PyProof.Rows L2 T
theorem eqv_bools {a b : Bool} : PyData.eqv (.bool a) (.bool b) = decide (a = b) := by cases a <;> cases b <;> rfl
theorem hrun_eq {a b : Nat} {x y : Int} (h1 : b = a) (h2 : y = -1 ↔ x = -1) : ¬ ((!decide ((a : Int) = (b : Int)) || !PyData.eqv (.bool (decide (x = -1))) (.bool (decide (y = -1)))) = true) := by
  rw [eqv_bools]
  subst h1
  have : decide (x = -1) = decide (y = -1) := decide_eq_decide.mpr h2.symm
  rw [this]
  simp
theorem back_law13 {O G : Sto} {R : C → Sto → Prop} {b : Bool} {u1 u' : Ob} (hc : Clo O.length O) (r : R (.d (.bool true)) O) (hb : b = true) : Back O R (.d (.bool b)) (ext (O ++ [u1]) O.length u' G) := back_law hc r hb
end K
namespace K
open PySem PySem.Spec PyProof.Rows L2 T
theorem endW_1 {s : WS} : (endW s).1 = s.1 := by
  unfold endW endF
  split <;> rfl
end K

set_option Elab.async false
set_option linter.all false
set_option maxRecDepth 100000
set_option maxHeartbeats 1000000
/-! Uh: the law's own def where nothing is being shown (guards), so that repr can be told. -/
namespace T
open PySem PySem.Spec PyProof.Rows L2
/-- a def's promise where no repr is under way -/
structure FnG (P : Program) (w : World) (K : PySem.W.Frag) (mg : Str → Option Value) (base : Heap) (k : Nat) (f : Addr) (fd : FuncData) (ps : List Str) (sp : Sp) : Prop where
  len : ∀ vs H Q E, sp vs H Q E → vs.length = ps.length
  run : ∀ (A : Around) (out : List Env) (s : Shared) (H : Hp) (ag : Args) (us : List Value) (vs : List V) (Q : VK) (E : L2.XK), A.guards = some [] → Room k A → Env0 P w K mg base A out s H → BindsTo s fd ag (ps.zip us) → Vals vs us → sp vs H Q E → codeAny (model P w) A (.call (.ref f) ag) (L2.CR (L2.CX P w) out P w H s Q E) s
section
variable {P : Program} {w : World} {K : PySem.W.Frag} {mg : Str → Option Value} {base : Heap} {x qual : Str} {st : Stmt} {f : Addr} {fd : FuncData} {N ps : List Str} {k : Nat}
theorem fnG_of {sp : Sp} (F : Fun K x qual st f fd) (S : FnScope N ps (defScope st)) (hlen : ∀ vs H Q E, sp vs H Q E → vs.length = ps.length)
    (hb : ∀ (cdv : Value) (A : Around) (out : List Env) (s : Shared) (H : Hp) (vs : List V) (Q : VK) (E : L2.XK), A.guards = some [] → Room k (A.deeper (envOfC qual (defScope st) s.heap.objs.size f cdv)) → sp vs H Q E →
      ∃ t, PSs (cxOf (L2.CX P w) P w K mg base N qual (defScope st) f cdv A out s H E) (defBody st) t ∧ t { nx := fun _ H' => Q .non H', rt := Q } (L2.start N vs) H) : FnG P w K mg base (k + 1) f fd ps sp := by
  obtain ⟨oc, od, kV, doc, pm, an, cdv, ct, osl, rfl, lk, hcd⟩ := F.ex
  refine ⟨hlen, fun A out s H ag us vs Q E hg hr en hbd rv hsp => ?_⟩
  have inK : K.In s.heap := en.mod.kin.keeps fun b o e => (en.bs b o e).1
  have nolim : s.heap.NoLimit := en.mod.nolimit.keeps fun b o e => (en.bs b o e).1
  have kinds : ∀ y ∈ ps.zip us, (defScope st).names.lookup y.1 = some .local ∨ ((defScope st).names.lookup y.1 = some .cell ∧ ((cellsFrom (s.heap.objs.size + 1) (defScope st).names []).lookup y.1).isSome = true) := by
    rintro ⟨nm, u⟩ hy
    exact (S.par nm (List.of_mem_zip hy).1).imp id fun q => ⟨q, PySem.W.cellsFrom_some _ _ _ (.inl q)⟩
  refine codeAny_call_function hr.depth (inK _ _ lk) rfl S.co S.gen rfl (PySem.W.codeRec_of inK hcd) (hbd _ _ _ _ (wpAny_newFunctionEnv_cells S.kind kinds fun env eenv s1 ent => ?_))
  subst eenv
  refine ⟨nolim.keeps ent.toInCall.keep, codeAny_func ?_⟩
  obtain ⟨t, pt, ht⟩ := hb cdv A out s H vs Q E hg (hr.deeper _) hsp
  have I1 : Inv (cxOf (L2.CX P w) P w K mg base N qual (defScope st) f cdv A out s H E) [] (L2.start N vs) H s1 := inv_start S hr.hd en (hlen _ _ _ _ hsp) rv ent
  refine wpAny_mono (pt.run [] s1 (L2.start N vs) H _ I1 ht) (fun fl s2 hs => ?_) fun e s2 hs => hs
  have close : ∀ {σ2 : L2.St} {H2 : Hp} {v : V} {u : Value}, Inv (cxOf (L2.CX P w) P w K mg base N qual (defScope st) f cdv A out s H E) [] σ2 H2 s2 → RelV v u → Q v H2 → CE out P w H s Q u s2 := fun {σ2 H2 v u} J rel q => ⟨v, H2, J.os, J.bare, J.base, J.hok, rel, q⟩
  match fl, hs with
  | .ret u, ⟨v, _, _, J, rel, q⟩ => exact close J rel q
  | .next, ⟨_, _, J, q⟩ => exact close (v := V.non) (u := Value.none) J rfl q
  | .brk, ⟨_, _, _, q⟩ => exact False.elim q
  | .cont, ⟨_, _, _, q⟩ => exact False.elim q
end
/-- the law's call, from such a promise -/
theorem callG_at {P : Program} {w : World} {K : PySem.W.Frag} {mg mb : Str → Option Value} {k : Nat} {fa a : Addr} {fd : FuncData} {x : Str} {sp : Sp} {s : Shared} {vs : List Value} {H : Hp} {n : Nat}
    (inK : K.In s.heap) (ns : s.heap.Ns mainGlobals mg) (bi : s.heap.Ns builtinsNs mb) (bb : ∀ x : Str, x ≠ "__name__" → mb x = bootBuiltins x) (lim : s.heap.NoLimit) (gens : s.gens = #[])
    (obj : s.heap.get? a = some { cls := .type "list", data := .seq vs.toArray n }) (hr : Room k callerA)
    (F : ∀ base : Heap, K.In base → base.Ns mainGlobals mg → FnG P w K mg base k fa fd [x] sp) (bd : ∀ (s : Shared) (u : Value), BindsTo s fd ⟨[u], []⟩ [(x, u)])
    (want : sp [.ref a] H (fun v _ => v = .bl true) fun _ _ _ => False) (only : Only H) (hok : HOk P w H s.heap) (just : ∀ b, H b ≠ none → b = a) (own : H a ≠ none → K.lookup a = none) :
    codeAny (model P w) callerA (.call (.ref fa) ⟨[.ref a], []⟩) (fun r s' => r = .ok (.ret (.bool true)) ∧ OldK s.heap s'.heap ∧ s'.os = s.os ∧ AllBare s'.gens) s := by
  have cases_at : ∀ b : Addr, H b = none ∨ b = a := fun b => by
    cases q : H b with
    | none => exact .inl rfl
    | some u => exact .inr (just b (by rw [q]; exact fun z => by cases z))
  have told : ∀ {b : Addr} {o : Obj}, s.heap.get? b = some o → H b = none → (hidT s.heap H).get? b = some o := fun e q => hidT_get e q
  have notA : ∀ {b : Addr} {o : Obj} {es : Array DictEntry} {ep : Nat}, s.heap.get? b = some o → o.data = .dict es ep → H b = none := fun {b o es ep} e d => (cases_at b).resolve_right fun z => by
    subst z
    rw [obj] at e
    cases e
    cases (show Data.seq vs.toArray n = Data.dict es ep from d)
  have names : ∀ {b : Addr} {m : Str → Option Value}, s.heap.Ns b m → (hidT s.heap H).Ns b m := fun {b m} ⟨o, es, ep, e, d, r⟩ => ⟨o, es, ep, told e (notA e d), d, r⟩
  have inB : K.In (hidT s.heap H) := fun b o e => told (inK b o e) ((cases_at b).elim id fun z => by
    subst z
    cases q : H b with
    | none => rfl
    | some u => rw [own (by rw [q]; exact fun z => by cases z)] at e; cases e)
  have md : Mod K mg (hidT s.heap H) := ⟨inB, names ns, ⟨mb, names bi, bb⟩, by obtain ⟨mc, h1, h2⟩ := lim; exact ⟨mc, names h1, h2⟩⟩
  have en : Env0 P w K mg (hidT s.heap H) callerA [] s H := ⟨rfl, md, fun b o e => of_hidT e, Nat.le_of_eq (hidT_size _ _), trivial, fun b hb => (by cases (show b ∈ ([] : List Addr) from hb)), hok, .of_eq gens⟩
  refine codeAny_mono ((F _ inB (names ns)).run callerA [] s H ⟨[.ref a], []⟩ [.ref a] [.ref a] _ _ rfl hr en (bd s (.ref a)) (.cons rfl .nil) want) fun r s' h => ?_
  match r, h with
  | .error e, h =>
    obtain ⟨_, _, _, _, _, _, _, _, _, _, _, _, z⟩ := h
    exact z.elim
  | .ok (.next), h => exact False.elim h
  | .ok (.brk), h => exact False.elim h
  | .ok (.cont), h => exact False.elim h
  | .ok (.ret u), ⟨v, H', os, bare, un, hok', rel, q⟩ =>
    have q : v = .bl true := q
    subst q
    obtain rfl : u = Value.bool true := rel
    refine ⟨rfl, OldK.of_keep fun b o e => ?_, os, bare⟩
    rcases cases_at b with z | z
    · exact un.keep b o e z (fun z => by cases z) (by simp)
    · rcases only b with y | ⟨ob, xs, y⟩
      · exact un.keep b o e y (fun z => by cases z) (by simp)
      · obtain ⟨e1, _⟩ := hok b _ y
        obtain ⟨e2, _⟩ := hok' b _ (un.frzs b ob _ y)
        rw [e] at e1
        cases e1
        exact e2
theorem callG {P : Program} {w : World} {K : PySem.W.Frag} {mg mb : Str → Option Value} {k : Nat} {fa a : Addr} {fd : FuncData} {x : Str} {sp : Sp} {s : Shared} {vs : List Value} {ns : List Int}
    (inK : K.In s.heap) (nsp : s.heap.Ns mainGlobals mg) (bi : s.heap.Ns builtinsNs mb) (bb : ∀ x : Str, x ≠ "__name__" → mb x = bootBuiltins x) (lim : s.heap.NoLimit) (gens : s.gens = #[])
    (obj : s.heap.get? a = some { cls := .type "list", data := .seq vs.toArray }) (iv : IntsAre vs ns) (hl : ns.length ≤ sizeLine) (hr : Room k callerA)
    (F : ∀ base : Heap, K.In base → base.Ns mainGlobals mg → FnG P w K mg base k fa fd [x] sp) (bd : ∀ (s : Shared) (u : Value), BindsTo s fd ⟨[u], []⟩ [(x, u)])
    (want : ∀ H : Hp, Only H → SqL K H a (ns.map V.int) → sp [.ref a] H (fun v _ => v = .bl true) fun _ _ _ => False) :
    codeAny (model P w) callerA (.call (.ref fa) ⟨[.ref a], []⟩) (fun r s' => r = .ok (.ret (.bool true)) ∧ OldK s.heap s'.heap ∧ s'.os = s.os ∧ AllBare s'.gens) s := by
  have rv := vals_ints iv
  cases hk : K.lookup a with
  | some o =>
    have e := inK a o hk
    rw [obj] at e
    cases e
    have none_only : Only (fun _ => none) := fun _ => .inl rfl
    exact callG_at inK nsp bi bb lim gens obj hr F bd (want _ none_only (.inr ⟨_, vs.toArray, _, hk, rfl, rfl, rfl, by rw [List.size_toArray, iv.length]; exact hl, by simpa using rv⟩)) none_only (fun b u z => by cases (show (none : Option HO) = some u from z)) (fun b z => absurd rfl z) (fun z => absurd rfl z)
  | none =>
    obtain ⟨H, hH⟩ : ∃ H : Hp, H = fun b => if b = a then some (.frz { cls := .type "list", data := .seq vs.toArray } (.lst (ns.map V.int))) else none := ⟨_, rfl⟩
    have at_a : H a = some (.frz { cls := .type "list", data := .seq vs.toArray } (.lst (ns.map V.int))) := by rw [hH]; exact if_pos rfl
    have off : ∀ b, b ≠ a → H b = none := fun b q => by rw [hH]; exact if_neg q
    have ho : Only H := fun b => if q : b = a then .inr ⟨_, _, q ▸ at_a⟩ else .inl (off b q)
    refine callG_at inK nsp bi bb lim gens obj hr F bd (want H ho (.inl (.inr ⟨_, at_a⟩))) ho (fun b u z => ?_) (fun b z => Classical.byContradiction fun q => z (off b q)) (fun _ => hk)
    by_cases q : b = a
    · subst q
      rw [at_a] at z
      cases z
      exact ⟨obj, by rw [List.length_map]; exact hl, vs, _, rv, obj⟩
    · rw [off b q] at z; cases z
theorem walkTG {l : PySem.W.OpenLaw} {q : Program} {loose : List Str} {XP : (Str → Option Value) → Heap → Prop} {YP : World → Heap → Prop} {d : DefRec} {K : Params → PySem.W.Frag} {k : Nat} (hn : l.most = some 63) (hdf : d.params.defaults = []) (hr : Room k callerA)
    (hY : ∀ (w : World) (h : Heap), YP w h → (K w.params).In h)
    (F : ∀ (w : World) (mg : Str → Option Value) (fa : Addr) (h : Heap), (K w.params).In h → h.Ns mainGlobals mg → mg d.name = some (.ref fa) →
      ∃ fd : FuncData, (∀ (s : Shared) (u : Value), BindsTo s fd ⟨[u], []⟩ [("script", u)]) ∧ ∀ base : Heap, (K w.params).In base → base.Ns mainGlobals mg → FnG l.prog w (K w.params) mg base k fa fd ["script"] (spOf (K w.params) spLaw)) :
    PySem.W.WalkO q loose XP YP l.row.toRowW d [] (fun f vs => PySem.call f vs) := by
  refine Att.attach_call hn hdf fun w s₀ s₁ mg mb fa o pm cd doc a vs ns G Yp ho hd hcd hmg hobj hints hlen hg => ?_
  have inK := hY w _ Yp
  obtain ⟨fd, hb, hF⟩ := F w mg fa _ inK G.T.g hmg
  exact callG inK G.T.g G.T.b G.T.builtins G.T.nolimit hg hobj hints (Nat.le_trans hlen (by decide)) hr hF hb fun H hO hS => law_end hlen hS
section
variable {P : Program} {w : World} {K : PySem.W.Frag} {mg : Str → Option Value} {base : Heap} {x qual : Str} {st : Stmt} {f : Addr} {fd : FuncData} {N ps : List Str} {k : Nat} {sp : SpT}
theorem fn_okG (F : Fun K x qual st f fd) (S : FnScope N ps (defScope st)) (hl : ∀ cs O R RX, sp cs O R RX → cs.length = ps.length)
    (hb : ∀ cdv A outer s H E (hr : Room k (A.deeper (envOfC qual (defScope st) s.heap.objs.size f cdv))) cs O R RX, A.guards = some [] → Clo O.length O → sp cs O R RX →
      XB (famB P w K mg base N qual st f cdv A outer s H E k hr S.nd) (defBody st) (startG N cs) O { nx := fun _ => Back O R (.d .none), rt := Back O R }) : FnG P w K mg base (k + 1) f fd ps (spOf K sp) := by
  refine fnG_of F S (fun vs H Q E h => ?_) (fun cdv A outer s H vs Q E hg hr h => ?_)
  · obtain ⟨F0, as, O, cs, R, RX, S0, r, h, _⟩ := h
    rw [← pr_len r]
    exact hl cs O R RX h
  · obtain ⟨F0, as, O, cs, R, RX, S0, r, h, th, hx⟩ := h
    refine ⟨wpB (famB P w K mg base N qual st f cdv A outer s H E k hr S.nd) (defBody st), PSs.nox (pbW (Y := famB P w K mg base N qual st f cdv A outer s H E k hr S.nd) ()), ?_⟩
    refine hb cdv A outer s H E hr cs O R RX hg S0.clo h F0 as _ H _ S0 (slr_start r) (fun F' as' cl O' σ' H' _ _ (z : False) => z.elim) ⟨fun F' as' Γ' σ' O'' H' g S' _ p => ?_, back_go S0.len th, fun _ _ _ _ _ _ _ _ _ (z : False) => z.elim, fun _ _ _ _ _ _ _ _ _ (z : False) => z.elim⟩
    exact back_go S0.len th F' as' (.d .none) .non O'' H' g S' (show CR K F' as' (.d .none) .non from .non) p
end
/-! ### repr -/
def isDisp : PyData → Bool | .list _ => true | .tuple _ => true | _ => false
def rRepr (K : PySem.W.Frag) : List V → Hp → VK → Prop := fun vs H Q => ∃ v d, vs = [v] ∧ Dp K H v d ∧ isDisp d = true ∧ d.showable = true ∧ d.hasDict = false ∧ d.depth ≤ 32 ∧ d.shown.length ≤ sizeLine ∧ Q (.str d.shown) H
theorem cr_repr {X : Cx} (hg : X.A.guards = some []) (hu : X.A.units + 64 < cLine) : CallR X (.builtin "repr") (rRepr X.K) := by
  intro pins s σ H vs us Q I r h
  obtain ⟨v, d, rfl, hd, hi, hs, hnd, hdp, hz, q⟩ := h
  obtain ⟨u, rfl, rx⟩ := r.one
  obtain ⟨as, rd⟩ := Dp.reads I d v u hd rx
  have ref : ∃ a, v = .ref a := by
    cases hd with
    | lst => exact ⟨_, rfl⟩
    | tup => exact ⟨_, rfl⟩
    | non => cases hi
    | bl => cases hi
    | int => cases hi
    | str => cases hi
  obtain ⟨a, rfl⟩ := ref
  cases rx
  exact repr_of_reads' rd hs (fun e => by rw [hnd] at e; cases e) hg (by omega) (fun _ _ e => e) (fun h' t tk hk => ⟨.str _, H, I.kept hk, ⟨_, rfl⟩, q⟩) hz
section
variable {Y : Fam} {e : Expr} {es : List Expr} {Γ : Gam} {O : Sto} {R : C → Sto → Prop} {pos p : Pos}
theorem xe_repr (hgd : ∀ i, (Y.X i).A.guards = some []) (hm : Y.mg "repr" = none) (h : XA Y (e :: es) Γ O fun cs O1 => ∃ c d, cs = [c] ∧ Vw O1 c d ∧ isDisp d = true ∧ d.showable = true ∧ d.hasDict = false ∧ d.depth ≤ 32 ∧ d.shown.length ≤ sizeLine ∧ R (.d (.str d.shown)) O1) (hc : Y.cl = true := by rfl)
    (hg : ∀ i, Gl (Y.X i) "repr" := by exact fun _ => rfl) (he : ∀ i, starEach (e :: es) (Y.X i).env = (false, eval e (Y.X i).env) :: starEach es (Y.X i).env := by exact fun _ => rfl) (hpl : ∀ i, (backTo pos (starEach es (Y.X i).env)).any (·.1) = false := by exact fun _ => rfl) : XE Y (.Call (.Name "repr" p) (e :: es) [] pos) Γ O R :=
  xe_blt (r := rRepr Y.K) (fun i => by rw [← Y.hK i]; exact cr_repr (hgd i) (rl hc i)) hm (by first | rfl | decide +kernel) (fun F as σ H Q S L tx t => h F as σ H Q S L tx fun F1 as1 cs vs O1 H1 g1 S1 r1 ⟨c, d, ec, vw, h1, h2, h3, h4, h5, h6⟩ => t F1 as1 cs vs O1 H1 g1 S1 r1 (by
    subst ec
    intro F2 as2 H2 xs Q2 S2 r2 t2
    cases r2 with
    | cons ra rb =>
    cases rb
    exact ⟨_, d, rfl, vw_dp S2 vw ra, h1, h2, h3, h4, h5, t2.go S2 (show CR Y.K F2 as2 (.d (.str _)) _ from .str _) h6⟩)) hg (by decide) (by decide) he hpl
end
end T

set_option Elab.async false
set_option linter.all false
set_option maxRecDepth 100000
set_option maxHeartbeats 4000000
/-! Va: tuples with owned parts, dict(d), list(d), (x,) * n for any n. -/
namespace T
open PySem PySem.Spec PyProof.Rows L2
section
variable {Y : Fam} {e a b c iter tg elt cond : Expr} {es : List Expr} {st : Stmt} {sts : List Stmt} {Γ Γ' : Gam} {O O' : Sto} {R : C → Sto → Prop} {RT : Bool → Sto → Prop} {E : En} {pos p : Pos} {x : Str} {K : PySem.W.Frag}
theorem xe_tupO {z : Nat} (h : XA Y es Γ O fun cs O1 => cs.length ≤ sizeLine ∧ R (.o O1.length) (O1 ++ [.tup cs])) : XE Y (.Tuple es z pos) Γ O R :=
  xe_of (fun i => pe_tup (paW i)) fun F as σ H Q S L tx t => h F as σ H _ S L tx fun F1 as1 cs vs O1 H1 g1 S1 r1 ⟨hz, h1⟩ => by
    refine ⟨by rw [← pr_len r1]; exact hz, fun p hp => ?_⟩
    obtain ⟨S2, g2⟩ := S1.ownG (u0 := .tup cs) hp ⟨vs, rfl, r1⟩
    exact t _ _ (.o O1.length) _ _ _ (g1.trans g2) S2 ⟨p, by rw [← S1.len]; simp, rfl⟩ h1
theorem w2_ix_tupO {k : Nat} {i : Int} {cs : List C} {c : C} (hO : O[k]? = some (.tup cs)) (hi : atI cs i = some c) (r : R c O) : W2 K (rIx K) (.o k) (.d (.int i)) O R := fun F as H x y Q S rx ry t => by
  obtain ⟨a, ha, rfl⟩ := rx
  cases ry
  obtain ⟨_, _, hv, vs, rfl, p1⟩ := S.obG ha hO (by intro z; cases z)
  obtain ⟨j, hj, hx⟩ := atI_rel (pr_len p1) hi
  obtain ⟨v, hv2, rv⟩ := cget p1 hj
  exact .inr (.inl ⟨a, vs, i, v, rfl, rfl, .inl (.inl hv), by unfold atI; rw [hx]; exact hv2, t.go S rv r⟩)
def rDictD : List V → Hp → VK → Prop := fun xs H Q => ∃ (a : Addr) (kvs : List (Key × V)), xs = [.ref a] ∧ Rd H a (.dK kvs) ∧ ∀ p, H p = none → Q (.ref p) (upd H p (.dK kvs))
theorem wc_dictD {k : Nat} {kvs : List (Key × C)} (hO : IsDct O k kvs) (r : R (.o O.length) (O ++ [.dct kvs])) : Wc K rDictD [.o k] O R := fun F as H xs Q S rx t => by
  cases rx with
  | cons r1 r0 =>
    cases r0
    obtain ⟨a, ha, rfl⟩ := r1
    obtain ⟨ws, rd, pr⟩ := S.rd ha hO
    refine ⟨a, ws, rfl, rd, fun p hp => ?_⟩
    obtain ⟨S2, g2⟩ := S.ownG (u0 := .dct kvs) hp ⟨ws, rfl, pr⟩
    exact t _ _ (.o O.length) _ _ _ g2 S2 ⟨p, by rw [← S.len]; simp, rfl⟩ r
theorem xe_dict_ (hm : Y.mg "dict" = none) (h : XA Y (e :: es) Γ O fun cs O1 => Wc Y.K rDictD cs O1 R) (hg : ∀ i, Gl (Y.X i) "dict" := by exact fun _ => rfl)
    (he : ∀ i, starEach (e :: es) (Y.X i).env = (false, eval e (Y.X i).env) :: starEach es (Y.X i).env := by exact fun _ => rfl) (hpl : ∀ i, (backTo pos (starEach es (Y.X i).env)).any (·.1) = false := by exact fun _ => rfl) : XE Y (.Call (.Name "dict" p) (e :: es) [] pos) Γ O R :=
  xe_ty (fun i => call_dictD) hm (by decide +kernel) h hg (by decide) (by decide) he hpl
def rListDk : List V → Hp → VK → Prop := fun xs H Q => ∃ (a : Addr) (kvs : List (Key × V)), xs = [.ref a] ∧ Rd H a (.dK kvs) ∧ ∀ p, H p = none → Q (.ref p) (upd H p (.lst (kvs.map fun kv => kV kv.1)))
theorem pr_kv {F : Hp} {as : List Addr} : ∀ {kvs : List (Key × C)} {ws : List (Key × V)}, Paired (FsR K F as) kvs ws → Paired (CR K F as) ((kvs.map fun q => keyD q.1).map C.d) (ws.map fun q => kV q.1)
  | [], _, .nil => .nil
  | q :: _, w :: _, .cons r t => .cons (show Dp K F (kV w.1) (keyD q.1) from by rw [show q.1 = w.1 from r.1]; exact dp_key) (pr_kv t)
theorem wc_listDk {k : Nat} {kvs : List (Key × C)} (hO : IsDct O k kvs) (r : R (.o O.length) (O ++ [.lst ((kvs.map fun q => keyD q.1).map C.d)])) : Wc K rListDk [.o k] O R := fun F as H xs Q S rx t => by
  cases rx with
  | cons r1 r0 =>
    cases r0
    obtain ⟨a, ha, rfl⟩ := r1
    obtain ⟨ws, rd, pr⟩ := S.rd ha hO
    refine ⟨a, ws, rfl, rd, fun p hp => ?_⟩
    obtain ⟨S2, g2⟩ := S.own hp (pr_kv pr)
    exact t _ _ (.o O.length) _ _ _ g2 S2 ⟨p, by rw [← S.len]; simp, rfl⟩ r
theorem xe_listDk (hm : Y.mg "list" = none) (h : XA Y (e :: es) Γ O fun cs O1 => Wc Y.K rListDk cs O1 R) (hc : Y.cl = true := by rfl) (hg : ∀ i, Gl (Y.X i) "list" := by exact fun _ => rfl)
    (he : ∀ i, starEach (e :: es) (Y.X i).env = (false, eval e (Y.X i).env) :: starEach es (Y.X i).env := by exact fun _ => rfl) (hpl : ∀ i, (backTo pos (starEach es (Y.X i).env)).any (·.1) = false := by exact fun _ => rfl) : XE Y (.Call (.Name "list" p) (e :: es) [] pos) Γ O R :=
  xe_ty (fun i => call_listD (Y.calm hc i)) hm (by decide +kernel) h hg (by decide) (by decide) he hpl
end
/-! ### (x,) * n for n at most 20000 -/
section
variable {X : Cx}
theorem tuple_mul0 (l : Addr) (items : Array Value) (n : Nat) (dd : Option Addr) (sl : Array (Option Value)) (x : Int) (u : Tok) (c0 : (decide (x < -(2 ^ 63)) || decide (x ≥ 2 ^ 63)) = false) (c1 : (items.isEmpty || x == 1) = false) (c2 : (decide (x ≤ 0) || items.isEmpty) = true) :
    Meets (Builtin.«tuple.__mul__» ⟨[.ref l, .int x u], []⟩) (fun _ R s => s.heap.get? l = some { cls := .type "tuple", dict := dd, data := .seq items n, slots := sl } ∧
      R (.ok (.ret (Value.ref s.heap.objs.size))) { s with heap := s.heap.push { cls := Value.type "tuple", data := Data.seq #[] }, toks := s.toks }) :=
  .of_wp fun prog w A R s h => by
    obtain ⟨hp, g, d, tk, os⟩ := s
    obtain ⟨hl, h⟩ := h
    have f1 := AutoSeq1.idx_int
    wp_walk using wpAny_loadPart' hl
    repeat (first
      | (refine wpAny_ite_false (decide_eq_false (by rw [c0]; exact Bool.false_ne_true)) ?_; wp_walk using wpAny_loadPart' hl)
      | (refine wpAny_ite_false (decide_eq_false (by rw [c1]; exact Bool.false_ne_true)) ?_; wp_walk using wpAny_loadPart' hl)
      | (refine wpAny_ite_true (decide_eq_true c2) ?_; wp_walk using wpAny_loadPart' hl))
    exact ⟨_, rfl, h⟩
def rRep0 (K : PySem.W.Frag) : R2 := fun x y H Q => ∃ l k xs, x = .ref l ∧ y = .int k ∧ SqT K H l xs ∧ xs ≠ [] ∧ k ≤ 0 ∧ -(2 ^ 62) ≤ k ∧ ∀ p, H p = none → Q (.ref p) (upd H p (.tup []))
theorem op_rep0 : OpR X (binaryOp .Mult) (rRep0 X.K) := by
  intro pins s σ H x y v u Q I rx ry h
  obtain ⟨l, k, xs, rfl, rfl, hT, hne, h1, h2, q⟩ := h
  cases rx
  obtain ⟨t, rfl⟩ := ry
  obtain ⟨its, r, ⟨⟨cls, dd, data, sl⟩, ho, hc, n, hd⟩, hs⟩ := I.tuple hT
  simp only at hc hd
  subst hc hd
  have hle : its.length = xs.length := r.length.symm
  have hn : its ≠ [] := fun e => hne (by
    rw [e] at hle
    exact List.eq_nil_of_length_eq_zero hle.symm)
  have hi : its.toArray.isEmpty = false := by
    cases its with
    | nil => exact absurd rfl hn
    | cons a b => rfl
  have c0 : (decide (k < -(2 ^ 63)) || decide (k ≥ 2 ^ 63)) = false := by
    rw [decide_eq_false (by omega), decide_eq_false (by omega)] <;> rfl
  have c1 : (its.toArray.isEmpty || k == 1) = false := by
    rw [hi, Bool.false_or]
    exact beq_eq_false_iff_ne.mpr (by omega)
  have c2 : (decide (k ≤ 0) || its.toArray.isEmpty) = true := by
    rw [hi, Bool.or_false]
    exact decide_eq_true (by omega)
  refine wpAny_binaryOp_repeat_ref (T := "tuple") (U := "int") (by decide) ⟨_, ho, rfl⟩ (fun s' => typeIs_int s' k t) noFill_tuple_mul F.fills_int_mul F.slot_int_rmul repeat_tuple F.slot_int_index.lookup
    (call_meets F.slot_int_rmul (typeIs_int s k t) F.entry_int_rmul (F.args_int_rmul_2 _ _) (int_rmul_tuple k t l its.toArray n dd sl)
      ⟨ho, rfl, ⟨_, ho, rfl⟩, call_meets F.slot_tuple_mul ⟨_, ho, rfl⟩ F.entry_tuple_mul (F.args_tuple_mul_2 _ _) (tuple_mul0 l its.toArray n dd sl k t c0 c1 c2) ⟨ho, ?_⟩⟩)
  refine ⟨.ref s.heap.objs.size, _, I.laid (t' := s.toks) (o := .tup []) (fun b ob q => Heap.get?_push_of_some _ q) (Nat.le_refl _) ?_, rfl, q _ (I.hok.fresh (Nat.le_refl _))⟩
  exact ⟨by decide, [], .nil, IsTup.new _ _⟩
end
section
variable {Y : Fam} {a b : Expr} {Γ : Gam} {O : Sto} {R : C → Sto → Prop} {pos : Pos} {K : PySem.W.Frag}
def rRepZ (K : PySem.W.Frag) : R2 := fun x y H Q => rRepB K x y H Q ∨ rRep1 K x y H Q ∨ rRep0 K x y H Q
theorem xe_mulZ (h : XE Y a Γ O fun c1 O1 => XE Y b Γ O1 fun c2 O2 => W2 Y.K (rRepZ Y.K) c1 c2 O2 R) : XE Y (.BinOp a .Mult b pos) Γ O R := xe_bin (fun i => by rw [← Y.hK i]; exact opor op_repB (opor op_rep1 op_rep0)) h
theorem w2_mul_Z {d : PyData} {k : Int} (h1 : -(2 ^ 62) ≤ k) (h2 : k ≤ 20000) (r : R (.d (.tuple (List.replicate k.toNat d))) O) : W2 K (rRepZ K) (.d (.tuple [d])) (.d (.int k)) O R := fun F as H x y Q S rx ry t => by
  cases ry
  cases rx with
  | @tup a xs _ h hd =>
    by_cases hk : k = 1
    · subst hk
      exact .inr (.inl ⟨a, xs, rfl, rfl, same_t S.ex h, t.go S (show CR K F as (.d (.tuple [d])) _ from .tup h hd) r⟩)
    · cases hd with
      | @cons v _ _ _ r1 r0 =>
      cases r0
      by_cases hk0 : k ≤ 0
      · refine .inr (.inr ⟨a, k, [v], rfl, rfl, same_t S.ex h, List.cons_ne_nil _ _, hk0, h1, fun p hp => ?_⟩)
        obtain ⟨S2, g2⟩ := S.froze (o := .tup []) hp
        have e0 : k.toNat = 0 := by omega
        rw [e0] at r
        exact t _ _ (.d (.tuple [])) _ _ _ g2 S2 (.tup (.inl (.inl upd_same)) .nil) r
      · refine .inl ⟨a, k, v, rfl, rfl, same_t S.ex h, by omega, h2, fun p hp => ?_⟩
        obtain ⟨S2, g2⟩ := S.froze (o := .tup (List.replicate k.toNat v)) hp
        exact t _ _ (.d (.tuple _)) _ _ _ g2 S2 (.tup (.inl (.inl upd_same)) (dp_sameAll g2.fr _ _ (dpall_rep r1 _))) r
end
end T
namespace T
open PySem PySem.Spec PyProof.Rows L2
section
variable {Y : Fam} {e : Expr} {sts : List Stmt} {Γ : Gam} {O : Sto} {R : C → Sto → Prop} {E : En}
theorem xb_clo (h : Clo O.length O → ClG O.length Γ → XB Y sts Γ O E) : XB Y sts Γ O E := fun F as σ H D S L tx t => h S.clo (S.len ▸ slr_cl L) F as σ H D S L tx t
theorem xe_clo (h : Clo O.length O → ClG O.length Γ → XE Y e Γ O R) : XE Y e Γ O R := fun F as σ H Q S L tx t => h S.clo (S.len ▸ slr_cl L) F as σ H Q S L tx t
theorem back_all {c : C} {O' : Sto} (hl : O.length ≤ O'.length) (hc : Clo O'.length O') (hcl : clC O'.length c) (r : R c O') : Back O R c O' := ⟨O', [], (List.append_nil _).symm, hl, hc, hcl, r⟩
end
end T

set_option Elab.async false
set_option linter.all false
set_option maxRecDepth 100000
set_option maxHeartbeats 1000000
/-! Vb: range with three arguments; what may be shown by repr. -/
namespace T
open PySem PySem.Spec PyProof.Rows L2
section
variable {Y : Fam} {tg a b c : Expr} {Γ : Gam} {O : Sto} {RI : List PyData → Sto → Prop} {pos p : Pos}
def rngC (lo c : Int) (n : Nat) : List PyData := (List.range n).map fun i => .int (lo + (i : Nat) * c)
theorem rngC_len {lo c : Int} {n : Nat} : (rngC lo c n).length = n := by simp [rngC]
theorem rngC_get {lo c : Int} {n i : Nat} {d : PyData} (h : (rngC lo c n)[i]? = some d) : i < n ∧ d = .int (lo + (i : Nat) * c) := by
  unfold rngC at h
  rw [List.getElem?_map] at h
  obtain ⟨j, hj, rfl⟩ := Option.map_eq_some_iff.mp h
  have hi : i < n := by have := (List.getElem?_eq_some_iff.mp hj).1; simpa using this
  rw [List.getElem?_range hi] at hj
  cases hj
  exact ⟨hi, rfl⟩
theorem jd_rngC {K : PySem.W.Frag} {lo c : Int} {n : Nat} {F : Hp} : JD K (Itc lo c n) (rngC lo c n) F := ⟨fun i H _ h => by rw [rngC_len] at h; exact h, fun i H _ h => by rw [rngC_len] at h; exact h, fun i d H x H' _ hd y => by
  obtain ⟨_, rfl⟩ := rngC_get hd
  obtain ⟨e, rfl⟩ := y
  exact .inl ⟨e, .int _⟩⟩
theorem xi_range3 (hm : Y.mg "range" = none) (h : XA Y [a, b, c] Γ O fun cs O1 => ∃ (i j k : Int) (n : Nat), cs = [.d (.int i), .d (.int j), .d (.int k)] ∧ RgC i j k n ∧ RI (rngC i k n) O1) (hg : ∀ i, Gl (Y.X i) "range" := by exact fun _ => rfl)
    (hs : ∀ i, starEach [a, b, c] (Y.X i).env = (false, eval a (Y.X i).env) :: starEach [b, c] (Y.X i).env := by exact fun _ => rfl) (hpl : ∀ i, (backTo pos (starEach [b, c] (Y.X i).env)).any (·.1) = false := by exact fun _ => rfl) :
    XI Y tg (.Call (.Name "range" p) [a, b, c] [] pos) Γ O RI := fun F as σ H R S L tx t => wpI_of (fun i => pi_range3 (hg i) (by rw [Y.hmg]; exact hm) (paW i) (hs i) (hpl i)) (h F as σ H _ S L tx fun F1 as1 cs vs O1 H1 g1 S1 r1 ⟨m, n, k, q, e, bs, h1⟩ => by
  subst e
  cases r1 with
  | cons r r0 =>
    cases r0 with
    | cons r' r0 =>
      cases r0 with
      | cons r'' r0 =>
      cases r0
      cases r
      cases r'
      cases r''
      exact ⟨m, n, k, q, rfl, bs, t F1 as1 _ _ O1 H1 g1 S1 jd_rngC h1⟩)
end
/-! ### repr -/
structure Rp (k w : Nat) (d : PyData) : Prop where
  sh : d.showable = true
  nd : d.hasDict = false
  dp : d.depth ≤ k
  ls : d.leavesShort 13 = true
  bk : d.bulk ≤ w
theorem Rp.mono {k w k' w' : Nat} {d : PyData} (h : Rp k w d) (hk : k ≤ k') (hw : w ≤ w') : Rp k' w' d := ⟨h.sh, h.nd, Nat.le_trans h.dp hk, h.ls, Nat.le_trans h.bk hw⟩
theorem nat_text (n : Nat) (h : n < 10 ^ 11) : (Str.ofString (toString n)).length ≤ 11 := by
  rw [ofString_len]
  show (Nat.repr n).length ≤ 11
  have := digits10_le (k := 11) (n := n) (by decide) h
  simpa [Nat.repr] using this
theorem int_text (i : Int) (h0 : -(10 ^ 11) < i) (h1 : i < 10 ^ 11) : (Str.ofString (toString i)).length ≤ 12 := by
  by_cases hn : i < 0
  · rw [len_text_neg hn]
    obtain ⟨n, hn2⟩ : ∃ n : Nat, 0 - i = (n : Int) := ⟨(0 - i).toNat, by omega⟩
    rw [hn2]
    have := nat_text n (by omega)
    show 1 + (Str.ofString (toString n)).length ≤ 12
    omega
  · obtain ⟨n, rfl⟩ : ∃ n : Nat, i = (n : Int) := ⟨i.toNat, by omega⟩
    have := nat_text n (by omega)
    show (Str.ofString (toString n)).length ≤ 12
    omega
theorem rp_int {i : Int} (h0 : -(10 ^ 11) < i) (h1 : i < 10 ^ 11) : Rp 0 0 (.int i) where
  sh := by
    show decide (i.natAbs.log2 < 1920) = true
    have h : i.natAbs < 2 ^ 1920 := Nat.lt_of_lt_of_le (m := 10 ^ 11) (by omega) (by decide +kernel)
    refine decide_eq_true ?_
    by_cases e : i.natAbs = 0
    · rw [e]; decide
    · exact (Nat.log2_lt e).mpr h
  nd := rfl
  dp := Nat.le_refl _
  ls := by
    show decide (_ ≤ 13) = true
    have := int_text i h0 h1
    exact decide_eq_true (by show (Str.ofString (toString i)).length ≤ 13; omega)
  bk := Nat.le_refl _
theorem rp_bool {b : Bool} : Rp 0 0 (.bool b) := ⟨rfl, rfl, Nat.le_refl _, rfl, Nat.le_refl _⟩
theorem rp_none : Rp 0 0 .none := ⟨rfl, rfl, Nat.le_refl _, rfl, Nat.le_refl _⟩
theorem rp_all {k w : Nat} : ∀ {ds : List PyData}, (∀ d ∈ ds, Rp k w d) → PyData.showableAll ds = true ∧ PyData.hasDictAll ds = false ∧ PyData.depthAll ds ≤ k ∧ PyData.leavesShortAll 13 ds = true ∧ PyData.bulkAll ds ≤ ds.length * (w + 1)
  | [], _ => ⟨rfl, rfl, Nat.zero_le _, rfl, Nat.zero_le _⟩
  | d :: ds, h => by
    obtain ⟨a1, a2, a3, a4, a5⟩ := rp_all (ds := ds) fun x hx => h x (List.mem_cons_of_mem _ hx)
    obtain ⟨b1, b2, b3, b4, b5⟩ := h d (List.mem_cons_self ..)
    refine ⟨?_, ?_, ?_, ?_, ?_⟩
    · show (d.showable && PyData.showableAll ds) = true; rw [a1, b1]; rfl
    · show (d.hasDict || PyData.hasDictAll ds) = false; rw [a2, b2]; rfl
    · show max d.depth (PyData.depthAll ds) ≤ k; omega
    · show (d.leavesShort 13 && PyData.leavesShortAll 13 ds) = true; rw [a4, b4]; rfl
    · show d.bulk + 1 + PyData.bulkAll ds ≤ (ds.length + 1) * (w + 1)
      rw [Nat.succ_mul]
      omega
theorem rp_tup {k w : Nat} {ds : List PyData} (h : ∀ d ∈ ds, Rp k w d) : Rp (k + 1) (ds.length * (w + 1)) (.tuple ds) := by
  obtain ⟨a1, a2, a3, a4, a5⟩ := rp_all h
  exact ⟨a1, a2, Nat.succ_le_succ a3, a4, a5⟩
theorem rp_lst {k w : Nat} {ds : List PyData} (h : ∀ d ∈ ds, Rp k w d) : Rp (k + 1) (ds.length * (w + 1)) (.list ds) := by
  obtain ⟨a1, a2, a3, a4, a5⟩ := rp_all h
  exact ⟨a1, a2, Nat.succ_le_succ a3, a4, a5⟩
theorem rp_ints {l : List Int} (h : ∀ x ∈ l, -(10 ^ 11) < x ∧ x < 10 ^ 11) : ∀ d ∈ l.map PyData.int, Rp 0 0 d := fun d hd => by
  obtain ⟨x, hx, rfl⟩ := List.mem_map.mp hd
  exact rp_int (h x hx).1 (h x hx).2
section
variable {Y : Fam} {e : Expr} {es : List Expr} {Γ : Gam} {O : Sto} {R : C → Sto → Prop} {pos p : Pos}
theorem xe_reprR (hgd : ∀ i, (Y.X i).A.guards = some []) (hm : Y.mg "repr" = none) (h : XA Y (e :: es) Γ O fun cs O1 => ∃ c d, cs = [c] ∧ Vw O1 c d ∧ isDisp d = true ∧ (∃ k w, Rp k w d ∧ k ≤ 32 ∧ w ≤ 2 ^ 20) ∧ R (.d (.str d.shown)) O1) (hc : Y.cl = true := by rfl)
    (hg : ∀ i, Gl (Y.X i) "repr" := by exact fun _ => rfl) (he : ∀ i, starEach (e :: es) (Y.X i).env = (false, eval e (Y.X i).env) :: starEach es (Y.X i).env := by exact fun _ => rfl) (hpl : ∀ i, (backTo pos (starEach es (Y.X i).env)).any (·.1) = false := by exact fun _ => rfl) : XE Y (.Call (.Name "repr" p) (e :: es) [] pos) Γ O R :=
  xe_repr hgd hm (fun F as σ H Q S L tx t => h F as σ H Q S L tx fun F1 as1 cs vs O1 H1 g1 S1 r1 ⟨c, d, ec, vw, h1, ⟨k, w, rp, hk, hw⟩, h6⟩ => t F1 as1 cs vs O1 H1 g1 S1 r1
    ⟨c, d, ec, vw, h1, rp.sh, rp.nd, Nat.le_trans rp.dp hk, PyData.shown_fits_bulk (by decide) (by decide) rp.ls (Nat.le_trans rp.bk hw), h6⟩) hc hg he hpl
end
end T

set_option Elab.async false
set_option linter.all false
set_option maxRecDepth 100000
set_option maxHeartbeats 1000000
/-! Vc: divmod, // by great numbers, draws below great numbers. -/
namespace T
open PySem PySem.Spec PyProof.Rows L2
section
variable {Y : Fam} {e a b : Expr} {es : List Expr} {Γ : Gam} {O : Sto} {R : C → Sto → Prop} {pos p : Pos} {K : PySem.W.Frag}
def rDivmod : List V → Hp → VK → Prop := fun xs H Q => ∃ i j, xs = [.int i, .int j] ∧ CDiv i j ∧ ∀ p, H p = none → Q (.ref p) (upd H p (.tup [.int (i / j), .int (i % j)]))
theorem wc_divmod {i j : Int} (h : CDiv i j) (r : R (.d (.tuple [.int (i / j), .int (i % j)])) O) : Wc K rDivmod [.d (.int i), .d (.int j)] O R := fun F as H xs Q S rx t => by
  cases rx with
  | cons r1 r0 =>
    cases r0 with
    | cons r2 r0 =>
      cases r0
      cases r1
      cases r2
      refine ⟨i, j, rfl, h, fun p hp => ?_⟩
      obtain ⟨S2, g2⟩ := S.froze (o := .tup [.int (i / j), .int (i % j)]) hp
      exact t _ _ (.d (.tuple _)) _ _ _ g2 S2 (.tup (.inl (.inl upd_same)) (.cons (.int _) (.cons (.int _) .nil))) r
theorem xe_divmod (hm : Y.mg "divmod" = none) (h : XA Y (e :: es) Γ O fun cs O1 => Wc Y.K rDivmod cs O1 R) (hg : ∀ i, Gl (Y.X i) "divmod" := by exact fun _ => rfl)
    (he : ∀ i, starEach (e :: es) (Y.X i).env = (false, eval e (Y.X i).env) :: starEach es (Y.X i).env := by exact fun _ => rfl) (hpl : ∀ i, (backTo pos (starEach es (Y.X i).env)).any (·.1) = false := by exact fun _ => rfl) : XE Y (.Call (.Name "divmod" p) (e :: es) [] pos) Γ O R :=
  xe_blt (fun i => call_divmod) hm (by decide +kernel) h hg (by decide) (by decide) he hpl
theorem xe_fdivW (h : XE Y a Γ O fun c1 O1 => XE Y b Γ O1 fun c2 O2 => W2 Y.K (rI CDivW fun i j => .int (i / j)) c1 c2 O2 R) : XE Y (.BinOp a .FloorDiv b pos) Γ O R := xe_bin (fun i => op_fdivW) h
theorem w2_fdivW {i j : Int} (h : CDivW i j) (r : R (.d (.int (i / j))) O) : W2 K (rI CDivW fun i j => .int (i / j)) (.d (.int i)) (.d (.int j)) O R := w2_intC h (fun F => .int _) r
theorem log_small {j : Int} (h0 : 0 < j) (h : j < 2 ^ 100) : j.natAbs.log2 < 9000 :=
  Nat.lt_of_lt_of_le ((Nat.log2_lt (by omega)).mpr (show j.natAbs < 2 ^ 100 by omega)) (by decide)
theorem cdivW {i j : Int} (h0 : 0 < j) (h : j < 2 ^ 100) : CDivW i j := ⟨h0, log_small h0 h⟩
end
end T

set_option Elab.async false
set_option linter.all false
set_option maxRecDepth 100000
set_option maxHeartbeats 1000000
/-! Vd: max of a tuple; x *= y; comprehensions with two generators as owned lists. -/
namespace T
open PySem PySem.Spec PyProof.Rows L2
section
variable {X : Cx}
def rMaxT (K : PySem.W.Frag) : List V → Hp → VK → Prop := fun vs H Q => ∃ (a : Addr) (ns : List Int), vs = [V.ref a] ∧ SqT K H a (ns.map V.int) ∧ 0 < ns.length ∧ ∀ m, m ∈ ns → (∀ y, y ∈ ns → y ≤ m) → Q (.int m) H
theorem vals_int_get : ∀ {ns : List Int} {its : List Value} {i : Nat} {v : Value}, Vals (ns.map V.int) its → its[i]? = some v → ∃ t, v = Value.int (ns.getD i 0) t
  | [], _, _, _, .nil, h => by simp at h
  | n :: ns, _, 0, _, .cons ⟨t, e⟩ _, h => by
    simp at h
    subst h
    exact ⟨t, e⟩
  | n :: ns, _, i + 1, _, .cons _ r, h => by
    obtain ⟨t, e⟩ := vals_int_get (i := i) r (by simpa using h)
    exact ⟨t, by simpa using e⟩
theorem cr_maxT (hc : X.calm = true) : CallR X (.builtin "max") (rMaxT X.K) := by
  intro pins s σ H vs us Q I r h
  obtain ⟨a, ns, rfl, hs, hne, q⟩ := h
  obtain ⟨its, rv, hl, _⟩ := I.tuple hs
  rw [Vals.ref1 r]
  have hlen : its.toArray.size = ns.length := by have := Paired.length rv; simp at this; simp [this]
  refine call_max_walkH (PySem.W.iter_tupleW (I.ok.hd hc) hl fun s₂ e2 W hst hfp hwr hkeep => ?_)
  refine ⟨_, _, _, _, _, _, _, s.heap, fun i j => decide (ns.getD i 0 > ns.getD j 0), rfl, W, hst, hfp, by rw [hlen]; exact hne, hwr, hkeep, fun i j vi vj s' Q' E' _ hi hj hb => ?_, fun v s' hP mv => ?_⟩
  · exact CmpOf.ints_gt (P := fun i v => its.toArray[i]? = some v) (fun i => ns.getD i 0) (fun i v hv => vals_int_get rv (by rw [List.getElem?_toArray] at hv; exact hv)) i j vi vj s' Q' E' hi hj hb
  · obtain ⟨t, rfl⟩ := vals_int_get rv (by rw [List.getElem?_toArray] at hP; exact hP)
    obtain ⟨h', tk, rfl, hk⟩ := PySem.W.moved_old e2 rfl mv
    obtain ⟨b1, b2⟩ := argBest_gt (fun i => ns.getD i 0) (its.toArray.size - 1)
    refine ⟨.int _, H, I.kept hk, ⟨t, rfl⟩, q _ (getD_mem (by omega)) fun j hj => ?_⟩
    obtain ⟨i, hi, e⟩ := mem_getD hj
    rw [← e]
    exact b2 i (by omega)
end
section
variable {Y : Fam} {e : Expr} {es : List Expr} {Γ : Gam} {O : Sto} {R : C → Sto → Prop} {pos p : Pos} {K : PySem.W.Frag}
theorem xe_maxT (hm : Y.mg "max" = none) (h : XA Y (e :: es) Γ O fun cs O1 => ∃ (ns : List Int), cs = [.d (.tuple (ns.map PyData.int))] ∧ 0 < ns.length ∧ ∀ m, m ∈ ns → (∀ y, y ∈ ns → y ≤ m) → R (.d (.int m)) O1) (hc : Y.cl = true := by rfl) (hg : ∀ i, Gl (Y.X i) "max" := by exact fun _ => rfl)
    (he : ∀ i, starEach (e :: es) (Y.X i).env = (false, eval e (Y.X i).env) :: starEach es (Y.X i).env := by exact fun _ => rfl) (hpl : ∀ i, (backTo pos (starEach es (Y.X i).env)).any (·.1) = false := by exact fun _ => rfl) : XE Y (.Call (.Name "max" p) (e :: es) [] pos) Γ O R :=
  xe_blt (r := rMaxT Y.K) (fun i => by rw [← Y.hK i]; exact cr_maxT (Y.calm hc i)) hm (by first | rfl | decide +kernel) (fun F as σ H Q S L tx t => h F as σ H Q S L tx fun F1 as1 cs vs O1 H1 g1 S1 r1 ⟨ns, ec, h0, h1⟩ => t F1 as1 cs vs O1 H1 g1 S1 r1 (by
    subst ec
    intro F2 as2 H2 xs Q2 S2 r2 t2
    cases r2 with
    | cons ra rb =>
    cases rb
    cases ra with
    | tup hs ha => exact ⟨_, ns, rfl, by rw [← ints_v ha]; exact same_t S2.ex hs, h0, fun m q1 q2 => t2.go S2 (show CR Y.K F2 as2 (.d (.int _)) _ from .int _) (h1 m q1 q2)⟩)) hg (by decide) (by decide) he hpl
theorem op_imul {X : Cx} : OpR X (inplaceOp .Mult) (rI CMul fun i j => .int (i * j)) := by
  intro pn s σ H x y v u Q I0 rx ry q
  obtain ⟨i, j, rfl, rfl, hc, q⟩ := q
  obtain ⟨t, rfl⟩ := (show ∃ t, v = Value.int i t from rx)
  obtain ⟨t', rfl⟩ := (show ∃ t', u = Value.int j t' from ry)
  exact PyProof.Rows.imul_int ⟨.int (i * j), H, I0.tok _, ⟨_, rfl⟩, q⟩ hc.ok
end
section
variable {Y : Fam} {e a b c iter tg elt cond iter1 tg1 : Expr} {es : List Expr} {st : Stmt} {sts : List Stmt} {Γ Γ2 : Gam} {O O1 O2 : Sto} {R : C → Sto → Prop} {RT : Bool → Sto → Prop} {E : En} {pos p : Pos} {x : Str}
theorem we_map2O {scope : Scope} {vs vs1 : List Nat} {τ τ1 : Tgt} (hj : ∀ j ∈ tgL τ, j ∈ vs) (hj1 : ∀ j ∈ tgL τ1, j ∈ vs1) (hcl : Y.cl = true)
    (h : XI Y tg iter Γ O fun ds O1 => ∃ (f : PyData → List PyData) (g : PyData → PyData → PyData), (ds.flatMap f).length < sizeLine ∧
      (∀ d ∈ ds, ∀ acc, ∃ Γ2, tgS (wipeG Γ vs) τ d = some Γ2 ∧ XI (Y.blk scope) tg1 iter1 Γ2 (O1 ++ [.lst acc]) fun es O3 => es = f d ∧ (∃ E2, O3 = (O1 ++ [.lst acc]) ++ E2) ∧
        ∀ e ∈ es, ∀ acc', ∃ Γ3, tgS (wipeG Γ2 vs1) τ1 e = some Γ3 ∧ XE (Y.blk scope) elt Γ3 (O1 ++ [.lst acc']) fun y O4 => y = .d (g d e) ∧ ∃ E2, O4 = (O1 ++ [.lst acc']) ++ E2) ∧
      R (.o O1.length) (O1 ++ [.lst ((ds.flatMap fun d => (f d).map (g d)).map C.d)])) :
    We Y (tLc2 (wpI Y tg iter) (tgG Y.K τ) tYes (wpI (Y.blk scope) tg1 iter1) (tgG Y.K τ1) tYes (wpE (Y.blk scope) elt) vs vs1) Γ O R := (fun F as σ H Q S L tx t => h F as σ H _ S L tx fun F1 as1 J ds O1 H1 g1 S1 j1 ⟨f, g, hz, hb, hr⟩ => by
  intro D hD
  have txF : ∀ {F as}, ThX (Y.blk scope) F as := fun F' as' cl O' σ' H' _ _ (r : False) => r.elim
  obtain ⟨S2, g2⟩ := S1.own (cs := []) (vs := []) hD .nil
  have aD : (as1 ++ [D])[O1.length]? = some D := by rw [← S1.len]; simp
  have aO : ∀ acc, (O1 ++ [Ob.lst acc])[O1.length]? = some (.lst acc) := fun acc => by simp
  have cutS : ∀ {F4 as4 H4 E2} {acc : List PyData}, as1 ++ [D] <+: as4 → Sat Y.K F4 H4 as4 ((O1 ++ [.lst (acc.map C.d)]) ++ E2) → Sat Y.K F4 H4 (as1 ++ [D]) (O1 ++ [.lst (acc.map C.d)]) := by
    intro F4 as4 H4 E2 acc g4 S5
    refine S5.cut g4 (by simp [S1.len]) ?_
    intro u hu
    rcases List.mem_append.mp hu with z | z
    · exact (S1.clo.up (by simp)) u z
    · have : u = .lst (acc.map C.d) := by simpa using z
      subst this
      intro c hc
      obtain ⟨d, _, rfl⟩ := List.mem_map.mp hc
      trivial
  have acc0 : ∀ i, (ds.take i).flatMap (fun d => (f d).map (g d)) = (ds.take i).flatMap (fun d => (f d).map (g d)) := fun _ => rfl
  have accz : ∀ i, ((ds.take i).flatMap fun d => (f d).map (g d)).length ≤ ((ds.take i).flatMap f).length := fun i => by
    rw [List.length_flatMap, List.length_flatMap]
    refine sum_le ?_
    intro d _
    rw [List.length_map]; exact Nat.le_refl _
  have tkz : ∀ (i : Nat) (d : PyData), ds[i]? = some d → ((ds.take i).flatMap f).length + (f d).length ≤ (ds.flatMap f).length := fun i d hd => by
    have e1 : ds.flatMap f = (ds.take (i + 1)).flatMap f ++ (ds.drop (i + 1)).flatMap f := by rw [← List.flatMap_append, List.take_append_drop]
    rw [e1, take_succ' hd, List.flatMap_append]
    simp <;> omega
  refine ⟨fun i m H' => i ≤ ds.length ∧ m = ds.length - i ∧ ∃ F', Same F1 F' ∧ Sat Y.K F' H' (as1 ++ [D]) (O1 ++ [.lst (((ds.take i).flatMap fun d => (f d).map (g d)).map C.d)]), ⟨ds.length, Nat.zero_le _, by omega, F1, Same.refl _, S2⟩, ?_⟩
  rintro i m H' ⟨hi, rfl, F2, e2, S3⟩
  have j2 := j1.mono e2
  by_cases hlt : i < ds.length
  · refine .inr ⟨j2.go i H' S3.ex hlt, fun H4 => ∃ F', Same F1 F' ∧ Sat Y.K F' H4 (as1 ++ [D]) (O1 ++ [.lst (((ds.take (i + 1)).flatMap fun d => (f d).map (g d)).map C.d)]), fun H4 ⟨F', a1, a2⟩ => ⟨ds.length - (i + 1), by omega, hlt, rfl, F', a1, a2⟩, fun x H3 y => ?_⟩
    have hdi : ds[i]? = some ds[i] := List.getElem?_eq_getElem hlt
    obtain ⟨F3, g3, S4, r3⟩ := jd_item j2 S3 hdi y
    generalize ds[i] = d at hdi r3
    obtain ⟨Γ2, ht, hb1⟩ := hb d (List.mem_of_getElem? hdi) (((ds.take i).flatMap fun d => (f d).map (g d)).map C.d)
    have gg : Gr F as F3 (as1 ++ [D]) := ⟨(g1.fr.trans e2).trans g3.fr, g1.px.trans (List.prefix_append _ _)⟩
    refine tg_run S4 hj (slr_wipe (L.mono gg) vs) r3 ht fun σ2 L2' ew => ⟨ew, ?_⟩
    unfold tYes
    dsimp only
    rw [if_pos rfl]
    refine hb1 F3 _ σ2 H3 _ S4 L2' txF fun F4 as4 J1 es O4 H4 g4 S5 j4 ⟨ees, ⟨E2, e4⟩, hin⟩ => ?_
    subst ees e4
    have S6 := cutS g4.px S5
    have take_i : (ds.take (i + 1)).flatMap (fun d => (f d).map (g d)) = ((ds.take i).flatMap fun d => (f d).map (g d)) ++ (f d).map (g d) := by
      rw [take_succ' hdi, List.flatMap_append]; simp
    refine ⟨fun j k H' => j ≤ (f d).length ∧ k = (f d).length - j ∧ ∃ F', Same F4 F' ∧ Sat Y.K F' H' (as1 ++ [D]) (O1 ++ [.lst ((((ds.take i).flatMap fun d => (f d).map (g d)) ++ ((f d).take j).map (g d)).map C.d)]), ⟨(f d).length, Nat.zero_le _, by omega, F4, Same.refl _, by simpa using S6⟩, ?_⟩
    rintro j k H5 ⟨hij, rfl, F5, e5, S7⟩
    have j5 := j4.mono e5
    by_cases hlt1 : j < (f d).length
    · refine .inr ⟨j5.go j H5 S7.ex hlt1, fun H6 => ∃ F', Same F4 F' ∧ Sat Y.K F' H6 (as1 ++ [D]) (O1 ++ [.lst ((((ds.take i).flatMap fun d => (f d).map (g d)) ++ ((f d).take (j + 1)).map (g d)).map C.d)]), fun H6 ⟨F', a1, a2⟩ => ⟨(f d).length - (j + 1), by omega, hlt1, rfl, F', a1, a2⟩, fun x H6 y => ?_⟩
      have hej : (f d)[j]? = some (f d)[j] := List.getElem?_eq_getElem hlt1
      obtain ⟨F6, g6, S8, r6⟩ := jd_item j5 S7 hej y
      generalize (f d)[j] = ee at hej r6
      obtain ⟨Γ3, ht1, hb2⟩ := hin ee (List.mem_of_getElem? hej) ((((ds.take i).flatMap fun d => (f d).map (g d)) ++ ((f d).take j).map (g d)).map C.d)
      have g46 : Gr F3 (as1 ++ [D]) F6 (as1 ++ [D]) := ⟨(g4.fr.trans e5).trans g6.fr, List.prefix_refl _⟩
      have szj : (((ds.take i).flatMap fun d => (f d).map (g d)) ++ ((f d).take j).map (g d)).length < sizeLine := by
        have h1 := accz i
        have h2 := tkz i d hdi
        have h3 : (((f d).take j).map (g d)).length ≤ (f d).length := by
          rw [List.length_map, List.length_take]; omega
        rw [List.length_append]
        omega
      refine tg_run S8 hj1 (slr_wipe (L2'.mono g46) vs1) r6 ht1 fun σ3 L3' ew1 => ⟨ew1, ?_⟩
      dsimp only
      refine hb2 F6 _ σ3 H6 _ S8 L3' txF fun F7 as7 c v O7 H7 g7 S9 r7 ⟨ec, E3, e7⟩ => ?_
      subst ec e7
      have S10 := cutS g7.px S9
      obtain ⟨hF, us, eu, pu⟩ := S10.lst aD (aO _)
      refine ⟨us, eu, by rw [← pr_len pu, List.length_map]; exact szj, F7, (e5.trans g6.fr).trans g7.fr, ?_⟩
      have S11 := S10.put (u0 := .gone) (cs := _ ++ [C.d (g d ee)]) aD hF (Paired.snoc pu (show CR Y.K F7 (as1 ++ [D]) (.d (g d ee)) v from r7))
      have e9 : ∀ (l l' : List C), (O1 ++ [Ob.lst l]).set O1.length (.lst l') = O1 ++ [.lst l'] := fun l l' => by simp
      rw [e9] at S11
      rw [take_succ' hej]
      simpa using S11
    · have e : j = (f d).length := by omega
      subst e
      refine .inl ⟨j5.stop _ H5 S7.ex (Nat.le_refl _), F5, (e2.trans g3.fr).trans (g4.fr.trans e5), ?_⟩
      rw [take_i]
      rw [List.take_length] at S7
      exact S7
  · have e : i = ds.length := by omega
    subst e
    refine .inl ⟨j2.stop _ H' S3.ex (Nat.le_refl _), ?_⟩
    rw [List.take_length] at S3
    exact t F2 (as1 ++ [D]) (.o O1.length) _ _ H' ⟨g1.fr.trans e2, g1.px.trans (List.prefix_append _ _)⟩ S3 ⟨D, aD, rfl⟩ hr)
theorem we_map2IO {scope : Scope} {vs vs1 : List Nat} {τ τ1 : Tgt} (hj : ∀ j ∈ tgL τ, j ∈ vs) (hj1 : ∀ j ∈ tgL τ1, j ∈ vs1) (hcl : Y.cl = true)
    (h : XI Y tg iter Γ O fun ds O1 => ∃ (f : PyData → List PyData) (q : PyData → PyData → Bool) (g : PyData → PyData → PyData), (ds.flatMap f).length < sizeLine ∧
      (∀ d ∈ ds, ∀ acc, ∃ Γ2, tgS (wipeG Γ vs) τ d = some Γ2 ∧ XI (Y.blk scope) tg1 iter1 Γ2 (O1 ++ [.lst acc]) fun es O3 => es = f d ∧ (∃ E2, O3 = (O1 ++ [.lst acc]) ++ E2) ∧
        ∀ e ∈ es, ∀ acc', ∃ Γ3, tgS (wipeG Γ2 vs1) τ1 e = some Γ3 ∧ XT (Y.blk scope) cond Γ3 (O1 ++ [.lst acc']) fun k O4 => k = q d e ∧ (∃ E2, O4 = (O1 ++ [.lst acc']) ++ E2) ∧ (q d e = true → XE (Y.blk scope) elt Γ3 O4 fun y O5 => y = .d (g d e) ∧ ∃ E2, O5 = (O1 ++ [.lst acc']) ++ E2)) ∧
      R (.o O1.length) (O1 ++ [.lst ((ds.flatMap fun d => ((f d).filter (q d)).map (g d)).map C.d)])) :
    We Y (tLc2 (wpI Y tg iter) (tgG Y.K τ) tYes (wpI (Y.blk scope) tg1 iter1) (tgG Y.K τ1) (wpT (Y.blk scope) cond) (wpE (Y.blk scope) elt) vs vs1) Γ O R := (fun F as σ H Q S L tx t => h F as σ H _ S L tx fun F1 as1 J ds O1 H1 g1 S1 j1 ⟨f, q, g, hz, hb, hr⟩ => by
  intro D hD
  have txF : ∀ {F as}, ThX (Y.blk scope) F as := fun F' as' cl O' σ' H' _ _ (r : False) => r.elim
  obtain ⟨S2, g2⟩ := S1.own (cs := []) (vs := []) hD .nil
  have aD : (as1 ++ [D])[O1.length]? = some D := by rw [← S1.len]; simp
  have aO : ∀ acc, (O1 ++ [Ob.lst acc])[O1.length]? = some (.lst acc) := fun acc => by simp
  have cutS : ∀ {F4 as4 H4 E2} {acc : List PyData}, as1 ++ [D] <+: as4 → Sat Y.K F4 H4 as4 ((O1 ++ [.lst (acc.map C.d)]) ++ E2) → Sat Y.K F4 H4 (as1 ++ [D]) (O1 ++ [.lst (acc.map C.d)]) := by
    intro F4 as4 H4 E2 acc g4 S5
    refine S5.cut g4 (by simp [S1.len]) ?_
    intro u hu
    rcases List.mem_append.mp hu with z | z
    · exact (S1.clo.up (by simp)) u z
    · have : u = .lst (acc.map C.d) := by simpa using z
      subst this
      intro c hc
      obtain ⟨d, _, rfl⟩ := List.mem_map.mp hc
      trivial
  have acc0 : ∀ i, (ds.take i).flatMap (fun d => ((f d).filter (q d)).map (g d)) = (ds.take i).flatMap (fun d => ((f d).filter (q d)).map (g d)) := fun _ => rfl
  have accz : ∀ i, ((ds.take i).flatMap fun d => ((f d).filter (q d)).map (g d)).length ≤ ((ds.take i).flatMap f).length := fun i => by
    rw [List.length_flatMap, List.length_flatMap]
    refine sum_le ?_
    intro d _
    rw [List.length_map]; exact List.length_filter_le _ _
  have tkz : ∀ (i : Nat) (d : PyData), ds[i]? = some d → ((ds.take i).flatMap f).length + (f d).length ≤ (ds.flatMap f).length := fun i d hd => by
    have e1 : ds.flatMap f = (ds.take (i + 1)).flatMap f ++ (ds.drop (i + 1)).flatMap f := by rw [← List.flatMap_append, List.take_append_drop]
    rw [e1, take_succ' hd, List.flatMap_append]
    simp <;> omega
  refine ⟨fun i m H' => i ≤ ds.length ∧ m = ds.length - i ∧ ∃ F', Same F1 F' ∧ Sat Y.K F' H' (as1 ++ [D]) (O1 ++ [.lst (((ds.take i).flatMap fun d => ((f d).filter (q d)).map (g d)).map C.d)]), ⟨ds.length, Nat.zero_le _, by omega, F1, Same.refl _, S2⟩, ?_⟩
  rintro i m H' ⟨hi, rfl, F2, e2, S3⟩
  have j2 := j1.mono e2
  by_cases hlt : i < ds.length
  · refine .inr ⟨j2.go i H' S3.ex hlt, fun H4 => ∃ F', Same F1 F' ∧ Sat Y.K F' H4 (as1 ++ [D]) (O1 ++ [.lst (((ds.take (i + 1)).flatMap fun d => ((f d).filter (q d)).map (g d)).map C.d)]), fun H4 ⟨F', a1, a2⟩ => ⟨ds.length - (i + 1), by omega, hlt, rfl, F', a1, a2⟩, fun x H3 y => ?_⟩
    have hdi : ds[i]? = some ds[i] := List.getElem?_eq_getElem hlt
    obtain ⟨F3, g3, S4, r3⟩ := jd_item j2 S3 hdi y
    generalize ds[i] = d at hdi r3
    obtain ⟨Γ2, ht, hb1⟩ := hb d (List.mem_of_getElem? hdi) (((ds.take i).flatMap fun d => ((f d).filter (q d)).map (g d)).map C.d)
    have gg : Gr F as F3 (as1 ++ [D]) := ⟨(g1.fr.trans e2).trans g3.fr, g1.px.trans (List.prefix_append _ _)⟩
    refine tg_run S4 hj (slr_wipe (L.mono gg) vs) r3 ht fun σ2 L2' ew => ⟨ew, ?_⟩
    unfold tYes
    dsimp only
    rw [if_pos rfl]
    refine hb1 F3 _ σ2 H3 _ S4 L2' txF fun F4 as4 J1 es O4 H4 g4 S5 j4 ⟨ees, ⟨E2, e4⟩, hin⟩ => ?_
    subst ees e4
    have S6 := cutS g4.px S5
    have take_i : (ds.take (i + 1)).flatMap (fun d => ((f d).filter (q d)).map (g d)) = ((ds.take i).flatMap fun d => ((f d).filter (q d)).map (g d)) ++ ((f d).filter (q d)).map (g d) := by
      rw [take_succ' hdi, List.flatMap_append]; simp
    refine ⟨fun j k H' => j ≤ (f d).length ∧ k = (f d).length - j ∧ ∃ F', Same F4 F' ∧ Sat Y.K F' H' (as1 ++ [D]) (O1 ++ [.lst ((((ds.take i).flatMap fun d => ((f d).filter (q d)).map (g d)) ++ (((f d).take j).filter (q d)).map (g d)).map C.d)]), ⟨(f d).length, Nat.zero_le _, by omega, F4, Same.refl _, by simpa using S6⟩, ?_⟩
    rintro j k H5 ⟨hij, rfl, F5, e5, S7⟩
    have j5 := j4.mono e5
    by_cases hlt1 : j < (f d).length
    · refine .inr ⟨j5.go j H5 S7.ex hlt1, fun H6 => ∃ F', Same F4 F' ∧ Sat Y.K F' H6 (as1 ++ [D]) (O1 ++ [.lst ((((ds.take i).flatMap fun d => ((f d).filter (q d)).map (g d)) ++ (((f d).take (j + 1)).filter (q d)).map (g d)).map C.d)]), fun H6 ⟨F', a1, a2⟩ => ⟨(f d).length - (j + 1), by omega, hlt1, rfl, F', a1, a2⟩, fun x H6 y => ?_⟩
      have hej : (f d)[j]? = some (f d)[j] := List.getElem?_eq_getElem hlt1
      obtain ⟨F6, g6, S8, r6⟩ := jd_item j5 S7 hej y
      generalize (f d)[j] = ee at hej r6
      obtain ⟨Γ3, ht1, hb2⟩ := hin ee (List.mem_of_getElem? hej) ((((ds.take i).flatMap fun d => ((f d).filter (q d)).map (g d)) ++ (((f d).take j).filter (q d)).map (g d)).map C.d)
      have g46 : Gr F3 (as1 ++ [D]) F6 (as1 ++ [D]) := ⟨(g4.fr.trans e5).trans g6.fr, List.prefix_refl _⟩
      have szj : (((ds.take i).flatMap fun d => ((f d).filter (q d)).map (g d)) ++ (((f d).take j).filter (q d)).map (g d)).length < sizeLine := by
        have h1 := accz i
        have h2 := tkz i d hdi
        have h3 : ((((f d).take j).filter (q d)).map (g d)).length ≤ (f d).length := by
          rw [List.length_map]; exact Nat.le_trans (List.length_filter_le _ _) (by rw [List.length_take]; omega)
        rw [List.length_append]
        omega
      refine tg_run S8 hj1 (slr_wipe (L2'.mono g46) vs1) r6 ht1 fun σ3 L3' ew1 => ⟨ew1, ?_⟩
      refine hb2 F6 _ σ3 H6 _ S8 L3' txF fun F7 as7 k v O7 H7 g7 S9 r7 ⟨ek, ⟨E3, e7⟩, hb3⟩ => ?_
      have r7 : v = k := by rw [← r7]
      subst r7
      subst e7
      cases v with
      | true =>
        refine iteT (hb3 ek.symm F7 as7 σ3 H7 _ S9 (L3'.mono g7) txF fun F8 as8 c v O8 H8 g8 S10 r8 ⟨ec, E4, e8⟩ => ?_)
        subst ec e8
        have S11 := cutS (g7.px.trans g8.px) S10
        obtain ⟨hF, us, eu, pu⟩ := S11.lst aD (aO _)
        refine ⟨us, eu, by rw [← pr_len pu, List.length_map]; exact szj, F8, ((e5.trans g6.fr).trans g7.fr).trans g8.fr, ?_⟩
        have S12 := S11.put (u0 := .gone) (cs := _ ++ [C.d (g d ee)]) aD hF (Paired.snoc pu (show CR Y.K F8 (as1 ++ [D]) (.d (g d ee)) v from r8))
        have e9 : ∀ (l l' : List C), (O1 ++ [Ob.lst l]).set O1.length (.lst l') = O1 ++ [.lst l'] := fun l l' => by simp
        rw [e9] at S12
        rw [take_succ' hej]
        simpa [← ek] using S12
      | false =>
        refine iteF ?_
        refine ⟨F7, (e5.trans g6.fr).trans g7.fr, ?_⟩
        rw [take_succ' hej]
        have S10 := cutS g7.px S9
        simpa [← ek] using S10
    · have e : j = (f d).length := by omega
      subst e
      refine .inl ⟨j5.stop _ H5 S7.ex (Nat.le_refl _), F5, (e2.trans g3.fr).trans (g4.fr.trans e5), ?_⟩
      rw [take_i]
      rw [List.take_length] at S7
      exact S7
  · have e : i = ds.length := by omega
    subst e
    refine .inl ⟨j2.stop _ H' S3.ex (Nat.le_refl _), ?_⟩
    rw [List.take_length] at S3
    exact t F2 (as1 ++ [D]) (.o O1.length) _ _ H' ⟨g1.fr.trans e2, g1.px.trans (List.prefix_append _ _)⟩ S3 ⟨D, aD, rfl⟩ hr)
end
end T

set_option Elab.async false
set_option linter.all false
set_option maxRecDepth 100000
set_option maxHeartbeats 1000000
/-! N43m: gram automata and plain automata (k43). -/
namespace K
open PySem PySem.Spec PyProof.Rows L2 T
def tupI (ns : List Int) : PyData := .tuple (ns.map PyData.int)
def autD (a : List (List Int)) : PyData := .tuple (a.map tupI)
def insI : PyData → List Int
  | .tuple ds => ds.map valI
  | _ => []
theorem ins_tup {ns : List Int} : insI (tupI ns) = ns := by
  unfold insI tupI
  dsimp only
  rw [List.map_map]
  exact (List.map_congr_left fun x _ => rfl).trans (List.map_id _)
def grR (s r : Int) (q : PyData) : PyData := .tuple ((rng 0 s.toNat).map fun x => .int ((valI q * s + valI x) % r))
def grD (s r : Int) : PyData := .tuple ((rng 0 r.toNat).map (grR s r))
def powI (s : Int) (c : Nat) : Int := s ^ c
theorem pow_bd {s : Int} {c : Nat} (h0 : 2 ≤ s) (h1 : s ≤ 4) (hc : c ≤ 5) : 1 ≤ powI s c ∧ powI s c ≤ 1024 := by
  have hs : s = 2 ∨ s = 3 ∨ s = 4 := by omega
  have hcc : c = 0 ∨ c = 1 ∨ c = 2 ∨ c = 3 ∨ c = 4 ∨ c = 5 := by omega
  rcases hs with rfl | rfl | rfl <;> rcases hcc with rfl | rfl | rfl | rfl | rfl | rfl <;> decide
theorem pow_next {s : Int} {c : Nat} : powI s c * s = powI s (c + 1) := (Int.pow_succ s c).symm
def grO (s : Int) (c : Nat) : PyData := if powI s c > 64 then .none else grD s (powI s c)
def sp_gram : SpT := fun cs O R _ => ∃ (c : Nat) (s : Int), cs = [.d (.int (c : Nat)), .d (.int s)] ∧ c ≤ 5 ∧ 2 ≤ s ∧ s ≤ 4 ∧ R (.d (grO s c)) O
def sp_lgram : SpT := fun cs O R _ => ∃ (c : Nat) (s : Int), cs = [.d (.int (c : Nat)), .d (.int s)] ∧ c ≤ 5 ∧ 2 ≤ s ∧ s ≤ 4 ∧ powI s c ≤ 64 ∧ R (.d (grD s (powI s c))) O
/-! plain automata -/
def mx (ns : List Int) : Int := ns.foldl (fun a b => if b > a then b else a) 0
theorem mx_go : ∀ {ns : List Int} {a : Int}, (∀ y ∈ ns, y ≤ ns.foldl (fun a b => if b > a then b else a) a) ∧ a ≤ ns.foldl (fun a b => if b > a then b else a) a ∧ (ns.foldl (fun a b => if b > a then b else a) a = a ∨ ns.foldl (fun a b => if b > a then b else a) a ∈ ns)
  | [], a => ⟨fun y hy => (by cases hy), Int.le_refl _, .inl rfl⟩
  | n :: ns, a => by
    obtain ⟨h1, h2, h3⟩ := mx_go (ns := ns) (a := if n > a then n else a)
    rw [List.foldl_cons]
    have hn : n ≤ (if n > a then n else a) ∧ a ≤ (if n > a then n else a) := by split <;> omega
    refine ⟨fun y hy => ?_, by omega, ?_⟩
    · rcases List.mem_cons.mp hy with z | z
      · subst z; omega
      · exact h1 y z
    · rcases h3 with z | z
      · rw [z]
        by_cases e : n > a
        · rw [if_pos e]; exact .inr (List.mem_cons_self ..)
        · rw [if_neg e]; exact .inl rfl
      · exact .inr (List.mem_cons_of_mem _ z)
theorem mx_is {ns : List Int} {m : Int} (h0 : ∀ y ∈ ns, 0 ≤ y) (h1 : m ∈ ns) (h2 : ∀ y ∈ ns, y ≤ m) : m = mx ns := by
  obtain ⟨a, b, c⟩ := mx_go (ns := ns) (a := 0)
  have e1 : m ≤ mx ns := a m h1
  have e2 : mx ns ≤ m := by
    rcases c with z | z
    · have := h0 m h1
      show ns.foldl _ 0 ≤ m
      rw [z]; exact this
    · exact h2 _ z
  omega
def topN (r : Int) (ns : List Int) : Int := if r < mx ns + 2 then r else mx ns + 2
def leastF (r s many : Int) : Int := if many % s = 0 then (if r - 1 < many / s then r - 1 else many / s) else 0
def mx2 (v w : Int) : Int := if w > v then w else v
def nxt (r l : Int) (ns : List Int) : List (List Int) := ((List.range (topN r ns).toNat).filter fun v => decide (l ≤ mx2 (v : Nat) (mx ns))).map fun v => ns ++ [((v : Nat) : Int)]
def plM (r s : Int) : Nat → List (List Int)
  | 0 => [[0]]
  | k + 1 => (plM r s k).flatMap (nxt r (leastF r s (2 + (k : Nat))))
def fD (r : Int) (d : PyData) : List PyData := rng 0 (topN r (insI d)).toNat
def qD (l : Int) (d e : PyData) : Bool := decide (l ≤ mx2 (valI e) (mx (insI d)))
def gD (d e : PyData) : PyData := match d with
  | .tuple ds => .tuple (ds ++ [e])
  | _ => .none
theorem pl_flat {r l : Int} : ∀ {L : List (List Int)}, (L.map tupI).flatMap (fun d => ((fD r d).filter (qD l d)).map (gD d)) = (L.flatMap (nxt r l)).map tupI
  | [] => rfl
  | ns :: L => by
    rw [List.map_cons, List.flatMap_cons, List.flatMap_cons, List.map_append, pl_flat]
    refine congrArg (· ++ _) ?_
    unfold fD nxt rng
    rw [ins_tup, List.filter_map, List.map_map, List.map_map]
    have e : ((List.range (topN r ns).toNat).filter (qD l (tupI ns) ∘ fun i : Nat => PyData.int (0 + (i : Nat)))) = (List.range (topN r ns).toNat).filter fun v => decide (l ≤ mx2 (v : Nat) (mx ns)) := by
      refine List.filter_congr fun v _ => ?_
      show qD l (tupI ns) (.int (0 + (v : Nat))) = _
      unfold qD
      rw [ins_tup]
      show decide (l ≤ mx2 (0 + (v : Int)) (mx ns)) = _
      rw [Int.zero_add]
    rw [e]
    refine List.map_congr_left fun v _ => ?_
    show PyData.tuple (ns.map PyData.int ++ [.int (0 + (v : Nat))]) = tupI (ns ++ [((v : Nat) : Int)])
    unfold tupI
    rw [List.map_append, Int.zero_add]
    rfl
def inRows (s : Nat) (ns : List Int) : List (List Int) := (List.range (ns.length / s)).map fun k => (ns.drop (k * s)).take s
def plA (r s : Int) : List (List (List Int)) := (plM r s (r * s - 1).toNat).map (inRows s.toNat)
def tbl (r : Int) : Nat → List (List Int)
  | 0 => [[]]
  | k + 1 => (tbl r k).flatMap fun one => ((List.range r.toNat).filter fun v => decide (k > 0) || decide (v = 0)).map fun v => one ++ [((v : Nat) : Int)]
def isPlGo (r s : Int) : Nat → Int → List Int → Bool
  | _, met, [] => decide (met = r - 1)
  | at_, met, v :: rest => if v > met + 1 then false else if v = met + 1 then (if ((at_ : Nat) : Int) / s > met then false else isPlGo r s (at_ + 1) (met + 1) rest) else isPlGo r s (at_ + 1) met rest
def isPl (r s : Int) (ns : List Int) : Bool := isPlGo r s 0 0 ns
def lawA (r s : Int) : List (List (List Int)) := ((tbl r (r * s).toNat).filter (isPl r s)).map fun ns => (List.range r.toNat).map fun q => (ns.drop (q * s.toNat)).take s.toNat
def combos : List (Int × Int) := [(1, 2), (2, 2), (3, 2), (1, 3), (2, 3), (1, 4), (2, 4)]
structure Cmb (r s : Int) : Prop where
  mem : (r, s) ∈ combos
theorem Cmb.bd {r s : Int} (h : Cmb r s) : 1 ≤ r ∧ r ≤ 3 ∧ 2 ≤ s ∧ s ≤ 4 ∧ 2 ≤ r * s ∧ r * s ≤ 8 := by
  have := h.mem
  simp only [combos, List.mem_cons, Prod.mk.injEq, List.not_mem_nil, or_false] at this
  rcases this with ⟨rfl, rfl⟩ | ⟨rfl, rfl⟩ | ⟨rfl, rfl⟩ | ⟨rfl, rfl⟩ | ⟨rfl, rfl⟩ | ⟨rfl, rfl⟩ | ⟨rfl, rfl⟩ <;> decide
theorem cmb_of {r s : Int} (h1 : 1 ≤ r) (h2 : 2 ≤ s) (h3 : s ≤ 4) (h4 : r ≤ 2 ∨ (r ≤ 3 ∧ s = 2)) : Cmb r s := by
  refine ⟨?_⟩
  have hr : r = 1 ∨ r = 2 ∨ r = 3 := by omega
  have hs : s = 2 ∨ s = 3 ∨ s = 4 := by omega
  rcases hr with rfl | rfl | rfl <;> rcases hs with rfl | rfl | rfl <;> first | decide | omega
theorem all_combos (p : Int → Int → Bool) (h : (combos.all fun c => p c.1 c.2) = true) {r s : Int} (hc : Cmb r s) : p r s = true := List.all_eq_true.mp h _ hc.mem
def okPl (r s : Int) : Bool := (List.range (r * s).toNat).all fun k => decide ((plM r s k).length ≤ 300) && (plM r s k).all fun ns => decide (ns.length = k + 1) && ns.all fun x => decide (0 ≤ x) && decide (x < 4)
theorem okPl_all : (combos.all fun c => okPl c.1 c.2) = true := by decide +kernel
theorem pl_ok {r s : Int} {k : Nat} (h : Cmb r s) (hk : (k : Int) < r * s) : (plM r s k).length ≤ 300 ∧ ∀ ns ∈ plM r s k, ns.length = k + 1 ∧ ∀ x ∈ ns, 0 ≤ x ∧ x < 4 := by
  have := all_combos okPl okPl_all h
  unfold okPl at this
  have := List.all_eq_true.mp this k (List.mem_range.mpr (by omega))
  rw [Bool.and_eq_true] at this
  refine ⟨of_decide_eq_true this.1, fun ns hns => ?_⟩
  have := List.all_eq_true.mp this.2 ns hns
  rw [Bool.and_eq_true] at this
  refine ⟨of_decide_eq_true this.1, fun x hx => ?_⟩
  have := List.all_eq_true.mp this.2 x hx
  rw [Bool.and_eq_true] at this
  exact ⟨of_decide_eq_true this.1, of_decide_eq_true this.2⟩
def okTb (r s : Int) : Bool := (List.range ((r * s).toNat + 1)).all fun k => decide ((tbl r k).length ≤ 800) && (tbl r k).all fun ns => decide (ns.length = k) && ns.all fun x => decide (0 ≤ x) && decide (x < 4)
theorem okTb_all : (combos.all fun c => okTb c.1 c.2) = true := by decide +kernel
theorem tb_ok {r s : Int} {k : Nat} (h : Cmb r s) (hk : (k : Int) ≤ r * s) : (tbl r k).length ≤ 800 ∧ ∀ ns ∈ tbl r k, ns.length = k ∧ ∀ x ∈ ns, 0 ≤ x ∧ x < 4 := by
  have := all_combos okTb okTb_all h
  unfold okTb at this
  have := List.all_eq_true.mp this k (List.mem_range.mpr (by omega))
  rw [Bool.and_eq_true] at this
  refine ⟨of_decide_eq_true this.1, fun ns hns => ?_⟩
  have := List.all_eq_true.mp this.2 ns hns
  rw [Bool.and_eq_true] at this
  refine ⟨of_decide_eq_true this.1, fun x hx => ?_⟩
  have := List.all_eq_true.mp this.2 x hx
  rw [Bool.and_eq_true] at this
  exact ⟨of_decide_eq_true this.1, of_decide_eq_true this.2⟩
theorem same_all : (combos.all fun c => decide (plA c.1 c.2 = lawA c.1 c.2)) = true := by decide +kernel
theorem pl_same {r s : Int} (h : Cmb r s) : plA r s = lawA r s := of_decide_eq_true (all_combos (fun r s => decide (plA r s = lawA r s)) same_all h)
def okA (r s : Int) : Bool := decide ((plA r s).length ≤ 300) && (plA r s).all fun a => decide (a.length ≤ 4) && a.all fun row => decide (row.length ≤ 4) && row.all fun x => decide (0 ≤ x) && decide (x < 4)
theorem okA_all : (combos.all fun c => okA c.1 c.2) = true := by decide +kernel
def allA (s : Int) (n : Nat) : List (List (List Int)) := (List.range n).flatMap fun i => plA (1 + (i : Nat)) s
def sp_plain_of : SpT := fun cs O R _ => ∃ r s, cs = [.d (.int r), .d (.int s)] ∧ Cmb r s ∧ R (.d (.list ((plA r s).map autD))) O
def sp_in_rows : SpT := fun cs O R _ => ∃ r s ns, cs = [.d (tupI ns), .d (.int s)] ∧ Cmb r s ∧ ((ns.length : Nat) : Int) = r * s ∧ R (.d (autD (inRows s.toNat ns))) O
def sp_plain_aut : SpT := fun cs O R _ => ∃ (c : Nat) (s : Int), cs = [.d (.int (c : Nat)), .d (.int s)] ∧ c ≤ 3 ∧ (∀ r : Int, 1 ≤ r → r ≤ c → Cmb r s) ∧ R (.o O.length) (O ++ [.lst (((allA s c).map autD).map C.d)])
def sp_tables : SpT := fun cs O R _ => ∃ r s, cs = [.d (.int r), .d (.int s)] ∧ Cmb r s ∧ R (.d (.list ((tbl r (r * s).toNat).map tupI))) O
def sp_isplain : SpT := fun cs O R _ => ∃ ns r s, cs = [.d (tupI ns), .d (.int r), .d (.int s)] ∧ 2 ≤ s ∧ s ≤ 4 ∧ ns.length ≤ 8 ∧ R (.d (.bool (isPl r s ns))) O
theorem rgc_c {r s : Int} (h : Cmb r s) {n : Nat} (hn : (n : Int) = r * s) : RgC 0 (n : Int) s r.toNat := by
  rw [hn]
  have := h.mem
  simp only [combos, List.mem_cons, Prod.mk.injEq, List.not_mem_nil, or_false] at this
  rcases this with ⟨rfl, rfl⟩ | ⟨rfl, rfl⟩ | ⟨rfl, rfl⟩ | ⟨rfl, rfl⟩ | ⟨rfl, rfl⟩ | ⟨rfl, rfl⟩ | ⟨rfl, rfl⟩ <;> exact ⟨by decide, by decide, by decide +kernel, by decide +kernel⟩
theorem cut_mid {l : List Int} {a b : Nat} : T.cutD (l.map PyData.int) (some (a : Int)) (some ((a : Int) + (b : Int))) = ((l.drop a).take b).map PyData.int := by
  unfold T.cutD HT.sIx
  dsimp only
  rw [if_neg (by omega), if_neg (by omega)]
  rw [Int.toNat_natCast, show ((a : Int) + (b : Int)).toNat = a + b by omega, List.map_take, List.map_drop, List.length_map]
  by_cases h : a ≤ l.length
  · rw [Nat.min_eq_left h]
    by_cases h2 : a + b ≤ l.length
    · rw [Nat.min_eq_left h2, show a + b - a = b by omega]
    · rw [Nat.min_eq_right (by omega)]
      rw [List.take_of_length_le (by simp), List.take_of_length_le (by simp; omega)]
  · rw [Nat.min_eq_right (by omega), Nat.min_eq_right (by omega)]
    rw [List.drop_of_length_le (by simp), List.drop_of_length_le (by simp; omega)]
    simp
theorem cmb_div {r s : Int} (h : Cmb r s) {n : Nat} (hn : (n : Int) = r * s) : n / s.toNat = r.toNat := by
  obtain ⟨b1, _, b3, _⟩ := h.bd
  obtain ⟨t, rfl⟩ : ∃ t : Nat, s = (t : Int) := ⟨s.toNat, by omega⟩
  obtain ⟨q, rfl⟩ : ∃ q : Nat, r = (q : Int) := ⟨r.toNat, by omega⟩
  rw [← Int.natCast_mul] at hn
  have e : n = q * t := Int.ofNat.inj hn
  rw [e, Int.toNat_natCast, Int.toNat_natCast, Nat.mul_div_cancel _ (by omega)]
def cutF (ns : List Int) (s : Int) (d : PyData) : PyData := .tuple (T.cutD (ns.map PyData.int) (some (valI d)) (some (valI d + s)))
theorem cut_rows {ns : List Int} {s : Int} {n : Nat} (hs : 0 ≤ s) : (rngC 0 s n).map (cutF ns s) = ((List.range n).map fun k => (ns.drop (k * s.toNat)).take s.toNat).map tupI := by
  unfold rngC
  rw [List.map_map, List.map_map]
  refine List.map_congr_left fun k _ => ?_
  show cutF ns s (.int (0 + (k : Nat) * s)) = tupI _
  unfold cutF tupI valI
  rw [Int.zero_add]
  obtain ⟨t, rfl⟩ : ∃ t : Nat, s = (t : Int) := ⟨s.toNat, by omega⟩
  rw [← Int.natCast_mul, cut_mid, Int.toNat_natCast]
def cutG (ns : List Int) (s : Int) (d : PyData) : PyData := .tuple (T.cutD (ns.map PyData.int) (some (valI d * s)) (some (valI d * s + s)))
theorem cut_rows2 {ns : List Int} {s : Int} {n : Nat} (hs : 0 ≤ s) : (rng 0 n).map (cutG ns s) = ((List.range n).map fun k => (ns.drop (k * s.toNat)).take s.toNat).map tupI := by
  unfold rng
  rw [List.map_map, List.map_map]
  refine List.map_congr_left fun k _ => ?_
  show cutG ns s (.int (0 + (k : Nat))) = tupI _
  unfold cutG tupI valI
  rw [Int.zero_add]
  obtain ⟨t, rfl⟩ : ∃ t : Nat, s = (t : Int) := ⟨s.toNat, by omega⟩
  rw [← Int.natCast_mul, cut_mid, Int.toNat_natCast]
theorem flat_bd {α β : Type} {f : α → List β} {c : Nat} : ∀ {l : List α}, (∀ x ∈ l, (f x).length ≤ c) → (l.flatMap f).length ≤ l.length * c
  | [], _ => by simp
  | x :: l, h => by
    rw [List.flatMap_cons, List.length_append, List.length_cons, Nat.succ_mul]
    have h1 := h x (List.mem_cons_self ..)
    have h2 := flat_bd (l := l) (f := f) (c := c) fun y hy => h y (List.mem_cons_of_mem _ hy)
    omega
theorem auts_rows {r s : Int} : ((plM r s (r * s - 1).toNat).map tupI).map (fun d => autD (inRows s.toNat (insI d))) = (plA r s).map autD := by
  unfold plA
  rw [List.map_map, List.map_map]
  refine List.map_congr_left fun ns _ => ?_
  show autD (inRows s.toNat (insI (tupI ns))) = _
  rw [ins_tup]
  rfl
theorem allA_flat {s : Int} {c : Nat} : (rng 1 c).flatMap (fun d => ((plA (valI d) s).map autD).map fun e => e) = (allA s c).map autD := by
  unfold rng allA
  rw [List.flatMap_map, List.map_flatMap]
  refine congrArg (fun f => List.flatMap f (List.range c)) (funext fun i => ?_)
  show ((plA (1 + (i : Nat)) s).map autD).map (fun e => e) = _
  rw [List.map_id']
theorem allA_succ {s : Int} {n : Nat} : allA s (n + 1) = allA s n ++ plA (1 + (n : Nat)) s := by
  unfold allA
  rw [List.range_succ, List.flatMap_append]
  simp
theorem plA_ok {r s : Int} (h : Cmb r s) : (plA r s).length ≤ 300 ∧ ∀ a ∈ plA r s, a.length ≤ 4 ∧ ∀ row ∈ a, row.length ≤ 4 ∧ ∀ x ∈ row, 0 ≤ x ∧ x < 4 := by
  have := all_combos okA okA_all h
  unfold okA at this
  rw [Bool.and_eq_true] at this
  refine ⟨of_decide_eq_true this.1, fun a ha => ?_⟩
  have := List.all_eq_true.mp this.2 a ha
  rw [Bool.and_eq_true] at this
  refine ⟨of_decide_eq_true this.1, fun row hr => ?_⟩
  have := List.all_eq_true.mp this.2 row hr
  rw [Bool.and_eq_true] at this
  refine ⟨of_decide_eq_true this.1, fun x hx => ?_⟩
  have := List.all_eq_true.mp this.2 x hx
  rw [Bool.and_eq_true] at this
  exact ⟨of_decide_eq_true this.1, of_decide_eq_true this.2⟩
theorem allA_ok {s : Int} {c : Nat} (h : ∀ r : Int, 1 ≤ r → r ≤ c → Cmb r s) : (allA s c).length ≤ c * 300 ∧ ∀ a ∈ allA s c, a.length ≤ 4 ∧ ∀ row ∈ a, row.length ≤ 4 ∧ ∀ x ∈ row, 0 ≤ x ∧ x < 4 := by
  constructor
  · have := flat_bd (l := List.range c) (f := fun i => plA (1 + (i : Nat)) s) (c := 300) fun i hi => (plA_ok (h _ (by omega) (by have := List.mem_range.mp hi; omega))).1
    rwa [List.length_range] at this
  · intro a ha
    obtain ⟨i, hi, hia⟩ := List.mem_flatMap.mp ha
    exact (plA_ok (h _ (by omega) (by have := List.mem_range.mp hi; omega))).2 a hia
theorem rp_auts {L : List (List (List Int))} (hl : L.length ≤ 900) (h : ∀ a ∈ L, a.length ≤ 4 ∧ ∀ row ∈ a, row.length ≤ 4 ∧ ∀ x ∈ row, 0 ≤ x ∧ x < 4) : Rp 3 100000 (.list (L.map autD)) := by
  refine (rp_lst (k := 2) (w := 24) fun d hd => ?_).mono (Nat.le_refl _) (by rw [List.length_map]; omega)
  obtain ⟨a, ha, rfl⟩ := List.mem_map.mp hd
  refine (rp_tup (k := 1) (w := 4) fun d hd => ?_).mono (Nat.le_refl _) (by rw [List.length_map]; have := (h a ha).1; omega)
  obtain ⟨row, hr, rfl⟩ := List.mem_map.mp hd
  refine (rp_tup (k := 0) (w := 0) (rp_ints fun x hx => ?_)).mono (Nat.le_refl _) (by rw [List.length_map]; have := ((h a ha).2 row hr).1; omega)
  have := ((h a ha).2 row hr).2 x hx
  omega
theorem rp_gr {s r : Int} (h0 : 0 ≤ s) (h1 : s ≤ 4) (h2 : 1 ≤ r) (h3 : r ≤ 64) : Rp 2 1000 (grD s r) := by
  refine (rp_tup (k := 1) (w := 4) fun d hd => ?_).mono (Nat.le_refl _) (by rw [List.length_map, rng_len]; omega)
  obtain ⟨q, hq, rfl⟩ := List.mem_map.mp hd
  refine (rp_tup (k := 0) (w := 0) fun d hd => ?_).mono (Nat.le_refl _) (by rw [List.length_map, rng_len]; omega)
  obtain ⟨x, hx, rfl⟩ := List.mem_map.mp hd
  have a1 := Int.emod_nonneg (valI q * s + valI x) (show r ≠ 0 by omega)
  have a2 := Int.emod_lt_of_pos (valI q * s + valI x) (show 0 < r by omega)
  exact rp_int (by omega) (by omega)
theorem sh_autD {a : List (List Int)} : Sh 2 (autD a) := sh_tup fun d hd => by
  obtain ⟨row, _, rfl⟩ := List.mem_map.mp hd
  exact sh_tup sh_ints
theorem sh_auts {L : List (List (List Int))} : Sh 3 (.list (L.map autD)) := sh_lst fun d hd => by
  obtain ⟨a, _, rfl⟩ := List.mem_map.mp hd
  exact sh_autD
end K
namespace K
open PySem PySem.Spec PyProof.Rows L2 T
theorem mx_bd {ns : List Int} (h0 : 0 < ns.length) (h : ∀ x ∈ ns, 0 ≤ x ∧ x < 4) : 0 ≤ mx ns ∧ mx ns < 4 := by
  obtain ⟨a, b, c⟩ := mx_go (ns := ns) (a := 0)
  refine ⟨b, ?_⟩
  rcases c with z | z
  · show ns.foldl _ 0 < 4
    rw [z]; decide
  · exact (h _ z).2
theorem posb {k v : Nat} (h : (decide (0 < (k : Int)) || decide ((v : Int) = 0)) = true) : (decide (k > 0) || decide (v = 0)) = true := by simpa using h
theorem negb {k v : Nat} (h : (decide (0 < (k : Int)) || decide ((v : Int) = 0)) = false) : (decide (k > 0) || decide (v = 0)) = false := by simpa using h
theorem w2_ne_str {K : W.Frag} {i j : Str} {O : Sto} {R : C → Sto → Prop} (r : R (.d (.bool (!decide (i = j)))) O) : W2 K (rNeq K) (.d (.str i)) (.d (.str j)) O R := w2_l fun F as H x y Q S rx ry t => by
  cases rx
  cases ry
  have e : decide (V.str i = V.str j) = decide (i = j) := by simp
  exact ⟨rfl, t.go S (by rw [e]; exact (.bl _ : Dp K F _ _)) r⟩
def extT (r : Int) (k : Nat) (one : List Int) : List (List Int) := ((List.range r.toNat).filter fun v => decide (k > 0) || decide (v = 0)).map fun v => one ++ [((v : Nat) : Int)]
def rowsQ (r s : Int) (ns : List Int) : List (List Int) := (List.range r.toNat).map fun q => (ns.drop (q * s.toNat)).take s.toNat
theorem eqv_strs {x : Str} : PyData.eqv (.str x) (.str x) = true := by
  show (x == x) = true
  exact beq_self_eq_true x
end K

set_option Elab.async false
set_option linter.all false
set_option maxRecDepth 100000
set_option maxHeartbeats 6000000
namespace K
open PySem PySem.Spec PyProof.Rows L2 T
local macro_rules | `(tactic| walk_at "t_vw") => `(tactic| first | assumption | exact .d _ | exact vw_own (by walk_at "t_o"))
local macro_rules | `(tactic| walk_at "t_eq") => `(tactic| (apply w2_eq_v; walk_at "t_vw"; walk_at "t_vw"; walk_at "t_shp"; walk_at "t_shp"))
local macro_rules | `(tactic| walk_at "t_ne") => `(tactic| (apply w2_ne_v; walk_at "t_vw"; walk_at "t_vw"; walk_at "t_shp"; walk_at "t_shp"))
local macro_rules | `(tactic| walk_at "t_in") => `(tactic| (apply w2_in_v; walk_at "t_vw"; walk_at "t_vw"; walk_at "t_shp"; walk_at "t_shp"))
local macro_rules | `(tactic| walk_at "t_nin") => `(tactic| first | (apply w2_nin_tup; walk_at "t_shp"; walk_at "t_shp") | (apply w2_nin_v; walk_at "t_vw"; walk_at "t_vw"; walk_at "t_shp"; walk_at "t_shp"))
local macro_rules | `(tactic| walk_at "t_sz") => `(tactic| (refine Nat.le_trans (m := 100000) ?_ (by decide); simp only [List.length_append, List.length_map, rng_len, List.length_cons, List.length_nil]; omega))
local macro_rules | `(tactic| walk_at "t_set") => `(tactic| (apply wset_own; walk_at "t_o"; assumption))
local macro_rules | `(tactic| walk_at "t_lpos") => `(tactic| first | assumption | (simp; done) | (simp; omega) | omega)
local macro_rules | `(tactic| walk_at "t_o") => `(tactic| first | exact app_0 | (refine app_n ?_; rfl))
local macro_rules | `(tactic| walk_at "t_cl1") => `(tactic| first | exact clOb_gone | exact clOb_ds | exact clOb_data)
local macro_rules | `(tactic| walk_at "t_clE") => `(tactic| repeat (first | exact clE0 | refine clE (by walk_at "t_cl1") ?_))
local macro_rules | `(tactic| walk_at "t_nfs") => `(tactic| try simp only [oset_cons, oset_nil, app_set_n, app_set0, List.set_cons_succ, List.set_cons_zero, List.append_assoc, List.cons_append, List.nil_append, List.length_append, List.length_cons, List.length_nil, Nat.zero_add, Nat.reduceAdd, Nat.add_assoc])
local macro_rules | `(tactic| walk_at "t_sh") => `(tactic| first | exact sh_up (sh_lst sh_prs) (by decide) | exact sh_up (sh_lst sh_trs) (by decide) | exact sh_up sh_pr1 (by decide))
local macro_rules | `(tactic| walk_at "t_key") => `(tactic| first | exact keyP_t (p := (_, _)) | exact keyP_t)
local macro_rules | `(tactic| walk_at "t_fl") => `(tactic| first | exact flL_d | exact flL_o (by walk_at "t_o") | exact flL_o (ds := [.int 0]) (by walk_at "t_o"))
local macro_rules | `(tactic| walk_at "t_cm") => `(tactic| exact mul_sgn)
local macro_rules | `(tactic| walk_at "t_o") => `(tactic| first | exact app_0 | exact app_1)
local macro_rules | `(tactic| walk_at "t_cloW") => `(tactic| repeat (first | exact clo0 | refine clo_c (by first | exact clOb_dct | (apply clOb_wk; simp; done) | (apply clOb_now; simp; done)) ?_))
local macro_rules | `(tactic| walk_at "t_o") => `(tactic| (refine app_n1 ?_; (repeat (refine o_app ?_)); assumption))
local macro_rules | `(tactic| walk_at "t_o") => `(tactic| (refine app_n2 ?_; rfl))
local macro_rules | `(tactic| walk_at "t_xt") => `(tactic| first | exact ext_tail rfl | exact ext_tail (List.append_nil _).symm | exact ext_tail (by simp only [List.append_assoc]; rfl))
local macro_rules | `(tactic| walk_at "t_pos") => `(tactic| (simp only [List.length_map]; refine Int.lt_of_le_of_lt (Int.ofNat_le.mpr (List.length_filter_le _ _)) ?_; rw [rng_len]; omega))
local macro_rules | `(tactic| walk_at "t_mz") => `(tactic| first | omega | (split <;> omega))
local macro_rules | `(tactic| walk_at "t_ix") => `(tactic| (apply w2_ix_tupO; walk_at "t_o"; walk_at "t_at"))
local macro_rules | `(tactic| walk_at "t_sz") => `(tactic| (refine Nat.le_trans (m := 100000) ?_ (by decide); simp only [List.length_map, tpC_len]; omega))
local macro_rules | `(tactic| walk_at "t_cl1") => `(tactic| (refine clOb_tup ?_; walk_at "t_cls"))
local macro_rules | `(tactic| walk_at "t_lnl") => `(tactic| (simp only [List.length_append, List.length_cons, List.length_nil]; omega))
local macro_rules | `(tactic| walk_at "t_dsp") => `(tactic| first | rfl | assumption)
local macro_rules | `(tactic| walk_at "t_rp") => `(tactic| first | exact ⟨_, _, by assumption, by decide, by decide⟩)
local macro_rules | `(tactic| walk_at "t_rgc") => `(tactic| exact RgC.neg (by omega) (by omega) (by omega) (by omega))
local macro_rules | `(tactic| walk_at "t_eq") => `(tactic| (apply w2_eq_str))
local macro_rules | `(tactic| walk_at "t_szl") => `(tactic| (rw [List.length_map, cfs_len]; refine Nat.lt_of_lt_of_le (m := 100000) ?_ (by decide); omega))
local macro_rules | `(tactic| walk_at "t_cloA") => `(tactic| repeat (first | exact clo0 | refine clo_c (by first | exact IsStrm.cl (by assumption) | exact clOb_ds | exact clOb_data) ?_))
local macro_rules | `(tactic| walk_at "t_sz") => `(tactic| (refine Nat.le_trans (m := 100000) ?_ (by decide); simp only [List.length_append, List.length_map, rng_len, rngC_len, List.length_cons, List.length_nil]; omega))
local macro_rules | `(tactic| walk_at "t_rgc") => `(tactic| exact rgc_c (by assumption) (by rw [List.length_map]; assumption))
local macro_rules | `(tactic| walk_at "t_sh") => `(tactic| exact sh_up sh_auts (by decide))
local macro_rules | `(tactic| walk_at "t_ne") => `(tactic| (apply w2_ne_str))
local macro_rules | `(tactic| walk_at "t_sz") => `(tactic| (refine Nat.le_trans (m := 100000) ?_ (by decide); (first | omega | (simp; done) | (simp; omega) | (simp only [List.length_append, List.length_cons, List.length_nil, List.length_map, List.length_take, List.length_drop]; omega))))
local macro_rules | `(tactic| walk_at "t_szl") => `(tactic| (refine Nat.lt_of_lt_of_le (m := 100000) ?_ (by decide); first | (simp; done) | (simp; omega)))
local macro_rules | `(tactic| walk_at "t_nn") => `(tactic| first | omega | assumption | decide | (simp; done) | (simp; omega))
local macro_rules | `(tactic| walk_at "t_slice2") => `(tactic| first | (refine wsl_tupU (by walk_at "t_nn") ?_) | (refine wsl_tupL (by walk_at "t_nn") ?_) | (refine wsl_lstU (by walk_at "t_nn") ?_) | (refine wsl_lstL (by walk_at "t_nn") ?_) | (refine wsl_own (by walk_at "t_o") ?_; walk_at "t_new") | refine wsl_tup ?_ | refine wsl_lst ?_)
local macro_rules | `(tactic| walk_at "t_lt") => `(tactic| first | assumption | (simp; done) | (simp; omega) | omega)
local macro_rules | `(tactic| walk_at "t_nek") => `(tactic| first | assumption | omega | (simp; done) | (simp; omega))
local macro_rules | `(tactic| walk_at "t_o") => `(tactic| first | assumption | exact o_last | (refine ext_k ?_; walk_at "t_lt") | (refine ext_j ?_; first | rfl | exact o_last) | (refine ext_o ?_ ?_; assumption; walk_at "t_nek") | (refine ext2_k ?_ ?_; walk_at "t_nek"; walk_at "t_lt") | (refine ext2_j ?_; walk_at "t_lt") | (refine ext2_n ?_; first | rfl | exact o_last) | (refine app_n ?_; first | rfl | exact o_last) | (refine o_set ?_; walk_at "t_lt") | (refine o_app ?_; walk_at "t_o") | (refine o_setn ?_ ?_; walk_at "t_nek"; walk_at "t_o"))
local macro_rules | `(tactic| walk_at "t_set") => `(tactic| (apply wset_own; walk_at "t_o"; (first | rfl | (refine ixN_nat ?_; walk_at "t_lt") | (refine ixN_int (by omega) (by first | omega | (simp; omega))))))
local macro_rules | `(tactic| walk_at "t_int") => `(tactic| first | apply wc_int | apply wc_int_bl)
local macro_rules | `(tactic| walk_at "t_abs") => `(tactic| apply wc_abs)
local macro_rules | `(tactic| walk_at "t_alld") => `(tactic| first | rfl | exact allD_map)
local macro_rules | `(tactic| walk_at "t_tuple") => `(tactic| first | (apply wc_tuple_own; walk_at "t_o"; walk_at "t_alld") | apply wc_tuple_lst)
local macro_rules | `(tactic| walk_at "t_list") => `(tactic| first | refine wc_list_frz (.inl rfl) ?_ | refine wc_list_frz (.inr rfl) ?_)
local macro_rules | `(tactic| walk_at "t_cm") => `(tactic| first | exact .inl ⟨by decide, by decide⟩ | exact .inr ⟨by decide, by decide⟩ | exact .inl ⟨by omega, by omega⟩ | exact .inr ⟨by omega, by omega⟩)
local macro_rules | `(tactic| walk_at "t_add") => `(tactic| first | apply w2_add_int | (apply w2_add_tup; walk_at "t_sz") | (apply w2_add_str; walk_at "t_sz") | (apply w2_add_own; walk_at "t_o"; walk_at "t_o"; walk_at "t_sz"; walk_at "t_new"))
local macro_rules | `(tactic| walk_at "t_sub") => `(tactic| apply w2_sub)
local macro_rules | `(tactic| walk_at "t_mul") => `(tactic| first | (apply w2_mul_int; walk_at "t_cm") | (apply w2_mul_tup; exact List.cons_ne_nil _ _; omega; omega; (first | exact (by decide : 1 ≤ 1000) | (simp; omega))))
local macro_rules | `(tactic| walk_at "t_fdiv") => `(tactic| (apply w2_fdiv; (first | exact ⟨by decide, by decide⟩ | exact ⟨by omega, by omega⟩)))
local macro_rules | `(tactic| walk_at "t_mod") => `(tactic| (apply w2_mod; (first | decide | omega)))
local macro_rules | `(tactic| walk_at "t_pow") => `(tactic| (apply w2_pow; exact ⟨by decide, by decide, by decide⟩))
local macro_rules | `(tactic| walk_at "t_rng") => `(tactic| first | refine ⟨_, rfl, ⟨(by first | omega | (simp only [List.length_map, List.length_append, List.length_cons, List.length_nil]; omega)), (by first | omega | (simp only [List.length_map, List.length_append, List.length_cons, List.length_nil]; omega))⟩, ?_⟩ | refine ⟨_, _, rfl, ⟨(by first | omega | (simp only [List.length_map, List.length_append, List.length_cons, List.length_nil]; omega)), (by first | omega | (simp only [List.length_map, List.length_append, List.length_cons, List.length_nil]; omega)), (by first | omega | (simp only [List.length_map, List.length_append, List.length_cons, List.length_nil]; omega)), (by first | omega | (simp only [List.length_map, List.length_append, List.length_cons, List.length_nil]; omega))⟩, ?_⟩)
local macro_rules | `(tactic| walk_at "t_shp") => `(tactic| first | assumption | rfl)
local macro_rules | `(tactic| walk_at "t_eq") => `(tactic| first | apply w2_eq_int | apply w2_eq_bl | apply w2_eq_str | (apply w2_eq_d; walk_at "t_shp"; walk_at "t_shp"))
local macro_rules | `(tactic| walk_at "t_ne") => `(tactic| first | apply w2_ne_int | (apply w2_ne_d; walk_at "t_shp"; walk_at "t_shp"))
local macro_rules | `(tactic| walk_at "t_is") => `(tactic| first | apply w2_is_bl | apply w2_isnt_bl | apply w2_is_non | apply w2_isnt_non)
local macro_rules | `(tactic| walk_at "t_at") => `(tactic| first | exact atI_zero | exact atI_i (by decide) rfl | exact atI_lastI | exact atI_i (by decide) (by assumption) | exact atI_i (by assumption) (by assumption) | exact atI_nat (by assumption))
local macro_rules | `(tactic| walk_at "t_ix") => `(tactic| first | (apply w2_ix_own; walk_at "t_o"; walk_at "t_at") | (apply w2_ix_tup; walk_at "t_at") | (apply w2_ix_lst; walk_at "t_at"))
local macro_rules | `(tactic| walk_at "t_len") => `(tactic| first | apply wc_len_tup | apply wc_len_lst | (apply wc_len_own; walk_at "t_o") | (apply wc_len_str; assumption))
local macro_rules | `(tactic| walk_at "t_all") => `(tactic| first | apply wc_all | apply wc_allF)
local macro_rules | `(tactic| walk_at "t_any") => `(tactic| apply wc_anyF)
local macro_rules | `(tactic| walk_at "t_same") => `(tactic| first | exact ⟨rfl, [], (List.append_nil _).symm⟩ | exact ⟨rfl, _, rfl⟩ | exact ⟨rfl, _, app_tail rfl⟩ | exact ⟨rfl, _, ext_tail rfl⟩ | exact ⟨rfl, _, ext2_tail rfl⟩ | (refine ⟨rfl, _, ?_⟩; simp only [List.append_assoc]; rfl))
local macro_rules | `(tactic| walk_at "t_sameB") => `(tactic| walk_at "t_same")
local macro_rules | `(tactic| walk_at "t_img") => `(tactic| walk_at "t_same")
local macro_rules | `(tactic| walk_at "t_ifd") => `(tactic| walk_at "t_same")
local macro_rules | `(tactic| walk_at "t_new0") => `(tactic| first | rw [ext_push] | rw [ext2_push] | rw [app_push] | skip)
local macro_rules | `(tactic| walk_at "t_new") => `(tactic| first | rw [ext_len, ext_push] | rw [ext2_len, ext2_push] | rw [app_len, app_push] | skip)
local macro_rules | `(tactic| walk_at "t_nf") => `(tactic| first | rw [ext_set_j] | rw [ext2_set_n] | rw [app_set_n] | skip)
local macro_rules | `(tactic| walk_at "t_slen") => `(tactic| first | rfl | (rw [ext_len, ext_len]; done) | (rw [ext_len, ext_len]; simp; done) | (rw [ext2_len, ext2_len]; done) | (rw [ext2_len, ext2_len]; simp; done) | (rw [app_len, app_len]; done) | (rw [app_len, app_len]; simp; done) | (simp [oset_len]; done))
local macro_rules | `(tactic| walk_at "t_wk") => `(tactic| repeat (first | exact wk_nil | exact wk_refl | refine wk_same ?_ | refine wk_none ?_))
local macro_rules | `(tactic| walk_at "t_lnl") => `(tactic| first | assumption | omega | (rw [ext_len]; first | omega | (simp; done) | (simp; omega)) | (rw [ext2_len]; first | omega | (simp; done) | (simp; omega)) | (rw [app_len]; first | omega | (simp; done) | (simp; omega)))
local macro_rules | `(tactic| walk_at "t_clg") => `(tactic| repeat (first | exact clg0 | refine clg_none ?_ | refine clg_d ?_ | refine clg_o (by walk_at "t_lnl") ?_))
local macro_rules | `(tactic| walk_at "t_cls") => `(tactic| repeat (first | exact cls0 | exact cls_m | refine cls_d ?_ | refine cls_o (by walk_at "t_lnl") ?_))
local macro_rules | `(tactic| walk_at "t_cl1") => `(tactic| first | exact clOb_dct | exact IsStrm.cl (by assumption) | (refine clOb_lst ?_; walk_at "t_cls"))
local macro_rules | `(tactic| walk_at "t_clo") => `(tactic| repeat (first | exact clo0 | refine clo_c (by walk_at "t_cl1") ?_))
local macro_rules | `(tactic| walk_at "t_dget") => `(tactic| refine ⟨_, _, .inl _, _, rfl, (by first | exact .inl (by walk_at "t_o") | exact .inr (by walk_at "t_o")), rfl, (by first | exact at_tp (by assumption) | assumption), ?_⟩)
local macro_rules | `(tactic| walk_at "t_getd") => `(tactic| refine ⟨_, rfl, (by first | exact ⟨_, .inl (by walk_at "t_o")⟩ | exact ⟨_, .inr (by walk_at "t_o")⟩), ?_⟩)
local macro_rules | `(tactic| walk_at "t_getv") => `(tactic| (refine ⟨_, .inl _, (by first | exact .inl (by walk_at "t_o") | exact .inr (by walk_at "t_o")), rfl, ?_⟩; rw [get_tp]))
local macro_rules | `(tactic| walk_at "t_keys") => `(tactic| refine ⟨_, _, rfl, by walk_at "t_o", ?_⟩)
local macro_rules | `(tactic| walk_at "t_sorted") => `(tactic| (first | refine ⟨rfl, ?_⟩ | refine ⟨congrArg (fun l => [C.d (.list l)]) (fil_keys (fun x => rfl) fun d => rfl), ?_⟩; walk_at "t_new0"))
local macro_rules | `(tactic| walk_at "t_dset") => `(tactic| ((refine wset_dct (ky := .inl _) (by walk_at "t_o") (by first | (rw [tpC_len]; refine Nat.lt_of_lt_of_le (m := 100000) ?_ (by decide); omega)) ?_); rw [put_tp]; walk_at "t_nf"))
local macro_rules | `(tactic| walk_at "t_small") => `(tactic| first | assumption | exact TpOk.small (by assumption) (by omega) (by omega) (by omega))
local macro_rules | `(tactic| walk_at "t_cl5") => `(tactic| first | (refine cl_tup ?_; first | (simp; done) | (simp; omega) | omega) | (refine menuL ?_ (by assumption); repeat (first | exact List.forall_mem_nil _ | refine List.forall_mem_cons.mpr ⟨(by first | exact Nat.zero_le _ | (refine cl_tup ?_; omega)), ?_⟩)) | exact Nat.zero_le _)
local macro_rules | `(tactic| walk_at "t_rg") => `(tactic| first | omega | (simp only [List.length_map, List.length_append, List.length_cons, List.length_nil]; omega) | (simp; omega))
local macro_rules | `(tactic| walk_at "t_mem") => `(tactic| assumption)
local macro_rules | `(tactic| walk_at "t_hz") => `(tactic| first | assumption | (intro zs ez; cases ez <;> first | (rw [rng_len]; omega) | (simp [rng_len]; done) | (simp [rng_len]; omega) | omega))
local macro_rules | `(tactic| walk_at "t_in") => `(tactic| first | (apply w2_in_tup; walk_at "t_shp"; walk_at "t_shp") | (apply w2_in_lst; walk_at "t_shp"; walk_at "t_shp"))
local macro_rules | `(tactic| walk_at "t_sh") => `(tactic| first | exact sh_up sh_int (by decide) | exact sh_up sh_mach (by decide) | exact sh_up sh_cfg (by decide) | exact sh_up (sh_lst sh_ints) (by decide) | exact sh_up (sh_tup sh_ints) (by decide) | exact sh_up (sh_lst sh_rng) (by decide) | exact sh_up (sh_tup sh_rng) (by decide) | exact sh_up sh_rule (by decide) | exact sh_up sh_row (by decide) | exact sh_up (sh_lst fun d hd => sh_ints d (List.mem_of_mem_take hd)) (by decide))
local macro_rules | `(tactic| walk_at "t_shp") => `(tactic| first | assumption | rfl | exact Sh.shaped (n := 12) (by walk_at "t_sh") (by decide) | decide +kernel)
local macro_rules | `(tactic| walk_at "t_slen") => `(tactic| assumption)
local macro_rules | `(tactic| walk_at "t_at") => `(tactic| assumption)
local macro_rules | `(tactic| walk_at "t_o") => `(tactic| first | exact app_0 | exact app_1)
local macro_rules | `(tactic| walk_at "t_smallS") => `(tactic| first | (refine ⟨?_, ?_⟩ <;> first | (simp [SmallS, itemsT]; done) | (simp [SmallS, itemsT]; omega)) | (refine menuP (P := SmallS) ?_ (by assumption); repeat (first | exact List.forall_mem_nil _ | refine List.forall_mem_cons.mpr ⟨(by refine ⟨?_, ?_⟩ <;> first | (simp [SmallS, itemsT]; done) | (simp [SmallS, itemsT]; omega)), ?_⟩)))
local macro_rules | `(tactic| walk_at "t_mulL") => `(tactic| refine w2_mul_lstF (by walk_at "t_o") rfl (by omega) (by omega) (by simp; done) ?_)


def topS (i : Nat) : Stmt := PySem.Challenge.pw_tacet_k43_grams_and_plain_automata.main.body.getD i (.Pass ⟨0, 0, 0, 0⟩)
abbrev s_gram : Stmt := topS 3
theorem sc_gram : FnScope ["count", "symbols", "rows", "_", "symbol", "row"] ["count", "symbols"] (defScope s_gram) := ⟨rfl, rfl, rfl, by decide +kernel, rfl, by decide +kernel, by decide +kernel⟩
abbrev s_plain_automata : Stmt := topS 4
theorem sc_plain_automata : FnScope ["count", "symbols", "rows", "automaton"] ["count", "symbols"] (defScope s_plain_automata) := ⟨rfl, rfl, rfl, by decide +kernel, rfl, by decide +kernel, by decide +kernel⟩
abbrev s__plain_of : Stmt := topS 5
theorem sc__plain_of : FnScope ["rows", "symbols", "found", "many", "least", "numbers", "number"] ["rows", "symbols"] (defScope s__plain_of) := ⟨rfl, rfl, rfl, by decide +kernel, rfl, by decide +kernel, by decide +kernel⟩
abbrev s__in_rows : Stmt := topS 6
theorem sc__in_rows : FnScope ["numbers", "symbols", "at"] ["numbers", "symbols"] (defScope s__in_rows) := ⟨rfl, rfl, rfl, by decide +kernel, rfl, by decide +kernel, by decide +kernel⟩
abbrev s__law_stream : Stmt := topS 8
theorem sc__law_stream : FnScope ["script", "mixed", "cell"] ["script"] (defScope s__law_stream) := ⟨rfl, rfl, rfl, by decide +kernel, rfl, by decide +kernel, by decide +kernel⟩
abbrev s__law_draw : Stmt := topS 9
theorem sc__law_draw : FnScope ["stream", "many", "value"] ["stream", "many"] (defScope s__law_draw) := ⟨rfl, rfl, rfl, by decide +kernel, rfl, by decide +kernel, by decide +kernel⟩
abbrev s__law_gram : Stmt := topS 10
theorem sc__law_gram : FnScope ["count", "symbols", "many", "k", "x", "q"] ["count", "symbols"] (defScope s__law_gram) := ⟨rfl, rfl, rfl, by decide +kernel, rfl, by decide +kernel, by decide +kernel⟩
abbrev s__law_tables : Stmt := topS 11
theorem sc__law_tables : FnScope ["rows", "symbols", "found", "k", "longer", "one", "value"] ["rows", "symbols"] (defScope s__law_tables) := ⟨rfl, rfl, rfl, by decide +kernel, rfl, by decide +kernel, by decide +kernel⟩
abbrev s__law_is_plain : Stmt := topS 12
theorem sc__law_is_plain : FnScope ["table", "rows", "symbols", "met", "at"] ["table", "rows", "symbols"] (defScope s__law_is_plain) := ⟨rfl, rfl, rfl, by decide +kernel, rfl, by decide +kernel, by decide +kernel⟩
abbrev s_law : Stmt := topS 13
theorem sc_law : FnScope ["script", "stream", "count", "symbols", "actual", "size", "k", "rows", "due", "many", "table", "q", "found"] ["script"] (defScope s_law) := ⟨rfl, rfl, rfl, by decide +kernel, rfl, by decide +kernel, by decide +kernel⟩
def GlK (K : PySem.W.Frag) (mg : Str → Option Value) (x : Str) (d : PyData) : Prop := ∃ v u, mg x = some u ∧ RelV v u ∧ ∀ F, Dp K F v d
structure Tx (K : PySem.W.Frag) (mg : Str → Option Value) : Prop where
  b_len : mg "len" = none
  b_abs : mg "abs" = none
  b_int : mg "int" = none
  b_tuple : mg "tuple" = none
  b_list : mg "list" = none
  b_all : mg "all" = none
  b_range : mg "range" = none
  b_isinstance : mg "isinstance" = none
  b_bool : mg "bool" = none
  b_min : mg "min" = none
  b_max : mg "max" = none
  b_repr : mg "repr" = none
  c_MOST_ROWS : GlK K mg "MOST_ROWS" (.int (64))
  c_MOST_GRAM : GlK K mg "MOST_GRAM" (.int (5))
def sp_is_rule : SpT := fun cs O R _ => ∃ d s y, cs = [.d d, .d (.int s), .d (.int y)] ∧ R (.d (.bool (isRule d s y))) O
def sp_is_row : SpT := fun cs O R _ => ∃ d s y, cs = [.d d, .d (.int s), .d (.int y)] ∧ y ≤ 1000 ∧ R (.d (.bool (isRow d s y))) O
def sp_is_machine : SpT := fun cs O R _ => ∃ d, cs = [.d d] ∧ R (.d (.bool (isMachine d))) O
def sp_is_within : SpT := fun cs O R _ => ∃ d a b, cs = [.d d, .d (.int a), .d (.int b)] ∧ R (.d (.bool (within d a b))) O
def sp_is_tuple : SpT := fun cs O R _ => ∃ d a b, cs = [.d d, .d (.int a), .d (.int b)] ∧ R (.d (.bool (tupleOf d a b))) O

section
variable {P : Program} {w : World} {K : PySem.W.Frag} {mg : Str → Option Value} {base : Heap} 

local macro_rules | `(tactic| walk_at "t_nn") => `(tactic| first | omega | assumption | exact Int.emod_nonneg _ (by omega) | exact Int.emod_lt_of_pos _ (by omega) | exact Int.ediv_nonneg (by omega) (by omega) | (split <;> omega) | decide | (simp; done) | (simp; omega))
local macro_rules | `(tactic| walk_at "t_shp") => `(tactic| first | exact within_shaped (by assumption) | exact within_shaped' (by assumption))
local macro_rules | `(tactic| walk_at "t_pos") => `(tactic| first | decide | omega | (simp only [List.length_map, List.length_cons, List.length_nil]; omega))

theorem ok_gram (T : Tx K mg)  {f : Addr} {fd : FuncData} (F : Fun K "gram" "gram" s_gram f fd) : FnOk P w K mg base (L2.CX P w) 1 f fd ["count", "symbols"] (spOf K sp_gram) := by
  refine fn_ok F sc_gram (fun cs O R RX h => ?_) (fun cdv A outer s0 H E hr cs O R RX hc h => ?_)
  · obtain ⟨c, sy, rfl, hc5, hs2, hs4, h⟩ := h
    rfl
  · obtain ⟨c, sy, rfl, hc5, hs2, hs4, h⟩ := h
    obtain ⟨hp1, hp2⟩ := pow_bd (c := c) hs2 hs4 hc5
    refine xb_cons ?_
    refine xs_set 2 rfl ?_
    refine xe_int ?_
    refine xb_cons ?_
    refine xs_weak (wk_same (wk_same (wk_same (wk_none (wk_same (wk_same wk_nil)))))) ?_
    refine xs_forS (S := Int) (fun s => [(2, some (.d (.int s))), (3, none)]) (fun s => []) (fun i s => s = powI sy i) ?_
    refine xi_range1 T.b_range ?_
    refine xa_cons ?_
    refine xe_name 0 rfl rfl ?_
    refine xa_nil ?_
    walk_at "t_rng"
    refine ⟨1, (Int.pow_zero sy).symm, rfl, rfl, ?_, ?_⟩
    ·
      intro i d s hd hi
      rw [oset_nil]
      obtain ⟨hil, rfl⟩ := rng_get hd
      have hs : s = powI sy i := hi
      subst hs
      walk_at "t_nf"
      refine xg_name 3 rfl ?_
      refine ⟨by walk_at "t_slen", ?_⟩
      refine xb_cons ?_
      refine xs_aug 2 (fun _ => op_imul) rfl rfl ?_
      refine xe_name 1 rfl rfl ?_
      refine w2_intC (by walk_at "t_cm") (fun F => .int _) ?_
      refine xb_nil ?_
      refine nx_mk _ (pow_next (s := sy) (c := i)) (by walk_at "t_wk") (by rw [oset_nil]; exact (List.append_nil _).symm) (by walk_at "t_clg") (by walk_at "t_clo")
    intro s hi
    rw [oset_nil]
    rw [rng_len, Int.toNat_natCast] at hi
    have hs : s = powI sy c := hi
    subst hs
    walk_at "t_nf"
    refine xb_cons ?_
    refine xs_if ?_
    refine xt_gt ?_
    refine xe_name 2 rfl rfl ?_
    refine xe_glob T.c_MOST_ROWS ?_
    refine w2_gt ?_
    refine ⟨_, rfl, ?_⟩
    refine ⟨fun hif1 => ?_, fun hif1 => ?_⟩
    ·
      refine xb_cons ?_
      refine xs_ret ?_
      refine xe_non ?_
      exact back_0 hc (by rw [show grO sy c = .none from if_pos (of_decide_eq_true hif1)] at h; exact h)
    ·
      refine xb_nil ?_
      have hr64 := of_decide_eq_false hif1
      refine xb_cons ?_
      refine xs_ret ?_
      refine xe_tuple_ T.b_tuple ?_
      refine xa_cons ?_
      refine xe_lc (own := [("row", 5)]) (τ := .one 5) (fun _ => blkOk_by (N := ["count", "symbols", "rows", "_", "symbol", "row"]) (sc := defScope s_gram) (by decide +kernel)) (fun _ => by first | exact pg_name (i := 5) sc_gram.nd rfl (Or.inl rfl) | exact pg_name (i := 5) sc_gram.nd rfl (Or.inr rfl)) ?_
      refine we_map (by decide) rfl ?_
      refine xi_range1 T.b_range ?_
      refine xa_cons ?_
      refine xe_name 2 rfl rfl ?_
      refine xa_nil ?_
      walk_at "t_rng"
      refine ⟨grR sy (powI sy c), by rw [rng_len]; exact Nat.le_trans (m := 10000) (by omega) (by decide), fun d hd acc => ?_, ?_⟩
      ·
        obtain ⟨q, hq, rfl⟩ := rng_mem hd
        refine ⟨_, rfl, ?_⟩
        refine xe_tuple_ T.b_tuple ?_
        refine xa_cons ?_
        refine xe_lc (own := [("symbol", 4)]) (τ := .one 4) (fun _ => blkOk_by (N := ["count", "symbols", "rows", "_", "symbol", "row"]) (sc := relS _ (defScope s_gram)) (by decide +kernel)) (fun _ => by first | exact pg_name (i := 4) sc_gram.nd rfl (Or.inl rfl) | exact pg_name (i := 4) sc_gram.nd rfl (Or.inr rfl)) ?_
        refine we_map (by decide) rfl ?_
        refine xi_range1 T.b_range ?_
        refine xa_cons ?_
        refine xe_name 1 rfl rfl ?_
        refine xa_nil ?_
        walk_at "t_rng"
        refine ⟨fun x => .int ((valI (.int (0 + (q : Nat))) * sy + valI x) % powI sy c), by rw [rng_len]; exact Nat.le_trans (m := 10000) (by omega) (by decide), fun d hd acc => ?_, ?_⟩
        ·
          obtain ⟨x, hx, rfl⟩ := rng_mem hd
          refine ⟨_, rfl, ?_⟩
          refine xe_mod ?_
          refine xe_add ?_
          refine xe_mul ?_
          refine xe_name 5 rfl rfl ?_
          refine xe_name 1 rfl rfl ?_
          walk_at "t_mul"
          refine xe_name 4 rfl rfl ?_
          walk_at "t_add"
          refine xe_name 2 rfl rfl ?_
          walk_at "t_mod"
          walk_at "t_img"
        walk_at "t_new0"
        refine xa_nil ?_
        walk_at "t_tuple"
        walk_at "t_img"
      walk_at "t_new0"
      refine xa_nil ?_
      walk_at "t_tuple"
      exact back_d hc (by rw [show grO sy c = grD sy (powI sy c) from if_neg hr64] at h; exact h)

theorem ok__in_rows (T : Tx K mg)  {f : Addr} {fd : FuncData} (F : Fun K "_in_rows" "_in_rows" s__in_rows f fd) : FnOk P w K mg base (L2.CX P w) 1 f fd ["numbers", "symbols"] (spOf K sp_in_rows) := by
  refine fn_ok F sc__in_rows (fun cs O R RX h => ?_) (fun cdv A outer s0 H E hr cs O R RX hc h => ?_)
  · obtain ⟨r, sy, ns, rfl, hcm, hl, h⟩ := h
    rfl
  · obtain ⟨r, sy, ns, rfl, hcm, hl, h⟩ := h
    obtain ⟨b1, b2, b3, b4, b5, b6⟩ := hcm.bd
    unfold tupI
    refine xb_cons ?_
    refine xs_ret ?_
    refine xe_tuple_ T.b_tuple ?_
    refine xa_cons ?_
    refine xe_lc (own := [("at", 2)]) (τ := .one 2) (fun _ => blkOk_by (N := ["numbers", "symbols", "at"]) (sc := defScope s__in_rows) (by decide +kernel)) (fun _ => by first | exact pg_name (i := 2) sc__in_rows.nd rfl (Or.inl rfl) | exact pg_name (i := 2) sc__in_rows.nd rfl (Or.inr rfl)) ?_
    refine we_map (by decide) rfl ?_
    refine xi_range3 T.b_range ?_
    refine xa_cons ?_
    refine xe_int ?_
    refine xa_cons ?_
    refine xe_len T.b_len ?_
    refine xa_cons ?_
    refine xe_name 0 rfl rfl ?_
    refine xa_nil ?_
    walk_at "t_len"
    refine xa_cons ?_
    refine xe_name 1 rfl rfl ?_
    refine xa_nil ?_
    refine ⟨_, _, _, _, rfl, by walk_at "t_rgc", ?_⟩
    refine ⟨cutF ns sy, by rw [rngC_len]; exact Nat.le_trans (m := 10000) (by omega) (by decide), fun d hd acc => ?_, ?_⟩
    ·
      obtain ⟨i, hi⟩ := List.getElem?_of_mem hd
      obtain ⟨hi1, rfl⟩ := rngC_get hi
      have hm0 : 0 ≤ (i : Int) * sy := Int.mul_nonneg (by omega) (by omega)
      refine ⟨_, rfl, ?_⟩
      refine xe_sliceLU ?_
      refine xe_name 0 rfl rfl ?_
      refine xe_name 2 rfl rfl ?_
      refine ⟨_, rfl, ?_⟩
      refine xe_add ?_
      refine xe_name 2 rfl rfl ?_
      refine xe_name 1 rfl rfl ?_
      walk_at "t_add"
      refine ⟨_, rfl, ?_⟩
      walk_at "t_slice2"
      walk_at "t_img"
    walk_at "t_new0"
    refine xa_nil ?_
    walk_at "t_tuple"
    rw [cut_rows (by omega)]
    exact back_d hc (by unfold inRows at h; rw [cmb_div hcm hl] at h; exact h)

theorem ok__plain_of (T : Tx K mg) (G_irows : Fn P w K mg base 1 "_in_rows" sp_in_rows) {f : Addr} {fd : FuncData} (F : Fun K "_plain_of" "_plain_of" s__plain_of f fd) : FnOk P w K mg base (L2.CX P w) 2 f fd ["rows", "symbols"] (spOf K sp_plain_of) := by
  refine fn_ok F sc__plain_of (fun cs O R RX h => ?_) (fun cdv A outer s0 H E hr cs O R RX hc h => ?_)
  · obtain ⟨r, sy, rfl, hcm, h⟩ := h
    rfl
  · obtain ⟨r, sy, rfl, hcm, h⟩ := h
    obtain ⟨b1, b2, b3, b4, b5, b6⟩ := hcm.bd
    refine xb_cons ?_
    refine xs_set 2 rfl ?_
    refine xe_lst ?_
    refine xa_cons ?_
    refine xe_tup ?_
    refine xa_cons ?_
    refine xe_int ?_
    refine xa_nil ?_
    refine ⟨_, rfl, by walk_at "t_sz", ?_⟩
    refine xa_nil ?_
    refine ⟨by walk_at "t_sz", ?_⟩
    walk_at "t_new0"
    refine xb_frz 2 O.length rfl (ds := [tupI [0]]) (by walk_at "t_o") ?_
    walk_at "t_nfs"
    refine xb_cons ?_
    refine xs_weak (wk_same (wk_same (wk_same (wk_none (wk_none (wk_same (wk_same wk_nil))))))) ?_
    refine xs_forS (S := List (List Int)) (fun s => [(2, some (.d (.list (s.map tupI)))), (3, none), (4, none)]) (fun s => []) (fun i s => s = plM r sy i) ?_
    refine xi_range2 T.b_range ?_
    refine xa_cons ?_
    refine xe_int ?_
    refine xa_cons ?_
    refine xe_add ?_
    refine xe_mul ?_
    refine xe_name 0 rfl rfl ?_
    refine xe_name 1 rfl rfl ?_
    walk_at "t_mul"
    refine xe_int ?_
    walk_at "t_add"
    refine xa_nil ?_
    walk_at "t_rng"
    refine ⟨[[0]], rfl, rfl, rfl, ?_, ?_⟩
    ·
      intro i d s hd hi
      rw [oset_nil]
      obtain ⟨hil, rfl⟩ := rng_get hd
      have hs : s = plM r sy i := hi
      subst hs
      have hir : (i : Int) < r * sy := by omega
      obtain ⟨ho1, ho2⟩ := pl_ok hcm hir
      walk_at "t_nf"
      refine xg_name 3 rfl ?_
      refine ⟨by walk_at "t_slen", ?_⟩
      refine xb_cons ?_
      refine xs_set 4 rfl ?_
      refine xe_ifM ?_
      refine xt_eq ?_
      refine xe_mod ?_
      refine xe_name 3 rfl rfl ?_
      refine xe_name 1 rfl rfl ?_
      walk_at "t_mod"
      refine xe_int ?_
      walk_at "t_eq"
      refine ⟨_, rfl, ?_⟩
      refine ⟨.int (leastF r sy (2 + (i : Nat))), fun hif1 => ?_, fun hif1 => ?_, ?_⟩
      ·
        refine xe_min2 T.b_min ?_
        refine xa_cons ?_
        refine xe_fdiv ?_
        refine xe_name 3 rfl rfl ?_
        refine xe_name 1 rfl rfl ?_
        walk_at "t_fdiv"
        refine xa_cons ?_
        refine xe_sub ?_
        refine xe_name 0 rfl rfl ?_
        refine xe_int ?_
        walk_at "t_sub"
        refine xa_nil ?_
        refine ⟨_, _, rfl, ?_⟩
        exact ⟨congrArg (fun z => C.d (.int z)) (by unfold leastF; rw [if_pos (of_decide_eq_true hif1)]), [], (List.append_nil _).symm⟩
      ·
        refine xe_int ?_
        exact ⟨congrArg (fun z => C.d (.int z)) (by unfold leastF; rw [if_neg (of_decide_eq_false hif1)]), [], (List.append_nil _).symm⟩
      refine xb_cons ?_
      refine xs_setLc2I 2 rfl (fun _ => rfl) (fun _ => rfl) (own := [("numbers", 5), ("number", 6)]) (vs1 := [6]) (τ := .one 5) (τ1 := .one 6) (fun _ => blkOk_by (N := ["rows", "symbols", "found", "many", "least", "numbers", "number"]) (sc := defScope s__plain_of) (by decide +kernel)) (by decide) (fun _ => by first | exact pg_name (i := 5) sc__plain_of.nd rfl (Or.inl rfl) | exact pg_name (i := 5) sc__plain_of.nd rfl (Or.inr rfl)) (fun _ => by first | exact pg_name (i := 6) sc__plain_of.nd rfl (Or.inl rfl) | exact pg_name (i := 6) sc__plain_of.nd rfl (Or.inr rfl)) ?_
      refine we_map2I (by decide) (by decide) rfl ?_
      refine xi_seq ?_
      refine xe_name 2 rfl rfl ?_
      first | refine ⟨_, .inr rfl, ?_⟩ | refine ⟨_, .inl rfl, ?_⟩ | refine ⟨_, tupleOf_seq (by assumption), ?_⟩
      refine ⟨fD r, qD (leastF r sy (2 + (i : Nat))), gD, by
        refine Nat.lt_of_le_of_lt (flat_bd (c := 10) fun d hd => ?_) (Nat.lt_of_le_of_lt (m := 10000) (by rw [List.length_map]; omega) (by decide))
        unfold fD topN
        rw [rng_len]
        split <;> omega, fun d hd acc => ?_, ?_⟩
      ·
        obtain ⟨ns, hns, rfl⟩ := List.mem_map.mp hd
        obtain ⟨hnl, hnx⟩ := ho2 ns hns
        have hmx0 : 0 ≤ mx ns ∧ mx ns < 4 := mx_bd (by rw [hnl]; omega) hnx
        refine ⟨_, rfl, ?_⟩
        refine xi_range1 T.b_range ?_
        refine xa_cons ?_
        refine xe_min2 T.b_min ?_
        refine xa_cons ?_
        refine xe_add ?_
        refine xe_maxT T.b_max ?_
        refine xa_cons ?_
        refine xe_name 5 rfl rfl ?_
        refine xa_nil ?_
        refine ⟨ns, rfl, by rw [hnl]; omega, fun mm hmi hmx => ?_⟩
        obtain rfl := mx_is (fun y hy => (hnx y hy).1) hmi hmx
        refine xe_int ?_
        walk_at "t_add"
        refine xa_cons ?_
        refine xe_name 0 rfl rfl ?_
        refine xa_nil ?_
        refine ⟨_, _, rfl, ?_⟩
        refine xa_nil ?_
        walk_at "t_rng"
        refine ⟨by unfold fD; rw [ins_tup]; rfl, ⟨[], (List.append_nil _).symm⟩, fun e he acc' => ?_⟩
        obtain ⟨v, hv, rfl⟩ := rng_mem he
        refine ⟨_, rfl, ?_⟩
        refine xt_ge ?_
        refine xe_max2 T.b_max ?_
        refine xa_cons ?_
        refine xe_name 6 rfl rfl ?_
        refine xa_cons ?_
        refine xe_maxT T.b_max ?_
        refine xa_cons ?_
        refine xe_name 5 rfl rfl ?_
        refine xa_nil ?_
        refine ⟨ns, rfl, by rw [hnl]; omega, fun mm hmi hmx => ?_⟩
        obtain rfl := mx_is (fun y hy => (hnx y hy).1) hmi hmx
        refine xa_nil ?_
        refine ⟨_, _, rfl, ?_⟩
        refine xe_name 4 rfl rfl ?_
        refine w2_ge ?_
        refine ⟨_, rfl, ?_⟩
        refine ⟨by unfold qD; rw [ins_tup]; rfl, ⟨[], (List.append_nil _).symm⟩, fun hqd => ?_⟩
        refine xe_add ?_
        refine xe_name 5 rfl rfl ?_
        refine xe_tup ?_
        refine xa_cons ?_
        refine xe_name 6 rfl rfl ?_
        refine xa_nil ?_
        refine ⟨_, rfl, by walk_at "t_sz", ?_⟩
        walk_at "t_add"
        exact ⟨rfl, [], (List.append_nil _).symm⟩
      walk_at "t_new0"
      rw [pl_flat]
      refine xb_nil ?_
      refine nx_mk (plM r sy (i + 1)) rfl (by walk_at "t_wk") (by rw [oset_nil]; first | rfl | exact app_tail rfl) (by walk_at "t_clg") (by walk_at "t_clo")
    intro s hi
    rw [oset_nil]
    rw [rng_len] at hi
    have hs : s = plM r sy (r * sy - 1).toNat := by rw [show (r * sy - 1).toNat = (r * sy + 1 - 2).toNat by omega]; exact hi
    subst hs
    obtain ⟨ho1, ho2⟩ := pl_ok (k := (r * sy - 1).toNat) hcm (by omega)
    walk_at "t_nf"
    refine xb_cons ?_
    refine xs_ret ?_
    refine xe_lc (own := [("numbers", 5)]) (τ := .one 5) (fun _ => blkOk_by (N := ["rows", "symbols", "found", "many", "least", "numbers", "number"]) (sc := defScope s__plain_of) (by decide +kernel)) (fun _ => by first | exact pg_name (i := 5) sc__plain_of.nd rfl (Or.inl rfl) | exact pg_name (i := 5) sc__plain_of.nd rfl (Or.inr rfl)) ?_
    refine we_map (by decide) rfl ?_
    refine xi_seq ?_
    refine xe_name 2 rfl rfl ?_
    first | refine ⟨_, .inr rfl, ?_⟩ | refine ⟨_, .inl rfl, ?_⟩ | refine ⟨_, tupleOf_seq (by assumption), ?_⟩
    refine ⟨fun d => autD (inRows sy.toNat (insI d)), by rw [List.length_map]; exact Nat.le_trans (m := 10000) (by omega) (by decide), fun d hd acc => ?_, ?_⟩
    ·
      obtain ⟨ns, hns, rfl⟩ := List.mem_map.mp hd
      obtain ⟨hnl, hnx⟩ := ho2 ns hns
      refine ⟨_, rfl, ?_⟩
      refine xe_call (Fn.up G_irows (Nat.le_of_ble_eq_true rfl)) ?_
      refine xa_cons ?_
      refine xe_name 5 rfl rfl ?_
      refine xa_cons ?_
      refine xe_name 1 rfl rfl ?_
      refine xa_nil ?_
      refine ⟨r, sy, ns, rfl, hcm, by rw [hnl]; omega, ?_⟩
      exact ⟨congrArg (fun z => C.d (autD (inRows sy.toNat z))) ins_tup.symm, [], (List.append_nil _).symm⟩
    walk_at "t_new0"
    rw [auts_rows]
    exact back_d hc h

theorem ok_plain_automata (T : Tx K mg) (G_pof : Fn P w K mg base 2 "_plain_of" sp_plain_of) {f : Addr} {fd : FuncData} (F : Fun K "plain_automata" "plain_automata" s_plain_automata f fd) : FnOk P w K mg base (L2.CX P w) 3 f fd ["count", "symbols"] (spOf K sp_plain_aut) := by
  refine fn_ok F sc_plain_automata (fun cs O R RX h => ?_) (fun cdv A outer s0 H E hr cs O R RX hc h => ?_)
  · obtain ⟨c, sy, rfl, hc3, hcm, h⟩ := h
    rfl
  · obtain ⟨c, sy, rfl, hc3, hcm, h⟩ := h
    refine xb_cons ?_
    refine xs_ret ?_
    refine xe_lc2 (own := [("rows", 2), ("automaton", 3)]) (vs1 := [3]) (τ := .one 2) (τ1 := .one 3) (fun _ => blkOk_by (N := ["count", "symbols", "rows", "automaton"]) (sc := defScope s_plain_automata) (by decide +kernel)) (by decide) (fun _ => by first | exact pg_name (i := 2) sc_plain_automata.nd rfl (Or.inl rfl) | exact pg_name (i := 2) sc_plain_automata.nd rfl (Or.inr rfl)) (fun _ => by first | exact pg_name (i := 3) sc_plain_automata.nd rfl (Or.inl rfl) | exact pg_name (i := 3) sc_plain_automata.nd rfl (Or.inr rfl)) ?_
    refine we_map2O (by decide) (by decide) rfl ?_
    refine xi_range2 T.b_range ?_
    refine xa_cons ?_
    refine xe_int ?_
    refine xa_cons ?_
    refine xe_add ?_
    refine xe_name 0 rfl rfl ?_
    refine xe_int ?_
    walk_at "t_add"
    refine xa_nil ?_
    walk_at "t_rng"
    refine ⟨fun d => (plA (valI d) sy).map autD, fun _ e => e, by
      refine Nat.lt_of_le_of_lt (flat_bd (c := 300) fun d hd => ?_) (Nat.lt_of_le_of_lt (m := 10000) (by rw [rng_len]; omega) (by decide))
      obtain ⟨i, hi, rfl⟩ := rng_mem hd
      rw [List.length_map]
      exact (plA_ok (hcm (1 + (i : Nat)) (by omega) (by omega))).1, fun d hd acc => ?_, ?_⟩
    ·
      obtain ⟨i, hi, rfl⟩ := rng_mem hd
      refine ⟨_, rfl, ?_⟩
      refine xi_seq ?_
      refine xe_call (Fn.up G_pof (Nat.le_of_ble_eq_true rfl)) ?_
      refine xa_cons ?_
      refine xe_name 2 rfl rfl ?_
      refine xa_cons ?_
      refine xe_name 1 rfl rfl ?_
      refine xa_nil ?_
      refine ⟨_, sy, rfl, hcm _ (by omega) (by omega), ?_⟩
      first | refine ⟨_, .inr rfl, ?_⟩ | refine ⟨_, .inl rfl, ?_⟩ | refine ⟨_, tupleOf_seq (by assumption), ?_⟩
      refine ⟨rfl, ⟨[], (List.append_nil _).symm⟩, fun e he acc' => ?_⟩
      refine ⟨_, rfl, ?_⟩
      refine xe_name 3 rfl rfl ?_
      walk_at "t_img"
    walk_at "t_new0"
    rw [show ((c : Int) + 1 - 1).toNat = c by omega, allA_flat]
    rw [← List.append_nil (O ++ _)]
    exact back_new hc clOb_data h

theorem ok__law_stream (T : Tx K mg)  {f : Addr} {fd : FuncData} (F : Fun K "_law_stream" "_law_stream" s__law_stream f fd) : FnOk P w K mg base (L2.CX P w) 1 f fd ["script"] (spOf K sp_stream) := by
  refine fn_ok F sc__law_stream (fun cs O R RX h => ?_) (fun cdv A outer s0 H E hr cs O R RX hc h => ?_)
  · obtain ⟨ns, rfl, h63, h⟩ := h
    rfl
  · obtain ⟨ns, rfl, h63, h⟩ := h
    refine xb_cons ?_
    refine xs_set 1 rfl ?_
    refine xe_int ?_
    refine xb_cons ?_
    refine xs_for ?_
    refine xi_seq ?_
    refine xe_name 0 rfl rfl ?_
    first | refine ⟨_, .inr rfl, ?_⟩ | refine ⟨_, .inl rfl, ?_⟩ | refine ⟨_, tupleOf_seq (by assumption), ?_⟩
    refine ⟨fun _ Γ' O' => ∃ m y, Γ' = [some (.d (.list (ns.map PyData.int))), some (.d (.int m)), y] ∧ O' = O ∧ 0 ≤ m ∧ m < 2147483647, ⟨17, none, rfl, rfl, by decide, by decide⟩, ?_, ?_⟩
    ·
      intro i d Γ' O' hd hP
      obtain ⟨m, y, rfl, rfl, h0, h1⟩ := hP
      obtain ⟨z, rfl⟩ := is_int hd
      refine xg_name 2 rfl ?_
      refine xb_cons ?_
      refine xs_set 1 rfl ?_
      refine xe_mod ?_
      refine xe_int_ T.b_int ?_
      refine xa_cons ?_
      refine xe_add ?_
      refine xe_add ?_
      refine xe_mul ?_
      refine xe_name 1 rfl rfl ?_
      refine xe_int ?_
      walk_at "t_mul"
      refine xe_mod ?_
      refine xe_int_ T.b_int ?_
      refine xa_cons ?_
      refine xe_name 2 rfl rfl ?_
      refine xa_nil ?_
      walk_at "t_int"
      refine xe_int ?_
      walk_at "t_mod"
      walk_at "t_add"
      refine xe_int ?_
      walk_at "t_add"
      refine xa_nil ?_
      walk_at "t_int"
      refine xe_int ?_
      walk_at "t_mod"
      refine xb_nil ?_
      exact ⟨_, _, rfl, rfl, by walk_at "t_nn", by walk_at "t_nn"⟩
    ·
      intro Γ' O' hP
      obtain ⟨m, y, rfl, rfl, h0, h1⟩ := hP
      refine xb_cons ?_
      refine xs_ret ?_
      refine xe_lst ?_
      refine xa_cons ?_
      refine xe_list_ T.b_list ?_
      refine xa_cons ?_
      refine xe_name 0 rfl rfl ?_
      refine xa_nil ?_
      walk_at "t_list"
      refine xa_cons ?_
      refine xe_int ?_
      refine xa_cons ?_
      refine xe_int ?_
      refine xa_cons ?_
      refine xe_name 1 rfl rfl ?_
      refine xa_nil ?_
      refine ⟨by walk_at "t_sz", ?_⟩
      rw [← List.append_nil (O' ++ _)]
      exact back_new hc (IsStrm.cl (.mk' h63 (by decide) (by decide) h0 h1)) (h _ (.mk' h63 (by decide) (by decide) h0 h1))

theorem ok__law_draw (T : Tx K mg)  {f : Addr} {fd : FuncData} (F : Fun K "_law_draw" "_law_draw" s__law_draw f fd) : FnOk P w K mg base (L2.CX P w) 1 f fd ["stream", "many"] (spOf K sp_draw) := by
  refine fn_ok F sc__law_draw (fun cs O R RX h => ?_) (fun cdv A outer s0 H E hr cs O R RX hc h => ?_)
  · obtain ⟨k, u, n, rfl, hu, hs, hn, hn2, h⟩ := h
    rfl
  · obtain ⟨k, u, n, rfl, hu, hs, hn, hn2, h⟩ := h
    obtain ⟨ns, q, p, m, rfl, h63, h2, h3, h4, h5⟩ := hs
    have hk := lt_of hu
    refine xb_cons ?_
    refine xs_if ?_
    refine xt_w ?_
    refine xw_andM ?_
    refine xt_eq ?_
    refine xe_ix ?_
    refine xe_name 0 rfl rfl ?_
    refine xe_int ?_
    walk_at "t_ix"
    refine xe_int ?_
    walk_at "t_eq"
    refine ⟨_, rfl, ?_⟩
    apply exMB
    ·
      intro hq1
      refine xw_and1 ?_
      refine xt_lt ?_
      refine xe_ix ?_
      refine xe_name 0 rfl rfl ?_
      refine xe_int ?_
      walk_at "t_ix"
      refine xe_len T.b_len ?_
      refine xa_cons ?_
      refine xe_ix ?_
      refine xe_name 0 rfl rfl ?_
      refine xe_int ?_
      walk_at "t_ix"
      refine xa_nil ?_
      walk_at "t_len"
      refine w2_lt ?_
      refine ⟨_, rfl, ?_⟩
      walk_at "t_sameB"
    refine ⟨fun hif1 => ?_, fun hif1 => ?_⟩
    ·
      have hp : p < (ns.length : Int) := by simp at hif1; omega
      have hq0 : q = 0 := by simp at hif1; omega
      obtain ⟨n0, hn0⟩ := get_int h3 hp
      refine xb_cons ?_
      refine xs_asg ?_
      refine xe_abs T.b_abs ?_
      refine xa_cons ?_
      refine xe_int_ T.b_int ?_
      refine xa_cons ?_
      refine xe_ix ?_
      refine xe_ix ?_
      refine xe_name 0 rfl rfl ?_
      refine xe_int ?_
      walk_at "t_ix"
      refine xe_ix ?_
      refine xe_name 0 rfl rfl ?_
      refine xe_int ?_
      walk_at "t_ix"
      walk_at "t_ix"
      refine xa_nil ?_
      walk_at "t_int"
      refine xa_nil ?_
      walk_at "t_abs"
      refine xg_sub (fun _ => set_list) ?_
      refine xe_name 0 rfl rfl ?_
      refine xe_int ?_
      walk_at "t_set"
      refine xb_cons ?_
      refine xs_asg ?_
      refine xe_add ?_
      refine xe_ix ?_
      refine xe_name 0 rfl rfl ?_
      refine xe_int ?_
      walk_at "t_ix"
      refine xe_int ?_
      walk_at "t_add"
      refine xg_sub (fun _ => set_list) ?_
      refine xe_name 0 rfl rfl ?_
      refine xe_int ?_
      walk_at "t_set"
      refine xb_nil ?_
      refine xb_cons ?_
      refine xs_if ?_
      refine xt_eq ?_
      refine xe_ix ?_
      refine xe_name 0 rfl rfl ?_
      refine xe_int ?_
      walk_at "t_ix"
      refine xe_int ?_
      walk_at "t_eq"
      refine ⟨_, rfl, ?_⟩
      refine ⟨fun hif2 => ?_, fun hif2 => ?_⟩
      ·
        refine xb_cons ?_
        refine xs_asg ?_
        refine xe_mod ?_
        refine xe_int_ T.b_int ?_
        refine xa_cons ?_
        refine xe_add ?_
        refine xe_mul ?_
        refine xe_ix ?_
        refine xe_name 0 rfl rfl ?_
        refine xe_int ?_
        walk_at "t_ix"
        refine xe_int ?_
        walk_at "t_mul"
        refine xe_int ?_
        walk_at "t_add"
        refine xa_nil ?_
        walk_at "t_int"
        refine xe_int ?_
        walk_at "t_mod"
        refine xg_sub (fun _ => set_list) ?_
        refine xe_name 0 rfl rfl ?_
        refine xe_int ?_
        walk_at "t_set"
        refine xb_cons ?_
        refine xs_ret ?_
        refine xe_mod ?_
        refine xe_int_ T.b_int ?_
        refine xa_cons ?_
        refine xe_fdiv ?_
        refine xe_ix ?_
        refine xe_name 0 rfl rfl ?_
        refine xe_int ?_
        walk_at "t_ix"
        refine xe_int ?_
        walk_at "t_fdiv"
        refine xa_nil ?_
        walk_at "t_int"
        refine xe_name 1 rfl rfl ?_
        walk_at "t_mod"
        apply back_draw h hc h63
        · first | rfl | (simp only [List.set_set]; rfl)
        all_goals walk_at "t_nn"
      ·
        refine xb_nil ?_
        refine xb_cons ?_
        refine xs_set 2 rfl ?_
        refine xe_mod ?_
        refine xe_int_ T.b_int ?_
        refine xa_cons ?_
        refine xe_ix ?_
        refine xe_name 0 rfl rfl ?_
        refine xe_int ?_
        walk_at "t_ix"
        refine xa_nil ?_
        walk_at "t_int"
        refine xe_name 1 rfl rfl ?_
        walk_at "t_mod"
        refine xb_cons ?_
        refine xs_asg ?_
        refine xe_fdiv ?_
        refine xe_ix ?_
        refine xe_name 0 rfl rfl ?_
        refine xe_int ?_
        walk_at "t_ix"
        refine xe_name 1 rfl rfl ?_
        walk_at "t_fdiv"
        refine xg_sub (fun _ => set_list) ?_
        refine xe_name 0 rfl rfl ?_
        refine xe_int ?_
        walk_at "t_set"
        refine xb_cons ?_
        refine xs_ret ?_
        refine xe_name 2 rfl rfl ?_
        apply back_draw h hc h63
        · first | rfl | (simp only [List.set_set]; rfl)
        all_goals walk_at "t_nn"
    ·
      refine xb_nil ?_
      refine xb_cons ?_
      refine xs_if ?_
      refine xt_eq ?_
      refine xe_ix ?_
      refine xe_name 0 rfl rfl ?_
      refine xe_int ?_
      walk_at "t_ix"
      refine xe_int ?_
      walk_at "t_eq"
      refine ⟨_, rfl, ?_⟩
      refine ⟨fun hif3 => ?_, fun hif3 => ?_⟩
      ·
        refine xb_cons ?_
        refine xs_asg ?_
        refine xe_mod ?_
        refine xe_int_ T.b_int ?_
        refine xa_cons ?_
        refine xe_add ?_
        refine xe_mul ?_
        refine xe_ix ?_
        refine xe_name 0 rfl rfl ?_
        refine xe_int ?_
        walk_at "t_ix"
        refine xe_int ?_
        walk_at "t_mul"
        refine xe_int ?_
        walk_at "t_add"
        refine xa_nil ?_
        walk_at "t_int"
        refine xe_int ?_
        walk_at "t_mod"
        refine xg_sub (fun _ => set_list) ?_
        refine xe_name 0 rfl rfl ?_
        refine xe_int ?_
        walk_at "t_set"
        refine xb_cons ?_
        refine xs_ret ?_
        refine xe_mod ?_
        refine xe_int_ T.b_int ?_
        refine xa_cons ?_
        refine xe_fdiv ?_
        refine xe_ix ?_
        refine xe_name 0 rfl rfl ?_
        refine xe_int ?_
        walk_at "t_ix"
        refine xe_int ?_
        walk_at "t_fdiv"
        refine xa_nil ?_
        walk_at "t_int"
        refine xe_name 1 rfl rfl ?_
        walk_at "t_mod"
        apply back_draw h hc h63
        · first | rfl | (simp only [List.set_set]; rfl)
        all_goals walk_at "t_nn"
      ·
        refine xb_nil ?_
        refine xb_cons ?_
        refine xs_set 2 rfl ?_
        refine xe_mod ?_
        refine xe_int_ T.b_int ?_
        refine xa_cons ?_
        refine xe_ix ?_
        refine xe_name 0 rfl rfl ?_
        refine xe_int ?_
        walk_at "t_ix"
        refine xa_nil ?_
        walk_at "t_int"
        refine xe_name 1 rfl rfl ?_
        walk_at "t_mod"
        refine xb_cons ?_
        refine xs_asg ?_
        refine xe_fdiv ?_
        refine xe_ix ?_
        refine xe_name 0 rfl rfl ?_
        refine xe_int ?_
        walk_at "t_ix"
        refine xe_name 1 rfl rfl ?_
        walk_at "t_fdiv"
        refine xg_sub (fun _ => set_list) ?_
        refine xe_name 0 rfl rfl ?_
        refine xe_int ?_
        walk_at "t_set"
        refine xb_cons ?_
        refine xs_ret ?_
        refine xe_name 2 rfl rfl ?_
        apply back_draw h hc h63
        · first | rfl | (simp only [List.set_set]; rfl)
        all_goals walk_at "t_nn"

theorem ok__law_gram (T : Tx K mg)  {f : Addr} {fd : FuncData} (F : Fun K "_law_gram" "_law_gram" s__law_gram f fd) : FnOk P w K mg base (L2.CX P w) 1 f fd ["count", "symbols"] (spOf K sp_lgram) := by
  refine fn_ok F sc__law_gram (fun cs O R RX h => ?_) (fun cdv A outer s0 H E hr cs O R RX hc h => ?_)
  · obtain ⟨c, sy, rfl, hc5, hs2, hs4, hr64, h⟩ := h
    rfl
  · obtain ⟨c, sy, rfl, hc5, hs2, hs4, hr64, h⟩ := h
    obtain ⟨hp1, hp2⟩ := pow_bd (c := c) hs2 hs4 hc5
    refine xb_cons ?_
    refine xs_set 2 rfl ?_
    refine xe_int ?_
    refine xb_cons ?_
    refine xs_weak (wk_same (wk_same (wk_same (wk_none (wk_same (wk_same wk_nil)))))) ?_
    refine xs_forS (S := Int) (fun s => [(2, some (.d (.int s))), (3, none)]) (fun s => []) (fun i s => s = powI sy i) ?_
    refine xi_range1 T.b_range ?_
    refine xa_cons ?_
    refine xe_name 0 rfl rfl ?_
    refine xa_nil ?_
    walk_at "t_rng"
    refine ⟨1, (Int.pow_zero sy).symm, rfl, rfl, ?_, ?_⟩
    ·
      intro i d s hd hi
      rw [oset_nil]
      obtain ⟨hil, rfl⟩ := rng_get hd
      have hs : s = powI sy i := hi
      subst hs
      walk_at "t_nf"
      refine xg_name 3 rfl ?_
      refine ⟨by walk_at "t_slen", ?_⟩
      refine xb_cons ?_
      refine xs_set 2 rfl ?_
      refine xe_mul ?_
      refine xe_name 2 rfl rfl ?_
      refine xe_name 1 rfl rfl ?_
      walk_at "t_mul"
      refine xb_nil ?_
      refine nx_mk _ (pow_next (s := sy) (c := i)) (by walk_at "t_wk") (by rw [oset_nil]; exact (List.append_nil _).symm) (by walk_at "t_clg") (by walk_at "t_clo")
    intro s hi
    rw [oset_nil]
    rw [rng_len, Int.toNat_natCast] at hi
    have hs : s = powI sy c := hi
    subst hs
    walk_at "t_nf"
    refine xb_cons ?_
    refine xs_ret ?_
    refine xe_tuple_ T.b_tuple ?_
    refine xa_cons ?_
    refine xe_lc (own := [("q", 5)]) (τ := .one 5) (fun _ => blkOk_by (N := ["count", "symbols", "many", "k", "x", "q"]) (sc := defScope s__law_gram) (by decide +kernel)) (fun _ => by first | exact pg_name (i := 5) sc__law_gram.nd rfl (Or.inl rfl) | exact pg_name (i := 5) sc__law_gram.nd rfl (Or.inr rfl)) ?_
    refine we_map (by decide) rfl ?_
    refine xi_range1 T.b_range ?_
    refine xa_cons ?_
    refine xe_name 2 rfl rfl ?_
    refine xa_nil ?_
    walk_at "t_rng"
    refine ⟨grR sy (powI sy c), by rw [rng_len]; exact Nat.le_trans (m := 10000) (by omega) (by decide), fun d hd acc => ?_, ?_⟩
    ·
      obtain ⟨q, hq, rfl⟩ := rng_mem hd
      refine ⟨_, rfl, ?_⟩
      refine xe_tuple_ T.b_tuple ?_
      refine xa_cons ?_
      refine xe_lc (own := [("x", 4)]) (τ := .one 4) (fun _ => blkOk_by (N := ["count", "symbols", "many", "k", "x", "q"]) (sc := relS _ (defScope s__law_gram)) (by decide +kernel)) (fun _ => by first | exact pg_name (i := 4) sc__law_gram.nd rfl (Or.inl rfl) | exact pg_name (i := 4) sc__law_gram.nd rfl (Or.inr rfl)) ?_
      refine we_map (by decide) rfl ?_
      refine xi_range1 T.b_range ?_
      refine xa_cons ?_
      refine xe_name 1 rfl rfl ?_
      refine xa_nil ?_
      walk_at "t_rng"
      refine ⟨fun x => .int ((valI (.int (0 + (q : Nat))) * sy + valI x) % powI sy c), by rw [rng_len]; exact Nat.le_trans (m := 10000) (by omega) (by decide), fun d hd acc => ?_, ?_⟩
      ·
        obtain ⟨x, hx, rfl⟩ := rng_mem hd
        refine ⟨_, rfl, ?_⟩
        refine xe_mod ?_
        refine xe_int_ T.b_int ?_
        refine xa_cons ?_
        refine xe_add ?_
        refine xe_mul ?_
        refine xe_name 5 rfl rfl ?_
        refine xe_name 1 rfl rfl ?_
        walk_at "t_mul"
        refine xe_name 4 rfl rfl ?_
        walk_at "t_add"
        refine xa_nil ?_
        walk_at "t_int"
        refine xe_name 2 rfl rfl ?_
        walk_at "t_mod"
        walk_at "t_img"
      walk_at "t_new0"
      refine xa_nil ?_
      walk_at "t_tuple"
      walk_at "t_img"
    walk_at "t_new0"
    refine xa_nil ?_
    walk_at "t_tuple"
    exact back_d hc h

theorem ok__law_tables (T : Tx K mg)  {f : Addr} {fd : FuncData} (F : Fun K "_law_tables" "_law_tables" s__law_tables f fd) : FnOk P w K mg base (L2.CX P w) 1 f fd ["rows", "symbols"] (spOf K sp_tables) := by
  refine fn_ok F sc__law_tables (fun cs O R RX h => ?_) (fun cdv A outer s0 H E hr cs O R RX hc h => ?_)
  · obtain ⟨r, sy, rfl, hcm, h⟩ := h
    rfl
  · obtain ⟨r, sy, rfl, hcm, h⟩ := h
    obtain ⟨b1, b2, b3, b4, b5, b6⟩ := hcm.bd
    refine xb_cons ?_
    refine xs_set 2 rfl ?_
    refine xe_lst ?_
    refine xa_cons ?_
    refine xe_tup ?_
    refine xa_nil ?_
    refine ⟨_, rfl, by walk_at "t_sz", ?_⟩
    refine xa_nil ?_
    refine ⟨by walk_at "t_sz", ?_⟩
    walk_at "t_new0"
    refine xb_frz 2 O.length rfl (ds := [tupI []]) (by walk_at "t_o") ?_
    walk_at "t_nfs"
    refine xb_cons ?_
    refine xs_weak (wk_same (wk_same (wk_same (wk_none (wk_none (wk_none (wk_none wk_nil))))))) ?_
    refine xs_forS (S := List (List Int)) (fun s => [(2, some (.d (.list (s.map tupI)))), (3, none), (4, none), (5, none), (6, none)]) (fun s => []) (fun i s => s = tbl r i) ?_
    refine xi_range1 T.b_range ?_
    refine xa_cons ?_
    refine xe_mul ?_
    refine xe_name 0 rfl rfl ?_
    refine xe_name 1 rfl rfl ?_
    walk_at "t_mul"
    refine xa_nil ?_
    walk_at "t_rng"
    refine ⟨[[]], rfl, rfl, rfl, ?_, ?_⟩
    ·
      intro k d s0 hd hi0
      rw [oset_nil]
      obtain ⟨hil, rfl⟩ := rng_get hd
      have hs : s0 = tbl r k := hi0
      subst hs
      have hkr : (k : Int) < r * sy := by omega
      obtain ⟨ho1, ho2⟩ := tb_ok hcm (Int.le_of_lt hkr)
      walk_at "t_nf"
      refine xg_name 3 rfl ?_
      refine ⟨by walk_at "t_slen", ?_⟩
      refine xb_cons ?_
      refine xs_set 4 rfl ?_
      refine xe_lst ?_
      refine xa_nil ?_
      refine ⟨by walk_at "t_sz", ?_⟩
      walk_at "t_new0"
      walk_at "t_nfs"
      refine xb_cons ?_
      refine xs_weak (wk_same (wk_same (wk_same (wk_same (wk_same (wk_none (wk_none wk_nil))))))) ?_
      refine xs_forS (S := List (List Int)) (fun s => [(5, none), (6, none)]) (fun s => [(O.length + 1, .lst ((s.map tupI).map C.d))]) (fun i s => s = ((tbl r k).take i).flatMap (extT r k)) ?_
      refine xi_seq ?_
      refine xe_name 2 rfl rfl ?_
      first | refine ⟨_, .inr rfl, ?_⟩ | refine ⟨_, .inl rfl, ?_⟩ | refine ⟨_, tupleOf_seq (by assumption), ?_⟩
      refine ⟨[], rfl, rfl, by walk_at "t_nfs"; rfl, ?_, ?_⟩
      ·
        intro i d1 s1 hd1 hi1
        walk_at "t_nfs"
        rw [List.getElem?_map] at hd1
        obtain ⟨one, hone, rfl⟩ := Option.map_eq_some_iff.mp hd1
        obtain ⟨hol, hox⟩ := ho2 one (List.mem_of_getElem? hone)
        have hs1l : s1.length ≤ 2400 := by
          rw [hi1]
          refine Nat.le_trans (Nat.le_of_lt_succ (Nat.lt_succ_of_le (flat_bd (c := 3) fun d _ => ?_))) ?_
          · unfold extT
            rw [List.length_map]
            refine Nat.le_trans (List.length_filter_le _ _) ?_
            rw [List.length_range]
            omega
          · have q2 : ((tbl r k).take i).length ≤ (tbl r k).length := by rw [List.length_take]; exact Nat.min_le_right _ _
            omega
        walk_at "t_nf"
        refine xg_name 5 rfl ?_
        refine ⟨by walk_at "t_slen", ?_⟩
        refine xb_cons ?_
        refine xs_weak (wk_same (wk_same (wk_same (wk_same (wk_same (wk_same (wk_none wk_nil))))))) ?_
        refine xs_forS (S := List (List Int)) (fun s => [(6, none)]) (fun s => [(O.length + 1, .lst ((s.map tupI).map C.d))]) (fun v s => s = s1 ++ (((List.range v).filter fun v => decide (k > 0) || decide (v = 0)).map fun v => one ++ [((v : Nat) : Int)])) ?_
        refine xi_range1 T.b_range ?_
        refine xa_cons ?_
        refine xe_name 0 rfl rfl ?_
        refine xa_nil ?_
        walk_at "t_rng"
        refine ⟨s1, by simp, rfl, by walk_at "t_nfs", ?_, ?_⟩
        ·
          intro v dv s2 hdv hi2
          walk_at "t_nfs"
          obtain ⟨hvl, rfl⟩ := rng_get hdv
          rw [Int.zero_add, Int.zero_add]
          have hs2l : s2.length ≤ 2410 := by
            rw [hi2, List.length_append, List.length_map]
            have q1 := List.length_filter_le (fun v => decide (k > 0) || decide (v = 0)) (List.range v)
            rw [List.length_range] at q1
            have q2 : v < r.toNat := hvl
            omega
          walk_at "t_nf"
          refine xg_name 6 rfl ?_
          refine ⟨by walk_at "t_slen", ?_⟩
          refine xb_cons ?_
          refine xs_if ?_
          refine xt_w ?_
          refine xw_orM ?_
          refine xt_gt ?_
          refine xe_name 3 rfl rfl ?_
          refine xe_int ?_
          refine w2_gt ?_
          refine ⟨_, rfl, ?_⟩
          apply exMB
          ·
            intro hq1
            refine xw_or1 ?_
            refine xt_eq ?_
            refine xe_name 6 rfl rfl ?_
            refine xe_int ?_
            walk_at "t_eq"
            refine ⟨_, rfl, ?_⟩
            walk_at "t_sameB"
          refine ⟨fun hif1 => ?_, fun hif1 => ?_⟩
          ·
            refine xb_cons ?_
            refine xs_append (fun _ => rfl) ?_
            refine xe_name 4 rfl rfl ?_
            apply exOwn
            · walk_at "t_o"
            refine xe_add ?_
            refine xe_name 5 rfl rfl ?_
            refine xe_tup ?_
            refine xa_cons ?_
            refine xe_name 6 rfl rfl ?_
            refine xa_nil ?_
            refine ⟨_, rfl, by walk_at "t_sz", ?_⟩
            walk_at "t_add"
            apply exApp
            · walk_at "t_o"
            · walk_at "t_szl"
            walk_at "t_nf"
            refine xb_nil ?_
            refine xb_nil ?_
            first
              | (have hq := posb hif1
                 have hf : List.filter (fun v => decide (k > 0) || decide (v = 0)) [v] = [v] := by simp only [List.filter, hq]
                 exact nx_mk (E2 := []) (s2 ++ [one ++ [((v : Nat) : Int)]]) (by rw [List.range_succ, List.filter_append, List.map_append, ← List.append_assoc, ← hi2, hf]; rfl) (by walk_at "t_wk") (by rw [List.append_nil]; walk_at "t_nfs"; simp only [List.map_append, List.map_cons, List.map_nil, tupI]) (by walk_at "t_clg") (by walk_at "t_cloA"))
              | (have hq := negb hif1
                 have hf : List.filter (fun v => decide (k > 0) || decide (v = 0)) [v] = [] := by simp only [List.filter, hq]
                 exact nx_mk (E2 := []) s2 (by rw [List.range_succ, List.filter_append, List.map_append, ← List.append_assoc, ← hi2, hf]; exact (List.append_nil _).symm) (by walk_at "t_wk") (by rw [List.append_nil]; walk_at "t_nfs") (by walk_at "t_clg") (by walk_at "t_cloA"))
          ·
            refine xb_nil ?_
            refine xb_nil ?_
            first
              | (have hq := posb hif1
                 have hf : List.filter (fun v => decide (k > 0) || decide (v = 0)) [v] = [v] := by simp only [List.filter, hq]
                 exact nx_mk (E2 := []) (s2 ++ [one ++ [((v : Nat) : Int)]]) (by rw [List.range_succ, List.filter_append, List.map_append, ← List.append_assoc, ← hi2, hf]; rfl) (by walk_at "t_wk") (by rw [List.append_nil]; walk_at "t_nfs"; simp only [List.map_append, List.map_cons, List.map_nil, tupI]) (by walk_at "t_clg") (by walk_at "t_cloA"))
              | (have hq := negb hif1
                 have hf : List.filter (fun v => decide (k > 0) || decide (v = 0)) [v] = [] := by simp only [List.filter, hq]
                 exact nx_mk (E2 := []) s2 (by rw [List.range_succ, List.filter_append, List.map_append, ← List.append_assoc, ← hi2, hf]; exact (List.append_nil _).symm) (by walk_at "t_wk") (by rw [List.append_nil]; walk_at "t_nfs") (by walk_at "t_clg") (by walk_at "t_cloA"))
        intro s2 hi2
        walk_at "t_nfs"
        rw [rng_len] at hi2
        have hi2 : s2 = s1 ++ extT r k one := hi2
        walk_at "t_nf"
        refine xb_nil ?_
        exact nx_mk (E2 := []) s2 (by rw [take_succ' hone, List.flatMap_append, ← hi1]; simpa using hi2) (by walk_at "t_wk") (by rw [List.append_nil]; walk_at "t_nfs") (by walk_at "t_clg") (by walk_at "t_cloA")
      intro s1 hi1
      walk_at "t_nfs"
      rw [List.length_map, List.take_length] at hi1
      have hs : s1 = tbl r (k + 1) := hi1
      subst hs
      walk_at "t_nf"
      refine xb_frz 4 (O.length + 1) rfl (ds := (tbl r (k + 1)).map tupI) (by walk_at "t_o") ?_
      walk_at "t_nfs"
      refine xb_cons ?_
      refine xs_set 2 rfl ?_
      refine xe_name 4 rfl rfl ?_
      refine xb_nil ?_
      refine nx_mk (tbl r (k + 1)) rfl (by walk_at "t_wk") (by walk_at "t_nfs"; first | rfl | exact app_tail rfl) (by walk_at "t_clg") (by walk_at "t_clo")
    intro s0 hi0
    rw [oset_nil]
    rw [rng_len] at hi0
    have hs : s0 = tbl r (r * sy).toNat := hi0
    subst hs
    walk_at "t_nf"
    refine xb_cons ?_
    refine xs_ret ?_
    refine xe_name 2 rfl rfl ?_
    exact back_d hc h

theorem ok__law_is_plain (T : Tx K mg)  {f : Addr} {fd : FuncData} (F : Fun K "_law_is_plain" "_law_is_plain" s__law_is_plain f fd) : FnOk P w K mg base (L2.CX P w) 1 f fd ["table", "rows", "symbols"] (spOf K sp_isplain) := by
  refine fn_ok F sc__law_is_plain (fun cs O R RX h => ?_) (fun cdv A outer s0 H E hr cs O R RX hc h => ?_)
  · obtain ⟨ns, r, sy, rfl, hs2, hs4, hl, h⟩ := h
    rfl
  · obtain ⟨ns, r, sy, rfl, hs2, hs4, hl, h⟩ := h
    unfold tupI
    refine xb_cons ?_
    refine xs_set 3 rfl ?_
    refine xe_int ?_
    refine xb_cons ?_
    refine xs_weak (wk_same (wk_same (wk_same (wk_same (wk_none wk_nil))))) ?_
    refine xs_forS (S := Int) (fun s => [(3, some (.d (.int s))), (4, none)]) (fun s => []) (fun i s => isPl r sy ns = isPlGo r sy i s (ns.drop i)) ?_
    refine xi_range1 T.b_range ?_
    refine xa_cons ?_
    refine xe_len T.b_len ?_
    refine xa_cons ?_
    refine xe_name 0 rfl rfl ?_
    refine xa_nil ?_
    walk_at "t_len"
    refine xa_nil ?_
    walk_at "t_rng"
    refine ⟨0, rfl, rfl, rfl, ?_, ?_⟩
    ·
      intro i d s hd hi
      rw [oset_nil]
      obtain ⟨hil, rfl⟩ := rng_get hd
      rw [Int.toNat_natCast, List.length_map] at hil
      rw [Int.zero_add]
      obtain ⟨v, hv⟩ : ∃ v, ns[i]? = some v := ⟨_, List.getElem?_eq_getElem hil⟩
      have hvm : (ns.map PyData.int)[i]? = some (.int v) := by rw [List.getElem?_map, hv]; rfl
      rw [drop_at hv] at hi
      unfold isPlGo at hi
      walk_at "t_nf"
      refine xg_name 4 rfl ?_
      refine ⟨by walk_at "t_slen", ?_⟩
      refine xb_cons ?_
      refine xs_if ?_
      refine xt_gt ?_
      refine xe_ix ?_
      refine xe_name 0 rfl rfl ?_
      refine xe_name 4 rfl rfl ?_
      walk_at "t_ix"
      refine xe_add ?_
      refine xe_name 3 rfl rfl ?_
      refine xe_int ?_
      walk_at "t_add"
      refine w2_gt ?_
      refine ⟨_, rfl, ?_⟩
      refine ⟨fun hif1 => ?_, fun hif1 => ?_⟩
      ·
        refine xb_cons ?_
        refine xs_ret ?_
        refine xe_bl ?_
        exact back_0 hc (by rw [hi, if_pos (of_decide_eq_true hif1)] at h; exact h)
      ·
        refine xb_nil ?_
        refine xb_cons ?_
        refine xs_if ?_
        refine xt_eq ?_
        refine xe_ix ?_
        refine xe_name 0 rfl rfl ?_
        refine xe_name 4 rfl rfl ?_
        walk_at "t_ix"
        refine xe_add ?_
        refine xe_name 3 rfl rfl ?_
        refine xe_int ?_
        walk_at "t_add"
        walk_at "t_eq"
        refine ⟨_, rfl, ?_⟩
        refine ⟨fun hif2 => ?_, fun hif2 => ?_⟩
        ·
          refine xb_cons ?_
          refine xs_if ?_
          refine xt_gt ?_
          refine xe_fdiv ?_
          refine xe_name 4 rfl rfl ?_
          refine xe_name 2 rfl rfl ?_
          walk_at "t_fdiv"
          refine xe_name 3 rfl rfl ?_
          refine w2_gt ?_
          refine ⟨_, rfl, ?_⟩
          refine ⟨fun hif3 => ?_, fun hif3 => ?_⟩
          ·
            refine xb_cons ?_
            refine xs_ret ?_
            refine xe_bl ?_
            exact back_0 hc (by rw [hi, if_neg (of_decide_eq_false hif1), if_pos (of_decide_eq_true hif2), if_pos (of_decide_eq_true hif3)] at h; exact h)
          ·
            refine xb_nil ?_
            refine xb_cons ?_
            refine xs_set 3 rfl ?_
            refine xe_add ?_
            refine xe_name 3 rfl rfl ?_
            refine xe_int ?_
            walk_at "t_add"
            refine xb_nil ?_
            refine xb_nil ?_
            first
              | exact nx_mk (E2 := []) (s + 1) (by rw [hi, if_neg (of_decide_eq_false hif1), if_pos (of_decide_eq_true hif2), if_neg (of_decide_eq_false hif3)]) (by walk_at "t_wk") (by rw [List.append_nil, oset_nil]) (by walk_at "t_clg") (by walk_at "t_clo")
              | exact nx_mk (E2 := []) s (by rw [hi, if_neg (of_decide_eq_false hif1), if_neg (of_decide_eq_false hif2)]) (by walk_at "t_wk") (by rw [List.append_nil, oset_nil]) (by walk_at "t_clg") (by walk_at "t_clo")
        ·
          refine xb_nil ?_
          refine xb_nil ?_
          first
            | exact nx_mk (E2 := []) (s + 1) (by rw [hi, if_neg (of_decide_eq_false hif1), if_pos (of_decide_eq_true hif2), if_neg (of_decide_eq_false hif3)]) (by walk_at "t_wk") (by rw [List.append_nil, oset_nil]) (by walk_at "t_clg") (by walk_at "t_clo")
            | exact nx_mk (E2 := []) s (by rw [hi, if_neg (of_decide_eq_false hif1), if_neg (of_decide_eq_false hif2)]) (by walk_at "t_wk") (by rw [List.append_nil, oset_nil]) (by walk_at "t_clg") (by walk_at "t_clo")
    intro s hi
    rw [oset_nil]
    rw [rng_len, Int.toNat_natCast, List.length_map, List.drop_length] at hi
    unfold isPlGo at hi
    walk_at "t_nf"
    refine xb_cons ?_
    refine xs_ret ?_
    refine xe_eq ?_
    refine xe_name 3 rfl rfl ?_
    refine xe_sub ?_
    refine xe_name 1 rfl rfl ?_
    refine xe_int ?_
    walk_at "t_sub"
    walk_at "t_eq"
    exact back_0 hc (by rw [hi] at h; exact h)

theorem ok_law (T : Tx K mg) (G_draw : Fn P w K mg base 1 "_law_draw" sp_draw) (G_stream : Fn P w K mg base 1 "_law_stream" sp_stream) (G_gram : Fn P w K mg base 1 "gram" sp_gram) (G_lgram : Fn P w K mg base 1 "_law_gram" sp_lgram) (G_tables : Fn P w K mg base 1 "_law_tables" sp_tables) (G_isplain : Fn P w K mg base 1 "_law_is_plain" sp_isplain) (G_paut : Fn P w K mg base 3 "plain_automata" sp_plain_aut) {f : Addr} {fd : FuncData} (F : Fun K "law" "law" s_law f fd) : FnG P w K mg base 5 f fd ["script"] (spOf K spLaw) := by
  refine fn_okG F sc_law (fun cs O R RX h => ?_) (fun cdv A outer s0 H E hr cs O R RX hgd hc h => ?_)
  · obtain ⟨ns, rfl, h63, h⟩ := h
    rfl
  · obtain ⟨ns, rfl, h63, h⟩ := h
    refine xb_cons ?_
    refine xs_set 1 rfl ?_
    refine xe_call (Fn.up G_stream (Nat.le_of_ble_eq_true rfl)) ?_
    refine xa_cons ?_
    refine xe_name 0 rfl rfl ?_
    refine xa_nil ?_
    apply strm_use h63
    intro u0 hu0
    refine xb_cons ?_
    refine xs_set 2 rfl ?_
    refine xe_call (Fn.up G_draw (Nat.le_of_ble_eq_true rfl)) ?_
    refine xa_cons ?_
    refine xe_name 1 rfl rfl ?_
    refine xa_cons ?_
    refine xe_int ?_
    refine xa_nil ?_
    apply draw_use
    · walk_at "t_o"
    · assumption
    · walk_at "t_pos"
    · walk_at "t_pos"
    intro v1 u1 hv1 hw1 hu1
    walk_at "t_nfs"
    refine xb_cons ?_
    refine xs_set 3 rfl ?_
    refine xe_add ?_
    refine xe_int ?_
    refine xe_call (Fn.up G_draw (Nat.le_of_ble_eq_true rfl)) ?_
    refine xa_cons ?_
    refine xe_name 1 rfl rfl ?_
    refine xa_cons ?_
    refine xe_int ?_
    refine xa_nil ?_
    apply draw_use
    · walk_at "t_o"
    · assumption
    · walk_at "t_pos"
    · walk_at "t_pos"
    intro v2 u2 hv2 hw2 hu2
    walk_at "t_nfs"
    walk_at "t_add"
    obtain ⟨c, hcN⟩ : ∃ n : Nat, v1 = (n : Int) := ⟨v1.toNat, by omega⟩
    obtain ⟨sy, hsy⟩ : ∃ s : Int, 2 + v2 = s := ⟨_, rfl⟩
    rw [hcN, hsy]
    obtain ⟨hp1, hp2⟩ := pow_bd (s := sy) (c := c) (by omega) (by omega) (by omega)
    refine xb_cons ?_
    refine xs_set 4 rfl ?_
    refine xe_call (Fn.up G_gram (Nat.le_of_ble_eq_true rfl)) ?_
    refine xa_cons ?_
    refine xe_name 2 rfl rfl ?_
    refine xa_cons ?_
    refine xe_name 3 rfl rfl ?_
    refine xa_nil ?_
    refine ⟨c, sy, rfl, by omega, by omega, by omega, ?_⟩
    refine xb_cons ?_
    refine xs_set 5 rfl ?_
    refine xe_int ?_
    refine xb_cons ?_
    refine xs_weak (wk_same (wk_same (wk_same (wk_same (wk_same (wk_same (wk_none (wk_same (wk_same (wk_same (wk_same (wk_same (wk_same wk_nil))))))))))))) ?_
    refine xs_forS (S := Int) (fun s => [(5, some (.d (.int s))), (6, none)]) (fun s => []) (fun i s => s = powI sy i) ?_
    refine xi_range1 T.b_range ?_
    refine xa_cons ?_
    refine xe_name 2 rfl rfl ?_
    refine xa_nil ?_
    walk_at "t_rng"
    refine ⟨1, (Int.pow_zero sy).symm, rfl, rfl, ?_, ?_⟩
    ·
      intro i d s hd hi
      rw [oset_nil]
      obtain ⟨hil, rfl⟩ := rng_get hd
      have hs : s = powI sy i := hi
      subst hs
      walk_at "t_nf"
      refine xg_name 6 rfl ?_
      refine ⟨by walk_at "t_slen", ?_⟩
      refine xb_cons ?_
      refine xs_set 5 rfl ?_
      refine xe_mul ?_
      refine xe_name 5 rfl rfl ?_
      refine xe_name 3 rfl rfl ?_
      walk_at "t_mul"
      refine xb_nil ?_
      refine nx_mk _ (pow_next (s := sy) (c := i)) (by walk_at "t_wk") (by rw [oset_nil]; exact (List.append_nil _).symm) (by walk_at "t_clg") (by walk_at "t_clo")
    intro s hi
    rw [oset_nil]
    rw [rng_len, Int.toNat_natCast] at hi
    have hs : s = powI sy c := hi
    subst hs
    walk_at "t_nf"
    refine xb_cons ?_
    refine xs_midS (S := Unit) (fun s => []) (fun s => []) (fun s => True) ?_ ?_
    ·
      refine xs_if ?_
      refine xt_gt ?_
      refine xe_name 5 rfl rfl ?_
      refine xe_int ?_
      refine w2_gt ?_
      refine ⟨_, rfl, ?_⟩
      refine ⟨fun hif1 => ?_, fun hif1 => ?_⟩
      ·
        rw [show grO sy c = .none from if_pos (of_decide_eq_true hif1)]
        refine xb_cons ?_
        refine xs_if ?_
        refine xt_isnt ?_
        refine xe_name 4 rfl rfl ?_
        refine xe_non ?_
        walk_at "t_is"
        refine ⟨_, rfl, ?_⟩
        refine ⟨fun hif2 => ?_, fun hif2 => ?_⟩
        ·
          refine xb_cons ?_
          refine xs_ret ?_
          refine xe_bl ?_
          exact absurd hif2 (by first | decide | simp [isLst])
        ·
          refine xb_nil ?_
          refine xb_nil ?_
          exact nx_mk (E2 := []) () trivial (by walk_at "t_wk") (by rw [List.append_nil, oset_nil]) (by walk_at "t_clg") (by walk_at "t_clo")
      ·
        have hr64 : powI sy c ≤ 64 := by have := of_decide_eq_false hif1; omega
        rw [show grO sy c = grD sy (powI sy c) from if_neg (by omega)]
        have hrg : Rp 2 1000 (grD sy (powI sy c)) := rp_gr (by omega) (by omega) hp1 hr64
        refine xb_cons ?_
        refine xs_if ?_
        refine xt_w ?_
        refine xw_orM ?_
        refine xt_ne ?_
        refine xe_reprR (fun _ => hgd) T.b_repr ?_
        refine xa_cons ?_
        refine xe_name 4 rfl rfl ?_
        refine xa_nil ?_
        refine ⟨_, _, rfl, by walk_at "t_vw", by walk_at "t_dsp", by walk_at "t_rp", ?_⟩
        refine xe_reprR (fun _ => hgd) T.b_repr ?_
        refine xa_cons ?_
        refine xe_call (Fn.up G_lgram (Nat.le_of_ble_eq_true rfl)) ?_
        refine xa_cons ?_
        refine xe_name 2 rfl rfl ?_
        refine xa_cons ?_
        refine xe_name 3 rfl rfl ?_
        refine xa_nil ?_
        refine ⟨c, sy, rfl, by omega, by omega, by omega, hr64, ?_⟩
        refine xa_nil ?_
        refine ⟨_, _, rfl, by walk_at "t_vw", by walk_at "t_dsp", by walk_at "t_rp", ?_⟩
        walk_at "t_ne"
        refine ⟨_, rfl, ?_⟩
        apply exMB
        ·
          intro hq1
          refine xw_or1 ?_
          refine xt_ne ?_
          refine xe_glob T.c_MOST_GRAM ?_
          refine xe_int ?_
          walk_at "t_ne"
          refine ⟨_, rfl, ?_⟩
          walk_at "t_sameB"
        refine ⟨fun hif3 => ?_, fun hif3 => ?_⟩
        ·
          refine xb_cons ?_
          refine xs_ret ?_
          refine xe_bl ?_
          exact absurd hif3 (by simp)
        ·
          refine xb_nil ?_
          refine xb_nil ?_
          exact nx_mk (E2 := []) () trivial (by walk_at "t_wk") (by rw [List.append_nil, oset_nil]) (by walk_at "t_clg") (by walk_at "t_clo")
    intro sU hU
    rw [oset_nil]
    walk_at "t_nf"
    refine xb_cons ?_
    refine xs_set 7 rfl ?_
    refine xe_add ?_
    refine xe_int ?_
    refine xe_call (Fn.up G_draw (Nat.le_of_ble_eq_true rfl)) ?_
    refine xa_cons ?_
    refine xe_name 1 rfl rfl ?_
    refine xa_cons ?_
    refine xe_add ?_
    refine xe_int ?_
    refine xe_int_ T.b_int ?_
    refine xa_cons ?_
    refine xe_eq ?_
    refine xe_name 3 rfl rfl ?_
    refine xe_int ?_
    walk_at "t_eq"
    refine xa_nil ?_
    walk_at "t_int"
    walk_at "t_add"
    refine xa_nil ?_
    apply draw_use
    · walk_at "t_o"
    · assumption
    · walk_at "t_pos"
    · walk_at "t_pos"
    intro v3 u3 hv3 hw3 hu3
    walk_at "t_nfs"
    walk_at "t_add"
    obtain ⟨rN, hrN⟩ : ∃ n : Nat, 1 + v3 = (n : Int) := ⟨(1 + v3).toNat, by omega⟩
    rw [hrN]
    have hcr : ∀ r : Int, 1 ≤ r → r ≤ rN → Cmb r sy := fun r h1 h2 => cmb_of h1 (by omega) (by omega) (by split at hw3 <;> simp_all <;> omega)
    obtain ⟨ha1, ha2⟩ := allA_ok (s := sy) (c := rN) hcr
    refine xb_cons ?_
    refine xs_set 8 rfl ?_
    refine xe_lst ?_
    refine xa_nil ?_
    refine ⟨by walk_at "t_sz", ?_⟩
    walk_at "t_new0"
    walk_at "t_nfs"
    refine xb_cons ?_
    refine xs_weak (wk_same (wk_same (wk_same (wk_same (wk_same (wk_same (wk_same (wk_same (wk_same (wk_none (wk_none (wk_same (wk_same wk_nil))))))))))))) ?_
    refine xs_forS (S := List (List (List Int))) (fun s => [(9, none), (10, none)]) (fun s => [(O.length + 1, .lst ((s.map autD).map C.d))]) (fun i s => s = allA sy i) ?_
    refine xi_range2 T.b_range ?_
    refine xa_cons ?_
    refine xe_int ?_
    refine xa_cons ?_
    refine xe_add ?_
    refine xe_name 7 rfl rfl ?_
    refine xe_int ?_
    walk_at "t_add"
    refine xa_nil ?_
    walk_at "t_rng"
    refine ⟨[], rfl, rfl, by walk_at "t_nfs"; rfl, ?_, ?_⟩
    ·
      intro i d s hd hi
      walk_at "t_nfs"
      obtain ⟨hil, rfl⟩ := rng_get hd
      obtain ⟨ho1, ho2⟩ := tb_ok (k := ((1 + (i : Nat)) * sy).toNat) (hcr (1 + (i : Nat)) (by omega) (by omega)) (by obtain ⟨_, _, _, _, c5, c6⟩ := (hcr (1 + (i : Nat)) (by omega) (by omega)).bd; omega)
      have hi1 : s = allA sy i := hi
      obtain ⟨ha3, _⟩ := allA_ok (s := sy) (c := i) fun r h1 h2 => hcr r h1 (by omega)
      obtain ⟨_, _, _, _, c5, c6⟩ := (hcr (1 + (i : Nat)) (by omega) (by omega)).bd
      walk_at "t_nf"
      refine xg_name 9 rfl ?_
      refine ⟨by walk_at "t_slen", ?_⟩
      refine xb_cons ?_
      refine xs_weak (wk_same (wk_same (wk_same (wk_same (wk_same (wk_same (wk_same (wk_same (wk_same (wk_same (wk_none (wk_same (wk_same wk_nil))))))))))))) ?_
      refine xs_forS (S := List (List (List Int))) (fun s => [(10, none)]) (fun s => [(O.length + 1, .lst ((s.map autD).map C.d))]) (fun j s2 => s2 = s ++ ((((tbl (1 + (i : Nat)) ((1 + (i : Nat)) * sy).toNat).take j).filter (isPl (1 + (i : Nat)) sy)).map (rowsQ (1 + (i : Nat)) sy))) ?_
      refine xi_seq ?_
      refine xe_call (Fn.up G_tables (Nat.le_of_ble_eq_true rfl)) ?_
      refine xa_cons ?_
      refine xe_name 9 rfl rfl ?_
      refine xa_cons ?_
      refine xe_name 3 rfl rfl ?_
      refine xa_nil ?_
      refine ⟨1 + (i : Nat), sy, rfl, hcr _ (by omega) (by omega), ?_⟩
      first | refine ⟨_, .inr rfl, ?_⟩ | refine ⟨_, .inl rfl, ?_⟩ | refine ⟨_, tupleOf_seq (by assumption), ?_⟩
      refine ⟨s, by simp, rfl, by walk_at "t_nfs", ?_, ?_⟩
      ·
        intro j dj s2 hdj hj
        walk_at "t_nfs"
        rw [List.getElem?_map] at hdj
        obtain ⟨ns, hns, rfl⟩ := Option.map_eq_some_iff.mp hdj
        obtain ⟨hnl, hnx⟩ := ho2 ns (List.mem_of_getElem? hns)
        have hs2l : s2.length ≤ 3000 := by
          rw [hj, List.length_append, List.length_map]
          have q1 := List.length_filter_le (isPl (1 + (i : Nat)) sy) ((tbl (1 + (i : Nat)) ((1 + (i : Nat)) * sy).toNat).take j)
          have q2 : ((tbl (1 + (i : Nat)) ((1 + (i : Nat)) * sy).toNat).take j).length ≤ (tbl (1 + (i : Nat)) ((1 + (i : Nat)) * sy).toNat).length := by rw [List.length_take]; exact Nat.min_le_right _ _
          rw [hi1]
          omega
        walk_at "t_nf"
        refine xg_name 10 rfl ?_
        refine ⟨by walk_at "t_slen", ?_⟩
        refine xb_cons ?_
        refine xs_if ?_
        refine xt_e ?_
        refine xe_call (Fn.up G_isplain (Nat.le_of_ble_eq_true rfl)) ?_
        refine xa_cons ?_
        refine xe_name 10 rfl rfl ?_
        refine xa_cons ?_
        refine xe_name 9 rfl rfl ?_
        refine xa_cons ?_
        refine xe_name 3 rfl rfl ?_
        refine xa_nil ?_
        refine ⟨ns, _, sy, rfl, by omega, by omega, by omega, ?_⟩
        refine ⟨_, rfl, ?_⟩
        refine ⟨fun hif4 => ?_, fun hif4 => ?_⟩
        ·
          refine xb_cons ?_
          refine xs_append (fun _ => rfl) ?_
          refine xe_name 8 rfl rfl ?_
          apply exOwn
          · walk_at "t_o"
          refine xe_tuple_ T.b_tuple ?_
          refine xa_cons ?_
          refine xe_lc (own := [("q", 11)]) (τ := .one 11) (fun _ => blkOk_by (N := ["script", "stream", "count", "symbols", "actual", "size", "k", "rows", "due", "many", "table", "q", "found"]) (sc := defScope s_law) (by decide +kernel)) (fun _ => by first | exact pg_name (i := 11) sc_law.nd rfl (Or.inl rfl) | exact pg_name (i := 11) sc_law.nd rfl (Or.inr rfl)) ?_
          refine we_map (by decide) rfl ?_
          refine xi_range1 T.b_range ?_
          refine xa_cons ?_
          refine xe_name 9 rfl rfl ?_
          refine xa_nil ?_
          walk_at "t_rng"
          refine ⟨cutG ns sy, by rw [rng_len]; exact Nat.le_trans (m := 10000) (by omega) (by decide), fun d hd acc => ?_, ?_⟩
          ·
            obtain ⟨q, hq, rfl⟩ := rng_mem hd
            have hm0 : 0 ≤ (0 + (q : Int)) * sy := Int.mul_nonneg (by omega) (by omega)
            refine ⟨_, rfl, ?_⟩
            refine xe_sliceLU ?_
            refine xe_name 10 rfl rfl ?_
            refine xe_mul ?_
            refine xe_name 11 rfl rfl ?_
            refine xe_name 3 rfl rfl ?_
            walk_at "t_mul"
            refine ⟨_, rfl, ?_⟩
            refine xe_add ?_
            refine xe_mul ?_
            refine xe_name 11 rfl rfl ?_
            refine xe_name 3 rfl rfl ?_
            walk_at "t_mul"
            refine xe_name 3 rfl rfl ?_
            walk_at "t_add"
            refine ⟨_, rfl, ?_⟩
            walk_at "t_slice2"
            walk_at "t_img"
          walk_at "t_new0"
          rw [cut_rows2 (by omega)]
          refine xa_nil ?_
          walk_at "t_tuple"
          apply exApp
          · walk_at "t_o"
          · walk_at "t_szl"
          walk_at "t_nf"
          refine xb_nil ?_
          refine xb_nil ?_
          first
            | (have hq : isPl (1 + (i : Nat)) sy ns = true := hif4
               exact nx_mk (E2 := [.gone]) (s2 ++ [rowsQ (1 + (i : Nat)) sy ns]) (by rw [take_succ' hns, List.filter_append, List.map_append, ← List.append_assoc, ← hj, List.filter_cons_of_pos hq]; rfl) (by walk_at "t_wk") (by walk_at "t_nfs"; rw [List.map_append, List.map_append]; rfl) (by walk_at "t_clg") (by walk_at "t_cloA"))
            | (have hq : isPl (1 + (i : Nat)) sy ns = false := hif4
               exact nx_mk (E2 := []) s2 (by rw [take_succ' hns, List.filter_append, List.map_append, ← List.append_assoc, ← hj, List.filter_cons_of_neg (by rw [hq]; decide)]; simp) (by walk_at "t_wk") (by rw [List.append_nil]; walk_at "t_nfs") (by walk_at "t_clg") (by walk_at "t_cloA"))
        ·
          refine xb_nil ?_
          refine xb_nil ?_
          first
            | (have hq : isPl (1 + (i : Nat)) sy ns = true := hif4
               exact nx_mk (E2 := [.gone]) (s2 ++ [rowsQ (1 + (i : Nat)) sy ns]) (by rw [take_succ' hns, List.filter_append, List.map_append, ← List.append_assoc, ← hj, List.filter_cons_of_pos hq]; rfl) (by walk_at "t_wk") (by walk_at "t_nfs"; rw [List.map_append, List.map_append]; rfl) (by walk_at "t_clg") (by walk_at "t_cloA"))
            | (have hq : isPl (1 + (i : Nat)) sy ns = false := hif4
               exact nx_mk (E2 := []) s2 (by rw [take_succ' hns, List.filter_append, List.map_append, ← List.append_assoc, ← hj, List.filter_cons_of_neg (by rw [hq]; decide)]; simp) (by walk_at "t_wk") (by rw [List.append_nil]; walk_at "t_nfs") (by walk_at "t_clg") (by walk_at "t_cloA"))
      intro s1 hj1
      walk_at "t_nfs"
      rw [List.length_map, List.take_length] at hj1
      walk_at "t_nf"
      refine xb_nil ?_
      exact nx_mk (E2 := []) s1 (by rw [allA_succ, pl_same (hcr _ (by omega) (by omega)), ← hi1]; exact hj1) (by walk_at "t_wk") (by rw [List.append_nil]; walk_at "t_nfs") (by walk_at "t_clg") (by walk_at "t_cloA")
    intro s hi
    walk_at "t_nfs"
    rw [rng_len, show ((rN : Int) + 1 - 1).toNat = rN by omega] at hi
    have hs : s = allA sy rN := hi
    subst hs
    walk_at "t_nf"
    refine xb_cons ?_
    refine xs_set 12 rfl ?_
    refine xe_call (Fn.up G_paut (Nat.le_of_ble_eq_true rfl)) ?_
    refine xa_cons ?_
    refine xe_name 7 rfl rfl ?_
    refine xa_cons ?_
    refine xe_name 3 rfl rfl ?_
    refine xa_nil ?_
    refine ⟨rN, sy, rfl, by omega, hcr, ?_⟩
    walk_at "t_nfs"
    have hra : Rp 3 100000 (.list ((allA sy rN).map autD)) := rp_auts (by omega) ha2
    refine xb_cons ?_
    refine xs_if ?_
    refine xt_w ?_
    refine xw_orM ?_
    refine xt_not ?_
    refine xt_e ?_
    refine xe_isiV (Ty := "list") T.b_isinstance T.b_list (by decide +kernel) ?_
    refine xe_name 12 rfl rfl ?_
    refine ⟨_, _, by walk_at "t_vw", isi_list, ?_⟩
    refine ⟨_, rfl, ?_⟩
    apply exMB
    ·
      intro hq2
      refine xw_or1 ?_
      refine xt_ne ?_
      refine xe_reprR (fun _ => hgd) T.b_repr ?_
      refine xa_cons ?_
      refine xe_name 12 rfl rfl ?_
      refine xa_nil ?_
      refine ⟨_, _, rfl, by walk_at "t_vw", by walk_at "t_dsp", by walk_at "t_rp", ?_⟩
      refine xe_reprR (fun _ => hgd) T.b_repr ?_
      refine xa_cons ?_
      refine xe_name 8 rfl rfl ?_
      refine xa_nil ?_
      refine ⟨_, _, rfl, by walk_at "t_vw", by walk_at "t_dsp", by walk_at "t_rp", ?_⟩
      walk_at "t_ne"
      refine ⟨_, rfl, ?_⟩
      walk_at "t_sameB"
    refine ⟨fun hif5 => ?_, fun hif5 => ?_⟩
    ·
      refine xb_cons ?_
      refine xs_ret ?_
      refine xe_bl ?_
      exact absurd hif5 (by simp [isLst])
    ·
      refine xb_nil ?_
      refine xb_cons ?_
      refine xs_append (fun _ => rfl) ?_
      refine xe_name 12 rfl rfl ?_
      apply exOwn
      · walk_at "t_o"
      refine xe_tup ?_
      refine xa_nil ?_
      refine ⟨_, rfl, by walk_at "t_sz", ?_⟩
      apply exApp
      · walk_at "t_o"
      · walk_at "t_szl"
      walk_at "t_nf"
      walk_at "t_nfs"
      refine xb_cons ?_
      refine xs_ret ?_
      refine xe_eq ?_
      refine xe_call (Fn.up G_paut (Nat.le_of_ble_eq_true rfl)) ?_
      refine xa_cons ?_
      refine xe_name 7 rfl rfl ?_
      refine xa_cons ?_
      refine xe_name 3 rfl rfl ?_
      refine xa_nil ?_
      refine ⟨rN, sy, rfl, by omega, hcr, ?_⟩
      walk_at "t_nfs"
      refine xe_name 8 rfl rfl ?_
      walk_at "t_eq"
      rw [sh_auts.refl]
      exact back_law5 hc h rfl

end

theorem all_mk {l : PySem.W.OpenLaw} {w : World} {K : PySem.W.Frag} {h : Heap} {mg : Str → Option Value} {fa : Addr} {u_MOST_ROWS u_MOST_GRAM : Value} (X : K.In h) (G : h.Ns mainGlobals mg) (hfa : mg "law" = some (.ref fa))
    (d_gram : DefAt K "gram" s_gram)
    (d__in_rows : DefAt K "_in_rows" s__in_rows)
    (d__plain_of : DefAt K "_plain_of" s__plain_of)
    (d_plain_automata : DefAt K "plain_automata" s_plain_automata)
    (d__law_stream : DefAt K "_law_stream" s__law_stream)
    (d__law_draw : DefAt K "_law_draw" s__law_draw)
    (d__law_gram : DefAt K "_law_gram" s__law_gram)
    (d__law_tables : DefAt K "_law_tables" s__law_tables)
    (d__law_is_plain : DefAt K "_law_is_plain" s__law_is_plain)
    (d_law : DefAt K "law" s_law)
    (z_len : PySem.W.nsIn K mainGlobals "len" = some none)
    (z_abs : PySem.W.nsIn K mainGlobals "abs" = some none)
    (z_int : PySem.W.nsIn K mainGlobals "int" = some none)
    (z_tuple : PySem.W.nsIn K mainGlobals "tuple" = some none)
    (z_list : PySem.W.nsIn K mainGlobals "list" = some none)
    (z_all : PySem.W.nsIn K mainGlobals "all" = some none)
    (z_range : PySem.W.nsIn K mainGlobals "range" = some none)
    (z_isinstance : PySem.W.nsIn K mainGlobals "isinstance" = some none)
    (z_bool : PySem.W.nsIn K mainGlobals "bool" = some none)
    (z_min : PySem.W.nsIn K mainGlobals "min" = some none)
    (z_max : PySem.W.nsIn K mainGlobals "max" = some none)
    (z_repr : PySem.W.nsIn K mainGlobals "repr" = some none)
    (c_MOST_ROWS : PySem.W.nsIn K mainGlobals "MOST_ROWS" = some (some u_MOST_ROWS))
    (r_MOST_ROWS : RelV (.int (64)) u_MOST_ROWS)
    (c_MOST_GRAM : PySem.W.nsIn K mainGlobals "MOST_GRAM" = some (some u_MOST_GRAM))
    (r_MOST_GRAM : RelV (.int (5)) u_MOST_GRAM) :
    ∃ fd : FuncData, (∀ (s : Shared) (v : Value), BindsTo s fd ⟨[v], []⟩ [("script", v)]) ∧ ∀ base : Heap, K.In base → base.Ns mainGlobals mg → FnG l.prog w K mg base 5 fa fd ["script"] (spOf K spLaw) := by
  have M : ∀ x u, PySem.W.nsIn K mainGlobals x = some (some u) → mg x = some u := fun x u q => PySem.W.mg_of X G q
  have T : Tx K mg := ⟨PySem.W.mg_none_of X G z_len, PySem.W.mg_none_of X G z_abs, PySem.W.mg_none_of X G z_int, PySem.W.mg_none_of X G z_tuple, PySem.W.mg_none_of X G z_list, PySem.W.mg_none_of X G z_all, PySem.W.mg_none_of X G z_range, PySem.W.mg_none_of X G z_isinstance, PySem.W.mg_none_of X G z_bool, PySem.W.mg_none_of X G z_min, PySem.W.mg_none_of X G z_max, PySem.W.mg_none_of X G z_repr, ⟨_, _, M _ _ c_MOST_ROWS, r_MOST_ROWS, fun _ => .int _⟩, ⟨_, _, M _ _ c_MOST_GRAM, r_MOST_GRAM, fun _ => .int _⟩⟩
  obtain ⟨f, oc, od, an, sl, kV, dc, pm, cd, ct, a, l', c, kp⟩ := d_law
  have e := hfa.symm.trans (M _ _ a)
  cases e
  have F := fun_mk (st := s_law) l' c kp
  refine ⟨PySem.W.fnOf "law" "law" (defArgs s_law) (defBody s_law) (defScope s_law) .none kV dc pm an cd ct, fun s v => .of_eq rfl, fun base _ _ => ?_⟩
  have G_gram : Fn l.prog w K mg base 1 "gram" sp_gram := fn_at d_gram (M _) (fun _ _ _ _ _ _ us hl => match us, hl with | [_, _], _ => rfl) fun f fd F => ok_gram T  F
  have G_irows : Fn l.prog w K mg base 1 "_in_rows" sp_in_rows := fn_at d__in_rows (M _) (fun _ _ _ _ _ _ us hl => match us, hl with | [_, _], _ => rfl) fun f fd F => ok__in_rows T  F
  have G_pof : Fn l.prog w K mg base 2 "_plain_of" sp_plain_of := fn_at d__plain_of (M _) (fun _ _ _ _ _ _ us hl => match us, hl with | [_, _], _ => rfl) fun f fd F => ok__plain_of T G_irows F
  have G_paut : Fn l.prog w K mg base 3 "plain_automata" sp_plain_aut := fn_at d_plain_automata (M _) (fun _ _ _ _ _ _ us hl => match us, hl with | [_, _], _ => rfl) fun f fd F => ok_plain_automata T G_pof F
  have G_stream : Fn l.prog w K mg base 1 "_law_stream" sp_stream := fn_at d__law_stream (M _) (fun _ _ _ _ _ _ us hl => match us, hl with | [_], _ => rfl) fun f fd F => ok__law_stream T  F
  have G_draw : Fn l.prog w K mg base 1 "_law_draw" sp_draw := fn_at d__law_draw (M _) (fun _ _ _ _ _ _ us hl => match us, hl with | [_, _], _ => rfl) fun f fd F => ok__law_draw T  F
  have G_lgram : Fn l.prog w K mg base 1 "_law_gram" sp_lgram := fn_at d__law_gram (M _) (fun _ _ _ _ _ _ us hl => match us, hl with | [_, _], _ => rfl) fun f fd F => ok__law_gram T  F
  have G_tables : Fn l.prog w K mg base 1 "_law_tables" sp_tables := fn_at d__law_tables (M _) (fun _ _ _ _ _ _ us hl => match us, hl with | [_, _], _ => rfl) fun f fd F => ok__law_tables T  F
  have G_isplain : Fn l.prog w K mg base 1 "_law_is_plain" sp_isplain := fn_at d__law_is_plain (M _) (fun _ _ _ _ _ _ us hl => match us, hl with | [_, _, _], _ => rfl) fun f fd F => ok__law_is_plain T  F
  exact ok_law T G_draw G_stream G_gram G_lgram G_tables G_isplain G_paut F
end K
open PySem PySem.W PyProof.Rows
set_option maxRecDepth 100000 in
set_option maxHeartbeats 0 in
theorem PySem.Challenge.cw_tacet_k43_grams_and_plain_automata_holds : PySem.Challenge.rw_tacet_k43_grams_and_plain_automata.Holds := by
  w_on; o_law; k_head; (case hw => w_witness2)
  k_fill
  refine T.walkTG (l := PySem.Challenge.rw_tacet_k43_grams_and_plain_automata) (k := 5) rfl rfl ⟨rfl, by decide, by decide⟩ (fun w h Y => PySem.W.kIn_of Y) ?F
  case F =>
    intro w mg fa h KX G hmg
    refine' K.all_mk KX G hmg ?d_gram ?d__in_rows ?d__plain_of ?d_plain_automata ?d__law_stream ?d__law_draw ?d__law_gram ?d__law_tables ?d__law_is_plain ?d_law ?z_len ?z_abs ?z_int ?z_tuple ?z_list ?z_all ?z_range ?z_isinstance ?z_bool ?z_min ?z_max ?z_repr ?c_MOST_ROWS ?r_MOST_ROWS ?c_MOST_GRAM ?r_MOST_GRAM
    (case d_gram => refine' T.defAt_mk ?a ?l ?c ?k; (case a => k_is); (case l => k_is); (case c => k_is); (case k => k_is))
    (case d__in_rows => refine' T.defAt_mk ?a ?l ?c ?k; (case a => k_is); (case l => k_is); (case c => k_is); (case k => k_is))
    (case d__plain_of => refine' T.defAt_mk ?a ?l ?c ?k; (case a => k_is); (case l => k_is); (case c => k_is); (case k => k_is))
    (case d_plain_automata => refine' T.defAt_mk ?a ?l ?c ?k; (case a => k_is); (case l => k_is); (case c => k_is); (case k => k_is))
    (case d__law_stream => refine' T.defAt_mk ?a ?l ?c ?k; (case a => k_is); (case l => k_is); (case c => k_is); (case k => k_is))
    (case d__law_draw => refine' T.defAt_mk ?a ?l ?c ?k; (case a => k_is); (case l => k_is); (case c => k_is); (case k => k_is))
    (case d__law_gram => refine' T.defAt_mk ?a ?l ?c ?k; (case a => k_is); (case l => k_is); (case c => k_is); (case k => k_is))
    (case d__law_tables => refine' T.defAt_mk ?a ?l ?c ?k; (case a => k_is); (case l => k_is); (case c => k_is); (case k => k_is))
    (case d__law_is_plain => refine' T.defAt_mk ?a ?l ?c ?k; (case a => k_is); (case l => k_is); (case c => k_is); (case k => k_is))
    (case d_law => refine' T.defAt_mk ?a ?l ?c ?k; (case a => k_is); (case l => k_is); (case c => k_is); (case k => k_is))
    (case z_len => k_is)
    (case z_abs => k_is)
    (case z_int => k_is)
    (case z_tuple => k_is)
    (case z_list => k_is)
    (case z_all => k_is)
    (case z_range => k_is)
    (case z_isinstance => k_is)
    (case z_bool => k_is)
    (case z_min => k_is)
    (case z_max => k_is)
    (case z_repr => k_is)
    (case c_MOST_ROWS => k_is)
    (case r_MOST_ROWS => exact ⟨_, rfl⟩)
    (case c_MOST_GRAM => k_is)
    (case r_MOST_GRAM => exact ⟨_, rfl⟩)

