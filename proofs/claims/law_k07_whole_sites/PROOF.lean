import PyProof.Rows.All
import PySem.Challenge.RW_duewalk_k07_whole_sites
import HandS.ForMost
import HandS.ForExc
import HandS.Evl
import HandS.IsInst
import HandS.DictComp
import HandS.Wide
import HandS.Walk
import HandS.Zip
import HandS.Conv
import HandS.Flow
import HandS.CallSlots
import HandS.TupAny
import KE.SortData
import KE.KCallOwn
import OpenK.KDescr
import HandS.ClsMeth
import HandS.ExcInit
import HandS.ExcField
import HandS.ExcOwn
import HandS.Style
import PyProof.ListStr
import HandS.WordsExc
import HandS.Small
import HandS.SetTxt0
import HandS.SetFor
import HandS.Strs
import HandS.More
import PyProof.Rows.SortStr
import KE.DatumIndex
import PyProof.StrLawsRepr
import PyProof.InstNe
import HandS.OwnEq
import KE.GoesEnum
import HandS.ExcIs
set_option Elab.async false
set_option linter.all false
set_option maxRecDepth 100000
set_option autoImplicit false
set_option maxHeartbeats 2000000
namespace Z
open PySem PySem.Spec PyProof.Rows L2 Evl

inductive D where
  | non | bl (b : Bool) | int (i : Int) | str (s : Str)
  | tup (ds : List D) | lst (ds : List D) | dic (ks : List Str) (ds : List D) | obj (C : Addr) (ks : List Str) (ds : List D) | scr (ns : List Int)

def kvZ (ks : List Str) (vs : List V) : List (Key × V) := (ks.map (Sum.inr : Str → Key)).zip vs

mutual
def Dn (K : PySem.W.Frag) (F : Hp) : D → V → Prop
  | .non, v => v = .non
  | .bl b, v => v = .bl b
  | .int i, v => v = .int i
  | .str s, v => v = .str s
  | .tup ds, v => ∃ a xs, v = .ref a ∧ SqT K F a xs ∧ DnL K F ds xs
  | .lst ds, v => ∃ a xs, v = .ref a ∧ F a = some (.lst xs) ∧ DnL K F ds xs
  | .dic ks ds, v => ∃ a xs, v = .ref a ∧ F a = some (.dK (kvZ ks xs)) ∧ ks.length = ds.length ∧ DnL K F ds xs
  | .obj C ks ds, v => ∃ a dx xs, v = .ref a ∧ F a = some (.ins C dx (ks.zip xs)) ∧ F dx = some (.own a) ∧ ks.length = ds.length ∧ DnL K F ds xs
  | .scr ns, v => ∃ a, v = .ref a ∧ SqL K F a (ns.map V.int)
def DnL (K : PySem.W.Frag) (F : Hp) : List D → List V → Prop
  | [], vs => vs = []
  | d :: ds, vs => ∃ v r, vs = v :: r ∧ Dn K F d v ∧ DnL K F ds r
end

variable {K : PySem.W.Frag}

mutual
theorem Dn.mono {F F' : Hp} (e : Ex F F') : ∀ {d : D} {v : V}, Dn K F d v → Dn K F' d v
  | .non, _, h => h
  | .bl _, _, h => h
  | .int _, _, h => h
  | .str _, _, h => h
  | .tup _, _, h => by
    unfold Dn at h ⊢
    obtain ⟨a, xs, e1, h1, h2⟩ := h
    exact ⟨a, xs, e1, ex_t e h1, DnL.mono e h2⟩
  | .lst _, _, h => by
    unfold Dn at h ⊢
    obtain ⟨a, xs, e1, h1, h2⟩ := h
    exact ⟨a, xs, e1, e _ _ h1, DnL.mono e h2⟩
  | .dic _ _, _, h => by
    unfold Dn at h ⊢
    obtain ⟨a, xs, e1, h1, h2, h3⟩ := h
    exact ⟨a, xs, e1, e _ _ h1, h2, DnL.mono e h3⟩
  | .obj _ _ _, _, h => by
    unfold Dn at h ⊢
    obtain ⟨a, dx, xs, e1, h1, h2, h3, h4⟩ := h
    exact ⟨a, dx, xs, e1, e _ _ h1, e _ _ h2, h3, DnL.mono e h4⟩
  | .scr _, _, h => by
    unfold Dn at h ⊢
    obtain ⟨a, e1, h1⟩ := h
    exact ⟨a, e1, ex_l e h1⟩
theorem DnL.mono {F F' : Hp} (e : Ex F F') : ∀ {ds : List D} {vs : List V}, DnL K F ds vs → DnL K F' ds vs
  | [], _, h => h
  | _ :: _, _, h => by
    unfold DnL at h ⊢
    obtain ⟨v, r, e1, h1, h2⟩ := h
    exact ⟨v, r, e1, Dn.mono e h1, DnL.mono e h2⟩
end

section
variable {F F' F2 H H' H2 H0 F0 : Hp} {d : D} {ds : List D} {v : V} {vs : List V}
theorem dn_non : Dn K F .non v ↔ v = .non := by unfold Dn; exact Iff.rfl
theorem dn_bl {b : Bool} : Dn K F (.bl b) v ↔ v = .bl b := by unfold Dn; exact Iff.rfl
theorem dn_int {i : Int} : Dn K F (.int i) v ↔ v = .int i := by unfold Dn; exact Iff.rfl
theorem dn_str {s : Str} : Dn K F (.str s) v ↔ v = .str s := by unfold Dn; exact Iff.rfl
theorem dn_tup : Dn K F (.tup ds) v ↔ ∃ a xs, v = .ref a ∧ SqT K F a xs ∧ DnL K F ds xs := by unfold Dn; exact Iff.rfl
theorem dn_lst : Dn K F (.lst ds) v ↔ ∃ a xs, v = .ref a ∧ F a = some (.lst xs) ∧ DnL K F ds xs := by unfold Dn; exact Iff.rfl
theorem dn_dic {ks : List Str} : Dn K F (.dic ks ds) v ↔ ∃ a xs, v = .ref a ∧ F a = some (.dK (kvZ ks xs)) ∧ ks.length = ds.length ∧ DnL K F ds xs := by unfold Dn; exact Iff.rfl
theorem dn_obj {C : Addr} {ks : List Str} : Dn K F (.obj C ks ds) v ↔ ∃ a dx xs, v = .ref a ∧ F a = some (.ins C dx (ks.zip xs)) ∧ F dx = some (.own a) ∧ ks.length = ds.length ∧ DnL K F ds xs := by unfold Dn; exact Iff.rfl
theorem dn_scr {ns : List Int} : Dn K F (.scr ns) v ↔ ∃ a, v = .ref a ∧ SqL K F a (ns.map V.int) := by unfold Dn; exact Iff.rfl
theorem dnl_nil : DnL K F [] vs ↔ vs = [] := by unfold DnL; exact Iff.rfl
theorem dnl_cons : DnL K F (d :: ds) vs ↔ ∃ v r, vs = v :: r ∧ Dn K F d v ∧ DnL K F ds r := by rw [DnL]
theorem DnL.cons (h : Dn K F d v) (t : DnL K F ds vs) : DnL K F (d :: ds) (v :: vs) := dnl_cons.mpr ⟨v, vs, rfl, h, t⟩
theorem DnL.nil : DnL K F [] [] := dnl_nil.mpr rfl
theorem DnL.length : ∀ {ds : List D} {vs : List V}, DnL K F ds vs → ds.length = vs.length
  | [], _, h => by rw [dnl_nil.mp h] <;> rfl
  | _ :: _, _, h => by
    obtain ⟨v, r, e, _, t⟩ := dnl_cons.mp h
    rw [e, List.length_cons, List.length_cons, t.length]
theorem DnL.get : ∀ {ds : List D} {vs : List V} {i : Nat} {d : D}, DnL K F ds vs → ds[i]? = some d → ∃ v, vs[i]? = some v ∧ Dn K F d v
  | [], _, _, _, _, h => by simp at h
  | _ :: _, _, 0, d, t, h => by
    obtain ⟨v, r, e, h1, _⟩ := dnl_cons.mp t
    simp at h
    subst h
    exact ⟨v, by rw [e] <;> rfl, h1⟩
  | _ :: ds, _, i + 1, d, t, h => by
    obtain ⟨v, r, e, _, t'⟩ := dnl_cons.mp t
    obtain ⟨u, h1, h2⟩ := DnL.get (i := i) t' (by simpa using h)
    exact ⟨u, by rw [e]; simpa using h1, h2⟩
theorem DnL.get' : ∀ {ds : List D} {vs : List V} {i : Nat} {v : V}, DnL K F ds vs → vs[i]? = some v → ∃ d, ds[i]? = some d ∧ Dn K F d v := by
  intro ds vs i v t h
  have hl := t.length
  have hi : i < vs.length := (List.getElem?_eq_some_iff.mp h).1
  obtain ⟨u, h1, h2⟩ := t.get (i := i) (d := ds[i]'(by omega)) (List.getElem?_eq_getElem _)
  rw [h] at h1
  cases h1
  exact ⟨_, List.getElem?_eq_getElem _, h2⟩
theorem DnL.append : ∀ {ds es : List D} {vs us : List V}, DnL K F ds vs → DnL K F es us → DnL K F (ds ++ es) (vs ++ us)
  | [], _, _, _, h, t => by rw [dnl_nil.mp h]; exact t
  | _ :: _, _, _, _, h, t => by
    obtain ⟨v, r, e, h1, h2⟩ := dnl_cons.mp h
    rw [e]
    exact .cons h1 (h2.append t)
theorem DnL.snoc (h : DnL K F ds vs) (t : Dn K F d v) : DnL K F (ds ++ [d]) (vs ++ [v]) := h.append (.cons t .nil)
theorem DnL.set : ∀ {ds : List D} {vs : List V} {i : Nat}, DnL K F ds vs → Dn K F d v → DnL K F (ds.set i d) (vs.set i v)
  | [], _, _, h, _ => by rw [dnl_nil.mp h]; exact .nil
  | _ :: _, _, 0, h, t => by
    obtain ⟨u, r, e, _, h2⟩ := dnl_cons.mp h
    rw [e]
    exact .cons t h2
  | _ :: _, _, i + 1, h, t => by
    obtain ⟨u, r, e, h1, h2⟩ := dnl_cons.mp h
    rw [e]
    exact .cons h1 (h2.set t)
theorem DnL.take : ∀ {ds : List D} {vs : List V} (i : Nat), DnL K F ds vs → DnL K F (ds.take i) (vs.take i)
  | [], _, _, h => by rw [dnl_nil.mp h, List.take_nil, List.take_nil]; exact .nil
  | _ :: _, _, 0, h => .nil
  | _ :: _, _, i + 1, h => by
    obtain ⟨u, r, e, h1, h2⟩ := dnl_cons.mp h
    rw [e]
    exact .cons h1 (h2.take i)
theorem DnL.drop : ∀ {ds : List D} {vs : List V} (i : Nat), DnL K F ds vs → DnL K F (ds.drop i) (vs.drop i)
  | [], _, _, h => by rw [dnl_nil.mp h, List.drop_nil, List.drop_nil]; exact .nil
  | _ :: _, _, 0, h => h
  | _ :: _, _, i + 1, h => by
    obtain ⟨u, r, e, h1, h2⟩ := dnl_cons.mp h
    rw [e]
    exact h2.drop i
theorem DnL.reverse : ∀ {ds : List D} {vs : List V}, DnL K F ds vs → DnL K F ds.reverse vs.reverse
  | [], _, h => by rw [dnl_nil.mp h]; exact .nil
  | _ :: _, _, h => by
    obtain ⟨u, r, e, h1, h2⟩ := dnl_cons.mp h
    rw [e, List.reverse_cons, List.reverse_cons]
    exact h2.reverse.snoc h1
theorem DnL.strs : ∀ {zs : List Str}, DnL K F (zs.map D.str) (zs.map V.str)
  | [] => .nil
  | _ :: _ => .cons (dn_str.mpr rfl) DnL.strs
theorem DnL.strs' : ∀ {zs : List Str} {vs : List V}, DnL K F (zs.map D.str) vs → vs = zs.map V.str
  | [], _, h => dnl_nil.mp h
  | z :: zs, _, h => by
    obtain ⟨u, r, e, h1, h2⟩ := dnl_cons.mp h
    rw [e, dn_str.mp h1, DnL.strs' h2] <;> rfl
theorem DnL.ints : ∀ {zs : List Int}, DnL K F (zs.map D.int) (zs.map V.int)
  | [] => .nil
  | _ :: _ => .cons (dn_int.mpr rfl) DnL.ints
theorem DnL.ints' : ∀ {zs : List Int} {vs : List V}, DnL K F (zs.map D.int) vs → vs = zs.map V.int
  | [], _, h => dnl_nil.mp h
  | z :: zs, _, h => by
    obtain ⟨u, r, e, h1, h2⟩ := dnl_cons.mp h
    rw [e, dn_int.mp h1, DnL.ints' h2] <;> rfl
theorem DnL.bls : ∀ {zs : List Bool}, DnL K F (zs.map D.bl) (zs.map V.bl)
  | [] => .nil
  | _ :: _ => .cons (dn_bl.mpr rfl) DnL.bls
theorem DnL.bls' : ∀ {zs : List Bool} {vs : List V}, DnL K F (zs.map D.bl) vs → vs = zs.map V.bl
  | [], _, h => dnl_nil.mp h
  | z :: zs, _, h => by
    obtain ⟨u, r, e, h1, h2⟩ := dnl_cons.mp h
    rw [e, dn_bl.mp h1, DnL.bls' h2] <;> rfl

structure Grow (F H F' H' : Hp) : Prop where
  ff : Ex F F'
  hh : Ex H H'
  fh : Ex F' H'
  nw : ∀ a, H a ≠ none → F a = none → F' a = none
theorem Grow.refl (e : Ex F H) : Grow F H F H := ⟨Ex.refl F, Ex.refl H, e, fun _ _ h => h⟩
theorem Grow.trans (a : Grow F H F' H') (b : Grow F' H' F2 H2) : Grow F H F2 H2 :=
  ⟨a.ff.trans b.ff, a.hh.trans b.hh, b.fh, fun x h1 h2 => b.nw x (fun z => by
    cases q : H x with
    | none => exact h1 q
    | some o => rw [a.hh x o q] at z; cases z) (a.nw x h1 h2)⟩
theorem fresh_F (e : Ex F H) {p : Addr} (h : H p = none) : F p = none := fresh_back e h
theorem ex_upd {p : Addr} {o : HO} (e : Ex F H) (h : H p = none) : Ex (upd F p o) (upd H p o) := fun a u ha => by
  unfold upd at ha ⊢
  split at ha
  · rename_i c
    rw [if_pos c]
    exact ha
  · rename_i c
    rw [if_neg c]
    exact e a u ha
theorem Grow.new {p : Addr} {o : HO} (e : Ex F H) (h : H p = none) : Grow F H (upd F p o) (upd H p o) :=
  ⟨Ex.new (fresh_F e h), Ex.new h, ex_upd e h, fun a h1 h2 => by
    have : a ≠ p := fun z => h1 (z ▸ h)
    rw [upd_ne this]; exact h2⟩
theorem Grow.newM {p : Addr} {o : HO} (e : Ex F H) (h : H p = none) : Grow F H F (upd H p o) :=
  ⟨Ex.refl F, Ex.new h, e.trans (Ex.new h), fun a _ h2 => h2⟩
end

inductive Slot where
  | un
  | dt (d : D)
  | ol (p : Addr) (ds : List D)
  | od (p : Addr) (ks : List Str) (ds : List D)
def Slot.ad : Slot → Option Addr
  | .ol p _ => some p
  | .od p _ _ => some p
  | _ => none
abbrev Rho := List Slot
def SlotOk (K : PySem.W.Frag) (H0 F H : Hp) : Slot → Option V → Prop
  | .un, _ => True
  | .dt d, x => ∃ v, x = some v ∧ Dn K F d v
  | .ol p ds, x => x = some (.ref p) ∧ H0 p = none ∧ F p = none ∧ ∃ vs, H p = some (.lst vs) ∧ DnL K F ds vs
  | .od p ks ds, x => x = some (.ref p) ∧ H0 p = none ∧ F p = none ∧ ∃ vs, H p = some (.dK (kvZ ks vs)) ∧ ks.length = ds.length ∧ DnL K F ds vs
structure Sd (K : PySem.W.Frag) (F0 H0 : Hp) (ρ : Rho) (σ : L2.St) (F H : Hp) : Prop where
  g : Grow F0 H0 F H
  len : σ.length = ρ.length
  sl : ∀ (i : Nat) (s : Slot), ρ[i]? = some s → SlotOk K H0 F H s (σ[i]?).join
  dj : ∀ (i j : Nat) (s t : Slot) (p : Addr), ρ[i]? = some s → ρ[j]? = some t → s.ad = some p → t.ad = some p → i = j

section
variable {F F' F2 H H' H2 H0 F0 : Hp} {ρ ρ' : Rho} {σ σ' : L2.St} {d : D} {ds : List D} {v : V} {vs : List V} {i : Nat} {s : Slot} {p : Addr}
theorem join_some {α : Type} {o : Option (Option α)} {x : α} (h : o.join = some x) : o = some (some x) := by
  cases o with
  | none => cases h
  | some y => exact congrArg some h
theorem SlotOk.grow {x : Option V} (h : SlotOk K H0 F H s x) (g : Grow F H F' H') : SlotOk K H0 F' H' s x := by
  cases s with
  | un => trivial
  | dt d => obtain ⟨v, e, q⟩ := h; exact ⟨v, e, q.mono g.ff⟩
  | ol p ds => obtain ⟨e, a, b, vs, c, q⟩ := h; exact ⟨e, a, g.nw p (by rw [c]; simp) b, vs, g.hh _ _ c, q.mono g.ff⟩
  | od p ks ds => obtain ⟨e, a, b, vs, c, l, q⟩ := h; exact ⟨e, a, g.nw p (by rw [c]; simp) b, vs, g.hh _ _ c, l, q.mono g.ff⟩
theorem Sd.grow (S : Sd K F0 H0 ρ σ F H) (g : Grow F H F' H') : Sd K F0 H0 ρ σ F' H' :=
  ⟨S.g.trans g, S.len, fun i s h => (S.sl i s h).grow g, S.dj⟩
theorem Sd.fh (S : Sd K F0 H0 ρ σ F H) : Ex F H := S.g.fh
theorem Sd.data (S : Sd K F0 H0 ρ σ F H) (h : ρ[i]? = some (.dt d)) : ∃ v, σ[i]? = some (some v) ∧ Dn K F d v := by
  obtain ⟨v, e, q⟩ := S.sl i _ h
  exact ⟨v, join_some e, q⟩
theorem Sd.own (S : Sd K F0 H0 ρ σ F H) (h : ρ[i]? = some (.ol p ds)) : σ[i]? = some (some (.ref p)) ∧ H0 p = none ∧ F p = none ∧ ∃ vs, H p = some (.lst vs) ∧ DnL K F ds vs := by
  obtain ⟨e, r⟩ := S.sl i _ h
  exact ⟨join_some e, r⟩
theorem Sd.ownD {ks : List Str} (S : Sd K F0 H0 ρ σ F H) (h : ρ[i]? = some (.od p ks ds)) : σ[i]? = some (some (.ref p)) ∧ H0 p = none ∧ F p = none ∧ ∃ vs, H p = some (.dK (kvZ ks vs)) ∧ ks.length = ds.length ∧ DnL K F ds vs := by
  obtain ⟨e, r⟩ := S.sl i _ h
  exact ⟨join_some e, r⟩
theorem set_join (hi : i < σ.length) {x : Option V} : ((σ.set i x)[i]?).join = x := by
  rw [List.getElem?_set_self hi]
  cases x <;> rfl
theorem get_set_ne {α : Type} {l : List α} {i j : Nat} {x : α} (h : i ≠ j) : (l.set i x)[j]? = l[j]? := List.getElem?_set_ne h
theorem Sd.put (S : Sd K F0 H0 ρ σ F H) (hs : i < ρ.length → SlotOk K H0 F H s (some v)) (hd : ∀ q, s.ad = some q → ∀ j t, j ≠ i → ρ[j]? = some t → t.ad ≠ some q) : Sd K F0 H0 (ρ.set i s) (σ.set i (some v)) F H := by
  refine ⟨S.g, by rw [List.length_set, List.length_set, S.len], fun j t h => ?_, fun j k t u q h1 h2 h3 h4 => ?_⟩
  · by_cases e : i = j
    · subst e
      have hl : i < ρ.length := by
        have := (List.getElem?_eq_some_iff.mp h).1
        rwa [List.length_set] at this
      rw [List.getElem?_set_self hl] at h
      cases h
      rw [set_join (by rw [S.len]; exact hl)]
      exact hs hl
    · rw [get_set_ne e] at h
      rw [get_set_ne e]
      exact S.sl j t h
  · by_cases e1 : i = j
    · by_cases e2 : i = k
      · rw [← e1, ← e2]
      · subst e1
        have hl : i < ρ.length := by
          have := (List.getElem?_eq_some_iff.mp h1).1
          rwa [List.length_set] at this
        rw [List.getElem?_set_self hl] at h1
        cases h1
        rw [get_set_ne e2] at h2
        exact absurd h4 (hd q h3 k u (Ne.symm e2) h2)
    · by_cases e2 : i = k
      · subst e2
        have hl : i < ρ.length := by
          have := (List.getElem?_eq_some_iff.mp h2).1
          rwa [List.length_set] at this
        rw [List.getElem?_set_self hl] at h2
        cases h2
        rw [get_set_ne e1] at h1
        exact absurd h3 (hd q h4 j t (Ne.symm e1) h1)
      · rw [get_set_ne e1] at h1
        rw [get_set_ne e2] at h2
        exact S.dj j k t u q h1 h2 h3 h4
theorem Sd.putD (S : Sd K F0 H0 ρ σ F H) (h : Dn K F d v) : Sd K F0 H0 (ρ.set i (.dt d)) (σ.set i (some v)) F H :=
  S.put (fun _ => ⟨v, rfl, h⟩) fun q e => by cases e
theorem Sd.chg (S : Sd K F0 H0 ρ σ F H) (h : ρ[i]? = some (.ol p ds)) {es : List D} {us : List V} (q : DnL K F es us) : Sd K F0 H0 (ρ.set i (.ol p es)) σ F (upd H p (.lst us)) := by
  obtain ⟨e1, e2, e3, _⟩ := S.own h
  have hl : i < ρ.length := (List.getElem?_eq_some_iff.mp h).1
  refine ⟨⟨S.g.ff, S.g.hh.mut e2, S.g.fh.mut e3, S.g.nw⟩, by rw [List.length_set, S.len], fun j t hj => ?_, fun j k t u r h1 h2 h3 h4 => ?_⟩
  · by_cases e : i = j
    · subst e
      rw [List.getElem?_set_self hl] at hj
      cases hj
      exact ⟨by rw [e1] <;> rfl, e2, e3, us, upd_same, q⟩
    · rw [get_set_ne e] at hj
      have z := S.sl j t hj
      have nad : ∀ r, t.ad = some r → r ≠ p := fun r hr c => e (S.dj i j _ t p h hj rfl (by rw [hr, c]))
      cases t with
      | un => trivial
      | dt d => exact z
      | ol r rs => obtain ⟨a, b, c, ws, x, y⟩ := z; exact ⟨a, b, c, ws, by rw [upd_ne (nad r rfl)]; exact x, y⟩
      | od r kk rs => obtain ⟨a, b, c, ws, x, y⟩ := z; exact ⟨a, b, c, ws, by rw [upd_ne (nad r rfl)]; exact x, y⟩
  · have back : ∀ (j : Nat) (t : Slot), (ρ.set i (.ol p es))[j]? = some t → ∃ t', ρ[j]? = some t' ∧ t'.ad = t.ad := fun j t hj => by
      by_cases e : i = j
      · subst e
        rw [List.getElem?_set_self hl] at hj
        cases hj
        exact ⟨_, h, rfl⟩
      · rw [get_set_ne e] at hj
        exact ⟨t, hj, rfl⟩
    obtain ⟨t', a1, a2⟩ := back j t h1
    obtain ⟨u', b1, b2⟩ := back k u h2
    exact S.dj j k t' u' r a1 b1 (a2.trans h3) (b2.trans h4)
theorem Sd.chgD {ks js : List Str} (S : Sd K F0 H0 ρ σ F H) (h : ρ[i]? = some (.od p ks ds)) {es : List D} {us : List V} (hl2 : js.length = es.length) (q : DnL K F es us) : Sd K F0 H0 (ρ.set i (.od p js es)) σ F (upd H p (.dK (kvZ js us))) := by
  obtain ⟨e1, e2, e3, _⟩ := S.ownD h
  have hl : i < ρ.length := (List.getElem?_eq_some_iff.mp h).1
  refine ⟨⟨S.g.ff, S.g.hh.mut e2, S.g.fh.mut e3, S.g.nw⟩, by rw [List.length_set, S.len], fun j t hj => ?_, fun j k t u r h1 h2 h3 h4 => ?_⟩
  · by_cases e : i = j
    · subst e
      rw [List.getElem?_set_self hl] at hj
      cases hj
      exact ⟨by rw [e1] <;> rfl, e2, e3, us, upd_same, hl2, q⟩
    · rw [get_set_ne e] at hj
      have z := S.sl j t hj
      have nad : ∀ r, t.ad = some r → r ≠ p := fun r hr c => e (S.dj i j _ t p h hj rfl (by rw [hr, c]))
      cases t with
      | un => trivial
      | dt d => exact z
      | ol r rs => obtain ⟨a, b, c, ws, x, y⟩ := z; exact ⟨a, b, c, ws, by rw [upd_ne (nad r rfl)]; exact x, y⟩
      | od r kk rs => obtain ⟨a, b, c, ws, x, y⟩ := z; exact ⟨a, b, c, ws, by rw [upd_ne (nad r rfl)]; exact x, y⟩
  · have back : ∀ (j : Nat) (t : Slot), (ρ.set i (.od p js es))[j]? = some t → ∃ t', ρ[j]? = some t' ∧ t'.ad = t.ad := fun j t hj => by
      by_cases e : i = j
      · subst e
        rw [List.getElem?_set_self hl] at hj
        cases hj
        exact ⟨_, h, rfl⟩
      · rw [get_set_ne e] at hj
        exact ⟨t, hj, rfl⟩
    obtain ⟨t', a1, a2⟩ := back j t h1
    obtain ⟨u', b1, b2⟩ := back k u h2
    exact S.dj j k t' u' r a1 b1 (a2.trans h3) (b2.trans h4)
theorem Sd.frz (S : Sd K F0 H0 ρ σ F H) (h : ρ[i]? = some (.ol p ds)) : ∃ F', Ex F F' ∧ Sd K F0 H0 (ρ.set i (.dt (.lst ds))) σ F' H ∧ Dn K F' (.lst ds) (.ref p) := by
  obtain ⟨e1, e2, e3, vs, e4, q⟩ := S.own h
  have hl : i < ρ.length := (List.getElem?_eq_some_iff.mp h).1
  have x : Ex F (upd F p (.lst vs)) := Ex.new e3
  have dn : Dn K (upd F p (.lst vs)) (.lst ds) (.ref p) := dn_lst.mpr ⟨p, vs, rfl, upd_same, q.mono x⟩
  refine ⟨upd F p (.lst vs), x, ⟨⟨S.g.ff.trans x, S.g.hh, fun a o ha => ?_, fun a h1 h2 => ?_⟩, by rw [List.length_set, S.len], fun j t hj => ?_, fun j k t u r h1 h2 h3 h4 => ?_⟩, dn⟩
  · unfold upd at ha
    split at ha
    · rename_i c
      rw [c, e4]
      exact ha
    · exact S.g.fh a o ha
  · have : a ≠ p := fun z => h1 (z ▸ e2)
    rw [upd_ne this]
    exact S.g.nw a h1 h2
  · by_cases e : i = j
    · subst e
      rw [List.getElem?_set_self hl] at hj
      cases hj
      exact ⟨.ref p, by rw [e1] <;> rfl, dn⟩
    · rw [get_set_ne e] at hj
      have z := S.sl j t hj
      have nad : ∀ r, t.ad = some r → r ≠ p := fun r hr c => e (S.dj i j _ t p h hj rfl (by rw [hr, c]))
      cases t with
      | un => trivial
      | dt d => obtain ⟨v, a, b⟩ := z; exact ⟨v, a, b.mono x⟩
      | ol r rs => obtain ⟨a, b, c, ws, y1, y2⟩ := z; exact ⟨a, b, by rw [upd_ne (nad r rfl)]; exact c, ws, y1, y2.mono x⟩
      | od r kk rs => obtain ⟨a, b, c, ws, y1, y2, y3⟩ := z; exact ⟨a, b, by rw [upd_ne (nad r rfl)]; exact c, ws, y1, y2, y3.mono x⟩
  · have back : ∀ (j : Nat) (t : Slot), (ρ.set i (.dt (.lst ds)))[j]? = some t → t.ad = some r → ρ[j]? = some t := fun j t hj ha => by
      by_cases e : i = j
      · subst e
        rw [List.getElem?_set_self hl] at hj
        cases hj
        cases ha
      · rw [get_set_ne e] at hj
        exact hj
    exact S.dj j k t u r (back j t h1 h3) (back k u h2 h4) h3 h4
end
end Z

namespace Z
open PySem PySem.Spec PyProof.Rows L2 Evl
variable {K : PySem.W.Frag}

open Classical in
noncomputable def delS (ρ : Rho) (H : Hp) : Hp := fun a => if ∃ (i : Nat) (s : Slot), ρ[i]? = some s ∧ s.ad = some a then none else H a
section
variable {F F' F2 H H' H2 H0 F0 : Hp} {ρ ρ' : Rho} {σ σ' : L2.St} {d : D} {ds : List D} {v : V} {vs : List V} {i : Nat} {s : Slot} {p : Addr}
theorem delS_none (h : H p = none) : delS ρ H p = none := by
  unfold delS
  split
  · rfl
  · exact h
theorem delS_own (h : ρ[i]? = some s) (e : s.ad = some p) : delS ρ H p = none := by
  unfold delS
  rw [if_pos ⟨i, s, h, e⟩]
theorem delS_some {o : HO} (h : delS ρ H p = some o) : H p = some o := by
  unfold delS at h
  split at h
  · cases h
  · exact h
theorem delS_keep (n : ∀ (i : Nat) (s : Slot), ρ[i]? = some s → s.ad ≠ some p) : delS ρ H p = H p := by
  unfold delS
  rw [if_neg]
  rintro ⟨i, s, h, e⟩
  exact n i s h e
theorem SlotOk.ad {x : Option V} (h : SlotOk K H0 F H s x) (e : s.ad = some p) : H0 p = none ∧ F p = none ∧ ∃ o, H p = some o := by
  cases s with
  | un => cases e
  | dt d => cases e
  | ol q ds => cases e; exact ⟨h.2.1, h.2.2.1, _, h.2.2.2.choose_spec.1⟩
  | od q ks ds => cases e; exact ⟨h.2.1, h.2.2.1, _, h.2.2.2.choose_spec.1⟩
theorem Sd.rebase (S : Sd K F0 H0 ρ σ F H) : Sd K F (delS ρ H) ρ σ F H := by
  refine ⟨⟨Ex.refl F, fun a o h => delS_some h, S.fh, fun a _ h => h⟩, S.len, fun i s h => ?_, S.dj⟩
  have z := S.sl i s h
  cases s with
  | un => trivial
  | dt d => exact z
  | ol p ds => exact ⟨z.1, delS_own h rfl, z.2.2⟩
  | od p ks ds => exact ⟨z.1, delS_own h rfl, z.2.2⟩
theorem Sd.unbase (S : Sd K F0 H0 ρ σ F H) (S' : Sd K F (delS ρ H) ρ' σ' F' H') : Sd K F0 H0 ρ' σ' F' H' := by
  have keep : ∀ a, H0 a ≠ none → delS ρ H a = H a := fun a h => delS_keep fun i s hi e => h ((S.sl i s hi).ad e).1
  have h0 : ∀ a o, H0 a = some o → H a = some o := S.g.hh
  refine ⟨⟨S.g.ff.trans S'.g.ff, fun a o h => S'.g.hh a o (by rw [keep a (by rw [h]; simp)]; exact h0 a o h), S'.g.fh, fun a h1 h2 => ?_⟩, S'.len, fun i s h => ?_, S'.dj⟩
  · refine S'.g.nw a ?_ (S.g.nw a h1 h2)
    rw [keep a h1]
    cases q : H0 a with
    | none => exact absurd q h1
    | some o => rw [h0 a o q]; simp
  · have z := S'.sl i s h
    have back : ∀ p, s.ad = some p → H0 p = none := fun p e => by
      obtain ⟨w, _, _⟩ := z.ad e
      cases q : H0 p with
      | none => rfl
      | some o => rw [keep p (by rw [q]; simp), h0 p o q] at w; cases w
    cases s with
    | un => trivial
    | dt d => exact z
    | ol p ds => exact ⟨z.1, back p rfl, z.2.2⟩
    | od p ks ds => exact ⟨z.1, back p rfl, z.2.2⟩
theorem Sd.out {o : HO} (S : Sd K F0 H0 ρ σ F H) (h0 : H0 p = none) (hf : F p = none) (n : ∀ (i : Nat) (s : Slot), ρ[i]? = some s → s.ad ≠ some p) : Sd K F0 H0 ρ σ F (upd H p o) := by
  refine ⟨⟨S.g.ff, S.g.hh.mut h0, S.g.fh.mut hf, S.g.nw⟩, S.len, fun j t hj => ?_, S.dj⟩
  have z := S.sl j t hj
  have nad : ∀ r, t.ad = some r → r ≠ p := fun r hr c => n j t hj (by rw [hr, c])
  cases t with
  | un => trivial
  | dt d => exact z
  | ol r rs => obtain ⟨a, b, c, ws, x, y⟩ := z; exact ⟨a, b, c, ws, by rw [upd_ne (nad r rfl)]; exact x, y⟩
  | od r kk rs => obtain ⟨a, b, c, ws, x, y⟩ := z; exact ⟨a, b, c, ws, by rw [upd_ne (nad r rfl)]; exact x, y⟩
theorem Sd.stand (S : Sd K F0 H0 ρ σ F H) (x : Ex F F') (y : Ex F' H) (n : ∀ a, F a = none → (H0 a ≠ none ∨ ∃ (i : Nat) (s : Slot), ρ[i]? = some s ∧ s.ad = some a) → F' a = none) : Sd K F0 H0 ρ σ F' H := by
  refine ⟨⟨S.g.ff.trans x, S.g.hh, y, fun a h1 h2 => n a (S.g.nw a h1 h2) (.inl h1)⟩, S.len, fun j t hj => ?_, S.dj⟩
  have z := S.sl j t hj
  cases t with
  | un => trivial
  | dt d => obtain ⟨v, a, b⟩ := z; exact ⟨v, a, b.mono x⟩
  | ol r rs => obtain ⟨a, b, c, ws, y1, y2⟩ := z; exact ⟨a, b, n r c (.inr ⟨j, _, hj, rfl⟩), ws, y1, y2.mono x⟩
  | od r kk rs => obtain ⟨a, b, c, ws, y1, y2, y3⟩ := z; exact ⟨a, b, n r c (.inr ⟨j, _, hj, rfl⟩), ws, y1, y2, y3.mono x⟩
theorem Sd.wipe1 (S : Sd K F0 H0 ρ σ F H) : Sd K F0 H0 (ρ.set i .un) (σ.set i none) F H := by
  refine ⟨S.g, by rw [List.length_set, List.length_set, S.len], fun j t h => ?_, fun j k t u q h1 h2 h3 h4 => ?_⟩
  · by_cases e : i = j
    · subst e
      have hl : i < ρ.length := by
        have := (List.getElem?_eq_some_iff.mp h).1
        rwa [List.length_set] at this
      rw [List.getElem?_set_self hl] at h
      cases h
      trivial
    · rw [get_set_ne e] at h
      rw [get_set_ne e]
      exact S.sl j t h
  · have back : ∀ (j : Nat) (t : Slot), (ρ.set i .un)[j]? = some t → t.ad = some q → ρ[j]? = some t := fun j t hj ha => by
      by_cases e : i = j
      · subst e
        have hl : i < ρ.length := by
          have := (List.getElem?_eq_some_iff.mp hj).1
          rwa [List.length_set] at this
        rw [List.getElem?_set_self hl] at hj
        cases hj
        cases ha
      · rw [get_set_ne e] at hj
        exact hj
    exact S.dj j k t u q (back j t h1 h3) (back k u h2 h4) h3 h4
def wipeR (ρ : Rho) : List Nat → Rho
  | [] => ρ
  | v :: vs => (wipeR ρ vs).set v .un
theorem Sd.wipe (S : Sd K F0 H0 ρ σ F H) : ∀ vs : List Nat, Sd K F0 H0 (wipeR ρ vs) (L2.wipe σ vs) F H
  | [] => S
  | v :: vs => (S.wipe vs).wipe1
end

def ExOk (K : PySem.W.Frag) (F H : Hp) (fld : Option (Str × D)) (dd : Option Addr) : Prop :=
  match fld with
  | none => dd = none
  | some (k, d) => ∃ a v, dd = some a ∧ H a = some (.xd [(k, v)]) ∧ Dn K F d v
abbrev Xi := Addr → Option (Str × D) → Rho → Prop
def EOk (K : PySem.W.Frag) (E : L2.St → XK) (Ξ : Xi) (F0 H0 : Hp) : Prop :=
  ∀ (C : Addr) (fld : Option (Str × D)) (ρ : Rho) (σ : L2.St) (dd : Option Addr) (F H : Hp), Ξ C fld ρ → Sd K F0 H0 ρ σ F H → ExOk K F H fld dd → E σ (.ref C) dd H
abbrev noX : Xi := fun _ _ _ => False
theorem EOk.no {E : L2.St → XK} {F0 H0 : Hp} : EOk K E noX F0 H0 := fun _ _ _ _ _ _ _ h => h.elim
theorem EOk.re {E : L2.St → XK} {Ξ : Xi} {F0 H0 F H : Hp} {ρ : Rho} {σ : L2.St} (e : EOk K E Ξ F0 H0) (S : Sd K F0 H0 ρ σ F H) : EOk K E Ξ F (delS ρ H) :=
  fun C fld ρ' σ' dd F' H' h S' x => e C fld ρ' σ' dd F' H' h (S.unbase S') x

def EvS (K : PySem.W.Frag) (E : L2.St → XK) (Ξ : Xi) (te : TE) (ρ : Rho) (Φ : D → Rho → Prop) : Prop :=
  ∀ (F0 H0 : Hp) (σ : L2.St) (F H : Hp) (Q : VK), Sd K F0 H0 ρ σ F H → EOk K E Ξ F0 H0 →
    (∀ (d : D) (ρ' : Rho) (v : V) (F' H' : Hp), Φ d ρ' → Ex F F' → Sd K F0 H0 ρ' σ F' H' → Dn K F' d v → Q v H') → te σ H Q
def EvA (K : PySem.W.Frag) (E : L2.St → XK) (Ξ : Xi) (ta : TA) (ρ : Rho) (Φ : List D → Rho → Prop) : Prop :=
  ∀ (F0 H0 : Hp) (σ : L2.St) (F H : Hp) (Q : List V → Hp → Prop), Sd K F0 H0 ρ σ F H → EOk K E Ξ F0 H0 →
    (∀ (ds : List D) (ρ' : Rho) (vs : List V) (F' H' : Hp), Φ ds ρ' → Ex F F' → Sd K F0 H0 ρ' σ F' H' → DnL K F' ds vs → Q vs H') → ta σ H Q
def EvT (K : PySem.W.Frag) (E : L2.St → XK) (Ξ : Xi) (tt : TT) (ρ : Rho) (Φ : Bool → Rho → Prop) : Prop :=
  ∀ (F0 H0 : Hp) (σ : L2.St) (F H : Hp) (Q : Bool → Hp → Prop), Sd K F0 H0 ρ σ F H → EOk K E Ξ F0 H0 →
    (∀ (b : Bool) (ρ' : Rho) (F' H' : Hp), Φ b ρ' → Ex F F' → Sd K F0 H0 ρ' σ F' H' → Q b H') → tt σ H Q
def EvL (K : PySem.W.Frag) (E : L2.St → XK) (Ξ : Xi) (te : TE) (ρ : Rho) (Φ : List D → Rho → Prop) : Prop :=
  ∀ (F0 H0 : Hp) (σ : L2.St) (F H : Hp) (Q : VK), Sd K F0 H0 ρ σ F H → EOk K E Ξ F0 H0 →
    (∀ (ds : List D) (ρ' : Rho) (p : Addr) (vs : List V) (F' H' : Hp), Φ ds ρ' → Ex F F' → Sd K F0 H0 ρ' σ F' H' → H0 p = none → F' p = none → (∀ (i : Nat) (s : Slot), ρ'[i]? = some s → s.ad ≠ some p) →
      H' p = some (.lst vs) → DnL K F' ds vs → Q (.ref p) H') → te σ H Q
def Op2 (K : PySem.W.Frag) (r : R2) (x y : D) (Ψ : D → Prop) : Prop :=
  ∀ (F H : Hp) (v w : V) (Q : VK), Ex F H → Dn K F x v → Dn K F y w → (∀ (d : D) (u : V) (F' H' : Hp), Ψ d → Grow F H F' H' → Dn K F' d u → Q u H') → r v w H Q
def Op1 (K : PySem.W.Frag) (r : V → Hp → VK → Prop) (x : D) (Ψ : D → Prop) : Prop :=
  ∀ (F H : Hp) (v : V) (Q : VK), Ex F H → Dn K F x v → (∀ (d : D) (u : V) (F' H' : Hp), Ψ d → Grow F H F' H' → Dn K F' d u → Q u H') → r v H Q
def Cl (K : PySem.W.Frag) (r : List V → Hp → VK → Prop) (xs : List D) (Ψ : D → Prop) : Prop :=
  ∀ (F H : Hp) (vs : List V) (Q : VK), Ex F H → DnL K F xs vs → (∀ (d : D) (u : V) (F' H' : Hp), Ψ d → Grow F H F' H' → Dn K F' d u → Q u H') → r vs H Q
def Mt (K : PySem.W.Frag) (r : V → List V → Hp → VK → Prop) (x : D) (xs : List D) (Ψ : D → Prop) : Prop :=
  ∀ (F H : Hp) (v : V) (vs : List V) (Q : VK), Ex F H → Dn K F x v → DnL K F xs vs → (∀ (d : D) (u : V) (F' H' : Hp), Ψ d → Grow F H F' H' → Dn K F' d u → Q u H') → r v vs H Q

section
variable {E : L2.St → XK} {Ξ : Xi} {ρ : Rho} {ta tb tc te : TE} {tl : TA} {t u : TT} {i : Nat} {d : D} {ds : List D} {p : Addr}
theorem EvS.imp {Φ Ψ : D → Rho → Prop} (h : EvS K E Ξ te ρ Φ) (k : ∀ d ρ', Φ d ρ' → Ψ d ρ') : EvS K E Ξ te ρ Ψ := fun F0 H0 σ F H Q S e q => h F0 H0 σ F H Q S e fun d ρ' v F' H' a => q d ρ' v F' H' (k d ρ' a)
theorem EvT.imp {Φ Ψ : Bool → Rho → Prop} (h : EvT K E Ξ t ρ Φ) (k : ∀ d ρ', Φ d ρ' → Ψ d ρ') : EvT K E Ξ t ρ Ψ := fun F0 H0 σ F H Q S e q => h F0 H0 σ F H Q S e fun d ρ' F' H' a => q d ρ' F' H' (k d ρ' a)
theorem ev_var {Φ : D → Rho → Prop} (h : ρ[i]? = some (.dt d)) (k : Φ d ρ) : EvS K E Ξ (tVar i) ρ Φ := fun F0 H0 σ F H Q S _ q => by
  obtain ⟨v, e, n⟩ := S.data h
  exact ⟨v, e, q d ρ v F H k (Ex.refl F) S n⟩
theorem ev_frz {Φ : D → Rho → Prop} (h : ρ[i]? = some (.ol p ds)) (k : Φ (.lst ds) (ρ.set i (.dt (.lst ds)))) : EvS K E Ξ (tVar i) ρ Φ := fun F0 H0 σ F H Q S _ q => by
  obtain ⟨F', x, S', n⟩ := S.frz h
  exact ⟨_, (S.own h).1, q _ _ _ F' H k x S' n⟩
theorem ev_c {Φ : D → Rho → Prop} {v : V} (h : ∀ F, Dn K F d v) (k : Φ d ρ) : EvS K E Ξ (tC v) ρ Φ := fun F0 H0 σ F H Q S _ q => q d ρ v F H k (Ex.refl F) S (h F)
theorem ev_int {Φ : D → Rho → Prop} {n : Int} (k : Φ (.int n) ρ) : EvS K E Ξ (tC (.int n)) ρ Φ := ev_c (fun _ => dn_int.mpr rfl) k
theorem ev_str {Φ : D → Rho → Prop} {n : Str} (k : Φ (.str n) ρ) : EvS K E Ξ (tC (.str n)) ρ Φ := ev_c (fun _ => dn_str.mpr rfl) k
theorem ev_bl {Φ : D → Rho → Prop} {n : Bool} (k : Φ (.bl n) ρ) : EvS K E Ξ (tC (.bl n)) ρ Φ := ev_c (fun _ => dn_bl.mpr rfl) k
theorem ev_non {Φ : D → Rho → Prop} (k : Φ .non ρ) : EvS K E Ξ (tC .non) ρ Φ := ev_c (fun _ => dn_non.mpr rfl) k
theorem ev_op {Φ : D → Rho → Prop} {r : R2} (h : EvS K E Ξ ta ρ fun x ρ1 => EvS K E Ξ tb ρ1 fun y ρ2 => Op2 K r x y fun z => Φ z ρ2) : EvS K E Ξ (tOp r ta tb) ρ Φ := fun F0 H0 σ F H Q S e k =>
  h F0 H0 σ F H _ S e fun x ρ1 v F1 H1 h1 x1 S1 n1 => h1 F0 H0 σ F1 H1 _ S1 e fun y ρ2 w F2 H2 h2 x2 S2 n2 =>
    h2 F2 H2 v w Q S2.fh (n1.mono x2) n2 fun d z F3 H3 hd g n => k d ρ2 z F3 H3 hd ((x1.trans x2).trans g.ff) (S2.grow g) n
theorem ev_un {Φ : D → Rho → Prop} {r : V → Hp → VK → Prop} (h : EvS K E Ξ ta ρ fun x ρ1 => Op1 K r x fun z => Φ z ρ1) : EvS K E Ξ (tUn r ta) ρ Φ := fun F0 H0 σ F H Q S e k =>
  h F0 H0 σ F H _ S e fun x ρ1 v F1 H1 h1 x1 S1 n1 => h1 F1 H1 v Q S1.fh n1 fun d z F3 H3 hd g n => k d ρ1 z F3 H3 hd (x1.trans g.ff) (S1.grow g) n
theorem ea_nil {Φ : List D → Rho → Prop} (k : Φ [] ρ) : EvA K E Ξ tNil ρ Φ := fun F0 H0 σ F H Q S _ q => q [] ρ [] F H k (Ex.refl F) S .nil
theorem ea_cons {Φ : List D → Rho → Prop} (h : EvS K E Ξ ta ρ fun x ρ1 => EvA K E Ξ tl ρ1 fun xs ρ2 => Φ (x :: xs) ρ2) : EvA K E Ξ (tCons ta tl) ρ Φ := fun F0 H0 σ F H Q S e k =>
  h F0 H0 σ F H _ S e fun x ρ1 v F1 H1 h1 x1 S1 n1 => h1 F0 H0 σ F1 H1 _ S1 e fun xs ρ2 vs F2 H2 h2 x2 S2 n2 => k (x :: xs) ρ2 (v :: vs) F2 H2 h2 (x1.trans x2) S2 (.cons (n1.mono x2) n2)
theorem ev_cb {Φ : D → Rho → Prop} {r : List V → Hp → VK → Prop} (h : EvA K E Ξ tl ρ fun xs ρ1 => Cl K r xs fun z => Φ z ρ1) : EvS K E Ξ (tCB r tl) ρ Φ := fun F0 H0 σ F H Q S e k =>
  h F0 H0 σ F H _ S e fun xs ρ1 vs F1 H1 h1 x1 S1 n1 => h1 F1 H1 vs Q S1.fh n1 fun d z F3 H3 hd g n => k d ρ1 z F3 H3 hd (x1.trans g.ff) (S1.grow g) n
theorem ev_tup {Φ : D → Rho → Prop} (h : EvA K E Ξ tl ρ fun xs ρ1 => xs.length ≤ 100000 ∧ Φ (.tup xs) ρ1) : EvS K E Ξ (tTup tl) ρ Φ := fun F0 H0 σ F H Q S e k =>
  h F0 H0 σ F H _ S e fun xs ρ1 vs F1 H1 h1 x1 S1 n1 => ⟨sz_of (by rw [← n1.length]; exact h1.1), fun p hp => by
    have g := Grow.new (o := .tup vs) S1.fh hp
    exact k _ ρ1 _ _ _ h1.2 (x1.trans g.ff) (S1.grow g) (dn_tup.mpr ⟨p, vs, rfl, .inl (.inl upd_same), n1.mono g.ff⟩)⟩
theorem Sd.newAd {F0 H0 F H : Hp} {σ : L2.St} (S : Sd K F0 H0 ρ σ F H) (h : H p = none) : ∀ (i : Nat) (s : Slot), ρ[i]? = some s → s.ad ≠ some p := fun i s hi e => by
  obtain ⟨_, _, o, ho⟩ := (S.sl i s hi).ad e
  rw [h] at ho
  cases ho
theorem Sd.new0 {F0 H0 F H : Hp} {σ : L2.St} (S : Sd K F0 H0 ρ σ F H) (h : H p = none) : H0 p = none := fresh_back S.g.hh h
theorem el_lst {Φ : List D → Rho → Prop} (h : EvA K E Ξ tl ρ fun xs ρ1 => xs.length ≤ 100000 ∧ Φ xs ρ1) : EvL K E Ξ (tLst tl) ρ Φ := fun F0 H0 σ F H Q S e k =>
  h F0 H0 σ F H _ S e fun xs ρ1 vs F1 H1 h1 x1 S1 n1 => ⟨sz_of (by rw [← n1.length]; exact h1.1), fun p hp =>
    k xs ρ1 p vs F1 _ h1.2 x1 (S1.grow (Grow.newM S1.fh hp)) (S1.new0 hp) (fresh_F S1.fh hp) (S1.newAd hp) upd_same n1⟩
theorem Sd.frzN {F0 H0 F H : Hp} {σ : L2.St} {o : HO} (S : Sd K F0 H0 ρ σ F H) (h0 : H0 p = none) (hf : F p = none) (n : ∀ (i : Nat) (s : Slot), ρ[i]? = some s → s.ad ≠ some p) (hp : H p = some o) : Sd K F0 H0 ρ σ (upd F p o) H := by
  refine S.stand (Ex.new hf) (fun a u ha => ?_) (fun a h1 h2 => ?_)
  · unfold upd at ha
    split at ha
    · rename_i c
      rw [c, hp]
      exact ha
    · exact S.fh a u ha
  · have : a ≠ p := fun z => by
      subst z
      rcases h2 with h2 | ⟨i, s, hi, e⟩
      · exact h2 h0
      · exact n i s hi e
    rw [upd_ne this]
    exact h1
theorem EvL.ev {Φ : D → Rho → Prop} (h : EvL K E Ξ te ρ fun xs ρ1 => Φ (.lst xs) ρ1) : EvS K E Ξ te ρ Φ := fun F0 H0 σ F H Q S e k =>
  h F0 H0 σ F H Q S e fun xs ρ1 p vs F1 H1 h1 x1 S1 a b c hp n => k _ ρ1 _ _ H1 h1 (x1.trans (Ex.new b)) (S1.frzN a b c hp) (dn_lst.mpr ⟨p, vs, rfl, upd_same, n.mono (Ex.new b)⟩)
theorem EvL.imp {Φ Ψ : List D → Rho → Prop} (h : EvL K E Ξ te ρ Φ) (k : ∀ d ρ', Φ d ρ' → Ψ d ρ') : EvL K E Ξ te ρ Ψ := fun F0 H0 σ F H Q S e q => h F0 H0 σ F H Q S e fun d ρ' p vs F' H' a => q d ρ' p vs F' H' (k d ρ' a)

theorem et_test {Φ : Bool → Rho → Prop} (h : EvS K E Ξ te ρ fun d ρ1 => ∃ b, d = .bl b ∧ Φ b ρ1) : EvT K E Ξ (tTest te) ρ Φ := fun F0 H0 σ F H Q S e k =>
  h F0 H0 σ F H _ S e fun d ρ1 v F1 H1 ⟨b, eb, h1⟩ x1 S1 n1 => ⟨b, by subst eb; exact dn_bl.mp n1, k b ρ1 F1 H1 h1 x1 S1⟩
theorem et_B {Φ : Bool → Rho → Prop} (h : EvS K E Ξ te ρ fun d ρ1 => ∃ b, d = .bl b ∧ Φ b ρ1) : EvT K E Ξ (tB te) ρ Φ := fun F0 H0 σ F H Q S e k =>
  h F0 H0 σ F H _ S e fun d ρ1 v F1 H1 ⟨b, eb, h1⟩ x1 S1 n1 => ⟨b, by subst eb; exact dn_bl.mp n1, k b ρ1 F1 H1 h1 x1 S1⟩
theorem et_and {Φ : Bool → Rho → Prop} (h : EvT K E Ξ t ρ fun b ρ1 => (b = true → EvT K E Ξ u ρ1 Φ) ∧ (b = false → Φ false ρ1)) : EvT K E Ξ (tAnd t u) ρ Φ := fun F0 H0 σ F H Q S e k =>
  h F0 H0 σ F H _ S e fun b ρ1 F1 H1 h1 x1 S1 => by
    cases b with
    | true => exact (h1.1 rfl) F0 H0 σ F1 H1 Q S1 e fun c ρ2 F2 H2 h2 x2 S2 => k c ρ2 F2 H2 h2 (x1.trans x2) S2
    | false => exact k false ρ1 F1 H1 (h1.2 rfl) x1 S1
theorem et_or {Φ : Bool → Rho → Prop} (h : EvT K E Ξ t ρ fun b ρ1 => (b = false → EvT K E Ξ u ρ1 Φ) ∧ (b = true → Φ true ρ1)) : EvT K E Ξ (tOr t u) ρ Φ := fun F0 H0 σ F H Q S e k =>
  h F0 H0 σ F H _ S e fun b ρ1 F1 H1 h1 x1 S1 => by
    cases b with
    | false => exact (h1.1 rfl) F0 H0 σ F1 H1 Q S1 e fun c ρ2 F2 H2 h2 x2 S2 => k c ρ2 F2 H2 h2 (x1.trans x2) S2
    | true => exact k true ρ1 F1 H1 (h1.2 rfl) x1 S1
theorem et_not {Φ : Bool → Rho → Prop} (h : EvT K E Ξ t ρ fun b ρ1 => Φ (!b) ρ1) : EvT K E Ξ (tNot t) ρ Φ := fun F0 H0 σ F H Q S e k =>
  h F0 H0 σ F H _ S e fun b ρ1 F1 H1 h1 x1 S1 => k (!b) ρ1 F1 H1 h1 x1 S1
theorem ev_and {Φ : D → Rho → Prop} (h : EvS K E Ξ ta ρ fun d ρ1 => ∃ b, d = .bl b ∧ (b = true → EvS K E Ξ tb ρ1 Φ) ∧ (b = false → Φ (.bl false) ρ1)) : EvS K E Ξ (tAndV ta tb) ρ Φ := fun F0 H0 σ F H Q S e k =>
  h F0 H0 σ F H _ S e fun d ρ1 v F1 H1 ⟨b, eb, h1, h2⟩ x1 S1 n1 => ⟨b, by subst eb; exact dn_bl.mp n1, by
    cases b with
    | true => exact (h1 rfl) F0 H0 σ F1 H1 Q S1 e fun c ρ2 w F2 H2 h2 x2 S2 n2 => k c ρ2 w F2 H2 h2 (x1.trans x2) S2 n2
    | false => exact k (.bl false) ρ1 _ F1 H1 (h2 rfl) x1 S1 (dn_bl.mpr rfl)⟩
theorem ev_or {Φ : D → Rho → Prop} (h : EvS K E Ξ ta ρ fun d ρ1 => ∃ b, d = .bl b ∧ (b = false → EvS K E Ξ tb ρ1 Φ) ∧ (b = true → Φ (.bl true) ρ1)) : EvS K E Ξ (tOrV ta tb) ρ Φ := fun F0 H0 σ F H Q S e k =>
  h F0 H0 σ F H _ S e fun d ρ1 v F1 H1 ⟨b, eb, h1, h2⟩ x1 S1 n1 => ⟨b, by subst eb; exact dn_bl.mp n1, by
    cases b with
    | false => exact (h1 rfl) F0 H0 σ F1 H1 Q S1 e fun c ρ2 w F2 H2 h2 x2 S2 n2 => k c ρ2 w F2 H2 h2 (x1.trans x2) S2 n2
    | true => exact k (.bl true) ρ1 _ F1 H1 (h2 rfl) x1 S1 (dn_bl.mpr rfl)⟩
theorem ev_not {Φ : D → Rho → Prop} (h : EvS K E Ξ ta ρ fun d ρ1 => ∃ b, d = .bl b ∧ Φ (.bl (!b)) ρ1) : EvS K E Ξ (tNotV ta) ρ Φ := fun F0 H0 σ F H Q S e k =>
  h F0 H0 σ F H _ S e fun d ρ1 v F1 H1 ⟨b, eb, h1⟩ x1 S1 n1 => ⟨b, by subst eb; exact dn_bl.mp n1, k _ ρ1 _ F1 H1 h1 x1 S1 (dn_bl.mpr rfl)⟩
theorem ev_if {Φ : D → Rho → Prop} (h : EvT K E Ξ t ρ fun b ρ1 => (b = true → EvS K E Ξ ta ρ1 Φ) ∧ (b = false → EvS K E Ξ tb ρ1 Φ)) : EvS K E Ξ (tIf t ta tb) ρ Φ := fun F0 H0 σ F H Q S e k =>
  h F0 H0 σ F H _ S e fun b ρ1 F1 H1 h1 x1 S1 => by
    cases b with
    | true => exact (h1.1 rfl) F0 H0 σ F1 H1 Q S1 e fun c ρ2 w F2 H2 h2 x2 S2 n2 => k c ρ2 w F2 H2 h2 (x1.trans x2) S2 n2
    | false => exact (h1.2 rfl) F0 H0 σ F1 H1 Q S1 e fun c ρ2 w F2 H2 h2 x2 S2 n2 => k c ρ2 w F2 H2 h2 (x1.trans x2) S2 n2
theorem ev_chain {Φ : D → Rho → Prop} {r r' : R2} (h : EvS K E Ξ ta ρ fun x ρ1 => EvS K E Ξ tb ρ1 fun y ρ2 => Op2 K r x y fun z => ∃ b, z = .bl b ∧ (b = true → EvS K E Ξ tc ρ2 fun w ρ3 => Op2 K r' y w fun q => Φ q ρ3) ∧ (b = false → Φ (.bl false) ρ2)) :
    EvS K E Ξ (tChain r r' ta tb tc) ρ Φ := fun F0 H0 σ F H Q S e k =>
  h F0 H0 σ F H _ S e fun x ρ1 v F1 H1 h1 x1 S1 n1 => h1 F0 H0 σ F1 H1 _ S1 e fun y ρ2 w F2 H2 h2 x2 S2 n2 =>
    h2 F2 H2 v w _ S2.fh (n1.mono x2) n2 fun d z F3 H3 ⟨b, eb, h3, h4⟩ g n => ⟨b, by subst eb; exact dn_bl.mp n, by
      cases b with
      | true => exact (h3 rfl) F0 H0 σ F3 H3 _ (S2.grow g) e fun q ρ3 w' F4 H4 h5 x4 S4 n4 => h5 F4 H4 w w' Q S4.fh ((n2.mono g.ff).mono x4) n4 fun d' z' F5 H5 hd g5 n5 => k d' ρ3 z' F5 H5 hd ((((x1.trans x2).trans g.ff).trans x4).trans g5.ff) (S4.grow g5) n5
      | false => exact k (.bl false) ρ2 _ F3 H3 (h4 rfl) ((x1.trans x2).trans g.ff) (S2.grow g) (dn_bl.mpr rfl)⟩
end

inductive Out where
  | nx (ρ : Rho) | rt (d : D) (ρ : Rho) | bk (ρ : Rho) | ct (ρ : Rho)
def RunS (K : PySem.W.Frag) (E : L2.St → XK) (Ξ : Xi) (ts : TS) (ρ : Rho) (Φ : Out → Prop) : Prop :=
  ∀ (F0 H0 : Hp) (σ : L2.St) (F H : Hp) (D : Ends), Sd K F0 H0 ρ σ F H → EOk K E Ξ F0 H0 →
    (∀ (ρ' : Rho) (σ' : L2.St) (F' H' : Hp), Φ (.nx ρ') → Ex F F' → Sd K F0 H0 ρ' σ' F' H' → D.nx σ' H') →
    (∀ (d : Z.D) (ρ' : Rho) (v : V) (σ' : L2.St) (F' H' : Hp), Φ (.rt d ρ') → Ex F F' → Sd K F0 H0 ρ' σ' F' H' → Dn K F' d v → D.rt v H') →
    (∀ (ρ' : Rho) (σ' : L2.St) (F' H' : Hp), Φ (.bk ρ') → Ex F F' → Sd K F0 H0 ρ' σ' F' H' → D.bk σ' H') →
    (∀ (ρ' : Rho) (σ' : L2.St) (F' H' : Hp), Φ (.ct ρ') → Ex F F' → Sd K F0 H0 ρ' σ' F' H' → D.ct σ' H') → ts D σ H
def RunG (K : PySem.W.Frag) (g : TG) (d : D) (ρ : Rho) (Φ : Rho → Prop) : Prop :=
  ∀ (F0 H0 : Hp) (σ : L2.St) (F H : Hp) (v : V) (Q : L2.St → Hp → Prop), Sd K F0 H0 ρ σ F H → Dn K F d v → (∀ (ρ' : Rho) (σ' : L2.St) (F' H' : Hp), Φ ρ' → Ex F F' → Sd K F0 H0 ρ' σ' F' H' → Q σ' H') → g v σ H Q
def RunGs (K : PySem.W.Frag) (g : TGs) (ds : List D) (ρ : Rho) (Φ : Rho → Prop) : Prop :=
  ∀ (F0 H0 : Hp) (σ : L2.St) (F H : Hp) (vs : List V) (Q : L2.St → Hp → Prop), Sd K F0 H0 ρ σ F H → DnL K F ds vs → (∀ (ρ' : Rho) (σ' : L2.St) (F' H' : Hp), Φ ρ' → Ex F F' → Sd K F0 H0 ρ' σ' F' H' → Q σ' H') → g vs σ H Q
section
variable {E : L2.St → XK} {Ξ : Xi} {ρ : Rho} {ta tb tc te : TE} {tl : TA} {t : TT} {ts tu : TS} {i : Nat} {d : D} {ds : List D} {p : Addr} {Φ : Out → Prop} {g : TG}
theorem RunS.imp {Ψ : Out → Prop} (h : RunS K E Ξ ts ρ Φ) (k : ∀ o, Φ o → Ψ o) : RunS K E Ξ ts ρ Ψ := fun F0 H0 σ F H D S e k1 k2 k3 k4 => h F0 H0 σ F H D S e (fun ρ' σ' F' H' a => k1 ρ' σ' F' H' (k _ a)) (fun d ρ' v σ' F' H' a => k2 d ρ' v σ' F' H' (k _ a)) (fun ρ' σ' F' H' a => k3 ρ' σ' F' H' (k _ a)) (fun ρ' σ' F' H' a => k4 ρ' σ' F' H' (k _ a))
theorem gg_name {Φ : Rho → Prop} (k : Φ (ρ.set i (.dt d))) : RunG K (gName i) d ρ Φ := fun F0 H0 σ F H v Q S n q => q _ _ F H k (Ex.refl F) (S.putD n)
theorem gs_nil {Φ : Rho → Prop} (k : Φ ρ) : RunGs K gNil [] ρ Φ := fun F0 H0 σ F H vs Q S n q => ⟨dnl_nil.mp n, q ρ σ F H k (Ex.refl F) S⟩
theorem gs_cons {Φ : Rho → Prop} {gs : TGs} (h : RunG K g d ρ fun ρ1 => RunGs K gs ds ρ1 Φ) : RunGs K (gCons g gs) (d :: ds) ρ Φ := fun F0 H0 σ F H vs Q S n q => by
  obtain ⟨v, r, e, n1, n2⟩ := dnl_cons.mp n
  exact ⟨v, r, e, h F0 H0 σ F H v _ S n1 fun ρ1 σ1 F1 H1 h1 x1 S1 => h1 F0 H0 σ1 F1 H1 r Q S1 (n2.mono x1) fun ρ2 σ2 F2 H2 h2 x2 S2 => q ρ2 σ2 F2 H2 h2 (x1.trans x2) S2⟩
theorem gg_tup {Φ : Rho → Prop} {gs : TGs} {n : Nat} (hl : ds.length = n) (h : RunGs K gs ds ρ Φ) : RunG K (gTup K n gs) (.tup ds) ρ Φ := fun F0 H0 σ F H v Q S nn q => by
  obtain ⟨a, xs, e, h1, h2⟩ := dn_tup.mp nn
  exact ⟨a, xs, e, ex_t S.fh h1, by rw [← h2.length]; exact hl, h F0 H0 σ F H xs Q S h2 q⟩
theorem r_next (k : Φ (.nx ρ)) : RunS K E Ξ tNext ρ Φ := fun F0 H0 σ F H D S e k1 k2 k3 k4 => k1 ρ σ F H k (Ex.refl F) S
theorem r_break (k : Φ (.bk ρ)) : RunS K E Ξ tBreak ρ Φ := fun F0 H0 σ F H D S e k1 k2 k3 k4 => k3 ρ σ F H k (Ex.refl F) S
theorem r_cont (k : Φ (.ct ρ)) : RunS K E Ξ tCont ρ Φ := fun F0 H0 σ F H D S e k1 k2 k3 k4 => k4 ρ σ F H k (Ex.refl F) S
def thenO (Φ : Out → Prop) (k : Rho → Prop) : Out → Prop := fun o => match o with
  | .nx ρ' => k ρ'
  | o => Φ o
theorem r_seq (h : RunS K E Ξ ts ρ (thenO Φ fun ρ1 => RunS K E Ξ tu ρ1 Φ)) : RunS K E Ξ (tSeq ts tu) ρ Φ := fun F0 H0 σ F H D S e k1 k2 k3 k4 =>
  h F0 H0 σ F H _ S e (fun ρ1 σ1 F1 H1 h1 x1 S1 => h1 F0 H0 σ1 F1 H1 D S1 e (fun ρ2 σ2 F2 H2 h2 x2 S2 => k1 ρ2 σ2 F2 H2 h2 (x1.trans x2) S2) (fun d ρ2 v σ2 F2 H2 h2 x2 S2 n => k2 d ρ2 v σ2 F2 H2 h2 (x1.trans x2) S2 n)
    (fun ρ2 σ2 F2 H2 h2 x2 S2 => k3 ρ2 σ2 F2 H2 h2 (x1.trans x2) S2) (fun ρ2 σ2 F2 H2 h2 x2 S2 => k4 ρ2 σ2 F2 H2 h2 (x1.trans x2) S2)) k2 k3 k4
theorem r_ret (h : EvS K E Ξ te ρ fun d ρ1 => Φ (.rt d ρ1)) : RunS K E Ξ (tRet te) ρ Φ := fun F0 H0 σ F H D S e k1 k2 k3 k4 => h F0 H0 σ F H _ S e fun d ρ1 v F1 H1 h1 x1 S1 n => k2 d ρ1 v σ F1 H1 h1 x1 S1 n
theorem r_retN (h : Φ (.rt .non ρ)) : RunS K E Ξ tRetN ρ Φ := fun F0 H0 σ F H D S e k1 k2 k3 k4 => k2 .non ρ .non σ F H h (Ex.refl F) S (dn_non.mpr rfl)
theorem r_drop (h : EvS K E Ξ te ρ fun _ ρ1 => Φ (.nx ρ1)) : RunS K E Ξ (tDrop te) ρ Φ := fun F0 H0 σ F H D S e k1 k2 k3 k4 => h F0 H0 σ F H _ S e fun d ρ1 v F1 H1 h1 x1 S1 n => k1 ρ1 σ F1 H1 h1 x1 S1
theorem r_asg (h : EvS K E Ξ te ρ fun d ρ1 => RunG K g d ρ1 fun ρ2 => Φ (.nx ρ2)) : RunS K E Ξ (tAsg te g) ρ Φ := fun F0 H0 σ F H D S e k1 k2 k3 k4 =>
  h F0 H0 σ F H _ S e fun d ρ1 v F1 H1 h1 x1 S1 n => h1 F0 H0 σ F1 H1 v _ S1 n fun ρ2 σ2 F2 H2 h2 x2 S2 => k1 ρ2 σ2 F2 H2 h2 (x1.trans x2) S2
theorem r_set (h : EvS K E Ξ te ρ fun d ρ1 => Φ (.nx (ρ1.set i (.dt d)))) : RunS K E Ξ (tAsg te (gName i)) ρ Φ := r_asg (h.imp fun d ρ1 k => gg_name k)
theorem r_setL (h : EvL K E Ξ te ρ fun ds ρ1 => ∀ p, Φ (.nx (ρ1.set i (.ol p ds)))) : RunS K E Ξ (tAsg te (gName i)) ρ Φ := fun F0 H0 σ F H D S e k1 k2 k3 k4 =>
  h F0 H0 σ F H _ S e fun ds ρ1 p vs F1 H1 h1 x1 S1 a b c hp n => k1 _ _ F1 H1 (h1 p) x1 (S1.put (fun _ => ⟨rfl, a, b, vs, hp, n⟩) fun q e j t _ hj z => by
    cases e
    exact c j t hj z)
theorem r_if (h : EvT K E Ξ t ρ fun b ρ1 => (b = true → RunS K E Ξ ts ρ1 Φ) ∧ (b = false → RunS K E Ξ tu ρ1 Φ)) : RunS K E Ξ (tIfS t ts tu) ρ Φ := by
  intro F0 H0 σ F H D S e k1 k2 k3 k4
  refine h F0 H0 σ F H _ S e fun b ρ1 F1 H1 h1 x1 S1 => ?_
  cases b with
  | true => exact (h1.1 rfl) F0 H0 σ F1 H1 D S1 e (fun ρ2 σ2 F2 H2 h2 x2 S2 => k1 ρ2 σ2 F2 H2 h2 (x1.trans x2) S2) (fun d ρ2 v σ2 F2 H2 h2 x2 S2 n => k2 d ρ2 v σ2 F2 H2 h2 (x1.trans x2) S2 n) (fun ρ2 σ2 F2 H2 h2 x2 S2 => k3 ρ2 σ2 F2 H2 h2 (x1.trans x2) S2) (fun ρ2 σ2 F2 H2 h2 x2 S2 => k4 ρ2 σ2 F2 H2 h2 (x1.trans x2) S2)
  | false => exact (h1.2 rfl) F0 H0 σ F1 H1 D S1 e (fun ρ2 σ2 F2 H2 h2 x2 S2 => k1 ρ2 σ2 F2 H2 h2 (x1.trans x2) S2) (fun d ρ2 v σ2 F2 H2 h2 x2 S2 n => k2 d ρ2 v σ2 F2 H2 h2 (x1.trans x2) S2 n) (fun ρ2 σ2 F2 H2 h2 x2 S2 => k3 ρ2 σ2 F2 H2 h2 (x1.trans x2) S2) (fun ρ2 σ2 F2 H2 h2 x2 S2 => k4 ρ2 σ2 F2 H2 h2 (x1.trans x2) S2)
theorem r_when (h : EvT K E Ξ t ρ fun b ρ1 => (b = true → RunS K E Ξ ts ρ1 Φ) ∧ (b = false → Φ (.nx ρ1))) : RunS K E Ξ (tIfS t ts tNext) ρ Φ := r_if (h.imp fun b ρ1 k => ⟨k.1, fun e => r_next (k.2 e)⟩)
theorem r_app {j : Nat} (hj : ρ[j]? = some (.ol p ds)) (hz : ds.length < 100000) (h : EvS K E Ξ te ρ fun d ρ1 => ∃ es, ρ1[j]? = some (.ol p es) ∧ es.length < 100000 ∧ Φ (.nx (ρ1.set j (.ol p (es ++ [d]))))) :
    RunS K E Ξ (tDrop (tBM K "list" rAppend (tVar j) (tCons te tNil))) ρ Φ := fun F0 H0 σ F H D S e k1 k2 k3 k4 => by
  obtain ⟨e1, _, _, vs, e4, n4⟩ := S.own hj
  refine ⟨.ref p, e1, .inl ⟨rfl, vs, .inl (.inl e4)⟩, h F0 H0 σ F H _ S e fun d ρ1 v F1 H1 ⟨es, h1, h2, h3⟩ x1 S1 n => ?_⟩
  obtain ⟨_, _, _, us, e5, n5⟩ := S1.own h1
  exact ⟨p, us, v, rfl, rfl, e5, sz_lt (by rw [← n5.length]; exact h2), k1 _ _ F1 _ h3 x1 (S1.chg h1 (n5.snoc n))⟩
theorem r_setAt {j k : Nat} (h : EvS K E Ξ te ρ fun d ρ1 => ∃ es, ρ1[j]? = some (.ol p es) ∧ k < es.length ∧ Φ (.nx (ρ1.set j (.ol p (es.set k d))))) :
    RunS K E Ξ (tAsg te (gSub (tVar j) (tC (.int (k : Int))) rSetL)) ρ Φ := fun F0 H0 σ F H D S e k1 k2 k3 k4 =>
  h F0 H0 σ F H _ S e fun d ρ1 v F1 H1 ⟨es, h1, h2, h3⟩ x1 S1 n => by
    obtain ⟨e1, _, _, us, e5, n5⟩ := S1.own h1
    refine ⟨.ref p, e1, p, us, k, k, rfl, rfl, e5, ?_, k1 _ _ F1 _ h3 x1 (S1.chg h1 (n5.set n))⟩
    unfold ixN
    rw [if_pos (by omega), if_pos (by rw [← n5.length]; omega)]
    rfl
end
end Z

namespace Z
open PySem PySem.Spec PyProof.Rows L2 Evl
variable {K : PySem.W.Frag}

def IterD (K : PySem.W.Frag) (J : It) (xs : List D) (F : Hp) : Prop :=
  ∀ (i : Nat) (F1 H1 : Hp), Ex F F1 → Ex F1 H1 →
    (∀ d, xs[i]? = some d → J.go i H1 ∧ ∀ v H2, J.yld i H1 v H2 → ∃ F2, Grow F1 H1 F2 H2 ∧ Dn K F2 d v) ∧ (xs.length ≤ i → J.stop i H1)
def EvI (K : PySem.W.Frag) (E : L2.St → XK) (Ξ : Xi) (wi : TI) (ρ : Rho) (Φ : List D → Rho → Prop) : Prop :=
  ∀ (F0 H0 : Hp) (σ : L2.St) (F H : Hp) (R : It → Hp → Prop), Sd K F0 H0 ρ σ F H → EOk K E Ξ F0 H0 →
    (∀ (xs : List D) (ρ' : Rho) (J : It) (F' H' : Hp), Φ xs ρ' → Ex F F' → Sd K F0 H0 ρ' σ F' H' → IterD K J xs F' → R J H') → wi σ H R

section
variable {E : L2.St → XK} {Ξ : Xi} {ρ : Rho} {ta tb tc te : TE} {tl : TA} {t : TT} {ts tu : TS} {i : Nat} {d : D} {ds : List D} {p : Addr} {Φ : Out → Prop} {g : TG} {F : Hp}
theorem iter_lst {a : Addr} {xs : List V} (h : F a = some (.lst xs)) (n : DnL K F ds xs) : IterD K (Itl K a) ds F := fun i F1 H1 x1 y1 => by
  have hq : SqL K H1 a xs := .inl (.inl (y1 _ _ (x1 _ _ h)))
  refine ⟨fun d hd => ?_, fun hl => ⟨xs, hq, by rw [← n.length]; exact hl⟩⟩
  obtain ⟨v, hv, nv⟩ := n.get hd
  refine ⟨⟨xs, v, hq, hv⟩, fun w H2 hy => ?_⟩
  obtain ⟨rfl, hy⟩ := hy
  have e := hy xs hq
  rw [hv] at e
  cases e
  exact ⟨F1, Grow.refl y1, nv.mono x1⟩
theorem iter_tup {a : Addr} {xs : List V} (h : SqT K F a xs) (n : DnL K F ds xs) : IterD K (Itt K a) ds F := fun i F1 H1 x1 y1 => by
  have hq : SqT K H1 a xs := ex_t y1 (ex_t x1 h)
  refine ⟨fun d hd => ?_, fun hl => ⟨xs, hq, by rw [← n.length]; exact hl⟩⟩
  obtain ⟨v, hv, nv⟩ := n.get hd
  refine ⟨⟨xs, v, hq, hv⟩, fun w H2 hy => ?_⟩
  obtain ⟨rfl, hy⟩ := hy
  have e := hy xs hq
  rw [hv] at e
  cases e
  exact ⟨F1, Grow.refl y1, nv.mono x1⟩
theorem iter_str {z : Str} : IterD K (Its z) (z.cps.toList.map fun c => .str ⟨#[c]⟩) F := fun i F1 H1 x1 y1 => by
  refine ⟨fun d hd => ?_, fun hl => by show z.cps.size ≤ i; rw [List.length_map, Array.length_toList] at hl; exact hl⟩
  rw [List.getElem?_map] at hd
  cases q : z.cps.toList[i]? with
  | none => rw [q] at hd; cases hd
  | some c =>
    rw [q] at hd
    cases hd
    have q' : z.cps[i]? = some c := by rw [← Array.getElem?_toList]; exact q
    refine ⟨(Array.getElem?_eq_some_iff.mp q').1, fun w H2 hy => ?_⟩
    obtain ⟨rfl, c', hc, rfl⟩ := hy
    rw [q'] at hc
    cases hc
    exact ⟨F1, Grow.refl y1, dn_str.mpr rfl⟩
theorem iter_rng {lo : Int} {n : Nat} : IterD K (Itr lo n) ((List.range n).map fun i => .int (lo + (i : Nat))) F := fun i F1 H1 x1 y1 => by
  refine ⟨fun d hd => ?_, fun hl => by show n ≤ i; rw [List.length_map, List.length_range] at hl; exact hl⟩
  rw [List.getElem?_map] at hd
  cases q : (List.range n)[i]? with
  | none => rw [q] at hd; cases hd
  | some c =>
    rw [q] at hd
    cases hd
    obtain ⟨hl, hc⟩ := List.getElem?_eq_some_iff.mp q
    rw [List.getElem_range] at hc
    rw [List.length_range] at hl
    subst hc
    refine ⟨hl, fun w H2 hy => ?_⟩
    obtain ⟨rfl, rfl⟩ := hy
    exact ⟨F1, Grow.refl y1, dn_int.mpr rfl⟩
theorem iter_rngC {lo c : Int} {n : Nat} : IterD K (Itc lo c n) ((List.range n).map fun i => .int (lo + (i : Nat) * c)) F := fun i F1 H1 x1 y1 => by
  refine ⟨fun d hd => ?_, fun hl => by show n ≤ i; rw [List.length_map, List.length_range] at hl; exact hl⟩
  rw [List.getElem?_map] at hd
  cases q : (List.range n)[i]? with
  | none => rw [q] at hd; cases hd
  | some c' =>
    rw [q] at hd
    cases hd
    obtain ⟨hl, hc⟩ := List.getElem?_eq_some_iff.mp q
    rw [List.getElem_range] at hc
    rw [List.length_range] at hl
    subst hc
    refine ⟨hl, fun w H2 hy => ?_⟩
    obtain ⟨rfl, rfl⟩ := hy
    exact ⟨F1, Grow.refl y1, dn_int.mpr rfl⟩
theorem pair_new {F1 H1 : Hp} {T : Addr} {a b : V} {x y : D} (y1 : Ex F1 H1) (hT : H1 T = none) (ha : Dn K F1 x a) (hb : Dn K F1 y b) : ∃ F2, Grow F1 H1 F2 (upd H1 T (.tup [a, b])) ∧ Dn K F2 (.tup [x, y]) (.ref T) := by
  have g := Grow.new (o := .tup [a, b]) y1 hT
  exact ⟨_, g, dn_tup.mpr ⟨T, [a, b], rfl, .inl (.inl upd_same), .cons (ha.mono g.ff) (.cons (hb.mono g.ff) .nil)⟩⟩
def enumD (ds : List D) : List D := (List.range ds.length).zipWith (fun i d => .tup [.int (i : Nat), d]) ds
theorem enumD_len : (enumD ds).length = ds.length := by unfold enumD; rw [List.length_zipWith, List.length_range]; exact Nat.min_self _
theorem enumD_get {i : Nat} : (enumD ds)[i]? = ds[i]?.map fun d => .tup [.int (i : Nat), d] := by
  unfold enumD
  rw [List.getElem?_zipWith]
  by_cases h : i < ds.length
  · rw [List.getElem?_eq_getElem h, List.getElem?_eq_getElem (by rw [List.length_range]; exact h), List.getElem_range]
    rfl
  · rw [List.getElem?_eq_none (by omega : ds.length ≤ i), List.getElem?_eq_none (by rw [List.length_range]; omega)]
    rfl
theorem iter_enum {a : Addr} {xs : List V} (h : F a = some (.lst xs)) (n : DnL K F ds xs) : IterD K (Ite K a) (enumD ds) F := fun i F1 H1 x1 y1 => by
  have hq : SqL K H1 a xs := .inl (.inl (y1 _ _ (x1 _ _ h)))
  refine ⟨fun d hd => ?_, fun hl => ⟨xs, hq, by rw [← n.length, ← enumD_len]; exact hl⟩⟩
  rw [enumD_get] at hd
  cases q : ds[i]? with
  | none => rw [q] at hd; cases hd
  | some e =>
    rw [q] at hd
    cases hd
    obtain ⟨v, hv, nv⟩ := n.get q
    refine ⟨⟨xs, v, hq, hv⟩, fun w H2 hy => ?_⟩
    obtain ⟨T, x, rfl, hT, rfl, hx⟩ := hy
    have e := hx xs hq
    rw [hv] at e
    cases e
    exact pair_new y1 hT (dn_int.mpr rfl) (nv.mono x1)
def zipD (ds es : List D) : List D := ds.zipWith (fun a b => .tup [a, b]) es
theorem zipD_get {ds es : List D} {i : Nat} {d : D} (h : (zipD ds es)[i]? = some d) : ∃ a b, ds[i]? = some a ∧ es[i]? = some b ∧ d = .tup [a, b] := by
  unfold zipD at h
  rw [List.getElem?_zipWith] at h
  cases q1 : ds[i]? with
  | none => rw [q1] at h; cases h
  | some a =>
    cases q2 : es[i]? with
    | none => rw [q1, q2] at h; cases h
    | some b => rw [q1, q2] at h; cases h; exact ⟨a, b, rfl, rfl, rfl⟩
theorem iter_zipL {es : List D} {a b : Addr} {xs ys : List V} (h : F a = some (.lst xs)) (n : DnL K F ds xs) (h' : F b = some (.lst ys)) (n' : DnL K F es ys) : IterD K (Itz K a b) (zipD ds es) F := fun i F1 H1 x1 y1 => by
  have hq : SqL K H1 a xs := .inl (.inl (y1 _ _ (x1 _ _ h)))
  have hq' : SqL K H1 b ys := .inl (.inl (y1 _ _ (x1 _ _ h')))
  refine ⟨fun d hd => ?_, fun hl => ⟨xs, ys, hq, hq', by
    unfold zipD at hl
    rw [List.length_zipWith] at hl
    rw [← n.length, ← n'.length]
    omega⟩⟩
  obtain ⟨d1, d2, e1, e2, rfl⟩ := zipD_get hd
  obtain ⟨v, hv, nv⟩ := n.get e1
  obtain ⟨v', hv', nv'⟩ := n'.get e2
  refine ⟨⟨xs, ys, v, v', hq, hq', hv, hv'⟩, fun w H2 hy => ?_⟩
  obtain ⟨T, x, y, rfl, hT, rfl, hx, hx'⟩ := hy
  have e := hx xs hq
  rw [hv] at e
  cases e
  have e := hx' ys hq'
  rw [hv'] at e
  cases e
  exact pair_new y1 hT (nv.mono x1) (nv'.mono x1)
theorem iter_zipT {es : List D} {a b : Addr} {xs ys : List V} (h : SqT K F a xs) (n : DnL K F ds xs) (h' : SqT K F b ys) (n' : DnL K F es ys) : IterD K (RZ.ItzT K a b) (zipD ds es) F := fun i F1 H1 x1 y1 => by
  have hq : SqT K H1 a xs := ex_t y1 (ex_t x1 h)
  have hq' : SqT K H1 b ys := ex_t y1 (ex_t x1 h')
  refine ⟨fun d hd => ?_, fun hl => ⟨xs, ys, hq, hq', by
    unfold zipD at hl
    rw [List.length_zipWith] at hl
    rw [← n.length, ← n'.length]
    omega⟩⟩
  obtain ⟨d1, d2, e1, e2, rfl⟩ := zipD_get hd
  obtain ⟨v, hv, nv⟩ := n.get e1
  obtain ⟨v', hv', nv'⟩ := n'.get e2
  refine ⟨⟨xs, ys, v, v', hq, hq', hv, hv'⟩, fun w H2 hy => ?_⟩
  obtain ⟨T, x, y, rfl, hT, rfl, hx, hx'⟩ := hy
  have e := hx xs hq
  rw [hv] at e
  cases e
  have e := hx' ys hq'
  rw [hv'] at e
  cases e
  exact pair_new y1 hT (nv.mono x1) (nv'.mono x1)

theorem ei_list {Φ : List D → Rho → Prop} (h : EvS K E Ξ te ρ fun d ρ1 => ∃ xs, d = .lst xs ∧ Φ xs ρ1) : EvI K E Ξ (iList K te) ρ Φ := fun F0 H0 σ F H R S e k =>
  h F0 H0 σ F H _ S e fun d ρ1 v F1 H1 ⟨xs, ed, h1⟩ x1 S1 n1 => by
    subst ed
    obtain ⟨a, vs, e1, h2, n2⟩ := dn_lst.mp n1
    exact ⟨a, e1, ⟨vs, .inl (.inl (S1.fh _ _ h2))⟩, k xs ρ1 _ F1 H1 h1 x1 S1 (iter_lst h2 n2)⟩
theorem ei_tup {Φ : List D → Rho → Prop} (h : EvS K E Ξ te ρ fun d ρ1 => ∃ xs, d = .tup xs ∧ Φ xs ρ1) : EvI K E Ξ (iTup K te) ρ Φ := fun F0 H0 σ F H R S e k =>
  h F0 H0 σ F H _ S e fun d ρ1 v F1 H1 ⟨xs, ed, h1⟩ x1 S1 n1 => by
    subst ed
    obtain ⟨a, vs, e1, h2, n2⟩ := dn_tup.mp n1
    exact ⟨a, e1, ⟨vs, ex_t S1.fh h2⟩, k xs ρ1 _ F1 H1 h1 x1 S1 (iter_tup h2 n2)⟩
theorem ei_str {Φ : List D → Rho → Prop} (h : EvS K E Ξ te ρ fun d ρ1 => ∃ z : Str, d = .str z ∧ Φ (z.cps.toList.map fun c => .str ⟨#[c]⟩) ρ1) : EvI K E Ξ (iStr te) ρ Φ := fun F0 H0 σ F H R S e k =>
  h F0 H0 σ F H _ S e fun d ρ1 v F1 H1 ⟨z, ed, h1⟩ x1 S1 n1 => by
    subst ed
    exact ⟨z, dn_str.mp n1, k _ ρ1 _ F1 H1 h1 x1 S1 iter_str⟩
theorem ei_rng1 {Φ : List D → Rho → Prop} (h : EvA K E Ξ tl ρ fun ds ρ1 => ∃ n : Int, ds = [.int n] ∧ -(2 ^ 62) ≤ n ∧ n < 2 ^ 62 ∧ Φ ((List.range n.toNat).map fun i => .int ((0 : Int) + (i : Nat))) ρ1) : EvI K E Ξ (iRng1 tl) ρ Φ := fun F0 H0 σ F H R S e k =>
  h F0 H0 σ F H _ S e fun d ρ1 v F1 H1 ⟨z, ed, h1, h2, h3⟩ x1 S1 n1 => by
    subst ed
    obtain ⟨u, r, e1, n2, n3⟩ := dnl_cons.mp n1
    rw [dn_int.mp n2, dnl_nil.mp n3] at e1
    exact ⟨z, e1, h1, h2, k _ ρ1 _ F1 H1 h3 x1 S1 iter_rng⟩
theorem ei_rng2 {Φ : List D → Rho → Prop} (h : EvA K E Ξ tl ρ fun ds ρ1 => ∃ m n : Int, ds = [.int m, .int n] ∧ (-(2 ^ 62) ≤ m ∧ m < 2 ^ 62 ∧ -(2 ^ 62) ≤ n ∧ n < 2 ^ 62) ∧ Φ ((List.range (n - m).toNat).map fun i => .int (m + (i : Nat))) ρ1) : EvI K E Ξ (iRng2 tl) ρ Φ := fun F0 H0 σ F H R S e k =>
  h F0 H0 σ F H _ S e fun d ρ1 v F1 H1 ⟨z, z', ed, h1, h3⟩ x1 S1 n1 => by
    subst ed
    obtain ⟨u, r, e1, n2, n3⟩ := dnl_cons.mp n1
    obtain ⟨u', r', e2, n4, n5⟩ := dnl_cons.mp n3
    rw [dn_int.mp n2, e2, dn_int.mp n4, dnl_nil.mp n5] at e1
    exact ⟨z, z', e1, h1, k _ ρ1 _ F1 H1 h3 x1 S1 iter_rng⟩
theorem ei_rng3 {Φ : List D → Rho → Prop} (h : EvA K E Ξ tl ρ fun ds ρ1 => ∃ (m n c : Int) (q : Nat), ds = [.int m, .int n, .int c] ∧ RgC m n c q ∧ Φ ((List.range q).map fun i => .int (m + (i : Nat) * c)) ρ1) : EvI K E Ξ (iRng3 tl) ρ Φ := fun F0 H0 σ F H R S e k =>
  h F0 H0 σ F H _ S e fun d ρ1 v F1 H1 ⟨z, z', z'', q, ed, h1, h3⟩ x1 S1 n1 => by
    subst ed
    obtain ⟨u, r, e1, n2, n3⟩ := dnl_cons.mp n1
    obtain ⟨u', r', e2, n4, n5⟩ := dnl_cons.mp n3
    obtain ⟨u'', r'', e3, n6, n7⟩ := dnl_cons.mp n5
    rw [dn_int.mp n2, e2, dn_int.mp n4, e3, dn_int.mp n6, dnl_nil.mp n7] at e1
    exact ⟨z, z', z'', q, e1, h1, k _ ρ1 _ F1 H1 h3 x1 S1 iter_rngC⟩
theorem ei_enum {Φ : List D → Rho → Prop} (h : EvA K E Ξ tl ρ fun ds ρ1 => ∃ xs, ds = [.lst xs] ∧ Φ (enumD xs) ρ1) : EvI K E Ξ (iEnum K tl) ρ Φ := fun F0 H0 σ F H R S e k =>
  h F0 H0 σ F H _ S e fun d ρ1 v F1 H1 ⟨xs, ed, h1⟩ x1 S1 n1 => by
    subst ed
    obtain ⟨u, r, e1, n2, n3⟩ := dnl_cons.mp n1
    obtain ⟨a, vs, e2, h2, n4⟩ := dn_lst.mp n2
    rw [e2, dnl_nil.mp n3] at e1
    exact ⟨a, vs, e1, .inl (.inl (S1.fh _ _ h2)), k _ ρ1 _ F1 H1 h1 x1 S1 (iter_enum h2 n4)⟩
theorem ei_zip {Φ : List D → Rho → Prop} (h : EvA K E Ξ tl ρ fun ds ρ1 => ∃ xs ys, (ds = [.lst xs, .lst ys] ∨ ds = [.tup xs, .tup ys]) ∧ Φ (zipD xs ys) ρ1) : EvI K E Ξ (RZ.iZipA K tl) ρ Φ := fun F0 H0 σ F H R S e k =>
  h F0 H0 σ F H _ S e fun d ρ1 v F1 H1 ⟨xs, ys, ed, h1⟩ x1 S1 n1 => by
    rcases ed with ed | ed
    · subst ed
      obtain ⟨u, r, e1, n2, n3⟩ := dnl_cons.mp n1
      obtain ⟨u', r', e2, n4, n5⟩ := dnl_cons.mp n3
      obtain ⟨a, vs, e3, h2, n6⟩ := dn_lst.mp n2
      obtain ⟨b, us, e4, h3, n7⟩ := dn_lst.mp n4
      rw [e3, e2, e4, dnl_nil.mp n5] at e1
      exact ⟨a, b, vs, us, e1, .inl ⟨.inl (.inl (S1.fh _ _ h2)), .inl (.inl (S1.fh _ _ h3)), k _ ρ1 _ F1 H1 h1 x1 S1 (iter_zipL h2 n6 h3 n7)⟩⟩
    · subst ed
      obtain ⟨u, r, e1, n2, n3⟩ := dnl_cons.mp n1
      obtain ⟨u', r', e2, n4, n5⟩ := dnl_cons.mp n3
      obtain ⟨a, vs, e3, h2, n6⟩ := dn_tup.mp n2
      obtain ⟨b, us, e4, h3, n7⟩ := dn_tup.mp n4
      rw [e3, e2, e4, dnl_nil.mp n5] at e1
      exact ⟨a, b, vs, us, e1, .inr ⟨ex_t S1.fh h2, ex_t S1.fh h3, k _ ρ1 _ F1 H1 h1 x1 S1 (iter_zipT h2 n6 h3 n7)⟩⟩

def turnO (Φ : Out → Prop) (k : Rho → Prop) : Out → Prop := fun o => match o with
  | .nx ρ' => k ρ'
  | .ct ρ' => k ρ'
  | .bk ρ' => Φ (.nx ρ')
  | .rt d ρ' => Φ (.rt d ρ')
theorem r_for {wi : TI} (h : EvI K E Ξ wi ρ fun xs ρ1 => ∃ I : Nat → Rho → Prop, I 0 ρ1 ∧ (∀ i d ρ2, xs[i]? = some d → I i ρ2 → RunG K g d ρ2 fun ρ3 => RunS K E Ξ ts ρ3 (turnO Φ (I (i + 1)))) ∧ ∀ ρ2, I xs.length ρ2 → Φ (.nx ρ2)) :
    RunS K E Ξ (tFor wi g ts) ρ Φ := by
  intro F0 H0 σ F H D S e k1 k2 k3 k4
  refine h F0 H0 σ F H _ S e fun xs ρ1 J F1 H1 ⟨I, i0, turn, fin⟩ x1 S1 it => ?_
  refine ⟨fun i m σ' H' => m = xs.length - i ∧ i ≤ xs.length ∧ ∃ ρ' F', I i ρ' ∧ Ex F1 F' ∧ Sd K F0 H0 ρ' σ' F' H', ⟨xs.length, rfl, Nat.zero_le _, ρ1, F1, i0, Ex.refl F1, S1⟩, ?_⟩
  rintro i m σ' H' ⟨rfl, hi, ρ', F', hI, x', S'⟩
  obtain ⟨a, b⟩ := it i F' H' x' S'.fh
  by_cases hl : i < xs.length
  · obtain ⟨go, yl⟩ := a xs[i] (List.getElem?_eq_getElem hl)
    refine .inr ⟨go, fun σ2 H2 => ∃ ρ2 F2, I (i + 1) ρ2 ∧ Ex F1 F2 ∧ Sd K F0 H0 ρ2 σ2 F2 H2, fun σ2 H2 ⟨ρ2, F2, a1, a2, a3⟩ => ⟨xs.length - (i + 1), by omega, rfl, hl, ρ2, F2, a1, a2, a3⟩, fun v H2 hy => ?_⟩
    obtain ⟨F2, g2, n2⟩ := yl v H2 hy
    refine turn i xs[i] ρ' (List.getElem?_eq_getElem hl) hI F0 H0 σ' F2 H2 v _ (S'.grow g2) n2 fun ρ3 σ3 F3 H3 h3 x3 S3 => ?_
    have y3 : Ex F1 F3 := (x'.trans g2.ff).trans x3
    exact h3 F0 H0 σ3 F3 H3 _ S3 e (fun ρ4 σ4 F4 H4 h4 x4 S4 => ⟨ρ4, F4, h4, y3.trans x4, S4⟩) (fun d ρ4 w σ4 F4 H4 h4 x4 S4 n4 => k2 d ρ4 w σ4 F4 H4 h4 ((x1.trans y3).trans x4) S4 n4)
      (fun ρ4 σ4 F4 H4 h4 x4 S4 => k1 ρ4 σ4 F4 H4 h4 ((x1.trans y3).trans x4) S4) (fun ρ4 σ4 F4 H4 h4 x4 S4 => ⟨ρ4, F4, h4, y3.trans x4, S4⟩)
  · have e1 : i = xs.length := by omega
    subst e1
    exact .inl ⟨b (Nat.le_refl _), k1 ρ' σ' F' H' (fin ρ' hI) (x1.trans x') S'⟩

theorem wipe_get {σ : L2.St} : ∀ {vs : List Nat} {i : Nat}, (wipe σ vs)[i]? = if i ∈ vs ∧ i < σ.length then some none else σ[i]?
  | [], i => by simp [wipe]
  | v :: vs, i => by
    unfold wipe
    by_cases e : v = i
    · subst e
      by_cases hl : v < σ.length
      · rw [List.getElem?_set_self (by rw [wipe_length]; exact hl), if_pos ⟨List.mem_cons_self, hl⟩]
      · rw [if_neg (fun z => hl z.2), List.getElem?_eq_none (by rw [List.length_set, wipe_length]; omega), List.getElem?_eq_none (by omega)]
    · rw [List.getElem?_set_ne e, wipe_get]
      have : (i ∈ vs ∧ i < σ.length) ↔ (i ∈ v :: vs ∧ i < σ.length) := by
        rw [List.mem_cons]
        exact ⟨fun z => ⟨.inr z.1, z.2⟩, fun z => ⟨z.1.elim (fun q => absurd q.symm e) id, z.2⟩⟩
      simp only [this]
theorem wipeR_len {ρ : Rho} : ∀ {vs : List Nat}, (wipeR ρ vs).length = ρ.length
  | [] => rfl
  | v :: vs => by unfold wipeR; rw [List.length_set, wipeR_len]
theorem wipeR_get {ρ : Rho} : ∀ {vs : List Nat} {i : Nat}, (wipeR ρ vs)[i]? = if i ∈ vs ∧ i < ρ.length then some .un else ρ[i]?
  | [], i => by simp [wipeR]
  | v :: vs, i => by
    unfold wipeR
    by_cases e : v = i
    · subst e
      by_cases hl : v < ρ.length
      · rw [List.getElem?_set_self (by rw [wipeR_len]; exact hl), if_pos ⟨List.mem_cons_self, hl⟩]
      · rw [if_neg (fun z => hl z.2), List.getElem?_eq_none (by rw [List.length_set, wipeR_len]; omega), List.getElem?_eq_none (by omega)]
    · rw [List.getElem?_set_ne e, wipeR_get]
      have : (i ∈ vs ∧ i < ρ.length) ↔ (i ∈ v :: vs ∧ i < ρ.length) := by
        rw [List.mem_cons]
        exact ⟨fun z => ⟨.inr z.1, z.2⟩, fun z => ⟨z.1.elim (fun q => absurd q.symm e) id, z.2⟩⟩
      simp only [this]
theorem wipe_wipe {σ : L2.St} {vs : List Nat} : wipe (wipe σ vs) vs = wipe σ vs := by
  apply List.ext_getElem?
  intro i
  rw [wipe_get, wipe_get, wipe_length]
  split <;> rfl
theorem wipe_set {σ : L2.St} {vs : List Nat} {j : Nat} {x : Option V} (h : j ∈ vs) : wipe (σ.set j x) vs = wipe σ vs := by
  apply List.ext_getElem?
  intro i
  rw [wipe_get, wipe_get, List.length_set]
  split
  · rfl
  · rename_i c
    by_cases e : j = i
    · subst e
      have hl : ¬ j < σ.length := fun z => c ⟨h, z⟩
      rw [List.getElem?_eq_none (by rw [List.length_set]; omega), List.getElem?_eq_none (by omega)]
    · rw [List.getElem?_set_ne e]
theorem Sd.weak {F0 H0 F H : Hp} {σ σ' : L2.St} {ρ : Rho} {vs : List Nat} (S : Sd K F0 H0 (wipeR ρ vs) σ F H) (h : L2.wipe σ' vs = L2.wipe σ vs) : Sd K F0 H0 (wipeR ρ vs) σ' F H := by
  have hl : σ'.length = σ.length := by rw [← wipe_length σ' vs, h, wipe_length]
  refine ⟨S.g, by rw [hl]; exact S.len, fun i s hi => ?_, S.dj⟩
  by_cases c : i ∈ vs ∧ i < ρ.length
  · rw [wipeR_get, if_pos c] at hi
    cases hi
    trivial
  · have z := S.sl i s hi
    have il : i < ρ.length := by
      have := (List.getElem?_eq_some_iff.mp hi).1
      rwa [wipeR_len] at this
    have e1 : (L2.wipe σ' vs)[i]? = σ'[i]? := by rw [wipe_get, if_neg (fun q => c ⟨q.1, il⟩)]
    have e2 : (L2.wipe σ vs)[i]? = σ[i]? := by rw [wipe_get, if_neg (fun q => c ⟨q.1, il⟩)]
    rw [← e1, h, e2]
    exact z
theorem Sd.forget {F0 H0 F H : Hp} {σ : L2.St} {ρ : Rho} (S : Sd K F0 H0 ρ σ F H) (vs : List Nat) : Sd K F0 H0 (wipeR ρ vs) σ F H := (S.wipe vs).weak (σ' := σ) wipe_wipe.symm
def GT (g : TG) (vs : List Nat) : Prop := ∀ (v : V) (τ β : L2.St) (H : Hp) (Q : L2.St → Hp → Prop), wipe τ vs = β → g v τ H (fun σ2 H2 => wipe σ2 vs = β → Q σ2 H2) → g v τ H (fun σ2 H2 => wipe σ2 vs = β ∧ Q σ2 H2)
def GTs (g : TGs) (vs : List Nat) : Prop := ∀ (xs : List V) (τ β : L2.St) (H : Hp) (Q : L2.St → Hp → Prop), wipe τ vs = β → g xs τ H (fun σ2 H2 => wipe σ2 vs = β → Q σ2 H2) → g xs τ H (fun σ2 H2 => wipe σ2 vs = β ∧ Q σ2 H2)
theorem gt_name {j : Nat} {vs : List Nat} (h : j ∈ vs) : GT (gName j) vs := fun v τ β H Q e q => by
  have e' : wipe (τ.set j (some v)) vs = β := (wipe_set h).trans e
  exact ⟨e', q e'⟩
theorem gts_nil {vs : List Nat} : GTs gNil vs := fun xs τ β H Q e q => ⟨q.1, e, q.2 e⟩
theorem gts_name {j : Nat} {gs : TGs} {vs : List Nat} (h : j ∈ vs) (h2 : GTs gs vs) : GTs (gCons (gName j) gs) vs := fun xs τ β H Q e q => by
  obtain ⟨v, r, e1, q⟩ := q
  exact ⟨v, r, e1, h2 r _ β H Q ((wipe_set h).trans e) q⟩
theorem gt_tup {gs : TGs} {vs : List Nat} {n : Nat} (h : GTs gs vs) : GT (gTup K n gs) vs := fun v τ β H Q e q => by
  obtain ⟨a, xs, e1, h1, h2, q⟩ := q
  exact ⟨a, xs, e1, h1, h2, h xs τ β H Q e q⟩
theorem el_lc {wi : TI} {vs : List Nat} {Φ : List D → Rho → Prop} (hg : GT g vs)
    (h : EvI K E Ξ wi ρ fun xs ρ1 => xs.length < 100000 ∧ ∃ I : Nat → List D → Rho → Prop, I 0 [] (wipeR ρ1 vs) ∧
      (∀ i d acc ρ2, xs[i]? = some d → I i acc ρ2 → RunG K g d (wipeR ρ2 vs) fun ρ3 => EvT K (fun _ => E0) noX t ρ3 fun b ρ4 => (b = true → EvS K (fun _ => E0) noX te ρ4 fun e ρ5 => I (i + 1) (acc ++ [e]) (wipeR ρ5 vs)) ∧ (b = false → I (i + 1) acc (wipeR ρ4 vs))) ∧
      ∀ acc ρ2, I xs.length acc ρ2 → Φ acc ρ2) : EvL K E Ξ (tLc wi g t te vs) ρ Φ := by
  intro F0 H0 σ F H Q S e k
  refine h F0 H0 σ F H _ S e fun xs ρ1 J F1 H1 ⟨hlen, I, i0, turn, fin⟩ x1 S1 it => ?_
  intro Dl hD
  have hw : Sd K F0 H0 (wipeR ρ1 vs) σ F1 H1 := S1.forget vs
  have d0 : H0 Dl = none := S1.new0 hD
  have S2 : Sd K F0 H0 (wipeR ρ1 vs) σ F1 (upd H1 Dl (.lst [])) := hw.out d0 (fresh_F S1.fh hD) (hw.newAd hD)
  let P : Nat → Hp → Prop := fun i H' => ∃ (ρ' : Rho) (F' : Hp) (acc : List D) (ws : List V), I i acc ρ' ∧ acc.length ≤ i ∧ Ex F1 F' ∧ Sd K F0 H0 ρ' σ F' H' ∧ F' Dl = none ∧ (∀ (i : Nat) (s : Slot), ρ'[i]? = some s → s.ad ≠ some Dl) ∧ H' Dl = some (.lst ws) ∧ DnL K F' acc ws
  refine ⟨fun i m H' => m = xs.length - i ∧ i ≤ xs.length ∧ P i H', ⟨xs.length, rfl, Nat.zero_le _, _, F1, [], [], i0, Nat.le_refl _, Ex.refl F1, S2, fresh_F S1.fh hD, hw.newAd hD, upd_same, .nil⟩, ?_⟩
  rintro i m H' ⟨rfl, hi, ρ', F', acc, ws, hI, hacc, x', S', fD, nD, hDw, nn⟩
  obtain ⟨a, b⟩ := it i F' H' x' S'.fh
  by_cases hl : i < xs.length
  · obtain ⟨go, yl⟩ := a xs[i] (List.getElem?_eq_getElem hl)
    refine .inr ⟨go, fun H2 => P (i + 1) H2, fun H2 p2 => ⟨xs.length - (i + 1), by omega, rfl, hl, p2⟩, fun v H2 hy => ?_⟩
    obtain ⟨F2, g2, n2⟩ := yl v H2 hy
    have hD2 : H2 Dl = some (.lst ws) := g2.hh _ _ hDw
    have fD2 : F2 Dl = none := g2.nw Dl (by rw [hDw]; simp) fD
    have Sb : Sd K F0 H0 (wipeR ρ' vs) (wipe σ vs) F2 H2 := (S'.grow g2).wipe vs
    have nb : ∀ (i : Nat) (s : Slot), (wipeR ρ' vs)[i]? = some s → s.ad ≠ some Dl := fun i s hs => by
      rw [wipeR_get] at hs
      split at hs
      · cases hs
        intro z
        cases z
      · exact nD i s hs
    have dk : delS (wipeR ρ' vs) H2 Dl = some (.lst ws) := (delS_keep nb).trans hD2
    have x2 : Ex F1 F2 := x'.trans g2.ff
    refine hg v (wipe σ vs) (wipe σ vs) H2 _ wipe_wipe ?_
    refine turn i xs[i] acc ρ' (List.getElem?_eq_getElem hl) hI F2 _ (wipe σ vs) F2 H2 v _ Sb.rebase n2 fun ρ3 σ3 F3 H3 h3 x3 S3 hw3 => ?_
    refine h3 F2 _ σ3 F3 H3 _ S3 EOk.no fun c ρ4 F4 H4 h4 x4 S4 => ?_
    have back : ∀ {ρ5 : Rho} {F5 H5 : Hp}, Sd K F2 (delS (wipeR ρ' vs) H2) ρ5 σ3 F5 H5 → Sd K F0 H0 (wipeR ρ5 vs) σ F5 H5 ∧ H5 Dl = some (.lst ws) ∧ F5 Dl = none ∧ ∀ (i : Nat) (s : Slot), (wipeR ρ5 vs)[i]? = some s → s.ad ≠ some Dl := fun {ρ5 F5 H5} S5 => by
      have q1 : Sd K F2 (delS (wipeR ρ' vs) H2) (wipeR ρ5 vs) (wipe σ vs) F5 H5 := (hw3 ▸ S5.wipe vs)
      refine ⟨(Sb.unbase q1).weak (σ' := σ) wipe_wipe.symm, S5.g.hh _ _ dk, S5.g.nw Dl (by rw [dk]; simp) fD2, fun i s hs z => ?_⟩
      have := ((q1.sl i s hs).ad z).1
      rw [dk] at this
      cases this
    cases c with
    | true =>
      show te σ3 H4 fun y H5 => ∃ acc', H5 Dl = some (.lst acc') ∧ acc'.length < sizeLine ∧ P (i + 1) (upd H5 Dl (.lst (acc' ++ [y])))
      refine (h4.1 rfl) F2 _ σ3 F4 H4 _ S4 EOk.no fun q ρ5 y F5 H5 h5 x5 S5 n5 => ?_
      obtain ⟨b1, b2, b3, b4⟩ := back S5
      have x6 : Ex F' F5 := ((g2.ff.trans x3).trans x4).trans x5
      refine ⟨ws, b2, sz_lt (by rw [← nn.length]; omega), wipeR ρ5 vs, F5, acc ++ [q], ws ++ [y], h5, by rw [List.length_append]; exact Nat.succ_le_succ hacc, x'.trans x6, b1.out d0 b3 b4, b3, b4, upd_same, (nn.mono x6).snoc n5⟩
    | false =>
      show P (i + 1) H4
      obtain ⟨b1, b2, b3, b4⟩ := back S4
      have x6 : Ex F' F4 := (g2.ff.trans x3).trans x4
      exact ⟨wipeR ρ4 vs, F4, acc, ws, h4.2 rfl, Nat.le_succ_of_le hacc, x'.trans x6, b1, b3, b4, b2, nn.mono x6⟩
  · have e1 : i = xs.length := by omega
    subst e1
    exact .inl ⟨b (Nat.le_refl _), k acc ρ' Dl ws F' H' (fin acc ρ' hI) (x1.trans x') S' d0 fD nD hDw nn⟩
theorem et_yes {Φ : Bool → Rho → Prop} (h : Φ true ρ) : EvT K E Ξ tYes ρ Φ := fun F0 H0 σ F H Q S e k => k true ρ F H h (Ex.refl F) S
theorem el_map {wi : TI} {vs : List Nat} {Φ : List D → Rho → Prop} (hg : GT g vs) (f : D → D)
    (h : EvI K E Ξ wi ρ fun xs ρ1 => xs.length < 100000 ∧ (∀ d ∈ xs, RunG K g d (wipeR (wipeR ρ1 vs) vs) fun ρ3 => EvS K (fun _ => E0) noX te ρ3 fun e ρ5 => e = f d ∧ wipeR ρ5 vs = wipeR ρ1 vs) ∧ Φ (xs.map f) (wipeR ρ1 vs)) : EvL K E Ξ (tLc wi g tYes te vs) ρ Φ := by
  refine el_lc hg fun F0 H0 σ F H R S e k => h F0 H0 σ F H R S e fun xs ρ1 J F1 H1 ⟨h1, h2, h3⟩ => k xs ρ1 J F1 H1 ⟨h1, fun i acc ρ2 => acc = (xs.take i).map f ∧ ρ2 = wipeR ρ1 vs, ⟨rfl, rfl⟩, fun i d acc ρ2 hd ⟨ea, er⟩ => ?_, fun acc ρ2 ⟨ea, er⟩ => ?_⟩
  · subst er
    have hm : d ∈ xs := List.mem_of_getElem? hd
    intro F0 H0 σ F H v Q S n q
    refine h2 d hm F0 H0 σ F H v Q S n fun ρ3 σ3 F3 H3 h3 => q ρ3 σ3 F3 H3 (et_yes ⟨fun _ => h3.imp fun e ρ5 z => ⟨?_, z.2⟩, fun z => by cases z⟩)
    rw [ea, z.1, List.take_add_one, hd, List.map_append]
    rfl
  · subst ea er
    rw [List.take_length]
    exact h3
theorem el_filt {wi : TI} {vs : List Nat} {Φ : List D → Rho → Prop} (hg : GT g vs) (c : D → Bool) (f : D → D)
    (h : EvI K E Ξ wi ρ fun xs ρ1 => xs.length < 100000 ∧ (∀ d ∈ xs, RunG K g d (wipeR (wipeR ρ1 vs) vs) fun ρ3 => EvT K (fun _ => E0) noX t ρ3 fun b ρ4 => b = c d ∧ wipeR ρ4 vs = wipeR ρ1 vs ∧ (b = true → EvS K (fun _ => E0) noX te ρ4 fun e ρ5 => e = f d ∧ wipeR ρ5 vs = wipeR ρ1 vs)) ∧ Φ ((xs.filter c).map f) (wipeR ρ1 vs)) :
    EvL K E Ξ (tLc wi g t te vs) ρ Φ := by
  refine el_lc hg fun F0 H0 σ F H R S e k => h F0 H0 σ F H R S e fun xs ρ1 J F1 H1 ⟨h1, h2, h3⟩ => k xs ρ1 J F1 H1 ⟨h1, fun i acc ρ2 => acc = ((xs.take i).filter c).map f ∧ ρ2 = wipeR ρ1 vs, ⟨rfl, rfl⟩, fun i d acc ρ2 hd ⟨ea, er⟩ => ?_, fun acc ρ2 ⟨ea, er⟩ => ?_⟩
  · subst er
    have hm : d ∈ xs := List.mem_of_getElem? hd
    intro F0 H0 σ F H v Q S n q
    refine h2 d hm F0 H0 σ F H v Q S n fun ρ3 σ3 F3 H3 h3 => q ρ3 σ3 F3 H3 (h3.imp fun b ρ4 ⟨eb, e4, h4⟩ => ⟨fun eb1 => (h4 eb1).imp fun e ρ5 z => ⟨?_, z.2⟩, fun eb1 => ⟨?_, e4⟩⟩)
    · rw [ea, z.1, List.take_add_one, hd, List.filter_append, List.map_append]
      have : c d = true := by rw [← eb, eb1]
      simp [this]
    · rw [ea, List.take_add_one, hd, List.filter_append, List.map_append]
      have : c d = false := by rw [← eb, eb1]
      simp [this]
  · subst ea er
    rw [List.take_length]
    exact h3
end
end Z

namespace Z
open PySem PySem.Spec PyProof.Rows L2 Evl
variable {K : PySem.W.Frag}

abbrev Theta := Addr → Option (Str × D) → Prop
abbrev noT : Theta := fun _ _ => False
abbrev PP := List D → (D → Prop) → Theta → Prop
def spP (K : PySem.W.Frag) (P : PP) : Sp := fun vs H Q E => ∃ (ds : List D) (F : Hp) (Φ : D → Prop) (Θ : Theta), P ds Φ Θ ∧ Ex F H ∧ DnL K F ds vs ∧
  (∀ (d : D) (v : V) (F' H' : Hp), Φ d → Grow F H F' H' → Dn K F' d v → Q v H') ∧
  (∀ (C : Addr) (fld : Option (Str × D)) (dd : Option Addr) (F' H' : Hp), Θ C fld → Grow F H F' H' → ExOk K F' H' fld dd → E (.ref C) dd H')
def delA (p : Addr) (H : Hp) : Hp := fun a => if a = p then none else H a
theorem delA_ne {p a : Addr} {H : Hp} (h : a ≠ p) : delA p H a = H a := if_neg h
theorem delA_same {p : Addr} {H : Hp} : delA p H p = none := if_pos rfl
theorem delA_some {p a : Addr} {H : Hp} {o : HO} (h : delA p H a = some o) : H a = some o := by
  unfold delA at h
  split at h
  · cases h
  · exact h
abbrev PQ := List D → List D → (D → List D → Prop) → Prop
def spQ (K : PySem.W.Frag) (P : PQ) : Sp := fun vs H Q E => ∃ (p : Addr) (ws : List V) (xs : List D) (vs' : List V) (ds : List D) (F : Hp) (Ψ : D → List D → Prop), vs = .ref p :: vs' ∧ P xs ds Ψ ∧ Ex F H ∧ F p = none ∧ H p = some (.lst ws) ∧ DnL K F xs ws ∧ DnL K F ds vs' ∧
  ∀ (d : D) (xs2 : List D) (v : V) (ws2 : List V) (F' H' : Hp), Ψ d xs2 → Grow F (delA p H) F' H' → F' p = none → H' p = some (.lst ws2) → DnL K F' xs2 ws2 → Dn K F' d v → Q v H'

section
variable {E : L2.St → XK} {Ξ : Xi} {ρ : Rho} {ta tb tc te : TE} {tl : TA} {t : TT} {ts tu : TS} {i : Nat} {d : D} {ds : List D} {p : Addr} {g : TG} {F : Hp}
theorem ev_call {Φ : D → Rho → Prop} {P : PP} (h : EvA K E Ξ tl ρ fun ds ρ1 => ∃ Ψ Θ, P ds Ψ Θ ∧ (∀ d, Ψ d → Φ d ρ1) ∧ ∀ C fld, Θ C fld → Ξ C fld ρ1) : EvS K E Ξ (tCallSD (spP K P) [] E tl) ρ Φ := fun F0 H0 σ F H Q S e k =>
  h F0 H0 σ F H _ S e fun ds ρ1 vs F1 H1 ⟨Ψ, Θ, h1, h2, h3⟩ x1 S1 n1 => by
    rw [List.append_nil]
    exact ⟨ds, F1, Ψ, Θ, h1, S1.fh, n1, fun d v F' H' hd g n => k d ρ1 v F' H' (h2 d hd) (x1.trans g.ff) (S1.grow g) n, fun C fld dd F' H' hc g x => e C fld ρ1 σ dd F' H' (h3 C fld hc) (S1.grow g) x⟩
theorem Sd.called {F0 H0 F H F' H' : Hp} {σ : L2.St} {es : List D} {us : List V} (S : Sd K F0 H0 ρ σ F H) (h : ρ[i]? = some (.ol p ds)) (g : Grow F (delA p H) F' H') (hf : F' p = none) (hh : H' p = some (.lst us)) (n : DnL K F' es us) : Sd K F0 H0 (ρ.set i (.ol p es)) σ F' H' := by
  obtain ⟨e1, e2, e3, _⟩ := S.own h
  have hl : i < ρ.length := (List.getElem?_eq_some_iff.mp h).1
  have ne : ∀ a, H0 a ≠ none → a ≠ p := fun a ha z => ha (z ▸ e2)
  refine ⟨⟨S.g.ff.trans g.ff, fun a o ha => g.hh a o (by rw [delA_ne (ne a (by rw [ha]; simp))]; exact S.g.hh a o ha), g.fh, fun a h1 h2 => g.nw a ?_ (S.g.nw a h1 h2)⟩, by rw [List.length_set, S.len], fun j t hj => ?_, fun j k t u r h1 h2 h3 h4 => ?_⟩
  · rw [delA_ne (ne a h1)]
    cases q : H0 a with
    | none => exact absurd q h1
    | some o => rw [S.g.hh a o q]; simp
  · by_cases e : i = j
    · subst e
      rw [List.getElem?_set_self hl] at hj
      cases hj
      exact ⟨by rw [e1] <;> rfl, e2, hf, us, hh, n⟩
    · rw [get_set_ne e] at hj
      have z := S.sl j t hj
      have nad : ∀ r, t.ad = some r → r ≠ p := fun r hr c => e (S.dj i j _ t p h hj rfl (by rw [hr, c]))
      cases t with
      | un => trivial
      | dt d => obtain ⟨v, a, b⟩ := z; exact ⟨v, a, b.mono g.ff⟩
      | ol r rs => obtain ⟨a, b, c, ws, x, y⟩ := z; have q := delA_ne (H := H) (nad r rfl); exact ⟨a, b, g.nw r (by rw [q, x]; simp) c, ws, g.hh _ _ (by rw [q]; exact x), y.mono g.ff⟩
      | od r kk rs => obtain ⟨a, b, c, ws, x, l, y⟩ := z; have q := delA_ne (H := H) (nad r rfl); exact ⟨a, b, g.nw r (by rw [q, x]; simp) c, ws, g.hh _ _ (by rw [q]; exact x), l, y.mono g.ff⟩
  · have back : ∀ (j : Nat) (t : Slot), (ρ.set i (.ol p es))[j]? = some t → ∃ t', ρ[j]? = some t' ∧ t'.ad = t.ad := fun j t hj => by
      by_cases e : i = j
      · subst e
        rw [List.getElem?_set_self hl] at hj
        cases hj
        exact ⟨_, h, rfl⟩
      · rw [get_set_ne e] at hj
        exact ⟨t, hj, rfl⟩
    obtain ⟨t', a1, a2⟩ := back j t h1
    obtain ⟨u', b1, b2⟩ := back k u h2
    exact S.dj j k t' u' r a1 b1 (a2.trans h3) (b2.trans h4)
theorem ev_callQ {Φ : D → Rho → Prop} {P : PQ} (h0 : ρ[i]? = some (.ol p ds)) (h : EvA K E Ξ tl ρ fun as ρ1 => ∃ xs, ρ1[i]? = some (.ol p xs) ∧ ∃ Ψ, P xs as Ψ ∧ ∀ d xs2, Ψ d xs2 → Φ d (ρ1.set i (.ol p xs2))) : EvS K E Ξ (tCallSD (spQ K P) [] E (tCons (tVar i) tl)) ρ Φ := fun F0 H0 σ F H Q S e k => by
  obtain ⟨e1, _⟩ := S.own h0
  refine ⟨.ref p, e1, h F0 H0 σ F H _ S e fun as ρ1 vs F1 H1 ⟨xs, h1, Ψ, h2, h3⟩ x1 S1 n1 => ?_⟩
  obtain ⟨_, _, f1, ws, h5, n5⟩ := S1.own h1
  rw [List.append_nil]
  exact ⟨p, ws, xs, vs, as, F1, Ψ, rfl, h2, S1.fh, f1, h5, n5, n1, fun d xs2 v ws2 F' H' hd g a b c n => k d _ v F' H' (h3 d xs2 hd) (x1.trans g.ff) (S1.called h1 g a b c) n⟩

def endO (Φ : D → Prop) : Out → Prop := fun o => match o with
  | .rt d _ => Φ d
  | .nx _ => Φ .non
  | _ => False
def endQ (p : Addr) (Ψ : D → List D → Prop) : Out → Prop := fun o => match o with
  | .rt d ρ => ∃ xs, ρ[0]? = some (.ol p xs) ∧ Ψ d xs
  | .nx ρ => ∃ xs, ρ[0]? = some (.ol p xs) ∧ Ψ .non xs
  | _ => False
def rho0 (n : Nat) (ds : List D) : Rho := ds.map Slot.dt ++ List.replicate (n - ds.length) .un
def rhoQ (n : Nat) (p : Addr) (xs : List D) (ds : List D) : Rho := .ol p xs :: (ds.map Slot.dt ++ List.replicate (n - (ds.length + 1)) .un)
theorem start_get {N : List Str} {vs : List V} {i : Nat} {v : V} (h : vs[i]? = some v) : (L2.start N vs)[i]? = some (some v) := by
  unfold L2.start
  rw [List.getElem?_append_left (by rw [List.length_map]; exact (List.getElem?_eq_some_iff.mp h).1), List.getElem?_map, h]
  rfl
theorem rep_un {n i : Nat} {s : Slot} (h : (List.replicate n Slot.un)[i]? = some s) : s = .un := by
  rw [List.getElem?_replicate] at h
  split at h
  · cases h; rfl
  · cases h
theorem body_pure {N : List Str} {P : PP} {ts : TS} {vs : List V} {H : Hp} {Q : VK} {E' : XK} 
    (h : ∀ ds Φ Θ, P ds Φ Θ → RunS K (fun _ => E') (fun C fld _ => Θ C fld) ts (rho0 N.length ds) (endO Φ)) (sp : spP K P vs H Q E') : ts { nx := fun _ H' => Q .non H', rt := Q } (L2.start N vs) H := by
  obtain ⟨ds, F, Φ, Θ, h1, x, n, q, qe⟩ := sp
  have hlen := n.length
  have S : Sd K F H (rho0 N.length ds) (L2.start N vs) F H := by
    refine ⟨Grow.refl x, ?_, fun i s hi => ?_, fun i j s t p h1 h2 h3 h4 => ?_⟩
    · unfold L2.start rho0
      rw [List.length_append, List.length_append, List.length_map, List.length_map, List.length_replicate, List.length_replicate, hlen]
    · unfold rho0 at hi
      by_cases c : i < ds.length
      · rw [List.getElem?_append_left (by rw [List.length_map]; exact c), List.getElem?_map, List.getElem?_eq_getElem c] at hi
        cases hi
        obtain ⟨v, hv, nv⟩ := n.get (List.getElem?_eq_getElem c)
        exact ⟨v, by rw [start_get hv] <;> rfl, nv⟩
      · rw [List.getElem?_append_right (by rw [List.length_map]; omega)] at hi
        rw [rep_un hi]
        trivial
    · unfold rho0 at h1
      by_cases c : i < ds.length
      · rw [List.getElem?_append_left (by rw [List.length_map]; exact c), List.getElem?_map, List.getElem?_eq_getElem c] at h1
        cases h1
        cases h3
      · rw [List.getElem?_append_right (by rw [List.length_map]; omega)] at h1
        rw [rep_un h1] at h3
        cases h3
  refine h ds Φ Θ h1 F H (L2.start N vs) F H _ S (fun C fld ρ σ dd F' H' hc S' x' => qe C fld dd F' H' hc S'.g x') (fun ρ' σ' F' H' hn x' S' => q .non .non F' H' hn S'.g (dn_non.mpr rfl)) (fun d ρ' v σ' F' H' hr x' S' nv => q d v F' H' hr S'.g nv) (fun ρ' σ' F' H' hb => hb.elim) (fun ρ' σ' F' H' hb => hb.elim)
theorem body_own {N : List Str} {P : PQ} {ts : TS} {vs : List V} {H : Hp} {Q : VK} {E' : XK} 
    (h : ∀ xs ds Ψ, P xs ds Ψ → ∀ p, RunS K (fun _ => E') noX ts (rhoQ N.length p xs ds) (endQ p Ψ)) (sp : spQ K P vs H Q E') : ts { nx := fun _ H' => Q .non H', rt := Q } (L2.start N vs) H := by
  obtain ⟨p, ws, xs, vs', ds, F, Ψ, rfl, h1, x, fp, hp, nx, n, q⟩ := sp
  have hlen := n.length
  have S : Sd K F (delA p H) (rhoQ N.length p xs ds) (L2.start N (.ref p :: vs')) F H := by
    refine ⟨⟨Ex.refl F, fun a o ha => delA_some ha, x, fun a _ h => h⟩, ?_, fun i s hi => ?_, fun i j s t r h1 h2 h3 h4 => ?_⟩
    · unfold L2.start rhoQ
      simp only [List.length_append, List.length_cons, List.length_map, List.length_replicate, hlen]
      omega
    · cases i with
      | zero =>
        cases hi
        exact ⟨by rw [start_get (v := .ref p) rfl] <;> rfl, delA_same, fp, ws, hp, nx⟩
      | succ i =>
        have hi' : (ds.map Slot.dt ++ List.replicate (N.length - (ds.length + 1)) .un)[i]? = some s := hi
        by_cases c : i < ds.length
        · rw [List.getElem?_append_left (by rw [List.length_map]; exact c), List.getElem?_map, List.getElem?_eq_getElem c] at hi'
          cases hi'
          obtain ⟨v, hv, nv⟩ := n.get (List.getElem?_eq_getElem c)
          exact ⟨v, by rw [start_get (N := N) (vs := .ref p :: vs') (i := i + 1) (v := v) hv] <;> rfl, nv⟩
        · rw [List.getElem?_append_right (by rw [List.length_map]; omega)] at hi'
          rw [rep_un hi']
          trivial
    · have only : ∀ (i : Nat) (s : Slot), (rhoQ N.length p xs ds)[i]? = some s → s.ad = some r → i = 0 := fun i s hi hr => by
        cases i with
        | zero => rfl
        | succ i =>
          have hi' : (ds.map Slot.dt ++ List.replicate (N.length - (ds.length + 1)) .un)[i]? = some s := hi
          by_cases c : i < ds.length
          · rw [List.getElem?_append_left (by rw [List.length_map]; exact c), List.getElem?_map, List.getElem?_eq_getElem c] at hi'
            cases hi'
            cases hr
          · rw [List.getElem?_append_right (by rw [List.length_map]; omega)] at hi'
            rw [rep_un hi'] at hr
            cases hr
      rw [only i s h1 h3, only j t h2 h4]
  refine h xs ds Ψ h1 p F _ (L2.start N (.ref p :: vs')) F H _ S EOk.no (fun ρ' σ' F' H' ⟨xs2, e, hn⟩ x' S' => ?_) (fun d ρ' v σ' F' H' ⟨xs2, e, hr⟩ x' S' nv => ?_) (fun ρ' σ' F' H' hb => hb.elim) (fun ρ' σ' F' H' hb => hb.elim)
  · obtain ⟨_, _, a, ws2, b, c⟩ := S'.own e
    exact q .non xs2 .non ws2 F' H' hn S'.g a b c (dn_non.mpr rfl)
  · obtain ⟨_, _, a, ws2, b, c⟩ := S'.own e
    exact q d xs2 v ws2 F' H' hr S'.g a b c nv

def lookD : List Str → List D → Str → Option D
  | k :: ks, d :: ds, f => if f == k then some d else lookD ks ds f
  | _, _, _ => none
theorem lookD_ok {F : Hp} {f : Str} : ∀ {ks : List Str} {ds : List D} {xs : List V} {d : D}, DnL K F ds xs → lookD ks ds f = some d → ∃ v, (ks.zip xs).lookup f = some v ∧ Dn K F d v
  | [], _, _, _, _, h => by simp [lookD] at h
  | _ :: _, [], _, _, _, h => by simp [lookD] at h
  | k :: ks, e :: es, xs, d, n, h => by
    obtain ⟨v, r, ex, n1, n2⟩ := dnl_cons.mp n
    subst ex
    unfold lookD at h
    rw [List.zip_cons_cons, List.lookup_cons]
    cases c : f == k with
    | true =>
      rw [c, if_pos rfl] at h
      cases h
      exact ⟨v, rfl, n1⟩
    | false =>
      rw [c, if_neg (by decide)] at h
      exact lookD_ok n2 h
theorem ev_fld {Φ : D → Rho → Prop} {f : Str} (h : EvS K E Ξ te ρ fun d ρ1 => ∃ C ks ds e, d = .obj C ks ds ∧ Cls K C ∧ NoAttr K C f ∧ lookD ks ds f = some e ∧ Φ e ρ1) : EvS K E Ξ (tFld K te f) ρ Φ := fun F0 H0 σ F H Q S e k =>
  h F0 H0 σ F H _ S e fun d ρ1 v F1 H1 ⟨C, ks, ds, q, ed, c, na, l, h1⟩ x1 S1 n1 => by
    subst ed
    obtain ⟨a, dx, xs, e1, h2, h3, hl, n2⟩ := dn_obj.mp n1
    obtain ⟨u, l2, n3⟩ := lookD_ok n2 l
    exact ⟨a, C, dx, _, u, e1, S1.fh _ _ h2, c, na, l2, k q ρ1 u F1 H1 h1 x1 S1 n3⟩
end
end Z

namespace Z
open PySem PySem.Spec PyProof.Rows L2 Evl
variable {K : PySem.W.Frag}

mutual
def py : D → PyData
  | .non => .none | .bl b => .bool b | .int i => .int i | .str s => .str s
  | .tup ds => .tuple (pyL ds) | .lst ds => .list (pyL ds) | _ => .none
def pyL : List D → List PyData
  | [] => []
  | d :: ds => py d :: pyL ds
end
mutual
def okD : Nat → D → Bool
  | _, .non => true | _, .bl _ => true | _, .int _ => true | _, .str s => PyData.strOk s
  | n + 1, .tup ds => okL n ds | n + 1, .lst ds => okL n ds | _, _ => false
def okL : Nat → List D → Bool
  | _, [] => true
  | n, d :: ds => okD n d && okL n ds
end
mutual
theorem okD_lay : ∀ (n : Nat) (d : D), okD n d = true → (py d).canLay0 = true ∧ (py d).depth ≤ n
  | n, .non, _ => by unfold py; exact ⟨by simp [PyData.canLay0], by simp [PyData.depth]⟩
  | n, .bl _, _ => by unfold py; exact ⟨by simp [PyData.canLay0], by simp [PyData.depth]⟩
  | n, .int _, _ => by unfold py; exact ⟨by simp [PyData.canLay0], by simp [PyData.depth]⟩
  | n, .str s, h => by
    unfold py
    unfold okD at h
    exact ⟨by simpa [PyData.canLay0] using h, by simp [PyData.depth]⟩
  | 0, .tup ds, h => by unfold okD at h; cases h
  | n + 1, .tup ds, h => by
    unfold py
    unfold okD at h
    have z := okL_lay n ds h
    exact ⟨by simpa [PyData.canLay0] using z.1, by simpa [PyData.depth] using z.2⟩
  | 0, .lst ds, h => by unfold okD at h; cases h
  | n + 1, .lst ds, h => by
    unfold py
    unfold okD at h
    have z := okL_lay n ds h
    exact ⟨by simpa [PyData.canLay0] using z.1, by simpa [PyData.depth] using z.2⟩
  | 0, .dic _ _, h => by unfold okD at h; cases h
  | n + 1, .dic _ _, h => by unfold okD at h; cases h
  | 0, .obj _ _ _, h => by unfold okD at h; cases h
  | n + 1, .obj _ _ _, h => by unfold okD at h; cases h
  | 0, .scr _, h => by unfold okD at h; cases h
  | n + 1, .scr _, h => by unfold okD at h; cases h
theorem okL_lay : ∀ (n : Nat) (ds : List D), okL n ds = true → PyData.canLayAll0 (pyL ds) = true ∧ PyData.depthAll (pyL ds) ≤ n
  | n, [], _ => by unfold pyL; exact ⟨by simp [PyData.canLayAll0], by simp [PyData.depthAll]⟩
  | n, d :: ds, h => by
    unfold pyL
    unfold okL at h
    have h' := Bool.and_eq_true_iff.mp h
    have z1 := okD_lay n d h'.1
    have z2 := okL_lay n ds h'.2
    exact ⟨by rw [PyData.canLayAll0, z1.1, z2.1]; rfl, by rw [PyData.depthAll]; exact Nat.max_le.mpr ⟨z1.2, z2.2⟩⟩
end
theorem okD_shaped {d : D} {n : Nat} (h : okD n d = true) (hn : n ≤ 64 := by decide) : SeqAt.shaped (py d) = true := by
  have z := okD_lay n d h
  unfold SeqAt.shaped
  rw [z.1, decide_eq_true (Nat.le_trans z.2 hn)]
  rfl
mutual
theorem dn_dp {F : Hp} : ∀ (n : Nat) (d : D) (v : V), okD n d = true → Dn K F d v → Dp K F v (py d)
  | n, .non, v, _, h => by rw [dn_non.mp h]; unfold py; exact .non
  | n, .bl b, v, _, h => by rw [dn_bl.mp h]; unfold py; exact .bl b
  | n, .int i, v, _, h => by rw [dn_int.mp h]; unfold py; exact .int i
  | n, .str s, v, _, h => by rw [dn_str.mp h]; unfold py; exact .str s
  | 0, .tup ds, v, k, h => by unfold okD at k; cases k
  | n + 1, .tup ds, v, k, h => by
    unfold okD at k
    obtain ⟨a, xs, e, h1, h2⟩ := dn_tup.mp h
    rw [e]
    unfold py
    exact .tup h1 (dnl_dp n ds xs k h2)
  | 0, .lst ds, v, k, h => by unfold okD at k; cases k
  | n + 1, .lst ds, v, k, h => by
    unfold okD at k
    obtain ⟨a, xs, e, h1, h2⟩ := dn_lst.mp h
    rw [e]
    unfold py
    exact .lst (.inl (.inl h1)) (dnl_dp n ds xs k h2)
  | 0, .dic _ _, _, h, _ => by unfold okD at h; cases h
  | n + 1, .dic _ _, _, h, _ => by unfold okD at h; cases h
  | 0, .obj _ _ _, _, h, _ => by unfold okD at h; cases h
  | n + 1, .obj _ _ _, _, h, _ => by unfold okD at h; cases h
  | 0, .scr _, _, h, _ => by unfold okD at h; cases h
  | n + 1, .scr _, _, h, _ => by unfold okD at h; cases h
theorem dnl_dp {F : Hp} : ∀ (n : Nat) (ds : List D) (vs : List V), okL n ds = true → DnL K F ds vs → DpAll K F vs (pyL ds)
  | n, [], vs, _, h => by rw [dnl_nil.mp h]; unfold pyL; exact .nil
  | n, d :: ds, vs, k, h => by
    unfold okL at k
    have k' := Bool.and_eq_true_iff.mp k
    obtain ⟨v, r, e, h1, h2⟩ := dnl_cons.mp h
    rw [e]
    unfold pyL
    exact .cons (dn_dp n d v k'.1 h1) (dnl_dp n ds r k'.2 h2)
end
def deq (x y : D) : Bool := PyData.eqv (py x) (py y)
def deqL (x y : List D) : Bool := PyData.eqvAll (pyL x) (pyL y)
theorem deq_refl {n : Nat} {d : D} (h : okD n d = true) : deq d d = true := SeqAt.eqv_refl _ (okD_lay n d h).1
@[simp] theorem deq_str {x y : Str} : deq (.str x) (.str y) = (x == y) := by unfold deq py; simp [PyData.eqv]
@[simp] theorem deq_int {x y : Int} : deq (.int x) (.int y) = (x == y) := by unfold deq py; simp [PyData.eqv]
@[simp] theorem deq_bl {x y : Bool} : deq (.bl x) (.bl y) = (x == y) := by unfold deq py; simp [PyData.eqv]
@[simp] theorem deq_tup {x y : List D} : deq (.tup x) (.tup y) = deqL x y := by unfold deq deqL py; simp [PyData.eqv]
@[simp] theorem deq_lst {x y : List D} : deq (.lst x) (.lst y) = deqL x y := by unfold deq deqL py; simp [PyData.eqv]
@[simp] theorem deq_non_str {y : Str} : deq .non (.str y) = false := by unfold deq py; simp [PyData.eqv]
@[simp] theorem deq_str_non {y : Str} : deq (.str y) .non = false := by unfold deq py; simp [PyData.eqv]
@[simp] theorem deq_non : deq .non .non = true := by unfold deq py; simp [PyData.eqv]
@[simp] theorem deq_int_str {x : Int} {y : Str} : deq (.int x) (.str y) = false := by unfold deq py; simp [PyData.eqv]
@[simp] theorem deq_str_int {x : Int} {y : Str} : deq (.str y) (.int x) = false := by unfold deq py; simp [PyData.eqv]
@[simp] theorem deq_non_int {x : Int} : deq .non (.int x) = false := by unfold deq py; simp [PyData.eqv]
@[simp] theorem deq_int_non {x : Int} : deq (.int x) .non = false := by unfold deq py; simp [PyData.eqv]
@[simp] theorem deqL_nil : deqL [] [] = true := by unfold deqL pyL; simp [PyData.eqvAll]
@[simp] theorem deqL_cons {x y : D} {xs ys : List D} : deqL (x :: xs) (y :: ys) = (deq x y && deqL xs ys) := by unfold deqL deq; rw [pyL, pyL, PyData.eqvAll]
@[simp] theorem deqL_nc {y : D} {ys : List D} : deqL [] (y :: ys) = false := by unfold deqL pyL; simp [PyData.eqvAll]
@[simp] theorem deqL_cn {y : D} {ys : List D} : deqL (y :: ys) [] = false := by unfold deqL pyL; simp [PyData.eqvAll]

section
variable {Ψ : D → Prop} {x y : D}
theorem Op2.imp {r : R2} {Ψ' : D → Prop} (h : Op2 K r x y Ψ) (k : ∀ d, Ψ d → Ψ' d) : Op2 K r x y Ψ' := fun F H v w Q e a b q => h F H v w Q e a b fun d u F' H' z => q d u F' H' (k d z)
theorem op2_l {r r' : R2} (h : Op2 K r x y Ψ) : Op2 K (fun x y H Q => r x y H Q ∨ r' x y H Q) x y Ψ := fun F H v w Q e a b q => .inl (h F H v w Q e a b q)
theorem op2_r {r r' : R2} (h : Op2 K r' x y Ψ) : Op2 K (fun x y H Q => r x y H Q ∨ r' x y H Q) x y Ψ := fun F H v w Q e a b q => .inr (h F H v w Q e a b q)
theorem op2_I0 {g : Int → Int → V} {i j : Int} {d : D} (hd : ∀ F, Dn K F d (g i j)) (h : Ψ d) : Op2 K (rI0 g) (.int i) (.int j) Ψ := fun F H v w Q e a b q => ⟨i, j, dn_int.mp a, dn_int.mp b, q d _ F H h (Grow.refl e) (hd F)⟩
theorem op2_I {C : Int → Int → Prop} {g : Int → Int → V} {i j : Int} {d : D} (hd : ∀ F, Dn K F d (g i j)) (hc : C i j) (h : Ψ d) : Op2 K (rI C g) (.int i) (.int j) Ψ := fun F H v w Q e a b q => ⟨i, j, dn_int.mp a, dn_int.mp b, hc, q d _ F H h (Grow.refl e) (hd F)⟩
abbrev rAddS : R2 := fun x y H Q => ∃ i j, x = V.str i ∧ y = V.str j ∧ i.length + j.length ≤ sizeLine ∧ Q (.str (i ++ j)) H
abbrev rAddU (K : PySem.W.Frag) : R2 := fun x y H Q => rI0 (fun i j => .int (i + j)) x y H Q ∨ (rAddS x y H Q ∨ (rCat x y H Q ∨ rCatA K x y H Q))
theorem op_addU {X : Cx} : OpR X (binaryOp .Add) (rAddU X.K) := OpR.or op_add (OpR.or op_add_str (OpR.or op_cat op_catA))
theorem o_add {i j : Int} (h : Ψ (.int (i + j))) : Op2 K (rAddU K) (.int i) (.int j) Ψ := op2_l (op2_I0 (fun _ => dn_int.mpr rfl) h)
theorem o_addS {i j : Str} (hl : i.length + j.length ≤ 100000) (h : Ψ (.str (i ++ j))) : Op2 K (rAddU K) (.str i) (.str j) Ψ := op2_r (op2_l fun F H v w Q e a b q => ⟨i, j, dn_str.mp a, dn_str.mp b, sz_of hl, q _ _ F H h (Grow.refl e) (dn_str.mpr rfl)⟩)
theorem o_addL {xs ys : List D} (hl : xs.length + ys.length ≤ 100000) (h : Ψ (.lst (xs ++ ys))) : Op2 K (rAddU K) (.lst xs) (.lst ys) Ψ := op2_r (op2_r (op2_l fun F H v w Q e a b q => by
  obtain ⟨p, vs, e1, h1, n1⟩ := dn_lst.mp a
  obtain ⟨p', us, e2, h2, n2⟩ := dn_lst.mp b
  refine ⟨p, p', vs, us, e1, e2, e _ _ h1, e _ _ h2, sz_of (by rw [← n1.length, ← n2.length]; exact hl), fun r hr => ?_⟩
  have g := Grow.new (o := .lst (vs ++ us)) e hr
  exact q _ _ _ _ h g (dn_lst.mpr ⟨r, _, rfl, upd_same, (n1.mono g.ff).append (n2.mono g.ff)⟩)))
theorem o_addT {xs ys : List D} (hl : xs.length + ys.length ≤ 100000) (h : Ψ (.tup (xs ++ ys))) : Op2 K (rAddU K) (.tup xs) (.tup ys) Ψ := op2_r (op2_r (op2_r fun F H v w Q e a b q => by
  obtain ⟨p, vs, e1, h1, n1⟩ := dn_tup.mp a
  obtain ⟨p', us, e2, h2, n2⟩ := dn_tup.mp b
  refine ⟨p, p', vs, us, e1, e2, ex_t e h1, ex_t e h2, sz_of (by rw [← n1.length, ← n2.length]; exact hl), fun z => ?_, fun z z' => ?_, fun z z' r hr => ?_⟩
  · have e0 : xs = [] := by
      have := n1.length
      rw [z] at this
      exact List.length_eq_zero_iff.mp this
    subst e0
    exact q _ _ F H h (Grow.refl e) (dn_tup.mpr ⟨p', us, rfl, h2, n2⟩)
  · have e0 : ys = [] := by
      have := n2.length
      rw [z'] at this
      exact List.length_eq_zero_iff.mp this
    subst e0
    rw [List.append_nil] at h
    exact q _ _ F H h (Grow.refl e) (dn_tup.mpr ⟨p, vs, rfl, h1, n1⟩)
  · have g := Grow.new (o := .tup (vs ++ us)) e hr
    exact q _ _ _ _ h g (dn_tup.mpr ⟨r, _, rfl, .inl (.inl upd_same), (n1.mono g.ff).append (n2.mono g.ff)⟩)))
theorem o_sub {i j : Int} (h : Ψ (.int (i - j))) : Op2 K (rI0 fun i j => .int (i - j)) (.int i) (.int j) Ψ := op2_I0 (fun _ => dn_int.mpr rfl) h
theorem o_mul {i j : Int} (hc : CMulW i j) (h : Ψ (.int (i * j))) : Op2 K (rI CMulW fun i j => .int (i * j)) (.int i) (.int j) Ψ := op2_I (fun _ => dn_int.mpr rfl) hc h
theorem o_fdiv {i j : Int} (hc : CDiv i j) (h : Ψ (.int (i / j))) : Op2 K (rI CDiv fun i j => .int (i / j)) (.int i) (.int j) Ψ := op2_I (fun _ => dn_int.mpr rfl) hc h
theorem o_mod {i j : Int} (hc : 0 < j) (h : Ψ (.int (i % j))) : Op2 K (rI (fun _ j => 0 < j) fun i j => .int (i % j)) (.int i) (.int j) Ψ := op2_I (fun _ => dn_int.mpr rfl) hc h
theorem o_pow {i j : Int} (hc : CPow i j) (h : Ψ (.int (i ^ j.toNat))) : Op2 K (rI CPow fun i j => .int (i ^ j.toNat)) (.int i) (.int j) Ψ := op2_I (fun _ => dn_int.mpr rfl) hc h
abbrev rCmpU (p : Int → Int → Bool) (q : List Nat → List Nat → Bool) : R2 := fun x y H Q => rI0 (fun i j => .bl (p i j)) x y H Q ∨ ∃ i j, x = V.str i ∧ y = V.str j ∧ Q (.bl (q i.cps.toList j.cps.toList)) H
abbrev rLtU : R2 := rCmpU (fun i j => decide (i < j)) fun i j => decide (i < j)
abbrev rLeU : R2 := rCmpU (fun i j => decide (i ≤ j)) fun i j => !decide (j < i)
abbrev rGtU : R2 := rCmpU (fun i j => decide (j < i)) fun i j => decide (j < i)
abbrev rGeU : R2 := rCmpU (fun i j => decide (j ≤ i)) fun i j => !decide (i < j)
theorem op_ltU {X : Cx} : OpR X (compareOp .Lt) rLtU := OpR.or op_lt op_lt_str
theorem op_leU {X : Cx} : OpR X (compareOp .LtE) rLeU := OpR.or op_le op_le_str
theorem op_gtU {X : Cx} : OpR X (compareOp .Gt) rGtU := OpR.or op_gt op_gt_str
theorem op_geU {X : Cx} : OpR X (compareOp .GtE) rGeU := OpR.or op_ge op_ge_str
theorem o_cmp {p : Int → Int → Bool} {q : List Nat → List Nat → Bool} {i j : Int} (h : Ψ (.bl (p i j))) : Op2 K (rCmpU p q) (.int i) (.int j) Ψ := op2_l (op2_I0 (fun _ => dn_bl.mpr rfl) h)
theorem o_cmpS {p : Int → Int → Bool} {q : List Nat → List Nat → Bool} {i j : Str} (h : Ψ (.bl (q i.cps.toList j.cps.toList))) : Op2 K (rCmpU p q) (.str i) (.str j) Ψ := op2_r fun F H v w Q e a b k => ⟨i, j, dn_str.mp a, dn_str.mp b, k _ _ F H h (Grow.refl e) (dn_bl.mpr rfl)⟩
theorem o_eqD {n m : Nat} (hx : okD n x = true) (hy : okD m y = true) (h : Ψ (.bl (deq x y))) (hn : n ≤ 64 := by decide) (hm : m ≤ 64 := by decide) : Op2 K (rEqD K) x y Ψ := fun F H v w Q e a b q =>
  ⟨py x, py y, dn_dp n x v hx (a.mono e), dn_dp m y w hy (b.mono e), okD_shaped hx hn, okD_shaped hy hm, q _ _ F H h (Grow.refl e) (dn_bl.mpr rfl)⟩
theorem o_neD {n m : Nat} (hx : okD n x = true) (hy : okD m y = true) (h : Ψ (.bl (!deq x y))) (hn : n ≤ 64 := by decide) (hm : m ≤ 64 := by decide) : Op2 K (rNeD K) x y Ψ := fun F H v w Q e a b q =>
  ⟨py x, py y, dn_dp n x v hx (a.mono e), dn_dp m y w hy (b.mono e), okD_shaped hx hn, okD_shaped hy hm, q _ _ F H h (Grow.refl e) (dn_bl.mpr rfl)⟩
def isNon : D → Bool
  | .non => true
  | _ => false
theorem dn_isNon {F : Hp} {v : V} : ∀ {x : D}, Dn K F x v → decide (v = .non) = isNon x
  | .non, h => by rw [dn_non.mp h]; rfl
  | .bl _, h => by rw [dn_bl.mp h]; rfl
  | .int _, h => by rw [dn_int.mp h]; rfl
  | .str _, h => by rw [dn_str.mp h]; rfl
  | .tup _, h => by obtain ⟨_, _, e, _⟩ := dn_tup.mp h; rw [e]; rfl
  | .lst _, h => by obtain ⟨_, _, e, _⟩ := dn_lst.mp h; rw [e]; rfl
  | .dic _ _, h => by obtain ⟨_, _, e, _⟩ := dn_dic.mp h; rw [e]; rfl
  | .obj _ _ _, h => by obtain ⟨_, _, _, e, _⟩ := dn_obj.mp h; rw [e]; rfl
  | .scr _, h => by obtain ⟨_, e, _⟩ := dn_scr.mp h; rw [e]; rfl
abbrev rIsN : R2 := fun x y H Q => y = .non ∧ Q (.bl (decide (x = .non))) H
abbrev rNotN : R2 := fun x y H Q => y = .non ∧ Q (.bl (!decide (x = .non))) H
theorem o_isN (h : Ψ (.bl (isNon x))) : Op2 K rIsN x .non Ψ := fun F H v w Q e a b q => ⟨dn_non.mp b, q _ _ F H h (Grow.refl e) (by rw [dn_isNon a]; exact dn_bl.mpr rfl)⟩
theorem o_notN (h : Ψ (.bl (!isNon x))) : Op2 K rNotN x .non Ψ := fun F H v w Q e a b q => ⟨dn_non.mp b, q _ _ F H h (Grow.refl e) (by rw [dn_isNon a]; exact dn_bl.mpr rfl)⟩
theorem flat_strs : ∀ zs : List Str, (zs.map V.str).all flatV = true
  | [] => rfl
  | _ :: zs => by rw [List.map_cons, List.all_cons, flat_strs zs]; rfl
theorem inV_strs {z : Str} : ∀ zs : List Str, inV (.str z) (zs.map V.str) = zs.contains z
  | [] => rfl
  | y :: zs => by
    have ih := inV_strs (z := z) zs
    unfold inV at ih ⊢
    rw [List.map_cons, List.any_cons, ih, List.contains_cons]
    show ((y == z) || _) = _
    rw [Bool.beq_comm]
theorem o_inT {z : Str} {zs : List Str} {neg : Bool} (h : Ψ (.bl (if neg then !zs.contains z else zs.contains z))) : Op2 K (rIn K neg) (.str z) (.tup (zs.map D.str)) Ψ := fun F H v w Q e a b q => by
  obtain ⟨p, xs, e1, h1, n1⟩ := dn_tup.mp b
  have ex := DnL.strs' n1
  subst ex
  refine ⟨p, _, e1, .inr (ex_t e h1), by rw [dn_str.mp a]; rfl, flat_strs zs, ?_⟩
  rw [dn_str.mp a, inV_strs]
  exact q _ _ F H h (Grow.refl e) (dn_bl.mpr rfl)
theorem o_inL {z : Str} {zs : List Str} {neg : Bool} (h : Ψ (.bl (if neg then !zs.contains z else zs.contains z))) : Op2 K (rIn K neg) (.str z) (.lst (zs.map D.str)) Ψ := fun F H v w Q e a b q => by
  obtain ⟨p, xs, e1, h1, n1⟩ := dn_lst.mp b
  have ex := DnL.strs' n1
  subst ex
  refine ⟨p, _, e1, .inl (.inl (.inl (e _ _ h1))), by rw [dn_str.mp a]; rfl, flat_strs zs, ?_⟩
  rw [dn_str.mp a, inV_strs]
  exact q _ _ F H h (Grow.refl e) (dn_bl.mpr rfl)
theorem atI_dn {F : Hp} {ds : List D} {vs : List V} {i : Int} {d : D} (n : DnL K F ds vs) (h : atI ds i = some d) : ∃ v, atI vs i = some v ∧ Dn K F d v := by
  unfold atI at h ⊢
  rw [n.length] at h
  cases q : ixN vs.length i with
  | none => rw [q] at h; cases h
  | some j =>
    rw [q] at h
    exact n.get (i := j) h
theorem o_ixL {ds : List D} {i : Int} {d : D} (h : atI ds i = some d) (k : Ψ d) : Op2 K (rIx K) (.lst ds) (.int i) Ψ := fun F H v w Q e a b q => by
  obtain ⟨p, xs, e1, h1, n1⟩ := dn_lst.mp a
  obtain ⟨u, h2, n2⟩ := atI_dn n1 h
  exact .inl ⟨p, xs, i, u, e1, dn_int.mp b, .inl (.inl (e _ _ h1)), h2, q d u F H k (Grow.refl e) n2⟩
theorem o_ixT {ds : List D} {i : Int} {d : D} (h : atI ds i = some d) (k : Ψ d) : Op2 K (rIx K) (.tup ds) (.int i) Ψ := fun F H v w Q e a b q => by
  obtain ⟨p, xs, e1, h1, n1⟩ := dn_tup.mp a
  obtain ⟨u, h2, n2⟩ := atI_dn n1 h
  exact .inr (.inl ⟨p, xs, i, u, e1, dn_int.mp b, ex_t e h1, h2, q d u F H k (Grow.refl e) n2⟩)
theorem o_ixR {ns : List Int} {i : Int} {d : Int} (h : atI ns i = some d) (k : Ψ (.int d)) : Op2 K (rIx K) (.scr ns) (.int i) Ψ := fun F H v w Q e a b q => by
  obtain ⟨p, e1, h1⟩ := dn_scr.mp a
  have h2 : atI (ns.map V.int) i = some (.int d) := by
    unfold atI at h ⊢
    rw [List.length_map]
    cases z : ixN ns.length i with
    | none => rw [z] at h; cases h
    | some j =>
      rw [z] at h
      show (ns.map V.int)[j]? = _
      rw [List.getElem?_map]
      have h' : ns[j]? = some d := h
      rw [h']
      rfl
  exact .inl ⟨p, _, i, _, e1, dn_int.mp b, ex_l e h1, h2, q _ _ F H k (Grow.refl e) (dn_int.mpr rfl)⟩
theorem o_ixS {z : Str} {i : Int} {c : Nat} (hz : z.length ≤ 100000) (h : atI z.cps.toList i = some c) (k : Ψ (.str ⟨#[c]⟩)) : Op2 K (rIx K) (.str z) (.int i) Ψ := fun F H v w Q e a b q =>
  .inr (.inr ⟨z, i, c, dn_str.mp a, dn_int.mp b, sz_of hz, h, q _ _ F H k (Grow.refl e) (dn_str.mpr rfl)⟩)
end

def truD : D → Option Bool
  | .non => some false
  | .bl b => some b
  | .int i => some (i != 0)
  | .str s => some ((s.length : Int) != 0)
  | .tup ds => some (!ds.isEmpty)
  | .lst ds => some (!ds.isEmpty)
  | _ => none
theorem isEmpty_dn {F : Hp} {ds : List D} {vs : List V} (n : DnL K F ds vs) : vs.isEmpty = ds.isEmpty := by
  cases ds with
  | nil => rw [dnl_nil.mp n]; rfl
  | cons d ds => obtain ⟨v, r, e, _⟩ := dnl_cons.mp n; rw [e]; rfl
abbrev tTruth (K : PySem.W.Frag) (ta : TE) : TT := fun σ H Q => ta σ H fun x H' => ∃ k, TruV K x H' k ∧ Q k H'
section
variable {E : L2.St → XK} {Ξ : Xi} {ρ : Rho} {ta tb tc te : TE} {tl : TA} {t : TT} {ts tu : TS} {i : Nat} {d : D} {ds : List D} {p : Addr} {g : TG}
theorem et_truth {Φ : Bool → Rho → Prop} (h : EvS K E Ξ te ρ fun d ρ1 => (∀ s, d = .str s → s.length ≤ 100000) ∧ ∃ b, truD d = some b ∧ Φ b ρ1) : EvT K E Ξ (tTruth K te) ρ Φ := fun F0 H0 σ F H Q S e k =>
  h F0 H0 σ F H _ S e fun d ρ1 v F1 H1 ⟨hs, b, eb, h1⟩ x1 S1 n1 => by
    refine ⟨b, ?_, k b ρ1 F1 H1 h1 x1 S1⟩
    cases d with
    | non => rw [dn_non.mp n1]; cases eb; rfl
    | bl c => rw [dn_bl.mp n1]; cases eb; rfl
    | int c => rw [dn_int.mp n1]; cases eb; rfl
    | str c => rw [dn_str.mp n1]; cases eb; exact ⟨sz_of (hs c rfl), rfl⟩
    | tup ds => obtain ⟨a, xs, e1, h2, n2⟩ := dn_tup.mp n1; rw [e1]; cases eb; exact .inr (.inl ⟨xs, ex_t S1.fh h2, by rw [isEmpty_dn n2]⟩)
    | lst ds => obtain ⟨a, xs, e1, h2, n2⟩ := dn_lst.mp n1; rw [e1]; cases eb; exact .inl ⟨xs, .inl (.inl (S1.fh _ _ h2)), by rw [isEmpty_dn n2]⟩
    | dic _ _ => cases eb
    | obj _ _ _ => cases eb
    | scr _ => cases eb

variable {Ψ : D → Prop}
theorem Cl.one {r : List V → Hp → VK → Prop} {x : D} (h : ∀ (F H : Hp) (v : V) (Q : VK), Ex F H → Dn K F x v → (∀ (d : D) (u : V) (F' H' : Hp), Ψ d → Grow F H F' H' → Dn K F' d u → Q u H') → r [v] H Q) : Cl K r [x] Ψ := fun F H vs Q e n q => by
  obtain ⟨v, r', ev, n1, n2⟩ := dnl_cons.mp n
  rw [ev, dnl_nil.mp n2]
  exact h F H v Q e n1 q
theorem Cl.two {r : List V → Hp → VK → Prop} {x y : D} (h : ∀ (F H : Hp) (v w : V) (Q : VK), Ex F H → Dn K F x v → Dn K F y w → (∀ (d : D) (u : V) (F' H' : Hp), Ψ d → Grow F H F' H' → Dn K F' d u → Q u H') → r [v, w] H Q) : Cl K r [x, y] Ψ := fun F H vs Q e n q => by
  obtain ⟨v, r', ev, n1, n2⟩ := dnl_cons.mp n
  obtain ⟨w, r'', ew, n3, n4⟩ := dnl_cons.mp n2
  rw [ev, ew, dnl_nil.mp n4]
  exact h F H v w Q e n1 n3 q
def lenD : D → Option Nat
  | .str s => some s.length
  | .tup ds => some ds.length
  | .lst ds => some ds.length
  | .scr ns => some ns.length
  | _ => none
abbrev rLenU (K : PySem.W.Frag) : List V → Hp → VK → Prop := fun xs H Q => ∃ x n, xs = [x] ∧ LenV K x H n ∧ Q (.int n) H
theorem c_len {x : D} {n : Nat} (hs : ∀ s, x = .str s → s.length ≤ 100000) (hl : lenD x = some n) (h : Ψ (.int n)) : Cl K (rLenU K) [x] Ψ := .one fun F H v Q e nn q => by
  refine ⟨v, n, rfl, ?_, q _ _ F H h (Grow.refl e) (dn_int.mpr rfl)⟩
  cases x with
  | str s => rw [dn_str.mp nn]; cases hl; exact ⟨sz_of (hs s rfl), rfl⟩
  | tup ds => obtain ⟨a, xs, e1, h2, n2⟩ := dn_tup.mp nn; rw [e1]; cases hl; exact .inr ⟨xs, ex_t e h2, n2.length⟩
  | lst ds => obtain ⟨a, xs, e1, h2, n2⟩ := dn_lst.mp nn; rw [e1]; cases hl; exact .inl ⟨xs, .inl (.inl (e _ _ h2)), n2.length⟩
  | scr ns => obtain ⟨a, e1, h2⟩ := dn_scr.mp nn; rw [e1]; cases hl; exact .inl ⟨_, ex_l e h2, by rw [List.length_map]⟩
  | non => cases hl
  | bl _ => cases hl
  | int _ => cases hl
  | dic _ _ => cases hl
  | obj _ _ _ => cases hl
abbrev rAbs : List V → Hp → VK → Prop := fun xs H Q => ∃ i, xs = [V.int i] ∧ Q (.int (if i < 0 then -i else i)) H
theorem c_abs {i : Int} (h : Ψ (.int (if i < 0 then -i else i))) : Cl K rAbs [.int i] Ψ := .one fun F H v Q e nn q => ⟨i, by rw [dn_int.mp nn], q _ _ F H h (Grow.refl e) (dn_int.mpr rfl)⟩
abbrev rMax2' : List V → Hp → VK → Prop := fun xs H Q => ∃ i j, xs = [V.int i, .int j] ∧ Q (.int (if j > i then j else i)) H
abbrev rMin2' : List V → Hp → VK → Prop := fun xs H Q => ∃ i j, xs = [V.int i, .int j] ∧ Q (.int (if j < i then j else i)) H
theorem c_max2 {i j : Int} (h : Ψ (.int (if j > i then j else i))) : Cl K rMax2' [.int i, .int j] Ψ := .two fun F H v w Q e n1 n2 q => ⟨i, j, by rw [dn_int.mp n1, dn_int.mp n2], q _ _ F H h (Grow.refl e) (dn_int.mpr rfl)⟩
theorem c_min2 {i j : Int} (h : Ψ (.int (if j < i then j else i))) : Cl K rMin2' [.int i, .int j] Ψ := .two fun F H v w Q e n1 n2 q => ⟨i, j, by rw [dn_int.mp n1, dn_int.mp n2], q _ _ F H h (Grow.refl e) (dn_int.mpr rfl)⟩
abbrev rIntU : List V → Hp → VK → Prop := fun xs H Q => ((∃ i, xs = [V.int i] ∧ Q (.int i) H) ∨ ∃ k, xs = [V.bl k] ∧ Q (.int (if k then 1 else 0)) H) ∨ ∃ a n, xs = [V.str a] ∧ PySem.intText? a = some n ∧ a.length ≤ 640 ∧ Q (.int n) H
theorem call_intU {X : Cx} : CallR X (.type "int") rIntU := CallR.or call_int1 call_int_str
theorem c_int {i : Int} (h : Ψ (.int i)) : Cl K rIntU [.int i] Ψ := .one fun F H v Q e nn q => .inl (.inl ⟨i, by rw [dn_int.mp nn], q _ _ F H h (Grow.refl e) (dn_int.mpr rfl)⟩)
theorem c_intB {i : Bool} (h : Ψ (.int (if i then 1 else 0))) : Cl K rIntU [.bl i] Ψ := .one fun F H v Q e nn q => .inl (.inr ⟨i, by rw [dn_bl.mp nn], q _ _ F H h (Grow.refl e) (dn_int.mpr rfl)⟩)
theorem c_intS {a : Str} {n : Int} (h0 : PySem.intText? a = some n) (hl : a.length ≤ 640) (h : Ψ (.int n)) : Cl K rIntU [.str a] Ψ := .one fun F H v Q e nn q => .inr ⟨a, n, by rw [dn_str.mp nn], h0, hl, q _ _ F H h (Grow.refl e) (dn_int.mpr rfl)⟩
abbrev rStrI : List V → Hp → VK → Prop := fun xs H Q => ∃ i : Int, xs = [V.int i] ∧ i.natAbs.log2 < 1920 ∧ Q (.str (toString i)) H
theorem c_strI {i : Int} (hl : i.natAbs.log2 < 1920) (h : Ψ (.str (toString i))) : Cl K rStrI [.int i] Ψ := .one fun F H v Q e nn q => ⟨i, by rw [dn_int.mp nn], hl, q _ _ F H h (Grow.refl e) (dn_str.mpr rfl)⟩
abbrev rTupOf (K : PySem.W.Frag) : List V → Hp → VK → Prop := fun xs H Q => ∃ p ys, xs = [.ref p] ∧ ((SqL K H p ys ∧ ∀ l, H l = none → Q (.ref l) (upd H l (.tup ys))) ∨ (SqT K H p ys ∧ Q (.ref p) H))
theorem c_tupL {ds : List D} (h : Ψ (.tup ds)) : Cl K (rTupOf K) [.lst ds] Ψ := .one fun F H v Q e nn q => by
  obtain ⟨a, xs, e1, h2, n2⟩ := dn_lst.mp nn
  refine ⟨a, xs, by rw [e1], .inl ⟨.inl (.inl (e _ _ h2)), fun l hl => ?_⟩⟩
  have g := Grow.new (o := .tup xs) e hl
  exact q _ _ _ _ h g (dn_tup.mpr ⟨l, xs, rfl, .inl (.inl upd_same), n2.mono g.ff⟩)
theorem c_tupT {ds : List D} (h : Ψ (.tup ds)) : Cl K (rTupOf K) [.tup ds] Ψ := .one fun F H v Q e nn q => by
  obtain ⟨a, xs, e1, h2, n2⟩ := dn_tup.mp nn
  exact ⟨a, xs, by rw [e1], .inr ⟨ex_t e h2, q _ _ F H h (Grow.refl e) (by rw [← e1]; exact nn)⟩⟩
theorem c_all {bs : List Bool} (h : Ψ (.bl (bs.all id))) : Cl K (rAll K) [.lst (bs.map D.bl)] Ψ := .one fun F H v Q e nn q => by
  obtain ⟨a, xs, e1, h2, n2⟩ := dn_lst.mp nn
  have ex := DnL.bls' n2
  subst ex
  exact ⟨a, bs, by rw [e1], .inl (.inl (e _ _ h2)), q _ _ F H h (Grow.refl e) (dn_bl.mpr rfl)⟩
theorem c_any {bs : List Bool} (h : Ψ (.bl (bs.any id))) : Cl K (rAny K) [.lst (bs.map D.bl)] Ψ := .one fun F H v Q e nn q => by
  obtain ⟨a, xs, e1, h2, n2⟩ := dn_lst.mp nn
  have ex := DnL.bls' n2
  subst ex
  exact ⟨a, bs, by rw [e1], .inl (.inl (e _ _ h2)), q _ _ F H h (Grow.refl e) (dn_bl.mpr rfl)⟩
end
end Z

namespace Z
open PySem PySem.Spec PyProof.Rows L2 Evl
variable {K : PySem.W.Frag}

section
variable {pins : List (Addr × Obj)} {X : Cx} {H : Hp} {s : Shared} {σ : L2.St}
theorem passL0 {X : Cx} {σ : L2.St} : PassesAt (L2.CX X.prog X.w) X σ E0 := fun pins H s e s' I c => passL pins σ H s e s' I c
structure StM (K : PySem.W.Frag) (C : Addr) (mc : Value) (m : Str) (p g : Addr) : Prop where
  sr : PySem.W.readsIn K C mc = true
  sg : PySem.W.specialIn K (.ref C) "__getattribute__" = some (some (.builtin "type.__getattribute__"))
  at_ : PySem.W.findCls K (.ref C) mc m = some (.get (.builtin "staticmethod.__get__") (.ref p) .none (.ref C))
  rc : ∃ rest, PySem.W.recIn K p "staticmethod" = some (.ref g :: rest)
  kp : PySem.W.keepIn K (.ref g) = true
def tStat (C : Addr) (sp : Sp) (E : L2.St → XK) (ta : TE) (t : TA) : TE := fun σ H Q => ta σ H fun x H1 => x = .ref C ∧ t σ H1 fun vs H2 => sp (vs ++ []) H2 Q (E σ)
theorem pe_static {CX : CXT} {k : Nat} {C p g : Addr} {mc : Value} {sp : Sp} {E : L2.St → XK} {o e : Expr} {es : List Expr} {m : Str} {pos apos : Pos} {ta : TE} {t : TA} {pl : Sem Bool} {fd : FuncData} {ps : List Str}
    (S : StM X.K C mc m p g) (F : FnOk X.prog X.w X.K X.mg X.base CX k g fd ps sp) (hr : Room k X.A) (hv3 : PE X o ta) (hb : Binds X.K fd ps []) (hx : ∀ σ, PassesAt CX X σ (E σ)) (ha : PA X (e :: es) t)
    (hz1 : starEach (e :: es) X.env = (false, eval e X.env) :: starEach es X.env := by rfl) (hz2 : (backTo pos (starEach es X.env)).any (·.1) = false := by rfl)
    (hz3 : eval (.Call (.Attribute o m apos) (e :: es) [] pos) X.env = (do let ov ← eval o X.env; standAt apos.atName; let (f, first) ← holding [ov] (getMethod ov m pl); callWith pos f first (backTo pos (starEach (e :: es) X.env)) (backToKw pos (keywordEach [] X.env))) := by rfl) :
    PE X (.Call (.Attribute o m apos) (e :: es) [] pos) (tStat C sp E ta t) := by
  refine ⟨fun pp s σ H Q Iv h => ?_⟩
  refine PySem.W.methodCall_KW (pl := pl) (thn (hv3.run pp s σ H _ Iv h) fun u z1 ⟨x, G1, J1, rr, ex, q⟩ => ?_) hz3
  subst ex
  obtain rfl : u = Value.ref C := rr
  obtain ⟨rest, hp⟩ := S.rc
  refine PySem.W.method_cls J1.kIn S.sg (PySem.W.cls_bind J1.kIn S.sr S.at_ (wpAny_call (PySem.W.sm_get (s := { z1 with toks := z1.toks + 1 }) J1.kIn hp (PySem.W.handed_on rfl ?_))))
  have J2 : Inv X pp σ G1 { z1 with toks := z1.toks + 1 } := J1.tok _
  refine PySem.W.callWith_K (h₀ := X.base) (first := []) Iv.ok.mod.kin S.kp (thn (ha.run pos pp _ σ G1 _ J2 q) fun uu z3 ⟨vv, G2, J3, rv, q2⟩ => ⟨J3.kIn, ?_⟩) hz1 hz2
  exact run_fnSD F hr hb .nil (hx σ) J3 rv q2
structure StrM (K : PySem.W.Frag) (C f : Addr) : Prop where
  at_ : PySem.W.findIn K (.ref C) "__str__" = some (some (.ref f))
  isf : PySem.W.isFn K (.ref f) = true
def rStrOwn (C : Addr) (sp : Sp) : List V → Hp → VK → Prop := fun xs H Q => ∃ a dx fs, xs = [V.ref a] ∧ H a = some (.ins C dx fs) ∧ sp [.ref a] H (fun v H' => (∃ y, v = V.str y) ∧ Q v H') E0
theorem call_strOwn {CX : CXT} {k : Nat} {C f : Addr} {fd : FuncData} {sp : Sp} (S : StrM X.K C f) (F : FnOk X.prog X.w X.K X.mg X.base CX k f fd ["self"] sp) (hb : Binds X.K fd ["self"] []) (hr : Room (k + 2) X.A) (hx : Passes CX X E0) : CallR X (.type "str") (rStrOwn C sp) := by
  intro pp s σ H xs uu Q Iv r h
  obtain ⟨a, dx, fs, rfl, ha, hsp⟩ := h
  obtain ⟨u, rfl, rr⟩ := vals1 r
  obtain rfl : u = Value.ref a := rr
  obtain ⟨mA, O, _, _, _, _⟩ := ins_get Iv.hok ha
  obtain ⟨od, J, _⟩ := O.look
  have hu := hr.un
  refine PySem.W.kso_call (by show X.A.units + 1 + 1 < cLine; omega) Iv.kIn J S.at_ S.isf ?_
  have hr2 : Room k X.A.in1.in1 := (hr.in1).in1
  refine wpAny_call (codeAny_mono (F.run X.A.in1.in1 X.stack s H ⟨[.ref a], []⟩ [.ref a] [.ref a] _ _ hr2 Iv.env0.in1.in1 (hb s [.ref a] Iv.kIn rfl) (.cons rfl .nil) hsp) fun r s' hq => ?_)
  cases r with
  | error e => exact hx pp σ H s e s' Iv hq
  | ok fl =>
    cases fl with
    | ret u =>
      obtain ⟨v, H', I', rv, ⟨y, ey⟩, q⟩ := Iv.after hq
      subst ey
      obtain ⟨t, rfl⟩ := rv
      exact ⟨.str y, H', I', ⟨t, rfl⟩, q⟩
    | next => exact False.elim hq
    | brk => exact False.elim hq
    | cont => exact False.elim hq

abbrev rSlU (K : PySem.W.Frag) : V → Option Int → Option Int → Hp → VK → Prop := fun x lo hi H Q => rSlL K x lo hi H Q ∨ (rSlA K x lo hi H Q ∨ rSlS x lo hi H Q)
theorem sl_U : SlR X (rSlU X.K) := SlR.or sl_list (SlR.or sl_tupA sl_str)
def stepPick {α : Type} (xs : List α) (lo : Int) (c : Int) : List α := (sliceRange (sliceBounds (some lo) none (some c) xs.length).1 (sliceBounds (some lo) none (some c) xs.length).2.1 (sliceBounds (some lo) none (some c) xs.length).2.2).filterMap (xs[·]?)
theorem vals_pick : ∀ {xs : List V} {us : List Value} (r : Vals xs us) (is : List Nat), Vals (is.filterMap (xs[·]?)) (is.filterMap (us[·]?))
  | xs, us, r, [] => .nil
  | xs, us, r, i :: is => by
    rw [List.filterMap_cons, List.filterMap_cons]
    cases e : xs[i]? with
    | none =>
      rw [Vals.none_of r e]
      exact vals_pick r is
    | some x =>
      obtain ⟨u, eu, ru⟩ := Vals.get r e
      rw [eu]
      exact .cons ru (vals_pick r is)
def tStepL (K : PySem.W.Frag) (c : Int) (te : TE) (tl : TO) : TE := fun σ H Q => te σ H fun x H1 => tl σ H1 fun o H2 => ∃ i, o = some i ∧ ∃ a xs, x = .ref a ∧ SqL K H2 a xs ∧ c ≠ 0 ∧ ∀ p, H2 p = none → Q (.ref p) (upd H2 p (.lst (stepPick xs i c)))
theorem pick_eq {its : List Value} {i c : Int} : slicePick its.toArray (some i) none (some c) = (stepPick its i c).toArray := by
  unfold slicePick stepPick
  rw [List.size_toArray]
  congr 2
  funext j
  rw [List.getElem?_toArray]
theorem stepPick_vals {xs : List V} {us : List Value} (r : Vals xs us) (i c : Int) : Vals (stepPick xs i c) (stepPick us i c) := by
  unfold stepPick
  rw [r.length]
  exact vals_pick r _
theorem pe_stepL {e : Expr} {lo : Option Expr} {te : TE} {tl : TO} {k : Nat} {c : Int} {p1 p3 pos : Pos} (hv3 : PE X e te) (hl : PO X lo tl) : PE X (.Subscript e (.Slice lo none (some (.Constant (.int c) k p1)) p3) pos) (tStepL X.K c te tl) := by
  refine ⟨fun pp s σ H Q Iv h => ?_⟩
  refine Subscript_ (thn (hv3.run pp s σ H _ Iv h) fun v z1 ⟨x, G1, J1, y1, q1⟩ => ?_)
  have hz1 : PO X (some (.Constant (.int c) k p1)) (tPart (tC (.int c))) := po_some pe_int
  refine wpAny_Slice (thn (hl.run pp z1 σ G1 _ J1 q1) fun vl z2 ⟨l, G2, J2, pl, q2⟩ => ?_)
  obtain ⟨i, rfl, a, xs, ex, hx, hc, q⟩ := q2
  subst ex
  cases y1
  refine thn (po_none.run pp z2 σ G2 (fun o G3 => o = none ∧ G3 = G2) J2 ⟨rfl, rfl⟩) fun vu z3 ⟨u, G3, J3, pu, eu, e3⟩ => ?_
  subst eu e3
  refine thn (hz1.run pp z3 σ G3 (fun o G4 => o = some c ∧ G4 = G3) J3 ⟨c, rfl, rfl, rfl⟩) fun vv z4 ⟨o, G4, J4, ps, eo, e4⟩ => ?_
  subst eo e4
  have J5 : Inv X pp σ G4 { z4 with heap := z4.heap.push { cls := .type "slice", data := .fields #[vl, vu, vv] } } := J4.kept (t' := z4.toks) fun b ob q => Heap.get?_push_of_some _ q
  obtain ⟨its, r, hz3, hz⟩ := J5.list hx
  have hlen := r.length
  show wpAny (model X.prog X.w) X.A (subscriptTail e (.Slice lo none (some (.Constant (.int c) k p1)) p3) (.ref a) (.ref z4.heap.objs.size)) (EP X pp σ Q) X.xe { z4 with heap := z4.heap.push { cls := .type "slice", data := .fields #[vl, vu, vv] } }
  refine tail_any (ops := [.ref a, .ref z4.heap.objs.size]) hz3.isList.typeIs (PySem.slot_list_getitem.lookup) ?_ (by with_unfolding_all rfl)
  refine wpAny_getItem_list_slice hz3.isList (Heap.IsSliceOf.new _ vl vu vv) pl pu ps (fun z => hc (Option.some.inj z)) ?_ (by rw [List.size_toArray]; omega)
  have hz2 : (stepPick xs i c).length ≤ sizeLine := by
    have q1 := slicePick_size_le its.toArray (some i) none (some c)
    rw [pick_eq, List.size_toArray, List.size_toArray, ← (stepPick_vals r i c).length] at q1
    omega
  rw [pick_eq]
  refine ⟨.ref _, _, J5.laid (t' := z4.toks) (o := .lst (stepPick xs i c)) (fun b ob q => Heap.get?_push_of_some _ q) (Nat.le_refl _) ?_, rfl, q _ (J5.hok.fresh (Nat.le_refl _))⟩
  exact ⟨hz2, _, 0, stepPick_vals r i c, Heap.get?_push_size _ rfl⟩

theorem call_listS (hh : X.calm = true) : CallR X (.type "list") (fun xs H Q => ∃ z : Str, xs = [V.str z] ∧ z.cps.size ≤ 100000 ∧ ∀ p, H p = none → Q (.ref p) (upd H p (.lst (z.cps.toList.map fun c => V.str ⟨#[c]⟩)))) := by
  intro pp s σ H xs uu Q Iv r h
  obtain ⟨z, rfl, hz, q⟩ := h
  obtain ⟨u, rfl, rr⟩ := vals1 r
  obtain ⟨t, rfl⟩ := rr
  have hz' : z.cps.size ≤ sizeLine := sz_of hz
  refine call_list_str (hn := hz') (Iv.ok.hd hh) z t fun h' tk acc c' hv2 hS hacc => ?_
  have hv : Vals (z.cps.toList.map fun c => V.str ⟨#[c]⟩) acc.toList := by
    obtain ⟨h1, h2⟩ := hacc
    refine vals_of_at (by rw [List.length_map, Array.length_toList, Array.length_toList, h1]) fun j x u hx hu => ?_
    rw [Array.getElem?_toList] at hu
    obtain ⟨c, w, hc, rfl⟩ := h2 j u hu
    rw [List.getElem?_map, Array.getElem?_toList, hc] at hx
    cases hx
    exact ⟨w, rfl⟩
  refine ⟨.ref _, _, Iv.laid (t' := tk) (o := .lst (z.cps.toList.map fun c => V.str ⟨#[c]⟩)) hv2 (Nat.le_refl _) ?_, rfl, q _ (Iv.hok.fresh (Nat.le_refl _))⟩
  exact ⟨by rw [List.length_map, Array.length_toList]; exact hz', _, c', hv, hS⟩
abbrev rListU (K : PySem.W.Frag) : List V → Hp → VK → Prop := fun xs H Q => (∃ p ys, xs = [V.ref p] ∧ (SqL K H p ys ∨ SqT K H p ys) ∧ ∀ l, H l = none → Q (.ref l) (upd H l (.lst ys))) ∨
  ∃ z : Str, xs = [V.str z] ∧ z.cps.size ≤ 100000 ∧ ∀ p, H p = none → Q (.ref p) (upd H p (.lst (z.cps.toList.map fun c => V.str ⟨#[c]⟩)))
theorem call_listU (hh : X.calm = true) : CallR X (.type "list") (rListU X.K) := CallR.or call_list_of (call_listS hh)

def rSortD (K : PySem.W.Frag) : List V → Hp → VK → Prop := fun xs H Q => ∃ (a : Addr) (bs : List (V × PyData)), xs = [V.ref a] ∧ SqL K H a (bs.map (·.1)) ∧ (∀ b ∈ bs, Dp K H b.1 b.2 ∧ b.2.depth ≤ 64) ∧ PySem.W.AllAlike (bs.map (·.2)) ∧ PySem.W.Sortable (bs.map (·.2)) ∧
  ∀ p, H p = none → Q (.ref p) (upd H p (.lst ((bs.mergeSort (PySem.W.dataLe false (·.2))).map (·.1))))
theorem each_of : ∀ {bs : List (V × PyData)} {us : List Value}, Vals (bs.map (·.1)) us → PySem.W.EachIs (fun u (b : V × PyData) => RelV b.1 u) us bs
  | [], _, h => by cases h; exact .nil
  | b :: bs, _, h => by
    cases h with
    | cons r t => exact .cons r (each_of t)
theorem of_each : ∀ {bs : List (V × PyData)} {us : List Value}, PySem.W.EachIs (fun u (b : V × PyData) => RelV b.1 u) us bs → Vals (bs.map (·.1)) us
  | _, _, .nil => .nil
  | _, _, .cons r t => .cons r (of_each t)
theorem each_and {α β : Type} {R : α → β → Prop} {P : α → β → Prop} : ∀ {as : List α} {bs : List β}, PySem.W.EachIs R as bs → (∀ a b, R a b → b ∈ bs → P a b) → PySem.W.EachIs P as bs
  | _, _, .nil, _ => .nil
  | _, _, .cons r t, h => .cons (h _ _ r List.mem_cons_self) (each_and t fun a b q m => h a b q (List.mem_cons_of_mem _ m))
theorem call_sortedD {k : Nat} (hr : Room k X.A) : CallR X (.builtin "sorted") (rSortD X.K) := by
  intro pp s σ H xs uu Q Iv r h
  obtain ⟨a, bs, rfl, hl, hd, hal, hv2, q⟩ := h
  obtain ⟨u, rfl, rr⟩ := vals1 r
  obtain rfl : u = Value.ref a := rr
  obtain ⟨its, rv, hz3, hz⟩ := Iv.list hl
  have hun := hr.un
  have e1 := each_of rv
  refine PySem.W.sorted_data (enc := fun b : V × PyData => b.2) hz3.isList e1 (each_and e1 fun u b ru hb => (hd b hb).1.reads Iv _ _ _ ru) hal hv2 (by rw [List.length_map] at hz; exact hz) (fun b hb => by have := (hd b hb).2; omega) fun out ho eo => ?_
  obtain ⟨c, hc⟩ := PyProof.Rows.sortedAll_at s.heap its out.toArray
  have v2 := of_each eo
  refine ⟨.ref _, _, Iv.laid (t' := s.toks) (o := .lst ((bs.mergeSort (PySem.W.dataLe false (·.2))).map (·.1))) (fun _ _ => PyProof.Rows.sortedAll_old) (Nat.le_succ _) ?_, rfl, q _ (Iv.hok.fresh (Nat.le_succ _))⟩
  exact ⟨by rw [List.length_map, List.length_mergeSort]; rw [List.length_map] at hz; exact hz, _, c, v2, hc⟩
end
end Z

namespace Z
open PySem PySem.Spec PyProof.Rows L2 Evl
variable {K : PySem.W.Frag}
section
variable {E : L2.St → XK} {Ξ : Xi} {ρ : Rho} {ta tb tc te : TE} {tl : TA} {t : TT} {ts tu : TS} {i j : Nat} {d : D} {ds : List D} {p : Addr} {g : TG} {Ψ : D → Prop}
theorem ev_ixO {Φ : D → Rho → Prop} (hj : ρ[j]? = some (.ol p ds)) (h : EvS K E Ξ tb ρ fun d ρ1 => ∃ (i : Int) (es : List D) (e : D), d = .int i ∧ ρ1[j]? = some (.ol p es) ∧ atI es i = some e ∧ Φ e ρ1) : EvS K E Ξ (tOp (rIx K) (tVar j) tb) ρ Φ := fun F0 H0 σ F H Q S e k => by
  refine ⟨_, (S.own hj).1, h F0 H0 σ F H _ S e fun d ρ1 v F1 H1 ⟨i, es, q, ed, h1, h2, h3⟩ x1 S1 n1 => ?_⟩
  subst ed
  obtain ⟨_, _, _, vs, h4, n4⟩ := S1.own h1
  obtain ⟨u, h5, n5⟩ := atI_dn n4 h2
  exact .inl ⟨p, vs, i, u, rfl, dn_int.mp n1, .inl (.inl h4), h5, k q ρ1 u F1 H1 h3 x1 S1 n5⟩
theorem ev_lenO {Φ : D → Rho → Prop} (hj : ρ[j]? = some (.ol p ds)) (k : Φ (.int ds.length) ρ) : EvS K E Ξ (tCB (rLenU K) (tCons (tVar j) tNil)) ρ Φ := fun F0 H0 σ F H Q S e q => by
  obtain ⟨e1, _, _, vs, h4, n4⟩ := S.own hj
  refine ⟨_, e1, .ref p, vs.length, rfl, .inl ⟨vs, .inl (.inl h4), rfl⟩, ?_⟩
  rw [← n4.length]
  exact q _ ρ _ F H k (Ex.refl F) S (dn_int.mpr rfl)
def EvO (K : PySem.W.Frag) (E : L2.St → XK) (Ξ : Xi) (to : TO) (ρ : Rho) (Φ : Option Int → Rho → Prop) : Prop :=
  ∀ (F0 H0 : Hp) (σ : L2.St) (F H : Hp) (Q : Option Int → Hp → Prop), Sd K F0 H0 ρ σ F H → EOk K E Ξ F0 H0 →
    (∀ (o : Option Int) (ρ' : Rho) (F' H' : Hp), Φ o ρ' → Ex F F' → Sd K F0 H0 ρ' σ F' H' → Q o H') → to σ H Q
theorem eo_none {Φ : Option Int → Rho → Prop} (k : Φ none ρ) : EvO K E Ξ tNoPart ρ Φ := fun F0 H0 σ F H Q S e q => q none ρ F H k (Ex.refl F) S
theorem eo_some {Φ : Option Int → Rho → Prop} (h : EvS K E Ξ te ρ fun d ρ1 => ∃ i, d = .int i ∧ Φ (some i) ρ1) : EvO K E Ξ (tPart te) ρ Φ := fun F0 H0 σ F H Q S e q =>
  h F0 H0 σ F H _ S e fun d ρ1 v F1 H1 ⟨i, ed, h1⟩ x1 S1 n1 => ⟨i, by subst ed; exact dn_int.mp n1, q (some i) ρ1 F1 H1 h1 x1 S1⟩
def cutD (ds : List D) (lo hi : Option Int) : List D := (ds.drop (HT.sIx ds.length 0 lo)).take (HT.sIx ds.length ds.length hi - HT.sIx ds.length 0 lo)
theorem cut_dn {F : Hp} {vs : List V} (n : DnL K F ds vs) (lo hi : Option Int) : DnL K F (cutD ds lo hi) (cutV vs lo hi) := by
  unfold cutD cutV
  rw [n.length]
  exact (n.drop _).take _
def slD (d : D) (lo hi : Option Int) : Option D := match d with
  | .lst ds => some (.lst (cutD ds lo hi))
  | .tup ds => some (.tup (cutD ds lo hi))
  | .str z => some (.str (cutS z lo hi))
  | _ => none
theorem ev_slice {tlo thi : TO} {Φ : D → Rho → Prop} (h : EvS K E Ξ te ρ fun d ρ1 => (∀ z, d = .str z → z.length ≤ 100000) ∧ EvO K E Ξ tlo ρ1 fun lo ρ2 => EvO K E Ξ thi ρ2 fun hi ρ3 => ∃ e, slD d lo hi = some e ∧ Φ e ρ3) : EvS K E Ξ (tSl (rSlU K) te tlo thi) ρ Φ := fun F0 H0 σ F H Q S e k =>
  h F0 H0 σ F H _ S e fun d ρ1 v F1 H1 ⟨hz, h1⟩ x1 S1 n1 => h1 F0 H0 σ F1 H1 _ S1 e fun lo ρ2 F2 H2 h2 x2 S2 => h2 F0 H0 σ F2 H2 _ S2 e fun hi ρ3 F3 H3 ⟨q, hq, h3⟩ x3 S3 => by
    have n3 := n1.mono (x2.trans x3)
    have x := (x1.trans x2).trans x3
    cases d with
    | lst ds =>
      cases hq
      obtain ⟨a, vs, e1, h4, n4⟩ := dn_lst.mp n3
      refine .inl ⟨a, vs, e1, .inl (.inl (S3.fh _ _ h4)), fun p hp => ?_⟩
      have gr := Grow.new (o := .lst (cutV vs lo hi)) S3.fh hp
      exact k _ ρ3 _ _ _ h3 (x.trans gr.ff) (S3.grow gr) (dn_lst.mpr ⟨p, _, rfl, upd_same, (cut_dn n4 lo hi).mono gr.ff⟩)
    | tup ds =>
      cases hq
      obtain ⟨a, vs, e1, h4, n4⟩ := dn_tup.mp n3
      refine .inr (.inl ⟨a, vs, e1, ex_t S3.fh h4, fun hw => ?_, fun _ p hp => ?_⟩)
      · have ec : cutV vs lo hi = vs := by
          unfold cutV
          rw [hw.1, hw.2, List.drop_zero, Nat.sub_zero, List.take_length]
        have n5 := cut_dn n4 lo hi
        rw [ec] at n5
        exact k _ ρ3 _ _ _ h3 x S3 (dn_tup.mpr ⟨a, vs, rfl, h4, n5⟩)
      · have gr := Grow.new (o := .tup (cutV vs lo hi)) S3.fh hp
        exact k _ ρ3 _ _ _ h3 (x.trans gr.ff) (S3.grow gr) (dn_tup.mpr ⟨p, _, rfl, .inl (.inl upd_same), (cut_dn n4 lo hi).mono gr.ff⟩)
    | str z =>
      cases hq
      exact .inr (.inr ⟨z, dn_str.mp n3, sz_of (hz z rfl), k _ ρ3 _ _ _ h3 x S3 (dn_str.mpr rfl)⟩)
    | non => cases hq
    | bl _ => cases hq
    | int _ => cases hq
    | dic _ _ => cases hq
    | obj _ _ _ => cases hq
    | scr _ => cases hq
theorem pick_dn {F : Hp} {vs : List V} (n : DnL K F ds vs) (is : List Nat) : DnL K F (is.filterMap (ds[·]?)) (is.filterMap (vs[·]?)) := by
  induction is with
  | nil => exact .nil
  | cons i is ih =>
    rw [List.filterMap_cons, List.filterMap_cons]
    cases e : ds[i]? with
    | none =>
      have : vs[i]? = none := by
        rw [List.getElem?_eq_none_iff] at e ⊢
        rw [← n.length]
        exact e
      rw [this]
      exact ih
    | some x =>
      obtain ⟨u, eu, ru⟩ := n.get e
      rw [eu]
      exact .cons ru ih
theorem stepPick_dn {F : Hp} {vs : List V} (n : DnL K F ds vs) (i c : Int) : DnL K F (stepPick ds i c) (stepPick vs i c) := by
  unfold stepPick
  rw [n.length]
  exact pick_dn n _
theorem ev_step {tlo : TO} {c : Int} {Φ : D → Rho → Prop} (hc : c ≠ 0) (h : EvS K E Ξ te ρ fun d ρ1 => EvO K E Ξ tlo ρ1 fun lo ρ2 => ∃ ds i, d = .lst ds ∧ lo = some i ∧ Φ (.lst (stepPick ds i c)) ρ2) : EvS K E Ξ (tStepL K c te tlo) ρ Φ := fun F0 H0 σ F H Q S e k =>
  h F0 H0 σ F H _ S e fun d ρ1 v F1 H1 h1 x1 S1 n1 => h1 F0 H0 σ F1 H1 _ S1 e fun lo ρ2 F2 H2 ⟨ds, i, ed, el, h2⟩ x2 S2 => by
    subst ed
    obtain ⟨a, vs, e1, h4, n4⟩ := dn_lst.mp (n1.mono x2)
    refine ⟨i, el, a, vs, e1, .inl (.inl (S2.fh _ _ h4)), hc, fun p hp => ?_⟩
    have gr := Grow.new (o := .lst (stepPick vs i c)) S2.fh hp
    exact k _ ρ2 _ _ _ h2 ((x1.trans x2).trans gr.ff) (S2.grow gr) (dn_lst.mpr ⟨p, _, rfl, upd_same, (stepPick_dn n4 i c).mono gr.ff⟩)
theorem ev_rev {Φ : D → Rho → Prop} (h : EvS K E Ξ te ρ fun d ρ1 => ∃ ds, d = .lst ds ∧ Φ (.lst ds.reverse) ρ1) : EvS K E Ξ (tRevL K te) ρ Φ := fun F0 H0 σ F H Q S e k =>
  h F0 H0 σ F H _ S e fun d ρ1 v F1 H1 ⟨ds, ed, h1⟩ x1 S1 n1 => by
    subst ed
    obtain ⟨a, vs, e1, h4, n4⟩ := dn_lst.mp n1
    refine ⟨a, vs, e1, .inl (.inl (S1.fh _ _ h4)), fun p hp => ?_⟩
    have gr := Grow.new (o := .lst vs.reverse) S1.fh hp
    exact k _ ρ1 _ _ _ h1 (x1.trans gr.ff) (S1.grow gr) (dn_lst.mpr ⟨p, _, rfl, upd_same, n4.reverse.mono gr.ff⟩)
theorem ev_lst {Φ : D → Rho → Prop} (h : EvA K E Ξ tl ρ fun xs ρ1 => xs.length ≤ 100000 ∧ Φ (.lst xs) ρ1) : EvS K E Ξ (tLst tl) ρ Φ := EvL.ev (el_lst h)
abbrev rSplit : V → List V → Hp → VK → Prop := fun x xs H Q => ∃ a b, x = V.str a ∧ xs = [.str b] ∧ (b.length == 0) = false ∧ a.length + 2 ≤ sizeLine ∧ rNewStrs (Txt.split a b) H Q
abbrev rJoin (K : PySem.W.Frag) : V → List V → Hp → VK → Prop := fun x xs H Q => ∃ a p, ∃ ys : List Str, x = V.str a ∧ xs = [.ref p] ∧ (SqL K H p (ys.map V.str) ∨ SqT K H p (ys.map V.str)) ∧ (ys.map (·.length)).sum + ys.length * a.length ≤ 16777216 ∧ Q (.str (Txt.join a ys)) H
theorem ev_split {Φ : D → Rho → Prop} (h : EvS K E Ξ ta ρ fun d ρ1 => ∃ a, d = .str a ∧ a.length + 2 ≤ 100000 ∧ EvS K E Ξ tb ρ1 fun e ρ2 => ∃ b, e = .str b ∧ (b.length == 0) = false ∧ Φ (.lst ((Txt.split a b).map .str)) ρ2) : EvS K E Ξ (tM1 rSplit ta tb) ρ Φ := fun F0 H0 σ F H Q S e k =>
  h F0 H0 σ F H _ S e fun d ρ1 v F1 H1 ⟨a, ed, hl, h1⟩ x1 S1 n1 => by
    subst ed
    refine ⟨⟨a, dn_str.mp n1⟩, h1 F0 H0 σ F1 H1 _ S1 e fun d2 ρ2 w F2 H2 ⟨b, eb, hb, h2⟩ x2 S2 n2 => ?_⟩
    subst eb
    refine ⟨a, b, dn_str.mp n1, by rw [dn_str.mp n2], hb, sz_of hl, fun p hp => ?_⟩
    have gr := Grow.new (o := .lst ((Txt.split a b).map V.str)) S2.fh hp
    exact k _ ρ2 _ _ _ h2 ((x1.trans x2).trans gr.ff) (S2.grow gr) (dn_lst.mpr ⟨p, _, rfl, upd_same, DnL.strs⟩)
theorem ev_join {Φ : D → Rho → Prop} (h : EvS K E Ξ ta ρ fun d ρ1 => ∃ a, d = .str a ∧ EvS K E Ξ tb ρ1 fun e ρ2 => ∃ ys : List Str, e = .lst (ys.map .str) ∧ (ys.map (·.length)).sum + ys.length * a.length ≤ 100000 ∧ Φ (.str (Txt.join a ys)) ρ2) : EvS K E Ξ (tM1 (rJoin K) ta tb) ρ Φ := fun F0 H0 σ F H Q S e k =>
  h F0 H0 σ F H _ S e fun d ρ1 v F1 H1 ⟨a, ed, h1⟩ x1 S1 n1 => by
    subst ed
    refine ⟨⟨a, dn_str.mp n1⟩, h1 F0 H0 σ F1 H1 _ S1 e fun d2 ρ2 w F2 H2 ⟨ys, eb, hb, h2⟩ x2 S2 n2 => ?_⟩
    subst eb
    obtain ⟨q, vs, e1, h4, n4⟩ := dn_lst.mp n2
    have ev := DnL.strs' n4
    subst ev
    exact ⟨a, q, ys, dn_str.mp n1, by rw [e1], .inl (.inl (.inl (S2.fh _ _ h4))), Nat.le_trans hb (by decide), k _ ρ2 _ _ _ h2 (x1.trans x2) S2 (dn_str.mpr rfl)⟩
theorem c_listS {z : Str} (hz : z.length ≤ 100000) (h : Ψ (.lst (z.cps.toList.map fun c => .str ⟨#[c]⟩))) : Cl K (rListU K) [.str z] Ψ := .one fun F H v Q e nn q => .inr ⟨z, by rw [dn_str.mp nn], hz, fun p hp => by
  have gr := Grow.new (o := .lst (z.cps.toList.map fun c => V.str ⟨#[c]⟩)) e hp
  refine q _ _ _ _ h gr (dn_lst.mpr ⟨p, _, rfl, upd_same, ?_⟩)
  have := DnL.strs (K := K) (F := upd F p (.lst (z.cps.toList.map fun c => V.str ⟨#[c]⟩))) (zs := z.cps.toList.map fun c => (⟨#[c]⟩ : Str))
  rw [List.map_map, List.map_map] at this
  exact this⟩
theorem c_listL (h : Ψ (.lst ds)) : Cl K (rListU K) [.lst ds] Ψ := .one fun F H v Q e nn q => by
  obtain ⟨a, xs, e1, h2, n2⟩ := dn_lst.mp nn
  refine .inl ⟨a, xs, by rw [e1], .inl (.inl (.inl (e _ _ h2))), fun l hl => ?_⟩
  have gr := Grow.new (o := .lst xs) e hl
  exact q _ _ _ _ h gr (dn_lst.mpr ⟨l, xs, rfl, upd_same, n2.mono gr.ff⟩)
theorem c_listT (h : Ψ (.lst ds)) : Cl K (rListU K) [.tup ds] Ψ := .one fun F H v Q e nn q => by
  obtain ⟨a, xs, e1, h2, n2⟩ := dn_tup.mp nn
  refine .inl ⟨a, xs, by rw [e1], .inr (ex_t e h2), fun l hl => ?_⟩
  have gr := Grow.new (o := .lst xs) e hl
  exact q _ _ _ _ h gr (dn_lst.mpr ⟨l, xs, rfl, upd_same, n2.mono gr.ff⟩)
def leD : D → D → Bool := PySem.W.dataLe false py
theorem dn_zip {F : Hp} : ∀ {ds : List D} {vs : List V}, DnL K F ds vs → ∀ q ∈ vs.zip ds, Dn K F q.2 q.1
  | [], _, h, q, hq => by rw [dnl_nil.mp h] at hq; cases hq
  | d :: ds, _, h, q, hq => by
    obtain ⟨v, r, e, h1, h2⟩ := dnl_cons.mp h
    rw [e, List.zip_cons_cons] at hq
    rcases List.mem_cons.mp hq with z | z
    · rw [z]; exact h1
    · exact dn_zip h2 q z
theorem zip_dn {F : Hp} : ∀ {l : List (V × D)}, (∀ q ∈ l, Dn K F q.2 q.1) → DnL K F (l.map (·.2)) (l.map (·.1))
  | [], _ => .nil
  | q :: l, h => .cons (h q List.mem_cons_self) (zip_dn fun r hr => h r (List.mem_cons_of_mem _ hr))
theorem c_sorted {n : Nat} (hn : n ≤ 64) (hok : ∀ d ∈ ds, okD n d = true) (hal : PySem.W.AllAlike (ds.map py)) (hk : PySem.W.Sortable (ds.map py)) (h : Ψ (.lst (ds.mergeSort leD))) : Cl K (rSortD K) [.lst ds] Ψ := .one fun F H v Q e nn q => by
  obtain ⟨a, xs, e1, h2, n2⟩ := dn_lst.mp nn
  have hl := n2.length
  let l : List (V × D) := xs.zip ds
  have l1 : l.map (·.1) = xs := by simp only [l]; exact List.map_fst_zip (by omega)
  have l2 : l.map (·.2) = ds := by simp only [l]; exact List.map_snd_zip (by omega)
  have lm : ∀ q ∈ l, q.2 ∈ ds := fun q hq => by rw [← l2]; exact List.mem_map.mpr ⟨q, hq, rfl⟩
  let bs : List (V × PyData) := l.map fun q => (q.1, py q.2)
  have b1 : bs.map (·.1) = xs := by simp only [bs, List.map_map]; exact l1
  have b2 : bs.map (·.2) = ds.map py := by
    simp only [bs, List.map_map]
    rw [← l2, List.map_map]
    rfl
  refine ⟨a, bs, by rw [e1], .inl (.inl (by rw [b1]; exact e _ _ h2)), fun b hb => ?_, by rw [b2]; exact hal, by rw [b2]; exact hk, fun p hp => ?_⟩
  · obtain ⟨q, hq, rfl⟩ := List.mem_map.mp hb
    have ho := hok _ (lm q hq)
    exact ⟨dn_dp n q.2 q.1 ho ((dn_zip n2 q hq).mono e), Nat.le_trans (okD_lay n q.2 ho).2 hn⟩
  · have s1 : bs.mergeSort (PySem.W.dataLe false (·.2)) = (l.mergeSort (fun x y => leD x.2 y.2)).map fun q => (q.1, py q.2) :=
      (PySem.W.sort_maps (r := fun x y : V × D => leD x.2 y.2) (s := PySem.W.dataLe false (fun b : V × PyData => b.2)) (fun q : V × D => (q.1, py q.2)) fun _ _ _ _ => rfl).symm
    have s2 : (l.mergeSort (fun x y => leD x.2 y.2)).map (·.2) = ds.mergeSort leD := by
      rw [PySem.W.sort_maps (s := leD) (fun q : V × D => q.2) fun _ _ _ _ => rfl, l2]
    have s3 : DnL K F (ds.mergeSort leD) ((bs.mergeSort (PySem.W.dataLe false (·.2))).map (·.1)) := by
      rw [s1, List.map_map, ← s2]
      exact zip_dn fun q hq => dn_zip n2 q (List.mem_mergeSort.mp hq)
    have gr := Grow.new (o := .lst ((bs.mergeSort (PySem.W.dataLe false (·.2))).map (·.1))) e hp
    exact q _ _ _ _ h gr (dn_lst.mpr ⟨p, _, rfl, upd_same, s3.mono gr.ff⟩)
end
end Z

namespace Z
open PySem PySem.Spec PyProof.Rows L2 Evl
variable {K : PySem.W.Frag}
def spXI (C : Addr) (f : Str) : Sp := fun vs H Q _ => ∃ (a : Addr) (v : V), vs = [.ref a, v] ∧ H a = some (exo a C none) ∧ ∀ dx, H dx = none → dx ≠ a → Q .non (upd (upd H dx (exd dx [(f, v)])) a (exo a C (some dx)))
section
variable {E : L2.St → XK} {Ξ : Xi} {ρ : Rho} {ta tb tc te : TE} {tl : TA} {t : TT} {ts tu : TS} {i j : Nat} {d : D} {ds : List D} {p : Addr} {g : TG} {Ψ : D → Prop} {Φ : Out → Prop}
theorem r_raise {C : Addr} {f : Str} (h : EvA K E Ξ tl ρ fun ds ρ1 => ∃ d, ds = [d] ∧ Ξ C (some (f, d)) ρ1) : RunS K E Ξ (fun _ σ H => tMkO C (spXI C f) [] tl σ H (E σ)) ρ Φ := fun F0 H0 σ F H D S e k1 k2 k3 k4 =>
  h F0 H0 σ F H _ S e fun ds ρ1 vs F1 H1 ⟨d, ed, hx⟩ x1 S1 n1 => by
    subst ed
    obtain ⟨v, r, e1, n2, n3⟩ := dnl_cons.mp n1
    rw [dnl_nil.mp n3] at e1
    subst e1
    refine ⟨Nat.le_of_lt (by show 1 < 1000; decide), fun a ha => ⟨a, v, rfl, upd_same, fun dx hdx hne => ⟨rfl, dx, [(f, v)], upd_same, ?_, ?_, ?_⟩⟩⟩
    · rw [upd_ne hne]; exact upd_same
    · rw [upd_ne hne] at hdx; exact hdx
    · rw [upd_ne hne] at hdx
      let H' : Hp := upd (del (upd (upd (upd H1 a (exo a C none)) dx (exd dx [(f, v)])) a (exo a C (some dx))) a) dx (.xd [(f, v)])
      have same : ∀ b o, H1 b = some o → H' b = some o := fun b o hb => by
        have b1 : b ≠ a := fun z => by rw [z, ha] at hb; cases hb
        have b2 : b ≠ dx := fun z => by rw [z, hdx] at hb; cases hb
        show upd _ _ _ b = _
        rw [upd_ne b2, del_ne b1, upd_ne b1, upd_ne b2, upd_ne b1]
        exact hb
      have gr : Grow F1 H1 F1 H' := ⟨Ex.refl F1, same, fun b o hb => same b o (S1.fh b o hb), fun b _ h2 => h2⟩
      exact e C (some (f, d)) ρ1 σ (some dx) F1 H' hx (S1.grow gr) ⟨dx, v, rfl, upd_same, n2⟩
theorem Sd.unset {F0 H0 F H : Hp} {σ : L2.St} (S : Sd K F0 H0 ρ σ F H) : Sd K F0 H0 (ρ.set i .un) (σ.set i none) F H := S.wipe1
theorem Sd.any {F0 H0 F H : Hp} {σ : L2.St} {x : Option V} (S : Sd K F0 H0 ρ σ F H) : Sd K F0 H0 (ρ.set i .un) (σ.set i x) F H := by
  have S1 := S.wipe1 (i := i)
  refine ⟨S1.g, by rw [List.length_set, List.length_set]; exact S.len, fun j t h => ?_, S1.dj⟩
  by_cases e : i = j
  · subst e
    have hl : i < ρ.length := by
      have := (List.getElem?_eq_some_iff.mp h).1
      rwa [List.length_set] at this
    rw [List.getElem?_set_self hl] at h
    cases h
    trivial
  · have z := S1.sl j t h
    rw [get_set_ne e] at z ⊢
    exact z
theorem r_tryF {tb : WX → TS} {c : Value} {C : Addr} {f : Str} {Wout : WX} {Ξ1 : Xi} (hW : ∀ cls d σ H, Wout cls d σ H = E σ cls d H) (hij : i ≠ j)
    (body : ∀ W : WX, RunS K (fun σ cls d H => W cls d σ H) Ξ1 (tb W) ρ Φ)
    (hx : ∀ C' fld ρ', Ξ1 C' fld ρ' → ∃ b, PySem.W.exmOne K (.ref C') c = some b ∧ (b = true → C' = C ∧ i < ρ'.length ∧ ∃ d, fld = some (f, d) ∧ Φ (.nx (((ρ'.set i .un).set j (.dt d)).set i .un))) ∧ (b = false → Ξ C' fld ρ')) :
    RunS K E Ξ (fun D σ H => tb (wAs K c i (fun a cls d => tAsg (tXf a cls d C f (tVar i)) (gName j)) Wout D) D σ H) ρ Φ := by
  intro F0 H0 σ F H D S e k1 k2 k3 k4
  refine body _ F (delS ρ H) σ F H D S.rebase (fun C' fld ρ' σ' dd F' H' hc S1' xo => ?_) (fun ρ' σ' F' H' h x S' => k1 ρ' σ' F' H' h x (S.unbase S')) (fun d ρ' v σ' F' H' h x S' n => k2 d ρ' v σ' F' H' h x (S.unbase S') n)
    (fun ρ' σ' F' H' h x S' => k3 ρ' σ' F' H' h x (S.unbase S')) (fun ρ' σ' F' H' h x S' => k4 ρ' σ' F' H' h x (S.unbase S'))
  have S' := S.unbase S1'
  obtain ⟨b, eb, h1, h2⟩ := hx C' fld ρ' hc
  refine ⟨b, eb, fun ht a ha => ?_, fun hf => ?_⟩
  · obtain ⟨rfl, hlt, d, rfl, hΦ⟩ := h1 ht
    obtain ⟨ad, v, rfl, hd, nd⟩ := xo
    have hi : (σ'.set i (some (.ref a)))[i]? = some (some (.ref a)) := List.getElem?_set_self (by rw [S'.len]; exact hlt)
    refine ⟨_, hi, rfl, rfl, ad, _, v, rfl, hd, by simp [List.lookup], ?_⟩
    have S2 : Sd K F0 H0 (ρ'.set i .un) (σ'.set i (some (.ref a))) F' H' := S'.any
    exact k1 _ _ F' H' hΦ S1'.g.ff ((S2.putD nd).wipe1)
  · rw [hW]
    exact e C' fld ρ' σ' dd F' H' (h2 hf) S' xo
theorem r_tryC {tb : WX → TS} {c : Value} {w : V} {Wout : WX} {Ξ1 : Xi} (hw : ∀ F, Dn K F d w) (hW : ∀ cls d σ H, Wout cls d σ H = E σ cls d H)
    (body : ∀ W : WX, RunS K (fun σ cls d H => W cls d σ H) Ξ1 (tb W) ρ Φ)
    (hx : ∀ C' fld ρ', Ξ1 C' fld ρ' → ∃ b, PySem.W.exmOne K (.ref C') c = some b ∧ (b = true → Φ (.nx (((ρ'.set i .un).set j (.dt d)).set i .un))) ∧ (b = false → Ξ C' fld ρ')) :
    RunS K E Ξ (fun D σ H => tb (wAs K c i (fun _ _ _ => tAsg (tC w) (gName j)) Wout D) D σ H) ρ Φ := by
  intro F0 H0 σ F H D S e k1 k2 k3 k4
  refine body _ F (delS ρ H) σ F H D S.rebase (fun C' fld ρ' σ' dd F' H' hc S1' xo => ?_) (fun ρ' σ' F' H' h x S' => k1 ρ' σ' F' H' h x (S.unbase S')) (fun d ρ' v σ' F' H' h x S' n => k2 d ρ' v σ' F' H' h x (S.unbase S') n)
    (fun ρ' σ' F' H' h x S' => k3 ρ' σ' F' H' h x (S.unbase S')) (fun ρ' σ' F' H' h x S' => k4 ρ' σ' F' H' h x (S.unbase S'))
  have S' := S.unbase S1'
  obtain ⟨b, eb, h1, h2⟩ := hx C' fld ρ' hc
  refine ⟨b, eb, fun ht a ha => ?_, fun hf => ?_⟩
  · have S2 : Sd K F0 H0 (ρ'.set i .un) (σ'.set i (some (.ref a))) F' H' := S'.any
    exact k1 _ _ F' H' (h1 ht) S1'.g.ff ((S2.putD (hw F')).wipe1)
  · rw [hW]
    exact e C' fld ρ' σ' dd F' H' (h2 hf) S' xo

theorem ev_stat {C : Addr} {Φ : D → Rho → Prop} {P : PP} (h : EvA K E Ξ tl ρ fun ds ρ1 => ∃ Ψ Θ, P ds Ψ Θ ∧ (∀ d, Ψ d → Φ d ρ1) ∧ ∀ C fld, Θ C fld → Ξ C fld ρ1) : EvS K E Ξ (tStat C (spP K P) E (tC (.ref C)) tl) ρ Φ := fun F0 H0 σ F H Q S e k =>
  ⟨rfl, h F0 H0 σ F H _ S e fun ds ρ1 vs F1 H1 ⟨Ψ, Θ, h1, h2, h3⟩ x1 S1 n1 => by
    rw [List.append_nil]
    exact ⟨ds, F1, Ψ, Θ, h1, S1.fh, n1, fun d v F' H' hd g n => k d ρ1 v F' H' (h2 d hd) (x1.trans g.ff) (S1.grow g) n, fun C fld dd F' H' hc g x => e C fld ρ1 σ dd F' H' (h3 C fld hc) (S1.grow g) x⟩⟩
theorem c_strOwn {C : Addr} {P : PP} {ks : List Str} (h : ∃ Ψ', P [.obj C ks ds] Ψ' noT ∧ ∀ d, Ψ' d → (∃ y, d = .str y) ∧ Ψ d) : Cl K (rStrOwn C (spP K P)) [.obj C ks ds] Ψ := .one fun F H v Q e nn q => by
  obtain ⟨a, dx, xs, e1, h1, h2, hl, n2⟩ := dn_obj.mp nn
  obtain ⟨Ψ', hP, hΨ⟩ := h
  subst e1
  refine ⟨a, dx, _, rfl, e _ _ h1, [.obj C ks ds], F, Ψ', noT, hP, e, .cons nn .nil, fun d v F' H' hd g n => ?_, fun _ _ _ _ _ z => z.elim⟩
  obtain ⟨⟨y, rfl⟩, z⟩ := hΨ d hd
  exact ⟨⟨y, dn_str.mp n⟩, q _ v F' H' z g n⟩
def spMk (K : PySem.W.Frag) (C : Addr) (P : List D → (List Str → List D → Prop) → Prop) : Sp := fun vs H Q _ => ∃ (x dx : Addr) (ws : List V) (ds : List D) (F : Hp) (Φ : List Str → List D → Prop), vs = .ref x :: ws ∧ P ds Φ ∧ Ex F H ∧ F x = none ∧ F dx = none ∧ H x = some (.ins C dx []) ∧ H dx = some (.own x) ∧ DnL K F ds ws ∧
  ∀ (ks : List Str) (es : List D) (us : List V) (F' H' : Hp), Φ ks es → Ex F F' → Ex F' H' → (∀ b o, b ≠ x → H b = some o → H' b = some o) → (∀ b, H b ≠ none → F b = none → F' b = none) → H' x = some (.ins C dx (ks.zip us)) → ks.length = es.length → DnL K F' es us → Q .non H'
theorem ev_make {C : Addr} {Φ : D → Rho → Prop} {P : List D → (List Str → List D → Prop) → Prop} {E0' : XK} (h : EvA K E Ξ tl ρ fun ds ρ1 => ∃ Ψ, P ds Ψ ∧ ∀ ks es, Ψ ks es → Φ (.obj C ks es) ρ1) : EvS K E Ξ (tMake C (spMk K C P) [] E0' tl) ρ Φ := fun F0 H0 σ F H Q S e k =>
  h F0 H0 σ F H _ S e fun ds ρ1 vs F1 H1 ⟨Ψ, h1, h2⟩ x1 S1 n1 x dx hx hdx hne => by
    rw [List.append_nil]
    have fx : F1 x = none := fresh_F S1.fh hx
    have fdx : F1 dx = none := fresh_F S1.fh hdx
    have e2 : Ex H1 (upd (upd H1 dx (.own x)) x (.ins C dx [])) := (Ex.new hdx).mut hx
    refine ⟨x, dx, vs, ds, F1, Ψ, rfl, h1, S1.fh.trans e2, fx, fdx, upd_same, by rw [upd_ne hne]; exact upd_same, n1, fun ks es us F' H' hp a1 a2 a3 a4 a5 a6 a7 => ⟨rfl, ?_⟩⟩
    have hdx' : H' dx = some (.own x) := a3 dx _ hne (by rw [upd_ne hne]; exact upd_same)
    have fx' : F' x = none := a4 x (by rw [upd_same]; simp) fx
    have fdx' : F' dx = none := a4 dx (by rw [upd_ne hne, upd_same]; simp) fdx
    let F2 : Hp := upd (upd F' dx (.own x)) x (.ins C dx (ks.zip us))
    have x2 : Ex F' F2 := (Ex.new fdx').mut fx'
    have gr : Grow F1 H1 F2 H' := by
      refine ⟨a1.trans x2, fun b o hb => a3 b o (fun z => by rw [z, hx] at hb; cases hb) (e2 b o hb), fun b o hb => ?_, fun b hb1 hb2 => ?_⟩
      · by_cases c1 : b = x
        · subst c1
          have : F2 b = some (.ins C dx (ks.zip us)) := upd_same
          rw [this] at hb
          cases hb
          exact a5
        · by_cases c2 : b = dx
          · subst c2
            have : F2 b = some (.own x) := by show upd _ _ _ b = _; rw [upd_ne c1, upd_same]
            rw [this] at hb
            cases hb
            exact hdx'
          · have : F2 b = F' b := by show upd _ _ _ b = _; rw [upd_ne c1, upd_ne c2]
            rw [this] at hb
            exact a2 b o hb
      · have c1 : b ≠ x := fun z => hb1 (z ▸ hx)
        have c2 : b ≠ dx := fun z => hb1 (z ▸ hdx)
        show upd _ _ _ b = none
        rw [upd_ne c1, upd_ne c2]
        exact a4 b (by rw [upd_ne c1, upd_ne c2]; exact hb1) hb2
    refine k _ ρ1 (.ref x) F2 H' (h2 ks es hp) (x1.trans gr.ff) (S1.grow gr) (dn_obj.mpr ⟨x, dx, us, rfl, upd_same, ?_, a6, a7.mono x2⟩)
    show upd _ _ _ dx = _
    rw [upd_ne hne, upd_same]

def clsD : D → Option String
  | .non => some "NoneType" | .bl _ => some "bool" | .int _ => some "int" | .str _ => some "str" | .tup _ => some "tuple" | .lst _ => some "list" | .dic _ _ => some "dict" | _ => none
theorem tyX_of {F H : Hp} {v : V} (e : Ex F H) : ∀ {d : D} {c : String}, clsD d = some c → Dn K F d v → TyX K H v (.type c)
  | .non, c, h, n => by rw [dn_non.mp n]; cases h; exact .base .non
  | .bl b, c, h, n => by rw [dn_bl.mp n]; cases h; exact .base (.bl b)
  | .int b, c, h, n => by rw [dn_int.mp n]; cases h; exact .base (.int b)
  | .str b, c, h, n => by rw [dn_str.mp n]; cases h; exact .base (.str b)
  | .tup ds, c, h, n => by
    obtain ⟨a, xs, e1, h1, _⟩ := dn_tup.mp n
    rw [e1]
    cases h
    rcases ex_t e h1 with (z | ⟨o, z⟩) | ⟨o, its, m, h1, h2, _⟩
    · exact .base (.tup z)
    · exact .fTuple z
    · exact .kTuple h1 h2
  | .lst ds, c, h, n => by
    obtain ⟨a, xs, e1, h1, _⟩ := dn_lst.mp n
    rw [e1]
    cases h
    exact .base (.lst (e _ _ h1))
  | .dic ks ds, c, h, n => by
    obtain ⟨a, xs, e1, h1, _⟩ := dn_dic.mp n
    rw [e1]
    cases h
    exact .base (.dK (e _ _ h1))
  | .obj _ _ _, c, h, _ => by cases h
  | .scr _, c, h, _ => by cases h
theorem ev_isi {T : String} {Φ : D → Rho → Prop} (h : EvS K E Ξ te ρ fun d ρ1 => ∃ c b, clsD d = some c ∧ kitB c T = some b ∧ Φ (.bl b) ρ1) : EvS K E Ξ (tCB (rIsi K) (tCons te (tCons (tC (.ty T)) tNil))) ρ Φ := fun F0 H0 σ F H Q S e k =>
  h F0 H0 σ F H _ S e fun d ρ1 v F1 H1 ⟨c, b, hc, hb, h1⟩ x1 S1 n1 => ⟨v, .ty T, .type c, .type T, b, rfl, .ty T, tyX_of S1.fh hc n1, kit_ty hb, k (.bl b) ρ1 _ F1 H1 h1 x1 S1 (dn_bl.mpr rfl)⟩

def findK : List Str → List D → Str → Option D
  | k :: ks, d :: ds, f => if k = f then some d else findK ks ds f
  | _, _, _ => none
theorem val_dn {F : Hp} {f : Str} : ∀ {ks : List Str} {ds : List D} {vs : List V}, DnL K F ds vs → ks.length = ds.length → (valV (kvZ ks vs) (.inr f) = none ↔ findK ks ds f = none) ∧ ∀ v, valV (kvZ ks vs) (.inr f) = some v → ∃ d, findK ks ds f = some d ∧ Dn K F d v
  | [], [], _, n, _ => by rw [dnl_nil.mp n]; exact ⟨⟨fun _ => rfl, fun _ => rfl⟩, fun v h => by cases h⟩
  | [], _ :: _, _, _, h => by cases h
  | _ :: _, [], _, _, h => by cases h
  | k :: ks, d :: ds, vs, n, h => by
    obtain ⟨v, r, e, h1, h2⟩ := dnl_cons.mp n
    subst e
    have ih := val_dn (f := f) h2 (Nat.succ.inj h)
    show (valV ((Sum.inr k, v) :: kvZ ks r) (.inr f) = none ↔ _) ∧ ∀ w, valV ((Sum.inr k, v) :: kvZ ks r) (.inr f) = some w → _
    unfold findK
    by_cases c : k = f
    · rw [valV_pos (by rw [c]), if_pos c]
      exact ⟨⟨(fun z => nomatch z), (fun z => nomatch z)⟩, (fun w hw => by cases hw; exact ⟨d, rfl, h1⟩)⟩
    · rw [valV_neg (fun z => c (Sum.inr.inj z)), if_neg c]
      exact ih
theorem find_in {f : Str} : ∀ {ks : List Str} {ds : List D}, ks.length = ds.length → (findK ks ds f).isSome = ks.contains f
  | [], [], _ => rfl
  | [], _ :: _, h => by cases h
  | _ :: _, [], h => by cases h
  | k :: ks, d :: ds, h => by
    unfold findK
    rw [List.contains_cons]
    by_cases c : k = f
    · rw [if_pos c, c]; simp
    · rw [if_neg c, find_in (Nat.succ.inj h)]
      have : (f == k) = false := by simpa using fun z : f = k => c z.symm
      rw [this, Bool.false_or]
theorem val_some {F : Hp} {f : Str} {ks : List Str} {vs : List V} (n : DnL K F ds vs) (h : ks.length = ds.length) : (valV (kvZ ks vs) (.inr f)).isSome = ks.contains f := by
  have z := val_dn (f := f) n h
  rw [← find_in h]
  cases q : valV (kvZ ks vs) (.inr f) with
  | none => rw [(z.1).mp q] <;> rfl
  | some v => obtain ⟨d, hd, _⟩ := z.2 v q; rw [hd] <;> rfl
theorem ev_dIn {Φ : D → Rho → Prop} (h : EvS K E Ξ ta ρ fun d ρ1 => ∃ f, d = .str f ∧ EvS K E Ξ tb ρ1 fun e ρ2 => ∃ ks ds, e = .dic ks ds ∧ Φ (.bl (ks.contains f)) ρ2) : EvS K E Ξ (tDIn ta tb) ρ Φ := fun F0 H0 σ F H Q S e k =>
  h F0 H0 σ F H _ S e fun d ρ1 v F1 H1 ⟨f, ed, h1⟩ x1 S1 n1 => h1 F0 H0 σ F1 H1 _ S1 e fun d2 ρ2 w F2 H2 ⟨ks, ds, e2, h2⟩ x2 S2 n2 => by
    subst ed e2
    obtain ⟨a, xs, e3, h3, hl, n3⟩ := dn_dic.mp n2
    refine ⟨a, _, e3, .inl ⟨_, .inr f, .inl (S2.fh _ _ h3), dn_str.mp n1, rfl⟩, ?_⟩
    rw [val_some n3 hl]
    exact k _ ρ2 _ F2 H2 h2 (x1.trans x2) S2 (dn_bl.mpr rfl)
theorem ev_dInO {ks : List Str} {Φ : D → Rho → Prop} (hj : ρ[j]? = some (.od p ks ds)) (h : EvS K E Ξ ta ρ fun d ρ1 => ρ1 = ρ ∧ ∃ f, d = .str f ∧ Φ (.bl (ks.contains f)) ρ) : EvS K E Ξ (tDIn ta (tVar j)) ρ Φ := fun F0 H0 σ F H Q S e k =>
  h F0 H0 σ F H _ S e fun d ρ1 v F1 H1 ⟨er, f, ed, h1⟩ x1 S1 n1 => by
    subst er ed
    obtain ⟨e1, _, _, vs, h4, hl, n4⟩ := S1.ownD hj
    refine ⟨_, e1, p, _, rfl, .inl ⟨_, .inr f, .inl h4, dn_str.mp n1, rfl⟩, ?_⟩
    rw [val_some n4 hl]
    exact k _ _ _ F1 H1 h1 x1 S1 (dn_bl.mpr rfl)
theorem put_new {F : Hp} {f : Str} {ks : List Str} {vs : List V} {v : V} (n : DnL K F ds vs) (hl : ks.length = ds.length) (hn : ks.contains f = false) : putK (kvZ ks vs) (.inr f) v = kvZ (ks ++ [f]) (vs ++ [v]) := by
  have q : valV (kvZ ks vs) (.inr f) = none := by
    have z := val_some (f := f) n hl
    rw [hn] at z
    cases q : valV (kvZ ks vs) (.inr f) with
    | none => rfl
    | some w => rw [q] at z; cases z
  rw [putK_new v q]
  unfold kvZ
  rw [List.map_append, List.zip_append (by rw [List.length_map, hl, n.length])]
  rfl
theorem kv_len {F : Hp} {ks : List Str} {vs : List V} (n : DnL K F ds vs) (hl : ks.length = ds.length) : (kvZ ks vs).length = ks.length := by
  unfold kvZ
  rw [List.length_zip, List.length_map, ← n.length, hl, Nat.min_self]
theorem r_dput {ks : List Str} (hj : ρ[j]? = some (.od p ks ds)) (hz : ks.length < 100000) (h : EvS K E Ξ te ρ fun d ρ1 => ρ1 = ρ ∧ EvS K E Ξ tb ρ fun b ρ2 => ρ2 = ρ ∧ ∃ f, b = .str f ∧ ks.contains f = false ∧ Φ (.nx (ρ.set j (.od p (ks ++ [f]) (ds ++ [d]))))) : RunS K E Ξ (sDPut (tVar j) tb te) ρ Φ := fun F0 H0 σ F H D S e k1 k2 k3 k4 =>
  h F0 H0 σ F H _ S e fun d ρ1 v F1 H1 ⟨er, h1⟩ x1 S1 n1 => by
    subst er
    refine ⟨_, (S1.ownD hj).1, h1 F0 H0 σ F1 H1 _ S1 e fun b ρ2 w F2 H2 ⟨er, f, eb, hn, hΦ⟩ x2 S2 n2 => ?_⟩
    subst er eb
    obtain ⟨_, _, _, vs, h4, hl, n4⟩ := S2.ownD hj
    refine ⟨p, _, rfl, .inl ⟨_, .inr f, h4, dn_str.mp n2, sz_lt (by rw [kv_len n4 hl]; exact hz), rfl⟩, ?_⟩
    rw [put_new n4 hl hn]
    exact k1 _ _ F2 _ hΦ (x1.trans x2) (S2.chgD hj (by rw [List.length_append, List.length_append, hl]; rfl) (n4.snoc (n1.mono x2)))
theorem r_newD (h : ∀ p, Φ (.nx (ρ.set i (.od p [] [])))) : RunS K E Ξ (tAsg tDNewK (gName i)) ρ Φ := fun F0 H0 σ F H D S e k1 k2 k3 k4 p hp => by
  refine k1 _ _ F _ (h p) (Ex.refl F) ((S.grow (Grow.newM S.fh hp)).put (fun _ => ⟨rfl, S.new0 hp, fresh_F S.fh hp, [], upd_same, rfl, .nil⟩) fun q eq k t _ hk z => ?_)
  cases eq
  exact S.newAd hp k t hk z
end
end Z

namespace Z
open PySem PySem.Spec PyProof.Rows L2 Evl
variable {K : PySem.W.Frag}
def addK (ks : List Str) (f : Str) : List Str := if ks.contains f = true then ks else ks ++ [f]
def keysOf (fs : List Str) : List Str := fs.foldl addK []
theorem addK_has {ks : List Str} {f g : Str} : (addK ks f).contains g = (ks.contains g || (g == f)) := by
  unfold addK
  by_cases c : ks.contains f = true
  · rw [if_pos c]
    by_cases e : g = f
    · subst e; rw [c]; simp
    · have : (g == f) = false := by simpa using e
      rw [this, Bool.or_false]
  · rw [if_neg c]
    rw [List.contains_eq_any_beq, List.contains_eq_any_beq, List.any_append]
    simp [Bool.beq_comm]
theorem keys_has {f : Str} : ∀ (fs : List Str) (ks : List Str), (fs.foldl addK ks).contains f = (ks.contains f || fs.contains f)
  | [], ks => by simp
  | g :: fs, ks => by
    rw [List.foldl_cons, keys_has fs, addK_has, List.contains_cons, Bool.or_assoc]
theorem keysOf_has {f : Str} {fs : List Str} : (keysOf fs).contains f = fs.contains f := by
  unfold keysOf
  rw [keys_has]
  simp
theorem keysOf_len : ∀ (fs ks : List Str), (fs.foldl addK ks).length ≤ ks.length + fs.length
  | [], ks => Nat.le_refl _
  | g :: fs, ks => by
    rw [List.foldl_cons]
    refine Nat.le_trans (keysOf_len fs _) ?_
    unfold addK
    split
    · rw [List.length_cons]; omega
    · rw [List.length_append, List.length_cons, List.length_cons, List.length_nil]; omega
def trues (n : Nat) : List V := List.replicate n (V.bl true)
theorem put_true (K : PySem.W.Frag) {ks : List Str} {f : Str} : putK (kvZ ks (trues ks.length)) (.inr f) (.bl true) = kvZ (addK ks f) (trues (addK ks f).length) := by
  have n : DnL K (fun _ => none) (ks.map fun _ => D.bl true) (trues ks.length) := by
    unfold trues
    induction ks with
    | nil => exact .nil
    | cons k ks ih => exact .cons (dn_bl.mpr rfl) ih
  have hl : ks.length = (ks.map fun _ => D.bl true).length := by rw [List.length_map]
  unfold addK
  by_cases c : ks.contains f = true
  · rw [if_pos c]
    have hv := val_some (f := f) n hl
    unfold putK
    have ha : ((kvZ ks (trues ks.length)).any fun kv => decide (kv.1 = .inr f)) = true := by rw [valV_any, hv, c]
    rw [if_pos ha]
    apply List.ext_getElem?
    intro i
    rw [List.getElem?_map]
    cases q : (kvZ ks (trues ks.length))[i]? with
    | none => rfl
    | some kv =>
      have hm : kv ∈ kvZ ks (trues ks.length) := List.mem_of_getElem? q
      have h2 : kv.2 = .bl true := by
        unfold kvZ trues at hm
        have := (List.of_mem_zip hm).2
        exact List.eq_of_mem_replicate this
      show some (if kv.1 = .inr f then (kv.1, V.bl true) else kv) = some kv
      split
      · rw [← h2]
      · rfl
  · rw [if_neg c, put_new n hl (by simpa using c), List.length_append]
    unfold trues
    rw [List.length_singleton, List.replicate_succ']
theorem trues_dn {F : Hp} : ∀ (ks : List Str), DnL K F (ks.map fun _ => D.bl true) (trues ks.length)
  | [] => .nil
  | _ :: ks => .cons (dn_bl.mpr rfl) (trues_dn ks)
section
variable {E : L2.St → XK} {Ξ : Xi} {ρ : Rho} {tk : TE} {g : TG}
theorem ev_dcT {wi : TI} {vs : List Nat} {Φ : D → Rho → Prop} (hg : GT g vs) (f : D → Str)
    (h : EvI K E Ξ wi ρ fun xs ρ1 => xs.length < 100000 ∧ (∀ d ∈ xs, RunG K g d (wipeR (wipeR ρ1 vs) vs) fun ρ3 => EvS K (fun _ => E0) noX tk ρ3 fun e ρ5 => e = .str (f d) ∧ wipeR ρ5 vs = wipeR ρ1 vs) ∧
      Φ (.dic (keysOf (xs.map f)) ((keysOf (xs.map f)).map fun _ => .bl true)) (wipeR ρ1 vs)) : EvS K E Ξ (tDc wi g tYes tk (tC (.bl true)) vs) ρ Φ := by
  intro F0 H0 σ F H Q S e k
  refine h F0 H0 σ F H _ S e fun xs ρ1 J F1 H1 ⟨hlen, turn, fin⟩ x1 S1 it => ?_
  intro Dl hD
  have hw : Sd K F0 H0 (wipeR ρ1 vs) σ F1 H1 := S1.forget vs
  have d0 : H0 Dl = none := S1.new0 hD
  have S2 : Sd K F0 H0 (wipeR ρ1 vs) σ F1 (upd H1 Dl (.dK [])) := hw.out d0 (fresh_F S1.fh hD) (hw.newAd hD)
  let P : Nat → Hp → Prop := fun i H' => ∃ (F' : Hp) (ks : List Str), ks = keysOf ((xs.take i).map f) ∧ Ex F1 F' ∧ Sd K F0 H0 (wipeR ρ1 vs) σ F' H' ∧ F' Dl = none ∧ H' Dl = some (.dK (kvZ ks (trues ks.length)))
  have nD : ∀ (i : Nat) (s : Slot), (wipeR ρ1 vs)[i]? = some s → s.ad ≠ some Dl := hw.newAd hD
  refine ⟨fun i m H' => m = xs.length - i ∧ i ≤ xs.length ∧ P i H', ⟨xs.length, rfl, Nat.zero_le _, F1, [], rfl, Ex.refl F1, S2, fresh_F S1.fh hD, upd_same⟩, ?_⟩
  rintro i m H' ⟨rfl, hi, F', ks, ek, x', S', fD, hDw⟩
  obtain ⟨a, b⟩ := it i F' H' x' S'.fh
  by_cases hl : i < xs.length
  · have hget : xs[i]? = some xs[i] := List.getElem?_eq_getElem hl
    obtain ⟨go, yl⟩ := a xs[i] hget
    refine .inr ⟨go, fun H2 => P (i + 1) H2, fun H2 p2 => ⟨xs.length - (i + 1), by omega, rfl, hl, p2⟩, fun v H2 hy => ?_⟩
    obtain ⟨F2, g2, n2⟩ := yl v H2 hy
    have hD2 : H2 Dl = some (.dK (kvZ ks (trues ks.length))) := g2.hh _ _ hDw
    have fD2 : F2 Dl = none := g2.nw Dl (by rw [hDw]; simp) fD
    have Sb : Sd K F0 H0 (wipeR (wipeR ρ1 vs) vs) (wipe σ vs) F2 H2 := (S'.grow g2).wipe vs
    have nb : ∀ (i : Nat) (s : Slot), (wipeR (wipeR ρ1 vs) vs)[i]? = some s → s.ad ≠ some Dl := fun i s hs => by
      rw [wipeR_get] at hs
      split at hs
      · cases hs
        intro z
        cases z
      · exact nD i s hs
    have dk : delS (wipeR (wipeR ρ1 vs) vs) H2 Dl = some (.dK (kvZ ks (trues ks.length))) := (delS_keep nb).trans hD2
    refine hg v (wipe σ vs) (wipe σ vs) H2 _ wipe_wipe ?_
    refine turn xs[i] (List.getElem_mem hl) F2 _ (wipe σ vs) F2 H2 v _ Sb.rebase n2 fun ρ3 σ3 F3 H3 h3 x3 S3 hw3 => ?_
    show tk σ3 H3 fun y H4 => ∃ kvs k, y = kV k ∧ H4 Dl = some (.dK kvs) ∧ kvs.length < sizeLine ∧ P (i + 1) (upd H4 Dl (.dK (putK kvs k (.bl true))))
    refine h3 F2 _ σ3 F3 H3 _ S3 EOk.no fun q ρ5 y F5 H5 ⟨eq, e5⟩ x5 S5 n5 => ?_
    subst eq
    have q1 : Sd K F2 (delS (wipeR (wipeR ρ1 vs) vs) H2) (wipeR ρ5 vs) (wipe σ vs) F5 H5 := (hw3 ▸ S5.wipe vs)
    have b1 : Sd K F0 H0 (wipeR ρ1 vs) σ F5 H5 := by
      have z := (Sb.unbase q1)
      rw [e5] at z
      exact z.weak (σ' := σ) wipe_wipe.symm
    have b2 : H5 Dl = some (.dK (kvZ ks (trues ks.length))) := S5.g.hh _ _ dk
    have b3 : F5 Dl = none := S5.g.nw Dl (by rw [dk]; simp) fD2
    have kl : (kvZ ks (trues ks.length)).length ≤ 100000 - 1 := by
      have := keysOf_len ((xs.take i).map f) []
      rw [List.length_map, List.length_take] at this
      have e1 : ks.length ≤ i := by
        rw [ek]
        unfold keysOf
        simp only [List.length_nil] at this
        omega
      unfold kvZ trues
      rw [List.length_zip, List.length_map, List.length_replicate]
      omega
    refine ⟨_, .inr (f xs[i]), dn_str.mp n5, b2, sz_lt (by omega), F5, addK ks (f xs[i]), ?_, x'.trans ((g2.ff.trans x3).trans x5), b1.out d0 b3 nD, b3, ?_⟩
    · rw [ek, List.take_add_one, hget, List.map_append]
      unfold keysOf
      rw [List.foldl_append]
      rfl
    · rw [put_true K]
      exact upd_same
  · have e1 : i = xs.length := by omega
    subst e1
    rw [List.take_length] at ek
    subst ek
    refine .inl ⟨b (Nat.le_refl _), ?_⟩
    have x2 : Ex F' (upd F' Dl (.dK (kvZ (keysOf (xs.map f)) (trues (keysOf (xs.map f)).length)))) := Ex.new fD
    exact k _ _ (.ref Dl) _ H' fin ((x1.trans x').trans x2) (S'.frzN d0 fD nD hDw) (dn_dic.mpr ⟨Dl, _, rfl, upd_same, by rw [List.length_map], trues_dn _⟩)
end
end Z

namespace Z
open PySem PySem.Spec PyProof.Rows L2 Evl
section
variable {K : PySem.W.Frag} {E : L2.St → XK} {Ξ : Xi} {ρ : Rho} {te : TE} {tt : TT} {ts : TS}
theorem ev_mono {Φ Ψ : D → Rho → Prop} (h : EvS K E Ξ te ρ Ψ) (k : ∀ d ρ', Ψ d ρ' → Φ d ρ') : EvS K E Ξ te ρ Φ := fun F0 H0 σ F H Q S e q =>
  h F0 H0 σ F H Q S e fun d ρ' v F' H' a => q d ρ' v F' H' (k d ρ' a)
theorem et_mono {Φ Ψ : Bool → Rho → Prop} (h : EvT K E Ξ tt ρ Ψ) (k : ∀ d ρ', Ψ d ρ' → Φ d ρ') : EvT K E Ξ tt ρ Φ := fun F0 H0 σ F H Q S e q =>
  h F0 H0 σ F H Q S e fun d ρ' F' H' a => q d ρ' F' H' (k d ρ' a)
theorem run_mono {Φ Ψ : Out → Prop} (h : RunS K E Ξ ts ρ Ψ) (k : ∀ o, Ψ o → Φ o) : RunS K E Ξ ts ρ Φ := fun F0 H0 σ F H D S e k1 k2 k3 k4 =>
  h F0 H0 σ F H D S e (fun a b c d i => k1 a b c d (k _ i)) (fun a b c d e' f i => k2 a b c d e' f (k _ i)) (fun a b c d i => k3 a b c d (k _ i)) (fun a b c d i => k4 a b c d (k _ i))
theorem r_cut {Φ : Out → Prop} {J : Rho → Prop} {tu : TS} (h : RunS K E Ξ ts ρ (thenO Φ J)) (k : ∀ ρ', J ρ' → RunS K E Ξ tu ρ' Φ) : RunS K E Ξ (tSeq ts tu) ρ Φ :=
  r_seq (run_mono h fun o ho => by
    cases o with
    | nx ρ' => exact k ρ' ho
    | rt _ _ => exact ho
    | bk _ => exact ho
    | ct _ => exact ho)
end
end Z

namespace Z
open PySem PySem.Spec PyProof.Rows L2 Evl
variable {K : PySem.W.Frag}
theorem Sd.over {F0 H0 F H H2 : Hp} {σ : L2.St} {ρ : Rho} (S : Sd K F0 H0 ρ σ F H) (hn : ∀ s ∈ ρ, s.ad = none) (x : Ex F H2) : Sd K F H2 ρ σ F H2 := by
  refine ⟨Grow.refl x, S.len, fun i s hi => ?_, S.dj⟩
  have a := S.sl i s hi
  have b := hn s (List.mem_of_getElem? hi)
  cases s with
  | un => trivial
  | dt d => exact a
  | ol p ds => cases b
  | od p ks ds => cases b
def MkS (K : PySem.W.Frag) (x C dx : Addr) (ts : TS) (ρ : Rho) (ks : List Str) (ds : List D) (Φ : Rho → List Str → List D → Prop) : Prop :=
  ∀ (σ : L2.St) (F H : Hp) (us : List V) (D : Ends), Sd K F H ρ σ F H → σ[0]? = some (some (.ref x)) → F x = none → H x = some (.ins C dx (ks.zip us)) → ks.length = ds.length → DnL K F ds us →
    (∀ (ρ' : Rho) (ks' : List Str) (ds' : List Z.D) (us' : List V) (σ' : L2.St) (F' H' : Hp), Φ ρ' ks' ds' → Ex F F' → (∀ b o, b ≠ x → H b = some o → H' b = some o) → (∀ b, H b ≠ none → F b = none → F' b = none) →
      Sd K F' H' ρ' σ' F' H' → σ'[0]? = some (some (.ref x)) → F' x = none → H' x = some (.ins C dx (ks'.zip us')) → ks'.length = ds'.length → DnL K F' ds' us' → D.nx σ' H') → ts D σ H
section
variable {x C dx : Addr} {ρ : Rho} {ks : List Str} {ds : List D} {ts tu : TS} {tv : TE}
theorem mk_end {Φ : Rho → List Str → List D → Prop} (h : Φ ρ ks ds) : MkS K x C dx tNext ρ ks ds Φ := fun σ F H us D S s0 f0 hx hl n k =>
  k ρ ks ds us σ F H h (Ex.refl F) (fun b o _ h => h) (fun b _ h => h) S s0 f0 hx hl n
theorem mk_seq {Φ : Rho → List Str → List D → Prop} (h : MkS K x C dx ts ρ ks ds fun ρ1 ks1 ds1 => MkS K x C dx tu ρ1 ks1 ds1 Φ) : MkS K x C dx (tSeq ts tu) ρ ks ds Φ := fun σ F H us D S s0 f0 hx hl n k =>
  h σ F H us _ S s0 f0 hx hl n fun ρ1 ks1 ds1 us1 σ1 F1 H1 h1 x1 a1 b1 S1 s1 f1 hx1 hl1 n1 =>
    h1 σ1 F1 H1 us1 D S1 s1 f1 hx1 hl1 n1 fun ρ2 ks2 ds2 us2 σ2 F2 H2 h2 x2 a2 b2 S2 s2 f2 hx2 hl2 n2 =>
      k ρ2 ks2 ds2 us2 σ2 F2 H2 h2 (x1.trans x2) (fun b o hb ho => a2 b o hb (a1 b o hb ho)) (fun b hb1 hb2 => by
        by_cases c : b = x
        · rw [c]; exact f2
        · cases q : H b with
          | none => exact (hb1 q).elim
          | some o => exact b2 b (by rw [a1 b o c q]; simp) (b1 b hb1 hb2)) S2 s2 f2 hx2 hl2 n2
theorem putF_snoc {f : Str} {v : V} : ∀ {ks : List Str} {us : List V}, ks.length = us.length → ks.contains f = false → putF f v (ks.zip us) = (ks ++ [f]).zip (us ++ [v])
  | [], [], _, _ => rfl
  | k :: ks, u :: us, hl, hn => by
    rw [List.contains_cons, Bool.or_eq_false_iff] at hn
    have : k ≠ f := by
      intro z
      rw [z, beq_self_eq_true] at hn
      exact Bool.noConfusion hn.1
    show putF f v ((k, u) :: ks.zip us) = (k, u) :: (ks ++ [f]).zip (us ++ [v])
    unfold putF
    rw [if_neg this, putF_snoc (Nat.succ.inj hl) hn.2]
theorem mk_fld {f : Str} {Φ : Rho → List Str → List D → Prop} (hc : Cls K C) (hf : NoAttr K C f) (hk : ks.contains f = false) (hz : ks.length < 1000)
    (h : EvS K (fun _ => E0) noX tv ρ fun d ρ1 => (∀ s ∈ ρ1, s.ad = none) ∧ Φ ρ1 (ks ++ [f]) (ds ++ [d])) : MkS K x C dx (sFld K (tVar 0) tv f) ρ ks ds Φ := fun σ F H us D S s0 f0 hx hl n k => by
  refine h F H σ F H _ S EOk.no fun d ρ1 v F1 H1 ⟨hn, hp⟩ x1 S1 n1 => ?_
  have hx1 : H1 x = some (.ins C dx (ks.zip us)) := S1.g.hh _ _ hx
  have fx1 : F1 x = none := S1.g.nw x (by rw [hx]; simp) f0
  have e : Ex F1 (upd H1 x (.ins C dx (putF f v (ks.zip us)))) := fun b o hb => by
    rw [upd_ne (fun z => by rw [z, fx1] at hb; cases hb)]
    exact S1.fh b o hb
  have l2 : ks.length = us.length := hl.trans n.length
  refine ⟨_, s0, x, C, dx, ks.zip us, rfl, hx1, hc, hf, by rw [List.length_zip]; omega, ?_⟩
  refine k ρ1 _ _ (us ++ [v]) σ F1 _ hp x1 (fun b o hb ho => by rw [upd_ne hb]; exact S1.g.hh b o ho) S1.g.nw (S1.over hn e) s0 fx1 ?_ ?_ ((n.mono x1).snoc n1)
  · rw [upd_same, putF_snoc l2 hk]
  · rw [List.length_append, List.length_append, hl]; rfl
theorem body_make {N : List Str} {P : List D → (List Str → List D → Prop) → Prop} {vs : List V} {H : Hp} {Q : VK} {E' : XK}
    (h : ∀ ds Φ, P ds Φ → ∀ x dx, MkS K x C dx ts (.un :: (ds.map Slot.dt ++ List.replicate (N.length - (ds.length + 1)) .un)) [] [] fun _ ks es => Φ ks es) (sp : spMk K C P vs H Q E') : ts { nx := fun _ H' => Q .non H', rt := Q } (L2.start N vs) H := by
  obtain ⟨x, dx, ws, ds, F, Φ, rfl, hp, ex, fx, fdx, hx, hdx, n, q⟩ := sp
  have hlen := n.length
  have S : Sd K F H (.un :: (ds.map Slot.dt ++ List.replicate (N.length - (ds.length + 1)) .un)) (L2.start N (.ref x :: ws)) F H := by
    refine ⟨Grow.refl ex, ?_, fun i s hi => ?_, fun i j s t p h1 h2 h3 h4 => ?_⟩
    · unfold L2.start
      simp only [List.length_append, List.length_map, List.length_replicate, List.length_cons, hlen]
      omega
    · cases i with
      | zero => cases hi; trivial
      | succ i =>
        rw [List.getElem?_cons_succ] at hi
        by_cases c : i < ds.length
        · rw [List.getElem?_append_left (by rw [List.length_map]; exact c), List.getElem?_map, List.getElem?_eq_getElem c] at hi
          cases hi
          obtain ⟨v, hv, nv⟩ := n.get (List.getElem?_eq_getElem c)
          exact ⟨v, by rw [start_get (v := v) (by rw [List.getElem?_cons_succ]; exact hv)] <;> rfl, nv⟩
        · rw [List.getElem?_append_right (by rw [List.length_map]; omega)] at hi
          rw [rep_un hi]
          trivial
    · exfalso
      cases i with
      | zero => cases h1; cases h3
      | succ i =>
        rw [List.getElem?_cons_succ] at h1
        by_cases c : i < ds.length
        · rw [List.getElem?_append_left (by rw [List.length_map]; exact c), List.getElem?_map, List.getElem?_eq_getElem c] at h1
          cases h1
          cases h3
        · rw [List.getElem?_append_right (by rw [List.length_map]; omega)] at h1
          rw [rep_un h1] at h3
          cases h3
  exact h ds Φ hp x dx (L2.start N (.ref x :: ws)) F H [] _ S (start_get rfl) fx hx rfl .nil fun ρ' ks' ds' us' σ' F' H' h1 x1 a1 b1 S1 s1 f1 hx1 hl1 n1 => q ks' ds' us' F' H' h1 x1 S1.fh a1 b1 hx1 hl1 n1
end
end Z

namespace Lw
open PySem PySem.Spec PyProof.Rows L2 Evl Z
def Letter (c : Nat) : Bool := decide (97 ≤ c) && decide (c ≤ 122)
def isLow (z : Str) : Bool := z.cps.toList.all Letter
def isNameM (w : Str) : Bool := decide (1 ≤ w.length) && decide (w.length ≤ 8) && isLow w
def limitWords : List Str := ["0", "1", "2", "3", "4", "5", "6", "7", "8", "9"]
def stepWords : List Str := ["1", "2", "3"]
def digitM (z : Str) : Int := (z.cps.toList.headD 48 : Nat) - 48
def ltS (a b : Str) : Bool := decide (a.cps.toList < b.cps.toList)
def areWaysM (name : Str) (words firsts : List Str) : Bool :=
  if words.headD "" != "->" || decide (words.length < 3) || words.length % 2 == 0 then false else
    (stepPick words 1 2).all (fun e => e != name && firsts.contains e && isNameM e) &&
      ((stepPick words 1 2).zip (stepPick words 1 2).tail).all (fun p => ltS p.1 p.2) && (stepPick words 2 2).all stepWords.contains
structure PlaceM where
  limit : Int
  stay : Bool
  ways : List (Str × Int)
deriving DecidableEq
def waysM (rest : List Str) : List (Str × Int) := (List.range (rest.length / 2)).map fun i => (rest.getD (1 + i * 2) "", digitM (rest.getD (1 + i * 2 + 1) ""))
def restM (words : List Str) : List Str := words.drop (if words.getD 2 "" == "stay" then 3 else 2)
def placeM (words firsts : List Str) : Option PlaceM :=
  if decide (words.length < 3) || !isNameM (words.getD 0 "") || !limitWords.contains (words.getD 1 "") then none else
    if !(restM words).isEmpty && !areWaysM (words.getD 0 "") (restM words) firsts then none else
      some ⟨digitM (words.getD 1 ""), words.getD 2 "" == "stay", waysM (restM words)⟩
def goM (firsts : List Str) : Nat → List Str → List PlaceM → List (List Str) → Except Nat (List PlaceM)
  | _, _, acc, [] => .ok acc
  | n, seen, acc, w :: ws =>
    if decide (6 ≤ n) then .error n else
      match placeM w firsts with
      | none => .error n
      | some p => if seen.contains (w.getD 0 "") then .error n else goM firsts (n + 1) (seen ++ [w.getD 0 ""]) (acc ++ [p]) ws
def firstsM (rows : List (List Str)) : List Str := rows.map fun w => w.getD 0 ""
def placesM (rows : List (List Str)) : Except Nat (List PlaceM) := goM (keysOf (firstsM rows)) 0 [] [] rows
structure SiteM where
  names : List Str
  limits : List Int
  stays : List Bool
  ways : List (List (Str × Int))
deriving DecidableEq
def siteM (rows : List (List Str)) (ps : List PlaceM) : SiteM := ⟨firstsM rows, ps.map (·.limit), ps.map (·.stay), ps.map (·.ways)⟩
def rowsM (text : Str) : List (List Str) := (Txt.split text "\n").map fun r => Txt.split r " "
def parseM (text : Str) : Except Nat SiteM :=
  match placesM (rowsM text) with
  | .error n => .error n
  | .ok ps => .ok (siteM (rowsM text) ps)
def fineW (w : List Str) : Bool := decide (1 ≤ w.length) && decide (w.length ≤ 1000) && w.all fun z => decide (z.length ≤ 600)
def fineR (rows : List (List Str)) : Bool := decide (rows.length ≤ 1000) && rows.all fineW
def fineT (t : Str) : Bool := decide (t.length ≤ 50000) && ((Txt.split t "\n").all fun r => decide (r.length ≤ 50000)) && fineR (rowsM t)
def strsD (ws : List Str) : D := .lst (ws.map .str)
def wayD (p : Str × Int) : D := .tup [.str p.1, .int p.2]
def placeD (p : PlaceM) : D := .tup [.int p.limit, .bl p.stay, .lst (p.ways.map wayD)]
def siteD (C : Addr) (s : SiteM) : D := .obj C ["names", "limits", "stays", "ways"] [.tup (s.names.map .str), .tup (s.limits.map .int), .tup (s.stays.map .bl), .tup (s.ways.map fun r => .tup (r.map wayD))]
def keyD (ks : List Str) : D := .dic ks (ks.map fun _ => .bl true)
instance {α β : Type} [DecidableEq α] [DecidableEq β] : DecidableEq (Except α β) := fun a b => match a, b with
  | .ok x, .ok y => if h : x = y then isTrue (h ▸ rfl) else isFalse fun e => h (by cases e; rfl)
  | .error x, .error y => if h : x = y then isTrue (h ▸ rfl) else isFalse fun e => h (by cases e; rfl)
  | .ok _, .error _ => isFalse fun e => by cases e
  | .error _, .ok _ => isFalse fun e => by cases e
theorem step_map {α β : Type} (f : α → β) (xs : List α) (i c : Int) : stepPick (xs.map f) i c = (stepPick xs i c).map f := by
  unfold stepPick
  rw [List.length_map, List.map_filterMap]
  congr 1
  funext k
  rw [List.getElem?_map]
theorem getD_get {α : Type} {xs : List α} {i : Nat} {d : α} (h : i < xs.length) : xs[i]? = some (xs.getD i d) := by
  rw [List.getD_eq_getElem?_getD, List.getElem?_eq_getElem h]
  rfl
theorem atI_D {α : Type} {xs : List α} {i : Nat} (d : α) (h : i < xs.length) : atI xs (i : Int) = some (xs.getD i d) := atI_nat (getD_get h)
theorem atI_map {α β : Type} {f : α → β} {xs : List α} {i : Int} {x : α} (h : atI xs i = some x) : atI (xs.map f) i = some (f x) := by
  unfold atI at *
  rw [List.length_map]
  cases e : ixN xs.length i with
  | none => rw [e] at h; cases h
  | some j =>
    rw [e] at h
    show (xs.map f)[j]? = _
    rw [List.getElem?_map, show xs[j]? = some x from h]
    rfl
theorem limit_int {z : Str} (h : limitWords.contains z = true) : PySem.intText? z = some (digitM z) ∧ z.length ≤ 640 := by
  have h := List.contains_iff_mem.mp h
  simp only [limitWords, List.mem_cons, List.not_mem_nil, or_false] at h
  rcases h with h | h | h | h | h | h | h | h | h | h <;> subst h <;> decide +kernel
theorem steps_int {z : Str} (h : stepWords.contains z = true) : PySem.intText? z = some (digitM z) ∧ z.length ≤ 640 := by
  have h := List.contains_iff_mem.mp h
  simp only [stepWords, List.mem_cons, List.not_mem_nil, or_false] at h
  rcases h with h | h | h <;> subst h <;> decide +kernel
theorem even_in {xs : List Str} {i : Nat} (h : 2 + 2 * i < xs.length) : xs.getD (2 + 2 * i) "" ∈ stepPick xs 2 2 := by
  unfold stepPick
  rw [List.mem_filterMap]
  refine ⟨2 + 2 * i, ?_, getD_get h⟩
  unfold sliceBounds sliceRange
  simp only [Option.getD_some, show ((2 : Int) > 0) = True from by simp, if_true, List.mem_map, List.mem_range]
  refine ⟨i, ?_, ?_⟩
  · have e : ¬ ((2 : Int) < 0) := by decide
    simp only [e, if_false]
    split <;> omega
  · have e : ¬ ((2 : Int) < 0) := by decide
    simp only [e, if_false]
    omega
theorem odd_in {xs : List Str} {i : Nat} (h : 1 + 2 * i < xs.length) : xs.getD (1 + 2 * i) "" ∈ stepPick xs 1 2 := by
  unfold stepPick
  rw [List.mem_filterMap]
  refine ⟨1 + 2 * i, ?_, getD_get h⟩
  unfold sliceBounds sliceRange
  simp only [Option.getD_some, show ((2 : Int) > 0) = True from by simp, if_true, List.mem_map, List.mem_range]
  refine ⟨i, ?_, ?_⟩
  · have e : ¬ ((1 : Int) < 0) := by decide
    simp only [e, if_false]
    split <;> omega
  · have e : ¬ ((1 : Int) < 0) := by decide
    simp only [e, if_false]
    omega
theorem step_len {α : Type} (xs : List α) (i : Int) : (stepPick xs i 2).length ≤ (sliceRange (sliceBounds (some i) none (some 2) xs.length).1 (sliceBounds (some i) none (some 2) xs.length).2.1 (sliceBounds (some i) none (some 2) xs.length).2.2).length := List.length_filterMap_le _ _
end Lw

namespace Z
open PySem PySem.Spec PyProof.Rows L2 Evl
variable {K : PySem.W.Frag}
theorem op_inK {X : Cx} {K : PySem.W.Frag} (e : X.K = K) : OpR X (compareOp .In) (rIn K false) := by subst e; exact op_in_seq
theorem op_notInK {X : Cx} {K : PySem.W.Frag} (e : X.K = K) : OpR X (compareOp .NotIn) (rIn K true) := by subst e; exact op_notIn_seq
theorem pg_tupK {X : Cx} {K : PySem.W.Frag} {es : List Expr} {k : Nat} {t : TGs} {n : Nat} {pos : Pos} (e : X.K = K) (hc : X.calm = true) (h : PGs X es t)
    (hn : (assignEach es X.env).length = n := by rfl) (hst : (assignEach es X.env).findIdx? (·.1) = none := by rfl) : PG X (.Tuple es k pos) (gTup K n t) := by subst e; exact pg_tup hc h hn hst
theorem opK {X : Cx} {op : Value → Value → Sem Value} (r : PySem.W.Frag → R2) (K : PySem.W.Frag) (h : OpR X op (r X.K)) (e : X.K = K) : OpR X op (r K) := by subst e; exact h
theorem caK {X : Cx} {f : Value} (r : PySem.W.Frag → List V → Hp → VK → Prop) (K : PySem.W.Frag) (h : CallR X f (r X.K)) (e : X.K = K) : CallR X f (r K) := by subst e; exact h
section
variable {E : L2.St → XK} {Ξ : Xi} {ρ : Rho} {te : TE} {t : TT} {g : TG}
theorem map_at {α : Type} {as : List α} {gi : α → D} {i : Nat} {d : D} (h : (as.map gi)[i]? = some d) : ∃ a, as[i]? = some a ∧ gi a = d ∧ a ∈ as := by
  rw [List.getElem?_map] at h
  cases e : as[i]? with
  | none => rw [e] at h; cases h
  | some a => rw [e] at h; cases h; exact ⟨a, rfl, rfl, List.mem_of_getElem? e⟩
theorem el_mapF {α : Type} {wi : TI} {vs : List Nat} {Φ : List D → Rho → Prop} (hg : GT g vs) (as : List α) (gi f : α → D)
    (h : EvI K E Ξ wi ρ fun xs ρ1 => xs = as.map gi ∧ as.length < 100000 ∧ (∀ a ∈ as, RunG K g (gi a) (wipeR (wipeR ρ1 vs) vs) fun ρ3 => EvS K (fun _ => E0) noX te ρ3 fun e ρ5 => e = f a ∧ wipeR ρ5 vs = wipeR ρ1 vs) ∧ Φ (as.map f) (wipeR ρ1 vs)) : EvL K E Ξ (tLc wi g tYes te vs) ρ Φ := by
  refine el_lc hg fun F0 H0 σ F H R S e k => h F0 H0 σ F H R S e fun xs ρ1 J F1 H1 ⟨ex, h1, h2, h3⟩ => k xs ρ1 J F1 H1 ⟨by rw [ex, List.length_map]; exact h1, fun i acc ρ2 => acc = (as.take i).map f ∧ ρ2 = wipeR ρ1 vs, ⟨rfl, rfl⟩, fun i d acc ρ2 hd ⟨ea, er⟩ => ?_, fun acc ρ2 ⟨ea, er⟩ => ?_⟩
  · subst er ex
    obtain ⟨a, ha, rfl, hm⟩ := map_at hd
    intro F0 H0 σ F H v Q S n q
    refine h2 a hm F0 H0 σ F H v Q S n fun ρ3 σ3 F3 H3 h3 => q ρ3 σ3 F3 H3 (et_yes ⟨fun _ => h3.imp fun e ρ5 z => ⟨?_, z.2⟩, fun z => by cases z⟩)
    rw [ea, z.1, List.take_add_one, ha, List.map_append]
    rfl
  · subst ea er ex
    rw [List.length_map, List.take_length]
    exact h3
theorem el_filtF {α : Type} {wi : TI} {vs : List Nat} {Φ : List D → Rho → Prop} (hg : GT g vs) (as : List α) (c : α → Bool) (gi f : α → D)
    (h : EvI K E Ξ wi ρ fun xs ρ1 => xs = as.map gi ∧ as.length < 100000 ∧ (∀ a ∈ as, RunG K g (gi a) (wipeR (wipeR ρ1 vs) vs) fun ρ3 => EvT K (fun _ => E0) noX t ρ3 fun b ρ4 => b = c a ∧ wipeR ρ4 vs = wipeR ρ1 vs ∧ (b = true → EvS K (fun _ => E0) noX te ρ4 fun e ρ5 => e = f a ∧ wipeR ρ5 vs = wipeR ρ1 vs)) ∧ Φ ((as.filter c).map f) (wipeR ρ1 vs)) :
    EvL K E Ξ (tLc wi g t te vs) ρ Φ := by
  refine el_lc hg fun F0 H0 σ F H R S e k => h F0 H0 σ F H R S e fun xs ρ1 J F1 H1 ⟨ex, h1, h2, h3⟩ => k xs ρ1 J F1 H1 ⟨by rw [ex, List.length_map]; exact h1, fun i acc ρ2 => acc = ((as.take i).filter c).map f ∧ ρ2 = wipeR ρ1 vs, ⟨rfl, rfl⟩, fun i d acc ρ2 hd ⟨ea, er⟩ => ?_, fun acc ρ2 ⟨ea, er⟩ => ?_⟩
  · subst er ex
    obtain ⟨a, ha, rfl, hm⟩ := map_at hd
    intro F0 H0 σ F H v Q S n q
    refine h2 a hm F0 H0 σ F H v Q S n fun ρ3 σ3 F3 H3 h3 => q ρ3 σ3 F3 H3 (h3.imp fun b ρ4 z => ⟨fun hb => (z.2.2 hb).imp fun e ρ5 y => ⟨?_, y.2⟩, fun hb => ⟨?_, z.2.1⟩⟩)
    · have : c a = true := z.1 ▸ hb
      rw [ea, y.1, List.take_add_one, ha, List.filter_append, List.map_append]
      simp [this]
    · have : c a = false := z.1 ▸ hb
      rw [ea, List.take_add_one, ha, List.filter_append, List.map_append]
      simp [this]
  · subst ea er ex
    rw [List.length_map, List.take_length]
    exact h3
theorem zipD_map {α β : Type} {f : α → D} {g : β → D} (as : List α) (bs : List β) : zipD (as.map f) (bs.map g) = (as.zip bs).map fun p => .tup [f p.1, g p.2] := by
  unfold zipD
  rw [List.zipWith_map, List.zip, List.map_zipWith]
end
end Z

namespace Z
open PySem PySem.Spec PyProof.Rows L2 Evl
variable {K : PySem.W.Frag}
theorem ixK {X : Cx} (r : PySem.W.Frag → R2) (K : PySem.W.Frag) (h : IxR X (r X.K)) (e : X.K = K) : IxR X (r K) := by subst e; exact h
abbrev rEqU (K : PySem.W.Frag) : R2 := fun x y H Q => rEq x y H Q ∨ rEqD K x y H Q
abbrev rNeU (K : PySem.W.Frag) : R2 := fun x y H Q => rNe x y H Q ∨ rNeD K x y H Q
theorem op_eqU {X : Cx} (hu : X.A.units + 64 < cLine) : OpR X (compareOp .Eq) (rEqU X.K) := OpR.or op_eq (op_eqD hu)
theorem op_neU {X : Cx} (hu : X.A.units + 64 < cLine) : OpR X (compareOp .NotEq) (rNeU X.K) := OpR.or op_ne (op_neD hu)
section
variable {Ψ : D → Prop} {E : L2.St → XK} {Ξ : Xi} {ρ : Rho}
theorem o_eqS {a b : Str} (h : Ψ (.bl (a == b))) : Op2 K (rEqU K) (.str a) (.str b) Ψ := op2_l fun F H v w Q e n1 n2 q => by
  rw [dn_str.mp n1, dn_str.mp n2]
  refine ⟨rfl, ?_⟩
  rw [dec_str]
  exact q _ _ F H h (Grow.refl e) (dn_bl.mpr rfl)
theorem o_neS {a b : Str} (h : Ψ (.bl (a != b))) : Op2 K (rNeU K) (.str a) (.str b) Ψ := op2_l fun F H v w Q e n1 n2 q => by
  rw [dn_str.mp n1, dn_str.mp n2]
  refine ⟨rfl, ?_⟩
  rw [dec_str]
  exact q _ _ F H h (Grow.refl e) (dn_bl.mpr rfl)
theorem o_eqI {a b : Int} (h : Ψ (.bl (a == b))) : Op2 K (rEqU K) (.int a) (.int b) Ψ := op2_l fun F H v w Q e n1 n2 q => by
  rw [dn_int.mp n1, dn_int.mp n2]
  refine ⟨rfl, ?_⟩
  rw [dec_int]
  exact q _ _ F H h (Grow.refl e) (dn_bl.mpr rfl)
theorem o_neI {a b : Int} (h : Ψ (.bl (a != b))) : Op2 K (rNeU K) (.int a) (.int b) Ψ := op2_l fun F H v w Q e n1 n2 q => by
  rw [dn_int.mp n1, dn_int.mp n2]
  refine ⟨rfl, ?_⟩
  rw [dec_int]
  exact q _ _ F H h (Grow.refl e) (dn_bl.mpr rfl)
theorem o_eqU {n m : Nat} {x y : D} (hx : okD n x = true) (hy : okD m y = true) (h : Ψ (.bl (deq x y))) (hn : n ≤ 64 := by decide) (hm : m ≤ 64 := by decide) : Op2 K (rEqU K) x y Ψ := op2_r (o_eqD hx hy h hn hm)
theorem o_neU {n m : Nat} {x y : D} (hx : okD n x = true) (hy : okD m y = true) (h : Ψ (.bl (!deq x y))) (hn : n ≤ 64 := by decide) (hm : m ≤ 64 := by decide) : Op2 K (rNeU K) x y Ψ := op2_r (o_neD hx hy h hn hm)
theorem ev_kt {zs : List Str} {a : Addr} {Φ : D → Rho → Prop} (h : ∀ H, SqT K H a (zs.map V.str)) (k : Φ (.tup (zs.map .str)) ρ) : EvS K E Ξ (tC (.ref a)) ρ Φ := ev_c (fun F => dn_tup.mpr ⟨a, _, rfl, h F, DnL.strs⟩) k
theorem cut_tail {ds : List D} : cutD ds (some 1) none = ds.tail := by
  unfold cutD HT.sIx
  cases ds with
  | nil => rfl
  | cons a as =>
    show List.take _ (List.drop _ _) = as
    simp
theorem step_mem {α : Type} {xs : List α} {i c : Int} {x : α} (h : x ∈ stepPick xs i c) : x ∈ xs := by
  unfold stepPick at h
  obtain ⟨k, _, hk⟩ := List.mem_filterMap.mp h
  exact List.mem_of_getElem? hk
theorem step_le {α : Type} {xs : List α} {i : Int} (h : 0 ≤ i) : (stepPick xs i 2).length ≤ xs.length := by
  unfold stepPick
  refine Nat.le_trans (List.length_filterMap_le _ _) ?_
  unfold sliceBounds sliceRange
  simp only [Option.getD_some, show ((2 : Int) > 0) = True from by simp, if_true, List.length_map, List.length_range]
  split <;> split <;> omega
end
end Z

namespace L2
open PySem PySem.Spec PyProof.Rows
section
variable {X : Cx}
theorem sw_trueD {kx vx : Expr} {gs : List Comprehension} {scope : Scope} {pos py : Pos} {y : Str} {l : Nat} {env : Env} (hv2 : env.scope.kind = .function) (hy : env.scope.names.lookup y = some .local) (hln : (py.line == pos.line) = true)
    (haa : (scope.names.any fun (n, k) => n == y && (k == .local || k == .cell)) = false) : swapsWith (.DictComp kx vx gs scope pos) (some (.Name y py)) l env = pure true := by
  have kloc : env.kindOf y = some .local := hy
  have hbk : env.blockKind = .function := by unfold Env.blockKind; rw [hv2]; rfl
  unfold swapsWith
  simp only [hbk, kloc, haa, Expr.pos, hln]
  rfl
theorem ps_setDc {i : Nat} {y : Str} {py : Pos} {kx vx tg iter : Expr} {ifs : List Expr} {scope : Scope} {own : List (Str × Nat)} {pos spos : Pos} {wi : TI} {g : TG} {tt : TT} {tk tv : TE} (hc : X.calm = true) (hN : X.N.Nodup) (hy : X.N[i]? = some y) (hyl : X.env.scope.names.lookup y = some .local)
    (hv5 : swapsWith (.DictComp kx vx [⟨tg, iter, ifs, 0⟩] scope pos) (some (.Name y py)) spos.line X.env = pure true) (hi : PI X tg iter wi) (ok : BlkOk X.N X.env.scope scope own)
    (hv1 : ∀ (s : Shared) (H : Hp) (C : Addr) (cl : List (Str × Addr)) (fp : List Addr), PG (X.blk s H scope (compEnvC scope cl C X.env) fp) tg g) (hz3 : ∀ (s : Shared) (H : Hp) (C : Addr) (cl : List (Str × Addr)) (fp : List Addr), PTs (X.blk s H scope (compEnvC scope cl C X.env) fp) ifs tt)
    (hv2 : ∀ (s : Shared) (H : Hp) (C : Addr) (cl : List (Str × Addr)) (fp : List Addr), PE (X.blk s H scope (compEnvC scope cl C X.env) fp) kx tk)
    (hv3 : ∀ (s : Shared) (H : Hp) (C : Addr) (cl : List (Str × Addr)) (fp : List Addr), PE (X.blk s H scope (compEnvC scope cl C X.env) fp) vx tv) (hv6 : ∀ x, foldedSetIterable iter X.env x = pure x := by intro _; rfl) :
    PS X (.Assign [.Name y py] (.DictComp kx vx [⟨tg, iter, ifs, 0⟩] scope pos) spos) (tAsg (tDc wi g tt tk tv (own.map (·.2))) (gName i)) := by
  refine ⟨fun pp s σ H D Iv h => ?_⟩
  rw [exec_Assign_Name_used _ _ _ _ hv5]
  refine wpAny_bind (wpAny_standAt ?_); refine wpAny_bind ?_
  show wpAny _ X.A (do let _ ← comprehension (.DictComp kx vx [⟨tg, iter, ifs, 0⟩] scope pos) scope X.env (firstIterPos [⟨tg, iter, ifs, 0⟩] pos) newDict false (eval iter X.env) (some (assign (.Name y py) X.env))) _ _ s
  have h : tDc wi g tt tk tv (own.map (·.2)) σ H (fun x G1 => gName i x σ G1 D.nx) := h
  refine wpAny_bind (thn (dc_core (Qf := fun _ s' => SP X pp D .next s') hc hN Iv hi ok hv1 hz3 hv2 hv3 hv6 h fun Lq C s' m H' I' q hn f => ?_) fun _ s' hq => wpAny_pure (wpAny_pure hq))
  show wpAny _ _ (assign (.Name y py) X.env (.ref Lq)) _ _ _
  refine wpAny_assign_Name (store_ok2 (v := V.ref Lq) I' hN hy (.inl hyl) rfl (fun z2 J2 ⟨a, sbx, haa⟩ => ?_) (.inr hyl))
  obtain ⟨m0, m1, m2, m3, m4, m5⟩ := f
  have hCa : C ≠ a := by
    rcases haa with z | z
    · rw [z]; exact m1
    · exact fun e => m4 y a z e.symm
  refine ⟨m, hn.sameBut sbx hCa, fun hh3 sbb => ?_⟩
  exact ⟨_, H', J2.turned (t' := z2.toks) (fun b o hbk e => (sbb.2 b hbk).trans e) m0 m1 m3 m4 m5, q⟩
end
end L2
namespace Z
open PySem PySem.Spec PyProof.Rows L2 Evl
theorem wipeR_n (ρ : Rho) : wipeR ρ [] = ρ := rfl
theorem wipeR_c (ρ : Rho) (v : Nat) (vs : List Nat) : wipeR ρ (v :: vs) = (wipeR ρ vs).set v .un := rfl
end Z

namespace Z
open PySem PySem.Spec PyProof.Rows L2 Evl
variable {K : PySem.W.Frag} {E : L2.St → XK} {Ξ : Xi} {ρ : Rho} {te : TE} {Φ : Out → Prop} {p : Addr} {ds : List D}
theorem r_ext {j : Nat} (hj : ρ[j]? = some (.ol p ds)) (h : EvS K E Ξ te ρ fun d ρ1 => ∃ es fs, d = .lst fs ∧ ρ1[j]? = some (.ol p es) ∧ es.length + fs.length ≤ 100000 ∧ Φ (.nx (ρ1.set j (.ol p (es ++ fs))))) :
    RunS K E Ξ (tDrop (tBM K "list" rExtend (tVar j) (tCons te tNil))) ρ Φ := fun F0 H0 σ F H D S e k1 k2 k3 k4 => by
  obtain ⟨e1, _, _, vs, e4, n4⟩ := S.own hj
  refine ⟨.ref p, e1, .inl ⟨rfl, vs, .inl (.inl e4)⟩, h F0 H0 σ F H _ S e fun d ρ1 v F1 H1 ⟨es, fs, ed, h1, h2, h3⟩ x1 S1 n => ?_⟩
  subst ed
  obtain ⟨_, _, _, us, e5, n5⟩ := S1.own h1
  obtain ⟨b, zs, rfl, hb, n6⟩ := dn_lst.mp n
  exact ⟨p, b, us, zs, rfl, rfl, e5, S1.fh _ _ hb, sz_of (by rw [← n5.length, ← n6.length]; exact h2), k1 _ _ F1 _ h3 x1 (S1.chg h1 (n5.append n6))⟩
end Z

namespace Lw
open PySem PySem.Spec PyProof.Rows L2 Evl Z
def intS (i : Int) : Str := Str.ofString (toString i)
def wayWords (ws : List (Str × Int)) : List Str := ws.flatMap fun p => [p.1, intS p.2]
def rowWords (s : SiteM) (i : Nat) : List Str :=
  [s.names.getD i "", intS (s.limits.getD i 0)] ++ (if s.stays.getD i false then [("stay" : Str)] else []) ++ (if (s.ways.getD i []).isEmpty then [] else [("->" : Str)]) ++ wayWords (s.ways.getD i [])
def rowTextM (s : SiteM) (i : Nat) : Str := Txt.join " " (rowWords s i)
def joinOk (sep : Nat) (ws : List Str) : Bool := decide ((ws.map (·.length)).sum + ws.length * sep ≤ 100000)
def smallI (i : Int) : Bool := decide (i.natAbs.log2 < 1920)
def fineRow (s : SiteM) (i : Nat) : Bool := decide (i < s.names.length) && decide (i < s.limits.length) && decide (i < s.stays.length) && decide (i < s.ways.length) && smallI (s.limits.getD i 0) && decide ((s.ways.getD i []).length ≤ 1000) &&
  ((s.ways.getD i []).all fun p => smallI p.2) && joinOk 1 (rowWords s i)
def rowsText (s : SiteM) : List Str := (List.range s.names.length).map (rowTextM s)
def strM (s : SiteM) : Str := Txt.join "\n" (rowsText s)
def fineStr (s : SiteM) : Bool := decide (s.names.length ≤ 1000) && ((List.range s.names.length).all (fineRow s)) && joinOk 1 (rowsText s)
def PRow (C : Addr) : PP := fun ds Φ Θ => ∃ (s : SiteM) (i : Nat), ds = [siteD C s, .int i] ∧ fineRow s i = true ∧ Φ (.str (rowTextM s i))
def PStr (C : Addr) : PP := fun ds Φ Θ => ∃ s : SiteM, ds = [siteD C s] ∧ fineStr s = true ∧ Φ (.str (strM s))
def getM (x : Except Nat SiteM) : SiteM := match x with
  | .ok s => s
  | .error _ => ⟨[], [], [], []⟩
end Lw

namespace Z
open PySem PySem.Spec PyProof.Rows L2 Evl
def iSeq (K : PySem.W.Frag) (te : TE) : TI := fun σ H R => iList K te σ H R ∨ iTup K te σ H R
theorem pi_seq {X : Cx} {K : PySem.W.Frag} {tg e : Expr} {te : TE} (eK : X.K = K) (h : PE X e te) : PI X tg e (iSeq K te) := by
  subst eK
  refine ⟨fun pins s σ H R I h' => ?_⟩
  rcases h' with h' | h'
  · exact (pi_list h).run pins s σ H R I h'
  · exact (pi_tup h).run pins s σ H R I h'
section
variable {K : PySem.W.Frag} {E : L2.St → XK} {Ξ : Xi} {ρ : Rho} {te : TE}
theorem ei_seqL {Φ : List D → Rho → Prop} (h : EvS K E Ξ te ρ fun d ρ1 => ∃ xs, d = .lst xs ∧ Φ xs ρ1) : EvI K E Ξ (iSeq K te) ρ Φ := fun F0 H0 σ F H R S e k => .inl (ei_list h F0 H0 σ F H R S e k)
theorem ei_seqT {Φ : List D → Rho → Prop} (h : EvS K E Ξ te ρ fun d ρ1 => ∃ xs, d = .tup xs ∧ Φ xs ρ1) : EvI K E Ξ (iSeq K te) ρ Φ := fun F0 H0 σ F H R S e k => .inr (ei_tup h F0 H0 σ F H R S e k)
end
end Z

namespace Lw
open PySem PySem.Spec PyProof.Rows L2 Evl Z
def sortW (l : List (Str × Int)) : List (Str × Int) := l.mergeSort fun a b => leD (wayD a) (wayD b)
theorem sortW_map (l : List (Str × Int)) : (l.map wayD).mergeSort leD = (sortW l).map wayD := (List.map_mergeSort (f := wayD) (r := fun a b => leD (wayD a) (wayD b)) (s := leD) (fun a _ b _ => rfl)).symm
def backRaw (s : SiteM) (name : Str) (n : Nat) : List (Str × Int) := ((s.names.zip s.ways).take n).flatMap fun p => (p.2.filter fun q => q.1 == name).map fun q => (p.1, q.2)
def backM (s : SiteM) (name : Str) : List (Str × Int) := sortW (backRaw s name (s.names.zip s.ways).length)
def goT (s : SiteM) : List (List (Str × Int)) → List (Str × Bool) → Except Str (List (List (Str × Int)))
  | acc, [] => .ok acc
  | acc, p :: r => if !p.2 && (backM s p.1).isEmpty then .error p.1 else goT s (acc ++ [backM s p.1]) r
def turnedM (s : SiteM) : Except Str SiteM :=
  match goT s [] (s.names.zip s.stays) with
  | .ok ws => .ok ⟨s.names, s.limits, s.stays, ws⟩
  | .error n => .error n
def fineBack (s : SiteM) : Bool := decide (s.names.length ≤ 100) && (s.ways.all fun r => decide (r.length ≤ 100)) && s.names.all PyData.strOk
def PBack (C : Addr) : PP := fun ds Φ Θ => ∃ (s : SiteM) (name : Str), ds = [siteD C s, .str name] ∧ fineBack s = true ∧ Φ (.lst ((backM s name).map wayD))
def PTurn (C X : Addr) : PP := fun ds Φ Θ => ∃ s : SiteM, ds = [siteD C s] ∧ fineBack s = true ∧ (∀ s', turnedM s = .ok s' → Φ (siteD C s')) ∧ ∀ n, turnedM s = .error n → Θ X (some ("place", .str n))
def PWith (C : Addr) : PP := fun ds Φ Θ => ∃ (s : SiteM) (ls : List Int) (b : Bool), ds = [siteD C s, if b then .tup (ls.map .int) else .lst (ls.map .int)] ∧ s.ways.length ≤ 10000 ∧ Φ (siteD C { s with limits := ls })
def getT (x : Except Str SiteM) : SiteM := match x with
  | .ok s => s
  | .error _ => ⟨[], [], [], []⟩
def leW (a b : Str × Int) : Bool := leD (wayD a) (wayD b)
def insW (a : Str × Int) : List (Str × Int) → List (Str × Int)
  | [] => [a]
  | b :: r => if leW a b then a :: b :: r else b :: insW a r
def isort : List (Str × Int) → List (Str × Int)
  | [] => []
  | a :: r => insW a (isort r)
theorem leW_total : PySem.W.TotalLe leW := PySem.W.sortLe_total (PyProof.Rows.listOrd PyProof.Rows.itemOrd) false fun a => PySem.W.keyToks (py (wayD a))
theorem insW_at {a : Str × Int} : ∀ {l1 l2 : List (Str × Int)}, (∀ b ∈ l1, (!leW a b) = true) → (∀ b ∈ l2, leW a b = true) → insW a (l1 ++ l2) = l1 ++ a :: l2
  | [], [], _, _ => rfl
  | [], b :: r, _, h => by
    show (if leW a b then _ else _) = _
    rw [if_pos (h b List.mem_cons_self)]
    rfl
  | b :: r, l2, h, h2 => by
    show (if leW a b then _ else _) = _
    have := h b List.mem_cons_self
    rw [if_neg (by intro z; rw [z] at this; cases this), show r.append l2 = r ++ l2 from rfl, insW_at (fun c hc => h c (List.mem_cons_of_mem _ hc)) h2]
    rfl
theorem sortW_eq : ∀ l : List (Str × Int), sortW l = isort l
  | [] => by unfold sortW isort; exact List.mergeSort_nil
  | a :: r => by
    have tot : ∀ a b, (leW a b || leW b a) = true := fun a b => by rw [Bool.or_eq_true]; exact leW_total.total a b
    obtain ⟨l1, l2, h1, h2, h3⟩ := List.mergeSort_cons (le := leW) leW_total.trans tot a r
    have hs := List.pairwise_mergeSort (le := leW) leW_total.trans tot (a :: r)
    rw [h1] at hs
    have h4 := (List.pairwise_cons.mp (List.pairwise_append.mp hs).2.1).1
    show List.mergeSort (a :: r) leW = insW a (isort r)
    have e : isort r = l1 ++ l2 := by rw [← sortW_eq r]; exact h2
    rw [h1, e, insW_at (fun b hb => h3 b hb) h4]
def backI (s : SiteM) (name : Str) : List (Str × Int) := isort (backRaw s name (s.names.zip s.ways).length)
theorem backM_eq (s : SiteM) (name : Str) : backM s name = backI s name := sortW_eq _
def goI (s : SiteM) : List (List (Str × Int)) → List (Str × Bool) → Except Str (List (List (Str × Int)))
  | acc, [] => .ok acc
  | acc, p :: r => if !p.2 && (backI s p.1).isEmpty then .error p.1 else goI s (acc ++ [backI s p.1]) r
def turnedI (s : SiteM) : Except Str SiteM :=
  match goI s [] (s.names.zip s.stays) with
  | .ok ws => .ok ⟨s.names, s.limits, s.stays, ws⟩
  | .error n => .error n
theorem goT_eq (s : SiteM) : ∀ (r : List (Str × Bool)) (acc : List (List (Str × Int))), goT s acc r = goI s acc r
  | [], _ => rfl
  | p :: r, acc => by
    unfold goT goI
    rw [backM_eq, goT_eq s r]
theorem turned_eq (s : SiteM) : turnedM s = turnedI s := by
  unfold turnedM turnedI
  rw [goT_eq]
theorem alike_ways (l : List (Str × Int)) : PySem.W.AllAlike ((l.map wayD).map py) := by
  intro d hd d' hd'
  rw [List.map_map] at hd hd'
  obtain ⟨p, _, rfl⟩ := List.mem_map.mp hd
  obtain ⟨q, _, rfl⟩ := List.mem_map.mp hd'
  simp [wayD, py, pyL, PySem.W.alike, PySem.W.alikeAll]
theorem sortable_ways (l : List (Str × Int)) : PySem.W.Sortable ((l.map wayD).map py) := by
  refine .inl fun d hd => ?_
  rw [List.map_map] at hd
  obtain ⟨p, _, rfl⟩ := List.mem_map.mp hd
  exact ⟨.str p.1, [.int p.2], by simp [wayD, py, pyL]⟩
theorem c_sortW {K : PySem.W.Frag} {Ψ : D → Prop} {l : List (Str × Int)} (hok : ∀ p ∈ l, PyData.strOk p.1 = true) (h : Ψ (.lst ((sortW l).map wayD))) : Cl K (rSortD K) [.lst (l.map wayD)] Ψ :=
  c_sorted (n := 2) (by decide) (fun d hd => by
    obtain ⟨p, hp, rfl⟩ := List.mem_map.mp hd
    simp [wayD, okD, okL, hok p hp]) (alike_ways l) (sortable_ways l) (by rw [sortW_map]; exact h)
end Lw

namespace L2
open PySem PySem.Spec PyProof.Rows
theorem pe_callSD0 {X : Cx} {CX : CXT} {k : Nat} {f : Addr} {fd : FuncData} {ps : List Str} {sp : Sp} {x : Str} {p pos : Pos} {ds : List Value} {dvs : List V} {E : St → XK} (F : FnOk X.prog X.w X.K X.mg X.base CX k f fd ps sp) (hr : Room k X.A) (hv1 : Gl X x) (hm : X.mg x = some (.ref f)) (hv2 : PySem.W.keepIn X.K (.ref f) = true) (hb : Binds X.K fd ps ds) (hd : Vals dvs ds) (hx : ∀ σ, PassesAt CX X σ (E σ))
    (hv4 : (x == ("__debug__" : Str)) = false := by decide) : PE X (.Call (.Name x p) [] [] pos) (tCallSD sp dvs E tNil) := by
  refine ⟨fun pp s σ H Q Iv h => ?_⟩
  refine wpAny_Call_Name_kw (ld_glob Iv hv1 hm ?_ hv4)
  exact PySem.W.callWith_K0 Iv.kIn hv2 (run_fnSD (us := []) F hr hb hd (hx σ) Iv .nil h)
end L2

namespace L2
open PySem PySem.Spec PyProof.Rows
theorem pmk_none {X : Cx} {C : Addr} {bmB : List Value} {B newId initId : String} {x : Str} {p pos : Pos} (F : ExcBaseFacts B newId initId bmB) (q : PySem.W.excIn X.K C bmB newId = true)
    (gC : X.mg x = some (.ref C)) (kC : PySem.W.keepIn X.K (.ref C) = true) (r : Raises X (.ref C)) (hg : Gl X x) (hdb : (x == ("__debug__" : Str)) = false := by decide) :
    PMk X (.Call (.Name x p) [] [] pos) (fun _ H Q => Q (.ref C) none H) := by
  intro pins s σ H Q I h
  refine wpAny_Call_Name_kw (ld_glob I hg gC ?_ hdb)
  refine PySem.W.callWith_K0 I.kIn kC ?_
  obtain ⟨m1, N1, n1, q1, b1, d1, s1, u1, a1, c1, e1, x0, x1, x2, x3, x5, mm, hC, hN, hni, T⟩ := exc_obj I.kIn q
  refine wpAny_call_exc_subT F T hC hN hni (fun h' e hm => ?_) (by show 0 ≤ sizeLine; exact Nat.zero_le _)
  exact mk_of I hm r h (I.hok.gone hm.new)
end L2
namespace Z
open PySem PySem.Spec PyProof.Rows L2 Evl
variable {K : PySem.W.Frag} {E : L2.St → XK} {Ξ : Xi} {ρ : Rho} {Φ : Out → Prop}
theorem r_raise0 {C : Addr} (h : Ξ C none ρ) : RunS K E Ξ (fun _ σ H => E σ (.ref C) none H) ρ Φ := fun F0 H0 σ F H D S e k1 k2 k3 k4 => e C none ρ σ none F H h S rfl
end Z

namespace Lw
open PySem PySem.Spec PyProof.Rows L2 Evl Z
theorem notin_joinL {c : Nat} {S : List Nat} (hS : c ∉ S) : ∀ {ps : List (List Nat)}, (∀ p ∈ ps, c ∉ p) → c ∉ TL.joinL S ps
  | [], _ => by simp [TL.joinL]
  | [p], h => by simpa [TL.joinL] using h p
  | p :: q :: r, h => by
    have ih := notin_joinL (c := c) hS (ps := q :: r) fun x hx => h x (List.mem_cons_of_mem _ hx)
    show c ∉ p ++ (S ++ TL.joinL S (q :: r))
    simp only [List.mem_append, not_or]
    exact ⟨h p List.mem_cons_self, hS, ih⟩
theorem tl_sp : TL.tl (" " : Str) = [32] := by decide +kernel
theorem tl_nl : TL.tl ("\n" : Str) = [10] := by decide +kernel
theorem tlj (y : Str) (ps : List Str) : TL.tl (Txt.join y ps) = TL.joinL (TL.tl y) (ps.map TL.tl) := by rw [TL.join_eq, TL.tl_join]
def clean (w : Str) : Bool := (TL.tl w).all fun c => c != 32 && c != 10
theorem rowsM_join {rows : List (List Str)} (h0 : rows ≠ []) (h1 : ∀ r ∈ rows, r ≠ []) (h2 : ∀ r ∈ rows, ∀ w ∈ r, clean w = true) : rowsM (Txt.join "\n" (rows.map (Txt.join " "))) = rows := by
  have hc : ∀ r ∈ rows, ∀ w ∈ r, 32 ∉ TL.tl w ∧ 10 ∉ TL.tl w := fun r hr w hw => by
    have := List.all_eq_true.mp (h2 r hr w hw)
    exact ⟨fun z => by simpa using this 32 z, fun z => by simpa using this 10 z⟩
  unfold rowsM
  rw [TL.split_join (y := "\n") (s := 10) (S := []) tl_nl (by decide +kernel) (fun e => h0 (List.map_eq_nil_iff.mp e)) (fun p hp => by
    obtain ⟨r, hr, rfl⟩ := List.mem_map.mp hp
    rw [tlj, tl_sp]
    exact notin_joinL (by decide) fun x hx => by
      obtain ⟨w, hw, rfl⟩ := List.mem_map.mp hx
      exact (hc r hr w hw).2)]
  rw [List.map_map]
  conv => rhs; rw [← List.map_id rows]
  refine List.map_congr_left fun r hr => ?_
  exact TL.split_join (y := " ") (s := 32) (S := []) tl_sp (by decide +kernel) (h1 r hr) fun w hw => (hc r hr w hw).1
theorem split_nl {rows : List (List Str)} (h0 : rows ≠ []) (h2 : ∀ r ∈ rows, ∀ w ∈ r, clean w = true) : Txt.split (Txt.join "\n" (rows.map (Txt.join " "))) "\n" = rows.map (Txt.join " ") := by
  refine TL.split_join (y := "\n") (s := 10) (S := []) tl_nl (by decide +kernel) (fun e => h0 (List.map_eq_nil_iff.mp e)) fun p hp => ?_
  obtain ⟨r, hr, rfl⟩ := List.mem_map.mp hp
  rw [tlj, tl_sp]
  refine notin_joinL (by decide) fun x hx => ?_
  obtain ⟨w, hw, rfl⟩ := List.mem_map.mp hx
  intro z
  have := List.all_eq_true.mp (h2 r hr w hw) 10 z
  simp at this
theorem low_clean {z : Str} (h : isLow z = true) : clean z = true := by
  unfold clean
  refine List.all_eq_true.mpr fun c hc => ?_
  have := List.all_eq_true.mp h c hc
  unfold Letter at this
  simp at this ⊢
  omega
end Lw

namespace Z
open PySem PySem.Spec PyProof.Rows L2 Evl PySem.Froz

def TSet (P : Program) (w : World) (h : Heap) (a : Addr) (zs : List Str) : Prop :=
  ∃ D : SD, h.get? a = some (sObj "set" D) ∧ TxOk P w D zs ∧ L2.Ris D.2.2.place.toList ∧ (w.params.followText "set-order" = true ∨ D.2.2.led = true) ∧ zs.Nodup
section
variable {P : Program} {w : World} {A : Around} {E : Value → Shared → Prop} {s : Shared} {a : Addr} {zs : List Str}
theorem TSet.keep {h h' : Heap} (R : TSet P w h a zs) (k : ∀ o, h.get? a = some o → h'.get? a = some o) : TSet P w h' a zs := by
  obtain ⟨D, ho, r⟩ := R
  exact ⟨D, k _ ho, r⟩
theorem tail_ris {ep : Nat} {es : Array (Int × Value)} {t : SetTable} {wd : Bool} (r : L2.Ris t.place.toList) : L2.Ris (tailTx ep es t wd).2.2.place.toList := by
  unfold tailTx
  split
  · exact L2.relayAll_ris t es _
  · exact r
theorem tail_led {ep : Nat} {es : Array (Int × Value)} {t : SetTable} {wd : Bool} : (tailTx ep es t wd).2.2.led = t.led := by
  unfold tailTx
  split
  · exact L2.relayAll_led t es _
  · rfl
theorem add_ris {i : Int} {v : Value} {D : SD} (r : L2.Ris D.2.2.place.toList) : L2.Ris (addTx i v D).2.2.place.toList := by
  unfold addTx
  refine tail_ris ?_
  have q := L2.layNew_ris D.2.2 D.1 i v r
  split <;> exact q
theorem add_led {i : Int} {v : Value} {D : SD} : (addTx i v D).2.2.led = D.2.2.led := by
  unfold addTx
  rw [tail_led]
  have q := L2.layNew_led D.2.2 D.1 i v
  split <;> exact q
theorem tset_add {z : Str} {u : Tok} {Q : Bool → Shared → Prop} (R : TSet P w s.heap a zs) (room : zs.length + 1 < scanBound)
    (q : ∀ b h' ys, Heap.SameBut a s.heap h' → TSet P w h' a ys → ys = (if z ∈ zs then zs else z :: zs) → Q b { s with heap := h' }) :
    wpAny (model P w) A (setAddHashed a (.str z u) (hashStr w z)) Q E s := by
  obtain ⟨D, ho, F, r, hl, nd⟩ := R
  by_cases hz : z ∈ zs
  · obtain ⟨es, ep, t⟩ := D
    have e1 : (sObj "set" (es, ep, t)).data = .set es ep t := rfl
    have e2 : (strKind P w).is z (.str z u) = true := is_str z u
    have e3 : ElemsOf (strKind P w) es.toList := F.el
    have e4 : t.fits es.size = true := F.fit
    have e5 : es.size < scanBound := by have : es.size = zs.length := F.sz; omega
    unfold setAddHashed setAddHashedIn; refine wpAny_holding (wpAny_bind (wpAny_setState_of ho e1 e4 ?_)); dsimp only
    rw [byScan_of rfl e5 e3]; simp only [↓reduceIte]
    unfold setAddByScan; refine wpAny_bind ?_; refine wpAny_bind (wpAny_rule ?_)
    refine wpAny_bind (wpAny_setScan_of (knd := strKind P w) (k := z) e2 ho e1 e4 e3 ?_)
    obtain ⟨e, he, pe⟩ := (F.mem z).mp hz
    cases hf : List.findIdx? (fun e => (strKind P w).is z e.2) es.toList with
    | none =>
      have c := List.findIdx?_eq_none_iff.mp hf e he
      rw [pe] at c
      cases c
    | some j =>
      dsimp only
      exact wpAny_pure (wpAny_pure (q _ s.heap zs (Heap.SameBut.refl a s.heap) ⟨_, ho, F, r, hl, nd⟩ (by rw [if_pos hz])))
  · refine add_x ho F hz room (q _ _ (z :: zs) (Heap.SameBut.update s.heap a _) ⟨_, get_upd _ ho rfl, add_ok u F, add_ris r, hl.imp id fun k => add_led.trans k, List.nodup_cons.mpr ⟨hz, nd⟩⟩ (by rw [if_neg hz]))

theorem tset_loop {I : Addr} {fp wr : List Addr} {G : Array GenState → Array GenState → Prop} {n : Nat} {Pv : Nat → Value → Prop} {St : Nat → Shared → Prop} {R : Result → Shared → Prop}
    (W : WalksS P w A.in1 I fp wr G n Pv St) (c : Addr) (hc : c ∉ fp) (ys : List Str) (hn : n = ys.length) (hb : ys.length + 1 < scanBound) (hv : ∀ i v, Pv i v → ∃ z t, ys[i]? = some z ∧ v = .str z t) :
    ∀ (k i : Nat) (s : Shared), n - i = k → i ≤ n → St i s → (∃ zs : List Str, zs.length ≤ i ∧ (∀ x, x ∈ zs ↔ x ∈ ys.take i) ∧ TSet P w s.heap c zs) →
      (∀ s' zs, Moved (c :: wr) G s s' → zs.length ≤ n → (∀ x, x ∈ zs ↔ x ∈ ys) → TSet P w s'.heap c zs → R (.ok (.ret .none)) s') →
      codeAny (model P w) A (.builtin "set.update.loop" ⟨[.ref c, .ref I], []⟩) R s := by
  have c1 : c ∉ wr := fun m => hc (W.sub _ m)
  have c2 : ∀ b ∈ wr, b ∈ c :: wr := fun b m => List.mem_cons_of_mem _ m
  intro k
  induction k with
  | zero =>
    rintro i s hk hi st ⟨zs, l1, l2, T⟩ fin
    obtain rfl : i = n := by omega
    refine codeAny_builtin F.entry_set_update_loop ?_; rw [Around.under_plainId F.plain_set_update_loop _]
    show wpAny _ A.in1 (pyNext (.ref I) >>= _) _ _ s; refine wpAny_bind (W.done s _ _ st fun s1 m1 => ?_)
    show wpAny _ A.in1 (ret Value.none) _ _ s1
    rw [List.take_of_length_le (by omega)] at l2
    exact wpAny_pure (fin s1 zs (m1.mono c2) l1 l2 (T.keep fun o e => m1.heap c o c1 e))
  | succ k ih =>
    rintro i s hk hi st ⟨zs, l1, l2, T⟩ fin
    have lt : i < n := by omega
    refine codeAny_builtin F.entry_set_update_loop ?_; rw [Around.under_plainId F.plain_set_update_loop _]
    show wpAny _ A.in1 (pyNext (.ref I) >>= _) _ _ s; refine wpAny_bind (W.item i s _ _ lt st fun v s1 pv st1 m1 => ?_)
    obtain ⟨z, t, ez, rfl⟩ := hv i v pv
    have T1 : TSet P w s1.heap c zs := T.keep fun o e => m1.heap c o c1 e
    show wpAny _ A.in1 (holding [Value.str z t] (setAdd c (.str z t)) >>= _) _ _ s1
    refine wpAny_bind (wpAny_holding ?_); unfold setAdd
    refine wpAny_holding ?_; refine wpAny_bind ((strKind P w).pyHash (k := z) (is_str z t) ?_)
    refine tset_add (s := { s1 with toks := s1.toks + 1 }) T1 (by omega) fun b h2 us sb T2 eu => ?_
    have l3 : ∀ x, x ∈ us ↔ x ∈ ys.take (i + 1) := fun x => by
      rw [eu, List.take_add_one, ez]
      split
      · rename_i hz
        simp only [Option.toList_some, List.mem_append, List.mem_singleton, ← l2 x]
        exact ⟨.inl, fun d => d.elim id fun e => e ▸ hz⟩
      · simp only [Option.toList_some, List.mem_append, List.mem_cons, List.not_mem_nil, or_false, l2 x]
        exact Or.comm
    have l4 : us.length ≤ i + 1 := by
      rw [eu]
      split
      · omega
      · rw [List.length_cons]; omega
    refine wpAny_pure ⟨plainId_quiet F.plain_set_update_loop _, ih (i + 1) _ (by omega) lt (W.frame _ s1 _ _ st1 (Nat.le_succ _) fun b m o e => (sb.2 b fun d : b = c => hc (d ▸ m)).trans e) ⟨us, l4, l3, T2⟩ fun s3 vs m3 => ?_⟩
    exact fin s3 vs (Moved.trans W.gtrans ((m1.mono c2).then_heap (Nat.le_succ _) fun b o m e => (sb.2 b fun d : b = c => m (d ▸ List.mem_cons_self)).trans e) m3)

abbrev set0 (w : World) : Obj := { cls := .type "set", dict := none, data := .set #[] 0 (.fresh 0 0 (!w.params.followText "set-order")) }
theorem tset_nil {h : Heap} (ho : h.get? a = some (set0 w)) : TSet P w h a [] :=
  ⟨(#[], 0, _), ho, TxOk.nil rfl, List.Pairwise.nil, by show _ ∨ (!w.params.followText "set-order") = true; cases w.params.followText "set-order" <;> simp, List.nodup_nil⟩
set_option maxHeartbeats 8000000 in
theorem set_of_list {l : Addr} {its : Array Value} (ys : List Str) {Q : Value → Shared → Prop} (hh : A.handled = none) (hl : s.heap.IsList l its) (hi : StrsAre its.toList ys) (hb : ys.length + 1 < scanBound)
    (q : ∀ (h' : Heap) (tk : Nat) zs, TSet P w h' s.heap.objs.size zs → zs.length ≤ ys.length → (∀ x, x ∈ zs ↔ x ∈ ys) → (∀ b o, s.heap.get? b = some o → h'.get? b = some o) → Q (.ref s.heap.objs.size) { s with heap := h', toks := tk }) :
    wpAny (model P w) A (call (.type "set") [.ref l]) Q E s := by
  have hz : its.size = ys.length := by have q := StrsAre.length hi; rw [Array.length_toList] at q; exact q
  obtain ⟨c, tl, hmro⟩ := F.called_set.mro; have hmade := F.called_set.made; have hsub := F.called_set.sub
  refine wpAny_call (codeAny_of_tree ?_); show wpAny _ _ (callAny (.type "set") _) _ _ _
  refine wpAny_pure ⟨Code.quiet_builtin _ (by decide +kernel), codeAny_builtin F.entry_type_call ?_⟩; rw [Around.under_plain (weight_type_call_type "set" [.ref l] []) rfl]
  have g1 := F.called_set.notType; have g2 := F.called_set.canCreate; have g3 := F.typeCall_set_1 (.ref l)
  repeat (any_goals (first | assumption | wp_step))
  refine codeAny_mono (code_set_led1 (.ref l) (E := E) (Q₁ := fun obj z => obj = .ref s.heap.objs.size ∧ z = { s with heap := s.heap.push (set0 w) }) ⟨rfl, rfl⟩) fun r z hr => ?_
  cases r with
  | error e => exact hr
  | ok fl =>
    cases fl with
    | ret obj =>
      obtain ⟨rfl, rfl⟩ := hr
      have k0 : (s.heap.push (set0 w)).get? s.heap.objs.size = some (set0 w) := Heap.get?_push_size _ rfl
      have k1 : Shared.TypeIs { s with heap := s.heap.push (set0 w) } (.ref s.heap.objs.size) "set" := ⟨_, k0, rfl⟩
      have k2 := F.called_set.init.lookup; have k3 := F.called_set.init.bind (.ref s.heap.objs.size)
      repeat (any_goals (first | assumption | wp_step))
      refine codeAny_mono (codeAny_call_builtin (R := wants (fun r z => r = .none ∧ ∃ h' tk zs, z = { s with heap := h', toks := tk } ∧ TSet P w h' s.heap.objs.size zs ∧ zs.length ≤ ys.length ∧ (∀ x, x ∈ zs ↔ x ∈ ys) ∧
          (∀ b o, s.heap.get? b = some o → h'.get? b = some o)) E) F.called_set.init.plain F.entry_set_init (check_set_init_1 k1 ?_)) fun r2 z2 hr2 => ?_
      · obtain ⟨ol, hol, hcl, nl, hdl⟩ := hl
        obtain ⟨ocls, odict, odata, oslots⟩ := ol
        simp only at hcl hdl; subst hcl; subst hdl
        have p0 : (s.heap.push (set0 w)).get? l = some { cls := .type "list", dict := odict, data := .seq its nl, slots := oslots } := Heap.get?_push_of_some _ hol
        have p1 := F.sub_list_set; have p2 := F.sub_list_frozenset; have p3 : (Value.type "list" == Value.type "dict") = false := by decide
        have p4 : (s.heap.push (set0 w)).IsList l its := ⟨_, p0, rfl, nl, rfl⟩
        unfold Builtin.«set.__init__» noKeywords Builtin.Frozenset.updateFrom; generalize hPI : pyIter = PI
        wp_walk
        subst hPI
        refine wpAny_pyIter_list p4 ?_; refine wpAny_bind (wpAny_runValue ?_)
        have q0 : l < s.heap.objs.size := Heap.lt_size hol
        have q1 : A.in1.in1.in1.handled = none := by simp [hh]
        have q2 : l ≠ (s.heap.push (set0 w)).objs.size := by rw [Heap.size_push]; exact Nat.ne_of_lt (Nat.lt_succ_of_lt q0)
        have q3 : s.heap.objs.size ∉ [(s.heap.push (set0 w)).objs.size, l] := by
          rw [Heap.size_push]; simp only [List.mem_cons, List.mem_singleton, List.not_mem_nil, or_false, not_or]; exact ⟨Nat.ne_of_lt (Nat.lt_succ_self _), Nat.ne_of_gt q0⟩
        have q4 : ∀ (i : Nat) (v : Value), its[i]? = some v → ∃ z t, ys[i]? = some z ∧ v = .str z t := fun i v e => (by
          obtain ⟨z, t, e1, e2⟩ := StrsAre.item hi i v (by rw [Array.getElem?_toList]; exact e)
          exact ⟨z, t, e2, e1⟩)
        refine tset_loop ((Walks.list q1 _ l q2 its).toS) s.heap.objs.size q3 ys hz hb q4 (its.size - 0) 0 _ (by omega) (Nat.zero_le _) ⟨⟨_, Heap.get?_push_size _ rfl, rfl, rfl⟩, (p4.push _)⟩ ⟨[], Nat.le_refl 0, fun x => by simp, tset_nil (Heap.get?_push_of_some _ k0)⟩ ?_
        intro z3 zs m3 l3 e3 T3
        obtain ⟨h3, g3, d3, tk3, os3⟩ := z3
        obtain rfl : g3 = s.gens := m3.gens
        obtain rfl : d3 = s.drawn := m3.drawn
        obtain rfl : os3 = s.os := m3.os
        show wpAny _ _ _ _ _ _; refine wpAny_pure ?_
        show wpAny _ _ (ret Value.none) _ _ _
        refine wpAny_pure ⟨rfl, h3, tk3, zs, rfl, T3, by rw [← hz]; exact l3, e3, fun b o e => ?_⟩
        have b0 : b < s.heap.objs.size := Heap.lt_size e
        refine m3.heap b o ?_ (Heap.get?_push_of_some _ (Heap.get?_push_of_some _ e))
        rw [Heap.size_push]; simp only [List.mem_cons, List.mem_singleton, List.not_mem_nil, or_false, not_or]; exact ⟨Nat.ne_of_lt b0, Nat.ne_of_lt (Nat.lt_succ_of_lt b0)⟩
      · cases r2 with
        | error e => exact hr2
        | ok fl2 =>
          cases fl2 with
          | ret r =>
            obtain ⟨rfl, h3, tk3, zs, rfl, T3, l3, e3, k3'⟩ := hr2
            repeat (any_goals (first | assumption | wp_step))
            exact q _ _ _ T3 l3 e3 k3'
          | _ => exact hr2.elim
    | _ => exact hr.elim
end

section
variable {X : Cx}
def TsH (P : Program) (w : World) (a : Addr) (zs : List Str) : HO := .ext fun h => TSet P w h a zs
theorem tsh_new {P : Program} {w : World} {H : Hp} {h : Heap} {a : Addr} {zs : List Str} (R : TSet P w h a zs) : ObjOk P w H h a (TsH P w a zs) :=
  ⟨R, ⟨_, R.choose_spec.1⟩, fun h1 h2 p k => TSet.keep p k⟩
def rSetTx (K : PySem.W.Frag) (P : Program) (w : World) : List V → Hp → VK → Prop := fun xs H Q => ∃ (a : Addr) (ys : List Str), xs = [V.ref a] ∧ SqL K H a (ys.map V.str) ∧ ys.length < 4000 ∧
  ∀ p zs, H p = none → zs.Nodup → zs.length ≤ ys.length → (∀ x, x ∈ zs ↔ x ∈ ys) → Q (.ref p) (upd H p (TsH P w p zs))
theorem call_setTx (hc : X.calm = true) : CallR X (.type "set") (rSetTx X.K X.prog X.w) := by
  intro pins s σ H xs us Q I r h
  obtain ⟨a, ys, rfl, hl, hn, q⟩ := h
  obtain ⟨u, rfl, ru⟩ := vals1 r
  obtain rfl : u = Value.ref a := ru
  obtain ⟨its, rv, pl, _⟩ := I.list hl
  refine set_of_list ys (I.ok.hd hc) pl.isList (by simpa using Vals.strs rv) (Nat.lt_of_lt_of_le (Nat.succ_lt_succ hn) (by decide)) fun h2 tk zs T l1 l2 k => ?_
  have nd := T.choose_spec.2.2.2.2
  exact ⟨.ref _, _, I.laid (t' := tk) (o := TsH X.prog X.w s.heap.objs.size zs) k (Nat.le_refl _) (tsh_new T), rfl, q _ _ (I.hok.fresh (Nat.le_refl _)) nd l1 l2⟩
def rSortTx (P : Program) (w : World) : List V → Hp → VK → Prop := fun xs H Q => ∃ (a : Addr) (zs : List Str), xs = [V.ref a] ∧ H a = some (TsH P w a zs) ∧ zs.length < 64 ∧
  ∀ ys p, ys.Perm zs → sortedS ys = true → H p = none → Q (.ref p) (upd H p (.lst (ys.map V.str)))
theorem perm_all : ∀ (zs l : List Str), zs.Nodup → (∀ x ∈ zs, x ∈ l) → l.length = zs.length → l.Perm zs
  | [], l, _, _, h => by rw [List.length_eq_zero_iff.mp h]
  | z :: zs, l, nd, h, hl => by
    have hz := h z List.mem_cons_self
    obtain ⟨n1, n2⟩ := List.nodup_cons.mp nd
    refine (List.perm_cons_erase hz).trans (.cons z (perm_all zs _ n2 (fun x hx => ?_) ?_))
    · exact (List.mem_erase_of_ne (fun e : x = z => n1 (e ▸ hx))).mpr (h x (List.mem_cons_of_mem _ hx))
    · rw [List.length_erase_of_mem hz, hl]
      rfl
theorem strs_shape : ∀ {l : List (Int × Value)} {P : Program} {w : World}, ElemsOf (strKind P w) l → ∀ e ∈ l, ∃ z t, e.2 = Value.str z t := fun {l P w} h e he => by
  obtain ⟨⟨z, h1, _⟩, _⟩ := h e he
  obtain ⟨t, e1⟩ := Value.isStrOf_shape (x := z) (v := e.2) h1
  exact ⟨z, t, e1⟩
theorem call_sortTx (hc : X.calm = true) : CallR X (.builtin "sorted") (rSortTx X.prog X.w) := by
  intro pins s σ H xs us Q I r h
  obtain ⟨a, zs, rfl, ha, h64, q⟩ := h
  obtain ⟨u, rfl, ru⟩ := vals1 r
  obtain rfl : u = Value.ref a := ru
  obtain ⟨⟨es, ep, t⟩, ho, F, rs, ld, nd⟩ := (I.hok a _ ha).1
  have sz : es.size = zs.length := F.sz
  have hz : es.size < scanBound := by rw [sz]; exact Nat.lt_of_lt_of_le h64 (by decide)
  refine Calls.call_function_entry kind_sorted plain_sorted entry_sorted (args_sorted1 _) ?_; unfold Builtin.«sorted»
  refine wpAny_bind (m := checkCount "sorted" 1 1 _) (wpAny_pure ?_); refine wpAny_bind (L2.collect_set (A := X.A.in1) (I.ok.hd hc) ⟨_, ho, rfl, rfl⟩ F.fit hz rs ld fun s1 vs k1 z1 g1 o1 pm => ?_)
  have many : vs.length = zs.length := by rw [pm.length_eq, List.length_map, Array.length_toList, sz]
  have all : ∀ v, v ∈ vs → ∃ z t, v = Value.str z t := fun v hv => by
    obtain ⟨e, he, e2⟩ := List.mem_map.mp (pm.mem_iff.mp hv)
    obtain ⟨z, t, e3⟩ := strs_shape F.el e he
    exact ⟨z, t, e2.symm.trans e3⟩
  have hS : StrsAre vs (vs.map strOf) := strsAre_map vs all
  have has : ∀ x, x ∈ vs.map strOf ↔ x ∈ zs := fun x => by
    rw [F.mem x, List.mem_map]
    constructor
    · rintro ⟨v, hv, rfl⟩
      obtain ⟨e, he, rfl⟩ := List.mem_map.mp (pm.mem_iff.mp hv)
      obtain ⟨z, t, e3⟩ := strs_shape F.el e he
      exact ⟨e, he, by rw [e3]; exact is_str z t⟩
    · rintro ⟨e, he, p⟩
      obtain ⟨t, e1⟩ := Value.isStrOf_shape (x := x) (v := e.2) p
      exact ⟨e.2, pm.mem_iff.mpr (List.mem_map_of_mem he), by rw [e1]; rfl⟩
  have perm : (vs.map strOf).Perm zs := perm_all zs _ nd (fun x hx => (has x).mpr hx) (by rw [List.length_map, many])
  refine wpAny_bind (wpAny_newList ?_ (by rw [many, sizeLine_eq]; omega))
  have at_ : (s1.heap.push (seqObj "list" vs.toArray 0)).get? s1.heap.objs.size = some (seqObj "list" vs.toArray 0) := Heap.get?_push_size _ rfl
  refine wpAny_bind (wpAny_holding (wpAny_call_entry slot_list_sort ⟨_, at_, rfl⟩ entry_list_sort (list_sort_treeK strKind_oneLt at_ hS.keysOf (fun v1 v2 rest e => keyKind_strs (by rw [← e]; exact hS)) (by rw [many]; exact h64) fun st p1 p2 => ⟨_, rfl, ?_⟩) (args_list_sort _)))
  obtain ⟨ys, g2, g3, g4⟩ := sorted_out_str hS p1 p2
  obtain ⟨c, hc2⟩ := PyProof.Rows.sortedHeap_at (vs := vs) (out := (arrOf st).map (·.2)) at_
  have p0 : ys.Perm zs := g3.trans perm
  have few : (ys.map V.str).length ≤ sizeLine := by rw [List.length_map, p0.length_eq]; exact Nat.le_trans (Nat.le_of_lt h64) (by decide)
  have fresh : H s1.heap.objs.size = none := I.hok.fresh z1
  have J : Inv X pins σ (upd H s1.heap.objs.size (.lst (ys.map V.str))) { s with heap := sortedHeap (s1.heap.push (seqObj "list" vs.toArray 0)) s1.heap.objs.size vs ((arrOf st).map (·.2)), gens := s1.gens, drawn := s1.drawn, toks := s1.toks } := by
    have k2 : ∀ b u, s.heap.get? b = some u → (sortedHeap (s1.heap.push (seqObj "list" vs.toArray 0)) s1.heap.objs.size vs ((arrOf st).map (·.2))).get? b = some u := fun b u e => by
      have q1 := k1 b u e
      have lt := Heap.lt_size q1
      rw [sortedHeap_old (Nat.ne_of_lt lt) (by rw [size_push']; exact Nat.lt_succ_of_lt lt)]
      exact Heap.get?_push_of_some _ q1
    exact I.call (ch := []) (Un.laid k2 z1 fresh) (I.hok.laid k2 z1 ⟨few, ((arrOf st).map (·.2)).toList, c, vals_of_strs g2, by rw [Array.toArray_toList]; exact hc2⟩) (by rw [g1]; exact I.bare) (fun _ z => nomatch z)
  obtain ⟨h1, g1', d1, t1, os1⟩ := s1
  obtain rfl : os1 = s.os := o1
  exact wpAny_pure ⟨_, rfl, .ref _, _, J, rfl, q ys _ p0 g4 fresh⟩
abbrev rSortU (K : PySem.W.Frag) (P : Program) (w : World) : List V → Hp → VK → Prop := fun xs H Q => rSortD K xs H Q ∨ rSortTx P w xs H Q
theorem call_sortU {k : Nat} (hc : X.calm = true) (hr : Room k X.A) : CallR X (.builtin "sorted") (rSortU X.K X.prog X.w) := CallR.or (call_sortedD hr) (call_sortTx hc)
end
section
variable {K : PySem.W.Frag} {E : L2.St → XK} {Ξ : Xi} {ρ : Rho} {te : TE} {P : Program} {w : World}
theorem el_sortset {Φ : List D → Rho → Prop} (h : EvS K E Ξ te ρ fun d ρ1 => ∃ ys : List Str, d = .lst (ys.map D.str) ∧ ys.length < 64 ∧ ∀ zs : List Str, zs.Nodup → zs.length ≤ ys.length → (∀ x, x ∈ zs ↔ x ∈ ys) → sortedS zs = true → Φ (zs.map D.str) ρ1) :
    EvL K E Ξ (tCB (rSortU K P w) (tCons (tCB (rSetTx K P w) (tCons te tNil)) tNil)) ρ Φ := fun F0 H0 σ F H Q S e k =>
  h F0 H0 σ F H _ S e fun d ρ1 v F1 H1 ⟨ys, ed, h64, h1⟩ x1 S1 n1 => by
    subst ed
    obtain ⟨a, vs, e1, h2, n2⟩ := dn_lst.mp n1
    obtain rfl := n2.strs'
    refine ⟨a, ys, by rw [e1], .inl (.inl (S1.fh _ _ h2)), by omega, fun p zs hp nd l1 l2 => .inr ⟨p, zs, rfl, upd_same, by omega, fun us r pm so hr => ?_⟩⟩
    have S2 := S1.grow (Grow.newM (o := TsH P w p zs) S1.fh hp)
    have S3 := S2.grow (Grow.newM (o := .lst (us.map V.str)) S2.fh hr)
    exact k (us.map D.str) ρ1 r (us.map V.str) F1 _ (h1 us (pm.nodup_iff.mpr nd) (by rw [pm.length_eq]; exact l1) (fun x => (pm.mem_iff).trans (l2 x)) so) x1 S3 (S2.new0 hr) (fresh_F S2.fh hr) (S2.newAd hr) upd_same DnL.strs
theorem el_rev {Φ : List D → Rho → Prop} (h : EvS K E Ξ te ρ fun d ρ1 => ∃ ds, d = .lst ds ∧ Φ ds.reverse ρ1) : EvL K E Ξ (tRevL K te) ρ Φ := fun F0 H0 σ F H Q S e k =>
  h F0 H0 σ F H _ S e fun d ρ1 v F1 H1 ⟨ds, ed, h1⟩ x1 S1 n1 => by
    subst ed
    obtain ⟨a, vs, e1, h2, n2⟩ := dn_lst.mp n1
    exact ⟨a, vs, e1, .inl (.inl (S1.fh _ _ h2)), fun p hp => k _ ρ1 p _ F1 _ h1 x1 (S1.grow (Grow.newM S1.fh hp)) (S1.new0 hp) (fresh_F S1.fh hp) (S1.newAd hp) upd_same n2.reverse⟩
end
end Z

namespace Z
open PySem PySem.Spec PyProof.Rows L2 Evl

structure FnG (P : Program) (w : World) (K : PySem.W.Frag) (mg : Str → Option Value) (base : Heap) (CX : CXT) (k : Nat) (f : Addr) (fd : FuncData) (ps : List Str) (sp : Sp) : Prop where
  le : ∀ vs H Q E, sp vs H Q E → vs.length = ps.length
  go : ∀ (A : Around) (outer : List Env) (s : Shared) (H : Hp) (args : Args) (us : List Value) (vs : List V) (Q : VK) (E : XK), Room k A → A.guards = some [] → Env0 P w K mg base A outer s H → BindsTo s fd args (ps.zip us) → Vals vs us → sp vs H Q E → codeAny (model P w) A (.call (.ref f) args) (CR CX outer P w H s Q E) s
section
variable {P : Program} {w : World} {K : PySem.W.Frag} {mg : Str → Option Value} {base : Heap}
theorem okG {x qual : Str} {st : Stmt} {f : Addr} {fd : FuncData} {N ps : List Str} {k : Nat} {sp : Sp} (F : Fun K x qual st f fd) (S : FnScope N ps (defScope st)) (le : ∀ vs H Q E, sp vs H Q E → vs.length = ps.length)
    (body : ∀ (cdv : Value) (A : Around) (outer : List Env) (s : Shared) (H : Hp) (vs : List V) (Q : VK) (E : XK), Room k (A.deeper (envOfC qual (defScope st) s.heap.objs.size f cdv)) → (A.deeper (envOfC qual (defScope st) s.heap.objs.size f cdv)).guards = some [] → sp vs H Q E →
      ∃ t, PSs (cxOf (L2.CX P w) P w K mg base N qual (defScope st) f cdv A outer s H E) (defBody st) t ∧ t { nx := fun _ H' => Q .non H', rt := Q } (start N vs) H) : FnG P w K mg base (L2.CX P w) (k + 1) f fd ps sp := by
  obtain ⟨oc, od, kV, doc, pm, an, cd, ct, sl, rfl, at_, code⟩ := F.ex
  refine ⟨le, fun A outer s H args us vs Q E room gd env bnd rel h => ?_⟩
  have many := le _ _ _ _ h
  have kin : K.In s.heap := env.mod.kin.keeps fun b o z => (env.bs b o z).1
  have lid : s.heap.NoLimit := env.mod.nolimit.keeps fun b o z => (env.bs b o z).1
  refine codeAny_call_function room.depth (kin _ _ at_) rfl S.co S.gen rfl (PySem.W.codeRec_of kin code) (bnd _ _ _ _ ?_)
  refine wpAny_newFunctionEnv_cells S.kind (fun y hy => ?_) fun e1 he s1 got => ?_
  · exact (S.par y.1 (List.of_mem_zip (show (y.1, y.2) ∈ ps.zip us from hy)).1).imp id fun z => ⟨z, PySem.W.cellsFrom_some _ _ _ (.inl z)⟩
  subst he
  refine ⟨lid.keeps got.toInCall.keep, codeAny_func ?_⟩
  obtain ⟨t, runs, holds⟩ := body cd A outer s H vs Q E (room.deeper _) gd h
  refine wpAny_mono (runs.run [] s1 (start N vs) H _ (inv_start S room.hd env many rel got) holds) (fun fl s2 z => ?_) fun _ _ z => z
  cases fl with
  | ret u =>
    obtain ⟨v, _, H2, J, rv, q⟩ := z
    exact ⟨v, H2, J.os, J.bare, J.base, J.hok, rv, q⟩
  | next =>
    obtain ⟨_, H2, J, q⟩ := z
    exact ⟨V.non, H2, J.os, J.bare, J.base, J.hok, rfl, q⟩
  | brk => obtain ⟨_, _, _, q⟩ := z; exact q.elim
  | cont => obtain ⟨_, _, _, q⟩ := z; exact q.elim
end
section
variable {X : Cx} {CX : CXT} {k : Nat} {f : Addr} {fd : FuncData} {ps : List Str} {sp : Sp} {E : L2.St → XK} {x : Str} {p pos : Pos} {e : Expr} {es : List Expr} {t : TA}
theorem pe_callG (F : FnG X.prog X.w X.K X.mg X.base CX k f fd ps sp) (room : Room k X.A) (gd : X.A.guards = some []) (gl : Gl X x) (at_ : X.mg x = some (.ref f)) (kp : PySem.W.keepIn X.K (.ref f) = true) (b : Binds X.K fd ps []) (px : ∀ σ, PassesAt CX X σ (E σ)) (ta : PA X (e :: es) t)
    (nd : (x == ("__debug__" : Str)) = false := by decide) (s1 : starEach (e :: es) X.env = (false, eval e X.env) :: starEach es X.env := by rfl) (s2 : (backTo pos (starEach es X.env)).any (·.1) = false := by rfl) : PE X (.Call (.Name x p) (e :: es) [] pos) (tCallSD sp [] E t) := by
  refine ⟨fun pins s σ H Q I h => wpAny_Call_Name_kw (ld_glob I gl at_ (PySem.W.callWith_K (h₀ := X.base) I.ok.mod.kin kp (thn (ta.run pos pins s σ H _ I h) fun us z ⟨vs, H1, J, r, q⟩ => ⟨J.kIn, ?_⟩) s1 s2) nd)⟩
  have r2 : Vals (vs ++ []) us := by rw [List.append_nil]; exact r
  have hl : us.length = ps.length := by rw [← r2.length]; exact F.le _ _ _ _ q
  have bd := b z us J.kIn (by rw [List.append_nil]; exact hl)
  rw [List.append_nil] at bd
  refine wpAny_call (codeAny_mono (F.go X.A X.stack z H1 ⟨us, []⟩ us (vs ++ []) Q (E σ) room gd J.env0 bd r2 q) fun r z2 hq => ?_)
  match r, hq with
  | .error e, hq => exact px σ pins H1 z e z2 J hq
  | .ok (.ret u), hq => exact J.after hq
  | .ok .next, hq => exact hq.elim
  | .ok .brk, hq => exact hq.elim
  | .ok .cont, hq => exact hq.elim
end

section
variable {P : Program} {w : World} {K : PySem.W.Frag} {mg mb : Str → Option Value} {CX : CXT} {s : Shared} {H : Hp} {a : Addr} {vs : List Value} {ns : List Int}
theorem env_top (kin : K.In s.heap) (nm : s.heap.Ns mainGlobals mg) (bn : s.heap.Ns builtinsNs mb) (bb : ∀ x : Str, x ≠ "__name__" → mb x = bootBuiltins x) (lid : s.heap.NoLimit) (gn : s.gens = #[]) (hok : HOk P w H s.heap)
    (at_ : s.heap.get? a = some { cls := .type "list", data := .seq vs.toArray }) (only : ∀ b, H b ≠ none → b = a ∧ K.lookup a = none) : ∃ base : Heap, K.In base ∧ base.Ns mainGlobals mg ∧ Env0 P w K mg base callerA [] s H := by
  have none_of : ∀ {b : Addr}, ¬ (b = a ∧ K.lookup a = none) → H b = none := fun {b} n => by
    by_cases c : H b = none
    · exact c
    · exact (n (only b c)).elim
  have same : ∀ {b : Addr} {m : Str → Option Value}, s.heap.Ns b m → (hidT s.heap H).Ns b m := by
    rintro b m ⟨o, es, ep, e, d, r⟩
    refine ⟨o, es, ep, hidT_get e (none_of ?_), d, r⟩
    rintro ⟨rfl, _⟩
    rw [at_] at e
    cases e
    cases d
  have kin2 : K.In (hidT s.heap H) := fun b o e => hidT_get (kin b o e) (none_of (by
    rintro ⟨rfl, z⟩
    rw [z] at e
    cases e))
  obtain ⟨mc, l1, l2⟩ := lid
  exact ⟨_, kin2, same nm, ⟨rfl, ⟨kin2, same nm, ⟨mb, same bn, bb⟩, ⟨mc, same l1, l2⟩⟩, fun b o e => of_hidT e, Nat.le_of_eq (hidT_size _ _), trivial, fun b m => (List.not_mem_nil (show b ∈ ([] : List Addr) from m)).elim, hok, .of_eq gn⟩⟩
theorem top_call {k : Nat} {fa : Addr} {fd : FuncData} {x : Str} {sp : Sp} (kin : K.In s.heap) (nm : s.heap.Ns mainGlobals mg) (bn : s.heap.Ns builtinsNs mb) (bb : ∀ x : Str, x ≠ "__name__" → mb x = bootBuiltins x) (lid : s.heap.NoLimit) (gn : s.gens = #[])
    (at_ : s.heap.get? a = some { cls := .type "list", data := .seq vs.toArray }) (ins : IntsAre vs ns) (few : ns.length ≤ sizeLine) (room : Room k callerA) (F : ∀ base : Heap, K.In base → base.Ns mainGlobals mg → FnG P w K mg base CX k fa fd [x] sp)
    (bd : ∀ (s : Shared) (u : Value), BindsTo s fd ⟨[u], []⟩ [(x, u)]) (hsp : ∀ H : Hp, Only H → SqL K H a (ns.map V.int) → sp [.ref a] H (fun v _ => v = .bl true) fun _ _ _ => False) (out : ∀ H e s', CX [] H s (fun _ _ _ => False) e s' → False) :
    codeAny (model P w) callerA (.call (.ref fa) ⟨[.ref a], []⟩) (fun r z => r = .ok (.ret (.bool true)) ∧ OldK s.heap z.heap ∧ z.os = s.os ∧ AllBare z.gens) s := by
  have many := ins.length
  have go : ∀ H : Hp, Only H → SqL K H a (ns.map V.int) → HOk P w H s.heap → (∀ b, H b ≠ none → b = a ∧ K.lookup a = none) →
      codeAny (model P w) callerA (.call (.ref fa) ⟨[.ref a], []⟩) (fun r z => r = .ok (.ret (.bool true)) ∧ OldK s.heap z.heap ∧ z.os = s.os ∧ AllBare z.gens) s := fun H hO hS hok only => by
    obtain ⟨base, b1, b2, env⟩ := env_top kin nm bn bb lid gn hok at_ only
    refine codeAny_mono ((F base b1 b2).go callerA [] s H ⟨[.ref a], []⟩ [.ref a] [.ref a] _ _ room rfl env (bd s (.ref a)) (.cons rfl .nil) (hsp H hO hS)) fun r z h => ?_
    match r, h with
    | .error e, h => exact (out H e z h).elim
    | .ok .next, h => exact h.elim
    | .ok .brk, h => exact h.elim
    | .ok .cont, h => exact h.elim
    | .ok (.ret u), h =>
      obtain ⟨v, H2, os, bare, un, hok2, rv, ev⟩ := h
      have ev : v = .bl true := ev
      subst ev
      obtain rfl : u = Value.bool true := rv
      refine ⟨rfl, OldK.of_keep fun b o e => ?_, os, bare⟩
      rcases hO b with z0 | ⟨ob, xs, z1⟩
      · exact un.keep b o e z0 (fun m => (List.not_mem_nil (show b ∈ ([] : List Addr) from m)).elim) (by simp)
      · have e1 := (hok b _ z1).1
        rw [e] at e1
        cases e1
        exact (hok2 b _ (un.frzs b _ _ z1)).1
  have rel := vals_ints ins
  cases lk : K.lookup a with
  | some o =>
    have e := kin a o lk
    rw [at_] at e
    cases e
    exact go (fun _ => none) (fun _ => .inl rfl) (.inr ⟨_, vs.toArray, _, lk, rfl, rfl, rfl, by rw [List.size_toArray, many]; exact few, by simpa using rel⟩) (fun b u z => nomatch z) fun b z => (z rfl).elim
  | none =>
    refine go (upd (fun _ => none) a (.frz { cls := .type "list", data := .seq vs.toArray } (.lst (ns.map V.int)))) (fun b => ?_) (.inl (.inr ⟨_, upd_same⟩)) (fun b u z => ?_) fun b z => ?_
    · by_cases c : b = a
      · exact .inr ⟨_, _, by rw [c]; exact upd_same⟩
      · exact .inl (upd_ne c)
    · by_cases c : b = a
      · subst c
        rw [upd_same] at z
        cases z
        exact ⟨at_, by rw [List.length_map]; exact few, vs, _, rel, at_⟩
      · rw [upd_ne c] at z
        cases z
    · by_cases c : b = a
      · exact ⟨c, lk⟩
      · exact (z (upd_ne c)).elim
end
theorem walk_top {l : PySem.W.OpenLaw} {n k : Nat} {q : Program} {d : DefRec} {loose : List Str} {YP : World → Heap → Prop} {XP : (Str → Option Value) → Heap → Prop} {K : Params → PySem.W.Frag} {CX : World → CXT} {P : PP} {x : Str} (most : l.most = some n) (size : n ≤ sizeLine) (plain : d.params.defaults = []) (room : Room k callerA) (inn : ∀ (w : World) (h : Heap), YP w h → (K w.params).In h)
    (fn : ∀ (w : World) (mg : Str → Option Value) (fa : Addr) (h : Heap), (K w.params).In h → h.Ns mainGlobals mg → mg d.name = some (.ref fa) → ∃ fd : FuncData, (∀ (s : Shared) (u : Value), BindsTo s fd ⟨[u], []⟩ [(x, u)]) ∧ ∀ base : Heap, (K w.params).In base → base.Ns mainGlobals mg → FnG l.prog w (K w.params) mg base (CX w) k fa fd [x] (spP (K w.params) P))
    (prom : ∀ ns : List Int, ns.length ≤ n → P [.scr ns] (fun d => d = .bl true) noT) (none_out : ∀ (w : World) (H : Hp) (s : Shared) (e : Value) (s2 : Shared), CX w [] H s (fun _ _ _ => False) e s2 → False) : PySem.W.WalkO q loose XP YP l.row.toRowW d [] (fun f vs => PySem.call f vs) := by
  refine Att.attach_call most plain fun w z0 z1 mg mb fa o pm cd doc a vs ns G Y h1 h2 h3 at_ obj ins few gn => ?_
  have kin := inn w _ Y
  obtain ⟨fd, bd, F⟩ := fn w mg fa _ kin G.T.g at_
  exact top_call kin G.T.g G.T.b G.T.builtins G.T.nolimit gn obj ins (Nat.le_trans few size) room F bd (fun H hO hS => ⟨[.scr ns], H, fun d => d = .bl true, noT, prom ns few, Ex.refl H, DnL.cons (dn_scr.mpr ⟨a, rfl, hS⟩) DnL.nil, fun d v F' H' hd _ n => (by subst hd; exact dn_bl.mp n), fun _ _ _ _ _ z => z.elim⟩) fun H e s2 => none_out w H z1 e s2
end Z

namespace Z
open PySem PySem.Spec PyProof.Rows L2 Evl

mutual
def okT : Nat → D → Bool
  | _, .non => true | _, .bl _ => true | _, .int i => decide (0 ≤ i) && decide (i ≤ 9) | _, .str s => PyData.strOk s
  | n + 1, .tup ds => okTs n ds | _, _ => false
def okTs : Nat → List D → Bool
  | _, [] => true
  | n, d :: ds => okT n d && okTs n ds
end
mutual
def lngD : D → Nat
  | .str s => 10 * s.length + 2
  | .tup ds => lngL ds + 3
  | .bl _ => 5
  | _ => 4
def lngL : List D → Nat
  | [] => 0
  | d :: ds => lngD d + 2 + lngL ds
end
theorem tl_len (x : Str) : (TL.tl x).length = x.length := by
  show x.cps.toList.length = x.cps.size
  exact Array.length_toList
theorem joinL_len (S : List Nat) : ∀ ps : List (List Nat), (TL.joinL S ps).length ≤ (ps.map (·.length)).sum + ps.length * S.length
  | [] => by simp [TL.joinL]
  | [p] => by simp [TL.joinL]
  | p :: q :: r => by
    have ih := joinL_len S (q :: r)
    show (p ++ (S ++ TL.joinL S (q :: r))).length ≤ _
    rw [List.length_append, List.length_append, List.map_cons, List.sum_cons, List.length_cons, Nat.succ_mul]
    omega
theorem join_len (y : Str) (ps : List Str) : (Str.join y ps).length ≤ (ps.map (·.length)).sum + ps.length * y.length := by
  rw [← tl_len, TL.tl_join]
  have := joinL_len (TL.tl y) (ps.map TL.tl)
  rw [List.map_map, List.length_map, tl_len] at this
  have e : ps.map (List.length ∘ TL.tl) = ps.map (·.length) := List.map_congr_left fun p _ => tl_len p
  rw [e] at this
  exact this
theorem app_len (x y : Str) : (x ++ y).length = x.length + y.length := by
  rw [← tl_len, TL.tl_append, List.length_append, tl_len, tl_len]
theorem tupText_len (ts : List Str) : (tupleText ts).length ≤ (ts.map (·.length)).sum + ts.length * 2 + 3 := by
  unfold tupleText
  rw [app_len, app_len]
  have h1 := join_len ", " ts
  have h2 : (Str.ofString "(").length = 1 := by decide +kernel
  have h3 : (Str.ofString ", ").length = 2 := by decide +kernel
  have h4 : (Str.ofString (if (ts.length == 1) = true then ",)" else ")")).length ≤ 2 := by split <;> decide +kernel
  rw [h3] at h1
  have h5 : ((Str.ofString "(").length + (Str.join ", " ts).length + (Str.ofString (if (ts.length == 1) = true then ",)" else ")")).length) ≤ (ts.map (·.length)).sum + ts.length * 2 + 3 := by omega
  exact h5
theorem few_digits {i : Int} (h0 : 0 ≤ i) (h9 : i ≤ 9) : (Str.ofString (toString i)).length ≤ 4 := by
  obtain ⟨n, rfl⟩ := Int.eq_ofNat_of_zero_le h0
  have : n ≤ 9 := by omega
  match n, this with
  | 0, _ | 1, _ | 2, _ | 3, _ | 4, _ | 5, _ | 6, _ | 7, _ | 8, _ | 9, _ => decide +kernel
theorem strOk_lt {s : Str} (h : PyData.strOk s = true) : ∀ c ∈ s.cps.toList, c < 16 ^ 8 := fun c hc => by
  unfold PyData.strOk at h
  rw [← Array.all_toList] at h
  have := List.all_eq_true.mp h c hc
  simp at this
  omega
mutual
theorem okT_ok : ∀ (n : Nat) (d : D), okT n d = true → okD n d = true ∧ (py d).showable = true ∧ (py d).shown.length ≤ lngD d
  | n, .non, _ => by
    unfold py okD lngD
    exact ⟨rfl, rfl, by decide +kernel⟩
  | n, .bl b, _ => by
    unfold py okD lngD
    exact ⟨rfl, rfl, by cases b <;> decide +kernel⟩
  | n, .int i, h => by
    unfold okT at h
    obtain ⟨h0, h9⟩ := Bool.and_eq_true_iff.mp h
    have h0 := of_decide_eq_true h0
    have h9 := of_decide_eq_true h9
    unfold py okD lngD
    refine ⟨rfl, ?_, few_digits h0 h9⟩
    have : i.natAbs < 2 ^ 1919 := Nat.lt_of_lt_of_le (show i.natAbs < 10 by omega) (by decide +kernel)
    simp only [PyData.showable, decide_eq_true_eq]
    by_cases z : i.natAbs = 0
    · rw [z]; decide +kernel
    · exact Nat.lt_trans ((Nat.log2_lt z).mpr this) (by decide)
  | n, .str s, h => by
    unfold okT at h
    unfold py okD lngD
    exact ⟨h, rfl, StrLaws.reprText_len s (strOk_lt h)⟩
  | n + 1, .tup ds, h => by
    unfold okT at h
    have z := okTs_ok n ds h
    unfold py okD lngD
    refine ⟨z.1, by simpa [PyData.showable] using z.2.1, ?_⟩
    have q := tupText_len (PyData.shownAll (pyL ds))
    have e : (PyData.tuple (pyL ds)).shown = tupleText (PyData.shownAll (pyL ds)) := by simp only [PyData.shown]
    rw [e]
    omega
  | 0, .tup ds, h => by unfold okT at h; cases h
  | 0, .lst _, h => by unfold okT at h; cases h
  | n + 1, .lst _, h => by unfold okT at h; cases h
  | 0, .dic _ _, h => by unfold okT at h; cases h
  | n + 1, .dic _ _, h => by unfold okT at h; cases h
  | 0, .obj _ _ _, h => by unfold okT at h; cases h
  | n + 1, .obj _ _ _, h => by unfold okT at h; cases h
  | 0, .scr _, h => by unfold okT at h; cases h
  | n + 1, .scr _, h => by unfold okT at h; cases h
theorem okTs_ok : ∀ (n : Nat) (ds : List D), okTs n ds = true → okL n ds = true ∧ PyData.showableAll (pyL ds) = true ∧ ((PyData.shownAll (pyL ds)).map (·.length)).sum + (PyData.shownAll (pyL ds)).length * 2 ≤ lngL ds
  | n, [], _ => by
    unfold pyL okL lngL
    simp [PyData.showableAll, PyData.shownAll]
  | n, d :: ds, h => by
    unfold okTs at h
    obtain ⟨h1, h2⟩ := Bool.and_eq_true_iff.mp h
    have z1 := okT_ok n d h1
    have z2 := okTs_ok n ds h2
    unfold pyL okL lngL
    refine ⟨by rw [z1.1, z2.1]; rfl, by simp only [PyData.showableAll, z1.2.1, z2.2.1, Bool.and_self], ?_⟩
    simp only [PyData.shownAll, List.map_cons, List.sum_cons, List.length_cons, Nat.succ_mul]
    have := z1.2.2
    have := z2.2.2
    omega
end
theorem lngL_le {c : Nat} : ∀ {ds : List D}, (∀ d ∈ ds, lngD d ≤ c) → lngL ds ≤ ds.length * (c + 2)
  | [], _ => by unfold lngL; omega
  | d :: ds, h => by
    unfold lngL
    have := lngL_le fun d hd => h d (List.mem_cons_of_mem _ hd)
    have := h d List.mem_cons_self
    rw [List.length_cons, Nat.succ_mul]
    omega
theorem okTs_all {n : Nat} : ∀ {ds : List D}, (∀ d ∈ ds, okT n d = true) → okTs n ds = true
  | [], _ => by unfold okTs; rfl
  | d :: ds, h => by
    unfold okTs
    rw [h d List.mem_cons_self, okTs_all fun d hd => h d (List.mem_cons_of_mem _ hd)]
    rfl
def rRepr (K : PySem.W.Frag) : List V → Hp → VK → Prop := fun xs H Q => ∃ (a : Addr) (d : PyData), xs = [V.ref a] ∧ Dp K H (.ref a) d ∧ d.canLay0 = true ∧ d.showable = true ∧ d.depth ≤ 64 ∧ d.shown.length ≤ sizeLine ∧ Q (.str d.shown) H
theorem call_repr {X : Cx} {k : Nat} (room : Room k X.A) (gd : X.A.guards = some []) : CallR X (.builtin "repr") (rRepr X.K) := by
  intro pins s σ H xs us Q I r h
  obtain ⟨a, d, rfl, dp, lay, sh, dep, lng, q⟩ := h
  obtain ⟨u, rfl, ru⟩ := vals1 r
  obtain rfl : u = Value.ref a := ru
  obtain ⟨as, rd⟩ := dp.reads I _ _ _ (show RelV (V.ref a) (Value.ref a) from rfl)
  have un := room.un
  exact repr_of_reads' rd sh (PyData.noDict_hsm (PyData.hasDict_of_canLay d lay)) gd (by omega) (fun _ _ e => e) (fun h2 u tk k2 => ⟨.str d.shown, H, I.kept k2, ⟨_, rfl⟩, q⟩) lng
theorem c_repr {K : PySem.W.Frag} {Ψ : D → Prop} {n : Nat} {ds : List D} (ok : okT n (.tup ds) = true) (lng : lngD (.tup ds) ≤ 100000) (h : Ψ (.str (py (.tup ds)).shown)) (hn : n ≤ 64 := by decide) : Cl K (rRepr K) [.tup ds] Ψ := .one fun F H v Q e nn q => by
  obtain ⟨o1, o2, o3⟩ := okT_ok n _ ok
  obtain ⟨l1, l2⟩ := okD_lay n _ o1
  obtain ⟨a, xs, e1, _, _⟩ := dn_tup.mp nn
  have dp := dn_dp n _ v o1 (nn.mono e)
  subst e1
  exact ⟨a, _, rfl, dp, l1, o2, Nat.le_trans l2 hn, sz_of (Nat.le_trans o3 lng), q _ _ F H h (Grow.refl e) (dn_str.mpr rfl)⟩
end Z

namespace Lw
open PySem PySem.Spec PyProof.Rows L2 Evl Z
structure RowM where
  name : Str
  limit : Int
  stay : Bool
  ways : List (Str × Int)
def rowD (r : RowM) : D := .tup [.str r.name, .int r.limit, .bl r.stay, .tup (r.ways.map wayD)]
def siteOf (rows : List RowM) : SiteM := ⟨rows.map (·.name), rows.map (·.limit), rows.map (·.stay), rows.map (·.ways)⟩
structure GoodR (names : List Str) (r : RowM) : Prop where
  nm : isNameM r.name = true
  l0 : 0 ≤ r.limit
  l9 : r.limit ≤ 9
  st : r.ways = [] → r.stay = true
  few : r.ways.length ≤ 6
  asc : (r.ways.map (·.1)).Pairwise (fun a b => ltS a b = true)
  way : ∀ p ∈ r.ways, p.1 ∈ names ∧ p.1 ≠ r.name ∧ isNameM p.1 = true ∧ 1 ≤ p.2 ∧ p.2 ≤ 3
structure GoodRs (rows : List RowM) : Prop where
  ne : rows ≠ []
  few : rows.length ≤ 6
  nd : (rows.map (·.name)).Nodup
  all : ∀ r ∈ rows, GoodR (rows.map (·.name)) r
def tailWords (ws : List (Str × Int)) : List Str := if ws.isEmpty then [] else ("->" : Str) :: wayWords ws
def wordsOf (r : RowM) : List Str := [r.name, intS r.limit] ++ (if r.stay then [("stay" : Str)] else []) ++ tailWords r.ways
def textR (r : RowM) : Str := Txt.join " " (wordsOf r)
def textM (rows : List RowM) : Str := Txt.join "\n" (rows.map textR)
theorem digit_cases {P : Int → Prop} {i : Int} (h0 : 0 ≤ i) (h9 : i ≤ 9) (h : ∀ n : Nat, n ∈ List.range 10 → P (n : Int)) : P i := by
  obtain ⟨n, rfl⟩ := Int.eq_ofNat_of_zero_le h0
  exact h n (List.mem_range.mpr (by omega))
theorem dig_all : ((List.range 10).all fun n => limitWords.contains (intS (n : Int)) && digitM (intS (n : Int)) == (n : Int) && clean (intS (n : Int)) && decide ((intS (n : Int)).length = 1)) = true := by decide +kernel
theorem dig {i : Int} (h0 : 0 ≤ i) (h9 : i ≤ 9) : limitWords.contains (intS i) = true ∧ digitM (intS i) = i ∧ clean (intS i) = true ∧ (intS i).length = 1 := by
  refine digit_cases (P := fun i => limitWords.contains (intS i) = true ∧ digitM (intS i) = i ∧ clean (intS i) = true ∧ (intS i).length = 1) h0 h9 fun n hn => ?_
  have := List.all_eq_true.mp dig_all n hn
  simp only [Bool.and_eq_true, beq_iff_eq, decide_eq_true_eq] at this
  exact ⟨this.1.1.1, this.1.1.2, this.1.2, this.2⟩
theorem step_all : ((List.range 4).all fun n => n == 0 || stepWords.contains (intS (n : Int))) = true := by decide +kernel
theorem step_in {i : Int} (h0 : 1 ≤ i) (h9 : i ≤ 3) : stepWords.contains (intS i) = true := by
  obtain ⟨n, rfl⟩ := Int.eq_ofNat_of_zero_le (show 0 ≤ i by omega)
  have := List.all_eq_true.mp step_all n (List.mem_range.mpr (by omega))
  rcases Bool.or_eq_true_iff.mp this with h | h
  · have := beq_iff_eq.mp h; omega
  · exact h
theorem name_low {z : Str} (h : isNameM z = true) : isLow z = true ∧ 1 ≤ z.length ∧ z.length ≤ 8 := by
  unfold isNameM at h
  simp only [Bool.and_eq_true, decide_eq_true_eq] at h
  exact ⟨h.2, h.1.1, h.1.2⟩
theorem words_clean {ns : List Str} {r : RowM} (g : GoodR ns r) : ∀ w ∈ wordsOf r, clean w = true ∧ w.length ≤ 8 := by
  intro w hw
  unfold wordsOf at hw
  simp only [List.mem_append, List.mem_cons, List.not_mem_nil, or_false] at hw
  rcases hw with (((rfl | rfl) | hw) | hw)
  · exact ⟨low_clean (name_low g.nm).1, (name_low g.nm).2.2⟩
  · have := dig g.l0 g.l9
    exact ⟨this.2.2.1, by omega⟩
  · split at hw
    · simp only [List.mem_cons, List.not_mem_nil, or_false] at hw
      subst hw
      decide +kernel
    · cases hw
  · unfold tailWords at hw
    split at hw
    · cases hw
    · rcases List.mem_cons.mp hw with rfl | hw
      · decide +kernel
      · unfold wayWords at hw
        obtain ⟨p, hp, hw⟩ := List.mem_flatMap.mp hw
        obtain ⟨_, _, h3, h4, h5⟩ := g.way p hp
        simp only [List.mem_cons, List.not_mem_nil, or_false] at hw
        rcases hw with rfl | rfl
        · exact ⟨low_clean (name_low h3).1, (name_low h3).2.2⟩
        · have := dig (show 0 ≤ p.2 by omega) (show p.2 ≤ 9 by omega)
          exact ⟨this.2.2.1, by omega⟩
theorem wayWords_len (ws : List (Str × Int)) : (wayWords ws).length = 2 * ws.length := by
  unfold wayWords
  induction ws with
  | nil => rfl
  | cons p r ih => rw [List.flatMap_cons, List.length_append, ih]; show 2 + _ = _; rw [List.length_cons]; omega
theorem tail_len (ws : List (Str × Int)) : (tailWords ws).length ≤ 2 * ws.length + 1 := by
  unfold tailWords
  split
  · exact Nat.zero_le _
  · rw [List.length_cons, wayWords_len]; omega
theorem words_few {ns : List Str} {r : RowM} (g : GoodR ns r) : 3 ≤ (wordsOf r).length ∧ (wordsOf r).length ≤ 16 := by
  have h1 := tail_len r.ways
  have h2 := g.few
  unfold wordsOf
  rw [List.length_append, List.length_append]
  have e2 : [r.name, intS r.limit].length = 2 := rfl
  rw [e2]
  constructor
  · by_cases c : r.ways = []
    · rw [g.st c, if_pos rfl]
      show 3 ≤ 2 + 1 + _
      omega
    · have : 1 ≤ (tailWords r.ways).length := by
        unfold tailWords
        rw [if_neg (by simpa using c)]
        exact Nat.succ_le_succ (Nat.zero_le _)
      omega
  · have : (if r.stay = true then [("stay" : Str)] else []).length ≤ 1 := by split <;> decide
    omega
theorem rows_back {rows : List RowM} (g : GoodRs rows) : rowsM (textM rows) = rows.map wordsOf := by
  have := rowsM_join (rows := rows.map wordsOf) (by simpa using g.ne) (fun r hr => by
    obtain ⟨q, hq, rfl⟩ := List.mem_map.mp hr
    intro e
    have := (words_few (g.all q hq)).1
    rw [e] at this
    exact absurd this (by decide)) (fun r hr w hw => by
    obtain ⟨q, hq, rfl⟩ := List.mem_map.mp hr
    exact (words_clean (g.all q hq) w hw).1)
  rw [List.map_map] at this
  exact this
theorem nl_back {rows : List RowM} (g : GoodRs rows) : Txt.split (textM rows) "\n" = rows.map textR := by
  have := split_nl (rows := rows.map wordsOf) (by simpa using g.ne) (fun r hr w hw => by
    obtain ⟨q, hq, rfl⟩ := List.mem_map.mp hr
    exact (words_clean (g.all q hq) w hw).1)
  rw [List.map_map] at this
  exact this
def idxOf (lo : Int) (m : Nat) : List Nat := sliceRange (sliceBounds (some lo) none (some 2) m).1 (sliceBounds (some lo) none (some 2) m).2.1 (sliceBounds (some lo) none (some 2) m).2.2
theorem pick_idx (xs : List Str) (lo : Int) : stepPick xs lo 2 = (idxOf lo xs.length).filterMap (xs[·]?) := rfl
theorem idx_1 : idxOf 1 1 = [] ∧ idxOf 1 3 = [1] ∧ idxOf 1 5 = [1, 3] ∧ idxOf 1 7 = [1, 3, 5] ∧ idxOf 1 9 = [1, 3, 5, 7] ∧ idxOf 1 11 = [1, 3, 5, 7, 9] ∧ idxOf 1 13 = [1, 3, 5, 7, 9, 11] := by decide +kernel
theorem idx_2 : idxOf 2 1 = [] ∧ idxOf 2 3 = [2] ∧ idxOf 2 5 = [2, 4] ∧ idxOf 2 7 = [2, 4, 6] ∧ idxOf 2 9 = [2, 4, 6, 8] ∧ idxOf 2 11 = [2, 4, 6, 8, 10] ∧ idxOf 2 13 = [2, 4, 6, 8, 10, 12] := by decide +kernel
theorem odd_words (ws : List (Str × Int)) (h : ws.length ≤ 6) : stepPick (("->" : Str) :: wayWords ws) 1 2 = ws.map (·.1) := by
  rw [pick_idx, List.length_cons, wayWords_len]
  obtain ⟨h0, h1, h2, h3, h4, h5, h6⟩ := idx_1
  match ws, h with
  | [], _ => show (idxOf 1 1).filterMap _ = _; rw [h0]; rfl
  | [a], _ => show (idxOf 1 3).filterMap _ = _; rw [h1]; rfl
  | [a, b], _ => show (idxOf 1 5).filterMap _ = _; rw [h2]; rfl
  | [a, b, c], _ => show (idxOf 1 7).filterMap _ = _; rw [h3]; rfl
  | [a, b, c, d], _ => show (idxOf 1 9).filterMap _ = _; rw [h4]; rfl
  | [a, b, c, d, e], _ => show (idxOf 1 11).filterMap _ = _; rw [h5]; rfl
  | [a, b, c, d, e, f], _ => show (idxOf 1 13).filterMap _ = _; rw [h6]; rfl
  | _ :: _ :: _ :: _ :: _ :: _ :: _ :: _, h => simp at h
theorem even_words (ws : List (Str × Int)) (h : ws.length ≤ 6) : stepPick (("->" : Str) :: wayWords ws) 2 2 = ws.map (fun p => intS p.2) := by
  rw [pick_idx, List.length_cons, wayWords_len]
  obtain ⟨h0, h1, h2, h3, h4, h5, h6⟩ := idx_2
  match ws, h with
  | [], _ => show (idxOf 2 1).filterMap _ = _; rw [h0]; rfl
  | [a], _ => show (idxOf 2 3).filterMap _ = _; rw [h1]; rfl
  | [a, b], _ => show (idxOf 2 5).filterMap _ = _; rw [h2]; rfl
  | [a, b, c], _ => show (idxOf 2 7).filterMap _ = _; rw [h3]; rfl
  | [a, b, c, d], _ => show (idxOf 2 9).filterMap _ = _; rw [h4]; rfl
  | [a, b, c, d, e], _ => show (idxOf 2 11).filterMap _ = _; rw [h5]; rfl
  | [a, b, c, d, e, f], _ => show (idxOf 2 13).filterMap _ = _; rw [h6]; rfl
  | _ :: _ :: _ :: _ :: _ :: _ :: _ :: _, h => simp at h
theorem ways_words (ws : List (Str × Int)) (h : ws.length ≤ 6) : waysM (("->" : Str) :: wayWords ws) = ws.map (fun p => (p.1, digitM (intS p.2))) := by
  have e : (("->" : Str) :: wayWords ws).length / 2 = ws.length := by rw [List.length_cons, wayWords_len]; omega
  unfold waysM
  rw [e]
  match ws, h with
  | [], _ => rfl
  | [a], _ => rfl
  | [a, b], _ => rfl
  | [a, b, c], _ => rfl
  | [a, b, c, d], _ => rfl
  | [a, b, c, d, e], _ => rfl
  | [a, b, c, d, e, f], _ => rfl
  | _ :: _ :: _ :: _ :: _ :: _ :: _ :: _, h => simp at h
theorem asc_all : ∀ {l : List Str}, l.Pairwise (fun a b => ltS a b = true) → (l.zip l.tail).all (fun p => ltS p.1 p.2) = true
  | [], _ => rfl
  | [a], _ => rfl
  | a :: b :: r, h => by
    obtain ⟨h1, h2⟩ := List.pairwise_cons.mp h
    have ih := asc_all h2
    show (ltS a b && ((b :: r).zip r).all _) = true
    rw [h1 b List.mem_cons_self]
    exact ih
theorem areWays_ok {ns firsts : List Str} {r : RowM} (g : GoodR ns r) (hf : ∀ n ∈ ns, firsts.contains n = true) (hw : r.ways ≠ []) : areWaysM r.name (("->" : Str) :: wayWords r.ways) firsts = true := by
  unfold areWaysM
  have hl := wayWords_len r.ways
  have h1 : 1 ≤ r.ways.length := List.length_pos_iff.mpr hw
  have c1 : ((("->" : Str) :: wayWords r.ways).headD "" != "->") = false := by
    show (("->" : Str) != "->") = false
    decide +kernel
  have c2 : decide ((("->" : Str) :: wayWords r.ways).length < 3) = false := by
    rw [List.length_cons, hl]
    exact decide_eq_false (by omega)
  have c3 : ((("->" : Str) :: wayWords r.ways).length % 2 == 0) = false := by
    rw [List.length_cons, hl]
    have : (2 * r.ways.length + 1) % 2 = 1 := by omega
    rw [this]
    rfl
  rw [c1, c2, c3, odd_words _ g.few, even_words _ g.few]
  simp only [Bool.or_self, Bool.false_eq_true, if_false, Bool.and_eq_true]
  refine ⟨⟨?_, asc_all g.asc⟩, ?_⟩
  · refine List.all_eq_true.mpr fun e he => ?_
    obtain ⟨p, hp, rfl⟩ := List.mem_map.mp he
    obtain ⟨h1, h2, h3, _⟩ := g.way p hp
    rw [hf _ h1, h3]
    simp [h2]
  · refine List.all_eq_true.mpr fun e he => ?_
    obtain ⟨p, hp, rfl⟩ := List.mem_map.mp he
    obtain ⟨_, _, _, h4, h5⟩ := g.way p hp
    exact step_in h4 h5
def placeOf (r : RowM) : PlaceM := ⟨r.limit, r.stay, r.ways⟩
theorem place_ok {ns firsts : List Str} {r : RowM} (g : GoodR ns r) (hf : ∀ n ∈ ns, firsts.contains n = true) : placeM (wordsOf r) firsts = some (placeOf r) := by
  have d := dig g.l0 g.l9
  have h3 := (words_few g).1
  have e0 : (wordsOf r).getD 0 "" = r.name := rfl
  have e1 : (wordsOf r).getD 1 "" = intS r.limit := rfl
  have e2 : ((wordsOf r).getD 2 "" == "stay") = r.stay := by
    unfold wordsOf
    cases hs : r.stay with
    | true => show (("stay" : Str) == "stay") = true; decide +kernel
    | false =>
      have hn : r.ways ≠ [] := fun e => by rw [g.st e] at hs; cases hs
      unfold tailWords
      have hn2 : ¬ (r.ways.isEmpty = true) := by simpa using hn
      rw [if_neg hn2]
      have q : (("->" : Str) == "stay") = false := by decide +kernel
      exact q
  have e3 : restM (wordsOf r) = tailWords r.ways := by
    unfold restM
    rw [e2]
    unfold wordsOf
    cases r.stay <;> rfl
  unfold placeM
  rw [e0, e1, e2, e3, g.nm, d.1, d.2.1]
  have c : decide ((wordsOf r).length < 3) = false := decide_eq_false (by omega)
  rw [c]
  simp only [Bool.not_true, Bool.or_self, Bool.false_eq_true, if_false]
  by_cases hw : r.ways = []
  · unfold tailWords placeOf
    rw [hw]
    rfl
  · have et : tailWords r.ways = ("->" : Str) :: wayWords r.ways := by
      unfold tailWords
      rw [if_neg (by simpa using hw)]
    rw [et, areWays_ok g hf hw, ways_words _ g.few]
    simp only [Bool.not_true, Bool.and_false, Bool.false_eq_true, if_false]
    have : r.ways.map (fun p => (p.1, digitM (intS p.2))) = r.ways := by
      conv => rhs; rw [← List.map_id r.ways]
      refine List.map_congr_left fun p hp => ?_
      obtain ⟨_, _, _, h4, h5⟩ := g.way p hp
      rw [(dig (show 0 ≤ p.2 by omega) (show p.2 ≤ 9 by omega)).2.1]
      rfl
    rw [this]
    rfl
theorem go_ok {ns firsts : List Str} (hf : ∀ n ∈ ns, firsts.contains n = true) : ∀ (rows : List RowM) (n : Nat) (seen : List Str) (acc : List PlaceM), n + rows.length ≤ 6 → (rows.map (·.name)).Nodup → (∀ r ∈ rows, GoodR ns r ∧ r.name ∉ seen) →
    goM firsts n seen acc (rows.map wordsOf) = .ok (acc ++ rows.map placeOf)
  | [], n, seen, acc, _, _, _ => by
    show Except.ok acc = _
    rw [List.map_nil, List.append_nil]
  | r :: rows, n, seen, acc, hn, nd, h => by
    obtain ⟨n1, n2⟩ := List.nodup_cons.mp nd
    obtain ⟨g, hs⟩ := h r List.mem_cons_self
    rw [List.length_cons] at hn
    have c1 : decide (6 ≤ n) = false := decide_eq_false (by omega)
    have c2 : seen.contains ((wordsOf r).getD 0 "") = false := by
      show seen.contains r.name = false
      simpa using hs
    rw [List.map_cons]
    unfold goM
    rw [c1, place_ok g hf]
    simp only [Bool.false_eq_true, if_false, c2]
    rw [go_ok hf rows (n + 1) (seen ++ [(wordsOf r).getD 0 ""]) (acc ++ [placeOf r]) (by omega) n2 (fun q hq => ⟨(h q (List.mem_cons_of_mem _ hq)).1, fun hm => by
      rcases List.mem_append.mp hm with hm | hm
      · exact (h q (List.mem_cons_of_mem _ hq)).2 hm
      · have e : q.name = r.name := List.mem_singleton.mp hm
        have hq2 : q.name ∈ rows.map (·.name) := List.mem_map_of_mem hq
        rw [e] at hq2
        exact n1 hq2⟩), List.map_cons, List.append_assoc]
    rfl
theorem parse_text {rows : List RowM} (g : GoodRs rows) : parseM (textM rows) = .ok (siteOf rows) := by
  unfold parseM
  rw [rows_back g]
  have ef : firstsM (rows.map wordsOf) = rows.map (·.name) := by
    unfold firstsM
    rw [List.map_map]
    rfl
  have : placesM (rows.map wordsOf) = .ok (rows.map placeOf) := by
    unfold placesM
    rw [ef]
    have := go_ok (ns := rows.map (·.name)) (firsts := keysOf (rows.map (·.name))) (fun n hn => by rw [keysOf_has]; exact List.contains_iff_mem.mpr hn) rows 0 [] [] (by have := g.few; omega) g.nd (fun r hr => ⟨g.all r hr, List.not_mem_nil⟩)
    rw [this]
    rfl
  rw [this]
  unfold siteM siteOf
  rw [ef]
  simp only [List.map_map]
  rfl
theorem row_words (rows : List RowM) {i : Nat} {r : RowM} (h : rows[i]? = some r) : rowWords (siteOf rows) i = wordsOf r := by
  unfold rowWords siteOf wordsOf tailWords
  simp only [List.getD_eq_getElem?_getD, List.getElem?_map, h, Option.map_some, Option.getD_some]
  cases r.ways with
  | nil => simp [wayWords]
  | cons p q => simp
theorem str_text {rows : List RowM} : strM (siteOf rows) = textM rows := by
  unfold strM textM rowsText
  congr 1
  have hl : (siteOf rows).names.length = rows.length := List.length_map ..
  rw [hl]
  apply List.ext_getElem?
  intro i
  rw [List.getElem?_map, List.getElem?_map]
  by_cases h : i < rows.length
  · rw [List.getElem?_range h, List.getElem?_eq_getElem h]
    show some (rowTextM _ i) = some (textR rows[i])
    unfold rowTextM textR
    rw [row_words rows (List.getElem?_eq_getElem h)]
  · rw [List.getElem?_eq_none (by rw [List.length_range]; omega), List.getElem?_eq_none (by omega)]
    rfl
theorem join_le (y : Str) (ps : List Str) {c : Nat} (h : ∀ p ∈ ps, p.length ≤ c) : (Txt.join y ps).length ≤ ps.length * (c + y.length) ∧ (ps.map (·.length)).sum + ps.length * y.length ≤ ps.length * (c + y.length) := by
  have h1 : ∀ l : List Str, (∀ p ∈ l, p.length ≤ c) → (l.map (·.length)).sum ≤ l.length * c := fun l => by
    induction l with
    | nil => intro _; exact Nat.zero_le _
    | cons p r ih =>
      intro h
      have a := h p List.mem_cons_self
      have b := ih fun q hq => h q (List.mem_cons_of_mem _ hq)
      rw [List.map_cons, List.sum_cons, List.length_cons, Nat.succ_mul]
      omega
  have h2 := h1 ps h
  have h3 : (ps.map (·.length)).sum + ps.length * y.length ≤ ps.length * (c + y.length) := by
    rw [Nat.mul_add]; omega
  refine ⟨?_, h3⟩
  rw [TL.join_eq]
  exact Nat.le_trans (join_len y ps) h3
theorem textR_le {ns : List Str} {r : RowM} (g : GoodR ns r) : (textR r).length ≤ 144 := by
  have := (join_le " " (wordsOf r) (c := 8) fun w hw => (words_clean g w hw).2).1
  have e : (Str.ofString " ").length = 1 := by decide +kernel
  rw [e] at this
  have := (words_few g).2
  unfold textR
  omega
theorem textM_le {rows : List RowM} (g : GoodRs rows) : (textM rows).length ≤ 870 := by
  have := (join_le "\n" (rows.map textR) (c := 144) fun w hw => by
    obtain ⟨r, hr, rfl⟩ := List.mem_map.mp hw
    exact textR_le (g.all r hr)).1
  have e : (Str.ofString "\n").length = 1 := by decide +kernel
  rw [e, List.length_map] at this
  have := g.few
  unfold textM
  omega
theorem fine_text {rows : List RowM} (g : GoodRs rows) : fineT (textM rows) = true := by
  unfold fineT
  simp only [Bool.and_eq_true, decide_eq_true_eq]
  have := textM_le g
  refine ⟨⟨by omega, ?_⟩, ?_⟩
  · rw [nl_back g]
    refine List.all_eq_true.mpr fun w hw => ?_
    obtain ⟨r, hr, rfl⟩ := List.mem_map.mp hw
    have := textR_le (g.all r hr)
    exact decide_eq_true (by omega)
  · rw [rows_back g]
    unfold fineR
    simp only [Bool.and_eq_true, decide_eq_true_eq, List.length_map]
    refine ⟨by have := g.few; omega, List.all_eq_true.mpr fun w hw => ?_⟩
    obtain ⟨r, hr, rfl⟩ := List.mem_map.mp hw
    have := words_few (g.all r hr)
    unfold fineW
    simp only [Bool.and_eq_true, decide_eq_true_eq]
    refine ⟨⟨by omega, by omega⟩, List.all_eq_true.mpr fun z hz => ?_⟩
    have := (words_clean (g.all r hr) z hz).2
    exact decide_eq_true (by omega)
theorem small_of {i : Int} (h0 : 0 ≤ i) (h9 : i ≤ 9) : smallI i = true := by
  refine digit_cases (P := fun i => smallI i = true) h0 h9 fun n hn => ?_
  have : ((List.range 10).all fun n => smallI (n : Int)) = true := by decide +kernel
  exact List.all_eq_true.mp this n hn
theorem fine_str {rows : List RowM} (g : GoodRs rows) : fineStr (siteOf rows) = true := by
  have hl : (siteOf rows).names.length = rows.length := List.length_map ..
  have hf := g.few
  unfold fineStr
  simp only [Bool.and_eq_true, decide_eq_true_eq, hl]
  refine ⟨⟨by omega, List.all_eq_true.mpr fun i hi => ?_⟩, ?_⟩
  · have hi := List.mem_range.mp hi
    have er := List.getElem?_eq_getElem hi
    have gr := g.all rows[i] (List.getElem_mem hi)
    have ew := row_words rows er
    unfold fineRow
    rw [ew]
    unfold siteOf
    simp only [List.length_map, List.getD_eq_getElem?_getD, List.getElem?_map, er, Option.map_some, Option.getD_some, Bool.and_eq_true, decide_eq_true_eq]
    refine ⟨⟨⟨⟨⟨⟨⟨hi, hi⟩, hi⟩, hi⟩, small_of gr.l0 gr.l9⟩, by have := gr.few; omega⟩, List.all_eq_true.mpr fun p hp => ?_⟩, ?_⟩
    · obtain ⟨_, _, _, h4, h5⟩ := gr.way p hp
      exact small_of (by omega) (by omega)
    · unfold joinOk
      have h2 := (join_le " " (wordsOf rows[i]) (c := 8) fun w hw => (words_clean gr w hw).2).2
      have e : (Str.ofString " ").length = 1 := by decide +kernel
      rw [e] at h2
      have := (words_few gr).2
      exact decide_eq_true (by omega)
  · unfold joinOk
    have e0 : rowsText (siteOf rows) = rows.map textR := by
      have := @str_text rows
      unfold rowsText
      rw [hl]
      apply List.ext_getElem?
      intro i
      rw [List.getElem?_map, List.getElem?_map]
      by_cases h : i < rows.length
      · rw [List.getElem?_range h, List.getElem?_eq_getElem h]
        show some (rowTextM _ i) = some (textR rows[i])
        unfold rowTextM textR
        rw [row_words rows (List.getElem?_eq_getElem h)]
      · rw [List.getElem?_eq_none (by rw [List.length_range]; omega), List.getElem?_eq_none (by omega)]
        rfl
    rw [e0]
    have h2 := (join_le "\n" (rows.map textR) (c := 144) fun w hw => by
      obtain ⟨r, hr, rfl⟩ := List.mem_map.mp hw
      exact textR_le (g.all r hr)).2
    have e : (Str.ofString "\n").length = 1 := by decide +kernel
    rw [e, List.length_map] at h2
    exact decide_eq_true (by simp only [List.length_map]; omega)
end Lw

namespace Z
open PySem PySem.Spec PyProof.Rows L2 Evl
section
variable {K : PySem.W.Frag} {E : L2.St → XK} {Ξ : Xi} {ρ : Rho} {ta tb te : TE} {i j : Nat} {Φ : Out → Prop} {P : Program} {w : World}
theorem r_parL (h : EvL K E Ξ ta ρ fun ds ρ1 => EvS K E Ξ tb ρ1 fun d ρ2 => ∀ p, Φ (.nx ((ρ2.set i (.ol p ds)).set j (.dt d)))) : RunS K E Ξ (tPar i j (tCons ta (tCons tb tNil))) ρ Φ := fun F0 H0 σ F H D S e k1 k2 k3 k4 =>
  h F0 H0 σ F H _ S e fun ds ρ1 p vs F1 H1 h1 x1 S1 a b c hp n => by
    have dk : delS ρ1 H1 p = some (.lst vs) := (delS_keep c).trans hp
    refine h1 F1 _ σ F1 H1 _ S1.rebase (e.re S1) fun d ρ2 v F2 H2 h2 x2 S2 n2 => ?_
    have U := S1.unbase S2
    have fp : F2 p = none := S2.g.nw p (by rw [dk]; simp) b
    have c2 : ∀ (i : Nat) (s : Slot), ρ2[i]? = some s → s.ad ≠ some p := fun i s hs z => by
      have := ((S2.sl i s hs).ad z).1
      rw [dk] at this
      cases this
    have T : Sd K F0 H0 (ρ2.set i (.ol p ds)) (σ.set i (some (.ref p))) F2 H2 := U.put (fun _ => ⟨rfl, a, fp, vs, S2.g.hh _ _ dk, n.mono x2⟩) fun q e j t _ hj z => by
      cases e
      exact c2 j t hj z
    exact ⟨.ref p, v, rfl, k1 _ _ F2 H2 (h2 p) (x1.trans x2) (T.putD n2)⟩
theorem r_asgL (h : EvL K E Ξ ta ρ fun ds ρ1 => EvS K E Ξ tb ρ1 fun d ρ2 => ∀ p, Φ (.nx ((ρ2.set i (.ol p ds)).set j (.dt d)))) : RunS K E Ξ (tAsg (tTup (tCons ta (tCons tb tNil))) (gTup K 2 (gCons (gName i) (gCons (gName j) gNil)))) ρ Φ := fun F0 H0 σ F H D S e k1 k2 k3 k4 =>
  h F0 H0 σ F H _ S e fun ds ρ1 p vs F1 H1 h1 x1 S1 a b c hp n => by
    have dk : delS ρ1 H1 p = some (.lst vs) := (delS_keep c).trans hp
    refine h1 F1 _ σ F1 H1 _ S1.rebase (e.re S1) fun d ρ2 v F2 H2 h2 x2 S2 n2 => ⟨sz_of (by show 2 ≤ 100000; decide), fun t ht => ?_⟩
    have c2 : ∀ (i : Nat) (s : Slot), ρ2[i]? = some s → s.ad ≠ some p := fun i s hs z => by
      have := ((S2.sl i s hs).ad z).1
      rw [dk] at this
      cases this
    have hp2 : H2 p = some (.lst vs) := S2.g.hh _ _ dk
    have fp : F2 p = none := S2.g.nw p (by rw [dk]; simp) b
    have ne : p ≠ t := fun z => by rw [z, ht] at hp2; cases hp2
    have U := (S1.unbase S2).grow (Grow.newM (o := .tup [.ref p, v]) S2.fh ht)
    have T : Sd K F0 H0 (ρ2.set i (.ol p ds)) (σ.set i (some (.ref p))) F2 (upd H2 t (.tup [.ref p, v])) := U.put (fun _ => ⟨rfl, a, fp, vs, by rw [upd_ne ne]; exact hp2, n.mono x2⟩) fun q e j t _ hj z => by
      cases e
      exact c2 j t hj z
    exact ⟨t, [.ref p, v], rfl, .inl (.inl upd_same), rfl, .ref p, [v], rfl, v, [], rfl, rfl, k1 _ _ F2 _ (h2 p) (x1.trans x2) (T.putD n2)⟩
theorem c_orL {r r' : List V → Hp → VK → Prop} {xs : List D} {Ψ : D → Prop} (h : Cl K r xs Ψ) : Cl K (fun xs H Q => r xs H Q ∨ r' xs H Q) xs Ψ := fun F H vs Q e n q => .inl (h F H vs Q e n q)
end
def ltS' (a b : Str) : Bool := decide (a.cps.toList < b.cps.toList)
def sortN (ns : List Str) : List Str := ns.mergeSort fun a b => leD (.str a) (.str b)
theorem leD_str (a b : Str) : leD (.str a) (.str b) = !ltS' b a := by
  show (!PyProof.Rows.lexLt itemOrd [.inr b.cps.toList] [.inr a.cps.toList]) = _
  unfold PyProof.Rows.lexLt
  have : PyProof.Rows.lexLt itemOrd [] [] = false := rfl
  rw [this, Bool.and_false, Bool.or_false]
  rfl
theorem leS_total : PySem.W.TotalLe fun a b : Str => leD (.str a) (.str b) := PySem.W.sortLe_total (listOrd itemOrd) false fun a => PySem.W.keyToks (py (.str a))
theorem sortN_map (ns : List Str) : (ns.map D.str).mergeSort leD = (sortN ns).map D.str := (List.map_mergeSort (f := D.str) (r := fun a b => leD (.str a) (.str b)) (s := leD) (fun a _ b _ => rfl)).symm
theorem sortN_perm (ns : List Str) : (sortN ns).Perm ns := List.mergeSort_perm _ _
theorem sortN_asc {ns : List Str} (nd : ns.Nodup) : (sortN ns).Pairwise fun a b => ltS' a b = true := by
  have h1 : (sortN ns).Pairwise fun a b => leD (.str a) (.str b) = true := List.pairwise_mergeSort leS_total.trans (fun a b => by rw [Bool.or_eq_true]; exact leS_total.total a b) ns
  have h2 : (sortN ns).Pairwise fun a b => a ≠ b := (sortN_perm ns).nodup_iff.mpr nd
  refine (h1.and h2).imp fun {a b} ⟨q1, q2⟩ => ?_
  rw [leD_str, Bool.not_eq_true'] at q1
  cases c : ltS' a b with
  | true => rfl
  | false =>
    have e : a.cps.toList = b.cps.toList := strKind.total a.cps.toList b.cps.toList c q1
    exact absurd (TL.ext_tl e) q2
theorem c_sortN {K : PySem.W.Frag} {P : Program} {w : World} {Ψ : D → Prop} {ns : List Str} (ok : ∀ n ∈ ns, PyData.strOk n = true) (h : Ψ (.lst ((sortN ns).map .str))) : Cl K (rSortU K P w) [.lst (ns.map .str)] Ψ :=
  c_orL (c_sorted (n := 0) (by decide) (fun d hd => by
    obtain ⟨p, hp, rfl⟩ := List.mem_map.mp hd
    unfold okD
    exact ok p hp) (fun d hd d' hd' => by
    rw [List.map_map] at hd hd'
    obtain ⟨p, _, rfl⟩ := List.mem_map.mp hd
    obtain ⟨q, _, rfl⟩ := List.mem_map.mp hd'
    simp [py, PySem.W.alike]) (.inr fun d hd => by
    rw [List.map_map] at hd
    obtain ⟨p, _, rfl⟩ := List.mem_map.mp hd
    simp [py]) (by rw [sortN_map]; exact h))
theorem cut_take (ds : List D) {k : Int} (h0 : 0 ≤ k) : cutD ds none (some k) = ds.take k.toNat := by
  obtain ⟨n, rfl⟩ := Int.eq_ofNat_of_zero_le h0
  unfold cutD
  rw [HT.sIx_none, HT.sIx_nat, List.drop_zero, Nat.sub_zero, Int.toNat_natCast]
  apply List.ext_getElem?
  intro i
  rw [List.getElem?_take, List.getElem?_take]
  by_cases c : i < ds.length
  · have : (i < min n ds.length) ↔ i < n := by omega
    simp only [this]
  · rw [List.getElem?_eq_none (by omega)]
    split <;> split <;> rfl
theorem deq_nil (ds : List D) : deq (.tup ds) (.tup []) = ds.isEmpty := by
  unfold deq py
  cases ds with
  | nil => unfold pyL; rfl
  | cons d r => unfold pyL; simp [PyData.eqv, PyData.eqvAll]
end Z
namespace Lw
open PySem PySem.Spec PyProof.Rows L2 Evl Z
structure NamesOk (ns : List Str) : Prop where
  ne : ns ≠ []
  few : ns.length ≤ 6
  nd : ns.Nodup
  nm : ∀ n ∈ ns, isNameM n = true
theorem ofB {ns : List Str} (h : (!ns.isEmpty && decide (ns.length ≤ 6) && decide ns.Nodup && ns.all isNameM) = true) : NamesOk ns := by
  simp only [Bool.and_eq_true, decide_eq_true_eq] at h
  exact ⟨by simpa using h.1.1.1, h.1.1.2, h.1.2, fun n hn => List.all_eq_true.mp h.2 n hn⟩
theorem NamesOk.take {ns : List Str} (h : NamesOk ns) {k : Nat} (hk : 1 ≤ k) : NamesOk (ns.take k) := by
  refine ⟨fun e => ?_, by rw [List.length_take]; have := h.few; omega, h.nd.sublist (List.take_sublist _ _), fun n hn => h.nm n (List.mem_of_mem_take hn)⟩
  have q := congrArg List.length e
  rw [List.length_take, List.length_nil] at q
  have h2 : 0 < ns.length := List.length_pos_iff.mpr h.ne
  omega
theorem low_ok {z : Str} (h : isLow z = true) : PyData.strOk z = true := by
  unfold PyData.strOk
  rw [← Array.all_toList]
  refine List.all_eq_true.mpr fun c hc => ?_
  have := List.all_eq_true.mp h c hc
  unfold Letter at this
  simp only [Bool.and_eq_true, decide_eq_true_eq] at this
  exact decide_eq_true (by omega)
theorem name_mk {z : Str} (h : isLow z = true) (h1 : 1 ≤ z.length) (h2 : z.length ≤ 8) : isNameM z = true := by
  unfold isNameM
  simp [h, h1, h2]
def lettersA : List Str := ["b", "a", "d", "c", "f", "e"]
def lettersB : List Str := ["stay", "ab", "b", "a", "abcdefgh", "z"]
theorem okA : NamesOk lettersA := ofB (by decide +kernel)
theorem okB : NamesOk lettersB := ofB (by decide +kernel)
theorem words_ok {ws zs : List Str} (h6 : ws.length = 6) (hw : ∀ w ∈ ws, isNameM w = true) (nd : zs.Nodup) (hl : zs.length ≤ ws.length) (hm : ∀ x, x ∈ zs ↔ x ∈ ws) : NamesOk zs.reverse := by
  refine ⟨fun e => ?_, by rw [List.length_reverse]; omega, (List.reverse_perm zs).nodup_iff.mpr nd, fun n hn => hw n ((hm n).mp (List.mem_reverse.mp hn))⟩
  have : zs = [] := List.reverse_eq_nil_iff.mp e
  subst this
  match ws, h6 with
  | w :: r, _ => exact absurd ((hm w).mpr List.mem_cons_self) List.not_mem_nil
end Lw

namespace Z
open PySem PySem.Spec PyProof.Rows L2 Evl

structure EqM (K : PySem.W.Frag) (C f : Addr) : Prop where
  at_ : PySem.W.findIn K (.ref C) "__eq__" = some (some (.ref f))
  isf : PySem.W.isFn K (.ref f) = true
  ty : PySem.W.typeIn K (.ref f) = some (.type "function")
  cls : ∃ (nm q : Str) (N : Addr) (bs : List Value) (hd : Bool) (sn : List Str) (sub : List Value) (ab : Bool) (col : Option Bool) (dd : Option Addr) (k0 k1 k2 k3 k5 : Option Value) (nw : String),
    K.lookup C = some (excClassObj nm q C N bs [.type "object"] hd sn sub ab col dd k0 k1 k2 k3 k5 nw) ∧ PySem.W.nsOkIn K N = true ∧ PySem.W.nsIn K N "__eq__" = some (some (.ref f)) ∧ PySem.W.nsIn K N "__ne__" = some none
theorem ns_has {K : PySem.W.Frag} {h : Heap} {N : Addr} {mg : Str → Option Value} {n : Str} {v : Value} (X : K.In h) (G : h.Ns N mg) (e : PySem.W.nsIn K N n = some (some v)) : mg n = some v := by
  obtain ⟨o, es, ep, ho, hd, _, hf⟩ := G
  unfold PySem.W.nsIn at e
  split at e
  · rename_i q
    have z := X _ _ q
    rw [ho] at z
    cases z
    cases hd
    split at e
    · rename_i c he
      cases e
      rw [← hf]
      unfold nsFind findBy
      rw [← Array.find?_toList, he]
      rfl
    · split at e <;> cases e
  · cases e
section
variable {X : Cx} {CX : CXT} {n : Nat} {C f : Addr} {fd : FuncData} {sp : Sp} {ps : List Str}
def rEqOwn (neg : Bool) (C : Addr) (sp : Sp) : R2 := fun x y H Q => ∃ a b dx dy fs gs, x = .ref a ∧ y = .ref b ∧ H a = some (.ins C dx fs) ∧ H b = some (.ins C dy gs) ∧ sp [.ref a, .ref b] H (fun v H' => ∃ k : Bool, v = .bl k ∧ Q (.bl (if neg then !k else k)) H') E0
theorem run_eq {A : Around} {pins : List (Addr × Obj)} {σ : L2.St} {H : Hp} {s : Shared} {a b : Addr} {R : Value → Shared → Prop} {Q : VK} (F : FnOk X.prog X.w X.K X.mg X.base CX n f fd ps sp) (hb : Binds X.K fd ps []) (hx : Passes CX X E0) (room : Room n A) (fr : A.frames = X.A.frames) (I : Inv X pins σ H s)
    (h : sp [.ref a, .ref b] H Q E0) (k : ∀ v u H' s', Inv X pins σ H' s' → RelV v u → Q v H' → R u s') : wpAny (model X.prog X.w) A (call (.ref f) [.ref a, .ref b]) R X.xe s := by
  have e0 : Env0 X.prog X.w X.K X.mg X.base A X.stack s H := by
    have e := I.env0
    exact ⟨by rw [fr]; exact e.frames, e.mod, e.bs, e.bsz, e.funs, e.frf, e.hok, e.bare⟩
  have hl := F.len _ _ _ _ h
  have r2 : Vals [V.ref a, V.ref b] [Value.ref a, Value.ref b] := .cons rfl (.cons rfl .nil)
  have bd := hb s [.ref a, .ref b] I.kIn (by simpa using hl)
  rw [List.append_nil] at bd
  refine wpAny_call (codeAny_mono (F.run A X.stack s H ⟨[.ref a, .ref b], []⟩ [.ref a, .ref b] [.ref a, .ref b] Q E0 room e0 bd r2 h) fun r s' hq => ?_)
  match r, hq with
  | .error e, hq => exact hx pins σ H s e s' I hq
  | .ok (.ret u), hq =>
    obtain ⟨v, H', J, rv, q⟩ := I.after hq
    exact k v u H' s' J rv q
  | .ok .next, hq => exact hq.elim
  | .ok .brk, hq => exact hq.elim
  | .ok .cont, hq => exact hq.elim
theorem op_eqOwn (S : EqM X.K C f) (F : FnOk X.prog X.w X.K X.mg X.base CX n f fd ps sp) (hb : Binds X.K fd ps []) (hr : Room (n + 2) X.A) (hx : Passes CX X E0) : OpR X (compareOp .Eq) (rEqOwn false C sp) := by
  intro pins s σ H x y v u Q I rx ry h
  obtain ⟨a, b, dx, dy, fs, gs, rfl, rfl, ha, hb2, h⟩ := h
  obtain rfl : v = Value.ref a := rx
  obtain rfl : u = Value.ref b := ry
  obtain ⟨_, J, _⟩ := ins_get I.hok ha
  obtain ⟨_, J2, _⟩ := ins_get I.hok hb2
  obtain ⟨od, J, _⟩ := J.look
  obtain ⟨od2, J2, _⟩ := J2.look
  obtain ⟨m2, hF⟩ := I.fr
  refine PySem.W.cmp_K (op := .Eq) (tb := .ref C) hr.units0 hF I.ok.mod.kin J J2.type (by simp [PySem.W.notFirst]) S.at_ S.isf ?_
  refine run_eq F hb hx (hr.mono (by omega)) rfl I h fun v u H' s' I' rv q => ?_
  obtain ⟨k, rfl, q⟩ := q
  obtain rfl : u = Value.bool k := rv
  exact ⟨.bl k, H', I', rfl, q⟩
theorem op_neOwn (S : EqM X.K C f) (F : FnOk X.prog X.w X.K X.mg X.base CX n f fd ps sp) (hb : Binds X.K fd ps []) (hr : Room (n + 2) X.A) (hx : Passes CX X E0) : OpR X (compareOp .NotEq) (rEqOwn true C sp) := by
  intro pins s σ H x y v u Q I rx ry h
  obtain ⟨a, b, dx, dy, fs, gs, rfl, rfl, ha, hb2, h⟩ := h
  obtain rfl : v = Value.ref a := rx
  obtain rfl : u = Value.ref b := ry
  obtain ⟨_, J, _⟩ := ins_get I.hok ha
  obtain ⟨_, J2, _⟩ := ins_get I.hok hb2
  obtain ⟨nm, q, N, bs, hd, sn, sub, ab, col, dd, k0, k1, k2, k3, k5, nw, lk, ok, e1, e2⟩ := S.cls
  have ns : s.heap.Ns N (s.heap.nsMap N) := .of_isNs (PySem.W.isNs_of_in I.kIn ok)
  obtain ⟨od, J, _⟩ := J.look
  obtain ⟨od2, J2, _⟩ := J2.look
  have fo : ∃ o, s.heap.get? f = some o ∧ o.cls = .type "function" := by
    have t := S.ty
    unfold PySem.W.typeIn at t
    cases lf : X.K.lookup f with
    | none => simp [lf] at t
    | some o =>
      refine ⟨o, I.kIn _ _ lf, ?_⟩
      simp [lf] at t
      exact t
  obtain ⟨ofn, hf1, hf2⟩ := fo
  refine compareOp_ne_ownEq (f := f) PySem.F.cmp_object ⟨_, ofn, nm, q, N, bs, hd, sn, sub, ab, col, dd, k0, k1, k2, k3, k5, nw, _, _, J.at_, J.cls, I.kIn _ _ lk, ns, ns_has I.kIn ns e1, hf1, hf2, PySem.F.cmp_object.mro, PySem.F.cmp_object.eq.lookup, PySem.W.ns_none_of I.kIn ns e2⟩ J2.at_ J2.cls (by have := hr.un; omega) ?_
  refine run_eq F hb hx ((hr.mono (by omega : n + 1 ≤ n + 2)).in1) rfl I h fun v u H' s' I' rv q => ?_
  obtain ⟨k, rfl, q⟩ := q
  obtain rfl : u = Value.bool k := rv
  exact ⟨k, rfl, .bl (!k), H', I', rfl, q⟩
end
structure IsC (K : PySem.W.Frag) (C : Addr) : Prop where
  ha : PySem.W.findIn K (.ref C) "__class__" = some (some (.builtin "object.__class__"))
  hn : PySem.W.specialIn K (.builtin "object.__class__") "__get__" = some (some (.builtin "getset_descriptor.__get__"))
  ht : PySem.W.takesIn K (.builtin "object.__class__") = some true
  hm : PySem.W.mroIn K C (.type "object") = some true
mutual
def noL : D → Bool
  | .lst _ => false | .scr _ => false
  | .tup ds => noLs ds | .dic _ ds => noLs ds | .obj _ _ ds => noLs ds
  | _ => true
def noLs : List D → Bool
  | [] => true
  | d :: ds => noL d && noLs ds
end
section
variable {K : PySem.W.Frag} {F : Hp} {p : Addr} {ws : List V}
theorem sqt_thaw {a : Addr} {xs : List V} (hp : F p = some (.lst ws)) (h : SqT K F a xs) : SqT K (delA p F) a xs := by
  have ne : ∀ o, F a = some o → o ≠ .lst ws → a ≠ p := fun o e n z => by
    subst z
    rw [hp] at e
    cases e
    exact n rfl
  rcases h with (h | ⟨o, h⟩) | h
  · exact .inl (.inl (by rw [delA_ne (ne _ h (by intro z; cases z))]; exact h))
  · exact .inl (.inr ⟨o, by rw [delA_ne (ne _ h (by intro z; cases z))]; exact h⟩)
  · exact .inr h
mutual
theorem Dn.thaw (hp : F p = some (.lst ws)) : ∀ {d : D} {v : V}, noL d = true → Dn K F d v → Dn K (delA p F) d v
  | .non, _, _, h => h
  | .bl _, _, _, h => h
  | .int _, _, _, h => h
  | .str _, _, _, h => h
  | .lst _, _, n, _ => by unfold noL at n; cases n
  | .scr _, _, n, _ => by unfold noL at n; cases n
  | .tup ds, _, n, h => by
    unfold noL at n
    unfold Dn at h ⊢
    obtain ⟨a, xs, e1, h1, h2⟩ := h
    exact ⟨a, xs, e1, sqt_thaw hp h1, DnL.thaw hp n h2⟩
  | .dic ks ds, _, n, h => by
    unfold noL at n
    unfold Dn at h ⊢
    obtain ⟨a, xs, e1, h1, h2, h3⟩ := h
    have ne : a ≠ p := fun z => by rw [z, hp] at h1; cases h1
    exact ⟨a, xs, e1, by rw [delA_ne ne]; exact h1, h2, DnL.thaw hp n h3⟩
  | .obj C ks ds, _, n, h => by
    unfold noL at n
    unfold Dn at h ⊢
    obtain ⟨a, dx, xs, e1, h1, h2, h3, h4⟩ := h
    have ne : a ≠ p := fun z => by rw [z, hp] at h1; cases h1
    have ne2 : dx ≠ p := fun z => by rw [z, hp] at h2; cases h2
    exact ⟨a, dx, xs, e1, by rw [delA_ne ne]; exact h1, by rw [delA_ne ne2]; exact h2, h3, DnL.thaw hp n h4⟩
theorem DnL.thaw (hp : F p = some (.lst ws)) : ∀ {ds : List D} {vs : List V}, noLs ds = true → DnL K F ds vs → DnL K (delA p F) ds vs
  | [], _, _, h => dnl_nil.mpr (dnl_nil.mp h)
  | d :: ds, _, n, h => by
    unfold noLs at n
    obtain ⟨n1, n2⟩ := Bool.and_eq_true_iff.mp n
    obtain ⟨v, r, e, h1, h2⟩ := dnl_cons.mp h
    exact dnl_cons.mpr ⟨v, r, e, Dn.thaw hp n1 h1, DnL.thaw hp n2 h2⟩
end
end
section
variable {K : PySem.W.Frag} {E : L2.St → XK} {Ξ : Xi} {ρ : Rho} {ta tb te : TE} {tl : TA} {i j : Nat} {p : Addr} {ds : List D} {Ψ : D → Prop}
theorem o_eqOwn {neg : Bool} {C : Addr} {P : PP} {ks ks' : List Str} {ds ds' : List D} (h : ∃ Ψ', P [.obj C ks ds, .obj C ks' ds'] Ψ' noT ∧ ∀ d, Ψ' d → ∃ k : Bool, d = .bl k ∧ Ψ (.bl (if neg then !k else k))) : Op2 K (rEqOwn neg C (spP K P)) (.obj C ks ds) (.obj C ks' ds') Ψ := fun F H v w Q e n1 n2 q => by
  obtain ⟨Ψ', h1, h2⟩ := h
  obtain ⟨a, dx, xs, e1, a1, a2, hl, m1⟩ := dn_obj.mp n1
  obtain ⟨b, dy, ys, e2, b1, b2, hl2, m2⟩ := dn_obj.mp n2
  subst e1 e2
  refine ⟨a, b, dx, dy, _, _, rfl, rfl, e _ _ a1, e _ _ b1, [_, _], F, Ψ', noT, h1, e, DnL.cons n1 (DnL.cons n2 DnL.nil), fun d u F' H' hd g n => ?_, fun _ _ _ _ _ z => z.elim⟩
  obtain ⟨k, rfl, hk⟩ := h2 d hd
  exact ⟨k, dn_bl.mp n, q _ _ F' H' hk g (dn_bl.mpr rfl)⟩
theorem ev_isiOwn {C : Addr} {Φ : D → Rho → Prop} (S : IsC K C) (cl : Cls K C) (h : EvS K E Ξ te ρ fun d ρ1 => (∃ ks ds, d = .obj C ks ds) ∧ Φ (.bl true) ρ1) : EvS K E Ξ (tCB (rIsi K) (tCons te (tCons (tC (.ref C)) tNil))) ρ Φ := fun F0 H0 σ F H Q S' e k =>
  h F0 H0 σ F H _ S' e fun d ρ1 v F1 H1 ⟨⟨ks, ds, ed⟩, h1⟩ x1 S1 n1 => by
    subst ed
    obtain ⟨a, dx, xs, e1, a1, _⟩ := dn_obj.mp n1
    subst e1
    exact ⟨.ref a, .ref C, .ref C, .ref C, true, rfl, .own C, .base (.ins (S1.fh _ _ a1) cl S.ha S.hn S.ht S.hm), (by unfold PySem.W.kitOne; rw [if_pos (beq_self_eq_true _)]), k _ ρ1 _ F1 H1 h1 x1 S1 (dn_bl.mpr rfl)⟩
theorem r_par2 {Φ : Out → Prop} (h : EvA K E Ξ tl ρ fun ds ρ1 => ∃ x y, ds = [x, y] ∧ Φ (.nx ((ρ1.set i (.dt x)).set j (.dt y)))) : RunS K E Ξ (tPar i j tl) ρ Φ := fun F0 H0 σ F H D S e k1 k2 k3 k4 =>
  h F0 H0 σ F H _ S e fun ds ρ1 vs F1 H1 ⟨x, y, ed, h1⟩ x1 S1 n1 => by
    subst ed
    obtain ⟨v, r, e1, m1, n2⟩ := dnl_cons.mp n1
    obtain ⟨w, r2, e2, m2, n3⟩ := dnl_cons.mp n2
    rw [e2, dnl_nil.mp n3] at e1
    exact ⟨v, w, e1, k1 _ _ F1 H1 h1 x1 ((S1.putD m1).putD m2)⟩
theorem el_list {Φ : List D → Rho → Prop} (h : EvS K E Ξ te ρ fun d ρ1 => ∃ ds, d = .lst ds ∧ Φ ds ρ1) : EvL K E Ξ (tCB (rListU K) (tCons te tNil)) ρ Φ := fun F0 H0 σ F H Q S e k =>
  h F0 H0 σ F H _ S e fun d ρ1 v F1 H1 ⟨ds, ed, h1⟩ x1 S1 n1 => by
    subst ed
    obtain ⟨a, vs, e1, h2, n2⟩ := dn_lst.mp n1
    exact .inl ⟨a, vs, by rw [e1], .inl (.inl (.inl (S1.fh _ _ h2))), fun q hq => k _ ρ1 q _ F1 _ h1 x1 (S1.grow (Grow.newM S1.fh hq)) (S1.new0 hq) (fresh_F S1.fh hq) (S1.newAd hq) upd_same n2⟩
theorem ev_neO {n m : Nat} {Φ : D → Rho → Prop} (hj : ρ[j]? = some (.ol p ds)) (hn : n ≤ 64) (hm : m ≤ 64) (h : EvS K E Ξ tb ρ fun d ρ1 => ρ1[j]? = some (.ol p ds) ∧ okD n (.lst ds) = true ∧ okD m d = true ∧ Φ (.bl (!deq (.lst ds) d)) ρ1) : EvS K E Ξ (tOp (rNeU K) (tVar j) tb) ρ Φ := fun F0 H0 σ F H Q S e k => by
  obtain ⟨e1, _⟩ := S.own hj
  refine ⟨_, e1, h F0 H0 σ F H _ S e fun d ρ1 w F1 H1 ⟨h1, o1, o2, h2⟩ x1 S1 n1 => ?_⟩
  obtain ⟨_, _, f1, vs, h5, n5⟩ := S1.own h1
  have x : Ex F1 (upd F1 p (.lst vs)) := Ex.new f1
  have y : Ex (upd F1 p (.lst vs)) H1 := fun a o ha => by
    unfold upd at ha
    split at ha
    · rename_i c
      rw [c, h5]
      exact ha
    · exact S1.fh a o ha
  have dn : Dn K (upd F1 p (.lst vs)) (.lst ds) (.ref p) := dn_lst.mpr ⟨p, vs, rfl, upd_same, n5.mono x⟩
  exact .inr ⟨_, _, dn_dp n _ _ o1 (dn.mono y), dn_dp m _ w o2 (n1.mono S1.fh), okD_shaped o1 hn, okD_shaped o2 hm, k _ ρ1 _ F1 H1 h2 x1 S1 (dn_bl.mpr rfl)⟩
theorem r_clear {Φ : Out → Prop} (hj : ρ[j]? = some (.ol p ds)) (h : Φ (.nx (ρ.set j (.ol p [])))) : RunS K E Ξ (tDrop (tBM0 K "list" rClear (tVar j))) ρ Φ := fun F0 H0 σ F H D S e k1 k2 k3 k4 => by
  obtain ⟨e1, _, _, vs, e4, n4⟩ := S.own hj
  exact ⟨.ref p, e1, .inl ⟨rfl, vs, .inl (.inl e4)⟩, p, vs, rfl, rfl, e4, k1 _ _ F _ h (Ex.refl F) (S.chg hj .nil)⟩
theorem ev_thaw {Φ : D → Rho → Prop} {P : PP} (h : EvS K E Ξ ta ρ fun x ρ1 => ρ1[j]? = some (.ol p ds) ∧ ∃ Ψ, P [x, .lst ds] Ψ noT ∧ ∀ d, Ψ d → noL d = true ∧ Φ d ρ1) : EvS K E Ξ (tCallSD (spP K P) [] E (tCons ta (tCons (tVar j) tNil))) ρ Φ := fun F0 H0 σ F H Q S e k =>
  h F0 H0 σ F H _ S e fun x ρ1 v F1 H1 ⟨h1, Ψ, h2, h3⟩ x1 S1 n1 => by
    obtain ⟨e1, _, f1, vs, h5, n5⟩ := S1.own h1
    have xx : Ex F1 (upd F1 p (.lst vs)) := Ex.new f1
    have yy : Ex (upd F1 p (.lst vs)) H1 := fun a o ha => by
      unfold upd at ha
      split at ha
      · rename_i c
        rw [c, h5]
        exact ha
      · exact S1.fh a o ha
    have dn : Dn K (upd F1 p (.lst vs)) (.lst ds) (.ref p) := dn_lst.mpr ⟨p, vs, rfl, upd_same, n5.mono xx⟩
    refine ⟨_, e1, [x, .lst ds], upd F1 p (.lst vs), Ψ, noT, h2, yy, DnL.cons (n1.mono xx) (DnL.cons dn DnL.nil), fun d u F2 H2 hd g n => ?_, fun _ _ _ _ _ z => z.elim⟩
    obtain ⟨q1, q2⟩ := h3 d hd
    have hp : F2 p = some (.lst vs) := g.ff _ _ upd_same
    have gr : Grow F1 H1 (delA p F2) H2 := by
      refine ⟨fun a o ha => ?_, g.hh, fun a o ha => g.fh a o (delA_some ha), fun a n1 n2 => ?_⟩
      · have ne : a ≠ p := fun z => by rw [z, f1] at ha; cases ha
        rw [delA_ne ne]
        exact g.ff a o (by rw [upd_ne ne]; exact ha)
      · by_cases c : a = p
        · rw [c]; exact delA_same
        · rw [delA_ne c]
          exact g.nw a n1 (by rw [upd_ne c]; exact n2)
    exact k d ρ1 u (delA p F2) H2 q2 (x1.trans gr.ff) (S1.grow gr) (Dn.thaw hp q1 n)
end
theorem slK {X : Cx} (r : PySem.W.Frag → V → Option Int → Option Int → Hp → VK → Prop) (K : PySem.W.Frag) (h : SlR X (r X.K)) (e : X.K = K) : SlR X (r K) := by subst e; exact h
end Z

namespace Lw
open PySem PySem.Spec PyProof.Rows L2 Evl Z
theorem ltS_same (a b : Str) : ltS a b = ltS' a b := rfl
theorem leD_way {a b : Str × Int} (h : leD (wayD a) (wayD b) = true) (n : a.1 ≠ b.1) : ltS' a.1 b.1 = true := by
  have e : leD (wayD a) (wayD b) = !PyProof.Rows.lexLt itemOrd (PySem.W.keyToks (py (wayD b))) (PySem.W.keyToks (py (wayD a))) := rfl
  have k : ∀ p : Str × Int, PySem.W.keyToks (py (wayD p)) = [.inl 1, .inr p.1.cps.toList, .inl 1, .inl p.2, .inl 0] := fun p => by
    simp [wayD, py, pyL, PySem.W.keyToks, PySem.W.keyToksAll]
  rw [e, k, k, Bool.not_eq_true'] at h
  unfold PyProof.Rows.lexLt at h
  have h1 : itemOrd.blt (Sum.inl (1 : Int)) (Sum.inl 1) = false := by decide
  rw [h1, Bool.false_or, Bool.not_false, Bool.true_and] at h
  unfold PyProof.Rows.lexLt at h
  have h2 := (Bool.or_eq_false_iff.mp h).1
  have h3 : ltS' b.1 a.1 = false := h2
  cases c : ltS' a.1 b.1 with
  | true => rfl
  | false =>
    have e : a.1.cps.toList = b.1.cps.toList := strKind.total a.1.cps.toList b.1.cps.toList c h3
    exact absurd (TL.ext_tl e) n
theorem ltS_irr (a : Str) : ltS' a a = false := strKind.irrefl a.cps.toList
theorem ltS_trans {a b c : Str} (h1 : ltS' a b = true) (h2 : ltS' b c = true) : ltS' a c = true := strKind.trans _ _ _ h1 h2
theorem asc_eq {α : Type} {R : α → α → Prop} (irr : ∀ a, ¬ R a a) (tr : ∀ a b c, R a b → R b c → R a c) : ∀ {l m : List α}, l.Pairwise R → m.Pairwise R → (∀ x, x ∈ l ↔ x ∈ m) → l = m
  | [], [], _, _, _ => rfl
  | [], b :: m, _, _, h => absurd ((h b).mpr List.mem_cons_self) List.not_mem_nil
  | a :: l, [], _, _, h => absurd ((h a).mp List.mem_cons_self) List.not_mem_nil
  | a :: l, b :: m, hl, hm, h => by
    obtain ⟨l1, l2⟩ := List.pairwise_cons.mp hl
    obtain ⟨m1, m2⟩ := List.pairwise_cons.mp hm
    have e : a = b := by
      rcases List.mem_cons.mp ((h a).mp List.mem_cons_self) with e | ha
      · exact e
      · rcases List.mem_cons.mp ((h b).mpr List.mem_cons_self) with e | hb
        · exact e.symm
        · exact absurd (tr _ _ _ (m1 a ha) (l1 b hb)) (irr b)
    subst e
    have : l = m := asc_eq irr tr l2 m2 fun x => by
      constructor
      · intro hx
        rcases List.mem_cons.mp ((h x).mp (List.mem_cons_of_mem _ hx)) with e | hx2
        · exact absurd (e ▸ l1 x hx) (irr a)
        · exact hx2
      · intro hx
        rcases List.mem_cons.mp ((h x).mpr (List.mem_cons_of_mem _ hx)) with e | hx2
        · exact absurd (e ▸ m1 x hx) (irr a)
        · exact hx2
    rw [this]
def backR (rows : List RowM) (name : Str) : List (Str × Int) := rows.flatMap fun o => (o.ways.filter fun q => q.1 == name).map fun q => (o.name, q.2)
theorem zip_rows (rows : List RowM) : (siteOf rows).names.zip (siteOf rows).ways = rows.map fun o => (o.name, o.ways) := by
  unfold siteOf
  induction rows with
  | nil => rfl
  | cons r t ih => simp only [List.map_cons, List.zip_cons_cons]; rw [ih]
theorem zip_stay (rows : List RowM) : (siteOf rows).names.zip (siteOf rows).stays = rows.map fun o => (o.name, o.stay) := by
  unfold siteOf
  induction rows with
  | nil => rfl
  | cons r t ih => simp only [List.map_cons, List.zip_cons_cons]; rw [ih]
theorem backM_rows (rows : List RowM) (name : Str) : backM (siteOf rows) name = sortW (backR rows name) := by
  unfold backM backRaw backR
  rw [List.take_length, zip_rows, List.flatMap_map]
theorem backM_perm (rows : List RowM) (name : Str) : (backM (siteOf rows) name).Perm (backR rows name) := by
  rw [backM_rows]
  exact List.mergeSort_perm _ _
theorem mem_backR {rows : List RowM} {name e : Str} {s : Int} : (e, s) ∈ backR rows name ↔ ∃ o ∈ rows, o.name = e ∧ (name, s) ∈ o.ways := by
  unfold backR
  rw [List.mem_flatMap]
  constructor
  · rintro ⟨o, ho, h⟩
    obtain ⟨q, hq, eq⟩ := List.mem_map.mp h
    obtain ⟨h1, h2⟩ := List.mem_filter.mp hq
    have h2 := beq_iff_eq.mp h2
    refine ⟨o, ho, (Prod.mk.inj eq).1, ?_⟩
    rw [← h2, ← (Prod.mk.inj eq).2]
    exact h1
  · rintro ⟨o, ho, rfl, h⟩
    exact ⟨o, ho, List.mem_map.mpr ⟨(name, s), List.mem_filter.mpr ⟨h, beq_self_eq_true _⟩, rfl⟩⟩
theorem one_way {l : List (Str × Int)} {name : Str} (h : (l.map (·.1)).Pairwise fun a b => ltS a b = true) : (l.filter fun q => q.1 == name).length ≤ 1 := by
  have h2 : (l.filter fun q => q.1 == name).Pairwise fun a b => ltS a.1 b.1 = true := (List.pairwise_map.mp h).sublist List.filter_sublist
  generalize hL : l.filter (fun q => q.1 == name) = L at h2 ⊢
  rcases L with _ | ⟨a, _ | ⟨b, r⟩⟩
  · exact Nat.zero_le _
  · exact Nat.le_refl _
  · have ha : a ∈ l.filter (fun q => q.1 == name) := by rw [hL]; exact List.mem_cons_self
    have hb : b ∈ l.filter (fun q => q.1 == name) := by rw [hL]; exact List.mem_cons_of_mem _ List.mem_cons_self
    have ea := beq_iff_eq.mp (List.mem_filter.mp ha).2
    have eb := beq_iff_eq.mp (List.mem_filter.mp hb).2
    have q := (List.pairwise_cons.mp h2).1 b List.mem_cons_self
    rw [ea, eb, ltS_same, ltS_irr] at q
    cases q
theorem back_sub {rows : List RowM} {name : Str} (h : ∀ r ∈ rows, (r.ways.map (·.1)).Pairwise fun a b => ltS a b = true) : ((backR rows name).map (·.1)).Sublist (rows.map (·.name)) := by
  induction rows with
  | nil => exact List.Sublist.refl _
  | cons r t ih =>
    have i := ih fun q hq => h q (List.mem_cons_of_mem _ hq)
    have o := one_way (name := name) (h r List.mem_cons_self)
    unfold backR at i ⊢
    rw [List.flatMap_cons, List.map_append, List.map_map, List.map_cons]
    generalize r.ways.filter (fun q => q.1 == name) = L at o ⊢
    rcases L with _ | ⟨a, _ | ⟨b, c⟩⟩
    · rw [List.map_nil, List.nil_append]; exact i.cons _
    · exact i.cons₂ _
    · simp at o
theorem sortW_asc {l : List (Str × Int)} (nd : (l.map (·.1)).Nodup) : ((sortW l).map (·.1)).Pairwise fun a b => ltS a b = true := by
  rw [List.pairwise_map]
  have h1 : (sortW l).Pairwise fun a b => leW a b = true := List.pairwise_mergeSort leW_total.trans (fun a b => by rw [Bool.or_eq_true]; exact leW_total.total a b) l
  have p : (sortW l).Perm l := List.mergeSort_perm _ _
  have nd2 : ((sortW l).map (·.1)).Nodup := (p.map (·.1)).nodup_iff.mpr nd
  have h2 : (sortW l).Pairwise fun a b => a.1 ≠ b.1 := List.pairwise_map.mp nd2
  exact (h1.and h2).imp fun {a b} ⟨q1, q2⟩ => leD_way q1 q2
def backRows (rows : List RowM) : List RowM := rows.map fun r => ⟨r.name, r.limit, r.stay, backM (siteOf rows) r.name⟩
theorem back_names (rows : List RowM) : (backRows rows).map (·.name) = rows.map (·.name) := by unfold backRows; rw [List.map_map]; rfl
theorem asc_all' {rows : List RowM} (g : GoodRs rows) : ∀ r ∈ rows, (r.ways.map (·.1)).Pairwise fun a b => ltS a b = true := fun r hr => (g.all r hr).asc
theorem back_nd {rows : List RowM} (g : GoodRs rows) (name : Str) : ((backR rows name).map (·.1)).Nodup := g.nd.sublist (back_sub (asc_all' g))
theorem back_few {rows : List RowM} (g : GoodRs rows) (name : Str) : (backR rows name).length ≤ 6 := by
  have := (back_sub (name := name) (asc_all' g)).length_le
  rw [List.length_map, List.length_map] at this
  have := g.few
  omega
theorem backM_asc {rows : List RowM} (g : GoodRs rows) (name : Str) : ((backM (siteOf rows) name).map (·.1)).Pairwise fun a b => ltS a b = true := by
  rw [backM_rows]
  exact sortW_asc (back_nd g name)
theorem mem_backM {rows : List RowM} {name e : Str} {s : Int} : (e, s) ∈ backM (siteOf rows) name ↔ ∃ o ∈ rows, o.name = e ∧ (name, s) ∈ o.ways := (backM_perm rows name).mem_iff.trans mem_backR
theorem back_good {rows : List RowM} (g : GoodRs rows) (h : ∀ r ∈ rows, backM (siteOf rows) r.name = [] → r.stay = true) : GoodRs (backRows rows) := by
  refine ⟨fun e => g.ne (List.map_eq_nil_iff.mp e), by unfold backRows; rw [List.length_map]; exact g.few, by rw [back_names]; exact g.nd, fun r hr => ?_⟩
  rw [back_names]
  obtain ⟨q, hq, rfl⟩ := List.mem_map.mp hr
  have gq := g.all q hq
  refine ⟨gq.nm, gq.l0, gq.l9, h q hq, ?_, backM_asc g q.name, fun p hp => ?_⟩
  · show (backM (siteOf rows) q.name).length ≤ 6
    rw [(backM_perm rows q.name).length_eq]
    exact back_few g q.name
  · obtain ⟨o, ho, e, hw⟩ := mem_backM.mp (show (p.1, p.2) ∈ _ from hp)
    have go := g.all o ho
    obtain ⟨w1, w2, w3, w4, w5⟩ := go.way (q.name, p.2) hw
    refine ⟨by rw [← e]; exact List.mem_map_of_mem ho, fun z => w2 ?_, by rw [← e]; exact go.nm, w4, w5⟩
    show q.name = o.name
    exact (e.trans z).symm
theorem uniq {rows : List RowM} (g : GoodRs rows) {a b : RowM} (ha : a ∈ rows) (hb : b ∈ rows) (e : a.name = b.name) : a = b := by
  have nd := g.nd
  clear g
  induction rows with
  | nil => cases ha
  | cons r t ih =>
    obtain ⟨n1, n2⟩ := List.nodup_cons.mp nd
    rcases List.mem_cons.mp ha with rfl | ha1
    · rcases List.mem_cons.mp hb with rfl | hb
      · rfl
      · have z : b.name ∈ t.map (·.name) := List.mem_map_of_mem hb
        rw [← e] at z
        exact absurd z n1
    · rcases List.mem_cons.mp hb with rfl | hb
      · have z : a.name ∈ t.map (·.name) := List.mem_map_of_mem ha1
        rw [e] at z
        exact absurd z n1
      · exact ih ha1 hb n2
theorem pair_asc {l : List (Str × Int)} (h : (l.map (·.1)).Pairwise fun a b => ltS a b = true) : l.Pairwise fun a b => ltS a.1 b.1 = true := List.pairwise_map.mp h
theorem back_back {rows : List RowM} (g : GoodRs rows) (g2 : GoodRs (backRows rows)) {r : RowM} (hr : r ∈ rows) : backM (siteOf (backRows rows)) r.name = r.ways := by
  refine asc_eq (R := fun a b : Str × Int => ltS a.1 b.1 = true) (fun a h => by rw [ltS_same, ltS_irr] at h; cases h) (fun a b c h1 h2 => ltS_trans h1 h2) (pair_asc (backM_asc g2 r.name)) (pair_asc (g.all r hr).asc) fun p => ?_
  obtain ⟨e, s⟩ := p
  rw [mem_backM]
  constructor
  · rintro ⟨o, ho, rfl, hw⟩
    obtain ⟨q, hq, rfl⟩ := List.mem_map.mp ho
    obtain ⟨t, ht, et, hw2⟩ := mem_backM.mp hw
    have := uniq g ht hr et
    subst this
    exact hw2
  · intro hw
    obtain ⟨w1, _⟩ := (g.all r hr).way (e, s) hw
    obtain ⟨o, ho, eo⟩ := List.mem_map.mp w1
    refine ⟨⟨o.name, o.limit, o.stay, backM (siteOf rows) o.name⟩, List.mem_map.mpr ⟨o, ho, rfl⟩, eo, ?_⟩
    refine mem_backM.mpr ⟨r, hr, rfl, ?_⟩
    show (o.name, s) ∈ r.ways
    rw [show o.name = e from eo]
    exact hw
theorem goT_ok (s : SiteM) : ∀ (l : List (Str × Bool)) (acc : List (List (Str × Int))), (∀ p ∈ l, backM s p.1 = [] → p.2 = true) → goT s acc l = .ok (acc ++ l.map fun p => backM s p.1)
  | [], acc, _ => by unfold goT; rw [List.map_nil, List.append_nil]
  | p :: l, acc, h => by
    unfold goT
    have c : (!p.2 && (backM s p.1).isEmpty) = false := by
      cases e : p.2 with
      | true => rfl
      | false =>
        have : backM s p.1 ≠ [] := fun z => by rw [h p List.mem_cons_self z] at e; cases e
        simpa using this
    rw [c, if_neg (by decide), goT_ok s l _ fun q hq => h q (List.mem_cons_of_mem _ hq), List.map_cons, List.append_assoc]
    rfl
theorem turn_ok {rows : List RowM} (h : ∀ r ∈ rows, backM (siteOf rows) r.name = [] → r.stay = true) : turnedM (siteOf rows) = .ok (siteOf (backRows rows)) := by
  unfold turnedM
  rw [zip_stay, goT_ok _ _ _ (fun p hp => by obtain ⟨r, hr, rfl⟩ := List.mem_map.mp hp; exact h r hr)]
  unfold siteOf backRows
  simp only [List.map_map, List.nil_append]
  rfl
theorem ok_stay (s : SiteM) : ∀ (l : List (Str × Bool)) (acc w : List (List (Str × Int))), goT s acc l = .ok w → ∀ p ∈ l, backM s p.1 = [] → p.2 = true
  | [], _, _, _, p, hp, _ => by cases hp
  | q :: l, acc, w, h, p, hp, hb => by
    unfold goT at h
    split at h
    · cases h
    · rename_i c
      rcases List.mem_cons.mp hp with rfl | hp
      · cases e : p.2 with
        | true => rfl
        | false => rw [e, hb] at c; exact absurd rfl c
      · exact ok_stay s l _ w h p hp hb
theorem turn_stay {rows : List RowM} {s : SiteM} (h : turnedM (siteOf rows) = .ok s) : ∀ r ∈ rows, backM (siteOf rows) r.name = [] → r.stay = true := by
  unfold turnedM at h
  rw [zip_stay] at h
  cases e : goT (siteOf rows) [] (rows.map fun o => (o.name, o.stay)) with
  | error n => rw [e] at h; cases h
  | ok w =>
    intro r hr hb
    exact ok_stay _ _ _ w e (r.name, r.stay) (List.mem_map.mpr ⟨r, hr, rfl⟩) hb
theorem turn_turn {rows : List RowM} (g : GoodRs rows) (g2 : GoodRs (backRows rows)) : turnedM (siteOf (backRows rows)) = .ok (siteOf rows) := by
  have e : backRows (backRows rows) = rows := by
    have e1 : backRows (backRows rows) = rows.map fun r => ⟨r.name, r.limit, r.stay, backM (siteOf (backRows rows)) r.name⟩ := by
      generalize hB : backRows rows = B
      unfold backRows
      conv => lhs; rw [← hB]; unfold backRows; rw [List.map_map]
      rw [← hB]
      rfl
    rw [e1]
    conv => rhs; rw [← List.map_id rows]
    refine List.map_congr_left fun r hr => ?_
    rw [back_back g g2 hr]
    rfl
  have := turn_ok (rows := backRows rows) fun r hr hb => by
    obtain ⟨q, hq, rfl⟩ := List.mem_map.mp hr
    have := back_back g g2 hq
    exact (g.all q hq).st (this.symm.trans hb)
  rw [e] at this
  exact this
theorem fine_back {rows : List RowM} (g : GoodRs rows) : fineBack (siteOf rows) = true := by
  unfold fineBack siteOf
  simp only [Bool.and_eq_true, decide_eq_true_eq, List.length_map, List.all_eq_true]
  have := g.few
  refine ⟨⟨by omega, fun w hw => ?_⟩, fun z hz => ?_⟩
  · obtain ⟨r, hr, rfl⟩ := List.mem_map.mp hw
    have := (g.all r hr).few
    exact (by omega)
  · obtain ⟨r, hr, rfl⟩ := List.mem_map.mp hz
    exact low_ok (name_low (g.all r hr).nm).1
end Lw

namespace Z
open PySem PySem.Spec PyProof.Rows L2 Evl
def rNeDD (K : PySem.W.Frag) : R2 := fun x y H Q => ∃ (a b : Addr) (ks ls : List (Key × V)), x = .ref a ∧ y = .ref b ∧ H a = some (.dK ks) ∧ H b = some (.dK ls) ∧ ks.length = ls.length ∧
  (∀ p ∈ ks, ∃ (u : V) (d e : PyData), valV ls p.1 = some u ∧ Dp K H p.2 d ∧ Dp K H u e ∧ d.canLay0 = true ∧ e.canLay0 = true ∧ d.depth ≤ 32 ∧ d.eqv e = true) ∧ Q (.bl false) H
theorem val_at {ls : List (Key × V)} {vb : List (Key × Value)} (r : KV ls vb) {k : Key} {u : V} (h : valV ls k = some u) : ∃ w, valueAt vb k = some w ∧ L2.RelV u w := by
  unfold KV at r
  induction r with
  | nil => cases h
  | cons pq tl0 ih =>
    rename_i p q ps qs
    obtain ⟨e1, e2⟩ := pq
    unfold valueAt
    rw [List.find?_cons]
    by_cases c : p.1 = k
    · rw [valV_pos c] at h
      cases h
      rw [← e1, decide_eq_true c]
      exact ⟨_, rfl, e2⟩
    · rw [valV_neg c] at h
      rw [← e1, decide_eq_false c]
      exact ih h
theorem hits_dd {X : Cx} {pins : List (Addr × Obj)} {σ : L2.St} {H : Hp} {s : Shared} (I : L2.Inv X pins σ H s) {A : Around} (hu : A.units + 33 < cLine) {ls : List (Key × V)} {vb : List (Key × Value)} (rb : KV ls vb) :
    ∀ {ks : List (Key × V)} {va : List (Key × Value)}, KV ks va → (∀ p ∈ ks, ∃ (u : V) (d e : PyData), valV ls p.1 = some u ∧ Dp X.K H p.2 d ∧ Dp X.K H u e ∧ d.canLay0 = true ∧ e.canLay0 = true ∧ d.depth ≤ 32 ∧ d.eqv e = true) → PySem.W.KeqHits A s vb va true := by
  intro ks va r
  unfold KV at r
  induction r with
  | nil => intro _; exact .nil
  | cons pq tl0 ih =>
    rename_i p q ps qs
    intro hh
    obtain ⟨e1, e2⟩ := pq
    obtain ⟨u, d, e, h1, h2, h3, h4, h5, h6, h7⟩ := hh p List.mem_cons_self
    obtain ⟨w, h8, h9⟩ := val_at rb h1
    obtain ⟨as, r1⟩ := Dp.reads I d _ _ h2 e2
    obtain ⟨bs, r2⟩ := Dp.reads I e _ _ h3 h9
    have E := SeqAt.eqAt_reads d e A s _ _ as bs r1 r2 h4 h5 (by have := Nat.min_le_left d.depth e.depth; omega)
    rw [h7] at E
    have := PySem.W.KeqHits.hit (k := q.1) (by rw [← e1]; exact h8) E (ih fun p hp => hh p (List.mem_cons_of_mem _ hp))
    rwa [Bool.and_self] at this
theorem op_neDD {X : Cx} (hu : X.A.units + 64 < cLine) : OpR X (compareOp .NotEq) (rNeDD X.K) := by
  intro pins s σ H x y v u Q I rx ry h
  obtain ⟨a, b, ks, ls, rfl, rfl, ea, eb, hlen, hp, q⟩ := h
  obtain rfl : v = Value.ref a := rx
  obtain rfl : u = Value.ref b := ry
  obtain ⟨_, ya, va, ra, da⟩ := I.hok a _ ea
  obtain ⟨_, yb, vb, rb, db⟩ := I.hok b _ eb
  have hl : va.length = vb.length := by rw [← KV.length ra, ← KV.length rb]; exact hlen
  refine PySem.W.keq_ne (r := true) ya yb da db (by omega) (fun _ => hits_dd I (by show X.A.in1.units + 33 < cLine; have : X.A.in1.units = X.A.units + 1 := rfl; omega) rb ra hp) ?_
  rw [hl]
  simp only [BEq.rfl, Bool.and_self, Bool.not_true]
  exact ⟨.bl false, H, I, rfl, q⟩
section
variable {K : PySem.W.Frag} {E : L2.St → XK} {Ξ : Xi} {ρ : Rho} {i : Nat} {p : Addr} {ds : List D}
theorem o_neDic {n : Nat} {Ψ : D → Prop} {ks ls : List Str} {ds es : List D} (hl : ks.length = ls.length) (hk : ∀ (i : Nat) (k : Str) (d : D), ks[i]? = some k → ds[i]? = some d → okD n d = true ∧ ∃ e, findK ls es k = some e ∧ okD n e = true ∧ deq d e = true) (h : Ψ (.bl false)) (hn : n ≤ 32 := by decide) : Op2 K (rNeDD K) (.dic ks ds) (.dic ls es) Ψ := fun F H v w Q e a b q => by
  obtain ⟨a1, xs, rfl, f1, l1, n1⟩ := dn_dic.mp a
  obtain ⟨a2, ys, rfl, f2, l2, n2⟩ := dn_dic.mp b
  refine ⟨a1, a2, _, _, rfl, rfl, e _ _ f1, e _ _ f2, by rw [kv_len n1 l1, kv_len n2 l2]; exact hl, fun pr hpr => ?_, q _ _ F H h (Grow.refl e) (dn_bl.mpr rfl)⟩
  obtain ⟨i, hi⟩ := List.getElem?_of_mem hpr
  unfold kvZ at hi
  obtain ⟨h1, h2⟩ := List.getElem?_zip_eq_some.mp hi
  rw [List.getElem?_map] at h1
  cases hk1 : ks[i]? with
  | none => rw [hk1] at h1; cases h1
  | some k =>
    rw [hk1] at h1
    have h1 : (Sum.inr k : Key) = pr.1 := Option.some.inj h1
    obtain ⟨d, hd, nd⟩ := n1.get' h2
    obtain ⟨o1, e1, fe, o2, de⟩ := hk i k d hk1 hd
    have z := val_dn (f := k) n2 l2
    cases hv : valV (kvZ ls ys) (Sum.inr k : Key) with
    | none => rw [(z.1).mp hv] at fe; cases fe
    | some u =>
      obtain ⟨d2, q1, q2⟩ := z.2 u hv
      rw [fe] at q1
      cases q1
      have la := okD_lay n d o1
      exact ⟨u, py d, py e1, by rw [← h1]; exact hv, dn_dp n d _ o1 (nd.mono e), dn_dp n e1 _ o2 (q2.mono e), la.1, (okD_lay n e1 o2).1, Nat.le_trans la.2 hn, de⟩
theorem Sd.frzD {ks : List Str} {F0 H0 F H : Hp} {σ : L2.St} (S : Sd K F0 H0 ρ σ F H) (h : ρ[i]? = some (.od p ks ds)) : ∃ F', Ex F F' ∧ Sd K F0 H0 (ρ.set i (.dt (.dic ks ds))) σ F' H ∧ Dn K F' (.dic ks ds) (.ref p) := by
  obtain ⟨e1, e2, e3, vs, e4, hlen, q⟩ := S.ownD h
  have hl : i < ρ.length := (List.getElem?_eq_some_iff.mp h).1
  have x : Ex F (upd F p (.dK (kvZ ks vs))) := Ex.new e3
  have dn : Dn K (upd F p (.dK (kvZ ks vs))) (.dic ks ds) (.ref p) := dn_dic.mpr ⟨p, vs, rfl, upd_same, hlen, q.mono x⟩
  refine ⟨upd F p (.dK (kvZ ks vs)), x, ⟨⟨S.g.ff.trans x, S.g.hh, fun a o ha => ?_, fun a h1 h2 => ?_⟩, by rw [List.length_set, S.len], fun j t hj => ?_, fun j k t u r h1 h2 h3 h4 => ?_⟩, dn⟩
  · unfold upd at ha
    split at ha
    · rename_i c
      rw [c, e4]
      exact ha
    · exact S.g.fh a o ha
  · have : a ≠ p := fun z => h1 (z ▸ e2)
    rw [upd_ne this]
    exact S.g.nw a h1 h2
  · by_cases e : i = j
    · subst e
      rw [List.getElem?_set_self hl] at hj
      cases hj
      exact ⟨.ref p, by rw [e1] <;> rfl, dn⟩
    · rw [get_set_ne e] at hj
      have z := S.sl j t hj
      have nad : ∀ r, t.ad = some r → r ≠ p := fun r hr c => e (S.dj i j _ t p h hj rfl (by rw [hr, c]))
      cases t with
      | un => trivial
      | dt d => obtain ⟨v, a, b⟩ := z; exact ⟨v, a, b.mono x⟩
      | ol r rs => obtain ⟨a, b, c, ws, y1, y2⟩ := z; exact ⟨a, b, by rw [upd_ne (nad r rfl)]; exact c, ws, y1, y2.mono x⟩
      | od r kk rs => obtain ⟨a, b, c, ws, y1, y2, y3⟩ := z; exact ⟨a, b, by rw [upd_ne (nad r rfl)]; exact c, ws, y1, y2, y3.mono x⟩
  · have back : ∀ (j : Nat) (t : Slot), (ρ.set i (.dt (.dic ks ds)))[j]? = some t → t.ad = some r → ρ[j]? = some t := fun j t hj ha => by
      by_cases e : i = j
      · subst e
        rw [List.getElem?_set_self hl] at hj
        cases hj
        cases ha
      · rw [get_set_ne e] at hj
        exact hj
    exact S.dj j k t u r (back j t h1 h3) (back k u h2 h4) h3 h4
theorem ev_frzD {ks : List Str} {Φ : D → Rho → Prop} (h : ρ[i]? = some (.od p ks ds)) (k : Φ (.dic ks ds) (ρ.set i (.dt (.dic ks ds)))) : EvS K E Ξ (tVar i) ρ Φ := fun F0 H0 σ F H Q S _ q => by
  obtain ⟨F', x, S', n⟩ := S.frzD h
  exact ⟨_, (S.ownD h).1, q _ _ _ F' H k x S' n⟩
end
end Z

namespace Lw
open PySem PySem.Spec PyProof.Rows L2 Evl Z
def leftAt (nm : Str) : Nat → List RowM → Option Nat
  | _, [] => none
  | n, r :: rs => if r.ways.any (fun p => p.1 == nm) then some n else leftAt nm (n + 1) rs
theorem place_bad {ns firsts : List Str} {r : RowM} (g : GoodR ns r) {p : Str × Int} (hp : p ∈ r.ways) (hf : firsts.contains p.1 = false) : placeM (wordsOf r) firsts = none := by
  have d := dig g.l0 g.l9
  have h3 := (words_few g).1
  have e0 : (wordsOf r).getD 0 "" = r.name := rfl
  have e1 : (wordsOf r).getD 1 "" = intS r.limit := rfl
  have e2 : ((wordsOf r).getD 2 "" == "stay") = r.stay := by
    unfold wordsOf
    cases hs : r.stay with
    | true => show (("stay" : Str) == "stay") = true; decide +kernel
    | false =>
      have hn : r.ways ≠ [] := fun e => by rw [g.st e] at hs; cases hs
      unfold tailWords
      have hn2 : ¬ (r.ways.isEmpty = true) := by simpa using hn
      rw [if_neg hn2]
      have q : (("->" : Str) == "stay") = false := by decide +kernel
      exact q
  have e3 : restM (wordsOf r) = tailWords r.ways := by
    unfold restM
    rw [e2]
    unfold wordsOf
    cases r.stay <;> rfl
  have hw : r.ways ≠ [] := fun e => by rw [e] at hp; cases hp
  have et : tailWords r.ways = ("->" : Str) :: wayWords r.ways := by
    unfold tailWords
    rw [if_neg (by simpa using hw)]
  have ea : areWaysM r.name (("->" : Str) :: wayWords r.ways) firsts = false := by
    unfold areWaysM
    split
    · rfl
    · rw [odd_words _ g.few]
      have : (r.ways.map (·.1)).all (fun e => e != r.name && firsts.contains e && isNameM e) = false := by
        rw [List.all_eq_false]
        exact ⟨p.1, List.mem_map_of_mem hp, by rw [hf]; simp⟩
      rw [this]
      rfl
  unfold placeM
  rw [e0, e1, e2, e3, g.nm, d.1, et, ea]
  have c : decide ((wordsOf r).length < 3) = false := decide_eq_false (by omega)
  rw [c]
  rfl
theorem rows_back' {ns : List Str} {rows : List RowM} (h0 : rows ≠ []) (h : ∀ r ∈ rows, GoodR ns r) : rowsM (textM rows) = rows.map wordsOf := by
  have := rowsM_join (rows := rows.map wordsOf) (by simpa using h0) (fun r hr => by
    obtain ⟨q, hq, rfl⟩ := List.mem_map.mp hr
    intro e
    have := (words_few (h q hq)).1
    rw [e] at this
    exact absurd this (by decide)) (fun r hr w hw => by
    obtain ⟨q, hq, rfl⟩ := List.mem_map.mp hr
    exact (words_clean (h q hq) w hw).1)
  rw [List.map_map] at this
  exact this
theorem go_left {ns firsts : List Str} {nm : Str} (hf : ∀ n ∈ ns, n ≠ nm → firsts.contains n = true) (hb : firsts.contains nm = false) : ∀ (rows : List RowM) (n : Nat) (seen : List Str) (acc : List PlaceM), n + rows.length ≤ 6 → (rows.map (·.name)).Nodup → (∀ r ∈ rows, GoodR ns r ∧ r.name ∉ seen) →
    goM firsts n seen acc (rows.map wordsOf) = match leftAt nm n rows with
      | some k => .error k
      | none => .ok (acc ++ rows.map placeOf)
  | [], n, seen, acc, _, _, _ => by
    show Except.ok acc = _
    unfold leftAt
    rw [List.map_nil, List.append_nil]
  | r :: rows, n, seen, acc, hn, nd, h => by
    obtain ⟨n1, n2⟩ := List.nodup_cons.mp nd
    obtain ⟨g, hs⟩ := h r List.mem_cons_self
    rw [List.length_cons] at hn
    have c1 : decide (6 ≤ n) = false := decide_eq_false (by omega)
    have c2 : seen.contains ((wordsOf r).getD 0 "") = false := by
      show seen.contains r.name = false
      simpa using hs
    rw [List.map_cons]
    unfold goM leftAt
    rw [c1]
    by_cases c : r.ways.any (fun p => p.1 == nm) = true
    · obtain ⟨p, hp, e⟩ := List.any_eq_true.mp c
      rw [place_bad g hp (by rw [beq_iff_eq.mp e]; exact hb), if_pos c]
      rfl
    · have hne : ∀ p ∈ r.ways, p.1 ≠ nm := fun p hp e => c (List.any_eq_true.mpr ⟨p, hp, by rw [e]; exact beq_self_eq_true _⟩)
      have g' : GoodR (ns.filter fun m => m != nm) r := ⟨g.nm, g.l0, g.l9, g.st, g.few, g.asc, fun p hp => by
        obtain ⟨a, b⟩ := g.way p hp
        exact ⟨List.mem_filter.mpr ⟨a, by simpa using hne p hp⟩, b⟩⟩
      rw [place_ok g' (fun m hm => by
        obtain ⟨a, b⟩ := List.mem_filter.mp hm
        exact hf m a (by simpa using b)), if_neg c]
      simp only [Bool.false_eq_true, if_false, c2]
      rw [go_left hf hb rows (n + 1) (seen ++ [(wordsOf r).getD 0 ""]) (acc ++ [placeOf r]) (by omega) n2 (fun q hq => ⟨(h q (List.mem_cons_of_mem _ hq)).1, fun hm => by
        rcases List.mem_append.mp hm with hm | hm
        · exact (h q (List.mem_cons_of_mem _ hq)).2 hm
        · have e : q.name = r.name := List.mem_singleton.mp hm
          have hq2 : q.name ∈ rows.map (·.name) := List.mem_map_of_mem hq
          rw [e] at hq2
          exact n1 hq2⟩), List.map_cons, List.append_assoc]
      rfl
def saidL (nm : Str) (rest : List RowM) : Int := match leftAt nm 0 rest with
  | some k => (k : Nat)
  | none => if rest.isEmpty then 0 else -1
def saidP (x : Except Nat SiteM) : Int := match x with
  | .ok _ => -1
  | .error n => (n : Nat)
def dropAt (rows : List RowM) (i : Nat) : List RowM := rows.take i ++ rows.drop (i + 1)
theorem drop_sub (rows : List RowM) (i : Nat) : (dropAt rows i).Sublist rows := by
  unfold dropAt
  have h1 := List.Sublist.append (List.Sublist.refl (rows.take i)) (show (rows.drop (i + 1)).Sublist (rows.drop i) by rw [← List.drop_drop]; exact List.drop_sublist _ _)
  rw [List.take_append_drop] at h1
  exact h1
theorem drop_names {rows : List RowM} (g : GoodRs rows) {i : Nat} {r : RowM} (h : rows[i]? = some r) : ∀ n, n ∈ (dropAt rows i).map (·.name) ↔ n ∈ rows.map (·.name) ∧ n ≠ r.name := by
  obtain ⟨hi, er⟩ := List.getElem?_eq_some_iff.mp h
  have split : rows = rows.take i ++ r :: rows.drop (i + 1) := by
    have := (List.take_append_drop i rows).symm
    rw [List.drop_eq_getElem_cons hi, er] at this
    exact this
  have nd := g.nd
  rw [split, List.map_append, List.map_cons] at nd
  have p : ((dropAt rows i).map (·.name)).Nodup ∧ r.name ∉ (dropAt rows i).map (·.name) := by
    have := (List.perm_middle (a := r.name) (l₁ := (rows.take i).map (·.name)) (l₂ := (rows.drop (i + 1)).map (·.name))).nodup_iff.mp nd
    obtain ⟨a, b⟩ := List.nodup_cons.mp this
    unfold dropAt
    rw [List.map_append]
    exact ⟨b, a⟩
  intro n
  constructor
  · intro hn
    exact ⟨((drop_sub rows i).map _).subset hn, fun e => p.2 (e ▸ hn)⟩
  · rintro ⟨hn, ne⟩
    rw [split, List.map_append, List.map_cons] at hn
    unfold dropAt
    rw [List.map_append]
    rcases List.mem_append.mp hn with hn | hn
    · exact List.mem_append_left _ hn
    · rcases List.mem_cons.mp hn with e | hn
      · exact absurd e ne
      · exact List.mem_append_right _ hn
theorem said_left {rows : List RowM} (g : GoodRs rows) {i : Nat} {r : RowM} (h : rows[i]? = some r) : saidP (parseM (textM (dropAt rows i))) = saidL r.name (dropAt rows i) := by
  have sub := drop_sub rows i
  have hg : ∀ q ∈ dropAt rows i, GoodR (rows.map (·.name)) q := fun q hq => g.all q (sub.subset hq)
  by_cases e : dropAt rows i = []
  · rw [e]
    show saidP (parseM (textM [])) = (0 : Int)
    decide +kernel
  · unfold parseM
    rw [rows_back' e hg]
    have ef : firstsM ((dropAt rows i).map wordsOf) = (dropAt rows i).map (·.name) := by
      unfold firstsM
      rw [List.map_map]
      rfl
    have nm := drop_names g h
    have hl : (dropAt rows i).length ≤ 6 := Nat.le_trans sub.length_le g.few
    have := go_left (ns := rows.map (·.name)) (firsts := keysOf ((dropAt rows i).map (·.name))) (nm := r.name) (fun n hn ne => by rw [keysOf_has]; exact List.contains_iff_mem.mpr ((nm n).mpr ⟨hn, ne⟩)) (by
      rw [keysOf_has]
      have : r.name ∉ (dropAt rows i).map (·.name) := fun z => ((nm _).mp z).2 rfl
      simpa using this) (dropAt rows i) 0 [] [] (by omega) (g.nd.sublist (sub.map _)) (fun q hq => ⟨hg q hq, List.not_mem_nil⟩)
    unfold placesM
    rw [ef, this]
    unfold saidL saidP
    cases leftAt r.name 0 (dropAt rows i) with
    | some k => rfl
    | none =>
      have : (dropAt rows i).isEmpty = false := by simpa using e
      rw [this]
      rfl
theorem fine_left {ns : List Str} {rows : List RowM} (h6 : rows.length ≤ 6) (h : ∀ r ∈ rows, GoodR ns r) : fineT (textM rows) = true := by
  by_cases e : rows = []
  · rw [e]
    decide +kernel
  · have len : (textM rows).length ≤ 870 := by
      have := (join_le "\n" (rows.map textR) (c := 144) fun w hw => by
        obtain ⟨r, hr, rfl⟩ := List.mem_map.mp hw
        exact textR_le (h r hr)).1
      have e : (Str.ofString "\n").length = 1 := by decide +kernel
      rw [e, List.length_map] at this
      unfold textM
      omega
    have nl : Txt.split (textM rows) "\n" = rows.map textR := by
      have := split_nl (rows := rows.map wordsOf) (by simpa using e) (fun r hr w hw => by
        obtain ⟨q, hq, rfl⟩ := List.mem_map.mp hr
        exact (words_clean (h q hq) w hw).1)
      rw [List.map_map] at this
      exact this
    unfold fineT
    simp only [Bool.and_eq_true, decide_eq_true_eq]
    refine ⟨⟨by omega, ?_⟩, ?_⟩
    · rw [nl]
      refine List.all_eq_true.mpr fun w hw => ?_
      obtain ⟨r, hr, rfl⟩ := List.mem_map.mp hw
      have := textR_le (h r hr)
      exact decide_eq_true (by omega)
    · rw [rows_back' e h]
      unfold fineR
      simp only [Bool.and_eq_true, decide_eq_true_eq, List.length_map]
      refine ⟨by omega, List.all_eq_true.mpr fun w hw => ?_⟩
      obtain ⟨r, hr, rfl⟩ := List.mem_map.mp hw
      have := words_few (h r hr)
      unfold fineW
      simp only [Bool.and_eq_true, decide_eq_true_eq]
      refine ⟨⟨by omega, by omega⟩, List.all_eq_true.mpr fun z hz => ?_⟩
      have := (words_clean (h r hr) z hz).2
      exact decide_eq_true (by omega)
def rotM (rows : List RowM) (a : Nat) : List RowM := rows.drop a ++ rows.take a
theorem rot_perm (rows : List RowM) (a : Nat) : (rotM rows a).Perm rows := by
  have := List.perm_append_comm (l₁ := rows.drop a) (l₂ := rows.take a)
  rw [List.take_append_drop] at this
  exact this
theorem GoodR.mono {ns ms : List Str} {r : RowM} (g : GoodR ns r) (h : ∀ n ∈ ns, n ∈ ms) : GoodR ms r := ⟨g.nm, g.l0, g.l9, g.st, g.few, g.asc, fun p hp => ⟨h _ (g.way p hp).1, (g.way p hp).2⟩⟩
theorem good_perm {rows rows' : List RowM} (g : GoodRs rows) (p : rows'.Perm rows) : GoodRs rows' := by
  refine ⟨fun e => ?_, by rw [p.length_eq]; exact g.few, (p.map (·.name)).nodup_iff.mpr g.nd, fun r hr => (g.all r (p.mem_iff.mp hr)).mono fun n hn => (p.map (·.name)).mem_iff.mpr hn⟩
  subst e
  exact g.ne (List.perm_nil.mp p.symm)
theorem rot_names {rows : List RowM} (g : GoodRs rows) {a : Nat} (ha : a < rows.length) : (rotM rows a).map (·.name) = rows.map (·.name) ↔ a = 0 := by
  constructor
  · intro h
    have hl : 0 < rows.length := by omega
    have h1 : ((rotM rows a).map (·.name))[0]? = some rows[a].name := by
      unfold rotM
      rw [List.drop_eq_getElem_cons ha]
      rfl
    rw [h, List.getElem?_map, List.getElem?_eq_getElem hl] at h1
    have e : rows[0].name = rows[a].name := Option.some.inj h1
    have i0 : (rows.map (·.name))[0]'(by rw [List.length_map]; omega) = (rows.map (·.name))[a]'(by rw [List.length_map]; omega) := by rw [List.getElem_map, List.getElem_map]; exact e
    refine Classical.byContradiction fun z => ?_
    exact List.pairwise_iff_getElem.mp g.nd 0 a (by rw [List.length_map]; omega) (by rw [List.length_map]; omega) (by omega) i0
  · rintro rfl
    unfold rotM
    rw [List.drop_zero, List.take_zero, List.append_nil]
theorem rot_zero (rows : List RowM) : rotM rows 0 = rows := by
  unfold rotM
  rw [List.drop_zero, List.take_zero, List.append_nil]
theorem back_perm {rows rows' : List RowM} (g : GoodRs rows) (p : rows'.Perm rows) (name : Str) : backM (siteOf rows') name = backM (siteOf rows) name := by
  refine asc_eq (R := fun a b : Str × Int => ltS a.1 b.1 = true) (fun a h => by rw [ltS_same, ltS_irr] at h; cases h) (fun a b c h1 h2 => ltS_trans h1 h2) (pair_asc (backM_asc (good_perm g p) name)) (pair_asc (backM_asc g name)) fun q => ?_
  obtain ⟨e, s⟩ := q
  rw [mem_backM, mem_backM]
  constructor
  · rintro ⟨o, ho, z⟩
    exact ⟨o, p.mem_iff.mp ho, z⟩
  · rintro ⟨o, ho, z⟩
    exact ⟨o, p.mem_iff.mpr ho, z⟩
theorem backRows_perm {rows rows' : List RowM} (g : GoodRs rows) (p : rows'.Perm rows) : (backRows rows').Perm (backRows rows) := by
  have : backRows rows' = rows'.map fun r => ⟨r.name, r.limit, r.stay, backM (siteOf rows) r.name⟩ := List.map_congr_left fun r _ => by rw [back_perm g p]
  rw [this]
  exact p.map _
def plcD (r : RowM) : D := .tup [.int r.limit, .bl r.stay, .tup (r.ways.map wayD)]
def plcsD (rows : List RowM) : D := .dic (rows.map (·.name)) (rows.map plcD)
theorem find_place {r : RowM} : ∀ {rows : List RowM}, (rows.map (·.name)).Nodup → r ∈ rows → findK (rows.map (·.name)) (rows.map plcD) r.name = some (plcD r)
  | q :: rows, nd, h => by
    obtain ⟨n1, n2⟩ := List.nodup_cons.mp nd
    rw [List.map_cons, List.map_cons]
    unfold findK
    rcases List.mem_cons.mp h with rfl | h
    · rw [if_pos rfl]
    · have : q.name ≠ r.name := fun e => n1 (by have z := List.mem_map_of_mem (f := RowM.name) h; rw [← e] at z; exact z)
      rw [if_neg this]
      exact find_place n2 h
theorem plc_okD {ns : List Str} {r : RowM} (g : GoodR ns r) : okD 3 (plcD r) = true := by
  have : ∀ l : List (Str × Int), (∀ p ∈ l, PyData.strOk p.1 = true) → okL 1 (l.map wayD) = true := fun l => by
    induction l with
    | nil => intro _; rfl
    | cons a r ih =>
      intro hh
      rw [List.map_cons]
      unfold okL
      rw [ih fun p hp => hh p (List.mem_cons_of_mem _ hp)]
      simp [wayD, okD, okL, hh a List.mem_cons_self]
  have w := this r.ways fun p hp => low_ok (name_low (g.way p hp).2.2.1).1
  simp [plcD, okD, okL, w]
theorem o_nePlaces {K : PySem.W.Frag} {Ψ : D → Prop} {rows rows' : List RowM} (g : GoodRs rows) (p : rows'.Perm rows) (h : Ψ (.bl false)) : Op2 K (rNeDD K) (plcsD rows') (plcsD rows) Ψ := by
  refine o_neDic (n := 3) (by rw [List.length_map, List.length_map, p.length_eq]) (fun i k d hk hd => ?_) h
  rw [List.getElem?_map] at hk hd
  cases e : rows'[i]? with
  | none => rw [e] at hk; cases hk
  | some r =>
    rw [e] at hk hd
    cases hk
    cases hd
    have hm : r ∈ rows := p.mem_iff.mp (List.mem_of_getElem? e)
    have ok := plc_okD (g.all r hm)
    exact ⟨ok, plcD r, find_place g.nd hm, ok, deq_refl ok⟩
def stepsM (rows : List RowM) : List Int := rows.flatMap fun r => r.ways.map (·.2)
def edges (rows : List RowM) : List (Str × Str × Int) := rows.flatMap fun r => r.ways.map fun q => (r.name, q.1, q.2)
theorem edges_nd {rows : List RowM} (g : GoodRs rows) : (edges rows).Nodup := by
  unfold edges List.Nodup
  rw [List.pairwise_flatMap]
  constructor
  · intro r hr
    rw [List.pairwise_map]
    refine (pair_asc (g.all r hr).asc).imp fun {a b} h e => ?_
    rw [show a.1 = b.1 from (Prod.mk.inj (Prod.mk.inj e).2).1, ltS_same, ltS_irr] at h
    cases h
  · have : rows.Pairwise fun a b => a.name ≠ b.name := List.pairwise_map.mp g.nd
    refine this.imp fun {a b} h x hx y hy e => ?_
    obtain ⟨p, _, rfl⟩ := List.mem_map.mp hx
    obtain ⟨q, _, rfl⟩ := List.mem_map.mp hy
    exact h (Prod.mk.inj e).1
theorem steps_edges (rows : List RowM) : stepsM rows = (edges rows).map fun e => e.2.2 := by
  unfold stepsM edges
  rw [List.map_flatMap]
  congr 1
  funext r
  rw [List.map_map]
  rfl
theorem perm_mem {α : Type} [DecidableEq α] : ∀ {l m : List α}, l.Nodup → m.Nodup → (∀ x, x ∈ l ↔ x ∈ m) → l.Perm m
  | [], m, _, _, h => by
    have : m = [] := List.eq_nil_iff_forall_not_mem.mpr fun x hx => absurd ((h x).mpr hx) List.not_mem_nil
    rw [this]
  | a :: l, m, nl, nm, h => by
    obtain ⟨n1, n2⟩ := List.nodup_cons.mp nl
    have ha : a ∈ m := (h a).mp List.mem_cons_self
    have p : m.Perm (a :: m.erase a) := List.perm_cons_erase ha
    obtain ⟨k1, k2⟩ := List.nodup_cons.mp (p.nodup_iff.mp nm)
    refine (List.Perm.cons a (perm_mem n2 k2 fun x => ?_)).trans p.symm
    constructor
    · intro hx
      rcases List.mem_cons.mp (p.mem_iff.mp ((h x).mp (List.mem_cons_of_mem _ hx))) with e | hx2
      · exact absurd (e ▸ hx) n1
      · exact hx2
    · intro hx
      rcases List.mem_cons.mp ((h x).mpr (p.mem_iff.mpr (List.mem_cons_of_mem _ hx))) with e | hx2
      · exact absurd (e ▸ hx) k1
      · exact hx2
theorem mem_edges {rows : List RowM} {a b : Str} {s : Int} : (a, b, s) ∈ edges rows ↔ ∃ o ∈ rows, o.name = a ∧ (b, s) ∈ o.ways := by
  unfold edges
  rw [List.mem_flatMap]
  constructor
  · rintro ⟨o, ho, h⟩
    obtain ⟨q, hq, e⟩ := List.mem_map.mp h
    obtain ⟨e1, e2⟩ := Prod.mk.inj e
    obtain ⟨e3, e4⟩ := Prod.mk.inj e2
    exact ⟨o, ho, e1, by rw [← e3, ← e4]; exact hq⟩
  · rintro ⟨o, ho, rfl, h⟩
    exact ⟨o, ho, List.mem_map.mpr ⟨(b, s), h, rfl⟩⟩
theorem steps_back {rows : List RowM} (g : GoodRs rows) (g2 : GoodRs (backRows rows)) : (stepsM (backRows rows)).Perm (stepsM rows) := by
  rw [steps_edges, steps_edges]
  have p : ((edges (backRows rows)).map fun e => (e.2.1, e.1, e.2.2)).Perm (edges rows) := by
    refine perm_mem ?_ (edges_nd g) fun x => ?_
    · unfold List.Nodup
      rw [List.pairwise_map]
      refine (show (edges (backRows rows)).Pairwise (· ≠ ·) from edges_nd g2).imp fun {a b} h e => h ?_
      obtain ⟨e1, e2⟩ := Prod.mk.inj e
      obtain ⟨e3, e4⟩ := Prod.mk.inj e2
      exact Prod.ext e3 (Prod.ext e1 e4)
    · obtain ⟨a, b, s⟩ := x
      rw [mem_edges]
      constructor
      · intro h
        obtain ⟨⟨b', a', s'⟩, h1, e⟩ := List.mem_map.mp h
        cases e
        obtain ⟨o, ho, e, hw⟩ := mem_edges.mp h1
        obtain ⟨q, hq, rfl⟩ := List.mem_map.mp ho
        obtain ⟨t, ht, et, hw2⟩ := mem_backM.mp hw
        exact ⟨t, ht, et, by rw [← e]; exact hw2⟩
      · rintro ⟨o, ho, rfl, hw⟩
        obtain ⟨q, hq, eq⟩ := List.mem_map.mp ((g.all o ho).way (b, s) hw).1
        refine List.mem_map.mpr ⟨(b, o.name, s), mem_edges.mpr ⟨⟨q.name, q.limit, q.stay, backM (siteOf rows) q.name⟩, List.mem_map.mpr ⟨q, hq, rfl⟩, eq, ?_⟩, rfl⟩
        refine mem_backM.mpr ⟨o, ho, rfl, ?_⟩
        show (q.name, s) ∈ o.ways
        rw [show q.name = b from eq]
        exact hw
  have := p.map fun e => e.2.2
  rw [List.map_map] at this
  exact this
def sortI (l : List Int) : List Int := l.mergeSort fun a b => leD (.int a) (.int b)
theorem leD_int (a b : Int) : leD (.int a) (.int b) = !decide (b < a) := by
  show (!PyProof.Rows.lexLt itemOrd [.inl b] [.inl a]) = _
  unfold PyProof.Rows.lexLt
  have : PyProof.Rows.lexLt itemOrd [] [] = false := rfl
  rw [this, Bool.and_false, Bool.or_false]
  rfl
theorem perm_sorted {α : Type} {R : α → α → Prop} (anti : ∀ a b, R a b → R b a → a = b) : ∀ {l m : List α}, l.Perm m → l.Pairwise R → m.Pairwise R → l = m
  | [], m, p, _, _ => (List.perm_nil.mp p.symm).symm
  | a :: l, [], p, _, _ => by cases List.perm_nil.mp p
  | a :: l, b :: m, p, hl, hm => by
    obtain ⟨l1, l2⟩ := List.pairwise_cons.mp hl
    obtain ⟨m1, m2⟩ := List.pairwise_cons.mp hm
    have e : a = b := by
      rcases List.mem_cons.mp (p.mem_iff.mp List.mem_cons_self) with e | ha
      · exact e
      · rcases List.mem_cons.mp (p.mem_iff.mpr List.mem_cons_self) with e | hb
        · exact e.symm
        · exact anti a b (l1 b hb) (m1 a ha)
    subst e
    rw [perm_sorted anti ((List.perm_cons a).mp p) l2 m2]
theorem leI_total : PySem.W.TotalLe fun a b : Int => leD (.int a) (.int b) := PySem.W.sortLe_total (listOrd itemOrd) false fun a => PySem.W.keyToks (py (.int a))
theorem sortI_perm {l m : List Int} (p : l.Perm m) : sortI l = sortI m := by
  have tot : ∀ a b : Int, (leD (.int a) (.int b) || leD (.int b) (.int a)) = true := fun a b => by rw [Bool.or_eq_true]; exact leI_total.total a b
  refine perm_sorted (R := fun a b : Int => leD (.int a) (.int b) = true) (fun a b h1 h2 => ?_) (((List.mergeSort_perm l _).trans p).trans (List.mergeSort_perm m _).symm) (List.pairwise_mergeSort leI_total.trans tot l) (List.pairwise_mergeSort leI_total.trans tot m)
  rw [leD_int] at h1 h2
  simp at h1 h2
  omega
theorem c_sortI {K : PySem.W.Frag} {P : Program} {w : World} {Ψ : D → Prop} {ns : List Int} (h : Ψ (.lst ((sortI ns).map .int))) : Cl K (rSortU K P w) [.lst (ns.map .int)] Ψ :=
  c_orL (c_sorted (n := 0) (by decide) (fun d hd => by
    obtain ⟨p, hp, rfl⟩ := List.mem_map.mp hd
    unfold okD
    rfl) (fun d hd d' hd' => by
    rw [List.map_map] at hd hd'
    obtain ⟨p, _, rfl⟩ := List.mem_map.mp hd
    obtain ⟨q, _, rfl⟩ := List.mem_map.mp hd'
    simp [py, PySem.W.alike]) (.inr fun d hd => by
    rw [List.map_map] at hd
    obtain ⟨p, _, rfl⟩ := List.mem_map.mp hd
    simp [py]) (by
      rw [show (ns.map D.int).mergeSort leD = (sortI ns).map D.int from (List.map_mergeSort (f := D.int) (r := fun a b => leD (.int a) (.int b)) (s := leD) (fun a _ b _ => rfl)).symm]
      exact h))
theorem goT_lim (s : SiteM) (ls : List Int) : ∀ (l : List (Str × Bool)) (acc : List (List (Str × Int))), goT { s with limits := ls } acc l = goT s acc l
  | [], _ => rfl
  | p :: l, acc => by
    unfold goT
    rw [show backM { s with limits := ls } p.1 = backM s p.1 from rfl, goT_lim s ls l]
theorem turn_lim {s t : SiteM} (h : turnedM s = .ok t) (ls : List Int) : turnedM { s with limits := ls } = .ok { t with limits := ls } := by
  unfold turnedM at h ⊢
  rw [show ({ s with limits := ls } : SiteM).names.zip ({ s with limits := ls } : SiteM).stays = s.names.zip s.stays from rfl, goT_lim]
  cases e : goT s [] (s.names.zip s.stays) with
  | error n => rw [e] at h; cases h
  | ok ws => rw [e] at h; cases h; rfl
end Lw

namespace Z
open PySem PySem.Spec PyProof.Rows L2 Evl
theorem all_b {α : Type} {prog : Program} {w : World} {A : Around} {E : Value → Shared → Prop} {Q : α → Shared → Prop} {s : Shared} {f : Bool → Sem α} {b : Bool} (h : ∀ b, wpAny (model prog w) A (f b) Q E s) : wpAny (model prog w) A (f b) Q E s := h b
theorem meets_enum1 {v : Value} {o : Obj} {H : Heap → Prop} (B : Begins v o H) :
    Meets (Builtin.«enumerate.__new__» { pos := [Value.type "enumerate", v] }) fun x R s =>
      H s.heap ∧ R (Except.ok (Flow.ret (Value.ref (s.heap.push o).objs.size)))
        { heap := (s.heap.push o).push { cls := Value.type "enumerate", data := Data.fields #[Value.none, Value.bool false, Value.ref s.heap.objs.size, rawInt 0, Value.none, Value.none] },
          gens := s.gens, drawn := s.drawn, toks := s.toks, os := s.os } :=
  Meets.of_wp fun prog w A R s h => by
    obtain ⟨hp, g, d, tk, os⟩ := s
    obtain ⟨h1, h⟩ := h
    have hsub := sub_enumerate
    have q1 : ∀ {A' : Around} {E Q : Value → Shared → Prop}, Q (Value.ref hp.objs.size) { heap := hp.push o, gens := g, drawn := d, toks := tk, os := os } → wpAny (model prog w) A' (pyIter v) Q E { heap := hp, gens := g, drawn := d, toks := tk, os := os } := fun {A' E Q} q => B.iter prog w A' E { heap := hp, gens := g, drawn := d, toks := tk, os := os } Q h1 q
    refine wpAny_bind ?_
    refine wpAny_bind ?_
    refine wpAny_pure ?_
    refine wpAny_ite_false rfl ?_
    refine wpAny_bind ?_
    refine wpAny_of_eq hsub ?_
    refine wpAny_ite_false rfl ?_
    refine wpAny_pure ?_
    refine wpAny_ite_true rfl ?_
    refine wpAny_bind ?_
    refine wpAny_bind ?_
    refine wpAny_stack_any fun st => ?_
    refine wpAny_pure ?_
    have fin : ∀ short : Bool, (short = true ∨ short = false) := fun b => by cases b <;> simp
    split
    rename_i c tail kw snd tl hh
    rcases fin (c == Value.type "enumerate") with e | e
    all_goals first | rw [e] | skip
    all_goals first | refine wpAny_ite_true rfl ?_ | refine wpAny_ite_false rfl ?_
    all_goals refine wpAny_bind ?_
    all_goals first | refine wpAny_pure ?_ | (refine wpAny_ite_false rfl ?_; refine wpAny_ite_false rfl ?_; refine wpAny_pure ?_)
    all_goals refine wpAny_bind ?_
    all_goals refine q1 ?_
    all_goals refine wpAny_bind ?_
    all_goals unfold Builtin.SmallTypes.newRecord
    all_goals dsimp only
    all_goals unfold newObj
    all_goals dsimp only
    all_goals refine wpAny_ite_false (by rfl) ?_
    all_goals refine wpAny_bind ?_
    all_goals refine wpAny_alloc' ?_
    all_goals refine wpAny_pure ?_
    all_goals refine wpAny_pure ?_
    all_goals exact ⟨_, rfl, h⟩
theorem call_enum1 {prog : Program} {w : World} {A : Around} {E : Value → Shared → Prop} {s : Shared} {v : Value} {o : Obj} {H : Heap → Prop} {Q : Value → Shared → Prop} (B : Begins v o H) (h1 : H s.heap)
    (h : ∀ h' : Heap, IsEnum h' (s.heap.objs.size + 1) s.heap.objs.size 0 Value.none → h'.get? s.heap.objs.size = some o → h'.objs.size = s.heap.objs.size + 2 → (∀ (b : Addr) (o : Obj), s.heap.get? b = some o → h'.get? b = some o) →
      Q (Value.ref (s.heap.objs.size + 1)) { heap := h', gens := s.gens, drawn := s.drawn, toks := s.toks, os := s.os }) :
    wpAny (model prog w) A (call (Value.type "enumerate") [v]) Q E s := by
  refine callType_new F.called_enumerate (by decide) (F.typeCall_enumerate_1 v) (F.newCall_enumerate_1 v) (fun obj => F.args_object_init_2 obj v) F.entry_enumerate_new (meets_enum1 B) ⟨h1, ?_⟩
  have hz := Heap.size_push s.heap o
  have he := Heap.get?_push_size (s.heap.push o) (o := { cls := Value.type "enumerate", data := Data.fields #[Value.none, Value.bool false, Value.ref s.heap.objs.size, rawInt 0, Value.none, Value.none] }) rfl
  rw [hz] at he
  have ho := Heap.get?_push_size s.heap (o := o) B.free
  have q := h _ he (Heap.get?_push_of_some _ ho) (by rw [Heap.size_push, hz]) fun b o' y => Heap.get?_push_of_some _ (Heap.get?_push_of_some _ y)
  rw [hz]
  exact ⟨⟨_, he, rfl⟩, q⟩
def IteT (K : PySem.W.Frag) (a : Addr) : It where
  go i H := ∃ xs x, SqT K H a xs ∧ xs[i]? = some x
  yld i H v H' := ∃ T x, v = V.ref T ∧ H T = none ∧ H' = upd H T (HO.tup [V.int (i : Nat), x]) ∧ ∀ xs : List V, SqT K H a xs → xs[i]? = some x
  stop i H := ∃ xs, SqT K H a xs ∧ xs.length ≤ i
theorem turn_enumT {P : Program} {w : World} {K : PySem.W.Frag} {elts : List Expr} {kk : Nat} {tpos : Pos} (a e it : Addr) :
    Turn P w K (Expr.Tuple elts kk tpos) (IteT K a) [e, it] e fun i h => (∃ old, IsEnum h e it (i : Nat) old) ∧ h.IsTupleIter it a i ∧ e ≠ it ∧ a ≠ e ∧ a ≠ it where
  mem := by simp
  obj := by
    rintro i h ⟨⟨old, he⟩, ⟨o, ho, hc, hd⟩, _⟩ b hb
    simp only [List.mem_cons, List.not_mem_nil, or_false] at hb
    rcases hb with rfl | rfl
    · exact ⟨_, he, fun v q => nomatch q⟩
    · exact ⟨o, ho, fun v q => by rw [hd] at q; cases q⟩
  keep := by
    rintro i h h' ⟨⟨old, he⟩, hi, hne⟩ k
    exact ⟨⟨old, k e (by simp) _ he⟩, hi.at fun o q => k it (by simp) o q, hne⟩
  item := by
    rintro X rfl rfl rfl hc i pins s σ H E I hf ⟨⟨old, he⟩, hit, hne, ne1, ne2⟩ ⟨xs, x, hq, hx⟩
    obtain ⟨its, rv, p, hz⟩ := Inv.tuple I hq
    obtain ⟨u, hu, ru⟩ := Vals.get rv hx
    have hel := Heap.lt_size he
    have hi : i < its.toArray.size := by
      rw [List.size_toArray]
      exact (List.getElem?_eq_some_iff.mp hu).1
    refine wpAny_pyNext_enum_itemD (Draws.tuple (A := X.A.in1) (show X.A.in1.handled = none from I.ok.hd hc) it a ne2 its.toArray) he ⟨hit, p⟩ hi hne (by simp [hne, Ne.symm ne1]) fun x' h' tk hx' ho hit' hT hsz hk => ?_
    have ex : u = x' := by
      have : its.toArray[i]? = some x' := hx'
      rw [List.getElem?_toArray] at this
      rw [hu] at this
      exact Option.some.inj this
    subst ex
    refine ⟨_, rfl, wpAny_letOwnedTupleGo_enum ho fun h'' he' sb => ?_⟩
    have hT2 := (sb.2 s.heap.objs.size (Nat.ne_of_gt hel)).trans hT
    have new : ObjOk X.prog X.w (upd H s.heap.objs.size (HO.tup [V.int (i : Nat), x])) h'' s.heap.objs.size (HO.tup [V.int (i : Nat), x]) := ⟨by show 2 ≤ sizeLine; decide, [Value.int (i : Nat) tk, u], .cons ⟨tk, rfl⟩ (.cons ru .nil), _, hT2, rfl, 0, rfl⟩
    have I1 := Inv.turnedNew (t' := tk + 1) I (ch := [e, it]) (fun b ob hb q => (sb.2 b fun z => hb (by simp [z])).trans (hk b ob (fun z => hb (by simp [z])) (fun z => hb (by simp [z])) q)) hf (Nat.le_refl _) new
    refine ⟨V.ref s.heap.objs.size, _, I1, rfl, ⟨_, x, rfl, HOk.fresh I.hok (Nat.le_refl _), rfl, fun ys hy => by rw [Inv.tuple_inj I hy hq]; exact hx⟩, ⟨⟨u, ?_⟩, hit'.1.at fun o q => (sb.2 it (Ne.symm hne)).trans q, hne, ne1, ne2⟩, fun b hb => ?_⟩
    · have e1 : ((i + 1 : Nat) : Int) = (i : Int) + 1 := by omega
      show IsEnum _ e it ((i + 1 : Nat) : Int) u
      rw [e1]
      exact he'
    · have hbs : b < s.heap.objs.size := by
        simp only [List.mem_cons, List.not_mem_nil, or_false] at hb
        obtain ⟨o, ho2, _⟩ := hit
        rcases hb with rfl | rfl
        · exact hel
        · exact Heap.lt_size ho2
      rw [upd_ne (Nat.ne_of_lt hbs)]
      exact (hf b hb).1
  done := by
    rintro X rfl rfl rfl hc i pins s σ H E I hf ⟨⟨old, he⟩, hit, hne, ne1, ne2⟩ ⟨xs, hq, hx⟩
    obtain ⟨its, rv, p, hz⟩ := Inv.tuple I hq
    have hl := Vals.length rv
    have hd : X.A.in1.handled = none := I.ok.hd hc
    have D : Draws X.prog X.w X.A.in1 it [it, a] i (fun _ _ => True) (fun j h => (h.IsTupleIter it a j ∧ h.IsTuple a its.toArray) ∧ j = i) :=
      ⟨fun j h st => (Draws.tuple (prog := X.prog) (w := X.w) hd it a ne2 its.toArray).live j h st.1, fun j h h' st k => ⟨(Draws.tuple (prog := X.prog) (w := X.w) hd it a ne2 its.toArray).frame j h h' st.1 k, st.2⟩,
        fun j s Q E hj st _ => absurd st.2 (Nat.ne_of_lt hj), fun s Q E st k => by
          refine RZ.nextOf_tuple_end hd st.1.1 st.1.2 (by rw [List.getElem?_toArray]; exact List.getElem?_eq_none (by omega)) ?_
          exact k⟩
    exact wpAny_pyNext_enum_endD D he ⟨⟨hit, p⟩, rfl⟩ fun h' eb => ⟨rfl, Inv.turnedL (t' := s.toks) I (ch := [e, it]) (fun b o hb q => eb b o (fun z => hb (by simp [z])) q) hf⟩
  self := by
    rintro A i s Q E ⟨⟨_, he⟩, _⟩ h
    exact wpAny_pyIter_enum he h
def iEnumT (K : PySem.W.Frag) (ta : TA) : TI := fun σ H R => ta σ H fun vs H1 => ∃ a xs, vs = [V.ref a] ∧ SqT K H1 a xs ∧ R (IteT K a) H1
theorem pi_enumT {X : Cx} {e : Expr} {ta : TA} {p pos tpos : Pos} {elts : List Expr} {kk : Nat} (hg : Gl X "enumerate") (hm : X.mg "enumerate" = none) (ha : PA X [e] ta) (hs : starEach [e] X.env = [(false, eval e X.env)] := by rfl) :
    PI X (.Tuple elts kk tpos) (.Call (.Name "enumerate" p) [e] [] pos) (iEnumT X.K ta) where
  run := by
    intro pins s σ H R I h
    refine Call_ (ld_blt I hg hm boot_enumerate (callWith_type1 (thn (ha.run pos pins s σ H _ I h) fun us s1 x => ?_) hs rfl)) rfl
    obtain ⟨vs, H1, I1, r1, a, xs, rfl, hq, q⟩ := x
    obtain ⟨u, rfl, ru⟩ : ∃ u, us = [u] ∧ L2.RelV (V.ref a) u := by
      cases r1 with
      | cons h t => cases t; exact ⟨_, rfl, h⟩
    obtain rfl : u = Value.ref a := ru
    obtain ⟨its, rv, p', hz⟩ := Inv.tuple I1 hq
    have hal : a < s1.heap.objs.size := by
      obtain ⟨o, ho, _⟩ := p'
      exact Heap.lt_size ho
    refine call_enum1 (begins_tuple a its.toArray) p' fun h' he hit hsz hk => ?_
    refine wpAny_pyIter_enum he ?_
    have I2 := Inv.kept (t' := s1.toks) I1 hk
    refine ⟨_, [s1.heap.objs.size + 1, s1.heap.objs.size], _, IteT X.K a, H1, rfl, I2, turn_enumT a (s1.heap.objs.size + 1) s1.heap.objs.size, ⟨⟨_, he⟩, ⟨_, hit, rfl, rfl⟩, Nat.succ_ne_self _, Nat.ne_of_lt (Nat.lt_succ_of_lt hal), Nat.ne_of_lt hal⟩, fun b hb => ?_, q⟩
    have hle : s1.heap.objs.size ≤ b := by
      simp only [List.mem_cons, List.not_mem_nil, or_false] at hb
      rcases hb with rfl | rfl
      · exact Nat.le_succ _
      · exact Nat.le_refl _
    exact Inv.fpOk I1 hle (HOk.fresh I1.hok hle)
section
variable {K : PySem.W.Frag} {E : L2.St → XK} {Ξ : Xi} {ρ : Rho} {tl : TA}
theorem ei_enumT {Φ : List D → Rho → Prop} (h : EvA K E Ξ tl ρ fun ds ρ1 => ∃ xs, ds = [.tup xs] ∧ Φ (enumD xs) ρ1) : EvI K E Ξ (iEnumT K tl) ρ Φ := fun F0 H0 σ F H R S e k =>
  h F0 H0 σ F H _ S e fun d ρ1 v F1 H1 ⟨xs, ed, h1⟩ x1 S1 n1 => by
    subst ed
    obtain ⟨u, r, e1, n2, n3⟩ := dnl_cons.mp n1
    obtain ⟨a, vs, e2, h2, n4⟩ := dn_tup.mp n2
    rw [e2, dnl_nil.mp n3] at e1
    refine ⟨a, vs, e1, ex_t S1.fh h2, k _ ρ1 _ F1 H1 h1 x1 S1 fun i F2 H2 x2 y2 => ?_⟩
    have hq : SqT K H2 a vs := ex_t y2 (ex_t x2 h2)
    refine ⟨fun d hd => ?_, fun hl => ⟨vs, hq, by rw [← n4.length, ← enumD_len]; exact hl⟩⟩
    rw [enumD_get] at hd
    cases q : xs[i]? with
    | none => rw [q] at hd; cases hd
    | some z =>
      rw [q] at hd
      cases hd
      obtain ⟨v, hv, nv⟩ := n4.get q
      refine ⟨⟨vs, v, hq, hv⟩, fun w H3 hy => ?_⟩
      obtain ⟨T, x, rfl, hT, rfl, hx⟩ := hy
      have e := hx vs hq
      rw [hv] at e
      cases e
      exact pair_new y2 hT (dn_int.mpr rfl) (nv.mono x2)
end
end Z

namespace Lw
open PySem PySem.Spec PyProof.Rows L2 Evl Z
def topS (i : Nat) : Stmt := PySem.Challenge.pw_duewalk_k07_whole_sites.main.body.getD i (.Pass ⟨0, 0, 0, 0⟩)
abbrev s_i_InvalidText : Stmt := (inClass (topS 2) 0)
abbrev N_i_InvalidText : List Str := ["self", "row"]
theorem sc_i_InvalidText : FnScope N_i_InvalidText ["self", "row"] (defScope s_i_InvalidText) := ⟨rfl, rfl, rfl, by decide +kernel, rfl, by decide +kernel, by decide +kernel⟩
abbrev s_i_NoWay : Stmt := (inClass (topS 3) 0)
abbrev N_i_NoWay : List Str := ["self", "place"]
theorem sc_i_NoWay : FnScope N_i_NoWay ["self", "place"] (defScope s_i_NoWay) := ⟨rfl, rfl, rfl, by decide +kernel, rfl, by decide +kernel, by decide +kernel⟩
abbrev s_init : Stmt := (inClass (topS 9) 0)
abbrev N_init : List Str := ["self", "names", "limits", "stays", "ways", "row"]
theorem sc_init : FnScope N_init ["self", "names", "limits", "stays", "ways"] (defScope s_init) := ⟨rfl, rfl, rfl, by decide +kernel, rfl, by decide +kernel, by decide +kernel⟩
abbrev s_parse : Stmt := (inClass (topS 9) 1)
abbrev N_parse : List Str := ["text", "rows", "places", "row", "words", "limit", "_", "stay", "ways"]
theorem sc_parse : FnScope N_parse ["text"] (defScope s_parse) := ⟨rfl, rfl, rfl, by decide +kernel, rfl, by decide +kernel, by decide +kernel⟩
abbrev s_strm : Stmt := (inClass (topS 9) 2)
abbrev N_strm : List Str := ["self", "number"]
theorem sc_strm : FnScope N_strm ["self"] (defScope s_strm) := ⟨rfl, rfl, rfl, by decide +kernel, rfl, by decide +kernel, by decide +kernel⟩
abbrev s_eqm : Stmt := (inClass (topS 9) 3)
abbrev N_eqm : List Str := ["self", "other"]
theorem sc_eqm : FnScope N_eqm ["self", "other"] (defScope s_eqm) := ⟨rfl, rfl, rfl, by decide +kernel, rfl, by decide +kernel, by decide +kernel⟩
abbrev s_turned : Stmt := (topS 10)
abbrev N_turned : List Str := ["site", "ways", "name", "stay", "back"]
theorem sc_turned : FnScope N_turned ["site"] (defScope s_turned) := ⟨rfl, rfl, rfl, by decide +kernel, rfl, by decide +kernel, by decide +kernel⟩
abbrev s_with_limits : Stmt := (topS 11)
abbrev N_with_limits : List Str := ["site", "limits"]
theorem sc_with_limits : FnScope N_with_limits ["site", "limits"] (defScope s_with_limits) := ⟨rfl, rfl, rfl, by decide +kernel, rfl, by decide +kernel, by decide +kernel⟩
abbrev s_is_name : Stmt := (topS 12)
abbrev N_is_name : List Str := ["word", "letter"]
theorem sc_is_name : FnScope N_is_name ["word"] (defScope s_is_name) := ⟨rfl, rfl, rfl, by decide +kernel, rfl, by decide +kernel, by decide +kernel⟩
abbrev s__places_of : Stmt := (topS 13)
abbrev N__places_of : List Str := ["rows", "firsts", "seen", "places", "number", "words", "place"]
theorem sc__places_of : FnScope N__places_of ["rows"] (defScope s__places_of) := ⟨rfl, rfl, rfl, by decide +kernel, rfl, by decide +kernel, by decide +kernel⟩
abbrev s__place_of : Stmt := (topS 14)
abbrev N__place_of : List Str := ["words", "firsts", "stay", "rest", "ways", "at"]
theorem sc__place_of : FnScope N__place_of ["words", "firsts"] (defScope s__place_of) := ⟨rfl, rfl, rfl, by decide +kernel, rfl, by decide +kernel, by decide +kernel⟩
abbrev s__are_ways : Stmt := (topS 15)
abbrev N__are_ways : List Str := ["name", "words", "firsts", "ends", "end", "first", "second", "steps"]
theorem sc__are_ways : FnScope N__are_ways ["name", "words", "firsts"] (defScope s__are_ways) := ⟨rfl, rfl, rfl, by decide +kernel, rfl, by decide +kernel, by decide +kernel⟩
abbrev s__row_text : Stmt := (topS 16)
abbrev N__row_text : List Str := ["site", "number", "words", "end", "steps"]
theorem sc__row_text : FnScope N__row_text ["site", "number"] (defScope s__row_text) := ⟨rfl, rfl, rfl, by decide +kernel, rfl, by decide +kernel, by decide +kernel⟩
abbrev s__ways_back : Stmt := (topS 17)
abbrev N__ways_back : List Str := ["site", "name", "back", "start", "ways", "end", "steps"]
theorem sc__ways_back : FnScope N__ways_back ["site", "name"] (defScope s__ways_back) := ⟨rfl, rfl, rfl, by decide +kernel, rfl, by decide +kernel, by decide +kernel⟩
abbrev s__law_feed : Stmt := (topS 19)
abbrev N__law_feed : List Str := ["script", "k", "cell", "digits", "state"]
theorem sc__law_feed : FnScope N__law_feed ["script", "k"] (defScope s__law_feed) := ⟨rfl, rfl, rfl, by decide +kernel, rfl, by decide +kernel, by decide +kernel⟩
abbrev s__law_take : Stmt := (topS 20)
abbrev N__law_take : List Str := ["feed", "many", "digit"]
theorem sc__law_take : FnScope N__law_take ["feed", "many"] (defScope s__law_take) := ⟨rfl, rfl, rfl, by decide +kernel, rfl, by decide +kernel, by decide +kernel⟩
abbrev s__law_pick : Stmt := (topS 21)
abbrev N__law_pick : List Str := ["feed", "some"]
theorem sc__law_pick : FnScope N__law_pick ["feed", "some"] (defScope s__law_pick) := ⟨rfl, rfl, rfl, by decide +kernel, rfl, by decide +kernel, by decide +kernel⟩
abbrev s__law_word : Stmt := (topS 22)
abbrev N__law_word : List Str := ["feed", "found", "turn"]
theorem sc__law_word : FnScope N__law_word ["feed"] (defScope s__law_word) := ⟨rfl, rfl, rfl, by decide +kernel, rfl, by decide +kernel, by decide +kernel⟩
abbrev s__law_drawn : Stmt := (topS 23)
abbrev N__law_drawn : List Str := ["feed", "names", "found", "many", "name", "ends", "ways", "may_stay", "one", "end", "turn"]
theorem sc__law_drawn : FnScope N__law_drawn ["feed"] (defScope s__law_drawn) := ⟨rfl, rfl, rfl, by decide +kernel, rfl, by decide +kernel, by decide +kernel⟩
abbrev s__law_row : Stmt := (topS 24)
abbrev N__law_row : List Str := ["told", "name", "limit", "may_stay", "ways", "words", "end", "steps"]
theorem sc__law_row : FnScope N__law_row ["told"] (defScope s__law_row) := ⟨rfl, rfl, rfl, by decide +kernel, rfl, by decide +kernel, by decide +kernel⟩
abbrev s__law_text : Stmt := (topS 25)
abbrev N__law_text : List Str := ["rows", "told"]
theorem sc__law_text : FnScope N__law_text ["rows"] (defScope s__law_text) := ⟨rfl, rfl, rfl, by decide +kernel, rfl, by decide +kernel, by decide +kernel⟩
abbrev s__law_turned_rows : Stmt := (topS 26)
abbrev N__law_turned_rows : List Str := ["rows", "found", "name", "limit", "may_stay", "ways", "back", "other", "end", "steps"]
theorem sc__law_turned_rows : FnScope N__law_turned_rows ["rows"] (defScope s__law_turned_rows) := ⟨rfl, rfl, rfl, by decide +kernel, rfl, by decide +kernel, by decide +kernel⟩
abbrev s__law_said : Stmt := (topS 27)
abbrev N__law_said : List Str := ["text", "told", "error"]
theorem sc__law_said : FnScope N__law_said ["text"] (defScope s__law_said) := ⟨rfl, rfl, rfl, by decide +kernel, rfl, by decide +kernel, by decide +kernel⟩
abbrev s__law_left_out : Stmt := (topS 28)
abbrev N__law_left_out : List Str := ["rows", "at", "rest", "place", "told", "end", "steps"]
theorem sc__law_left_out : FnScope N__law_left_out ["rows", "at"] (defScope s__law_left_out) := ⟨rfl, rfl, rfl, by decide +kernel, rfl, by decide +kernel, by decide +kernel⟩
abbrev s__law_steps : Stmt := (topS 29)
abbrev N__law_steps : List Str := ["site", "found", "ways", "end", "steps"]
theorem sc__law_steps : FnScope N__law_steps ["site"] (defScope s__law_steps) := ⟨rfl, rfl, rfl, by decide +kernel, rfl, by decide +kernel, by decide +kernel⟩
abbrev s__law_places : Stmt := (topS 30)
abbrev N__law_places : List Str := ["site", "found", "place", "name"]
theorem sc__law_places : FnScope N__law_places ["site"] (defScope s__law_places) := ⟨rfl, rfl, rfl, by decide +kernel, rfl, by decide +kernel, by decide +kernel⟩
abbrev s_law : Stmt := (topS 31)
abbrev N_law : List Str := ["script", "k", "feed", "turn", "rows", "site", "at", "place", "text", "other", "back", "limits", "row"]
theorem sc_law : FnScope N_law ["script"] (defScope s_law) := ⟨rfl, rfl, rfl, by decide +kernel, rfl, by decide +kernel, by decide +kernel⟩
structure Ad where
  a_i_InvalidText : Addr
  d_i_InvalidText : FuncData
  a_i_NoWay : Addr
  d_i_NoWay : FuncData
  a_init : Addr
  d_init : FuncData
  a_parse : Addr
  d_parse : FuncData
  a_strm : Addr
  d_strm : FuncData
  a_eqm : Addr
  d_eqm : FuncData
  a_turned : Addr
  d_turned : FuncData
  a_with_limits : Addr
  d_with_limits : FuncData
  a_is_name : Addr
  d_is_name : FuncData
  a__places_of : Addr
  d__places_of : FuncData
  a__place_of : Addr
  d__place_of : FuncData
  a__are_ways : Addr
  d__are_ways : FuncData
  a__row_text : Addr
  d__row_text : FuncData
  a__ways_back : Addr
  d__ways_back : FuncData
  a__law_feed : Addr
  d__law_feed : FuncData
  a__law_take : Addr
  d__law_take : FuncData
  a__law_pick : Addr
  d__law_pick : FuncData
  a__law_word : Addr
  d__law_word : FuncData
  a__law_drawn : Addr
  d__law_drawn : FuncData
  a__law_row : Addr
  d__law_row : FuncData
  a__law_text : Addr
  d__law_text : FuncData
  a__law_turned_rows : Addr
  d__law_turned_rows : FuncData
  a__law_said : Addr
  d__law_said : FuncData
  a__law_left_out : Addr
  d__law_left_out : FuncData
  a__law_steps : Addr
  d__law_steps : FuncData
  a__law_places : Addr
  d__law_places : FuncData
  a_law : Addr
  d_law : FuncData
  c_WalkError : Addr
  c_InvalidText : Addr
  c_NoWay : Addr
  c_Site : Addr
  k_LIMIT_WORDS : Addr
  k_STEP_WORDS : Addr
  p_parse : Addr
  mc_parse : Value
structure Txt (K : PySem.W.Frag) (mg : Str → Option Value) (A : Ad) : Prop where
  m_abs : mg "abs" = none
  m_all : mg "all" = none
  m_enumerate : mg "enumerate" = none
  m_int : mg "int" = none
  m_isinstance : mg "isinstance" = none
  m_len : mg "len" = none
  m_list : mg "list" = none
  m_max : mg "max" = none
  m_min : mg "min" = none
  m_range : mg "range" = none
  m_set : mg "set" = none
  m_sorted : mg "sorted" = none
  m_str : mg "str" = none
  m_tuple : mg "tuple" = none
  m_zip : mg "zip" = none
  F_i_InvalidText : Fun K "__init__" "InvalidText.__init__" s_i_InvalidText A.a_i_InvalidText A.d_i_InvalidText
  b_i_InvalidText : Binds K A.d_i_InvalidText ["self", "row"] []
  F_i_NoWay : Fun K "__init__" "NoWay.__init__" s_i_NoWay A.a_i_NoWay A.d_i_NoWay
  b_i_NoWay : Binds K A.d_i_NoWay ["self", "place"] []
  F_init : Fun K "__init__" "Site.__init__" s_init A.a_init A.d_init
  b_init : Binds K A.d_init ["self", "names", "limits", "stays", "ways"] []
  F_parse : Fun K "parse" "Site.parse" s_parse A.a_parse A.d_parse
  b_parse : Binds K A.d_parse ["text"] []
  F_strm : Fun K "__str__" "Site.__str__" s_strm A.a_strm A.d_strm
  b_strm : Binds K A.d_strm ["self"] []
  F_eqm : Fun K "__eq__" "Site.__eq__" s_eqm A.a_eqm A.d_eqm
  b_eqm : Binds K A.d_eqm ["self", "other"] []
  g_turned : mg "turned" = some (.ref A.a_turned)
  F_turned : Fun K "turned" "turned" s_turned A.a_turned A.d_turned
  b_turned : Binds K A.d_turned ["site"] []
  g_with_limits : mg "with_limits" = some (.ref A.a_with_limits)
  F_with_limits : Fun K "with_limits" "with_limits" s_with_limits A.a_with_limits A.d_with_limits
  b_with_limits : Binds K A.d_with_limits ["site", "limits"] []
  g_is_name : mg "is_name" = some (.ref A.a_is_name)
  F_is_name : Fun K "is_name" "is_name" s_is_name A.a_is_name A.d_is_name
  b_is_name : Binds K A.d_is_name ["word"] []
  g__places_of : mg "_places_of" = some (.ref A.a__places_of)
  F__places_of : Fun K "_places_of" "_places_of" s__places_of A.a__places_of A.d__places_of
  b__places_of : Binds K A.d__places_of ["rows"] []
  g__place_of : mg "_place_of" = some (.ref A.a__place_of)
  F__place_of : Fun K "_place_of" "_place_of" s__place_of A.a__place_of A.d__place_of
  b__place_of : Binds K A.d__place_of ["words", "firsts"] []
  g__are_ways : mg "_are_ways" = some (.ref A.a__are_ways)
  F__are_ways : Fun K "_are_ways" "_are_ways" s__are_ways A.a__are_ways A.d__are_ways
  b__are_ways : Binds K A.d__are_ways ["name", "words", "firsts"] []
  g__row_text : mg "_row_text" = some (.ref A.a__row_text)
  F__row_text : Fun K "_row_text" "_row_text" s__row_text A.a__row_text A.d__row_text
  b__row_text : Binds K A.d__row_text ["site", "number"] []
  g__ways_back : mg "_ways_back" = some (.ref A.a__ways_back)
  F__ways_back : Fun K "_ways_back" "_ways_back" s__ways_back A.a__ways_back A.d__ways_back
  b__ways_back : Binds K A.d__ways_back ["site", "name"] []
  g__law_feed : mg "_law_feed" = some (.ref A.a__law_feed)
  F__law_feed : Fun K "_law_feed" "_law_feed" s__law_feed A.a__law_feed A.d__law_feed
  b__law_feed : Binds K A.d__law_feed ["script", "k"] []
  g__law_take : mg "_law_take" = some (.ref A.a__law_take)
  F__law_take : Fun K "_law_take" "_law_take" s__law_take A.a__law_take A.d__law_take
  b__law_take : Binds K A.d__law_take ["feed", "many"] []
  g__law_pick : mg "_law_pick" = some (.ref A.a__law_pick)
  F__law_pick : Fun K "_law_pick" "_law_pick" s__law_pick A.a__law_pick A.d__law_pick
  b__law_pick : Binds K A.d__law_pick ["feed", "some"] []
  g__law_word : mg "_law_word" = some (.ref A.a__law_word)
  F__law_word : Fun K "_law_word" "_law_word" s__law_word A.a__law_word A.d__law_word
  b__law_word : Binds K A.d__law_word ["feed"] []
  g__law_drawn : mg "_law_drawn" = some (.ref A.a__law_drawn)
  F__law_drawn : Fun K "_law_drawn" "_law_drawn" s__law_drawn A.a__law_drawn A.d__law_drawn
  b__law_drawn : Binds K A.d__law_drawn ["feed"] []
  g__law_row : mg "_law_row" = some (.ref A.a__law_row)
  F__law_row : Fun K "_law_row" "_law_row" s__law_row A.a__law_row A.d__law_row
  b__law_row : Binds K A.d__law_row ["told"] []
  g__law_text : mg "_law_text" = some (.ref A.a__law_text)
  F__law_text : Fun K "_law_text" "_law_text" s__law_text A.a__law_text A.d__law_text
  b__law_text : Binds K A.d__law_text ["rows"] []
  g__law_turned_rows : mg "_law_turned_rows" = some (.ref A.a__law_turned_rows)
  F__law_turned_rows : Fun K "_law_turned_rows" "_law_turned_rows" s__law_turned_rows A.a__law_turned_rows A.d__law_turned_rows
  b__law_turned_rows : Binds K A.d__law_turned_rows ["rows"] []
  g__law_said : mg "_law_said" = some (.ref A.a__law_said)
  F__law_said : Fun K "_law_said" "_law_said" s__law_said A.a__law_said A.d__law_said
  b__law_said : Binds K A.d__law_said ["text"] []
  g__law_left_out : mg "_law_left_out" = some (.ref A.a__law_left_out)
  F__law_left_out : Fun K "_law_left_out" "_law_left_out" s__law_left_out A.a__law_left_out A.d__law_left_out
  b__law_left_out : Binds K A.d__law_left_out ["rows", "at"] []
  g__law_steps : mg "_law_steps" = some (.ref A.a__law_steps)
  F__law_steps : Fun K "_law_steps" "_law_steps" s__law_steps A.a__law_steps A.d__law_steps
  b__law_steps : Binds K A.d__law_steps ["site"] []
  g__law_places : mg "_law_places" = some (.ref A.a__law_places)
  F__law_places : Fun K "_law_places" "_law_places" s__law_places A.a__law_places A.d__law_places
  b__law_places : Binds K A.d__law_places ["site"] []
  g_law : mg "law" = some (.ref A.a_law)
  F_law : Fun K "law" "law" s_law A.a_law A.d_law
  b_law : Binds K A.d_law ["script"] []
  g_MOST_PLACES : ∃ t, mg "MOST_PLACES" = some (.int 6 t)
  g_LONGEST_NAME : ∃ t, mg "LONGEST_NAME" = some (.int 8 t)
  g_LIMIT_WORDS : mg "LIMIT_WORDS" = some (.ref A.k_LIMIT_WORDS)
  kt_LIMIT_WORDS : ∀ H, SqT K H A.k_LIMIT_WORDS [.str "0", .str "1", .str "2", .str "3", .str "4", .str "5", .str "6", .str "7", .str "8", .str "9"]
  g_STEP_WORDS : mg "STEP_WORDS" = some (.ref A.k_STEP_WORDS)
  kt_STEP_WORDS : ∀ H, SqT K H A.k_STEP_WORDS [.str "1", .str "2", .str "3"]
  g_WalkError : mg "WalkError" = some (.ref A.c_WalkError)
  g_InvalidText : mg "InvalidText" = some (.ref A.c_InvalidText)
  x_InvalidText : OexC K A.c_InvalidText
  xi_InvalidText : PySem.W.findIn K (.ref A.c_InvalidText) "__init__" = some (some (.ref A.a_i_InvalidText))
  xt_InvalidText : PySem.W.typeIn K (.ref A.a_i_InvalidText) = some (.type "function")
  xf_InvalidText : XfC K A.c_InvalidText
  xn_InvalidText : PySem.W.findIn K (.ref A.c_InvalidText) "row" = some none
  g_NoWay : mg "NoWay" = some (.ref A.c_NoWay)
  x_NoWay : OexC K A.c_NoWay
  xi_NoWay : PySem.W.findIn K (.ref A.c_NoWay) "__init__" = some (some (.ref A.a_i_NoWay))
  xt_NoWay : PySem.W.typeIn K (.ref A.a_i_NoWay) = some (.type "function")
  xf_NoWay : XfC K A.c_NoWay
  xn_NoWay : PySem.W.findIn K (.ref A.c_NoWay) "place" = some none
  xe_InvalidText_InvalidText : PySem.W.exmOne K (.ref A.c_InvalidText) (.ref A.c_InvalidText) = some true
  xe_InvalidText_NoWay : PySem.W.exmOne K (.ref A.c_InvalidText) (.ref A.c_NoWay) = some false
  xe_NoWay_InvalidText : PySem.W.exmOne K (.ref A.c_NoWay) (.ref A.c_InvalidText) = some false
  xe_NoWay_NoWay : PySem.W.exmOne K (.ref A.c_NoWay) (.ref A.c_NoWay) = some true
  g_Site : mg "Site" = some (.ref A.c_Site)
  cl_Site : Cls K A.c_Site
  mk_Site : Mk K A.c_Site A.a_init
  na_Site_names : NoAttr K A.c_Site "names"
  na_Site_limits : NoAttr K A.c_Site "limits"
  na_Site_stays : NoAttr K A.c_Site "stays"
  na_Site_ways : NoAttr K A.c_Site "ways"
  sm_Site : Z.StrM K A.c_Site A.a_strm
  eq_Site : Z.EqM K A.c_Site A.a_eqm
  is_Site : Z.IsC K A.c_Site
  st_parse : Z.StM K A.c_Site A.mc_parse "parse" A.p_parse A.a_parse
end Lw

namespace Z
open PySem PySem.Spec PyProof.Rows L2 Evl
variable {K : PySem.W.Frag}
abbrev PL := List D → (List D → Prop) → Prop
def spL (K : PySem.W.Frag) (P : PL) : Sp := fun vs H Q E => ∃ (ds : List D) (F : Hp) (Φ : List D → Prop), P ds Φ ∧ Ex F H ∧ DnL K F ds vs ∧
  ∀ (xs : List D) (p : Addr) (us : List V) (F' H' : Hp), Φ xs → Grow F H F' H' → H p = none → F' p = none → H' p = some (.lst us) → DnL K F' xs us → Q (.ref p) H'
def RunL (K : PySem.W.Frag) (E : L2.St → XK) (Ξ : Xi) (ts : TS) (ρ : Rho) (Φ : List D → Prop) : Prop :=
  ∀ (F0 H0 : Hp) (σ : L2.St) (F H : Hp) (D : Ends), Sd K F0 H0 ρ σ F H → EOk K E Ξ F0 H0 →
    (∀ (xs : List Z.D) (ρ' : Rho) (p : Addr) (us : List V) (σ' : L2.St) (F' H' : Hp), Φ xs → Ex F F' → Sd K F0 H0 ρ' σ' F' H' → H0 p = none → F' p = none → H' p = some (.lst us) → DnL K F' xs us → D.rt (.ref p) H') → ts D σ H
section
variable {E : L2.St → XK} {Ξ : Xi} {ρ : Rho} {te : TE} {tl : TA} {ts tu : TS}
theorem el_call {P : PL} {Φ : List D → Rho → Prop} (h : EvA K E Ξ tl ρ fun ds ρ1 => ∃ Ψ, P ds Ψ ∧ ∀ xs, Ψ xs → Φ xs ρ1) : EvL K E Ξ (tCallSD (spL K P) [] E tl) ρ Φ := fun F0 H0 σ F H Q S e k =>
  h F0 H0 σ F H _ S e fun ds ρ1 vs F1 H1 ⟨Ψ, h1, h2⟩ x1 S1 n1 => by
    rw [List.append_nil]
    exact ⟨ds, F1, Ψ, h1, S1.fh, n1, fun xs p us F' H' hx g hp fp hh n => k xs ρ1 p us F' H' (h2 xs hx) (x1.trans g.ff) (S1.grow g) (S1.new0 hp) fp (S1.newAd hp) hh n⟩
theorem l_seq {Φ : List D → Prop} {J : Rho → Prop} (h : RunS K E Ξ ts ρ fun o => ∃ ρ', o = .nx ρ' ∧ J ρ') (k : ∀ ρ', J ρ' → RunL K E Ξ tu ρ' Φ) : RunL K E Ξ (tSeq ts tu) ρ Φ := fun F0 H0 σ F H D S e q =>
  h F0 H0 σ F H _ S e (fun ρ1 σ1 F1 H1 ⟨ρ', eq, hj⟩ x1 S1 => by
      cases eq
      exact k ρ1 hj F0 H0 σ1 F1 H1 D S1 e fun xs ρ2 p us σ2 F2 H2 hx x2 S2 a b c n => q xs ρ2 p us σ2 F2 H2 hx (x1.trans x2) S2 a b c n)
    (fun _ _ _ _ _ _ ⟨_, eq, _⟩ => by cases eq) (fun _ _ _ _ ⟨_, eq, _⟩ => by cases eq) (fun _ _ _ _ ⟨_, eq, _⟩ => by cases eq)
theorem l_ret {Φ : List D → Prop} (h : EvL K E Ξ te ρ fun xs _ => Φ xs) : RunL K E Ξ (tRet te) ρ Φ := fun F0 H0 σ F H D S e q =>
  h F0 H0 σ F H _ S e fun xs ρ1 p vs F1 H1 h1 x1 S1 a b _ hp n => q xs ρ1 p vs σ F1 H1 h1 x1 S1 a b hp n
theorem Sd.start {N : List Str} {F H : Hp} {ds : List D} {vs : List V} (x : Ex F H) (n : DnL K F ds vs) : Sd K F H (rho0 N.length ds) (L2.start N vs) F H := by
  have hlen := n.length
  refine ⟨Grow.refl x, ?_, fun i s hi => ?_, fun i j s t p h1 h2 h3 h4 => ?_⟩
  · unfold L2.start rho0
    rw [List.length_append, List.length_append, List.length_map, List.length_map, List.length_replicate, List.length_replicate, hlen]
  · unfold rho0 at hi
    by_cases c : i < ds.length
    · rw [List.getElem?_append_left (by rw [List.length_map]; exact c), List.getElem?_map, List.getElem?_eq_getElem c] at hi
      cases hi
      obtain ⟨v, hv, nv⟩ := n.get (List.getElem?_eq_getElem c)
      exact ⟨v, by rw [start_get hv] <;> rfl, nv⟩
    · rw [List.getElem?_append_right (by rw [List.length_map]; omega)] at hi
      rw [rep_un hi]
      trivial
  · unfold rho0 at h1
    by_cases c : i < ds.length
    · rw [List.getElem?_append_left (by rw [List.length_map]; exact c), List.getElem?_map, List.getElem?_eq_getElem c] at h1
      cases h1
      cases h3
    · rw [List.getElem?_append_right (by rw [List.length_map]; omega)] at h1
      rw [rep_un h1] at h3
      cases h3
theorem body_lst {N : List Str} {P : PL} {vs : List V} {H : Hp} {Q : VK} {E' : XK}
    (h : ∀ ds Φ, P ds Φ → RunL K (fun _ => E') noX ts (rho0 N.length ds) Φ) (sp : spL K P vs H Q E') : ts { nx := fun _ H' => Q .non H', rt := Q } (L2.start N vs) H := by
  obtain ⟨ds, F, Φ, h1, x, n, q⟩ := sp
  exact h ds Φ h1 F H (L2.start N vs) F H _ (Sd.start x n) EOk.no fun xs ρ' p us σ' F' H' hx _ S' a b c nn => q xs p us F' H' hx S'.g a b c nn
theorem spL_len {P : PL} {n : Nat} {vs : List V} {H : Hp} {Q : VK} {E : XK} (h : spL K P vs H Q E) (hP : ∀ ds Φ, P ds Φ → ds.length = n) : vs.length = n := by
  obtain ⟨ds, F, Φ, hp, _, nn, _⟩ := h
  rw [← nn.length]
  exact hP ds Φ hp
end
end Z

namespace Lw
open PySem PySem.Spec PyProof.Rows L2 Evl Z
local macro_rules | `(tactic| walk_at "ze") => `(tactic| (first
  | ((with_reducible show EvS _ _ _ (tVar _) _ _); refine ev_var rfl ?_)
  | ((with_reducible show EvS _ _ _ (tOp (rIx _) (tVar _) _) _ _); refine ev_ixO rfl ?_)
  | ((with_reducible show EvS _ _ _ (tCB (rLenU _) (tCons (tVar _) tNil)) _ _); refine ev_lenO rfl ?_)
  | (with_reducible first
    | refine ei_str ?_
    | refine ei_list ?_
    | refine ei_tup ?_
    | refine ei_enum ?_
    | refine ei_rng1 ?_
    | refine ei_rng2 ?_
    | refine ei_rng3 ?_
    | refine ei_zip ?_
    | refine gg_name ?_
    | refine ev_int ?_
    | refine ev_str ?_
    | refine ev_bl ?_
    | refine ev_non ?_
    | refine ea_nil ?_
    | refine ea_cons ?_
    | refine ev_op ?_
    | refine ev_un ?_
    | refine ev_cb ?_
    | refine et_test ?_
    | refine et_B ?_
    | refine et_not ?_
    | refine et_truth ?_
    | refine eo_none ?_
    | refine eo_some ?_
    | refine ev_slice ?_
    | refine ev_tup ?_
    | refine ev_chain ?_
    | refine ev_lst ?_
    | refine o_add ?_
    | refine o_sub ?_
    | refine o_cmp ?_
    | refine o_cmpS ?_
    | refine o_eqS ?_
    | refine o_neS ?_
    | refine o_eqI ?_
    | refine o_neI ?_
    | refine c_int ?_
    | refine c_intB ?_
    | refine c_abs ?_
    | refine c_max2 ?_
    | refine c_min2 ?_
    | refine c_tupL ?_
    | refine c_tupT ?_
    | refine c_listL ?_
    | refine c_listT ?_
    | refine o_isN ?_
    | refine o_notN ?_
    | refine el_lst ?_)
  | ((with_reducible show Cl _ (rLenU _) [_] _); refine c_len (by intro s hs; cases hs <;> first | assumption | omega) rfl ?_)))
local macro_rules | `(tactic| walk_at "zn") => `(tactic| try simp only [List.map_cons, List.map_nil, wipeR_n, wipeR_c, List.set_cons_zero, List.set_cons_succ])
def Feed (xs : List D) : Prop := ∃ a b : Int, xs = [.int a, .int b] ∧ 0 ≤ a ∧ 0 ≤ b ∧ b < 2305843009213693951
def PTake : PQ := fun xs ds Ψ => Feed xs ∧ ∃ m : Int, ds = [.int m] ∧ 0 < m ∧ m < 1073741824 ∧ ∀ (d : Int) (xs' : List D), 0 ≤ d → d < m → Feed xs' → Ψ (.int d) xs'
def PPick : PQ := fun xs ds Ψ => Feed xs ∧ ∃ ys : List D, ds = [.lst ys] ∧ ys ≠ [] ∧ ys.length < 100000 ∧ ∀ (y : D) (xs' : List D), y ∈ ys → Feed xs' → Ψ y xs'


def PWord : PQ := fun xs ds Ψ => Feed xs ∧ ds = [] ∧ ∀ (z : Str) (xs' : List D), 1 ≤ z.length → z.length ≤ 8 → isLow z = true → Feed xs' → Ψ (.str z) xs'
def PFeed : PL := fun ds Φ => ∃ (ns : List Int) (k : Int), ds = [.scr ns, .int k] ∧ 0 ≤ k ∧ k < 1000 ∧ ∀ xs, Feed xs → Φ xs
theorem spQ_len {K : PySem.W.Frag} {P : PQ} {n : Nat} {vs : List V} {H : Hp} {Q : VK} {E : XK} (h : spQ K P vs H Q E) (hP : ∀ xs ds Ψ, P xs ds Ψ → ds.length + 1 = n) : vs.length = n := by
  obtain ⟨p, ws, xs, vs', ds, F, Ψ, rfl, hp, _, _, _, _, nn, _⟩ := h
  rw [List.length_cons, ← nn.length]
  exact hP xs ds Ψ hp
theorem spP_len {K : PySem.W.Frag} {P : PP} {n : Nat} {vs : List V} {H : Hp} {Q : VK} {E : XK} (h : spP K P vs H Q E) (hP : ∀ ds Φ Θ, P ds Φ Θ → ds.length = n) : vs.length = n := by
  obtain ⟨ds, F, Φ, Θ, hp, _, nn, _⟩ := h
  rw [← nn.length]
  exact hP ds Φ Θ hp
theorem atI_ex {α : Type} {xs : List α} {i : Int} (h0 : 0 ≤ i) (h1 : i < xs.length) : ∃ x, atI xs i = some x ∧ x ∈ xs := by
  have h2 : i.toNat < xs.length := by omega
  refine ⟨xs[i.toNat], ?_, List.getElem_mem h2⟩
  have := atI_nat (xs := xs) (j := i.toNat) (List.getElem?_eq_getElem h2)
  rwa [Int.toNat_of_nonneg h0] at this
theorem az_chars : (Str.ofString "abcdefghijklmnopqrstuvwxyz").cps.toList = List.range' 97 26 := by decide +kernel
theorem low_app {x y : Str} (h1 : isLow x = true) (h2 : isLow y = true) : isLow (x ++ y) = true := by
  unfold isLow at *
  have : (x ++ y).cps.toList = x.cps.toList ++ y.cps.toList := TL.tl_append x y
  rw [this, List.all_append, h1, h2]
  rfl
theorem len_app (x y : Str) : (x ++ y).length = x.length + y.length := by
  have := TL.tl_append x y
  show (x ++ y).cps.size = x.cps.size + y.cps.size
  rw [← Array.length_toList, ← Array.length_toList, ← Array.length_toList]
  show (TL.tl (x ++ y)).length = _
  rw [this, List.length_append]
section
variable {P : Program} {w : World} {K : PySem.W.Frag} {mg : Str → Option Value} {base : Heap} {A : Ad}
theorem ok__law_take (T : Txt K mg A) : FnOk P w K mg base (L2.CX P w) 1 A.a__law_take A.d__law_take ["feed", "many"] (spQ K PTake) := by
  refine T.F__law_take.okX sc__law_take (fun vs H Q E h => spQ_len h fun xs ds Ψ hp => by obtain ⟨_, m, rfl, _⟩ := hp; rfl) (fun cdv A' outer s H vs Q E hr h => ⟨_, (pss_cons (ps_if (pt_cmpR op_gtU (pe_ix ix_seq (pv 0) pe_int (fun _ _ => rfl)) pe_int (nomark _)) (pss_cons (ps_set (i := 2) sc__law_take.nd rfl (by first | exact Or.inl rfl | exact Or.inr rfl) (pe_op op_mod (pe_callTy call_intU (by rfl) T.m_int (by decide +kernel) (pa_cons (pe_ix ix_seq (pv 0) pe_int (fun _ _ => rfl)) pa_nil)) (pv 1))) (pss_cons (ps_asg (pe_op op_fdiv (pe_ix ix_seq (pv 0) pe_int (fun _ _ => rfl)) (pv 1)) (pg_sub (pv 0) pe_int set_list)) (pss_one (ps_ret (pv 2))))) pss_nil) (pss_cons (ps_asg (pe_op op_mod (pe_callTy call_intU (by rfl) T.m_int (by decide +kernel) (pa_cons (pe_op op_addU (pe_op op_mul (pe_ix ix_seq (pv 0) pe_int (fun _ _ => rfl)) pe_int) pe_int) pa_nil)) pe_int) (pg_sub (pv 0) pe_int set_list)) (pss_one (ps_ret (pe_op op_mod (pe_callTy call_intU (by rfl) T.m_int (by decide +kernel) (pa_cons (pe_op op_fdiv (pe_ix ix_seq (pv 0) pe_int (fun _ _ => rfl)) pe_int) pa_nil)) (pv 1)))))), ?_⟩)
  · refine body_own (fun xs ds Ψ hp p => ?_) h
    dsimp only [L2.cxOf]
    obtain ⟨⟨a, b, rfl, ha, hb, hb2⟩, n, rfl, hn, hn2, k⟩ := hp
    refine r_seq (r_when ?_)
    repeat walk_at "ze"
    refine ⟨0, _, _, rfl, rfl, rfl, ?_⟩
    repeat walk_at "ze"
    refine ⟨_, rfl, fun c => ?_, fun c => ?_⟩
    · refine r_seq (r_set ?_)
      repeat walk_at "ze"
      refine ⟨0, _, _, rfl, rfl, rfl, ?_⟩
      repeat walk_at "ze"
      refine o_mod hn ?_
      refine r_seq (r_setAt (p := p) (k := 0) ?_)
      repeat walk_at "ze"
      refine ⟨0, _, _, rfl, rfl, rfl, ?_⟩
      repeat walk_at "ze"
      refine o_fdiv ⟨hn, hn2⟩ ⟨_, rfl, Nat.zero_lt_succ _, ?_⟩
      refine r_ret (ev_var rfl ⟨_, rfl, k _ _ (Int.emod_nonneg _ (by omega)) (Int.emod_lt_of_pos _ hn) ⟨_, _, rfl, Int.ediv_nonneg ha (by omega), hb, hb2⟩⟩)
    · refine r_seq (r_setAt (p := p) (k := 1) ?_)
      repeat walk_at "ze"
      refine ⟨1, _, _, rfl, rfl, rfl, ?_⟩
      refine ev_int (op2_I (fun _ => dn_int.mpr rfl) (.inr ⟨by decide, by decide⟩) ?_)
      repeat walk_at "ze"
      refine o_mod (by decide) ⟨_, rfl, by show 1 < 2; decide, ?_⟩
      refine r_ret ?_
      repeat walk_at "ze"
      refine ⟨1, _, _, rfl, rfl, rfl, ?_⟩
      repeat walk_at "ze"
      refine o_fdiv ⟨by decide, by decide⟩ ?_
      repeat walk_at "ze"
      refine o_mod hn ⟨_, rfl, k _ _ (Int.emod_nonneg _ (by omega)) (Int.emod_lt_of_pos _ hn) ⟨_, _, rfl, ha, Int.emod_nonneg _ (by decide), Int.emod_lt_of_pos _ (by decide)⟩⟩
theorem ok__law_pick (T : Txt K mg A) (G__law_take : FnOk P w K mg base (L2.CX P w) 1 A.a__law_take A.d__law_take ["feed", "many"] (spQ K PTake)) : FnOk P w K mg base (L2.CX P w) 2 A.a__law_pick A.d__law_pick ["feed", "some"] (spQ K PPick) := by
  refine T.F__law_pick.okX sc__law_pick (fun vs H Q E h => spQ_len h fun xs ds Ψ hp => by obtain ⟨_, ys, rfl, _⟩ := hp; rfl) (fun cdv A' outer s H vs Q E hr h => ⟨_, (pss_one (ps_ret (pe_ix ix_seq (pv 1) (pe_callSD G__law_take (hr.mono (by decide)) rfl T.g__law_take T.F__law_take.kp T.b__law_take .nil (fun σ => passAt (W := fun cls d _ H => E cls d H) (takes_of rfl rfl rfl rfl) σ) (pa_cons (pv 0) (pa_cons (pe_callB call_len (by rfl) T.m_len PySem.boot_len (pa_cons (pv 1) pa_nil)) pa_nil))) (fun _ _ => rfl)))), ?_⟩)
  · refine body_own (fun xs ds Ψ hp p => ?_) h
    dsimp only [L2.cxOf]
    obtain ⟨hf, ys, rfl, hn, hl, k⟩ := hp
    have hpos : 0 < ys.length := List.length_pos_iff.mpr hn
    refine r_ret ?_
    refine ev_op (ev_var rfl (ev_callQ rfl ?_))
    repeat walk_at "ze"
    refine ⟨_, rfl, _, ⟨hf, _, rfl, by omega, by omega, ?_⟩, fun d xs2 hd => hd⟩
    intro d xs' h0 h1 hf'
    obtain ⟨y, hy, hm⟩ := atI_ex h0 h1
    exact o_ixL hy ⟨_, rfl, k y xs' hm hf'⟩
theorem ok__law_word (T : Txt K mg A) (G__law_take : FnOk P w K mg base (L2.CX P w) 1 A.a__law_take A.d__law_take ["feed", "many"] (spQ K PTake)) (G__law_pick : FnOk P w K mg base (L2.CX P w) 2 A.a__law_pick A.d__law_pick ["feed", "some"] (spQ K PPick)) : FnOk P w K mg base (L2.CX P w) 3 A.a__law_word A.d__law_word ["feed"] (spQ K PWord) := by
  refine T.F__law_word.okX sc__law_word (fun vs H Q E h => spQ_len h fun xs ds Ψ hp => by obtain ⟨_, rfl, _⟩ := hp; rfl) (fun cdv A' outer s H vs Q E hr h => ⟨_, (pss_cons (ps_set (i := 1) sc__law_word.nd rfl (by first | exact Or.inl rfl | exact Or.inr rfl) pe_str) (pss_cons (ps_for (passes_of rfl) rfl (pi_range1 (by rfl) T.m_range (pa_cons (pe_op op_addU pe_int (pe_callSD G__law_take (hr.mono (by decide)) rfl T.g__law_take T.F__law_take.kp T.b__law_take .nil (fun σ => passAt (W := fun cls d _ H => E cls d H) (takes_of rfl rfl rfl rfl) σ) (pa_cons (pv 0) (pa_cons pe_int pa_nil)))) pa_nil)) (pg_name (i := 2) sc__law_word.nd rfl (by first | exact Or.inl rfl | exact Or.inr rfl)) (pss_one (ps_set (i := 1) sc__law_word.nd rfl (by first | exact Or.inl rfl | exact Or.inr rfl) (pe_op op_addU (pv 1) (pe_callSD G__law_pick (hr.mono (by decide)) rfl T.g__law_pick T.F__law_pick.kp T.b__law_pick .nil (fun σ => passAt (W := fun cls d _ H => E cls d H) (takes_of rfl rfl rfl rfl) σ) (pa_cons (pv 0) (pa_cons (pe_callTy (call_listU rfl) (by rfl) T.m_list (by decide +kernel) (pa_cons pe_str pa_nil)) pa_nil))))))) (pss_one (ps_ret (pv 1))))), ?_⟩)
  · refine body_own (fun xs ds Ψ hp p => ?_) h
    dsimp only [L2.cxOf]
    obtain ⟨hf, rfl, k⟩ := hp
    refine r_seq (r_set (ev_str ?_))
    refine r_seq (r_for ?_)
    refine ei_rng1 ?_
    refine ea_cons (ev_op (ev_int (ev_callQ rfl ?_)))
    repeat walk_at "ze"
    refine ⟨_, rfl, _, ⟨hf, 8, rfl, by decide, by decide, fun d xs' h0 h1 hf' => ?_⟩, fun d xs2 hd => hd⟩
    repeat walk_at "ze"
    refine ⟨_, rfl, by omega, by omega, ?_⟩
    refine ⟨fun i ρ => ∃ (z : Str) (xs2 : List D) (t : Slot), ρ = [.ol p xs2, .dt (.str z), t] ∧ z.length = i ∧ isLow z = true ∧ Feed xs2 ∧ t.ad = none, ⟨_, _, _, rfl, rfl, rfl, hf', rfl⟩, ?_, ?_⟩
    · rintro i q ρ2 hq ⟨z, xs2, t, rfl, hz, hlow, hf2, ht⟩
      have hi : i < 8 := by
        have := (List.getElem?_eq_some_iff.mp hq).1
        rw [List.length_map, List.length_range] at this
        omega
      refine gg_name ?_
      refine r_set ?_
      refine ev_op (ev_var rfl (ev_callQ rfl ?_))
      repeat walk_at "ze"
      refine c_listS (by decide) ?_
      repeat walk_at "ze"
      refine ⟨_, rfl, _, ⟨hf2, _, rfl, ?_, ?_, fun y xs' hy hf3 => ?_⟩, fun d xs2 hd => hd⟩
      · rw [az_chars]; simp
      · rw [az_chars]; simp
      rw [az_chars] at hy
      obtain ⟨c, hc, rfl⟩ := List.mem_map.mp hy
      have hc' := List.mem_range'.mp hc
      refine o_addS ?_ ⟨_, _, _, rfl, ?_, ?_, hf3, rfl⟩
      · show z.length + 1 ≤ 100000
        omega
      · rw [len_app, hz]; rfl
      · refine low_app hlow ?_
        obtain ⟨a, ha, rfl⟩ := hc'
        simp [isLow, Letter]
        omega
    · rintro ρ2 ⟨z, xs2, t, rfl, hz, hlow, hf2, ht⟩
      rw [List.length_map, List.length_range] at hz
      exact r_ret (ev_var rfl ⟨_, rfl, k z xs2 (by omega) (by omega) hlow hf2⟩)
theorem ok__law_feed (T : Txt K mg A) : FnOk P w K mg base (L2.CX P w) 1 A.a__law_feed A.d__law_feed ["script", "k"] (spL K PFeed) := by
  refine T.F__law_feed.okX sc__law_feed (fun vs H Q E h => spL_len h fun ds Φ hp => by obtain ⟨_, _, rfl, _⟩ := hp; rfl) (fun cdv A' outer s H vs Q E hr h => ⟨_, (pss_cons (ps_set (i := 2) sc__law_feed.nd rfl (by first | exact Or.inl rfl | exact Or.inr rfl) (pe_ifExp (pt_cmpR op_ltU (pv 1) (pe_callB call_len (by rfl) T.m_len PySem.boot_len (pa_cons (pv 0) pa_nil)) (nomark _)) (pe_ix ix_seq (pv 0) (pv 1) (fun _ _ => rfl)) (pe_op op_addU (pe_op op_mul pe_int (pv 1)) pe_int))) (pss_cons (ps_set (i := 3) sc__law_feed.nd rfl (by first | exact Or.inl rfl | exact Or.inr rfl) (pe_callB (call_max2 rfl) (by rfl) T.m_max (by decide +kernel) (pa_cons pe_int (pa_cons (pe_op op_sub (pe_callB call_abs (by rfl) T.m_abs (by decide +kernel) (pa_cons (pv 2) pa_nil)) (pe_op op_pow pe_int pe_int)) pa_nil)))) (pss_cons (ps_set (i := 4) sc__law_feed.nd rfl (by first | exact Or.inl rfl | exact Or.inr rfl) (pe_op op_mod (pe_callTy call_intU (by rfl) T.m_int (by decide +kernel) (pa_cons (pe_op op_addU (pe_op op_addU (pe_op op_mul (pv 2) pe_int) (pe_op op_mul pe_int (pv 1))) pe_int) pa_nil)) pe_int)) (pss_one (ps_ret (pe_lst (pa_cons (pv 3) (pa_cons (pv 4) pa_nil)))))))), ?_⟩)
  · refine body_lst (fun ds Φ hp => ?_) h
    dsimp only [L2.cxOf]
    obtain ⟨ns, n, rfl, h0, h1, k⟩ := hp
    refine l_seq (J := fun ρ => ∃ c : Int, ρ = [.dt (.scr ns), .dt (.int n), .dt (.int c), .un, .un]) (r_set (ev_if ?_)) ?_
    · repeat walk_at "ze"
      refine ⟨_, rfl, fun c => ?_, fun c => ?_⟩
      · have c' : n < ns.length := of_decide_eq_true c
        obtain ⟨y, hy, _⟩ := atI_ex h0 c'
        repeat walk_at "ze"
        refine o_ixR hy ?_
        exact ⟨_, rfl, _, rfl⟩
      · repeat walk_at "ze"
        refine op2_I (fun _ => dn_int.mpr rfl) (.inl ⟨by decide, by decide⟩) ?_
        repeat walk_at "ze"
        exact ⟨_, rfl, _, rfl⟩
    rintro _ ⟨c, rfl⟩
    refine l_seq (J := fun ρ => ∃ d : Int, 0 ≤ d ∧ ρ = [.dt (.scr ns), .dt (.int n), .dt (.int c), .dt (.int d), .un]) (r_set ?_) ?_
    · repeat walk_at "ze"
      refine o_pow ⟨by decide, by decide, by decide⟩ ?_
      repeat walk_at "ze"
      exact ⟨_, rfl, _, by split <;> omega, rfl⟩
    rintro _ ⟨d, hd, rfl⟩
    refine l_seq (J := fun ρ => ∃ e : Int, 0 ≤ e ∧ e < 2305843009213693951 ∧ ρ = [.dt (.scr ns), .dt (.int n), .dt (.int c), .dt (.int d), .dt (.int e)]) (r_set ?_) ?_
    · repeat walk_at "ze"
      refine op2_I (fun _ => dn_int.mpr rfl) (.inr ⟨by decide, by decide⟩) ?_
      repeat walk_at "ze"
      refine op2_I (fun _ => dn_int.mpr rfl) (.inl ⟨by decide, by decide⟩) ?_
      repeat walk_at "ze"
      refine o_mod (by decide) ?_
      exact ⟨_, rfl, _, Int.emod_nonneg _ (by decide), Int.emod_lt_of_pos _ (by decide), rfl⟩
    rintro _ ⟨e, he1, he2, rfl⟩
    refine l_ret (el_lst ?_)
    repeat walk_at "ze"
    exact ⟨by show 2 ≤ 100000; decide, k _ ⟨_, _, rfl, hd, he1, he2⟩⟩
end
end Lw

namespace Lw
open PySem PySem.Spec PyProof.Rows L2 Evl Z
local macro_rules | `(tactic| walk_at "ze") => `(tactic| (first
  | ((with_reducible show EvS _ _ _ (tVar _) _ _); refine ev_var rfl ?_)
  | ((with_reducible show EvS _ _ _ (tOp (rIx _) (tVar _) _) _ _); refine ev_ixO rfl ?_)
  | ((with_reducible show EvS _ _ _ (tCB (rLenU _) (tCons (tVar _) tNil)) _ _); refine ev_lenO rfl ?_)
  | (with_reducible first
    | refine ei_str ?_
    | refine ei_list ?_
    | refine ei_tup ?_
    | refine ei_enum ?_
    | refine ei_rng1 ?_
    | refine ei_rng2 ?_
    | refine ei_rng3 ?_
    | refine ei_zip ?_
    | refine gg_name ?_
    | refine ev_int ?_
    | refine ev_str ?_
    | refine ev_bl ?_
    | refine ev_non ?_
    | refine ea_nil ?_
    | refine ea_cons ?_
    | refine ev_op ?_
    | refine ev_un ?_
    | refine ev_cb ?_
    | refine et_test ?_
    | refine et_B ?_
    | refine et_not ?_
    | refine et_truth ?_
    | refine eo_none ?_
    | refine eo_some ?_
    | refine ev_slice ?_
    | refine ev_tup ?_
    | refine ev_chain ?_
    | refine ev_lst ?_
    | refine o_add ?_
    | refine o_sub ?_
    | refine o_cmp ?_
    | refine o_cmpS ?_
    | refine o_eqS ?_
    | refine o_neS ?_
    | refine o_eqI ?_
    | refine o_neI ?_
    | refine c_int ?_
    | refine c_intB ?_
    | refine c_abs ?_
    | refine c_max2 ?_
    | refine c_min2 ?_
    | refine c_tupL ?_
    | refine c_tupT ?_
    | refine c_listL ?_
    | refine c_listT ?_
    | refine o_isN ?_
    | refine o_notN ?_
    | refine el_lst ?_)
  | ((with_reducible show Cl _ (rLenU _) [_] _); refine c_len (by intro s hs; cases hs <;> first | assumption | omega) rfl ?_)))
local macro_rules | `(tactic| walk_at "zn") => `(tactic| try simp only [List.map_cons, List.map_nil, wipeR_n, wipeR_c, List.set_cons_zero, List.set_cons_succ])
def PName : PP := fun ds Φ Θ => ∃ w : Str, ds = [.str w] ∧ w.length ≤ 100000 ∧ Φ (.bl (isNameM w))
def PAre : PP := fun ds Φ Θ => ∃ (name : Str) (words firsts : List Str), ds = [.str name, strsD words, keyD firsts] ∧ words ≠ [] ∧ words.length ≤ 1000 ∧ (∀ w ∈ words, w.length ≤ 600) ∧ Φ (.bl (areWaysM name words firsts))
def outP : Option PlaceM → D
  | none => .non
  | some p => placeD p
def PPlace : PP := fun ds Φ Θ => ∃ (words firsts : List Str), ds = [strsD words, keyD firsts] ∧ fineW words = true ∧ Φ (outP (placeM words firsts))
def PPlaces (C : Addr) : PP := fun ds Φ Θ => ∃ rows : List (List Str), ds = [.lst (rows.map strsD)] ∧ fineR rows = true ∧ (∀ ps, placesM rows = .ok ps → Φ (.lst (ps.map placeD))) ∧ ∀ n : Nat, placesM rows = .error n → Θ C (some ("row", .int n))
def PInit : List D → (List Str → List D → Prop) → Prop := fun ds Φ => ∃ (ns ls ss ws : List D) (rs : List (List D)) (a b c d : Bool), ds = [if a then .tup ns else .lst ns, if b then .tup ls else .lst ls, if c then .tup ss else .lst ss, if d then .tup ws else .lst ws] ∧ ws.length < 100000 ∧ (ws = rs.map D.lst ∨ ws = rs.map D.tup) ∧
  Φ ["names", "limits", "stays", "ways"] [.tup ns, .tup ls, .tup ss, .tup (rs.map D.tup)]
def PParse (C X : Addr) : PP := fun ds Φ Θ => ∃ t : Str, ds = [.str t] ∧ fineT t = true ∧ (∀ s, parseM t = .ok s → Φ (siteD C s)) ∧ ∀ n : Nat, parseM t = .error n → Θ X (some ("row", .int n))
theorem lt1 {a b : Nat} : decide (([a] : List Nat) < [b]) = decide (a < b) := by
  simp [List.cons_lt_cons_iff]
theorem az_a : (Str.ofString "a").cps.toList = [97] := by decide +kernel
theorem az_z : (Str.ofString "z").cps.toList = [122] := by decide +kernel
theorem letter_t {c : Nat} (h : (!decide ((⟨#[c]⟩ : Str).cps.toList < (Str.ofString "a").cps.toList)) = true) : (!decide ((Str.ofString "z").cps.toList < (⟨#[c]⟩ : Str).cps.toList)) = Letter c := by
  rw [az_a] at h
  rw [az_z]
  have h : (!decide (([c] : List Nat) < [97])) = true := h
  show (!decide (([122] : List Nat) < [c])) = _
  rw [lt1] at h ⊢
  unfold Letter
  by_cases a : c < 97
  · simp [a] at h
  · by_cases b : 122 < c
    · simp [b, show ¬ c ≤ 122 by omega]
    · simp [b, show c ≤ 122 by omega, show 97 ≤ c by omega]
theorem letter_f {c : Nat} (h : (!decide ((⟨#[c]⟩ : Str).cps.toList < (Str.ofString "a").cps.toList)) = false) : false = Letter c := by
  rw [az_a] at h
  have h : (!decide (([c] : List Nat) < [97])) = false := h
  rw [lt1] at h
  unfold Letter
  by_cases a : c < 97
  · simp [show ¬ 97 ≤ c by omega]
  · simp [a] at h
section
variable {P : Program} {w : World} {K : PySem.W.Frag} {mg : Str → Option Value} {base : Heap} {A : Ad}
theorem ok_is_name (T : Txt K mg A) : FnOk P w K mg base (L2.CX P w) 1 A.a_is_name A.d_is_name ["word"] (spP K PName) := by
  refine T.F_is_name.okX sc_is_name (fun vs H Q E h => spP_len h fun ds Φ Θ hp => by obtain ⟨_, rfl, _⟩ := hp; rfl) (fun cdv A' outer s H vs Q E hr h => ⟨_, (pss_one (ps_ret (pe_and (pe_chain op_leU op_leU pe_int (pe_callB call_len (by rfl) T.m_len PySem.boot_len (pa_cons (pv 0) pa_nil)) (pe_glob (v := .int 8) rfl T.g_LONGEST_NAME.choose_spec ⟨_, rfl⟩)) (pe_one (pe_callB (cr_all rfl) (by rfl) T.m_all (by decide +kernel) (pa_cons (pe_lc (own := [("letter", 1)]) rfl sc_is_name.nd (pi_str (pv 0)) (blkOk_by (own := [("letter", 1)]) (N := N_is_name) (sc := (defScope s_is_name)) (by decide +kernel)) (fun _ _ _ _ _ => (pg_name (i := 1) sc_is_name.nd rfl (by first | exact Or.inl rfl | exact Or.inr rfl))) (fun _ _ _ _ _ => pts_nil) (fun _ _ _ _ _ => (pe_chain op_leU op_leU pe_str (pv 1) pe_str))) pa_nil)))))), ?_⟩)
  · refine body_pure (fun ds Φ Θ hp => ?_) h
    dsimp only [L2.cxOf]
    obtain ⟨w, rfl, hw, k⟩ := hp
    refine r_ret (ev_and ?_)
    repeat walk_at "ze"
    refine ⟨_, rfl, fun c1 => ?_, fun c1 => ?_⟩
    · repeat walk_at "ze"
      refine ⟨_, rfl, fun c2 => ?_, fun c2 => ?_⟩
      · repeat walk_at "ze"
        refine EvL.ev (el_mapF (gt_name (by decide)) w.cps.toList (fun c => .str ⟨#[c]⟩) (fun c => .bl (Letter c)) (ei_str ?_))
        repeat walk_at "ze"
        refine ⟨_, rfl, rfl, ?_, fun c _ => ?_, ?_⟩
        · have : w.cps.toList.length = w.length := Array.length_toList
          have : w.length ≤ 8 := by
            have := of_decide_eq_true c2
            omega
          omega
        · repeat walk_at "ze"
          refine ⟨_, rfl, fun c3 => ?_, fun c3 => ?_⟩
          · repeat walk_at "ze"
            exact ⟨congrArg D.bl (letter_t c3), rfl⟩
          · exact ⟨congrArg D.bl (letter_f c3), rfl⟩
        · refine ea_nil ?_
          rw [show (List.map (fun c => D.bl (Letter c)) w.cps.toList) = (w.cps.toList.map Letter).map D.bl by rw [List.map_map]; rfl]
          refine c_all ?_
          have : isNameM w = (w.cps.toList.map Letter).all id := by
            unfold isNameM isLow
            rw [List.all_map]
            have e1 : decide (1 ≤ w.length) = true := by
              have := of_decide_eq_true c1
              exact decide_eq_true (by omega)
            have e2 : decide (w.length ≤ 8) = true := by
              have := of_decide_eq_true c2
              exact decide_eq_true (by omega)
            rw [e1, e2]
            rfl
          exact this ▸ k
      · have : isNameM w = false := by
          unfold isNameM
          simp at c1 c2
          simp [show ¬ w.length ≤ 8 by omega]
        exact this ▸ k
    · have : isNameM w = false := by
        unfold isNameM
        simp at c1
        simp [show ¬ 1 ≤ w.length by omega]
      exact ⟨false, rfl, fun e => (by cases e), fun _ => this ▸ k⟩
theorem ok__are_ways (T : Txt K mg A) (G_is_name : FnOk P w K mg base (L2.CX P w) 1 A.a_is_name A.d_is_name ["word"] (spP K PName)) : FnOk P w K mg base (L2.CX P w) 2 A.a__are_ways A.d__are_ways ["name", "words", "firsts"] (spP K PAre) := by
  refine T.F__are_ways.okX sc__are_ways (fun vs H Q E h => spP_len h fun ds Φ Θ hp => by obtain ⟨_, _, _, rfl, _⟩ := hp; rfl) (fun cdv A' outer s H vs Q E hr h => ⟨_, (pss_cons (ps_if (PW.pt (pw_or (pt_cmpR (op_neU hr.units) (pe_ix ix_seq (pv 1) pe_int (fun _ _ => rfl)) pe_str (nomark _)) (pw_or (pt_cmpR op_ltU (pe_callB call_len (by rfl) T.m_len PySem.boot_len (pa_cons (pv 1) pa_nil)) pe_int (nomark _)) (pw_or1 (pt_cmpR (op_eqU hr.units) (pe_op op_mod (pe_callB call_len (by rfl) T.m_len PySem.boot_len (pa_cons (pv 1) pa_nil)) pe_int) pe_int (nomark _)))))) (pss_one (ps_ret pe_bl)) pss_nil) (pss_cons (ps_set (i := 3) sc__are_ways.nd rfl (by first | exact Or.inl rfl | exact Or.inr rfl) (pe_stepL (pv 1) (po_some pe_int))) (pss_one (ps_ret (pe_and (pe_callB (cr_all rfl) (by rfl) T.m_all (by decide +kernel) (pa_cons (pe_lc (own := [("end", 4)]) rfl sc__are_ways.nd (pi_list (pv 3)) (blkOk_by (own := [("end", 4)]) (N := N__are_ways) (sc := (defScope s__are_ways)) (by decide +kernel)) (fun _ _ _ _ _ => (pg_name (i := 4) sc__are_ways.nd rfl (by first | exact Or.inl rfl | exact Or.inr rfl))) (fun _ _ _ _ _ => pts_nil) (fun _ _ _ _ _ => (pe_and (pe_cmpR (opK rNeU K (op_neU hr.units) rfl) (pv 4) (pv 0) (nomark _)) (pe_and (pe_cmp (pc_din (hu_of hr) (pv 4) (pv 2)) rfl) (pe_one (pe_callSD G_is_name (hr.mono (by decide)) rfl T.g_is_name T.F_is_name.kp T.b_is_name .nil (fun σ => passL0) (pa_cons (pv 4) pa_nil))))))) pa_nil)) (pe_and (pe_callB (cr_all rfl) (by rfl) T.m_all (by decide +kernel) (pa_cons (pe_lc (own := [("first", 5), ("second", 6)]) rfl sc__are_ways.nd (RZ.pi_zipA (by rfl) T.m_zip (pa_cons (pv 3) (pa_cons (pe_slice sl_U (pv 3) (po_some pe_int) po_none) pa_nil))) (blkOk_by (own := [("first", 5), ("second", 6)]) (N := N__are_ways) (sc := (defScope s__are_ways)) (by decide +kernel)) (fun _ _ _ _ _ => (pg_tupK (K := K) (n := 2) rfl rfl (pgs_cons (pg_name (i := 5) sc__are_ways.nd rfl (by first | exact Or.inl rfl | exact Or.inr rfl)) (pgs_cons (pg_name (i := 6) sc__are_ways.nd rfl (by first | exact Or.inl rfl | exact Or.inr rfl)) pgs_nil)))) (fun _ _ _ _ _ => pts_nil) (fun _ _ _ _ _ => (pe_cmpR op_ltU (pv 5) (pv 6) (nomark _)))) pa_nil)) (pe_one (pe_callB (cr_all rfl) (by rfl) T.m_all (by decide +kernel) (pa_cons (pe_lc (own := [("steps", 7)]) rfl sc__are_ways.nd (pi_list (pe_stepL (pv 1) (po_some pe_int))) (blkOk_by (own := [("steps", 7)]) (N := N__are_ways) (sc := (defScope s__are_ways)) (by decide +kernel)) (fun _ _ _ _ _ => (pg_name (i := 7) sc__are_ways.nd rfl (by first | exact Or.inl rfl | exact Or.inr rfl))) (fun _ _ _ _ _ => pts_nil) (fun _ _ _ _ _ => (pe_cmpR (op_inK (K := K) rfl) (pv 7) (pe_glob (v := .ref A.k_STEP_WORDS) rfl T.g_STEP_WORDS rfl) (by rfl)))) pa_nil))))))))), ?_⟩)
  · refine body_pure (fun ds Φ Θ hp => ?_) h
    dsimp only [L2.cxOf]
    obtain ⟨name, words, firsts, rfl, hn, hl, hz, k⟩ := hp
    have hpos : 0 < words.length := List.length_pos_iff.mpr hn
    have h0 : atI (words.map D.str) 0 = some (.str (words.headD "")) := by
      cases words with
      | nil => exact (hn rfl).elim
      | cons x xs => exact atI_nat (j := 0) rfl
    have early : (words.headD "" != "->" || decide (words.length < 3) || words.length % 2 == 0) = true → Φ (.bl false) := fun e => by
      have : areWaysM name words firsts = false := by unfold areWaysM; rw [if_pos e]
      exact this ▸ k
    have hsmall : ∀ e, e ∈ words → e.length ≤ 100000 := fun e he => Nat.le_trans (hz e he) (by decide)
    refine r_seq (r_when (et_or ?_))
    repeat walk_at "ze"
    refine o_ixL h0 ?_
    repeat walk_at "ze"
    refine ⟨_, rfl, fun c1 => ?_, fun c1 => ⟨fun _ => r_ret (ev_bl (early (by rw [c1]; rfl))), fun z => by cases z⟩⟩
    refine et_or ?_
    repeat walk_at "ze"
    refine ⟨_, rfl, fun c2 => ?_, fun c2 => ⟨fun _ => r_ret (ev_bl (early ?_)), fun z => by cases z⟩⟩
    rotate_left
    · have c2 := of_decide_eq_true c2
      have : words.length < 3 := by
        rw [List.length_map] at c2
        omega
      simp [this]
    repeat walk_at "ze"
    refine o_mod (by decide) ?_
    repeat walk_at "ze"
    refine ⟨_, rfl, fun c3 => ?_, fun c3 => ?_⟩
    · refine r_ret (ev_bl (early ?_))
      rw [beq_iff_eq, List.length_map] at c3
      have : words.length % 2 = 0 := by omega
      simp [this]
    have cc : (words.headD "" != "->" || decide (words.length < 3) || words.length % 2 == 0) = false := by
      have c2 := of_decide_eq_false c2
      rw [List.length_map] at c2
      rw [c1]
      rw [beq_eq_false_iff_ne, List.length_map] at c3
      have a : ¬ words.length < 3 := by omega
      have b : ¬ words.length % 2 = 0 := by omega
      simp [a, b]
    have em : areWaysM name words firsts = ((stepPick words 1 2).all (fun e => e != name && firsts.contains e && isNameM e) &&
      ((stepPick words 1 2).zip (stepPick words 1 2).tail).all (fun p => ltS p.1 p.2) && (stepPick words 2 2).all stepWords.contains) := by
      unfold areWaysM
      rw [if_neg (by rw [cc]; exact Bool.false_ne_true)]
    refine r_seq (r_set (ev_step (by decide) ?_))
    repeat walk_at "ze"
    refine ⟨_, rfl, _, _, rfl, rfl, ?_⟩
    rw [step_map]
    have l1 := step_le (xs := words) (i := 1) (by decide)
    have l2 := step_le (xs := words) (i := 2) (by decide)
    refine r_ret (ev_and ?_)
    repeat walk_at "ze"
    refine EvL.ev (el_mapF (gt_name (by decide)) (stepPick words 1 2) D.str (fun e => .bl (e != name && firsts.contains e && isNameM e)) (ei_list ?_))
    repeat walk_at "ze"
    refine ⟨_, rfl, rfl, by omega, fun e he => ?_, ?_⟩
    · refine gg_name (ev_and ?_)
      repeat walk_at "ze"
      refine ⟨_, rfl, fun d1 => ?_, fun d1 => ⟨by rw [d1]; rfl, rfl⟩⟩
      refine ev_and (ev_dIn ?_)
      repeat walk_at "ze"
      refine ⟨_, rfl, ?_⟩
      repeat walk_at "ze"
      refine ⟨_, _, rfl, _, rfl, fun d2 => ?_, fun d2 => ⟨by rw [d1, d2]; rfl, rfl⟩⟩
      refine ev_call ?_
      repeat walk_at "ze"
      refine ⟨fun d => d = .bl (isNameM e), noT, ⟨e, rfl, hsmall e (step_mem he), rfl⟩, fun d hd => ⟨by rw [hd, d1, d2]; rfl, rfl⟩, fun _ _ z => z.elim⟩
    repeat walk_at "ze"
    rw [show (List.map (fun e => D.bl (e != name && firsts.contains e && isNameM e)) (stepPick words 1 2)) = ((stepPick words 1 2).map fun e => e != name && firsts.contains e && isNameM e).map D.bl by rw [List.map_map]; rfl]
    refine c_all ?_
    rw [List.all_map]
    refine ⟨_, rfl, fun d1 => ?_, fun d1 => ?_⟩
    rotate_left
    · have : areWaysM name words firsts = false := by rw [em, Bool.and_assoc, Bool.and_eq_false_iff]; exact .inl d1
      exact this ▸ k
    refine ev_and ?_
    repeat walk_at "ze"
    refine EvL.ev (el_mapF (gt_tup (gts_name (by decide) (gts_name (by decide) gts_nil))) ((stepPick words 1 2).zip (stepPick words 1 2).tail) (fun p => .tup [.str p.1, .str p.2]) (fun p => .bl (ltS p.1 p.2)) (ei_zip ?_))
    repeat walk_at "ze"
    refine ⟨fun z hz => (by cases hz), ?_⟩
    repeat walk_at "ze"
    refine ⟨_, rfl, ?_⟩
    repeat walk_at "ze"
    refine ⟨_, rfl, ?_⟩
    repeat walk_at "ze"
    rw [cut_tail, ← List.map_tail]
    refine ⟨_, _, .inl rfl, zipD_map _ _, by rw [List.length_zip]; omega, fun p hp => ?_, ?_⟩
    · refine gg_tup rfl (gs_cons ?_)
      refine gg_name (gs_cons ?_)
      refine gg_name (gs_nil ?_)
      repeat walk_at "ze"
      exact ⟨rfl, rfl⟩
    repeat walk_at "ze"
    rw [show (List.map (fun p => D.bl (ltS p.1 p.2)) ((stepPick words 1 2).zip (stepPick words 1 2).tail)) = (((stepPick words 1 2).zip (stepPick words 1 2).tail).map fun p => ltS p.1 p.2).map D.bl by rw [List.map_map]; rfl]
    refine c_all ?_
    rw [List.all_map]
    refine ⟨_, rfl, fun d2 => ?_, fun d2 => ?_⟩
    rotate_left
    · have : areWaysM name words firsts = false := by rw [em, Bool.and_eq_false_iff, Bool.and_eq_false_iff]; exact .inl (.inr d2)
      exact this ▸ k
    repeat walk_at "ze"
    refine EvL.ev (el_mapF (gt_name (by decide)) (stepPick words 2 2) D.str (fun e => .bl (stepWords.contains e)) (ei_list ?_))
    refine ev_step (by decide) ?_
    repeat walk_at "ze"
    refine ⟨_, rfl, _, _, rfl, rfl, ?_⟩
    rw [step_map]
    refine ⟨_, rfl, rfl, by omega, fun e he => ?_, ?_⟩
    · refine gg_name ?_
      repeat walk_at "ze"
      refine ev_kt (zs := stepWords) T.kt_STEP_WORDS (o_inT ⟨rfl, rfl⟩)
    repeat walk_at "ze"
    rw [show (List.map (fun e => D.bl (stepWords.contains e)) (stepPick words 2 2)) = ((stepPick words 2 2).map stepWords.contains).map D.bl by rw [List.map_map]; rfl]
    refine c_all ?_
    have : areWaysM name words firsts = ((stepPick words 2 2).map stepWords.contains).all id := by
      have e1 : (stepPick words 1 2).all (fun e => e != name && firsts.contains e && isNameM e) = true := d1
      have e2 : ((stepPick words 1 2).zip (stepPick words 1 2).tail).all (fun p => ltS p.1 p.2) = true := d2
      rw [em, e1, e2, List.all_map]
      rfl
    exact this ▸ k
end
end Lw

namespace Lw
open PySem PySem.Spec PyProof.Rows L2 Evl Z
local macro_rules | `(tactic| walk_at "ze") => `(tactic| (first
  | ((with_reducible show EvS _ _ _ (tVar _) _ _); refine ev_var rfl ?_)
  | ((with_reducible show EvS _ _ _ (tOp (rIx _) (tVar _) _) _ _); refine ev_ixO rfl ?_)
  | ((with_reducible show EvS _ _ _ (tCB (rLenU _) (tCons (tVar _) tNil)) _ _); refine ev_lenO rfl ?_)
  | (with_reducible first
    | refine ei_str ?_
    | refine ei_list ?_
    | refine ei_tup ?_
    | refine ei_enum ?_
    | refine ei_rng1 ?_
    | refine ei_rng2 ?_
    | refine ei_rng3 ?_
    | refine ei_zip ?_
    | refine gg_name ?_
    | refine ev_int ?_
    | refine ev_str ?_
    | refine ev_bl ?_
    | refine ev_non ?_
    | refine ea_nil ?_
    | refine ea_cons ?_
    | refine ev_op ?_
    | refine ev_un ?_
    | refine ev_cb ?_
    | refine et_test ?_
    | refine et_B ?_
    | refine et_not ?_
    | refine et_truth ?_
    | refine eo_none ?_
    | refine eo_some ?_
    | refine ev_slice ?_
    | refine ev_tup ?_
    | refine ev_chain ?_
    | refine ev_lst ?_
    | refine o_add ?_
    | refine o_sub ?_
    | refine o_cmp ?_
    | refine o_cmpS ?_
    | refine o_eqS ?_
    | refine o_neS ?_
    | refine o_eqI ?_
    | refine o_neI ?_
    | refine c_int ?_
    | refine c_intB ?_
    | refine c_abs ?_
    | refine c_max2 ?_
    | refine c_min2 ?_
    | refine c_tupL ?_
    | refine c_tupT ?_
    | refine c_listL ?_
    | refine c_listT ?_
    | refine o_isN ?_
    | refine o_notN ?_
    | refine el_lst ?_)
  | ((with_reducible show Cl _ (rLenU _) [_] _); refine c_len (by intro s hs; cases hs <;> first | assumption | omega) rfl ?_)))
local macro_rules | `(tactic| walk_at "zn") => `(tactic| try simp only [List.map_cons, List.map_nil, wipeR_n, wipeR_c, List.set_cons_zero, List.set_cons_succ])
theorem rgc2 {n : Nat} (h : n ≤ 100000) : RgC 1 (n : Int) 2 (n / 2) := by
  have e : Builtin.Range.rangeSize 1 (n : Int) 2 = (n / 2 : Nat) := by
    unfold Builtin.Range.rangeSize
    rw [if_pos (by decide)]
    split <;> omega
  have f : ∀ i : Int, -100 ≤ i → i ≤ 200000 → Builtin.Range.rangeFitsLong i = true := fun i a b => by
    unfold Builtin.Range.rangeFitsLong
    rw [Bool.and_eq_true]
    exact ⟨decide_eq_true (by omega), decide_eq_true (by omega)⟩
  refine ⟨by decide, by decide, ?_, e⟩
  unfold Builtin.Range.small
  rw [e, f 1 (by decide) (by decide), f n (by omega) (by omega), f 2 (by decide) (by decide), f (n / 2 : Nat) (by omega) (by omega), if_pos (by decide), f (n + (2 - 1)) (by omega) (by omega), Bool.or_true]
  rfl
theorem cut_drop {ds : List D} {n : Nat} : Z.cutD ds (some (n : Int)) none = ds.drop n := by
  unfold Z.cutD
  rw [HT.sIx_nat, HT.sIx_none]
  by_cases h : n ≤ ds.length
  · rw [Nat.min_eq_left h]
    exact List.take_of_length_le (by rw [List.length_drop]; exact Nat.le_refl _)
  · rw [Nat.min_eq_right (by omega), List.drop_eq_nil_of_le (Nat.le_refl _), List.drop_eq_nil_of_le (by omega), List.take_nil]
section
variable {P : Program} {w : World} {K : PySem.W.Frag} {mg : Str → Option Value} {base : Heap} {A : Ad}
theorem ok__place_of (T : Txt K mg A) (G_is_name : FnOk P w K mg base (L2.CX P w) 1 A.a_is_name A.d_is_name ["word"] (spP K PName)) (G__are_ways : FnOk P w K mg base (L2.CX P w) 2 A.a__are_ways A.d__are_ways ["name", "words", "firsts"] (spP K PAre)) : FnOk P w K mg base (L2.CX P w) 3 A.a__place_of A.d__place_of ["words", "firsts"] (spP K PPlace) := by
  refine T.F__place_of.okX sc__place_of (fun vs H Q E h => spP_len h fun ds Φ Θ hp => by obtain ⟨_, _, rfl, _⟩ := hp; rfl) (fun cdv A' outer s H vs Q E hr h => ⟨_, (pss_cons (ps_if (PW.pt (pw_or (pt_cmpR op_ltU (pe_callB call_len (by rfl) T.m_len PySem.boot_len (pa_cons (pv 0) pa_nil)) pe_int (nomark _)) (pw_or (pt_not (pt_truth (pe_callSD G_is_name (hr.mono (by decide)) rfl T.g_is_name T.F_is_name.kp T.b_is_name .nil (fun σ => passAt (W := fun cls d _ H => E cls d H) (takes_of rfl rfl rfl rfl) σ) (pa_cons (pe_ix ix_seq (pv 0) pe_int (fun _ _ => rfl)) pa_nil)) (by intro _; rfl))) (pw_or1 (pt_cmpR (op_notInK (K := K) rfl) (pe_ix ix_seq (pv 0) pe_int (fun _ _ => rfl)) (pe_glob (v := .ref A.k_LIMIT_WORDS) rfl T.g_LIMIT_WORDS rfl) (by rfl)))))) (pss_one (ps_ret pe_non)) pss_nil) (pss_cons (ps_set (i := 2) sc__place_of.nd rfl (by first | exact Or.inl rfl | exact Or.inr rfl) (pe_cmpR (op_eqU hr.units) (pe_ix ix_seq (pv 0) pe_int (fun _ _ => rfl)) pe_str (nomark _))) (pss_cons (ps_set (i := 3) sc__place_of.nd rfl (by first | exact Or.inl rfl | exact Or.inr rfl) (pe_ifExp (pt_truth (pv 2) (by intro _; rfl)) (pe_slice sl_U (pv 0) (po_some pe_int) po_none) (pe_slice sl_U (pv 0) (po_some pe_int) po_none))) (pss_cons (ps_if (PW.pt (pw_and (pt_truth (pv 3) (by intro _; rfl)) (pw_and1 (pt_not (pt_truth (pe_callSD G__are_ways (hr.mono (by decide)) rfl T.g__are_ways T.F__are_ways.kp T.b__are_ways .nil (fun σ => passAt (W := fun cls d _ H => E cls d H) (takes_of rfl rfl rfl rfl) σ) (pa_cons (pe_ix ix_seq (pv 0) pe_int (fun _ _ => rfl)) (pa_cons (pv 3) (pa_cons (pv 1) pa_nil)))) (by intro _; rfl)))))) (pss_one (ps_ret pe_non)) pss_nil) (pss_cons (by first | exact (ps_setLc (i := 4) (own := [("at", 5)]) rfl sc__place_of.nd rfl rfl (sw_true rfl rfl rfl (by decide +kernel)) (pi_range3 (by rfl) T.m_range (pa_cons pe_int (pa_cons (pe_callB call_len (by rfl) T.m_len PySem.boot_len (pa_cons (pv 3) pa_nil)) (pa_cons pe_int pa_nil)))) (blkOk_by (own := [("at", 5)]) (N := N__place_of) (sc := (defScope s__place_of)) (by decide +kernel)) (fun _ _ _ _ _ => (pg_name (i := 5) sc__place_of.nd rfl (by first | exact Or.inl rfl | exact Or.inr rfl))) (fun _ _ _ _ _ => pts_nil) (fun _ _ _ _ _ => (pe_tup (pa_cons (pe_ix (ixK rIx K ix_seq rfl) (pv 3) (pv 5) (fun _ _ => rfl)) (pa_cons (pe_callTy call_intU (by rfl) T.m_int (by decide +kernel) (pa_cons (pe_ix (ixK rIx K ix_seq rfl) (pv 3) (pe_op (opK rAddU K op_addU rfl) (pv 5) pe_int) (fun _ _ => rfl)) pa_nil)) pa_nil))))) | exact (ps_set (i := 4) sc__place_of.nd rfl (by first | exact Or.inl rfl | exact Or.inr rfl) (pe_lc (own := [("at", 5)]) rfl sc__place_of.nd (pi_range3 (by rfl) T.m_range (pa_cons pe_int (pa_cons (pe_callB call_len (by rfl) T.m_len PySem.boot_len (pa_cons (pv 3) pa_nil)) (pa_cons pe_int pa_nil)))) (blkOk_by (own := [("at", 5)]) (N := N__place_of) (sc := (defScope s__place_of)) (by decide +kernel)) (fun _ _ _ _ _ => (pg_name (i := 5) sc__place_of.nd rfl (by first | exact Or.inl rfl | exact Or.inr rfl))) (fun _ _ _ _ _ => pts_nil) (fun _ _ _ _ _ => (pe_tup (pa_cons (pe_ix (ixK rIx K ix_seq rfl) (pv 3) (pv 5) (fun _ _ => rfl)) (pa_cons (pe_callTy call_intU (by rfl) T.m_int (by decide +kernel) (pa_cons (pe_ix (ixK rIx K ix_seq rfl) (pv 3) (pe_op (opK rAddU K op_addU rfl) (pv 5) pe_int) (fun _ _ => rfl)) pa_nil)) pa_nil))))))) (pss_one (ps_ret (pe_tup (pa_cons (pe_callTy call_intU (by rfl) T.m_int (by decide +kernel) (pa_cons (pe_ix ix_seq (pv 0) pe_int (fun _ _ => rfl)) pa_nil)) (pa_cons (pv 2) (pa_cons (pv 4) pa_nil))))))))))), ?_⟩)
  · refine body_pure (fun ds Φ Θ hp => ?_) h
    dsimp only [L2.cxOf]
    obtain ⟨words, firsts, rfl, hf, k⟩ := hp
    have hf1 : 1 ≤ words.length ∧ words.length ≤ 1000 ∧ ∀ w ∈ words, w.length ≤ 600 := by
      unfold fineW at hf
      simp only [Bool.and_eq_true, decide_eq_true_eq, List.all_eq_true] at hf
      exact ⟨hf.1.1, hf.1.2, hf.2⟩
    obtain ⟨l1, l2, hz⟩ := hf1
    have hg : ∀ i : Nat, i < words.length → atI (words.map D.str) (i : Int) = some (.str (words.getD i "")) := fun i hi => atI_map (atI_D ("" : Str) hi)
    have hgz : ∀ i : Nat, i < words.length → (words.getD i "").length ≤ 600 := fun i hi => hz _ (by
      rw [List.getD_eq_getElem?_getD, List.getElem?_eq_getElem hi]
      exact List.getElem_mem hi)
    have early : (decide (words.length < 3) || !isNameM (words.getD 0 "") || !limitWords.contains (words.getD 1 "")) = true → Φ .non := fun e => by
      have : placeM words firsts = none := by unfold placeM; rw [if_pos e]
      rw [this] at k
      exact k
    refine r_seq (r_when (et_or ?_))
    repeat walk_at "ze"
    refine ⟨_, rfl, fun c1 => ?_, fun c1 => ⟨fun _ => r_ret (ev_non (early ?_)), fun z => by cases z⟩⟩
    rotate_left
    · have c1 := of_decide_eq_true c1
      rw [List.length_map] at c1
      have : words.length < 3 := by omega
      simp [this]
    have c1' : ¬ words.length < 3 := by
      have c1 := of_decide_eq_false c1
      rw [List.length_map] at c1
      omega
    refine et_or ?_
    repeat walk_at "ze"
    refine ev_call ?_
    repeat walk_at "ze"
    refine o_ixL (hg 0 (by omega)) ?_
    repeat walk_at "ze"
    refine ⟨fun d => d = .bl (isNameM (words.getD 0 "")), noT, ⟨_, rfl, Nat.le_trans (hgz 0 (by omega)) (by decide), rfl⟩, ?_, fun _ _ z => z.elim⟩
    rintro _ rfl
    refine ⟨fun s e => (by cases e), _, rfl, fun c2 => ?_, fun c2 => ⟨fun _ => r_ret (ev_non (early ?_)), fun z => by cases z⟩⟩
    rotate_left
    · have c2 : isNameM (words.getD 0 "") = false := by simpa using c2
      rw [c2]
      simp
    have c2 : isNameM (words.getD 0 "") = true := by simpa using c2
    repeat walk_at "ze"
    refine o_ixL (hg 1 (by omega)) ?_
    refine ev_kt (zs := limitWords) T.kt_LIMIT_WORDS (o_inT ?_)
    refine ⟨_, rfl, fun c3 => r_ret (ev_non (early ?_)), fun c3 => ?_⟩
    · have c3 : (!limitWords.contains (words.getD 1 "")) = true := c3
      rw [c3]
      simp
    have c3 : limitWords.contains (words.getD 1 "") = true := by
      have c3 : (!limitWords.contains (words.getD 1 "")) = false := c3
      simpa using c3
    have ee : ¬ (decide (words.length < 3) || !isNameM (words.getD 0 "") || !limitWords.contains (words.getD 1 "")) = true := by
      rw [c2, c3]
      simp [c1']
    refine r_seq (r_set ?_)
    repeat walk_at "ze"
    refine o_ixL (hg 2 (by omega)) ?_
    repeat walk_at "ze"
    refine r_cut (J := fun ρ => ρ = [.dt (strsD words), .dt (keyD firsts), .dt (.bl (words.getD 2 "" == "stay")), .dt (strsD (restM words)), .un, .un]) (r_set (ev_if ?_)) ?_
    · repeat walk_at "ze"
      refine ⟨fun s e => (by cases e), _, rfl, fun c4 => ?_, fun c4 => ?_⟩
      · repeat walk_at "ze"
        refine ⟨fun z e => (by cases e), ?_⟩
        repeat walk_at "ze"
        refine ⟨_, rfl, ?_⟩
        repeat walk_at "ze"
        refine ⟨_, rfl, ?_⟩
        have : restM words = words.drop 3 := by unfold restM; rw [if_pos c4]
        rw [show (3 : Int) = ((3 : Nat) : Int) from rfl, cut_drop, ← List.map_drop, this]
        rfl
      · repeat walk_at "ze"
        refine ⟨fun z e => (by cases e), ?_⟩
        repeat walk_at "ze"
        refine ⟨_, rfl, ?_⟩
        repeat walk_at "ze"
        refine ⟨_, rfl, ?_⟩
        have : restM words = words.drop 2 := by unfold restM; rw [if_neg (by rw [c4]; exact Bool.false_ne_true)]
        rw [show (2 : Int) = ((2 : Nat) : Int) from rfl, cut_drop, ← List.map_drop, this]
        rfl
    rintro _ rfl
    have hr1 : (restM words).length ≤ 1000 := by
      unfold restM
      rw [List.length_drop]
      omega
    have hr2 : ∀ w ∈ restM words, w.length ≤ 600 := fun w hw => hz w (List.mem_of_mem_drop hw)
    refine r_cut (J := fun ρ => ρ = [.dt (strsD words), .dt (keyD firsts), .dt (.bl (words.getD 2 "" == "stay")), .dt (strsD (restM words)), .un, .un] ∧ ((restM words).isEmpty || areWaysM (words.getD 0 "") (restM words) firsts) = true) (r_when (et_and ?_)) ?_
    · repeat walk_at "ze"
      refine ⟨fun s e => (by cases e), _, rfl, fun c5 => ?_, fun c5 => ⟨fun z => (by cases z), fun _ => ?_⟩⟩
      · have c5 : restM words ≠ [] := fun z => by rw [z] at c5; cases c5
        repeat walk_at "ze"
        refine ev_call ?_
        repeat walk_at "ze"
        refine o_ixL (hg 0 (by omega)) ?_
        repeat walk_at "ze"
        refine ⟨fun d => d = .bl (areWaysM (words.getD 0 "") (restM words) firsts), noT, ⟨_, _, _, rfl, c5, hr1, hr2, rfl⟩, ?_, fun _ _ z => z.elim⟩
        rintro _ rfl
        refine ⟨fun s e => (by cases e), _, rfl, fun c6 => ?_, fun c6 => ⟨rfl, ?_⟩⟩
        · refine r_ret (ev_non ?_)
          have : placeM words firsts = none := by
            unfold placeM
            rw [if_neg ee, if_pos]
            have : (restM words).isEmpty = false := by cases hh : restM words with | nil => exact (c5 hh).elim | cons _ _ => rfl
            rw [this, c6]
            rfl
          rw [this] at k
          exact k
        · have : areWaysM (words.getD 0 "") (restM words) firsts = true := by simpa using c6
          rw [this, Bool.or_true]
      · refine ⟨rfl, ?_⟩
        have : restM words = [] := by
          cases hh : restM words with
          | nil => rfl
          | cons a as => rw [hh] at c5; cases c5
        rw [this]
        rfl
    rintro _ ⟨rfl, hw⟩
    have pm : placeM words firsts = some ⟨digitM (words.getD 1 ""), words.getD 2 "" == "stay", waysM (restM words)⟩ := by
      unfold placeM
      rw [if_neg ee, if_neg]
      rw [Bool.or_eq_true] at hw
      intro z
      rw [Bool.and_eq_true] at z
      rcases hw with hw | hw
      · rw [hw] at z; cases z.1
      · rw [hw] at z; cases z.2
    have hlen : ∀ i : Nat, i < (restM words).length / 2 → (restM words).isEmpty = false ∧ areWaysM (words.getD 0 "") (restM words) firsts = true := fun i hi => by
      have : (restM words).isEmpty = false := by
        cases hh : restM words with
        | nil => rw [hh] at hi; simp at hi
        | cons _ _ => rfl
      rw [this] at hw
      exact ⟨this, hw⟩
    have hodd : ∀ i : Nat, i < (restM words).length / 2 → 1 + i * 2 + 1 < (restM words).length ∧ stepWords.contains ((restM words).getD (1 + i * 2 + 1) "") = true := fun i hi => by
      have e1 := (hlen i hi).2
      unfold areWaysM at e1
      split at e1
      · cases e1
      · rename_i hh
        have h3 : ¬ (restM words).length % 2 = 0 := by
          intro z
          apply hh
          simp [z]
        have hlt : 1 + i * 2 + 1 < (restM words).length := by omega
        refine ⟨hlt, ?_⟩
        rw [Bool.and_eq_true] at e1
        have := List.all_eq_true.mp e1.2 _ (even_in (xs := restM words) (i := i) (by omega))
        rw [show 1 + i * 2 + 1 = 2 + 2 * i by omega]
        exact this
    have hgr : ∀ i : Nat, i < (restM words).length → atI ((restM words).map D.str) (i : Int) = some (.str ((restM words).getD i "")) := fun i hi => atI_map (atI_D ("" : Str) hi)
    refine r_seq (r_set (EvL.ev (el_mapF (gt_name (by decide)) (List.range ((restM words).length / 2)) (fun i => .int (1 + (i : Nat) * 2)) (fun i => wayD ((restM words).getD (1 + i * 2) "", digitM ((restM words).getD (1 + i * 2 + 1) ""))) (ei_rng3 ?_))))
    repeat walk_at "ze"
    refine ⟨_, _, _, _, rfl, by rw [List.length_map]; exact rgc2 (by omega), rfl, by rw [List.length_range]; omega, fun i hi => ?_, ?_⟩
    · have hi := List.mem_range.mp hi
      refine gg_name ?_
      repeat walk_at "ze"
      refine o_ixL (i := 1 + (i : Nat) * 2) (hgr (1 + i * 2) (by omega)) ?_
      repeat walk_at "ze"
      refine o_ixL (i := 1 + (i : Nat) * 2 + 1) (hgr (1 + i * 2 + 1) (hodd i hi).1) ?_
      have si := steps_int (hodd i hi).2
      repeat walk_at "ze"
      refine c_intS si.1 si.2 ?_
      repeat walk_at "ze"
      exact ⟨by show 2 ≤ 100000; decide, rfl, rfl⟩
    refine r_ret ?_
    repeat walk_at "ze"
    refine o_ixL (hg 1 (by omega)) ?_
    have si := limit_int c3
    repeat walk_at "ze"
    refine c_intS si.1 si.2 ?_
    repeat walk_at "ze"
    refine ⟨by show 3 ≤ 100000; decide, ?_⟩
    rw [pm] at k
    have : placeD ⟨digitM (words.getD 1 ""), words.getD 2 "" == "stay", waysM (restM words)⟩ = .tup [.int (digitM (words.getD 1 "")), .bl (words.getD 2 "" == "stay"), .lst ((List.range ((restM words).length / 2)).map fun i => wayD ((restM words).getD (1 + i * 2) "", digitM ((restM words).getD (1 + i * 2 + 1) "")))] := by
      unfold placeD waysM
      rw [List.map_map]
      rfl
    rw [← this]
    exact k
end
end Lw

namespace Lw
open PySem PySem.Spec PyProof.Rows L2 Evl Z
local macro_rules | `(tactic| walk_at "ze") => `(tactic| (first
  | ((with_reducible show EvS _ _ _ (tVar _) _ _); refine ev_var rfl ?_)
  | ((with_reducible show EvS _ _ _ (tOp (rIx _) (tVar _) _) _ _); refine ev_ixO rfl ?_)
  | ((with_reducible show EvS _ _ _ (tCB (rLenU _) (tCons (tVar _) tNil)) _ _); refine ev_lenO rfl ?_)
  | (with_reducible first
    | refine ei_str ?_
    | refine ei_list ?_
    | refine ei_tup ?_
    | refine ei_enum ?_
    | refine ei_rng1 ?_
    | refine ei_rng2 ?_
    | refine ei_rng3 ?_
    | refine ei_zip ?_
    | refine gg_name ?_
    | refine ev_int ?_
    | refine ev_str ?_
    | refine ev_bl ?_
    | refine ev_non ?_
    | refine ea_nil ?_
    | refine ea_cons ?_
    | refine ev_op ?_
    | refine ev_un ?_
    | refine ev_cb ?_
    | refine et_test ?_
    | refine et_B ?_
    | refine et_not ?_
    | refine et_truth ?_
    | refine eo_none ?_
    | refine eo_some ?_
    | refine ev_slice ?_
    | refine ev_tup ?_
    | refine ev_chain ?_
    | refine ev_lst ?_
    | refine o_add ?_
    | refine o_sub ?_
    | refine o_cmp ?_
    | refine o_cmpS ?_
    | refine o_eqS ?_
    | refine o_neS ?_
    | refine o_eqI ?_
    | refine o_neI ?_
    | refine c_int ?_
    | refine c_intB ?_
    | refine c_abs ?_
    | refine c_max2 ?_
    | refine c_min2 ?_
    | refine c_tupL ?_
    | refine c_tupT ?_
    | refine c_listL ?_
    | refine c_listT ?_
    | refine o_isN ?_
    | refine o_notN ?_
    | refine el_lst ?_)
  | ((with_reducible show Cl _ (rLenU _) [_] _); refine c_len (by intro s hs; cases hs <;> first | assumption | omega) rfl ?_)))
local macro_rules | `(tactic| walk_at "zn") => `(tactic| try simp only [List.map_cons, List.map_nil, wipeR_n, wipeR_c, List.set_cons_zero, List.set_cons_succ])
def hdD : D → Str
  | .lst (.str z :: _) => z
  | _ => ""
theorem hd_strs {w : List Str} (h : 1 ≤ w.length) : hdD (strsD w) = w.getD 0 "" := by
  cases w with
  | nil => simp at h
  | cons a as => rfl
theorem fineW_1 {w : List Str} (h : fineW w = true) : 1 ≤ w.length := by
  unfold fineW at h
  simp only [Bool.and_eq_true, decide_eq_true_eq, List.all_eq_true] at h
  exact h.1.1
theorem map_snoc {α β : Type} (f : α → β) (xs : List α) (x : α) : xs.map f ++ [f x] = (xs ++ [x]).map f := by rw [List.map_append]; rfl
section
variable {P : Program} {w : World} {K : PySem.W.Frag} {mg : Str → Option Value} {base : Heap} {A : Ad}
theorem ok__places_of (T : Txt K mg A) (G__place_of : FnOk P w K mg base (L2.CX P w) 3 A.a__place_of A.d__place_of ["words", "firsts"] (spP K PPlace)) (G_InvalidText : FnOk P w K mg base (L2.CX P w) 1 A.a_i_InvalidText A.d_i_InvalidText ["self", "row"] (spXI A.c_InvalidText "row")) : FnOk P w K mg base (L2.CX P w) 4 A.a__places_of A.d__places_of ["rows"] (spP K (PPlaces A.c_InvalidText)) := by
  refine T.F__places_of.okX sc__places_of (fun vs H Q E h => spP_len h fun ds Φ Θ hp => by obtain ⟨_, rfl, _⟩ := hp; rfl) (fun cdv A' outer s H vs Q E hr h => ⟨_, (pss_cons (by first | exact (ps_setDc (i := 1) (own := [("words", 5)]) rfl sc__places_of.nd rfl rfl (sw_trueD rfl rfl rfl (by decide +kernel)) (pi_list (pv 0)) (blkOk_by (own := [("words", 5)]) (N := N__places_of) (sc := (defScope s__places_of)) (by decide +kernel)) (fun _ _ _ _ _ => (pg_name (i := 5) sc__places_of.nd rfl (by first | exact Or.inl rfl | exact Or.inr rfl))) (fun _ _ _ _ _ => pts_nil) (fun _ _ _ _ _ => (pe_ix (ixK rIx K ix_seq rfl) (pv 5) pe_int (fun _ _ => rfl))) (fun _ _ _ _ _ => pe_bl)) | exact (ps_set (i := 1) sc__places_of.nd rfl (by first | exact Or.inl rfl | exact Or.inr rfl) (pe_dc (own := [("words", 5)]) rfl sc__places_of.nd (pi_list (pv 0)) (blkOk_by (own := [("words", 5)]) (N := N__places_of) (sc := (defScope s__places_of)) (by decide +kernel)) (fun _ _ _ _ _ => (pg_name (i := 5) sc__places_of.nd rfl (by first | exact Or.inl rfl | exact Or.inr rfl))) (fun _ _ _ _ _ => pts_nil) (fun _ _ _ _ _ => (pe_ix (ixK rIx K ix_seq rfl) (pv 5) pe_int (fun _ _ => rfl))) (fun _ _ _ _ _ => pe_bl)))) (pss_cons (ps_set (i := 2) sc__places_of.nd rfl (by first | exact Or.inl rfl | exact Or.inr rfl) pe_dnewK) (pss_cons (ps_set (i := 3) sc__places_of.nd rfl (by first | exact Or.inl rfl | exact Or.inr rfl) (pe_lst pa_nil)) (pss_cons (ps_for (passes_of rfl) rfl (pi_enum (by rfl) T.m_enumerate (pa_cons (pv 0) pa_nil)) (pg_tupK (K := K) (n := 2) rfl rfl (pgs_cons (pg_name (i := 4) sc__places_of.nd rfl (by first | exact Or.inl rfl | exact Or.inr rfl)) (pgs_cons (pg_name (i := 5) sc__places_of.nd rfl (by first | exact Or.inl rfl | exact Or.inr rfl)) pgs_nil))) (pss_cons (ps_set (i := 6) sc__places_of.nd rfl (by first | exact Or.inl rfl | exact Or.inr rfl) (pe_callSD G__place_of (hr.mono (by decide)) rfl T.g__place_of T.F__place_of.kp T.b__place_of .nil (fun σ => passAt (W := fun cls d _ H => E cls d H) (takes_of rfl rfl rfl rfl) σ) (pa_cons (pv 5) (pa_cons (pv 1) pa_nil)))) (pss_cons (ps_if (PW.pt (pw_or (pt_cmpR op_geU (pv 4) (pe_glob (v := .int 6) rfl T.g_MOST_PLACES.choose_spec ⟨_, rfl⟩) (nomark _)) (pw_or (pt_cmpR op_isN (pv 6) pe_non (nomark _)) (pw_or1 (pt_cmp (pc_din (hu_of hr) (pe_ix ix_seq (pv 5) pe_int (fun _ _ => rfl)) (pv 2)) rfl))))) (pss_one (ps_raise rfl (takes_of rfl rfl rfl rfl) (pmk_oex T.x_InvalidText T.xi_InvalidText T.xt_InvalidText G_InvalidText (hr.mono (by decide)) T.b_i_InvalidText .nil passL rfl T.g_InvalidText (pa_cons (pv 4) pa_nil)))) pss_nil) (pss_cons (ps_dput (hu_of hr) (pv 2) (pe_ix ix_seq (pv 5) pe_int (fun _ _ => rfl)) pe_bl rfl) (pss_one (ps_expr (pe_bm PySem.F.plainAttrs_list PySem.F.slot_list_append PySem.F.type_list_append mt_append (pv 3) (pa_cons (pv 6) pa_nil)))))))) (pss_one (ps_ret (pv 3))))))), ?_⟩)
  · refine body_pure (fun ds Φ Θ hp => ?_) h
    dsimp only [L2.cxOf]
    obtain ⟨rows, rfl, hf, kok, kerr⟩ := hp
    have hf1 : rows.length ≤ 1000 ∧ ∀ w ∈ rows, fineW w = true := by
      unfold fineR at hf
      simp only [Bool.and_eq_true, decide_eq_true_eq, List.all_eq_true] at hf
      exact hf
    obtain ⟨hl, hw⟩ := hf1
    have hat : ∀ w ∈ rows, atI (w.map D.str) 0 = some (.str (w.getD 0 "")) := fun w h => atI_map (atI_D (i := 0) ("" : Str) (fineW_1 (hw w h)))
    refine r_seq (r_set (ev_dcT (gt_name (by decide)) hdD (ei_list ?_)))
    repeat walk_at "ze"
    refine ⟨_, rfl, by rw [List.length_map]; omega, fun d hd => ?_, ?_⟩
    · obtain ⟨w, hm, rfl⟩ := List.mem_map.mp hd
      refine gg_name ?_
      repeat walk_at "ze"
      refine o_ixL (hat w hm) ?_
      exact ⟨by rw [hd_strs (fineW_1 (hw w hm))], rfl⟩
    have e1 : (rows.map strsD).map hdD = firstsM rows := by
      rw [List.map_map]
      exact List.map_congr_left fun w h => hd_strs (fineW_1 (hw w h))
    rw [e1]
    refine r_seq (r_newD fun q => ?_)
    refine r_seq (r_setL (el_lst (ea_nil ⟨by decide, fun p => ?_⟩)))
    refine r_seq (r_for (ei_enum ?_))
    repeat walk_at "ze"
    refine ⟨_, rfl, fun i ρ => ∃ (seen : List Str) (acc : List PlaceM) (s4 s5 s6 : Slot), ρ = [.dt (.lst (rows.map strsD)), .dt (keyD (keysOf (firstsM rows))), .od q seen (seen.map fun _ => .bl true), .ol p (acc.map placeD), s4, s5, s6] ∧
      (s4.ad = none ∧ s5.ad = none ∧ s6.ad = none) ∧ seen.length = i ∧ acc.length = i ∧ goM (keysOf (firstsM rows)) i seen acc (rows.drop i) = placesM rows, ⟨[], [], .un, .un, .un, rfl, ⟨rfl, rfl, rfl⟩, rfl, rfl, rfl⟩, ?_, ?_⟩
    · rintro i d ρ hd ⟨seen, acc, s4, s5, s6, rfl, ⟨n4, n5, n6⟩, ls, la, hgo⟩
      rw [enumD_get, List.getElem?_map] at hd
      have hi : i < rows.length := by
        by_cases c : i < rows.length
        · exact c
        · rw [List.getElem?_eq_none (by omega)] at hd
          cases hd
      rw [List.getElem?_eq_getElem hi] at hd
      cases hd
      have hm : rows[i] ∈ rows := List.getElem_mem hi
      rw [List.drop_eq_getElem_cons hi] at hgo
      generalize rows[i] = w at *
      refine gg_tup rfl (gs_cons ?_)
      refine gg_name (gs_cons ?_)
      refine gg_name (gs_nil ?_)
      refine r_seq (r_set (ev_call ?_))
      repeat walk_at "ze"
      refine ⟨fun d => d = outP (placeM w (keysOf (firstsM rows))), noT, ⟨w, _, rfl, hw w hm, rfl⟩, ?_, fun _ _ z => z.elim⟩
      rintro _ rfl
      refine r_seq (r_when (et_or ?_))
      repeat walk_at "ze"
      refine ⟨_, rfl, fun c1 => ?_, fun c1 => ⟨fun _ => r_raise ?_, fun z => (by cases z)⟩⟩
      rotate_left
      · repeat walk_at "ze"
        refine ⟨_, rfl, kerr i ?_⟩
        rw [← hgo]
        unfold goM
        have := of_decide_eq_true c1
        rw [if_pos (decide_eq_true (by omega))]
      have c1' : ¬ decide (6 ≤ i) = true := by
        have := of_decide_eq_false c1
        simp
        omega
      refine et_or ?_
      repeat walk_at "ze"
      cases hp : placeM w (keysOf (firstsM rows)) with
      | none =>
        refine ⟨true, rfl, fun z => (by cases z), fun _ => ⟨fun _ => r_raise ?_, fun z => (by cases z)⟩⟩
        repeat walk_at "ze"
        refine ⟨_, rfl, kerr i ?_⟩
        rw [← hgo]
        unfold goM
        rw [if_neg c1', hp]
      | some pl =>
        refine ⟨false, rfl, fun _ => ?_, fun z => (by cases z)⟩
        refine et_B (ev_dInO rfl ?_)
        repeat walk_at "ze"
        refine o_ixL (hat w hm) ⟨rfl, _, rfl, _, rfl, fun c2 => r_raise ?_, fun c2 => ?_⟩
        · repeat walk_at "ze"
          refine ⟨_, rfl, kerr i ?_⟩
          rw [← hgo]
          unfold goM
          rw [if_neg c1', hp]
          show (if seen.contains (w.getD 0 "") = true then _ else _) = _
          rw [if_pos c2]
        · refine r_seq (r_dput rfl (by omega) ?_)
          repeat walk_at "ze"
          refine ⟨rfl, ?_⟩
          repeat walk_at "ze"
          refine o_ixL (hat w hm) ⟨rfl, _, rfl, c2, ?_⟩
          refine r_app rfl (by rw [List.length_map]; omega) ?_
          repeat walk_at "ze"
          refine ⟨_, rfl, by rw [List.length_map]; omega, seen ++ [w.getD 0 ""], acc ++ [pl], .dt (.int i), .dt (strsD w), .dt (placeD pl), ?_, ⟨rfl, rfl, rfl⟩, by rw [List.length_append, ls]; rfl, by rw [List.length_append, la]; rfl, ?_⟩
          · rw [List.map_append, List.map_append]
            rfl
          · rw [← hgo]
            conv => rhs; unfold goM
            rw [if_neg c1', hp]
            show _ = (if seen.contains (w.getD 0 "") = true then _ else _)
            rw [if_neg (by rw [c2]; exact Bool.false_ne_true)]
    · rintro ρ ⟨seen, acc, s4, s5, s6, rfl, _, ls, la, hgo⟩
      rw [enumD_len, List.length_map, List.drop_length] at hgo
      refine r_ret (ev_frz rfl (kok acc ?_))
      rw [← hgo]
      rfl
end
end Lw

namespace Lw
open PySem PySem.Spec PyProof.Rows L2 Evl Z
local macro_rules | `(tactic| walk_at "ze") => `(tactic| (first
  | ((with_reducible show EvS _ _ _ (tVar _) _ _); refine ev_var rfl ?_)
  | ((with_reducible show EvS _ _ _ (tOp (rIx _) (tVar _) _) _ _); refine ev_ixO rfl ?_)
  | ((with_reducible show EvS _ _ _ (tCB (rLenU _) (tCons (tVar _) tNil)) _ _); refine ev_lenO rfl ?_)
  | (with_reducible first
    | refine ei_str ?_
    | refine ei_list ?_
    | refine ei_tup ?_
    | refine ei_enum ?_
    | refine ei_rng1 ?_
    | refine ei_rng2 ?_
    | refine ei_rng3 ?_
    | refine ei_zip ?_
    | refine gg_name ?_
    | refine ev_int ?_
    | refine ev_str ?_
    | refine ev_bl ?_
    | refine ev_non ?_
    | refine ea_nil ?_
    | refine ea_cons ?_
    | refine ev_op ?_
    | refine ev_un ?_
    | refine ev_cb ?_
    | refine et_test ?_
    | refine et_B ?_
    | refine et_not ?_
    | refine et_truth ?_
    | refine eo_none ?_
    | refine eo_some ?_
    | refine ev_slice ?_
    | refine ev_tup ?_
    | refine ev_chain ?_
    | refine ev_lst ?_
    | refine o_add ?_
    | refine o_sub ?_
    | refine o_cmp ?_
    | refine o_cmpS ?_
    | refine o_eqS ?_
    | refine o_neS ?_
    | refine o_eqI ?_
    | refine o_neI ?_
    | refine c_int ?_
    | refine c_intB ?_
    | refine c_abs ?_
    | refine c_max2 ?_
    | refine c_min2 ?_
    | refine c_tupL ?_
    | refine c_tupT ?_
    | refine c_listL ?_
    | refine c_listT ?_
    | refine o_isN ?_
    | refine o_notN ?_
    | refine el_lst ?_)
  | ((with_reducible show Cl _ (rLenU _) [_] _); refine c_len (by intro s hs; cases hs <;> first | assumption | omega) rfl ?_)))
local macro_rules | `(tactic| walk_at "zn") => `(tactic| try simp only [List.map_cons, List.map_nil, wipeR_n, wipeR_c, List.set_cons_zero, List.set_cons_succ])
theorem spMk_len {K : PySem.W.Frag} {C : Addr} {P : List D → (List Str → List D → Prop) → Prop} {n : Nat} {vs : List V} {H : Hp} {Q : VK} {E : XK} (h : spMk K C P vs H Q E) (hP : ∀ ds Φ, P ds Φ → ds.length + 1 = n) : vs.length = n := by
  obtain ⟨x, dx, ws, ds, F, Φ, rfl, hp, _, _, _, _, _, nn, _⟩ := h
  rw [List.length_cons, ← nn.length]
  exact hP ds Φ hp
theorem noOwn {ρ : Rho} (h : ρ.all (fun s => s.ad.isNone) = true) : ∀ s ∈ ρ, s.ad = none := fun s hs => Option.isNone_iff_eq_none.mp (List.all_eq_true.mp h s hs)
theorem c_tupA {K : PySem.W.Frag} {Ψ : D → Prop} {ds : List D} {a : Bool} (h : Ψ (.tup ds)) : Cl K (rTupOf K) [if a then .tup ds else .lst ds] Ψ := by
  cases a with
  | true => exact c_tupT h
  | false => exact c_tupL h
theorem go_len {ks : List Str} : ∀ {rows : List (List Str)} {n : Nat} {seen : List Str} {acc ps : List PlaceM}, goM ks n seen acc rows = .ok ps → ps.length = acc.length + rows.length
  | [], n, seen, acc, ps, h => by
    unfold goM at h
    cases h
    rfl
  | w :: ws, n, seen, acc, ps, h => by
    unfold goM at h
    split at h
    · cases h
    · split at h
      · cases h
      · split at h
        · cases h
        · have := go_len h
          simp only [List.length_append, List.length_cons, List.length_nil] at this ⊢
          omega
theorem places_len {rows : List (List Str)} {ps : List PlaceM} (h : placesM rows = .ok ps) : ps.length = rows.length := by
  have := go_len h
  rw [this]
  exact Nat.zero_add _
section
variable {P : Program} {w : World} {K : PySem.W.Frag} {mg : Str → Option Value} {base : Heap} {A : Ad}
theorem ok_i_InvalidText (T : Txt K mg A) : FnOk P w K mg base (L2.CX P w) 1 A.a_i_InvalidText A.d_i_InvalidText ["self", "row"] (spXI A.c_InvalidText "row") := by
  refine T.F_i_InvalidText.okX sc_i_InvalidText (fun vs H Q E h => by obtain ⟨a, v, rfl, _⟩ := h; rfl) (fun cdv A' outer s H vs Q E hr h => ⟨_, (pss_one (ps_ost (pv 0) (pv 1))), ?_⟩)
  · obtain ⟨a, v, rfl, ha, k⟩ := h
    exact ⟨v, rfl, .ref a, rfl, a, A.c_InvalidText, rfl, T.x_InvalidText, T.xn_InvalidText, .inl ⟨ha, fun dx h1 h2 => k dx h1 h2⟩⟩
theorem ok_i_NoWay (T : Txt K mg A) : FnOk P w K mg base (L2.CX P w) 1 A.a_i_NoWay A.d_i_NoWay ["self", "place"] (spXI A.c_NoWay "place") := by
  refine T.F_i_NoWay.okX sc_i_NoWay (fun vs H Q E h => by obtain ⟨a, v, rfl, _⟩ := h; rfl) (fun cdv A' outer s H vs Q E hr h => ⟨_, (pss_one (ps_ost (pv 0) (pv 1))), ?_⟩)
  · obtain ⟨a, v, rfl, ha, k⟩ := h
    exact ⟨v, rfl, .ref a, rfl, a, A.c_NoWay, rfl, T.x_NoWay, T.xn_NoWay, .inl ⟨ha, fun dx h1 h2 => k dx h1 h2⟩⟩
theorem ok_init (T : Txt K mg A) : FnOk P w K mg base (L2.CX P w) 1 A.a_init A.d_init ["self", "names", "limits", "stays", "ways"] (spMk K A.c_Site PInit) := by
  refine T.F_init.okX sc_init (fun vs H Q E h => spMk_len h fun ds Φ hp => by obtain ⟨_, _, _, _, _, _, _, _, _, rfl, _⟩ := hp; rfl) (fun cdv A' outer s H vs Q E hr h => ⟨_, (pss_cons (ps_fld (pv 0) (pe_callTy call_tuple_of (by rfl) T.m_tuple (by decide +kernel) (pa_cons (pv 1) pa_nil)) rfl) (pss_cons (ps_fld (pv 0) (pe_callTy call_tuple_of (by rfl) T.m_tuple (by decide +kernel) (pa_cons (pv 2) pa_nil)) rfl) (pss_cons (ps_fld (pv 0) (pe_callTy call_tuple_of (by rfl) T.m_tuple (by decide +kernel) (pa_cons (pv 3) pa_nil)) rfl) (pss_one (ps_fld (pv 0) (pe_callTy call_tuple_of (by rfl) T.m_tuple (by decide +kernel) (pa_cons (pe_lc (own := [("row", 5)]) rfl sc_init.nd (pi_seq (K := K) rfl (pv 4)) (blkOk_by (own := [("row", 5)]) (N := N_init) (sc := (defScope s_init)) (by decide +kernel)) (fun _ _ _ _ _ => (pg_name (i := 5) sc_init.nd rfl (by first | exact Or.inl rfl | exact Or.inr rfl))) (fun _ _ _ _ _ => pts_nil) (fun _ _ _ _ _ => (pe_callTy (caK rTupOf K call_tuple_of rfl) (by rfl) T.m_tuple (by decide +kernel) (pa_cons (pv 5) pa_nil)))) pa_nil)) rfl))))), ?_⟩)
  · refine body_make (fun ds Φ hp x dx => ?_) h
    dsimp only [L2.cxOf]
    obtain ⟨ns, ls, ss, ws, rs, a, b, c, dd, rfl, hw, hws, k⟩ := hp
    refine mk_seq (mk_fld T.cl_Site T.na_Site_names rfl (by decide) ?_)
    repeat walk_at "ze"
    refine c_tupA ⟨noOwn rfl, ?_⟩
    refine mk_seq (mk_fld T.cl_Site T.na_Site_limits rfl (by decide) ?_)
    repeat walk_at "ze"
    refine c_tupA ⟨noOwn rfl, ?_⟩
    refine mk_seq (mk_fld T.cl_Site T.na_Site_stays rfl (by decide) ?_)
    repeat walk_at "ze"
    refine c_tupA ⟨noOwn rfl, ?_⟩
    refine mk_fld T.cl_Site T.na_Site_ways rfl (by decide) ?_
    repeat walk_at "ze"
    have el : rs.length = ws.length := by rcases hws with e | e <;> rw [e, List.length_map]
    cases dd <;> rcases hws with e | e
    · refine EvL.ev (el_mapF (gt_name (by decide)) rs D.lst D.tup (ei_seqL ?_))
      repeat walk_at "ze"
      refine ⟨_, rfl, e, by omega, fun r hr => ?_, ?_⟩
      · refine gg_name ?_
        repeat walk_at "ze"
        exact ⟨rfl, rfl⟩
      · repeat walk_at "ze"
        exact ⟨noOwn rfl, k⟩
    · refine EvL.ev (el_mapF (gt_name (by decide)) rs D.tup D.tup (ei_seqL ?_))
      repeat walk_at "ze"
      refine ⟨_, rfl, e, by omega, fun r hr => ?_, ?_⟩
      · refine gg_name ?_
        repeat walk_at "ze"
        exact ⟨rfl, rfl⟩
      · repeat walk_at "ze"
        exact ⟨noOwn rfl, k⟩
    · refine EvL.ev (el_mapF (gt_name (by decide)) rs D.lst D.tup (ei_seqT ?_))
      repeat walk_at "ze"
      refine ⟨_, rfl, e, by omega, fun r hr => ?_, ?_⟩
      · refine gg_name ?_
        repeat walk_at "ze"
        exact ⟨rfl, rfl⟩
      · repeat walk_at "ze"
        exact ⟨noOwn rfl, k⟩
    · refine EvL.ev (el_mapF (gt_name (by decide)) rs D.tup D.tup (ei_seqT ?_))
      repeat walk_at "ze"
      refine ⟨_, rfl, e, by omega, fun r hr => ?_, ?_⟩
      · refine gg_name ?_
        repeat walk_at "ze"
        exact ⟨rfl, rfl⟩
      · repeat walk_at "ze"
        exact ⟨noOwn rfl, k⟩
theorem ok_parse (T : Txt K mg A) (G__places_of : FnOk P w K mg base (L2.CX P w) 4 A.a__places_of A.d__places_of ["rows"] (spP K (PPlaces A.c_InvalidText))) (G_Site : FnOk P w K mg base (L2.CX P w) 1 A.a_init A.d_init ["self", "names", "limits", "stays", "ways"] (spMk K A.c_Site PInit)) (G_InvalidText : FnOk P w K mg base (L2.CX P w) 1 A.a_i_InvalidText A.d_i_InvalidText ["self", "row"] (spXI A.c_InvalidText "row")) : FnOk P w K mg base (L2.CX P w) 5 A.a_parse A.d_parse ["text"] (spP K (PParse A.c_Site A.c_InvalidText)) := by
  refine T.F_parse.okX sc_parse (fun vs H Q E h => spP_len h fun ds Φ Θ hp => by obtain ⟨_, rfl, _⟩ := hp; rfl) (fun cdv A' outer s H vs Q E hr h => ⟨_, (pss_cons (ps_if (pt_not (pt_truth (pe_callB call_isi (by rfl) T.m_isinstance (by decide +kernel) (pa_cons (pv 0) (pa_cons (pe_bltn (v := .ty "str") (u := .type "str") (by rfl) T.m_str (by decide +kernel) rfl) pa_nil))) (by intro _; rfl))) (pss_one (ps_raise rfl (takes_of rfl rfl rfl rfl) (pmk_oex T.x_InvalidText T.xi_InvalidText T.xt_InvalidText G_InvalidText (hr.mono (by decide)) T.b_i_InvalidText .nil passL rfl T.g_InvalidText (pa_cons pe_int pa_nil)))) pss_nil) (pss_cons (by first | exact (ps_setLc (i := 1) (own := [("row", 3)]) rfl sc_parse.nd rfl rfl (sw_true rfl rfl rfl (by decide +kernel)) (pi_list (pe_split (pv 0) pe_str)) (blkOk_by (own := [("row", 3)]) (N := N_parse) (sc := (defScope s_parse)) (by decide +kernel)) (fun _ _ _ _ _ => (pg_name (i := 3) sc_parse.nd rfl (by first | exact Or.inl rfl | exact Or.inr rfl))) (fun _ _ _ _ _ => pts_nil) (fun _ _ _ _ _ => (pe_split (pv 3) pe_str))) | exact (ps_set (i := 1) sc_parse.nd rfl (by first | exact Or.inl rfl | exact Or.inr rfl) (pe_lc (own := [("row", 3)]) rfl sc_parse.nd (pi_list (pe_split (pv 0) pe_str)) (blkOk_by (own := [("row", 3)]) (N := N_parse) (sc := (defScope s_parse)) (by decide +kernel)) (fun _ _ _ _ _ => (pg_name (i := 3) sc_parse.nd rfl (by first | exact Or.inl rfl | exact Or.inr rfl))) (fun _ _ _ _ _ => pts_nil) (fun _ _ _ _ _ => (pe_split (pv 3) pe_str))))) (pss_cons (ps_set (i := 2) sc_parse.nd rfl (by first | exact Or.inl rfl | exact Or.inr rfl) (pe_callSD G__places_of (hr.mono (by decide)) rfl T.g__places_of T.F__places_of.kp T.b__places_of .nil (fun σ => passAt (W := fun cls d _ H => E cls d H) (takes_of rfl rfl rfl rfl) σ) (pa_cons (pv 1) pa_nil))) (pss_one (ps_ret (pe_make T.mk_Site G_Site (hr.mono (by decide)) rfl T.g_Site T.b_init .nil passL (pa_cons (pe_lc (own := [("words", 4)]) rfl sc_parse.nd (pi_list (pv 1)) (blkOk_by (own := [("words", 4)]) (N := N_parse) (sc := (defScope s_parse)) (by decide +kernel)) (fun _ _ _ _ _ => (pg_name (i := 4) sc_parse.nd rfl (by first | exact Or.inl rfl | exact Or.inr rfl))) (fun _ _ _ _ _ => pts_nil) (fun _ _ _ _ _ => (pe_ix (ixK rIx K ix_seq rfl) (pv 4) pe_int (fun _ _ => rfl)))) (pa_cons (pe_lc (own := [("limit", 5), ("_", 6)]) rfl sc_parse.nd (pi_list (pv 2)) (blkOk_by (own := [("limit", 5), ("_", 6)]) (N := N_parse) (sc := (defScope s_parse)) (by decide +kernel)) (fun _ _ _ _ _ => (pg_tupK (K := K) (n := 3) rfl rfl (pgs_cons (pg_name (i := 5) sc_parse.nd rfl (by first | exact Or.inl rfl | exact Or.inr rfl)) (pgs_cons (pg_name (i := 6) sc_parse.nd rfl (by first | exact Or.inl rfl | exact Or.inr rfl)) (pgs_cons (pg_name (i := 6) sc_parse.nd rfl (by first | exact Or.inl rfl | exact Or.inr rfl)) pgs_nil))))) (fun _ _ _ _ _ => pts_nil) (fun _ _ _ _ _ => (pv 5))) (pa_cons (pe_lc (own := [("_", 6), ("stay", 7)]) rfl sc_parse.nd (pi_list (pv 2)) (blkOk_by (own := [("_", 6), ("stay", 7)]) (N := N_parse) (sc := (defScope s_parse)) (by decide +kernel)) (fun _ _ _ _ _ => (pg_tupK (K := K) (n := 3) rfl rfl (pgs_cons (pg_name (i := 6) sc_parse.nd rfl (by first | exact Or.inl rfl | exact Or.inr rfl)) (pgs_cons (pg_name (i := 7) sc_parse.nd rfl (by first | exact Or.inl rfl | exact Or.inr rfl)) (pgs_cons (pg_name (i := 6) sc_parse.nd rfl (by first | exact Or.inl rfl | exact Or.inr rfl)) pgs_nil))))) (fun _ _ _ _ _ => pts_nil) (fun _ _ _ _ _ => (pv 7))) (pa_cons (pe_lc (own := [("_", 6), ("ways", 8)]) rfl sc_parse.nd (pi_list (pv 2)) (blkOk_by (own := [("_", 6), ("ways", 8)]) (N := N_parse) (sc := (defScope s_parse)) (by decide +kernel)) (fun _ _ _ _ _ => (pg_tupK (K := K) (n := 3) rfl rfl (pgs_cons (pg_name (i := 6) sc_parse.nd rfl (by first | exact Or.inl rfl | exact Or.inr rfl)) (pgs_cons (pg_name (i := 6) sc_parse.nd rfl (by first | exact Or.inl rfl | exact Or.inr rfl)) (pgs_cons (pg_name (i := 8) sc_parse.nd rfl (by first | exact Or.inl rfl | exact Or.inr rfl)) pgs_nil))))) (fun _ _ _ _ _ => pts_nil) (fun _ _ _ _ _ => (pv 8))) pa_nil)))))))))), ?_⟩)
  · refine body_pure (fun ds Φ Θ hp => ?_) h
    dsimp only [L2.cxOf]
    obtain ⟨t, rfl, hf, kok, kerr⟩ := hp
    have hf1 : t.length ≤ 50000 ∧ (∀ r ∈ Txt.split t "\n", r.length ≤ 50000) ∧ fineR (rowsM t) = true := by
      unfold fineT at hf
      simp only [Bool.and_eq_true, decide_eq_true_eq, List.all_eq_true] at hf
      exact ⟨hf.1.1, hf.1.2, hf.2⟩
    obtain ⟨l1, l2, hr⟩ := hf1
    have hr1 : (rowsM t).length ≤ 1000 ∧ ∀ w ∈ rowsM t, fineW w = true := by
      unfold fineR at hr
      simp only [Bool.and_eq_true, decide_eq_true_eq, List.all_eq_true] at hr
      exact hr
    obtain ⟨hl, hw⟩ := hr1
    have hsl : (Txt.split t "\n").length = (rowsM t).length := by unfold rowsM; rw [List.length_map]
    rw [show rho0 N_parse.length [D.str t] = [.dt (.str t), .un, .un, .un, .un, .un, .un, .un, .un] from rfl]
    refine r_seq (r_when ?_)
    refine et_not (et_truth (ev_isi ?_))
    repeat walk_at "ze"
    refine ⟨_, _, rfl, rfl, fun s e => (by cases e), _, rfl, fun z => (by cases z), fun _ => ?_⟩
    refine r_seq (r_set (EvL.ev (el_mapF (gt_name (by decide)) (Txt.split t "\n") D.str (fun r => strsD (Txt.split r " ")) (ei_list ?_))))
    refine ev_split ?_
    repeat walk_at "ze"
    refine ⟨_, rfl, by omega, ?_⟩
    repeat walk_at "ze"
    refine ⟨_, rfl, by decide +kernel, _, rfl, rfl, by omega, fun r hr => ?_, ?_⟩
    · refine gg_name (ev_split ?_)
      repeat walk_at "ze"
      have := l2 r hr
      refine ⟨_, rfl, by omega, ?_⟩
      repeat walk_at "ze"
      exact ⟨_, rfl, by decide +kernel, rfl, rfl⟩
    rw [show (Txt.split t "\n").map (fun r => strsD (Txt.split r " ")) = (rowsM t).map strsD by unfold rowsM; rw [List.map_map]; rfl]
    walk_at "zn"
    refine r_seq (r_set (ev_call ?_))
    repeat walk_at "ze"
    refine ⟨fun d => ∃ ps, placesM (rowsM t) = .ok ps ∧ d = .lst (ps.map placeD), fun C fld => C = A.c_InvalidText ∧ ∃ n : Nat, placesM (rowsM t) = .error n ∧ fld = some (("row" : Str), D.int n), ⟨_, rfl, hr, fun ps e => ⟨ps, e, rfl⟩, fun n e => ⟨rfl, n, e, rfl⟩⟩, ?_, ?_⟩
    rotate_left
    · rintro C fld ⟨rfl, n, e, rfl⟩
      refine kerr n ?_
      unfold parseM
      rw [e]
    rintro _ ⟨ps, e, rfl⟩
    walk_at "zn"
    refine r_ret (ev_make ?_)
    walk_at "zn"
    refine ea_cons (EvL.ev (el_mapF (gt_name (by decide)) (rowsM t) strsD (fun w => .str (w.getD 0 "")) (ei_list ?_)))
    repeat walk_at "ze"
    refine ⟨_, rfl, rfl, by omega, fun w hm => ?_, ?_⟩
    · refine gg_name ?_
      repeat walk_at "ze"
      refine o_ixL (atI_map (atI_D (i := 0) ("" : Str) (fineW_1 (hw w hm)))) ⟨rfl, rfl⟩
    have hp := places_len e
    walk_at "zn"
    refine ea_cons (EvL.ev (el_mapF (gt_tup (gts_name (by decide) (gts_name (by decide) (gts_name (by decide) gts_nil)))) ps placeD (fun p => .int p.limit) (ei_list ?_)))
    repeat walk_at "ze"
    refine ⟨_, rfl, rfl, by omega, fun p hm => ?_, ?_⟩
    · refine gg_tup rfl (gs_cons ?_)
      refine gg_name (gs_cons ?_)
      refine gg_name (gs_cons ?_)
      refine gg_name (gs_nil ?_)
      repeat walk_at "ze"
      exact ⟨rfl, rfl⟩
    walk_at "zn"
    refine ea_cons (EvL.ev (el_mapF (gt_tup (gts_name (by decide) (gts_name (by decide) (gts_name (by decide) gts_nil)))) ps placeD (fun p => .bl p.stay) (ei_list ?_)))
    repeat walk_at "ze"
    refine ⟨_, rfl, rfl, by omega, fun p hm => ?_, ?_⟩
    · refine gg_tup rfl (gs_cons ?_)
      refine gg_name (gs_cons ?_)
      refine gg_name (gs_cons ?_)
      refine gg_name (gs_nil ?_)
      repeat walk_at "ze"
      exact ⟨rfl, rfl⟩
    walk_at "zn"
    refine ea_cons (EvL.ev (el_mapF (gt_tup (gts_name (by decide) (gts_name (by decide) (gts_name (by decide) gts_nil)))) ps placeD (fun p => .lst (p.ways.map wayD)) (ei_list ?_)))
    repeat walk_at "ze"
    refine ⟨_, rfl, rfl, by omega, fun p hm => ?_, ?_⟩
    · refine gg_tup rfl (gs_cons ?_)
      refine gg_name (gs_cons ?_)
      refine gg_name (gs_cons ?_)
      refine gg_name (gs_nil ?_)
      repeat walk_at "ze"
      exact ⟨rfl, rfl⟩
    walk_at "zn"
    refine Z.ea_nil ⟨fun ks es => ks = (["names", "limits", "stays", "ways"] : List Str) ∧ es = [.tup ((rowsM t).map fun w => .str (w.getD 0 "")), .tup (ps.map fun p => .int p.limit), .tup (ps.map fun p => .bl p.stay), .tup ((ps.map fun p => p.ways.map wayD).map D.tup)],
      ⟨(rowsM t).map fun w => .str (w.getD 0 ""), ps.map fun p => .int p.limit, ps.map fun p => .bl p.stay, ps.map fun p => .lst (p.ways.map wayD), ps.map fun p => p.ways.map wayD, false, false, false, false, rfl, by rw [List.length_map]; omega, .inl (by rw [List.map_map]; rfl), rfl, rfl⟩, ?_⟩
    rintro ks es ⟨rfl, rfl⟩
    have := kok (siteM (rowsM t) ps) (by unfold parseM; rw [e])
    have e2 : siteD A.c_Site (siteM (rowsM t) ps) = .obj A.c_Site ["names", "limits", "stays", "ways"] [.tup ((rowsM t).map fun w => .str (w.getD 0 "")), .tup (ps.map fun p => .int p.limit), .tup (ps.map fun p => .bl p.stay), .tup ((ps.map fun p => p.ways.map wayD).map D.tup)] := by
      unfold siteD siteM firstsM
      simp only [List.map_map]
      rfl
    rw [e2] at this
    exact this
end
end Lw

namespace Lw
open PySem PySem.Spec PyProof.Rows L2 Evl Z
local macro_rules | `(tactic| walk_at "ze") => `(tactic| (first
  | ((with_reducible show EvS _ _ _ (tVar _) _ _); refine ev_var rfl ?_)
  | ((with_reducible show EvS _ _ _ (tOp (rIx _) (tVar _) _) _ _); refine ev_ixO rfl ?_)
  | ((with_reducible show EvS _ _ _ (tCB (rLenU _) (tCons (tVar _) tNil)) _ _); refine ev_lenO rfl ?_)
  | (with_reducible first
    | refine ei_str ?_
    | refine ei_list ?_
    | refine ei_tup ?_
    | refine ei_enum ?_
    | refine ei_rng1 ?_
    | refine ei_rng2 ?_
    | refine ei_rng3 ?_
    | refine ei_zip ?_
    | refine gg_name ?_
    | refine ev_int ?_
    | refine ev_str ?_
    | refine ev_bl ?_
    | refine ev_non ?_
    | refine ea_nil ?_
    | refine ea_cons ?_
    | refine ev_op ?_
    | refine ev_un ?_
    | refine ev_cb ?_
    | refine et_test ?_
    | refine et_B ?_
    | refine et_not ?_
    | refine et_truth ?_
    | refine eo_none ?_
    | refine eo_some ?_
    | refine ev_slice ?_
    | refine ev_tup ?_
    | refine ev_chain ?_
    | refine ev_lst ?_
    | refine o_add ?_
    | refine o_sub ?_
    | refine o_cmp ?_
    | refine o_cmpS ?_
    | refine o_eqS ?_
    | refine o_neS ?_
    | refine o_eqI ?_
    | refine o_neI ?_
    | refine c_int ?_
    | refine c_intB ?_
    | refine c_abs ?_
    | refine c_max2 ?_
    | refine c_min2 ?_
    | refine c_tupL ?_
    | refine c_tupT ?_
    | refine c_listL ?_
    | refine c_listT ?_
    | refine o_isN ?_
    | refine o_notN ?_
    | refine el_lst ?_)
  | ((with_reducible show Cl _ (rLenU _) [_] _); refine c_len (by intro s hs; cases hs <;> first | assumption | omega) rfl ?_)))
local macro_rules | `(tactic| walk_at "zn") => `(tactic| try simp only [List.map_cons, List.map_nil, wipeR_n, wipeR_c, List.set_cons_zero, List.set_cons_succ])
section
variable {P : Program} {w : World} {K : PySem.W.Frag} {mg : Str → Option Value} {base : Heap} {A : Ad}
theorem ok__row_text (T : Txt K mg A) : FnOk P w K mg base (L2.CX P w) 1 A.a__row_text A.d__row_text ["site", "number"] (spP K (PRow A.c_Site)) := by
  refine T.F__row_text.okX sc__row_text (fun vs H Q E h => spP_len h fun ds Φ Θ hp => by obtain ⟨_, _, rfl, _⟩ := hp; rfl) (fun cdv A' outer s H vs Q E hr h => ⟨_, (pss_cons (ps_set (i := 2) sc__row_text.nd rfl (by first | exact Or.inl rfl | exact Or.inr rfl) (pe_lst (pa_cons (pe_ix ix_seq (pe_fld (pv 0) rfl) (pv 1) (fun _ _ => rfl)) (pa_cons (pe_callTy call_str_int (by rfl) T.m_str (by decide +kernel) (pa_cons (pe_ix ix_seq (pe_fld (pv 0) rfl) (pv 1) (fun _ _ => rfl)) pa_nil)) pa_nil)))) (pss_cons (ps_if (pt_truth (pe_ix ix_seq (pe_fld (pv 0) rfl) (pv 1) (fun _ _ => rfl)) (by intro _; rfl)) (pss_one (ps_expr (pe_bm PySem.F.plainAttrs_list PySem.F.slot_list_append PySem.F.type_list_append mt_append (pv 2) (pa_cons pe_str pa_nil)))) pss_nil) (pss_cons (ps_if (pt_truth (pe_ix ix_seq (pe_fld (pv 0) rfl) (pv 1) (fun _ _ => rfl)) (by intro _; rfl)) (pss_one (ps_expr (pe_bm PySem.F.plainAttrs_list PySem.F.slot_list_append PySem.F.type_list_append mt_append (pv 2) (pa_cons pe_str pa_nil)))) pss_nil) (pss_cons (ps_for (passes_of rfl) rfl (pi_tup (pe_ix ix_seq (pe_fld (pv 0) rfl) (pv 1) (fun _ _ => rfl))) (pg_tupK (K := K) (n := 2) rfl rfl (pgs_cons (pg_name (i := 3) sc__row_text.nd rfl (by first | exact Or.inl rfl | exact Or.inr rfl)) (pgs_cons (pg_name (i := 4) sc__row_text.nd rfl (by first | exact Or.inl rfl | exact Or.inr rfl)) pgs_nil))) (pss_cons (ps_expr (pe_bm PySem.F.plainAttrs_list PySem.F.slot_list_append PySem.F.type_list_append mt_append (pv 2) (pa_cons (pv 3) pa_nil))) (pss_one (ps_expr (pe_bm PySem.F.plainAttrs_list PySem.F.slot_list_append PySem.F.type_list_append mt_append (pv 2) (pa_cons (pe_callTy call_str_int (by rfl) T.m_str (by decide +kernel) (pa_cons (pv 4) pa_nil)) pa_nil)))))) (pss_one (ps_ret (pe_join pe_str (pv 2)))))))), ?_⟩)
  · refine body_pure (fun ds Φ Θ hp => ?_) h
    dsimp only [L2.cxOf]
    obtain ⟨s, i, rfl, hf, k⟩ := hp
    have hf1 : i < s.names.length ∧ i < s.limits.length ∧ i < s.stays.length ∧ i < s.ways.length ∧ (s.limits.getD i 0).natAbs.log2 < 1920 ∧ (s.ways.getD i []).length ≤ 1000 ∧ (∀ p ∈ s.ways.getD i [], p.2.natAbs.log2 < 1920) ∧ joinOk 1 (rowWords s i) = true := by
      unfold fineRow smallI at hf
      simp only [Bool.and_eq_true, decide_eq_true_eq, List.all_eq_true] at hf
      obtain ⟨⟨⟨⟨⟨⟨⟨a, b⟩, c⟩, d⟩, e⟩, f⟩, g⟩, h⟩ := hf
      exact ⟨a, b, c, d, e, f, g, h⟩
    obtain ⟨l1, l2, l3, l4, q1, q2, q3, hj⟩ := hf1
    have i1 : atI (s.names.map D.str) (i : Int) = some (.str (s.names.getD i "")) := atI_map (atI_D ("" : Str) l1)
    have i2 : atI (s.limits.map D.int) (i : Int) = some (.int (s.limits.getD i 0)) := atI_map (atI_D (0 : Int) l2)
    have i3 : atI (s.stays.map D.bl) (i : Int) = some (.bl (s.stays.getD i false)) := atI_map (atI_D false l3)
    have i4 : atI (s.ways.map fun r => D.tup (r.map wayD)) (i : Int) = some (.tup ((s.ways.getD i []).map wayD)) := atI_map (f := fun r : List (Str × Int) => D.tup (r.map wayD)) (atI_D ([] : List (Str × Int)) l4)
    rw [show rho0 N__row_text.length [siteD A.c_Site s, .int i] = [.dt (siteD A.c_Site s), .dt (.int i), .un, .un, .un] from rfl]
    refine r_seq (r_setL (el_lst ?_))
    refine Z.ea_cons (ev_op (ev_fld ?_))
    repeat walk_at "ze"
    refine ⟨A.c_Site, _, _, _, rfl, T.cl_Site, T.na_Site_names, rfl, ?_⟩
    repeat walk_at "ze"
    refine o_ixT i1 ?_
    repeat walk_at "ze"
    refine ev_fld ?_
    repeat walk_at "ze"
    refine ⟨A.c_Site, _, _, _, rfl, T.cl_Site, T.na_Site_limits, rfl, ?_⟩
    repeat walk_at "ze"
    refine o_ixT i2 ?_
    repeat walk_at "ze"
    refine c_strI q1 ?_
    repeat walk_at "ze"
    refine ⟨by show 2 ≤ 100000; decide, fun q => ?_⟩
    walk_at "zn"
    refine r_cut (J := fun ρ => ρ = [.dt (siteD A.c_Site s), .dt (.int i), .ol q (([s.names.getD i "", intS (s.limits.getD i 0)] ++ (if s.stays.getD i false then [("stay" : Str)] else [])).map D.str), .un, .un]) (r_when (et_truth (ev_op (ev_fld ?_)))) ?_
    · repeat walk_at "ze"
      refine ⟨A.c_Site, _, _, _, rfl, T.cl_Site, T.na_Site_stays, rfl, ?_⟩
      repeat walk_at "ze"
      refine o_ixT i3 ?_
      refine ⟨fun s e => (by cases e), _, rfl, fun c => ?_, fun c => ?_⟩
      · refine r_app rfl (by show 2 < 100000; decide) ?_
        repeat walk_at "ze"
        refine ⟨_, rfl, by show 2 < 100000; decide, ?_⟩
        rw [if_pos c]
        rfl
      · rw [if_neg (by rw [c]; exact Bool.false_ne_true)]
        rfl
    rintro _ rfl
    refine r_cut (J := fun ρ => ρ = [.dt (siteD A.c_Site s), .dt (.int i), .ol q (([s.names.getD i "", intS (s.limits.getD i 0)] ++ (if s.stays.getD i false then [("stay" : Str)] else []) ++ (if (s.ways.getD i []).isEmpty then [] else [("->" : Str)])).map D.str), .un, .un]) (r_when (et_truth (ev_op (ev_fld ?_)))) ?_
    · repeat walk_at "ze"
      refine ⟨A.c_Site, _, _, _, rfl, T.cl_Site, T.na_Site_ways, rfl, ?_⟩
      repeat walk_at "ze"
      refine o_ixT i4 ?_
      have em : ((s.ways.getD i []).map wayD).isEmpty = (s.ways.getD i []).isEmpty := List.isEmpty_map
      have lw : ((([s.names.getD i "", intS (s.limits.getD i 0)] ++ (if s.stays.getD i false then [("stay" : Str)] else [])) : List Str).map D.str).length < 100000 := by
        rw [List.length_map, List.length_append]
        split
        · show 3 < 100000; decide
        · show 2 < 100000; decide
      refine ⟨fun s e => (by cases e), _, rfl, fun c => ?_, fun c => ?_⟩
      · refine r_app rfl lw ?_
        repeat walk_at "ze"
        refine ⟨_, rfl, lw, ?_⟩
        rw [em] at c
        rw [if_neg (show ¬ (s.ways.getD i []).isEmpty = true by cases h : (s.ways.getD i []).isEmpty with | true => rw [h] at c; cases c | false => exact Bool.false_ne_true)]
        rw [map_snoc]
        rfl
      · rw [em] at c
        rw [if_pos (show (s.ways.getD i []).isEmpty = true by cases h : (s.ways.getD i []).isEmpty with | true => rfl | false => rw [h] at c; cases c), List.append_nil]
        rfl
    rintro _ rfl
    let W2 : List Str := [s.names.getD i "", intS (s.limits.getD i 0)] ++ (if s.stays.getD i false then [("stay" : Str)] else []) ++ (if (s.ways.getD i []).isEmpty then [] else [("->" : Str)])
    have lW : W2.length ≤ 4 := by
      simp only [W2, List.length_append]
      split <;> split
      · show 3 ≤ 4; decide
      · show 4 ≤ 4; decide
      · show 2 ≤ 4; decide
      · show 3 ≤ 4; decide
    change RunS K _ _ _ [.dt (siteD A.c_Site s), .dt (.int i), .ol q (W2.map D.str), .un, .un] _
    have eW : rowWords s i = W2 ++ wayWords (s.ways.getD i []) := rfl
    generalize W2 = W at lW eW ⊢
    refine r_seq (r_for (ei_tup (ev_op (ev_fld ?_))))
    repeat walk_at "ze"
    refine ⟨A.c_Site, _, _, _, rfl, T.cl_Site, T.na_Site_ways, rfl, ?_⟩
    repeat walk_at "ze"
    refine o_ixT i4 ⟨_, rfl, fun n ρ => ∃ (s3 s4 : Slot), (s3.ad = none ∧ s4.ad = none) ∧ ρ = [.dt (siteD A.c_Site s), .dt (.int i), .ol q ((W ++ wayWords ((s.ways.getD i []).take n)).map D.str), s3, s4], ⟨.un, .un, ⟨rfl, rfl⟩, by rw [List.take_zero]; show _ = [_, _, Slot.ol q ((W ++ []).map D.str), _, _]; rw [List.append_nil]⟩, ?_, ?_⟩
    · rintro n d ρ hd ⟨s3, s4, ⟨n3, n4⟩, rfl⟩
      obtain ⟨pr, hp, rfl, hm⟩ := map_at hd
      have hn : n < (s.ways.getD i []).length := (List.getElem?_eq_some_iff.mp hp).1
      have wl : (wayWords ((s.ways.getD i []).take n)).length = 2 * n := by
        unfold wayWords
        rw [List.length_flatMap]
        have : ((s.ways.getD i []).take n).map (fun p => ([p.1, intS p.2] : List Str).length) = List.replicate n 2 := by
          rw [List.eq_replicate_iff]
          refine ⟨by rw [List.length_map, List.length_take]; omega, fun x hx => ?_⟩
          obtain ⟨y, _, rfl⟩ := List.mem_map.mp hx
          rfl
        rw [this, List.sum_replicate_nat]
        omega
      have hb : ((W ++ wayWords ((s.ways.getD i []).take n)).map D.str).length < 90000 := by
        rw [List.length_map, List.length_append, wl]
        omega
      refine gg_tup rfl (gs_cons ?_)
      refine gg_name (gs_cons ?_)
      refine gg_name (gs_nil ?_)
      refine r_seq (r_app rfl (by omega) ?_)
      repeat walk_at "ze"
      refine ⟨_, rfl, by omega, ?_⟩
      refine r_app rfl (by rw [List.length_append]; show _ + 1 < _; omega) ?_
      repeat walk_at "ze"
      refine c_strI (q3 pr hm) ?_
      repeat walk_at "ze"
      refine ⟨_, rfl, by rw [List.length_append]; show _ + 1 < _; omega, .dt (.str pr.1), .dt (.int pr.2), ⟨rfl, rfl⟩, ?_⟩
      have : wayWords ((s.ways.getD i []).take (n + 1)) = wayWords ((s.ways.getD i []).take n) ++ [pr.1, intS pr.2] := by
        unfold wayWords
        rw [List.take_add_one, hp, List.flatMap_append]
        rfl
      rw [this]
      simp only [List.map_append]
      show [_, _, Slot.ol q _, _, _] = _
      rw [List.append_assoc, List.append_assoc]
      rfl
    · rintro ρ ⟨s3, s4, _, rfl⟩
      rw [List.length_map, List.take_length, ← eW]
      refine r_ret (ev_join ?_)
      repeat walk_at "ze"
      refine ⟨_, rfl, ev_frz rfl ⟨_, rfl, ?_, k⟩⟩
      unfold joinOk at hj
      exact of_decide_eq_true hj
theorem ok_strm (T : Txt K mg A) (G__row_text : FnOk P w K mg base (L2.CX P w) 1 A.a__row_text A.d__row_text ["site", "number"] (spP K (PRow A.c_Site))) : FnOk P w K mg base (L2.CX P w) 2 A.a_strm A.d_strm ["self"] (spP K (PStr A.c_Site)) := by
  refine T.F_strm.okX sc_strm (fun vs H Q E h => spP_len h fun ds Φ Θ hp => by obtain ⟨_, rfl, _⟩ := hp; rfl) (fun cdv A' outer s H vs Q E hr h => ⟨_, (pss_one (ps_ret (pe_join pe_str (pe_lc (own := [("number", 1)]) rfl sc_strm.nd (pi_range1 (by rfl) T.m_range (pa_cons (pe_callB call_len (by rfl) T.m_len PySem.boot_len (pa_cons (pe_fld (pv 0) rfl) pa_nil)) pa_nil)) (blkOk_by (own := [("number", 1)]) (N := N_strm) (sc := (defScope s_strm)) (by decide +kernel)) (fun _ _ _ _ _ => (pg_name (i := 1) sc_strm.nd rfl (by first | exact Or.inl rfl | exact Or.inr rfl))) (fun _ _ _ _ _ => pts_nil) (fun _ _ _ _ _ => (pe_callSD G__row_text (hr.mono (by decide)) rfl T.g__row_text T.F__row_text.kp T.b__row_text .nil (fun σ => passL0) (pa_cons (pv 0) (pa_cons (pv 1) pa_nil)))))))), ?_⟩)
  · refine body_pure (fun ds Φ Θ hp => ?_) h
    dsimp only [L2.cxOf]
    obtain ⟨s, rfl, hf, k⟩ := hp
    have hf1 : s.names.length ≤ 1000 ∧ (∀ i, i < s.names.length → fineRow s i = true) ∧ joinOk 1 (rowsText s) = true := by
      unfold fineStr at hf
      simp only [Bool.and_eq_true, decide_eq_true_eq, List.all_eq_true, List.mem_range] at hf
      exact ⟨hf.1.1, hf.1.2, hf.2⟩
    obtain ⟨l1, hr, hj⟩ := hf1
    refine r_ret (ev_join ?_)
    repeat walk_at "ze"
    refine ⟨_, rfl, EvL.ev (el_mapF (gt_name (by decide)) (List.range s.names.length) (fun i => .int ((0 : Int) + (i : Nat))) (fun i => .str (rowTextM s i)) (ei_rng1 (Z.ea_cons (ev_cb (Z.ea_cons (ev_fld ?_))))))⟩
    repeat walk_at "ze"
    refine ⟨A.c_Site, _, _, _, rfl, T.cl_Site, T.na_Site_names, rfl, ?_⟩
    repeat walk_at "ze"
    rw [List.length_map]
    refine ⟨_, rfl, by omega, by omega, by rw [Int.toNat_natCast], by rw [List.length_range]; omega, fun i hi => ?_, ?_⟩
    · refine gg_name (ev_call ?_)
      repeat walk_at "ze"
      refine ⟨fun d => d = .str (rowTextM s i), noT, ⟨s, i, by rw [Int.zero_add], hr i (List.mem_range.mp hi), rfl⟩, fun d hd => ⟨hd, rfl⟩, fun _ _ z => z.elim⟩
    refine ⟨rowsText s, by unfold rowsText; rw [List.map_map]; rfl, ?_, k⟩
    unfold joinOk at hj
    exact of_decide_eq_true hj
end
end Lw

namespace Lw
open PySem PySem.Spec PyProof.Rows L2 Evl Z
local macro_rules | `(tactic| walk_at "ze") => `(tactic| (first
  | ((with_reducible show EvS _ _ _ (tVar _) _ _); refine ev_var rfl ?_)
  | ((with_reducible show EvS _ _ _ (tOp (rIx _) (tVar _) _) _ _); refine ev_ixO rfl ?_)
  | ((with_reducible show EvS _ _ _ (tCB (rLenU _) (tCons (tVar _) tNil)) _ _); refine ev_lenO rfl ?_)
  | (with_reducible first
    | refine ei_str ?_
    | refine ei_list ?_
    | refine ei_tup ?_
    | refine ei_enum ?_
    | refine ei_rng1 ?_
    | refine ei_rng2 ?_
    | refine ei_rng3 ?_
    | refine ei_zip ?_
    | refine gg_name ?_
    | refine ev_int ?_
    | refine ev_str ?_
    | refine ev_bl ?_
    | refine ev_non ?_
    | refine ea_nil ?_
    | refine ea_cons ?_
    | refine ev_op ?_
    | refine ev_un ?_
    | refine ev_cb ?_
    | refine et_test ?_
    | refine et_B ?_
    | refine et_not ?_
    | refine et_truth ?_
    | refine eo_none ?_
    | refine eo_some ?_
    | refine ev_slice ?_
    | refine ev_tup ?_
    | refine ev_chain ?_
    | refine ev_lst ?_
    | refine o_add ?_
    | refine o_sub ?_
    | refine o_cmp ?_
    | refine o_cmpS ?_
    | refine o_eqS ?_
    | refine o_neS ?_
    | refine o_eqI ?_
    | refine o_neI ?_
    | refine c_int ?_
    | refine c_intB ?_
    | refine c_abs ?_
    | refine c_max2 ?_
    | refine c_min2 ?_
    | refine c_tupL ?_
    | refine c_tupT ?_
    | refine c_listL ?_
    | refine c_listT ?_
    | refine o_isN ?_
    | refine o_notN ?_
    | refine el_lst ?_)
  | ((with_reducible show Cl _ (rLenU _) [_] _); refine c_len (by intro s hs; cases hs <;> first | assumption | omega) rfl ?_)))
local macro_rules | `(tactic| walk_at "zn") => `(tactic| try simp only [List.map_cons, List.map_nil, wipeR_n, wipeR_c, List.set_cons_zero, List.set_cons_succ])
def PDrawn : PQ := fun xs ds Ψ => Feed xs ∧ ds = [] ∧ ∀ (rows : List RowM) (xs' : List D), GoodRs rows → Feed xs' → Ψ (.lst (rows.map rowD)) xs'
def PLRow : PP := fun ds Φ Θ => ∃ (ns : List Str) (r : RowM), ds = [rowD r] ∧ GoodR ns r ∧ Φ (.str (textR r))
def PLText : PP := fun ds Φ Θ => ∃ (ns : List Str) (rows : List RowM), ds = [.lst (rows.map rowD)] ∧ rows.length ≤ 6 ∧ (∀ r ∈ rows, GoodR ns r) ∧ Φ (.str (textM rows))
section
variable {P : Program} {w : World} {K : PySem.W.Frag} {mg : Str → Option Value} {base : Heap} {A : Ad}
theorem ok__law_drawn (T : Txt K mg A) (G__law_pick : FnOk P w K mg base (L2.CX P w) 2 A.a__law_pick A.d__law_pick ["feed", "some"] (spQ K PPick)) (G__law_take : FnOk P w K mg base (L2.CX P w) 1 A.a__law_take A.d__law_take ["feed", "many"] (spQ K PTake)) (G__law_word : FnOk P w K mg base (L2.CX P w) 3 A.a__law_word A.d__law_word ["feed"] (spQ K PWord)) : FnOk P w K mg base (L2.CX P w) 4 A.a__law_drawn A.d__law_drawn ["feed"] (spQ K PDrawn) := by
  refine T.F__law_drawn.okX sc__law_drawn (fun vs H Q E h => spQ_len h fun xs ds Ψ hp => by obtain ⟨_, rfl, _⟩ := hp; rfl) (fun cdv A' outer s H vs Q E hr h => ⟨_, (pss_cons (ps_set (i := 1) sc__law_drawn.nd rfl (by first | exact Or.inl rfl | exact Or.inr rfl) (pe_callSD G__law_pick (hr.mono (by decide)) rfl T.g__law_pick T.F__law_pick.kp T.b__law_pick .nil (fun σ => passAt (W := fun cls d _ H => E cls d H) (takes_of rfl rfl rfl rfl) σ) (pa_cons (pv 0) (pa_cons (pe_lst (pa_cons (pe_lst (pa_cons pe_str (pa_cons pe_str (pa_cons pe_str (pa_cons pe_str (pa_cons pe_str (pa_cons pe_str pa_nil))))))) (pa_cons (pe_lst (pa_cons pe_str (pa_cons pe_str (pa_cons pe_str (pa_cons pe_str (pa_cons pe_str (pa_cons pe_str pa_nil))))))) pa_nil))) pa_nil)))) (pss_cons (ps_if (pt_cmpR (op_eqU hr.units) (pe_callSD G__law_take (hr.mono (by decide)) rfl T.g__law_take T.F__law_take.kp T.b__law_take .nil (fun σ => passAt (W := fun cls d _ H => E cls d H) (takes_of rfl rfl rfl rfl) σ) (pa_cons (pv 0) (pa_cons pe_int pa_nil))) pe_int (nomark _)) (pss_one (ps_set (i := 1) sc__law_drawn.nd rfl (by first | exact Or.inl rfl | exact Or.inr rfl) (pe_revL (pe_callB (call_sortU rfl hr) (by rfl) T.m_sorted (by decide +kernel) (pa_cons (pe_callTy (call_setTx rfl) (by rfl) T.m_set (by decide +kernel) (pa_cons (pe_lc (own := [("turn", 10)]) rfl sc__law_drawn.nd (pi_range1 (by rfl) T.m_range (pa_cons pe_int pa_nil)) (blkOk_by (own := [("turn", 10)]) (N := N__law_drawn) (sc := (defScope s__law_drawn)) (by decide +kernel)) (fun _ _ _ _ _ => (pg_name (i := 10) sc__law_drawn.nd rfl (by first | exact Or.inl rfl | exact Or.inr rfl))) (fun _ _ _ _ _ => pts_nil) (fun _ _ _ _ _ => (pe_callSD G__law_word (hr.mono (by decide)) rfl T.g__law_word T.F__law_word.kp T.b__law_word .nil (fun σ => passL0) (pa_cons (pv 0) pa_nil)))) pa_nil)) pa_nil))))) pss_nil) (pss_cons (ps_set (i := 1) sc__law_drawn.nd rfl (by first | exact Or.inl rfl | exact Or.inr rfl) (pe_slice sl_U (pv 1) po_none (po_some (pe_op op_addU pe_int (pe_callSD G__law_take (hr.mono (by decide)) rfl T.g__law_take T.F__law_take.kp T.b__law_take .nil (fun σ => passAt (W := fun cls d _ H => E cls d H) (takes_of rfl rfl rfl rfl) σ) (pa_cons (pv 0) (pa_cons (pe_callB call_len (by rfl) T.m_len PySem.boot_len (pa_cons (pv 1) pa_nil)) pa_nil))))))) (pss_cons (ps_asg (pe_tup (pa_cons (pe_lst pa_nil) (pa_cons (pe_callSD G__law_pick (hr.mono (by decide)) rfl T.g__law_pick T.F__law_pick.kp T.b__law_pick .nil (fun σ => passAt (W := fun cls d _ H => E cls d H) (takes_of rfl rfl rfl rfl) σ) (pa_cons (pv 0) (pa_cons (pe_lst (pa_cons pe_int (pa_cons pe_int (pa_cons pe_int pa_nil)))) pa_nil))) pa_nil))) (pg_tupK (K := K) (n := 2) rfl rfl (pgs_cons (pg_name (i := 2) sc__law_drawn.nd rfl (by first | exact Or.inl rfl | exact Or.inr rfl)) (pgs_cons (pg_name (i := 3) sc__law_drawn.nd rfl (by first | exact Or.inl rfl | exact Or.inr rfl)) pgs_nil)))) (pss_cons (ps_for (passes_of rfl) rfl (pi_list (pv 1)) (pg_name (i := 4) sc__law_drawn.nd rfl (by first | exact Or.inl rfl | exact Or.inr rfl)) (pss_cons (by first | exact (ps_setLc (i := 5) (own := [("one", 8)]) rfl sc__law_drawn.nd rfl rfl (sw_true rfl rfl rfl (by decide +kernel)) (pi_list (pe_callB (call_sortU rfl hr) (by rfl) T.m_sorted (by decide +kernel) (pa_cons (pv 1) pa_nil))) (blkOk_by (own := [("one", 8)]) (N := N__law_drawn) (sc := (defScope s__law_drawn)) (by decide +kernel)) (fun _ _ _ _ _ => (pg_name (i := 8) sc__law_drawn.nd rfl (by first | exact Or.inl rfl | exact Or.inr rfl))) (fun _ _ _ _ _ => (pts_one (pt_cmpR op_ltU (pe_callSD G__law_take (hr.mono (by decide)) rfl T.g__law_take T.F__law_take.kp T.b__law_take .nil (fun σ => passL0) (pa_cons (pv 0) (pa_cons pe_int pa_nil))) (pv 3) (nomark _)))) (fun _ _ _ _ _ => (pv 8))) | exact (ps_set (i := 5) sc__law_drawn.nd rfl (by first | exact Or.inl rfl | exact Or.inr rfl) (pe_lc (own := [("one", 8)]) rfl sc__law_drawn.nd (pi_list (pe_callB (call_sortU rfl hr) (by rfl) T.m_sorted (by decide +kernel) (pa_cons (pv 1) pa_nil))) (blkOk_by (own := [("one", 8)]) (N := N__law_drawn) (sc := (defScope s__law_drawn)) (by decide +kernel)) (fun _ _ _ _ _ => (pg_name (i := 8) sc__law_drawn.nd rfl (by first | exact Or.inl rfl | exact Or.inr rfl))) (fun _ _ _ _ _ => (pts_one (pt_cmpR op_ltU (pe_callSD G__law_take (hr.mono (by decide)) rfl T.g__law_take T.F__law_take.kp T.b__law_take .nil (fun σ => passL0) (pa_cons (pv 0) (pa_cons pe_int pa_nil))) (pv 3) (nomark _)))) (fun _ _ _ _ _ => (pv 8))))) (pss_cons (by first | exact (ps_setLc (i := 5) (own := [("one", 8)]) rfl sc__law_drawn.nd rfl rfl (sw_true rfl rfl rfl (by decide +kernel)) (pi_list (pv 5)) (blkOk_by (own := [("one", 8)]) (N := N__law_drawn) (sc := (defScope s__law_drawn)) (by decide +kernel)) (fun _ _ _ _ _ => (pg_name (i := 8) sc__law_drawn.nd rfl (by first | exact Or.inl rfl | exact Or.inr rfl))) (fun _ _ _ _ _ => (pts_one (pt_cmpR (opK rNeU K (op_neU hr.units) rfl) (pv 8) (pv 4) (nomark _)))) (fun _ _ _ _ _ => (pv 8))) | exact (ps_set (i := 5) sc__law_drawn.nd rfl (by first | exact Or.inl rfl | exact Or.inr rfl) (pe_lc (own := [("one", 8)]) rfl sc__law_drawn.nd (pi_list (pv 5)) (blkOk_by (own := [("one", 8)]) (N := N__law_drawn) (sc := (defScope s__law_drawn)) (by decide +kernel)) (fun _ _ _ _ _ => (pg_name (i := 8) sc__law_drawn.nd rfl (by first | exact Or.inl rfl | exact Or.inr rfl))) (fun _ _ _ _ _ => (pts_one (pt_cmpR (opK rNeU K (op_neU hr.units) rfl) (pv 8) (pv 4) (nomark _)))) (fun _ _ _ _ _ => (pv 8))))) (pss_cons (ps_set (i := 6) sc__law_drawn.nd rfl (by first | exact Or.inl rfl | exact Or.inr rfl) (pe_callTy call_tuple_of (by rfl) T.m_tuple (by decide +kernel) (pa_cons (pe_lc (own := [("end", 9)]) rfl sc__law_drawn.nd (pi_list (pv 5)) (blkOk_by (own := [("end", 9)]) (N := N__law_drawn) (sc := (defScope s__law_drawn)) (by decide +kernel)) (fun _ _ _ _ _ => (pg_name (i := 9) sc__law_drawn.nd rfl (by first | exact Or.inl rfl | exact Or.inr rfl))) (fun _ _ _ _ _ => pts_nil) (fun _ _ _ _ _ => (pe_tup (pa_cons (pv 9) (pa_cons (pe_op (opK rAddU K op_addU rfl) pe_int (pe_callSD G__law_take (hr.mono (by decide)) rfl T.g__law_take T.F__law_take.kp T.b__law_take .nil (fun σ => passL0) (pa_cons (pv 0) (pa_cons pe_int pa_nil)))) pa_nil))))) pa_nil))) (pss_cons (ps_set (i := 7) sc__law_drawn.nd rfl (by first | exact Or.inl rfl | exact Or.inr rfl) (pe_or (pe_cmpR (op_eqU hr.units) (pv 6) (pe_tup pa_nil) (nomark _)) (pe_one (pe_cmpR (op_eqU hr.units) (pe_callSD G__law_take (hr.mono (by decide)) rfl T.g__law_take T.F__law_take.kp T.b__law_take .nil (fun σ => passAt (W := fun cls d _ H => E cls d H) (takes_of rfl rfl rfl rfl) σ) (pa_cons (pv 0) (pa_cons pe_int pa_nil))) pe_int (nomark _))))) (pss_one (ps_expr (pe_bm PySem.F.plainAttrs_list PySem.F.slot_list_append PySem.F.type_list_append mt_append (pv 2) (pa_cons (pe_tup (pa_cons (pv 4) (pa_cons (pe_callSD G__law_take (hr.mono (by decide)) rfl T.g__law_take T.F__law_take.kp T.b__law_take .nil (fun σ => passAt (W := fun cls d _ H => E cls d H) (takes_of rfl rfl rfl rfl) σ) (pa_cons (pv 0) (pa_cons pe_int pa_nil))) (pa_cons (pv 7) (pa_cons (pv 6) pa_nil))))) pa_nil))))))))) (pss_one (ps_ret (pv 2)))))))), ?_⟩)
  · refine body_own (fun xs ds Ψ hp p => ?_) h
    dsimp only [L2.cxOf]
    obtain ⟨hf, rfl, k⟩ := hp
    rw [show rhoQ N__law_drawn.length p xs [] = [.ol p xs, .un, .un, .un, .un, .un, .un, .un, .un, .un, .un] from rfl]
    refine r_cut (J := fun ρ => ∃ (xs : List D) (ns : List Str), ρ = [.ol p xs, .dt (.lst (ns.map .str)), .un, .un, .un, .un, .un, .un, .un, .un, .un] ∧ Feed xs ∧ NamesOk ns) (r_set (ev_callQ rfl ?_)) ?_
    · refine ea_cons (ev_lst (ea_cons (ev_lst ?_)))
      repeat walk_at "ze"
      refine ⟨by decide, ?_⟩
      refine ea_cons (ev_lst ?_)
      repeat walk_at "ze"
      refine ⟨by decide, ?_⟩
      repeat walk_at "ze"
      refine ⟨by decide, ?_⟩
      repeat walk_at "ze"
      refine ⟨_, rfl, _, ⟨hf, [.lst (lettersA.map .str), .lst (lettersB.map .str)], rfl, by simp, by decide, fun y xs' hy hf' => ?_⟩, fun d xs2 hd => hd⟩
      simp only [List.mem_cons, List.not_mem_nil, or_false] at hy
      rcases hy with rfl | rfl
      · exact ⟨xs', lettersA, rfl, hf', okA⟩
      · exact ⟨xs', lettersB, rfl, hf', okB⟩
    rintro _ ⟨xs, ns, rfl, hf, hn⟩
    refine r_cut (J := fun ρ => ∃ (xs : List D) (ns : List Str), ρ = [.ol p xs, .dt (.lst (ns.map .str)), .un, .un, .un, .un, .un, .un, .un, .un, .un] ∧ Feed xs ∧ NamesOk ns) (r_when (et_test (ev_op (ev_callQ rfl ?_)))) ?_
    · repeat walk_at "ze"
      refine ⟨_, rfl, _, ⟨hf, 3, rfl, by decide, by decide, fun d xs' h0 h1 hf' => ?_⟩, fun d xs2 hd => hd⟩
      repeat walk_at "ze"
      refine ⟨_, rfl, fun c => ?_, fun c => ?_⟩
      · refine r_set (EvL.ev (el_rev (EvL.ev (el_sortset (EvL.ev (el_lc (gt_name (by decide)) ?_))))))
        repeat walk_at "ze"
        refine ⟨6, rfl, by decide, by decide, ?_⟩
        refine ⟨by rw [List.length_map, List.length_range]; decide, fun i acc ρ => ∃ (xs2 : List D) (ws : List Str), ρ = [.ol p xs2, .dt (.lst (ns.map .str)), .un, .un, .un, .un, .un, .un, .un, .un, .un] ∧ Feed xs2 ∧ acc = ws.map .str ∧ ws.length = i ∧ ∀ w ∈ ws, isNameM w = true, ⟨xs', [], rfl, hf', rfl, rfl, by simp⟩, ?_, ?_⟩
        · rintro i d acc ρ2 hd ⟨xs2, ws, rfl, hf2, rfl, hl, hw⟩
          refine gg_name (et_yes ⟨fun _ => ev_callQ rfl ?_, fun z => (by cases z)⟩)
          repeat walk_at "ze"
          refine ⟨_, rfl, _, ⟨hf2, rfl, fun z xs3 z1 z2 z3 hf3 => ?_⟩, fun d xs2 hd => hd⟩
          refine ⟨xs3, ws ++ [z], rfl, hf3, by rw [List.map_append]; rfl, by rw [List.length_append, hl]; rfl, fun w hw2 => ?_⟩
          rcases List.mem_append.mp hw2 with hw2 | hw2
          · exact hw w hw2
          · rw [List.mem_singleton.mp hw2]; exact name_mk z3 z1 z2
        · rintro acc ρ2 ⟨xs2, ws, rfl, hf2, rfl, hl, hw⟩
          have h6 : ws.length = 6 := by rw [hl, List.length_map, List.length_range]; rfl
          refine ⟨ws, rfl, by omega, fun zs nd l1 l2 so => ⟨_, rfl, ?_⟩⟩
          refine ⟨xs2, zs.reverse, ?_, hf2, words_ok h6 hw nd l1 l2⟩
          rw [List.map_reverse]
          rfl
      · exact ⟨xs', ns, rfl, hf', hn⟩
    rintro _ ⟨xs, ns, rfl, hf, hn⟩
    refine r_cut (J := fun ρ => ∃ (xs : List D) (ns : List Str), ρ = [.ol p xs, .dt (.lst (ns.map .str)), .un, .un, .un, .un, .un, .un, .un, .un, .un] ∧ Feed xs ∧ NamesOk ns) (r_set (ev_slice (ev_var rfl ⟨fun z e => (by cases e), eo_none (eo_some (ev_op (ev_int (ev_callQ rfl ?_))))⟩))) ?_
    · repeat walk_at "ze"
      have l0 : 0 < ns.length := List.length_pos_iff.mpr hn.ne
      have l6 := hn.few
      refine ⟨_, rfl, _, ⟨hf, (ns.length : Int), by rw [List.length_map], by omega, by omega, fun d xs' h0 h1 hf' => ?_⟩, fun d xs2 hd => hd⟩
      refine o_add ⟨_, rfl, _, rfl, ?_⟩
      rw [cut_take _ (by omega), ← List.map_take]
      exact ⟨xs', _, rfl, hf', hn.take (by omega)⟩
    rintro _ ⟨xs, ns, rfl, hf, hn⟩
    refine r_cut (J := fun ρ => ∃ (xs : List D) (q : Addr) (many : Int), ρ = [.ol p xs, .dt (.lst (ns.map .str)), .ol q [], .dt (.int many), .un, .un, .un, .un, .un, .un, .un] ∧ Feed xs) (r_asgL (el_lst ?_)) ?_
    · repeat walk_at "ze"
      refine ⟨by decide, ev_callQ rfl ?_⟩
      refine ea_cons (ev_lst ?_)
      repeat walk_at "ze"
      refine ⟨by decide, ?_⟩
      repeat walk_at "ze"
      refine ⟨_, rfl, _, ⟨hf, [.int 1, .int 2, .int 3], rfl, by simp, by decide, fun y xs' hy hf' => ?_⟩, fun d xs2 hd => hd⟩
      simp only [List.mem_cons, List.not_mem_nil, or_false] at hy
      rcases hy with rfl | rfl | rfl <;> exact fun q => ⟨xs', q, _, rfl, hf'⟩
    rintro _ ⟨xs, q, many, rfl, hf⟩
    refine r_seq (r_for (ei_list (ev_var rfl ⟨_, rfl, ?_⟩)))
    refine ⟨fun n ρ => ∃ (xs : List D) (rows : List RowM) (s4 s5 s6 s7 : Slot), (s4.ad = none ∧ s5.ad = none ∧ s6.ad = none ∧ s7.ad = none) ∧ ρ = [.ol p xs, .dt (.lst (ns.map .str)), .ol q (rows.map rowD), .dt (.int many), s4, s5, s6, s7, .un, .un, .un] ∧ Feed xs ∧ rows.map (·.name) = ns.take n ∧ ∀ r ∈ rows, GoodR ns r, ⟨xs, [], .un, .un, .un, .un, ⟨rfl, rfl, rfl, rfl⟩, rfl, hf, rfl, by simp⟩, ?_, ?_⟩
    · rintro n d ρ hd ⟨xs, rows, s4, s5, s6, s7, hs, rfl, hf, hr, hg⟩
      obtain ⟨name, hname, rfl, hm⟩ := map_at hd
      have hnm := hn.nm name hm
      refine gg_name ?_
      refine r_cut (J := fun ρ => ∃ (xs : List D) (es : List Str), ρ = [.ol p xs, .dt (.lst (ns.map .str)), .ol q (rows.map rowD), .dt (.int many), .dt (.str name), .dt (.lst (es.map .str)), s6, s7, .un, .un, .un] ∧ Feed xs ∧ es.Sublist (sortN ns)) (r_set (EvL.ev (el_lc (gt_name (by decide)) (ei_list (ev_cb (Z.ea_cons (ev_var rfl (Z.ea_nil (c_sortN (fun n hn2 => low_ok (name_low (hn.nm n hn2)).1) ⟨_, rfl, ?_⟩))))))))) ?_
      · refine ⟨by rw [List.length_map, (sortN_perm ns).length_eq]; have := hn.few; omega, fun i acc ρ => ∃ (xs2 : List D) (es : List Str), ρ = [.ol p xs2, .dt (.lst (ns.map .str)), .ol q (rows.map rowD), .dt (.int many), .dt (.str name), s5, s6, s7, .un, .un, .un] ∧ Feed xs2 ∧ acc = es.map .str ∧ es.Sublist ((sortN ns).take i), ⟨xs, [], rfl, hf, rfl, List.nil_sublist _⟩, ?_, ?_⟩
        · rintro i d acc ρ2 hd2 ⟨xs2, es, rfl, hf2, rfl, hes⟩
          obtain ⟨e, he, rfl, hem⟩ := map_at hd2
          refine gg_name (et_test (ev_op (ev_callQ rfl ?_)))
          repeat walk_at "ze"
          refine ⟨_, rfl, _, ⟨hf2, 3, rfl, by decide, by decide, fun d xs' h0 h1 hf' => ?_⟩, fun d xs2 hd => hd⟩
          refine ev_var rfl (o_cmp ⟨_, rfl, fun c => ev_var rfl ?_, fun c => ?_⟩)
          · refine ⟨xs', es ++ [e], rfl, hf', by rw [List.map_append]; rfl, ?_⟩
            rw [List.take_add_one, he]
            exact hes.append (List.Sublist.refl _)
          · refine ⟨xs', es, rfl, hf', rfl, ?_⟩
            rw [List.take_add_one]
            exact hes.trans (List.sublist_append_left _ _)
        · rintro acc ρ2 ⟨xs2, es, rfl, hf2, rfl, hes⟩
          refine ⟨xs2, es, rfl, hf2, ?_⟩
          rw [List.length_map, List.take_length] at hes
          exact hes
      rintro _ ⟨xs, es, rfl, hf, hes⟩
      have les : es.length ≤ 6 := by have := hes.length_le; rw [(sortN_perm ns).length_eq] at this; have := hn.few; omega
      refine r_cut (J := fun ρ => ρ = [.ol p xs, .dt (.lst (ns.map .str)), .ol q (rows.map rowD), .dt (.int many), .dt (.str name), .dt (.lst ((es.filter (fun e => e != name)).map .str)), s6, s7, .un, .un, .un]) (r_set (EvL.ev (el_filtF (gt_name (by decide)) es (fun e => e != name) D.str D.str (ei_list (ev_var rfl ⟨_, rfl, rfl, by omega, fun e he => ?_, rfl⟩))))) ?_
      · refine gg_name (et_test (ev_op (ev_var rfl (ev_var rfl (o_neS ⟨_, rfl, ?_⟩)))))
        exact ⟨rfl, rfl, fun _ => ev_var rfl ⟨rfl, rfl⟩⟩
      rintro _ rfl
      have hes2 : (es.filter (fun e => e != name)).Sublist (sortN ns) := List.filter_sublist.trans hes
      have hne : ∀ e ∈ es.filter (fun e => e != name), e ≠ name := fun e he => by simpa using (List.mem_filter.mp he).2
      generalize es.filter (fun e => e != name) = es2 at hes2 hne ⊢
      have les2 : es2.length ≤ 6 := by have := hes2.length_le; rw [(sortN_perm ns).length_eq] at this; have := hn.few; omega
      refine r_cut (J := fun ρ => ∃ (xs : List D) (ws : List (Str × Int)), ρ = [.ol p xs, .dt (.lst (ns.map .str)), .ol q (rows.map rowD), .dt (.int many), .dt (.str name), .dt (.lst (es2.map .str)), .dt (.tup (ws.map wayD)), s7, .un, .un, .un] ∧ Feed xs ∧ ws.map (·.1) = es2 ∧ ∀ p ∈ ws, 1 ≤ p.2 ∧ p.2 ≤ 3) (r_set (ev_cb (ea_cons (EvL.ev (el_lc (gt_name (by decide)) (ei_list (ev_var rfl ⟨_, rfl, ?_⟩))))))) ?_
      · refine ⟨by rw [List.length_map]; omega, fun i acc ρ => ∃ (xs2 : List D) (ws : List (Str × Int)), ρ = [.ol p xs2, .dt (.lst (ns.map .str)), .ol q (rows.map rowD), .dt (.int many), .dt (.str name), .dt (.lst (es2.map .str)), s6, s7, .un, .un, .un] ∧ Feed xs2 ∧ acc = ws.map wayD ∧ ws.map (·.1) = es2.take i ∧ ∀ p ∈ ws, 1 ≤ p.2 ∧ p.2 ≤ 3, ⟨xs, [], rfl, hf, rfl, rfl, by simp⟩, ?_, ?_⟩
        · rintro i d acc ρ2 hd2 ⟨xs2, ws, rfl, hf2, rfl, he1, he2⟩
          obtain ⟨e, he, rfl, hem⟩ := map_at hd2
          refine gg_name (et_yes ⟨fun _ => ev_tup (ea_cons (ev_var rfl (ea_cons (ev_op (ev_int (ev_callQ rfl ?_)))))), fun z => (by cases z)⟩)
          repeat walk_at "ze"
          refine ⟨_, rfl, _, ⟨hf2, 3, rfl, by decide, by decide, fun d xs' h0 h1 hf' => ?_⟩, fun d xs2 hd => hd⟩
          refine o_add (ea_nil ⟨by show 2 ≤ 100000; decide, ?_⟩)
          refine ⟨xs', ws ++ [(e, 1 + d)], rfl, hf', by rw [List.map_append]; rfl, ?_, fun p hp => ?_⟩
          · rw [List.map_append, he1, List.take_add_one, he]
            rfl
          · rcases List.mem_append.mp hp with hp | hp
            · exact he2 p hp
            · rw [List.mem_singleton.mp hp]
              exact ⟨by show 1 ≤ 1 + d; omega, by show 1 + d ≤ 3; omega⟩
        · rintro acc ρ2 ⟨xs2, ws, rfl, hf2, rfl, he1, he2⟩
          rw [List.length_map, List.take_length] at he1
          exact ea_nil (c_tupL ⟨xs2, ws, rfl, hf2, he1, he2⟩)
      rintro _ ⟨xs, ws, rfl, hf, he1, he2⟩
      have hway : ∀ p ∈ ws, p.1 ∈ ns ∧ p.1 ≠ name ∧ isNameM p.1 = true ∧ 1 ≤ p.2 ∧ p.2 ≤ 3 := fun p hp => by
        have h1 : p.1 ∈ es2 := by rw [← he1]; exact List.mem_map_of_mem hp
        have h2 : p.1 ∈ ns := (sortN_perm ns).mem_iff.mp (hes2.subset h1)
        exact ⟨h2, hne _ h1, hn.nm _ h2, he2 p hp⟩
      have lws : ws.length ≤ 6 := by have := congrArg List.length he1; rw [List.length_map] at this; omega
      have okw : okD 3 (.tup (ws.map wayD)) = true := by
        unfold okD
        have : ∀ l : List (Str × Int), (∀ p ∈ l, PyData.strOk p.1 = true) → okL 2 (l.map wayD) = true := fun l => by
          induction l with
          | nil => intro _; rfl
          | cons a r ih =>
            intro hh
            rw [List.map_cons]
            unfold okL
            rw [ih fun p hp => hh p (List.mem_cons_of_mem _ hp)]
            simp [wayD, okD, okL, hh a List.mem_cons_self]
        exact this ws fun p hp => low_ok (name_low (hway p hp).2.2.1).1
      refine r_cut (J := fun ρ => ∃ (xs : List D) (b : Bool), ρ = [.ol p xs, .dt (.lst (ns.map .str)), .ol q (rows.map rowD), .dt (.int many), .dt (.str name), .dt (.lst (es2.map .str)), .dt (.tup (ws.map wayD)), .dt (.bl b), .un, .un, .un] ∧ Feed xs ∧ (ws = [] → b = true)) (r_set (ev_or (ev_op (ev_var rfl (ev_tup (ea_nil ⟨by decide, o_eqU (n := 3) (m := 3) okw (by decide) ⟨_, rfl, fun c => ?_, fun c => ?_⟩⟩)))))) ?_
      · refine ev_op (ev_callQ rfl ?_)
        repeat walk_at "ze"
        refine ⟨_, rfl, _, ⟨hf, 3, rfl, by decide, by decide, fun d xs' h0 h1 hf' => ?_⟩, fun d xs2 hd => hd⟩
        refine ev_int (o_eqI ⟨xs', _, rfl, hf', fun e => ?_⟩)
        rw [deq_nil, e] at c
        cases c
      · exact ⟨xs, true, rfl, hf, fun _ => rfl⟩
      rintro _ ⟨xs, b, rfl, hf, hb⟩
      have lr : rows.length ≤ 6 := by have := congrArg List.length hr; rw [List.length_map, List.length_take] at this; have := hn.few; omega
      refine r_app rfl (by rw [List.length_map]; omega) (ev_tup (ea_cons (ev_var rfl (ea_cons (ev_callQ rfl ?_)))))
      repeat walk_at "ze"
      refine ⟨_, rfl, _, ⟨hf, 10, rfl, by decide, by decide, fun d xs' h0 h1 hf' => ?_⟩, fun d xs2 hd => hd⟩
      refine ea_cons (ev_var rfl (ea_cons (ev_var rfl (ea_nil ⟨by show 4 ≤ 100000; decide, _, rfl, by rw [List.length_map]; omega, ?_⟩))))
      refine ⟨xs', rows ++ [⟨name, d, b, ws⟩], .dt (.str name), .dt (.lst (es2.map .str)), .dt (.tup (ws.map wayD)), .dt (.bl b), ⟨rfl, rfl, rfl, rfl⟩, ?_, hf', ?_, fun r hr2 => ?_⟩
      · rw [List.map_append]; rfl
      · rw [List.map_append, hr, List.take_add_one, hname]; rfl
      · rcases List.mem_append.mp hr2 with hr2 | hr2
        · exact hg r hr2
        · rw [List.mem_singleton.mp hr2]
          refine ⟨hnm, h0, by show d ≤ 9; omega, hb, lws, ?_, hway⟩
          show (ws.map (·.1)).Pairwise _
          rw [he1]
          exact (sortN_asc hn.nd).sublist hes2
    · rintro ρ ⟨xs, rows, s4, s5, s6, s7, hs, rfl, hf, hr, hg⟩
      rw [List.length_map, List.take_length] at hr
      refine r_ret (ev_frz rfl ⟨_, rfl, k rows xs ⟨fun e => ?_, ?_, ?_, ?_⟩ hf⟩)
      · subst e
        exact hn.ne hr.symm
      · have := congrArg List.length hr
        rw [List.length_map] at this
        rw [this]; exact hn.few
      · rw [hr]; exact hn.nd
      · rw [hr]; exact hg
theorem ok__law_row (T : Txt K mg A) : FnOk P w K mg base (L2.CX P w) 1 A.a__law_row A.d__law_row ["told"] (spP K PLRow) := by
  refine T.F__law_row.okX sc__law_row (fun vs H Q E h => spP_len h fun ds Φ Θ hp => by obtain ⟨_, _, rfl, _⟩ := hp; rfl) (fun cdv A' outer s H vs Q E hr h => ⟨_, (pss_cons (ps_asg (pv 0) (pg_tupK (K := K) (n := 4) rfl rfl (pgs_cons (pg_name (i := 1) sc__law_row.nd rfl (by first | exact Or.inl rfl | exact Or.inr rfl)) (pgs_cons (pg_name (i := 2) sc__law_row.nd rfl (by first | exact Or.inl rfl | exact Or.inr rfl)) (pgs_cons (pg_name (i := 3) sc__law_row.nd rfl (by first | exact Or.inl rfl | exact Or.inr rfl)) (pgs_cons (pg_name (i := 4) sc__law_row.nd rfl (by first | exact Or.inl rfl | exact Or.inr rfl)) pgs_nil)))))) (pss_cons (ps_set (i := 5) sc__law_row.nd rfl (by first | exact Or.inl rfl | exact Or.inr rfl) (pe_lst (pa_cons (pv 1) (pa_cons (pe_callTy call_str_int (by rfl) T.m_str (by decide +kernel) (pa_cons (pv 2) pa_nil)) pa_nil)))) (pss_cons (ps_if (pt_truth (pv 3) (by intro _; rfl)) (pss_one (ps_expr (pe_bm PySem.F.plainAttrs_list PySem.F.slot_list_append PySem.F.type_list_append mt_append (pv 5) (pa_cons pe_str pa_nil)))) pss_nil) (pss_cons (ps_if (pt_cmpR (op_neU hr.units) (pv 4) (pe_tup pa_nil) (nomark _)) (pss_one (ps_expr (pe_bm PySem.F.plainAttrs_list PySem.F.slot_list_append PySem.F.type_list_append mt_append (pv 5) (pa_cons pe_str pa_nil)))) pss_nil) (pss_cons (ps_for (passes_of rfl) rfl (pi_tup (pv 4)) (pg_tupK (K := K) (n := 2) rfl rfl (pgs_cons (pg_name (i := 6) sc__law_row.nd rfl (by first | exact Or.inl rfl | exact Or.inr rfl)) (pgs_cons (pg_name (i := 7) sc__law_row.nd rfl (by first | exact Or.inl rfl | exact Or.inr rfl)) pgs_nil))) (pss_one (ps_set (i := 5) sc__law_row.nd rfl (by first | exact Or.inl rfl | exact Or.inr rfl) (pe_op op_addU (pv 5) (pe_lst (pa_cons (pv 6) (pa_cons (pe_callTy call_str_int (by rfl) T.m_str (by decide +kernel) (pa_cons (pv 7) pa_nil)) pa_nil))))))) (pss_one (ps_ret (pe_join pe_str (pv 5))))))))), ?_⟩)
  · refine body_pure (fun ds Φ Θ hp => ?_) h
    dsimp only [L2.cxOf]
    obtain ⟨ns, r, rfl, g, k⟩ := hp
    rw [show rho0 N__law_row.length [rowD r] = [.dt (rowD r), .un, .un, .un, .un, .un, .un, .un] from rfl]
    have dg := dig g.l0 g.l9
    have sm : ∀ i : Int, 0 ≤ i → i ≤ 9 → i.natAbs.log2 < 1920 := fun i h0 h9 => by have := small_of h0 h9; unfold smallI at this; exact of_decide_eq_true this
    refine r_seq (r_asg (ev_var (d := rowD r) rfl ?_))
    unfold rowD
    refine gg_tup rfl ?_
    refine gs_cons (gg_name ?_)
    refine gs_cons (gg_name ?_)
    refine gs_cons (gg_name ?_)
    refine gs_cons (gg_name ?_)
    refine gs_nil ?_
    change RunS K _ _ _ [.dt (rowD r), .dt (.str r.name), .dt (.int r.limit), .dt (.bl r.stay), .dt (.tup (r.ways.map wayD)), .un, .un, .un] _
    refine r_seq (r_setL (el_lst ?_))
    repeat walk_at "ze"
    refine c_strI (sm _ g.l0 g.l9) ?_
    repeat walk_at "ze"
    refine ⟨by show 2 ≤ 100000; decide, fun q => ?_⟩
    refine r_cut (J := fun ρ => ρ = [.dt (rowD r), .dt (.str r.name), .dt (.int r.limit), .dt (.bl r.stay), .dt (.tup (r.ways.map wayD)), .ol q (([r.name, intS r.limit] ++ (if r.stay then [("stay" : Str)] else [])).map D.str), .un, .un]) (r_when (et_truth (ev_var rfl ⟨fun s e => (by cases e), _, rfl, fun c => ?_, fun c => ?_⟩))) ?_
    · refine r_app rfl (by show 2 < 100000; decide) (ev_str ⟨_, rfl, by show 2 < 100000; decide, ?_⟩)
      rw [c]
      rfl
    · rw [c]
      rfl
    rintro _ rfl
    have l3 : ([r.name, intS r.limit] ++ (if r.stay then [("stay" : Str)] else [])).length ≤ 3 := by
      split
      · show 3 ≤ 3; decide
      · show 2 ≤ 3; decide
    have eW : wordsOf r = ([r.name, intS r.limit] ++ (if r.stay then [("stay" : Str)] else [])) ++ tailWords r.ways := rfl
    generalize [r.name, intS r.limit] ++ (if r.stay then [("stay" : Str)] else []) = W at l3 eW ⊢
    have okw : okD 3 (.tup (r.ways.map wayD)) = true := by
      unfold okD
      have : ∀ l : List (Str × Int), (∀ p ∈ l, PyData.strOk p.1 = true) → okL 2 (l.map wayD) = true := fun l => by
        induction l with
        | nil => intro _; rfl
        | cons a r ih =>
          intro hh
          rw [List.map_cons]
          unfold okL
          rw [ih fun p hp => hh p (List.mem_cons_of_mem _ hp)]
          simp [wayD, okD, okL, hh a List.mem_cons_self]
      exact this r.ways fun p hp => low_ok (name_low (g.way p hp).2.2.1).1
    refine r_cut (J := fun ρ => ρ = [.dt (rowD r), .dt (.str r.name), .dt (.int r.limit), .dt (.bl r.stay), .dt (.tup (r.ways.map wayD)), .ol q ((W ++ (if r.ways.isEmpty then [] else [("->" : Str)])).map D.str), .un, .un]) (r_when (et_test (ev_op (ev_var rfl (ev_tup (ea_nil ⟨by decide, o_neU (n := 3) (m := 3) okw (by decide) ⟨_, rfl, fun c => ?_, fun c => ?_⟩⟩)))))) ?_
    · rw [deq_nil, List.isEmpty_map] at c
      refine r_app rfl (by rw [List.length_map]; omega) (ev_str ⟨_, rfl, by rw [List.length_map]; omega, ?_⟩)
      have c2 : r.ways.isEmpty = false := by simpa using c
      rw [c2, List.map_append]
      rfl
    · rw [deq_nil, List.isEmpty_map] at c
      have c2 : r.ways.isEmpty = true := by simpa using c
      rw [c2, if_pos rfl, List.append_nil]
      rfl
    rintro _ rfl
    have eT : wordsOf r = (W ++ (if r.ways.isEmpty then [] else [("->" : Str)])) ++ wayWords r.ways := by
      rw [eW, List.append_assoc]
      unfold tailWords
      cases r.ways with
      | nil => rfl
      | cons a b => rfl
    have l4 : (W ++ (if r.ways.isEmpty then [] else [("->" : Str)])).length ≤ 4 := by
      rw [List.length_append]
      split
      · show _ + 0 ≤ 4; omega
      · show _ + 1 ≤ 4; omega
    generalize W ++ (if r.ways.isEmpty then [] else [("->" : Str)]) = U at l4 eT ⊢
    have few := g.few
    refine r_seq (r_for (ei_tup (ev_var rfl ⟨_, rfl, fun n ρ => ∃ (s5 s6 s7 : Slot), (s6.ad = none ∧ s7.ad = none) ∧ (s5 = .dt (.lst ((U ++ wayWords (r.ways.take n)).map D.str)) ∨ s5 = .ol q ((U ++ wayWords (r.ways.take n)).map D.str)) ∧ ρ = [.dt (rowD r), .dt (.str r.name), .dt (.int r.limit), .dt (.bl r.stay), .dt (.tup (r.ways.map wayD)), s5, s6, s7], ?_, ?_, ?_⟩)))
    · exact ⟨_, _, _, ⟨rfl, rfl⟩, .inr rfl, by rw [List.take_zero]; unfold wayWords; rw [List.flatMap_nil, List.append_nil]⟩
    · rintro n d ρ hd ⟨s5, s6, s7, hs, h5, rfl⟩
      obtain ⟨pr, hp, rfl, hm⟩ := map_at hd
      have hn : n < r.ways.length := (List.getElem?_eq_some_iff.mp hp).1
      obtain ⟨_, _, _, w1, w2⟩ := g.way pr hm
      have wl : (wayWords (r.ways.take n)).length ≤ 12 := by rw [wayWords_len, List.length_take]; omega
      have st : wayWords (r.ways.take (n + 1)) = wayWords (r.ways.take n) ++ [pr.1, intS pr.2] := by
        unfold wayWords
        rw [List.take_add_one, hp, List.flatMap_append]
        rfl
      refine gg_tup rfl (gs_cons (gg_name (gs_cons (gg_name (gs_nil ?_)))))
      have fin : ∀ ρ2 : Rho, ρ2 = [.dt (rowD r), .dt (.str r.name), .dt (.int r.limit), .dt (.bl r.stay), .dt (.tup (r.ways.map wayD)), .dt (.lst ((U ++ wayWords (r.ways.take n)).map D.str)), .dt (.str pr.1), .dt (.int pr.2)] →
          EvS K (fun _ => E) (fun C fld _ => Θ C fld) (tLst (tCons (tVar 6) (tCons (tCB rStrI (tCons (tVar 7) tNil)) tNil))) ρ2 (fun y ρ3 => Op2 K (rAddU K) (.lst ((U ++ wayWords (r.ways.take n)).map D.str)) y fun z => turnO (thenO (endO Φ) fun ρ1 => RunS K (fun _ => E) (fun C fld _ => Θ C fld) (tRet (tM1 (rJoin K) (L2.tC (V.str " ")) (tVar 5))) ρ1 (endO Φ)) (fun ρ => ∃ (s5 s6 s7 : Slot), (s6.ad = none ∧ s7.ad = none) ∧ (s5 = .dt (.lst ((U ++ wayWords (r.ways.take (n + 1))).map D.str)) ∨ s5 = .ol q ((U ++ wayWords (r.ways.take (n + 1))).map D.str)) ∧ ρ = [.dt (rowD r), .dt (.str r.name), .dt (.int r.limit), .dt (.bl r.stay), .dt (.tup (r.ways.map wayD)), s5, s6, s7]) (.nx (ρ3.set 5 (.dt z)))) := by
        rintro _ rfl
        refine ev_lst ?_
        repeat walk_at "ze"
        refine c_strI (sm _ (by omega) (by omega)) ?_
        repeat walk_at "ze"
        refine ⟨by show 2 ≤ 100000; decide, o_addL (by rw [List.length_map, List.length_append]; show _ + 2 ≤ 100000; omega) ?_⟩
        refine ⟨_, .dt (.str pr.1), .dt (.int pr.2), ⟨rfl, rfl⟩, .inl rfl, ?_⟩
        rw [st, ← List.append_assoc, List.map_append (l₂ := [pr.1, intS pr.2])]
        rfl
      rcases h5 with rfl | rfl
      · exact r_set (ev_op (ev_var rfl (fin _ rfl)))
      · exact r_set (ev_op (ev_frz rfl (fin _ rfl)))
    · rintro ρ ⟨s5, s6, s7, hs, h5, rfl⟩
      rw [List.length_map, List.take_length, ← eT] at h5
      have hj := (join_le " " (wordsOf r) (c := 8) fun w hw => (words_clean g w hw).2).2
      have e1 : (Str.ofString " ").length = 1 := by decide +kernel
      rw [e1] at hj
      have := (words_few g).2
      refine r_ret (ev_join (ev_str ⟨_, rfl, ?_⟩))
      rcases h5 with rfl | rfl
      · exact ev_var rfl ⟨_, rfl, by rw [e1]; omega, k⟩
      · exact ev_frz rfl ⟨_, rfl, by rw [e1]; omega, k⟩
theorem ok__law_text (T : Txt K mg A) (G__law_row : FnOk P w K mg base (L2.CX P w) 1 A.a__law_row A.d__law_row ["told"] (spP K PLRow)) : FnOk P w K mg base (L2.CX P w) 2 A.a__law_text A.d__law_text ["rows"] (spP K PLText) := by
  refine T.F__law_text.okX sc__law_text (fun vs H Q E h => spP_len h fun ds Φ Θ hp => by obtain ⟨_, _, rfl, _⟩ := hp; rfl) (fun cdv A' outer s H vs Q E hr h => ⟨_, (pss_one (ps_ret (pe_join pe_str (pe_lc (own := [("told", 1)]) rfl sc__law_text.nd (pi_list (pv 0)) (blkOk_by (own := [("told", 1)]) (N := N__law_text) (sc := (defScope s__law_text)) (by decide +kernel)) (fun _ _ _ _ _ => (pg_name (i := 1) sc__law_text.nd rfl (by first | exact Or.inl rfl | exact Or.inr rfl))) (fun _ _ _ _ _ => pts_nil) (fun _ _ _ _ _ => (pe_callSD G__law_row (hr.mono (by decide)) rfl T.g__law_row T.F__law_row.kp T.b__law_row .nil (fun σ => passL0) (pa_cons (pv 1) pa_nil))))))), ?_⟩)
  · refine body_pure (fun ds Φ Θ hp => ?_) h
    dsimp only [L2.cxOf]
    obtain ⟨ns, rows, rfl, hf, ga, k⟩ := hp
    rw [show rho0 N__law_text.length [.lst (rows.map rowD)] = [.dt (.lst (rows.map rowD)), .un] from rfl]
    have hj := (join_le "\n" (rows.map textR) (c := 144) fun w hw => by
      obtain ⟨r, hr, rfl⟩ := List.mem_map.mp hw
      exact textR_le (ga r hr)).2
    have e1 : (Str.ofString "\n").length = 1 := by decide +kernel
    rw [e1, List.length_map] at hj
    refine r_ret (ev_join (ev_str ⟨_, rfl, EvL.ev (el_mapF (gt_name (by decide)) rows rowD (fun r => .str (textR r)) (ei_list (ev_var rfl ⟨_, rfl, rfl, by omega, fun r hr => ?_, ?_⟩)))⟩))
    · refine gg_name (ev_call (ea_cons (ev_var rfl (ea_nil ⟨fun d => d = .str (textR r), noT, ⟨_, r, rfl, ga r hr, rfl⟩, fun d hd => ⟨hd, rfl⟩, fun _ _ z => z.elim⟩))))
    · refine ⟨rows.map textR, by rw [List.map_map]; rfl, ?_, k⟩
      rw [e1]
      simp only [List.length_map] at hj ⊢
      omega
end
end Lw

namespace Lw
open PySem PySem.Spec PyProof.Rows L2 Evl Z
local macro_rules | `(tactic| walk_at "ze") => `(tactic| (first
  | ((with_reducible show EvS _ _ _ (tVar _) _ _); refine ev_var rfl ?_)
  | ((with_reducible show EvS _ _ _ (tOp (rIx _) (tVar _) _) _ _); refine ev_ixO rfl ?_)
  | ((with_reducible show EvS _ _ _ (tCB (rLenU _) (tCons (tVar _) tNil)) _ _); refine ev_lenO rfl ?_)
  | (with_reducible first
    | refine ei_str ?_
    | refine ei_list ?_
    | refine ei_tup ?_
    | refine ei_enum ?_
    | refine ei_rng1 ?_
    | refine ei_rng2 ?_
    | refine ei_rng3 ?_
    | refine ei_zip ?_
    | refine gg_name ?_
    | refine ev_int ?_
    | refine ev_str ?_
    | refine ev_bl ?_
    | refine ev_non ?_
    | refine ea_nil ?_
    | refine ea_cons ?_
    | refine ev_op ?_
    | refine ev_un ?_
    | refine ev_cb ?_
    | refine et_test ?_
    | refine et_B ?_
    | refine et_not ?_
    | refine et_truth ?_
    | refine eo_none ?_
    | refine eo_some ?_
    | refine ev_slice ?_
    | refine ev_tup ?_
    | refine ev_chain ?_
    | refine ev_lst ?_
    | refine o_add ?_
    | refine o_sub ?_
    | refine o_cmp ?_
    | refine o_cmpS ?_
    | refine o_eqS ?_
    | refine o_neS ?_
    | refine o_eqI ?_
    | refine o_neI ?_
    | refine c_int ?_
    | refine c_intB ?_
    | refine c_abs ?_
    | refine c_max2 ?_
    | refine c_min2 ?_
    | refine c_tupL ?_
    | refine c_tupT ?_
    | refine c_listL ?_
    | refine c_listT ?_
    | refine o_isN ?_
    | refine o_notN ?_
    | refine el_lst ?_)
  | ((with_reducible show Cl _ (rLenU _) [_] _); refine c_len (by intro s hs; cases hs <;> first | assumption | omega) rfl ?_)))
local macro_rules | `(tactic| walk_at "zn") => `(tactic| try simp only [List.map_cons, List.map_nil, wipeR_n, wipeR_c, List.set_cons_zero, List.set_cons_succ])
theorem fineBack_1 {s : SiteM} (h : fineBack s = true) : s.names.length ≤ 100 ∧ (∀ r ∈ s.ways, r.length ≤ 100) ∧ ∀ z ∈ s.names, PyData.strOk z = true := by
  unfold fineBack at h
  simp only [Bool.and_eq_true, decide_eq_true_eq, List.all_eq_true] at h
  exact ⟨h.1.1, h.1.2, h.2⟩
theorem backRaw_len {s : SiteM} {name : Str} (h : ∀ r ∈ s.ways, r.length ≤ 100) : ∀ n, (backRaw s name n).length ≤ n * 100
  | 0 => by unfold backRaw; rw [List.take_zero]; exact Nat.le_refl _
  | n + 1 => by
    have ih := backRaw_len (name := name) h n
    unfold backRaw at ih ⊢
    rw [List.take_add_one, List.flatMap_append, List.length_append]
    cases hp : (s.names.zip s.ways)[n]? with
    | none => show _ + 0 ≤ _; omega
    | some p =>
      have hm : p.2 ∈ s.ways := (List.of_mem_zip (List.mem_of_getElem? hp)).2
      have h1 := h _ hm
      have h2 := List.length_filter_le (fun q : Str × Int => q.1 == name) p.2
      simp only [Option.toList_some, List.flatMap_cons, List.flatMap_nil, List.append_nil, List.length_map]
      omega
section
variable {P : Program} {w : World} {K : PySem.W.Frag} {mg : Str → Option Value} {base : Heap} {A : Ad}
theorem ok__ways_back (T : Txt K mg A) : FnOk P w K mg base (L2.CX P w) 1 A.a__ways_back A.d__ways_back ["site", "name"] (spP K (PBack A.c_Site)) := by
  refine T.F__ways_back.okX sc__ways_back (fun vs H Q E h => spP_len h fun ds Φ Θ hp => by obtain ⟨_, _, rfl, _⟩ := hp; rfl) (fun cdv A' outer s H vs Q E hr h => ⟨_, (pss_cons (ps_set (i := 2) sc__ways_back.nd rfl (by first | exact Or.inl rfl | exact Or.inr rfl) (pe_lst pa_nil)) (pss_cons (ps_for (passes_of rfl) rfl (RZ.pi_zipA (by rfl) T.m_zip (pa_cons (pe_fld (pv 0) rfl) (pa_cons (pe_fld (pv 0) rfl) pa_nil))) (pg_tupK (K := K) (n := 2) rfl rfl (pgs_cons (pg_name (i := 3) sc__ways_back.nd rfl (by first | exact Or.inl rfl | exact Or.inr rfl)) (pgs_cons (pg_name (i := 4) sc__ways_back.nd rfl (by first | exact Or.inl rfl | exact Or.inr rfl)) pgs_nil))) (pss_one (ps_expr (pe_bm PySem.F.plainAttrs_list PySem.F.slot_list_extend PySem.F.type_list_extend mt_extend (pv 2) (pa_cons (pe_lc (own := [("end", 5), ("steps", 6)]) rfl sc__ways_back.nd (pi_tup (pv 4)) (blkOk_by (own := [("end", 5), ("steps", 6)]) (N := N__ways_back) (sc := (defScope s__ways_back)) (by decide +kernel)) (fun _ _ _ _ _ => (pg_tupK (K := K) (n := 2) rfl rfl (pgs_cons (pg_name (i := 5) sc__ways_back.nd rfl (by first | exact Or.inl rfl | exact Or.inr rfl)) (pgs_cons (pg_name (i := 6) sc__ways_back.nd rfl (by first | exact Or.inl rfl | exact Or.inr rfl)) pgs_nil)))) (fun _ _ _ _ _ => (pts_one (pt_cmpR (opK rEqU K (op_eqU hr.units) rfl) (pv 5) (pv 1) (nomark _)))) (fun _ _ _ _ _ => (pe_tup (pa_cons (pv 3) (pa_cons (pv 6) pa_nil))))) pa_nil))))) (pss_one (ps_ret (pe_callB (call_sortU rfl hr) (by rfl) T.m_sorted (by decide +kernel) (pa_cons (pv 2) pa_nil)))))), ?_⟩)
  · refine body_pure (fun ds Φ Θ hp => ?_) h
    dsimp only [L2.cxOf]
    obtain ⟨s, name, rfl, hf, k⟩ := hp
    obtain ⟨l1, l2, hz⟩ := fineBack_1 hf
    have lz : (s.names.zip s.ways).length ≤ 100 := by rw [List.length_zip]; omega
    rw [show rho0 N__ways_back.length [siteD A.c_Site s, .str name] = [.dt (siteD A.c_Site s), .dt (.str name), .un, .un, .un, .un, .un] from rfl]
    refine r_seq (r_setL (el_lst (Z.ea_nil ⟨by decide, fun q => ?_⟩)))
    walk_at "zn"
    refine r_seq (r_for (ei_zip (Z.ea_cons (ev_fld ?_))))
    repeat walk_at "ze"
    refine ⟨A.c_Site, _, _, _, rfl, T.cl_Site, T.na_Site_names, rfl, Z.ea_cons (ev_fld ?_)⟩
    repeat walk_at "ze"
    refine ⟨A.c_Site, _, _, _, rfl, T.cl_Site, T.na_Site_ways, rfl, Z.ea_nil ⟨_, _, .inr rfl, fun n ρ => ∃ (s3 s4 s5 s6 : Slot), (s3.ad = none ∧ s4.ad = none ∧ s5.ad = none ∧ s6.ad = none) ∧ ρ = [.dt (siteD A.c_Site s), .dt (.str name), .ol q ((backRaw s name n).map wayD), s3, s4, s5, s6], ⟨.un, .un, .un, .un, ⟨rfl, rfl, rfl, rfl⟩, rfl⟩, ?_, ?_⟩⟩
    · rintro n d ρ hd ⟨s3, s4, s5, s6, _, rfl⟩
      rw [zipD_map] at hd
      obtain ⟨p, hp, rfl, hm⟩ := map_at (gi := fun p : Str × List (Str × Int) => D.tup [.str p.1, .tup (p.2.map wayD)]) hd
      have hn : n < 100 := by
        have := (List.getElem?_eq_some_iff.mp hp).1
        omega
      have hw : p.2.length ≤ 100 := l2 _ (List.of_mem_zip hm).2
      have hb := backRaw_len (name := name) l2 n
      refine gg_tup rfl (gs_cons ?_)
      refine gg_name (gs_cons ?_)
      refine gg_name (gs_nil ?_)
      walk_at "zn"
      refine r_ext rfl (EvL.ev (el_filtF (gt_tup (gts_name (by decide) (gts_name (by decide) gts_nil))) p.2 (fun q => q.1 == name) wayD (fun q => wayD (p.1, q.2)) (ei_tup ?_)))
      repeat walk_at "ze"
      refine ⟨_, rfl, rfl, by omega, fun r hr => ?_, ?_⟩
      · refine gg_tup rfl (gs_cons ?_)
        refine gg_name (gs_cons ?_)
        refine gg_name (gs_nil ?_)
        refine et_test ?_
        repeat walk_at "ze"
        refine ⟨_, rfl, rfl, rfl, fun _ => ?_⟩
        repeat walk_at "ze"
        exact ⟨by show 2 ≤ 100000; decide, rfl, rfl⟩
      walk_at "zn"
      have h2 := List.length_filter_le (fun q : Str × Int => q.1 == name) p.2
      refine ⟨_, _, rfl, rfl, by rw [List.length_map, List.length_map]; omega, .dt (.str p.1), .dt (.tup (p.2.map wayD)), .un, .un, ⟨rfl, rfl, rfl, rfl⟩, ?_⟩
      have : backRaw s name (n + 1) = backRaw s name n ++ (p.2.filter fun q => q.1 == name).map fun q => (p.1, q.2) := by
        unfold backRaw
        rw [List.take_add_one, hp, List.flatMap_append]
        simp
      rw [this, List.map_append, List.map_map]
      rfl
    · rintro ρ ⟨s3, s4, s5, s6, _, rfl⟩
      rw [zipD_map, List.length_map]
      refine r_ret (ev_cb (Z.ea_cons (ev_frz rfl (Z.ea_nil (c_orL (c_sortW (fun p hp => ?_) k))))))
      unfold backRaw at hp
      obtain ⟨r, hr, hq⟩ := List.mem_flatMap.mp hp
      obtain ⟨t, ht, rfl⟩ := List.mem_map.mp hq
      exact hz _ (List.of_mem_zip (List.mem_of_mem_take hr)).1
theorem ok_turned (T : Txt K mg A) (G_Site : FnOk P w K mg base (L2.CX P w) 1 A.a_init A.d_init ["self", "names", "limits", "stays", "ways"] (spMk K A.c_Site PInit)) (G__ways_back : FnOk P w K mg base (L2.CX P w) 1 A.a__ways_back A.d__ways_back ["site", "name"] (spP K (PBack A.c_Site))) (G_NoWay : FnOk P w K mg base (L2.CX P w) 1 A.a_i_NoWay A.d_i_NoWay ["self", "place"] (spXI A.c_NoWay "place")) : FnOk P w K mg base (L2.CX P w) 3 A.a_turned A.d_turned ["site"] (spP K (PTurn A.c_Site A.c_NoWay)) := by
  refine T.F_turned.okX sc_turned (fun vs H Q E h => spP_len h fun ds Φ Θ hp => by obtain ⟨_, rfl, _⟩ := hp; rfl) (fun cdv A' outer s H vs Q E hr h => ⟨_, (pss_cons (ps_set (i := 1) sc_turned.nd rfl (by first | exact Or.inl rfl | exact Or.inr rfl) (pe_lst pa_nil)) (pss_cons (ps_for (passes_of rfl) rfl (RZ.pi_zipA (by rfl) T.m_zip (pa_cons (pe_fld (pv 0) rfl) (pa_cons (pe_fld (pv 0) rfl) pa_nil))) (pg_tupK (K := K) (n := 2) rfl rfl (pgs_cons (pg_name (i := 2) sc_turned.nd rfl (by first | exact Or.inl rfl | exact Or.inr rfl)) (pgs_cons (pg_name (i := 3) sc_turned.nd rfl (by first | exact Or.inl rfl | exact Or.inr rfl)) pgs_nil))) (pss_cons (ps_set (i := 4) sc_turned.nd rfl (by first | exact Or.inl rfl | exact Or.inr rfl) (pe_callSD G__ways_back (hr.mono (by decide)) rfl T.g__ways_back T.F__ways_back.kp T.b__ways_back .nil (fun σ => passAt (W := fun cls d _ H => E cls d H) (takes_of rfl rfl rfl rfl) σ) (pa_cons (pv 0) (pa_cons (pv 2) pa_nil)))) (pss_cons (ps_if (PW.pt (pw_and (pt_not (pt_truth (pv 3) (by intro _; rfl))) (pw_and1 (pt_not (pt_truth (pv 4) (by intro _; rfl)))))) (pss_one (ps_raise rfl (takes_of rfl rfl rfl rfl) (pmk_oex T.x_NoWay T.xi_NoWay T.xt_NoWay G_NoWay (hr.mono (by decide)) T.b_i_NoWay .nil passL rfl T.g_NoWay (pa_cons (pv 2) pa_nil)))) pss_nil) (pss_one (ps_expr (pe_bm PySem.F.plainAttrs_list PySem.F.slot_list_append PySem.F.type_list_append mt_append (pv 1) (pa_cons (pv 4) pa_nil))))))) (pss_one (ps_ret (pe_make T.mk_Site G_Site (hr.mono (by decide)) rfl T.g_Site T.b_init .nil passL (pa_cons (pe_fld (pv 0) rfl) (pa_cons (pe_fld (pv 0) rfl) (pa_cons (pe_fld (pv 0) rfl) (pa_cons (pv 1) pa_nil))))))))), ?_⟩)
  · refine body_pure (fun ds Φ Θ hp => ?_) h
    dsimp only [L2.cxOf]
    obtain ⟨s, rfl, hf, kok, kerr⟩ := hp
    obtain ⟨l1, l2, hz⟩ := fineBack_1 hf
    have lz : (s.names.zip s.stays).length ≤ 100 := by rw [List.length_zip]; omega
    rw [show rho0 N_turned.length [siteD A.c_Site s] = [.dt (siteD A.c_Site s), .un, .un, .un, .un] from rfl]
    refine r_seq (r_setL (el_lst (Z.ea_nil ⟨by decide, fun q => ?_⟩)))
    walk_at "zn"
    refine r_seq (r_for (ei_zip (Z.ea_cons (ev_fld ?_))))
    repeat walk_at "ze"
    refine ⟨A.c_Site, _, _, _, rfl, T.cl_Site, T.na_Site_names, rfl, Z.ea_cons (ev_fld ?_)⟩
    repeat walk_at "ze"
    refine ⟨A.c_Site, _, _, _, rfl, T.cl_Site, T.na_Site_stays, rfl, Z.ea_nil ⟨_, _, .inr rfl, fun n ρ => ∃ (acc : List (List (Str × Int))) (s2 s3 s4 : Slot), (s2.ad = none ∧ s3.ad = none ∧ s4.ad = none) ∧ ρ = [.dt (siteD A.c_Site s), .ol q (acc.map fun r => .lst (r.map wayD)), s2, s3, s4] ∧
      acc.length = n ∧ goT s acc ((s.names.zip s.stays).drop n) = goT s [] (s.names.zip s.stays), ⟨[], .un, .un, .un, ⟨rfl, rfl, rfl⟩, rfl, rfl, rfl⟩, ?_, ?_⟩⟩
    · rintro n d ρ hd ⟨acc, s2, s3, s4, _, rfl, la, hgo⟩
      rw [zipD_map] at hd
      obtain ⟨p, hp, rfl, hm⟩ := map_at (gi := fun p : Str × Bool => D.tup [.str p.1, .bl p.2]) hd
      have hn : n < (s.names.zip s.stays).length := (List.getElem?_eq_some_iff.mp hp).1
      rw [List.drop_eq_getElem_cons hn, show (s.names.zip s.stays)[n] = p from (List.getElem?_eq_some_iff.mp hp).2] at hgo
      refine gg_tup rfl (gs_cons ?_)
      refine gg_name (gs_cons ?_)
      refine gg_name (gs_nil ?_)
      walk_at "zn"
      refine r_seq (r_set (ev_call ?_))
      repeat walk_at "ze"
      refine ⟨fun d => d = .lst ((backM s p.1).map wayD), noT, ⟨s, p.1, rfl, hf, rfl⟩, ?_, fun _ _ z => z.elim⟩
      rintro _ rfl
      walk_at "zn"
      have em : ((backM s p.1).map wayD).isEmpty = (backM s p.1).isEmpty := List.isEmpty_map
      refine r_cut (J := fun ρ => ρ = [.dt (siteD A.c_Site s), .ol q (acc.map fun r => .lst (r.map wayD)), .dt (.str p.1), .dt (.bl p.2), .dt (.lst ((backM s p.1).map wayD))] ∧ (!p.2 && (backM s p.1).isEmpty) = false) (r_when (et_and (et_not ?_))) ?_
      · repeat walk_at "ze"
        refine ⟨fun s e => (by cases e), _, rfl, fun c1 => et_not ?_, fun c1 => ⟨fun z => (by cases z), fun _ => ⟨rfl, by rw [c1]; rfl⟩⟩⟩
        repeat walk_at "ze"
        refine ⟨fun s e => (by cases e), _, rfl, fun c2 => r_raise ?_, fun c2 => ⟨rfl, ?_⟩⟩
        · repeat walk_at "ze"
          refine ⟨_, rfl, kerr p.1 ?_⟩
          have c2 : (backM s p.1).isEmpty = true := by
            rw [em] at c2
            simpa using c2
          unfold turnedM
          rw [← hgo]
          unfold goT
          rw [c1, c2]
          rfl
        · rw [em] at c2
          have c2 : (backM s p.1).isEmpty = false := by simpa using c2
          rw [c2, Bool.and_false]
      rintro _ ⟨rfl, hc⟩
      refine r_app rfl (by rw [List.length_map]; omega) ?_
      repeat walk_at "ze"
      refine ⟨_, rfl, by rw [List.length_map]; omega, acc ++ [backM s p.1], .dt (.str p.1), .dt (.bl p.2), .dt (.lst ((backM s p.1).map wayD)), ⟨rfl, rfl, rfl⟩, ?_, by rw [List.length_append, la]; rfl, ?_⟩
      · rw [List.map_append]
        rfl
      · rw [← hgo]
        conv => rhs; unfold goT
        rw [hc]
        rfl
    · rintro ρ ⟨acc, s2, s3, s4, _, rfl, la, hgo⟩
      rw [zipD_map, List.length_map, List.drop_length] at hgo
      rw [zipD_map, List.length_map] at la
      refine r_ret (ev_make (Z.ea_cons (ev_fld ?_)))
      repeat walk_at "ze"
      refine ⟨A.c_Site, _, _, _, rfl, T.cl_Site, T.na_Site_names, rfl, Z.ea_cons (ev_fld ?_)⟩
      repeat walk_at "ze"
      refine ⟨A.c_Site, _, _, _, rfl, T.cl_Site, T.na_Site_limits, rfl, Z.ea_cons (ev_fld ?_)⟩
      repeat walk_at "ze"
      refine ⟨A.c_Site, _, _, _, rfl, T.cl_Site, T.na_Site_stays, rfl, Z.ea_cons (ev_frz rfl (Z.ea_nil ?_))⟩
      refine ⟨fun ks es => ks = (["names", "limits", "stays", "ways"] : List Str) ∧ es = [.tup (s.names.map .str), .tup (s.limits.map .int), .tup (s.stays.map .bl), .tup ((acc.map fun r => r.map wayD).map D.tup)],
        ⟨s.names.map .str, s.limits.map .int, s.stays.map .bl, acc.map fun r => .lst (r.map wayD), acc.map fun r => r.map wayD, true, true, true, false, rfl, by rw [List.length_map]; omega, .inl (by rw [List.map_map]; rfl), rfl, rfl⟩, ?_⟩
      rintro ks es ⟨rfl, rfl⟩
      have := kok ⟨s.names, s.limits, s.stays, acc⟩ (by unfold turnedM; rw [← hgo]; rfl)
      unfold siteD at this
      rw [List.map_map]
      exact this
theorem ok_with_limits (T : Txt K mg A) (G_Site : FnOk P w K mg base (L2.CX P w) 1 A.a_init A.d_init ["self", "names", "limits", "stays", "ways"] (spMk K A.c_Site PInit)) : FnOk P w K mg base (L2.CX P w) 3 A.a_with_limits A.d_with_limits ["site", "limits"] (spP K (PWith A.c_Site)) := by
  refine T.F_with_limits.okX sc_with_limits (fun vs H Q E h => spP_len h fun ds Φ Θ hp => by obtain ⟨_, _, _, rfl, _⟩ := hp; rfl) (fun cdv A' outer s H vs Q E hr h => ⟨_, (pss_one (ps_ret (pe_make T.mk_Site G_Site (hr.mono (by decide)) rfl T.g_Site T.b_init .nil passL (pa_cons (pe_fld (pv 0) rfl) (pa_cons (pv 1) (pa_cons (pe_fld (pv 0) rfl) (pa_cons (pe_fld (pv 0) rfl) pa_nil))))))), ?_⟩)
  · refine body_pure (fun ds Φ Θ hp => ?_) h
    dsimp only [L2.cxOf]
    obtain ⟨s, ls, b, rfl, hl, k⟩ := hp
    rw [show rho0 N_with_limits.length [siteD A.c_Site s, if b then .tup (ls.map .int) else .lst (ls.map .int)] = [.dt (siteD A.c_Site s), .dt (if b then .tup (ls.map .int) else .lst (ls.map .int))] from rfl]
    refine r_ret (ev_make (Z.ea_cons (ev_fld ?_)))
    repeat walk_at "ze"
    refine ⟨A.c_Site, _, _, _, rfl, T.cl_Site, T.na_Site_names, rfl, ?_⟩
    repeat walk_at "ze"
    refine ev_fld ?_
    repeat walk_at "ze"
    refine ⟨A.c_Site, _, _, _, rfl, T.cl_Site, T.na_Site_stays, rfl, Z.ea_cons (ev_fld ?_)⟩
    repeat walk_at "ze"
    refine ⟨A.c_Site, _, _, _, rfl, T.cl_Site, T.na_Site_ways, rfl, Z.ea_nil ?_⟩
    refine ⟨fun ks es => ks = (["names", "limits", "stays", "ways"] : List Str) ∧ es = [.tup (s.names.map .str), .tup (ls.map .int), .tup (s.stays.map .bl), .tup ((s.ways.map fun r => r.map wayD).map D.tup)],
      ⟨s.names.map .str, ls.map .int, s.stays.map .bl, s.ways.map fun r => .tup (r.map wayD), s.ways.map fun r => r.map wayD, true, b, true, true, rfl, by rw [List.length_map]; omega, .inr (by rw [List.map_map]; rfl), rfl, rfl⟩, ?_⟩
    rintro ks es ⟨rfl, rfl⟩
    unfold siteD at k
    rw [List.map_map]
    exact k
end
end Lw

namespace Z
open PySem PySem.Spec PyProof.Rows L2 Evl
variable {K : PySem.W.Frag} {E : L2.St → XK} {Ξ : Xi} {ρ : Rho} {te : TE}
theorem ev_isiNo {C : Addr} {Φ : D → Rho → Prop} (S : IsC K C) (cl : Cls K C) (ns : PySem.W.subIn K (.ref C) (.type "str") = some false) (h : EvS K E Ξ te ρ fun d ρ1 => (∃ ks ds, d = .obj C ks ds) ∧ Φ (.bl false) ρ1) : EvS K E Ξ (tCB (rIsi K) (tCons te (tCons (tC (.ty "str")) tNil))) ρ Φ := fun F0 H0 σ F H Q S' e k =>
  h F0 H0 σ F H _ S' e fun d ρ1 v F1 H1 ⟨⟨ks, ds, ed⟩, h1⟩ x1 S1 n1 => by
    subst ed
    obtain ⟨a, dx, xs, e1, a1, _⟩ := dn_obj.mp n1
    subst e1
    refine ⟨.ref a, .ty "str", .ref C, .type "str", false, rfl, .ty "str", .base (.ins (S1.fh _ _ a1) cl S.ha S.hn S.ht S.hm), ?_, k _ ρ1 _ F1 H1 h1 x1 S1 (dn_bl.mpr rfl)⟩
    have m : PySem.W.kitMeta "str" = true := by decide +kernel
    unfold PySem.W.kitOne PySem.W.kitCls
    rw [if_neg (by intro z; cases beq_iff_eq.mp z)]
    show (if PySem.W.kitMeta "str" = true then _ else none) = _
    rw [if_pos m]
    exact ns
end Z

namespace Z
open PySem PySem.Spec PyProof.Rows L2 Evl

section
variable {prog : Program} {w : World} {A : Around} {E : Value → Shared → Prop} {h : Heap} {g : Array GenState} {d : Drawn} {t : Nat} {os : OsState} {C x f : Addr} {b : Value}
theorem obj_ne (X : h.OwnEqNoNe x C f "object" [.type "object"]) (hu : A.units < cLine) {Q : Fin → Shared → Prop}
    (go : wpAny (model prog w) A (call (.ref f) [.ref x, b]) (fun v z => ∃ k, v = .bool k ∧ Q (.done (.ret (.bool (!k)))) z) E ⟨h, g, d, t, os⟩) : wpAny (model prog w) A (Builtin.«object.__ne__» ⟨[.ref x, b], []⟩) Q E ⟨h, g, d, t, os⟩ := by
  unfold Builtin.«object.__ne__»
  repeat (first
    | (with_reducible refine wpAny_cRoomFor hu ?_)
    | (refine wpAny_bind (m := callSpecialIfBound? (.ref x) (Str.ofString "__eq__") [b]) (wpAny_callSpecialIfBound?_own X.ownEq (wpAny_mono go (fun r z hr => by
        obtain ⟨k, rfl, hq⟩ := hr
        repeat (first | exact hq | exact wpAny_pure hq | exact wpAny_truthy_bool hq | (refine wpAny_bind (m := truthy (.bool _)) (wpAny_truthy_bool ?_)) | wp_step)) fun _ _ e => e)))
    | wp_step)
theorem try_ne (X : h.OwnEqNoNe x C f "object" [.type "object"]) (hu : A.units + 1 < cLine) {Q : Option Value → Shared → Prop}
    (go : wpAny (model prog w) A.in1 (call (.ref f) [.ref x, b]) (fun v z => ∃ k, v = .bool k ∧ Q (some (.bool (!k))) z) E ⟨h, g, d, t, os⟩) : wpAny (model prog w) A (tryCompare (.ref x) "__ne__" b) Q E ⟨h, g, d, t, os⟩ := by
  obtain ⟨o, of, nm, q, N, bs, hd, sn, sub, ab, col, dd, k0, k1, k2, k3, k5, nw, mN, yv, hx, hc, hC, hn, _, _, _, _, _, hne⟩ := id X
  have B := PySem.F.cmp_object
  simp only [tryCompare]
  refine wpAny_bind (wpAny_callSpecialIfBound?_inst hx hc hC hn hne B.mro B.ne (wpAny_call (codeAny_call_builtin B.ne.plain PySem.F.cmpEntry_ne (wpAny_check_slot_inst PySem.F.cmpKind_ne PySem.F.cmpSplit_ne (PySem.F.cmpArgs_ne _ _) B.hasObject hx hc hC (obj_ne (A := A.in1) X hu (wpAny_mono go (fun v z hv => ?_) fun _ _ e => e))))))
  obtain ⟨k, rfl, hq⟩ := hv
  first | exact ⟨k, rfl, wpAny_pure hq⟩ | exact ⟨k, rfl, wpAny_pure (wpAny_pure hq)⟩ | exact ⟨k, rfl, hq⟩
end
section
variable {prog : Program} {w : World} {A : Around} {E : Value → Shared → Prop} {s : Shared} {K : PySem.W.Frag} {C x f : Addr} {b tb : Value} {ox : Obj} {od : Option Obj}
theorem rich_ne (XK : K.In s.heap) (I : PySem.W.InstAt s.heap x ox C od) (hb : PySem.W.Looks (model prog w) s.heap (typeOf b) tb) (nf : PySem.W.notFirst K C tb = true) (X : s.heap.OwnEqNoNe x C f "object" [.type "object"]) (hu : A.units + 1 < cLine) {Q : Value → Shared → Prop}
    (go : wpAny (model prog w) A.in1 (call (.ref f) [.ref x, b]) (fun v z => ∃ k, v = .bool k ∧ Q (.bool (!k)) z) E s) : wpAny (model prog w) A (richCompare .NotEq (.ref x) b) Q E s := by
  have first_ : wpAny (model prog w) A (tryCompare (.ref x) "__ne__" b) (fun r z => ∃ v, r = some v ∧ Q v z) E s := by
    obtain ⟨h, g, d, t, os⟩ := s
    exact try_ne X hu (wpAny_mono go (fun v z ⟨k, e, q⟩ => ⟨k, e, _, rfl, q⟩) fun _ _ e => e)
  unfold richCompare
  simp only [oneThing_ref]
  refine wpAny_holding (wpAny_bind (wpAny_cRoomFor (by omega) (wpAny_bind (I.type.here (wpAny_bind (hb.here ?_))))))
  split
  · rename_i q
    have e : PySem.W.subIn K tb (.ref C) = some false := by
      unfold PySem.W.notFirst at nf
      rcases Bool.or_eq_true_iff.mp nf with z | z
      · rw [beq_iff_eq.mp z] at q
        simp at q
      · exact beq_iff_eq.mp z
    refine wpAny_bind ((PySem.W.looks_subIn XK e).here ?_); simp only [Bool.false_eq_true, if_false]
    refine wpAny_bind (wpAny_mono first_ (fun r z ⟨v, e1, hq⟩ => ?_) fun _ _ e => e)
    subst e1
    exact wpAny_pure hq
  · refine wpAny_bind (wpAny_pure ?_); simp only [Bool.false_eq_true, if_false]
    refine wpAny_bind (wpAny_mono first_ (fun r z ⟨v, e1, hq⟩ => ?_) fun _ _ e => e)
    subst e1
    exact wpAny_pure hq
end
section
variable {X : Cx} {CX : CXT} {n : Nat} {C f : Addr} {fd : FuncData} {sp : Sp} {ps : List Str}
def rEqAny (K : PySem.W.Frag) (neg : Bool) (C : Addr) (sp : Sp) : R2 := fun x y H Q => ∃ a dx fs t, x = .ref a ∧ H a = some (.ins C dx fs) ∧ TyX K H y t ∧ PySem.W.notFirst K C t = true ∧ sp [.ref a, y] H (fun v H' => ∃ k : Bool, v = .bl k ∧ Q (.bl (if neg then !k else k)) H') E0
theorem run_eq2 {A : Around} {pins : List (Addr × Obj)} {σ : L2.St} {H : Hp} {s : Shared} {a : Addr} {y : V} {b : Value} {R : Value → Shared → Prop} {Q : VK} (F : FnOk X.prog X.w X.K X.mg X.base CX n f fd ps sp) (hb : Binds X.K fd ps []) (hx : Passes CX X E0) (room : Room n A) (fr : A.frames = X.A.frames) (I : Inv X pins σ H s) (ry : RelV y b)
    (h : sp [.ref a, y] H Q E0) (k : ∀ v u H' s', Inv X pins σ H' s' → RelV v u → Q v H' → R u s') : wpAny (model X.prog X.w) A (call (.ref f) [.ref a, b]) R X.xe s := by
  have e0 : Env0 X.prog X.w X.K X.mg X.base A X.stack s H := by
    have e := I.env0
    exact ⟨by rw [fr]; exact e.frames, e.mod, e.bs, e.bsz, e.funs, e.frf, e.hok, e.bare⟩
  have hl := F.len _ _ _ _ h
  have r2 : Vals [V.ref a, y] [Value.ref a, b] := .cons rfl (.cons ry .nil)
  have bd := hb s [.ref a, b] I.kIn (by simpa using hl)
  rw [List.append_nil] at bd
  refine wpAny_call (codeAny_mono (F.run A X.stack s H ⟨[.ref a, b], []⟩ [.ref a, b] [.ref a, y] Q E0 room e0 bd r2 h) fun r s' hq => ?_)
  match r, hq with
  | .error e, hq => exact hx pins σ H s e s' I hq
  | .ok (.ret u), hq =>
    obtain ⟨v, H', J, rv, q⟩ := I.after hq
    exact k v u H' s' J rv q
  | .ok .next, hq => exact hq.elim
  | .ok .brk, hq => exact hq.elim
  | .ok .cont, hq => exact hq.elim
theorem op_eqAny (S : EqM X.K C f) (F : FnOk X.prog X.w X.K X.mg X.base CX n f fd ps sp) (hb : Binds X.K fd ps []) (hr : Room (n + 2) X.A) (hx : Passes CX X E0) : OpR X (compareOp .Eq) (rEqAny X.K false C sp) := by
  intro pins s σ H x y v u Q I rx ry h
  obtain ⟨a, dx, fs, t, rfl, ha, ty, nf, h⟩ := h
  obtain rfl : v = Value.ref a := rx
  obtain ⟨_, J, _⟩ := ins_get I.hok ha
  obtain ⟨od, J, _⟩ := J.look
  obtain ⟨m2, hF⟩ := I.fr
  obtain ⟨P, Z, p, _⟩ := kit_of I ry ty
  refine PySem.W.cmp_K (op := .Eq) (tb := t) hr.units0 hF I.ok.mod.kin J (Z.ty _ _ I.kIn p) nf S.at_ S.isf ?_
  refine run_eq2 F hb hx (hr.mono (by omega)) rfl I ry h fun v u H' s' I' rv q => ?_
  obtain ⟨k, rfl, q⟩ := q
  obtain rfl : u = Value.bool k := rv
  exact ⟨.bl k, H', I', rfl, q⟩
theorem op_neAny (S : EqM X.K C f) (F : FnOk X.prog X.w X.K X.mg X.base CX n f fd ps sp) (hb : Binds X.K fd ps []) (hr : Room (n + 2) X.A) (hx : Passes CX X E0) : OpR X (compareOp .NotEq) (rEqAny X.K true C sp) := by
  intro pins s σ H x y v u Q I rx ry h
  obtain ⟨a, dx, fs, t, rfl, ha, ty, nf, h⟩ := h
  obtain rfl : v = Value.ref a := rx
  obtain ⟨_, J, _⟩ := ins_get I.hok ha
  obtain ⟨nm, q, N, bs, hd, sn, sub, ab, col, dd, k0, k1, k2, k3, k5, nw, lk, ok, e1, e2⟩ := S.cls
  have ns : s.heap.Ns N (s.heap.nsMap N) := .of_isNs (PySem.W.isNs_of_in I.kIn ok)
  obtain ⟨od, J, _⟩ := J.look
  have fo : ∃ o, s.heap.get? f = some o ∧ o.cls = .type "function" := by
    have t := S.ty
    unfold PySem.W.typeIn at t
    cases lf : X.K.lookup f with
    | none => simp [lf] at t
    | some o =>
      refine ⟨o, I.kIn _ _ lf, ?_⟩
      simp [lf] at t
      exact t
  obtain ⟨ofn, hf1, hf2⟩ := fo
  obtain ⟨P, Z, p, _⟩ := kit_of I ry ty
  refine rich_ne (f := f) I.kIn J (Z.ty _ _ I.kIn p) nf ⟨_, ofn, nm, q, N, bs, hd, sn, sub, ab, col, dd, k0, k1, k2, k3, k5, nw, _, _, J.at_, J.cls, I.kIn _ _ lk, ns, ns_has I.kIn ns e1, hf1, hf2, PySem.F.cmp_object.mro, PySem.F.cmp_object.eq.lookup, PySem.W.ns_none_of I.kIn ns e2⟩ (by have := hr.un; omega) ?_
  refine run_eq2 F hb hx ((hr.mono (by omega : n + 1 ≤ n + 2)).in1) rfl I ry h fun v u H' s' I' rv q => ?_
  obtain ⟨k, rfl, q⟩ := q
  obtain rfl : u = Value.bool k := rv
  exact ⟨k, rfl, .bl (!k), H', I', rfl, q⟩
end
structure OthC (K : PySem.W.Frag) (C : Addr) : Prop where
  cl : ∃ cd, PySem.W.clsIn K C = some cd
  ty : PySem.W.typeIn K (.ref C) = some (.type "type")
  s1 : PySem.W.subIn K (.type "str") (.ref C) = some false
  s2 : PySem.W.subIn K (.type "NoneType") (.ref C) = some false
  s3 : PySem.W.subIn K (.type "int") (.ref C) = some false
  s4 : PySem.W.subIn K (.type "list") (.ref C) = some false
  s5 : PySem.W.subIn K (.type "tuple") (.ref C) = some false
  s6 : PySem.W.subIn K (.type "dict") (.ref C) = some false
theorem OthC.sub {K : PySem.W.Frag} {C : Addr} (S : OthC K C) : ∀ {d : D} {c : String}, clsD d = some c → (∀ b, d ≠ .bl b) → PySem.W.subIn K (.type c) (.ref C) = some false
  | .non, _, h, _ => by cases h; exact S.s2
  | .bl b, _, _, n => absurd rfl (n b)
  | .int _, _, h, _ => by cases h; exact S.s3
  | .str _, _, h, _ => by cases h; exact S.s1
  | .tup _, _, h, _ => by cases h; exact S.s5
  | .lst _, _, h, _ => by cases h; exact S.s4
  | .dic _ _, _, h, _ => by cases h; exact S.s6
  | .obj _ _ _, _, h, _ => by cases h
  | .scr _, _, h, _ => by cases h
section
variable {K : PySem.W.Frag} {E : L2.St → XK} {Ξ : Xi} {ρ : Rho} {te : TE} {C : Addr}
theorem nf_self : PySem.W.notFirst K C (.ref C) = true := by
  unfold PySem.W.notFirst
  rw [beq_self_eq_true, Bool.true_or]
theorem o_eqAnyS {neg : Bool} {P : PP} {Ψ : D → Prop} {ks ks' : List Str} {ds ds' : List D} (S : IsC K C) (cl : Cls K C) (h : ∃ Ψ', P [.obj C ks ds, .obj C ks' ds'] Ψ' noT ∧ ∀ d, Ψ' d → ∃ k : Bool, d = .bl k ∧ Ψ (.bl (if neg then !k else k))) : Op2 K (rEqAny K neg C (spP K P)) (.obj C ks ds) (.obj C ks' ds') Ψ := fun F H v w Q e n1 n2 q => by
  obtain ⟨Ψ', h1, h2⟩ := h
  obtain ⟨a, dx, xs, e1, a1, a2, hl, m1⟩ := dn_obj.mp n1
  obtain ⟨b, dy, ys, e2, b1, b2, hl2, m2⟩ := dn_obj.mp n2
  subst e1 e2
  refine ⟨a, dx, _, .ref C, rfl, e _ _ a1, .base (.ins (e _ _ b1) cl S.ha S.hn S.ht S.hm), nf_self, [_, _], F, Ψ', noT, h1, e, DnL.cons n1 (DnL.cons n2 DnL.nil), fun d u F' H' hd g n => ?_, fun _ _ _ _ _ z => z.elim⟩
  obtain ⟨k, rfl, hk⟩ := h2 d hd
  exact ⟨k, dn_bl.mp n, q _ _ F' H' hk g (dn_bl.mpr rfl)⟩
theorem o_eqAnyO {neg : Bool} {P : PP} {Ψ : D → Prop} {ks : List Str} {ds : List D} {y : D} {c : String} (S : OthC K C) (hc : clsD y = some c) (nb : ∀ b, y ≠ .bl b) (h : ∃ Ψ', P [.obj C ks ds, y] Ψ' noT ∧ ∀ d, Ψ' d → ∃ k : Bool, d = .bl k ∧ Ψ (.bl (if neg then !k else k))) : Op2 K (rEqAny K neg C (spP K P)) (.obj C ks ds) y Ψ := fun F H v w Q e n1 n2 q => by
  obtain ⟨Ψ', h1, h2⟩ := h
  obtain ⟨a, dx, xs, e1, a1, a2, hl, m1⟩ := dn_obj.mp n1
  subst e1
  refine ⟨a, dx, _, .type c, rfl, e _ _ a1, tyX_of e hc n2, (by unfold PySem.W.notFirst; rw [S.sub hc nb]; simp), [_, _], F, Ψ', noT, h1, e, DnL.cons n1 (DnL.cons n2 DnL.nil), fun d u F' H' hd g n => ?_, fun _ _ _ _ _ z => z.elim⟩
  obtain ⟨k, rfl, hk⟩ := h2 d hd
  exact ⟨k, dn_bl.mp n, q _ _ F' H' hk g (dn_bl.mpr rfl)⟩
theorem ev_isiOth {Φ : D → Rho → Prop} (S : OthC K C) (h : EvS K E Ξ te ρ fun d ρ1 => (∃ c, clsD d = some c) ∧ (∀ b, d ≠ .bl b) ∧ Φ (.bl false) ρ1) : EvS K E Ξ (tCB (rIsi K) (tCons te (tCons (tC (.ref C)) tNil))) ρ Φ := fun F0 H0 σ F H Q S' e k =>
  h F0 H0 σ F H _ S' e fun d ρ1 v F1 H1 ⟨⟨c, hc⟩, nb, h1⟩ x1 S1 n1 => by
    refine ⟨v, .ref C, .type c, .ref C, false, rfl, .own C, tyX_of S1.fh hc n1, ?_, k _ ρ1 _ F1 H1 h1 x1 S1 (dn_bl.mpr rfl)⟩
    obtain ⟨cd, h1⟩ := S.cl
    unfold PySem.W.kitOne PySem.W.kitCls
    rw [if_neg (by intro z; cases beq_iff_eq.mp z)]
    show (if ((PySem.W.clsIn K C).isSome && PySem.W.typeIn K (.ref C) == some (.type "type")) = true then PySem.W.subIn K (.type c) (.ref C) else none) = _
    rw [h1, S.ty, if_pos (by simp)]
    exact S.sub hc nb
end
end Z

namespace Z
open PySem PySem.Spec PyProof.Rows L2 Evl
abbrev PQ2 := List D → List D → (D → List D → Prop) → Prop
def spQ2 (K : PySem.W.Frag) (P : PQ2) : Sp := fun vs H Q E => ∃ (p p2 : Addr) (ws us : List V) (xs ys : List D) (F : Hp) (Ψ : D → List D → Prop), vs = [.ref p, .ref p2] ∧ P xs ys Ψ ∧ Ex F H ∧ F p = none ∧ F p2 = none ∧ p ≠ p2 ∧ H p = some (.lst ws) ∧ H p2 = some (.lst us) ∧ DnL K F xs ws ∧ DnL K F ys us ∧
  ∀ (d : D) (xs2 : List D) (v : V) (ws2 us2 : List V) (F' H' : Hp), Ψ d xs2 → Grow F (delA p2 (delA p H)) F' H' → F' p = none → F' p2 = none → H' p = some (.lst ws2) → H' p2 = some (.lst us2) → DnL K F' xs2 ws2 → DnL K F' ys us2 → Dn K F' d v → Q v H'
section
variable {K : PySem.W.Frag} {E : L2.St → XK} {Ξ : Xi} {ρ : Rho} {i j : Nat} {p p2 : Addr} {xs xs2 ys : List D} {F0 H0 F H F' H' : Hp} {σ : L2.St} {ws2 us2 : List V}
theorem del2_ne {a : Addr} (h1 : a ≠ p) (h2 : a ≠ p2) : delA p2 (delA p H) a = H a := by rw [delA_ne h2, delA_ne h1]
theorem Sd.called2 (S : Sd K F0 H0 ρ σ F H) (h : ρ[i]? = some (.ol p xs)) (h' : ρ[j]? = some (.ol p2 ys)) (g : Grow F (delA p2 (delA p H)) F' H') (hf : F' p = none) (hf2 : F' p2 = none) (hh : H' p = some (.lst ws2)) (hh2 : H' p2 = some (.lst us2)) (n : DnL K F' xs2 ws2) (n2 : DnL K F' ys us2) :
    Sd K F0 H0 (ρ.set i (.ol p xs2)) σ F' H' := by
  obtain ⟨e1, e2, e3, _⟩ := S.own h
  obtain ⟨f1, f2, f3, _⟩ := S.own h'
  have hl : i < ρ.length := (List.getElem?_eq_some_iff.mp h).1
  have far : ∀ a, H0 a ≠ none → delA p2 (delA p H) a = H a := fun a ha => del2_ne (fun z => ha (z ▸ e2)) (fun z => ha (z ▸ f2))
  refine ⟨⟨S.g.ff.trans g.ff, fun a o ha => g.hh a o ?_, g.fh, fun a h1 h2 => g.nw a ?_ (S.g.nw a h1 h2)⟩, by rw [List.length_set, S.len], fun k t hk => ?_, fun k l t u r h1 h2 h3 h4 => ?_⟩
  · rw [far a (by rw [ha]; simp)]
    exact S.g.hh a o ha
  · rw [far a h1]
    cases q : H0 a with
    | none => exact absurd q h1
    | some o => rw [S.g.hh a o q]; simp
  · by_cases e : i = k
    · subst e
      rw [List.getElem?_set_self hl] at hk
      cases hk
      exact ⟨by rw [e1] <;> rfl, e2, hf, ws2, hh, n⟩
    · rw [get_set_ne e] at hk
      by_cases e' : j = k
      · subst e'
        rw [h'] at hk
        cases hk
        exact ⟨by rw [f1] <;> rfl, f2, hf2, us2, hh2, n2⟩
      · have z := S.sl k t hk
        have nad : ∀ r, t.ad = some r → r ≠ p := fun r hr c => e (S.dj i k _ t p h hk rfl (by rw [hr, c]))
        have nad2 : ∀ r, t.ad = some r → r ≠ p2 := fun r hr c => e' (S.dj j k _ t p2 h' hk rfl (by rw [hr, c]))
        cases t with
        | un => trivial
        | dt d => obtain ⟨v, a, b⟩ := z; exact ⟨v, a, b.mono g.ff⟩
        | ol r rs =>
          obtain ⟨a, b, c, ws, x, y⟩ := z
          have q := del2_ne (H := H) (nad r rfl) (nad2 r rfl)
          exact ⟨a, b, g.nw r (by rw [q, x]; simp) c, ws, g.hh _ _ (by rw [q]; exact x), y.mono g.ff⟩
        | od r kk rs =>
          obtain ⟨a, b, c, ws, x, l, y⟩ := z
          have q := del2_ne (H := H) (nad r rfl) (nad2 r rfl)
          exact ⟨a, b, g.nw r (by rw [q, x]; simp) c, ws, g.hh _ _ (by rw [q]; exact x), l, y.mono g.ff⟩
  · have back : ∀ (k : Nat) (t : Slot), (ρ.set i (.ol p xs2))[k]? = some t → ∃ t', ρ[k]? = some t' ∧ t'.ad = t.ad := fun k t hk => by
      by_cases e : i = k
      · subst e
        rw [List.getElem?_set_self hl] at hk
        cases hk
        exact ⟨_, h, rfl⟩
      · rw [get_set_ne e] at hk
        exact ⟨t, hk, rfl⟩
    obtain ⟨t', a1, a2⟩ := back k t h1
    obtain ⟨u', b1, b2⟩ := back l u h2
    exact S.dj k l t' u' r a1 b1 (a2.trans h3) (b2.trans h4)
theorem ev_callQ2 {Φ : D → Rho → Prop} {P : PQ2} (h : ρ[i]? = some (.ol p xs)) (h' : ρ[j]? = some (.ol p2 ys)) (ne : i ≠ j) (k0 : ∃ Ψ, P xs ys Ψ ∧ ∀ d xs2, Ψ d xs2 → Φ d (ρ.set i (.ol p xs2))) : EvS K E Ξ (tCallSD (spQ2 K P) [] E (tCons (tVar i) (tCons (tVar j) tNil))) ρ Φ := fun F0 H0 σ F H Q S e k => by
  obtain ⟨Ψ, h1, h2⟩ := k0
  obtain ⟨e1, _, e3, ws, e4, e5⟩ := S.own h
  obtain ⟨f1, _, f3, us, f4, f5⟩ := S.own h'
  have np : p ≠ p2 := fun z => ne (S.dj i j _ _ p h h' rfl (by rw [z]; rfl))
  exact ⟨_, e1, _, f1, p, p2, ws, us, xs, ys, F, Ψ, rfl, h1, S.fh, e3, f3, np, e4, f4, e5, f5, fun d xs2 v ws2 us2 F' H' hd g a1 a2 a3 a4 a5 a6 n => k d _ v F' H' (h2 d xs2 hd) g.ff (S.called2 h h' g a1 a2 a3 a4 a5 a6) n⟩
def endQ2 (p p2 : Addr) (ys : List D) (Ψ : D → List D → Prop) : Out → Prop := fun o => match o with
  | .rt d ρ => ∃ xs, ρ[0]? = some (.ol p xs) ∧ ρ[1]? = some (.ol p2 ys) ∧ Ψ d xs
  | .nx ρ => ∃ xs, ρ[0]? = some (.ol p xs) ∧ ρ[1]? = some (.ol p2 ys) ∧ Ψ .non xs
  | _ => False
theorem body_own2 {N : List Str} {P : PQ2} {ts : TS} {vs : List V} {H : Hp} {Q : VK} {E' : XK} (hN : N.length = 2)
    (h : ∀ xs ys Ψ, P xs ys Ψ → ∀ p p2, RunS K (fun _ => E') noX ts [.ol p xs, .ol p2 ys] (endQ2 p p2 ys Ψ)) (sp : spQ2 K P vs H Q E') : ts { nx := fun _ H' => Q .non H', rt := Q } (L2.start N vs) H := by
  obtain ⟨p, p2, ws, us, xs, ys, F, Ψ, rfl, h1, x, fp, fp2, np, hp, hp2, n, n2, q⟩ := sp
  have S : Sd K F (delA p2 (delA p H)) [.ol p xs, .ol p2 ys] (L2.start N [.ref p, .ref p2]) F H := by
    refine ⟨⟨Ex.refl F, fun a o ha => delA_some (delA_some ha), x, fun a _ h => h⟩, ?_, fun i s hi => ?_, fun i j s t r h1 h2 h3 h4 => ?_⟩
    · unfold L2.start
      simp [hN]
    · match i, hi with
      | 0, hi =>
        cases hi
        exact ⟨by rw [start_get (v := .ref p) rfl] <;> rfl, by rw [delA_ne np]; exact delA_same, fp, ws, hp, n⟩
      | 1, hi =>
        cases hi
        exact ⟨by rw [start_get (v := .ref p2) rfl] <;> rfl, delA_same, fp2, us, hp2, n2⟩
    · match i, j, h1, h2 with
      | 0, 0, _, _ => rfl
      | 1, 1, _, _ => rfl
      | 0, 1, h1, h2 => cases h1; cases h2; cases h3; cases h4; exact absurd rfl np
      | 1, 0, h1, h2 => cases h1; cases h2; cases h3; cases h4; exact absurd rfl np
  refine h xs ys Ψ h1 p p2 F _ (L2.start N [.ref p, .ref p2]) F H _ S EOk.no (fun ρ' σ' F' H' ⟨xs2, e, e', hn⟩ x' S' => ?_) (fun d ρ' v σ' F' H' ⟨xs2, e, e', hr⟩ x' S' nv => ?_) (fun ρ' σ' F' H' hb => hb.elim) (fun ρ' σ' F' H' hb => hb.elim)
  · obtain ⟨_, _, a, ws2, b, c⟩ := S'.own e
    obtain ⟨_, _, a', us2, b', c'⟩ := S'.own e'
    exact q .non xs2 .non ws2 us2 F' H' hn S'.g a a' b b' c c' (dn_non.mpr rfl)
  · obtain ⟨_, _, a, ws2, b, c⟩ := S'.own e
    obtain ⟨_, _, a', us2, b', c'⟩ := S'.own e'
    exact q d xs2 v ws2 us2 F' H' hr S'.g a a' b b' c c' nv
theorem spQ2_len {P : PQ2} {vs : List V} {Q : VK} {E : XK} (h : spQ2 K P vs H Q E) : vs.length = 2 := by
  obtain ⟨p, p2, ws, us, xs, ys, F, Ψ, rfl, _⟩ := h
  rfl
theorem ev_newD {Φ : D → Rho → Prop} (k : Φ (.dic [] []) ρ) : EvS K E Ξ tDNewK ρ Φ := fun F0 H0 σ F H Q S _ q p hp => by
  have g := Grow.new (o := .dK []) S.fh hp
  exact q _ ρ _ _ _ k g.ff (S.grow g) (dn_dic.mpr ⟨p, [], rfl, upd_same, rfl, .nil⟩)
end
theorem cut_drop (ds : List D) {k : Int} (h0 : 0 ≤ k) : cutD ds (some k) none = ds.drop k.toNat := by
  obtain ⟨n, rfl⟩ := Int.eq_ofNat_of_zero_le h0
  unfold cutD
  rw [HT.sIx_none, HT.sIx_nat, Int.toNat_natCast]
  by_cases c : n ≤ ds.length
  · rw [Nat.min_eq_left c]
    exact List.take_of_length_le (by rw [List.length_drop]; omega)
  · rw [Nat.min_eq_right (by omega), List.drop_length, List.take_nil, List.drop_eq_nil_of_le (by omega)]
end Z

namespace Lw
open PySem PySem.Spec PyProof.Rows L2 Evl Z
local macro_rules | `(tactic| walk_at "ze") => `(tactic| (first
  | ((with_reducible show EvS _ _ _ (tVar _) _ _); refine ev_var rfl ?_)
  | ((with_reducible show EvS _ _ _ (tOp (rIx _) (tVar _) _) _ _); refine ev_ixO rfl ?_)
  | ((with_reducible show EvS _ _ _ (tCB (rLenU _) (tCons (tVar _) tNil)) _ _); refine ev_lenO rfl ?_)
  | (with_reducible first
    | refine ei_str ?_
    | refine ei_list ?_
    | refine ei_tup ?_
    | refine ei_enum ?_
    | refine ei_rng1 ?_
    | refine ei_rng2 ?_
    | refine ei_rng3 ?_
    | refine ei_zip ?_
    | refine gg_name ?_
    | refine ev_int ?_
    | refine ev_str ?_
    | refine ev_bl ?_
    | refine ev_non ?_
    | refine ea_nil ?_
    | refine ea_cons ?_
    | refine ev_op ?_
    | refine ev_un ?_
    | refine ev_cb ?_
    | refine et_test ?_
    | refine et_B ?_
    | refine et_not ?_
    | refine et_truth ?_
    | refine eo_none ?_
    | refine eo_some ?_
    | refine ev_slice ?_
    | refine ev_tup ?_
    | refine ev_chain ?_
    | refine ev_lst ?_
    | refine o_add ?_
    | refine o_sub ?_
    | refine o_cmp ?_
    | refine o_cmpS ?_
    | refine o_eqS ?_
    | refine o_neS ?_
    | refine o_eqI ?_
    | refine o_neI ?_
    | refine c_int ?_
    | refine c_intB ?_
    | refine c_abs ?_
    | refine c_max2 ?_
    | refine c_min2 ?_
    | refine c_tupL ?_
    | refine c_tupT ?_
    | refine c_listL ?_
    | refine c_listT ?_
    | refine o_isN ?_
    | refine o_notN ?_
    | refine el_lst ?_)
  | ((with_reducible show Cl _ (rLenU _) [_] _); refine c_len (by intro s hs; cases hs <;> first | assumption | omega) rfl ?_)))
local macro_rules | `(tactic| walk_at "zn") => `(tactic| try simp only [List.map_cons, List.map_nil, wipeR_n, wipeR_c, List.set_cons_zero, List.set_cons_succ])
def okS (s : SiteM) : Bool := s.names.all PyData.strOk && s.ways.all fun r => r.all fun p => PyData.strOk p.1
def fldN (s : SiteM) : D := .tup (s.names.map .str)
def fldL (s : SiteM) : D := .tup (s.limits.map .int)
def fldS (s : SiteM) : D := .tup (s.stays.map .bl)
def fldW (s : SiteM) : D := .tup (s.ways.map fun r => .tup (r.map wayD))
def eqM (s t : SiteM) : Bool := deq (fldN s) (fldN t) && (deq (fldL s) (fldL t) && (deq (fldS s) (fldS t) && deq (fldW s) (fldW t)))
def PEq (C : Addr) : PP := fun ds Φ Θ => ∃ s t : SiteM, ds = [siteD C s, siteD C t] ∧ okS s = true ∧ okS t = true ∧ Φ (.bl (eqM s t))
theorem okL_all {n : Nat} : ∀ {ds : List D}, (∀ d ∈ ds, okD n d = true) → okL n ds = true
  | [], _ => by unfold okL; rfl
  | d :: ds, h => by
    unfold okL
    rw [h d List.mem_cons_self, okL_all fun d hd => h d (List.mem_cons_of_mem _ hd)]
    rfl
theorem ok_flds {s : SiteM} (h : okS s = true) : okD 3 (fldN s) = true ∧ okD 3 (fldL s) = true ∧ okD 3 (fldS s) = true ∧ okD 3 (fldW s) = true := by
  unfold okS at h
  obtain ⟨h1, h2⟩ := Bool.and_eq_true_iff.mp h
  refine ⟨?_, ?_, ?_, ?_⟩
  · unfold fldN okD
    exact okL_all fun d hd => by
      obtain ⟨z, hz, rfl⟩ := List.mem_map.mp hd
      unfold okD
      exact List.all_eq_true.mp h1 z hz
  · unfold fldL okD
    exact okL_all fun d hd => by
      obtain ⟨z, hz, rfl⟩ := List.mem_map.mp hd
      unfold okD
      rfl
  · unfold fldS okD
    exact okL_all fun d hd => by
      obtain ⟨z, hz, rfl⟩ := List.mem_map.mp hd
      unfold okD
      rfl
  · unfold fldW okD
    exact okL_all fun d hd => by
      obtain ⟨r, hr, rfl⟩ := List.mem_map.mp hd
      unfold okD
      exact okL_all fun d hd => by
        obtain ⟨p, hp, rfl⟩ := List.mem_map.mp hd
        have := List.all_eq_true.mp (List.all_eq_true.mp h2 r hr) p hp
        simp [wayD, okD, okL, this]
theorem eqM_refl {s : SiteM} (h : okS s = true) : eqM s s = true := by
  obtain ⟨h1, h2, h3, h4⟩ := ok_flds h
  unfold eqM
  rw [deq_refl h1, deq_refl h2, deq_refl h3, deq_refl h4]
  rfl
theorem okS_rows {rows : List RowM} (g : GoodRs rows) : okS (siteOf rows) = true := by
  unfold okS siteOf
  rw [Bool.and_eq_true, List.all_eq_true, List.all_eq_true]
  constructor
  · intro z hz
    obtain ⟨r, hr, rfl⟩ := List.mem_map.mp hz
    exact low_ok (name_low (g.all r hr).nm).1
  · intro w hw
    obtain ⟨r, hr, rfl⟩ := List.mem_map.mp hw
    exact List.all_eq_true.mpr fun p hp => low_ok (name_low ((g.all r hr).way p hp).2.2.1).1
theorem noLs_all : ∀ {ds : List D}, (∀ d ∈ ds, noL d = true) → noLs ds = true
  | [], _ => by unfold noLs; rfl
  | d :: ds, h => by
    unfold noLs
    rw [h d List.mem_cons_self, noLs_all fun d hd => h d (List.mem_cons_of_mem _ hd)]
    rfl
theorem noL_site (C : Addr) (s : SiteM) : noL (siteD C s) = true := by
  have a1 : noLs (s.names.map .str) = true := noLs_all fun d hd => by obtain ⟨z, _, rfl⟩ := List.mem_map.mp hd; unfold noL; rfl
  have a2 : noLs (s.limits.map .int) = true := noLs_all fun d hd => by obtain ⟨z, _, rfl⟩ := List.mem_map.mp hd; unfold noL; rfl
  have a3 : noLs (s.stays.map .bl) = true := noLs_all fun d hd => by obtain ⟨z, _, rfl⟩ := List.mem_map.mp hd; unfold noL; rfl
  have a4 : noLs (s.ways.map fun r => .tup (r.map wayD)) = true := noLs_all fun d hd => by
    obtain ⟨r, _, rfl⟩ := List.mem_map.mp hd
    unfold noL
    exact noLs_all fun d hd => by obtain ⟨p, _, rfl⟩ := List.mem_map.mp hd; simp [wayD, noL, noLs]
  simp [siteD, noL, noLs, a1, a2, a3, a4]
def bkD (C : Addr) (x : Except Str SiteM) : D := match x with
  | .ok s => siteD C s
  | .error n => .str n
def trD (rows : List RowM) (x : Except Str SiteM) : D := match x with
  | .ok _ => .lst ((backRows rows).map rowD)
  | .error n => .str n
def PLB (C : Addr) : PP := fun ds Φ Θ => ∃ rows : List RowM, ds = [siteD C (siteOf rows)] ∧ GoodRs rows ∧ Φ (bkD C (turnedM (siteOf rows)))
def PTR : PP := fun ds Φ Θ => ∃ rows : List RowM, ds = [.lst (rows.map rowD)] ∧ GoodRs rows ∧ Φ (trD rows (turnedM (siteOf rows)))
def saidM (t : Str) : Int := saidP (parseM t)
def PSaid : PP := fun ds Φ Θ => ∃ t : Str, ds = [.str t] ∧ fineT t = true ∧ Φ (.int (saidM t))
def PLeft : PP := fun ds Φ Θ => ∃ (rows : List RowM) (i : Nat) (r : RowM), ds = [.lst (rows.map rowD), .int ((0 : Int) + (i : Nat))] ∧ GoodRs rows ∧ rows[i]? = some r ∧ Φ (.int (saidL r.name (dropAt rows i)))
def PSteps (C : Addr) : PP := fun ds Φ Θ => ∃ rows : List RowM, ds = [siteD C (siteOf rows)] ∧ GoodRs rows ∧ Φ (.lst ((sortI (stepsM rows)).map .int))
def PPlcs (C : Addr) : PP := fun ds Φ Θ => ∃ rows : List RowM, ds = [siteD C (siteOf rows)] ∧ GoodRs rows ∧ Φ (plcsD rows)
theorem o_neg {K : PySem.W.Frag} {Ψ : D → Prop} {i : Int} (h : Ψ (.int (-i))) : Op1 K (rU fun i => .int (-i)) (.int i) Ψ := fun F H v Q e n q => ⟨i, dn_int.mp n, q _ _ F H h (Grow.refl e) (dn_int.mpr rfl)⟩
theorem deq_nilL (ds : List D) : deq (.lst ds) (.lst []) = ds.isEmpty := by
  unfold deq py
  cases ds with
  | nil => unfold pyL; rfl
  | cons d r => unfold pyL; simp [PyData.eqv, PyData.eqvAll]
theorem ways_okD {l : List (Str × Int)} (h : ∀ p ∈ l, PyData.strOk p.1 = true) : okD 3 (.lst (l.map wayD)) = true := by
  unfold okD
  exact okL_all fun d hd => by
    obtain ⟨p, hp, rfl⟩ := List.mem_map.mp hd
    simp [wayD, okD, okL, h p hp]
theorem c_sortWU {K : PySem.W.Frag} {P : Program} {w : World} {Ψ : D → Prop} {l : List (Str × Int)} (hok : ∀ p ∈ l, PyData.strOk p.1 = true) (h : Ψ (.lst ((sortW l).map wayD))) : Cl K (rSortU K P w) [.lst (l.map wayD)] Ψ := c_orL (c_sortW hok h)
theorem backR_snoc (rows : List RowM) (o : RowM) (name : Str) : backR (rows ++ [o]) name = backR rows name ++ (o.ways.filter fun q => q.1 == name).map fun q => (o.name, q.2) := by
  unfold backR
  rw [List.flatMap_append]
  simp
section
variable {P : Program} {w : World} {K : PySem.W.Frag} {mg : Str → Option Value} {base : Heap} {A : Ad}
theorem ok_eqm (T : Txt K mg A) : FnOk P w K mg base (L2.CX P w) 1 A.a_eqm A.d_eqm ["self", "other"] (spP K (PEq A.c_Site)) := by
  refine T.F_eqm.okX sc_eqm (fun vs H Q E h => spP_len h fun ds Φ Θ hp => by obtain ⟨_, _, rfl, _⟩ := hp; rfl) (fun cdv A' outer s H vs Q E hr h => ⟨_, (pss_one (ps_ret (pe_and (pe_callB call_isi (by rfl) T.m_isinstance (by decide +kernel) (pa_cons (pv 1) (pa_cons (pe_glob (v := .ref A.c_Site) rfl T.g_Site rfl) pa_nil))) (pe_and (pe_cmpR (op_eqU hr.units) (pe_fld (pv 0) rfl) (pe_fld (pv 1) rfl) (nomark _)) (pe_and (pe_cmpR (op_eqU hr.units) (pe_fld (pv 0) rfl) (pe_fld (pv 1) rfl) (nomark _)) (pe_and (pe_cmpR (op_eqU hr.units) (pe_fld (pv 0) rfl) (pe_fld (pv 1) rfl) (nomark _)) (pe_one (pe_cmpR (op_eqU hr.units) (pe_fld (pv 0) rfl) (pe_fld (pv 1) rfl) (nomark _))))))))), ?_⟩)
  · refine body_pure (fun ds Φ Θ hp => ?_) h
    dsimp only [L2.cxOf]
    obtain ⟨s, t, rfl, os, ot, k⟩ := hp
    obtain ⟨p1, p2, p3, p4⟩ := ok_flds os
    obtain ⟨q1, q2, q3, q4⟩ := ok_flds ot
    rw [show rho0 N_eqm.length [siteD A.c_Site s, siteD A.c_Site t] = [.dt (siteD A.c_Site s), .dt (siteD A.c_Site t)] from rfl]
    refine r_ret (ev_and (ev_isiOwn T.is_Site T.cl_Site (ev_var rfl ⟨⟨_, _, rfl⟩, _, rfl, fun _ => ?_, fun z => by cases z⟩)))
    have no : ∀ b : Bool, eqM s t = b → Φ (.bl b) := fun b e => by rw [e] at k; exact k
    refine ev_and (ev_op (ev_fld (ev_var rfl ⟨A.c_Site, _, _, _, rfl, T.cl_Site, T.na_Site_names, rfl, ev_fld (ev_var rfl ⟨A.c_Site, _, _, _, rfl, T.cl_Site, T.na_Site_names, rfl, o_eqU (n := 3) (m := 3) p1 q1 ⟨_, rfl, fun c1 => ?_, fun c1 => no _ (by unfold eqM; rw [show deq (fldN s) (fldN t) = _ from c1] <;> simp)⟩⟩)⟩)))
    refine ev_and (ev_op (ev_fld (ev_var rfl ⟨A.c_Site, _, _, _, rfl, T.cl_Site, T.na_Site_limits, rfl, ev_fld (ev_var rfl ⟨A.c_Site, _, _, _, rfl, T.cl_Site, T.na_Site_limits, rfl, o_eqU (n := 3) (m := 3) p2 q2 ⟨_, rfl, fun c2 => ?_, fun c2 => no _ (by unfold eqM; rw [show deq (fldN s) (fldN t) = _ from c1, show deq (fldL s) (fldL t) = _ from c2] <;> simp)⟩⟩)⟩)))
    refine ev_and (ev_op (ev_fld (ev_var rfl ⟨A.c_Site, _, _, _, rfl, T.cl_Site, T.na_Site_stays, rfl, ev_fld (ev_var rfl ⟨A.c_Site, _, _, _, rfl, T.cl_Site, T.na_Site_stays, rfl, o_eqU (n := 3) (m := 3) p3 q3 ⟨_, rfl, fun c3 => ?_, fun c3 => no _ (by unfold eqM; rw [show deq (fldN s) (fldN t) = _ from c1, show deq (fldL s) (fldL t) = _ from c2, show deq (fldS s) (fldS t) = _ from c3] <;> simp)⟩⟩)⟩)))
    exact ev_op (ev_fld (ev_var rfl ⟨A.c_Site, _, _, _, rfl, T.cl_Site, T.na_Site_ways, rfl, ev_fld (ev_var rfl ⟨A.c_Site, _, _, _, rfl, T.cl_Site, T.na_Site_ways, rfl, o_eqU (n := 3) (m := 3) p4 q4 (no _ (by unfold eqM; rw [show deq (fldN s) (fldN t) = _ from c1, show deq (fldL s) (fldL t) = _ from c2, show deq (fldS s) (fldS t) = _ from c3]; rfl))⟩)⟩))
theorem ok__law_turned_rows (T : Txt K mg A) : FnOk P w K mg base (L2.CX P w) 1 A.a__law_turned_rows A.d__law_turned_rows ["rows"] (spP K PTR) := by
  refine T.F__law_turned_rows.okX sc__law_turned_rows (fun vs H Q E h => spP_len h fun ds Φ Θ hp => by obtain ⟨_, rfl, _⟩ := hp; rfl) (fun cdv A' outer s H vs Q E hr h => ⟨_, (pss_cons (ps_set (i := 1) sc__law_turned_rows.nd rfl (by first | exact Or.inl rfl | exact Or.inr rfl) (pe_lst pa_nil)) (pss_cons (ps_for (passes_of rfl) rfl (pi_list (pv 0)) (pg_tupK (K := K) (n := 4) rfl rfl (pgs_cons (pg_name (i := 2) sc__law_turned_rows.nd rfl (by first | exact Or.inl rfl | exact Or.inr rfl)) (pgs_cons (pg_name (i := 3) sc__law_turned_rows.nd rfl (by first | exact Or.inl rfl | exact Or.inr rfl)) (pgs_cons (pg_name (i := 4) sc__law_turned_rows.nd rfl (by first | exact Or.inl rfl | exact Or.inr rfl)) (pgs_cons (pg_name (i := 5) sc__law_turned_rows.nd rfl (by first | exact Or.inl rfl | exact Or.inr rfl)) pgs_nil))))) (pss_cons (ps_set (i := 6) sc__law_turned_rows.nd rfl (by first | exact Or.inl rfl | exact Or.inr rfl) (pe_lst pa_nil)) (pss_cons (ps_for (passes_of rfl) rfl (pi_list (pv 0)) (pg_name (i := 7) sc__law_turned_rows.nd rfl (by first | exact Or.inl rfl | exact Or.inr rfl)) (pss_one (ps_for (passes_of rfl) rfl (pi_tup (pe_ix ix_seq (pv 7) pe_int (fun _ _ => rfl))) (pg_tupK (K := K) (n := 2) rfl rfl (pgs_cons (pg_name (i := 8) sc__law_turned_rows.nd rfl (by first | exact Or.inl rfl | exact Or.inr rfl)) (pgs_cons (pg_name (i := 9) sc__law_turned_rows.nd rfl (by first | exact Or.inl rfl | exact Or.inr rfl)) pgs_nil))) (pss_one (ps_if (pt_cmpR (op_eqU hr.units) (pv 8) (pv 2) (nomark _)) (pss_one (ps_expr (pe_bm PySem.F.plainAttrs_list PySem.F.slot_list_append PySem.F.type_list_append mt_append (pv 6) (pa_cons (pe_tup (pa_cons (pe_ix ix_seq (pv 7) pe_int (fun _ _ => rfl)) (pa_cons (pv 9) pa_nil))) pa_nil)))) pss_nil))))) (pss_cons (ps_if (PW.pt (pw_and (pt_cmpR (op_eqU hr.units) (pv 6) (pe_lst pa_nil) (nomark _)) (pw_and1 (pt_not (pt_truth (pv 4) (by intro _; rfl)))))) (pss_one (ps_ret (pv 2))) pss_nil) (pss_one (ps_expr (pe_bm PySem.F.plainAttrs_list PySem.F.slot_list_append PySem.F.type_list_append mt_append (pv 1) (pa_cons (pe_tup (pa_cons (pv 2) (pa_cons (pv 3) (pa_cons (pv 4) (pa_cons (pe_callTy call_tuple_of (by rfl) T.m_tuple (by decide +kernel) (pa_cons (pe_callB (call_sortU rfl hr) (by rfl) T.m_sorted (by decide +kernel) (pa_cons (pv 6) pa_nil)) pa_nil)) pa_nil))))) pa_nil)))))))) (pss_one (ps_ret (pv 1))))), ?_⟩)
  · refine body_pure (fun ds Φ Θ hp => ?_) h
    dsimp only [L2.cxOf]
    obtain ⟨rows, rfl, g, k⟩ := hp
    have h6 := g.few
    let S : SiteM := siteOf rows
    let bk : RowM → RowM := fun r => ⟨r.name, r.limit, r.stay, backM S r.name⟩
    rw [show rho0 N__law_turned_rows.length [.lst (rows.map rowD)] = [.dt (.lst (rows.map rowD)), .un, .un, .un, .un, .un, .un, .un, .un, .un] from rfl]
    refine r_seq (r_setL (el_lst (Z.ea_nil ⟨by decide, fun q => ?_⟩)))
    walk_at "zn"
    refine r_seq (r_for (ei_list (ev_var rfl ⟨_, rfl, ?_⟩)))
    refine ⟨fun n ρ => ∃ (s2 s3 s4 s5 s6 s7 s8 s9 : Slot), ρ = [.dt (.lst (rows.map rowD)), .ol q (((rows.take n).map bk).map rowD), s2, s3, s4, s5, s6, s7, s8, s9] ∧ goT S ((rows.take n).map fun r => backM S r.name) ((rows.map fun o => (o.name, o.stay)).drop n) = goT S [] (rows.map fun o => (o.name, o.stay)), ⟨.un, .un, .un, .un, .un, .un, .un, .un, rfl, rfl⟩, ?_, ?_⟩
    · rintro n d ρ hd ⟨s2, s3, s4, s5, s6, s7, s8, s9, rfl, hgo⟩
      obtain ⟨r, hr, rfl, hm⟩ := map_at hd
      have hn : n < rows.length := (List.getElem?_eq_some_iff.mp hr).1
      have gr := g.all r hm
      have step : (rows.map fun o => (o.name, o.stay)).drop n = (r.name, r.stay) :: (rows.map fun o => (o.name, o.stay)).drop (n + 1) := by
        have e : (rows.map fun o => (o.name, o.stay))[n]? = some (r.name, r.stay) := by rw [List.getElem?_map, hr]; rfl
        obtain ⟨h1, h2⟩ := List.getElem?_eq_some_iff.mp e
        rw [List.drop_eq_getElem_cons h1, h2]
      rw [step] at hgo
      unfold rowD
      refine gg_tup rfl ?_
      refine gs_cons (gg_name ?_)
      refine gs_cons (gg_name ?_)
      refine gs_cons (gg_name ?_)
      refine gs_cons (gg_name ?_)
      refine gs_nil ?_
      refine r_seq (r_setL (el_lst (Z.ea_nil ⟨by decide, fun p => ?_⟩)))
      refine r_cut (J := fun ρ => ∃ (s7 s8 s9 : Slot), ρ = [.dt (.lst (rows.map rowD)), .ol q (((rows.take n).map bk).map rowD), .dt (.str r.name), .dt (.int r.limit), .dt (.bl r.stay), .dt (.tup (r.ways.map wayD)), .ol p ((backR rows r.name).map wayD), s7, s8, s9]) (r_for (ei_list (ev_var (d := .lst (rows.map rowD)) rfl ⟨_, rfl, ?_⟩))) ?_
      · refine ⟨fun m ρ => ∃ (s7 s8 s9 : Slot), ρ = [.dt (.lst (rows.map rowD)), .ol q (((rows.take n).map bk).map rowD), .dt (.str r.name), .dt (.int r.limit), .dt (.bl r.stay), .dt (.tup (r.ways.map wayD)), .ol p ((backR (rows.take m) r.name).map wayD), s7, s8, s9], ⟨_, _, _, rfl⟩, ?_, ?_⟩
        · rintro m d ρ hd2 ⟨s7, s8, s9, rfl⟩
          obtain ⟨o, ho, rfl, hmo⟩ := map_at hd2
          have go := g.all o hmo
          have bl : (backR (rows.take m) r.name).length ≤ 600 := by
            have : ∀ l : List RowM, (∀ x ∈ l, x.ways.length ≤ 6) → (backR l r.name).length ≤ l.length * 6 := fun l => by
              induction l with
              | nil => intro _; exact Nat.zero_le _
              | cons a b ih =>
                intro hh
                have i2 := ih fun x hx => hh x (List.mem_cons_of_mem _ hx)
                have i3 := hh a List.mem_cons_self
                have i4 := List.length_filter_le (fun q : Str × Int => q.1 == r.name) a.ways
                unfold backR at i2 ⊢
                rw [List.flatMap_cons, List.length_append, List.length_map, List.length_cons]
                omega
            have := this (rows.take m) fun x hx => (g.all x (List.mem_of_mem_take hx)).few
            rw [List.length_take] at this
            omega
          refine gg_name (r_for (ei_tup (ev_op (ev_var rfl (ev_int (o_ixT (ds := [.str o.name, .int o.limit, .bl o.stay, .tup (o.ways.map wayD)]) (d := .tup (o.ways.map wayD)) rfl ⟨_, rfl, ?_⟩))))))
          refine ⟨fun l ρ => ∃ (s8 s9 : Slot), ρ = [.dt (.lst (rows.map rowD)), .ol q (((rows.take n).map bk).map rowD), .dt (.str r.name), .dt (.int r.limit), .dt (.bl r.stay), .dt (.tup (r.ways.map wayD)), .ol p ((backR (rows.take m) r.name ++ ((o.ways.take l).filter fun q => q.1 == r.name).map fun q => (o.name, q.2)).map wayD), .dt (rowD o), s8, s9], ⟨s8, s9, by rw [List.take_zero]; simp⟩, ?_, ?_⟩
          · rintro l d ρ hd3 ⟨s8, s9, rfl⟩
            obtain ⟨w, hw, rfl, hmw⟩ := map_at hd3
            have fl := List.length_filter_le (fun q : Str × Int => q.1 == r.name) (o.ways.take l)
            rw [List.length_take] at fl
            have few := go.few
            refine gg_tup rfl (gs_cons (gg_name (gs_cons (gg_name (gs_nil ?_)))))
            refine r_when (et_test (ev_op (ev_var rfl (ev_var rfl (o_eqS ⟨_, rfl, fun c => ?_, fun c => ?_⟩)))))
            · refine r_app rfl (by rw [List.length_map, List.length_append, List.length_map]; omega) (ev_tup (ea_cons (ev_op (ev_var rfl (ev_int (o_ixT (ds := [.str o.name, .int o.limit, .bl o.stay, .tup (o.ways.map wayD)]) (d := .str o.name) rfl (ea_cons (ev_var rfl (ea_nil ⟨by show 2 ≤ 100000; decide, _, rfl, by rw [List.length_map, List.length_append, List.length_map]; omega, ?_⟩)))))))))
              refine ⟨.dt (.str w.1), .dt (.int w.2), ?_⟩
              have c2 : (w.1 == r.name) = true := c
              have t1 : [w].filter (fun q => q.1 == r.name) = [w] := by simp [c2]
              have kk : (backR (rows.take m) r.name ++ ((o.ways.take (l + 1)).filter fun q => q.1 == r.name).map fun q => (o.name, q.2)).map wayD = (backR (rows.take m) r.name ++ ((o.ways.take l).filter fun q => q.1 == r.name).map fun q => (o.name, q.2)).map wayD ++ [wayD (o.name, w.2)] := by
                simp only [List.take_add_one, hw, Option.toList_some, List.filter_append, t1, List.map_append, List.append_assoc]
                rfl
              rw [kk]
              rfl
            · refine ⟨.dt (.str w.1), .dt (.int w.2), ?_⟩
              have c2 : (w.1 == r.name) = false := c
              have t1 : [w].filter (fun q => q.1 == r.name) = [] := by simp [c2]
              have kk : (o.ways.take (l + 1)).filter (fun q => q.1 == r.name) = (o.ways.take l).filter fun q => q.1 == r.name := by
                rw [List.take_add_one, hw, Option.toList_some, List.filter_append, t1, List.append_nil]
              rw [kk]
              rfl
          · rintro ρ ⟨s8, s9, rfl⟩
            refine ⟨.dt (rowD o), s8, s9, ?_⟩
            rw [List.length_map, List.take_length, List.take_add_one, ho, Option.toList_some, backR_snoc]
        · rintro ρ ⟨s7, s8, s9, rfl⟩
          rw [List.length_map, List.take_length]
          exact ⟨s7, s8, s9, rfl⟩
      rintro _ ⟨s7, s8, s9, rfl⟩
      have eb := backM_rows rows r.name
      have okb : ∀ p ∈ backR rows r.name, PyData.strOk p.1 = true := fun p hp => by
        obtain ⟨o, ho, e, _⟩ := mem_backR.mp (show (p.1, p.2) ∈ _ from hp)
        rw [← e]
        exact low_ok (name_low (g.all o ho).nm).1
      have em : (backR rows r.name).isEmpty = (backM S r.name).isEmpty := by
        have := backM_perm rows r.name
        cases h1 : backR rows r.name with
        | nil => rw [h1] at this; rw [List.perm_nil.mp this]
        | cons a b =>
          rw [h1] at this
          cases h2 : backM S r.name with
          | nil =>
            have h2' : backM (siteOf rows) r.name = [] := h2
            rw [h2'] at this
            exact absurd this.length_eq (by simp)
          | cons c d => rfl
      refine r_cut (J := fun ρ => ρ = [.dt (.lst (rows.map rowD)), .ol q (((rows.take n).map bk).map rowD), .dt (.str r.name), .dt (.int r.limit), .dt (.bl r.stay), .dt (.tup (r.ways.map wayD)), .dt (.lst ((backR rows r.name).map wayD)), s7, s8, s9] ∧ (!r.stay && (backM S r.name).isEmpty) = false) (r_when (et_and (et_test (ev_op (ev_frz rfl (ev_lst (ea_nil ⟨by decide, o_eqU (n := 3) (m := 3) (ways_okD okb) (by decide) ⟨_, rfl, fun c => ?_, fun c => ?_⟩⟩))))))) ?_
      · rw [deq_nilL, List.isEmpty_map, em] at c
        refine et_not (et_truth (ev_var rfl ⟨fun s e => (by cases e), _, rfl, fun c2 => ?_, fun c2 => ⟨rfl, ?_⟩⟩))
        · refine r_ret (ev_var rfl ?_)
          have et : turnedM S = .error r.name := by
            unfold turnedM
            rw [show S.names.zip S.stays = _ from zip_stay rows, ← hgo]
            unfold goT
            rw [show (!(r.name, r.stay).2 && (backM S (r.name, r.stay).1).isEmpty) = true by rw [c]; simpa using c2]
            rfl
          have et2 : turnedM (siteOf rows) = .error r.name := et
          rw [et2] at k
          exact k
        · have c3 : (!r.stay) = false := c2
          rw [c3]
          rfl
      · rw [deq_nilL, List.isEmpty_map, em] at c
        exact ⟨fun z => (by cases z), fun _ => ⟨rfl, by rw [c, Bool.and_false]⟩⟩
      rintro _ ⟨rfl, hc⟩
      have lt : ((((rows.take n).map bk).map rowD).length < 100000) := by rw [List.length_map, List.length_map, List.length_take]; omega
      refine r_app rfl lt (ev_tup ?_)
      refine ea_cons (ev_var rfl ?_)
      refine ea_cons (ev_var rfl ?_)
      refine ea_cons (ev_var rfl ?_)
      refine ea_cons (ev_cb ?_)
      refine ea_cons (ev_cb ?_)
      refine ea_cons (ev_var rfl ?_)
      refine ea_nil ?_
      refine c_sortWU okb ?_
      refine ea_nil ?_
      refine c_tupL ?_
      refine ea_nil ⟨by show 4 ≤ 100000; decide, _, rfl, lt, ?_⟩
      refine ⟨.dt (.str r.name), .dt (.int r.limit), .dt (.bl r.stay), .dt (.tup (r.ways.map wayD)), .dt (.lst ((backR rows r.name).map wayD)), s7, s8, s9, ?_, ?_⟩
      · rw [List.take_add_one, hr, Option.toList_some, List.map_append, List.map_append, ← eb]
        rfl
      · rw [← hgo]
        conv => rhs; unfold goT
        rw [show (!(r.name, r.stay).2 && (backM S (r.name, r.stay).1).isEmpty) = false from hc, List.take_add_one, hr, Option.toList_some, List.map_append]
        rfl
    · rintro ρ ⟨s2, s3, s4, s5, s6, s7, s8, s9, rfl, hgo⟩
      rw [List.length_map, List.take_length]
      have : (rows.map fun o => (o.name, o.stay)).drop (rows.map rowD).length = [] := List.drop_eq_nil_of_le (by rw [List.length_map, List.length_map]; omega)
      rw [this, List.length_map, List.take_length] at hgo
      have et : turnedM (siteOf rows) = .ok ⟨(siteOf rows).names, (siteOf rows).limits, (siteOf rows).stays, rows.map fun r => backM S r.name⟩ := by
        unfold turnedM
        rw [zip_stay, show goT (siteOf rows) [] (rows.map fun o => (o.name, o.stay)) = _ from hgo.symm]
        rfl
      rw [et] at k
      exact r_ret (ev_frz rfl k)
theorem ok__law_said (T : Txt K mg A) (G_parse : FnOk P w K mg base (L2.CX P w) 5 A.a_parse A.d_parse ["text"] (spP K (PParse A.c_Site A.c_InvalidText))) : FnOk P w K mg base (L2.CX P w) 6 A.a__law_said A.d__law_said ["text"] (spP K PSaid) := by
  refine T.F__law_said.okX sc__law_said (fun vs H Q E h => spP_len h fun ds Φ Θ hp => by obtain ⟨_, rfl, _⟩ := hp; rfl) (fun cdv A' outer s H vs Q E hr h => ⟨_, (pss_cons (ps_set (i := 1) sc__law_said.nd rfl (by first | exact Or.inl rfl | exact Or.inr rfl) (pe_un un_neg pe_int)) (pss_cons (ps_try_as (i := 2) rfl rfl sc__law_said.nd rfl rfl ⟨rfl, by decide, Or.inl T.g_InvalidText⟩ (takes_of rfl rfl rfl rfl) (fun W pn xe tk h_po => (pss_one (ps_expr (pe_static T.st_parse G_parse (hr.mono (by decide)) (pe_glob (v := .ref A.c_Site) rfl T.g_Site rfl) T.b_parse (fun σ => passAt tk σ) (pa_cons (pv 0) pa_nil))))) (fun a oe cls d pn hz hf => (pss_one (ps_set (i := 1) sc__law_said.nd rfl (by first | exact Or.inl rfl | exact Or.inr rfl) (pe_xf T.xf_InvalidText T.xn_InvalidText hz hf (pv 2) rfl))))) (pss_one (ps_ret (pv 1))))), ?_⟩)
  · refine body_pure (fun ds Φ Θ hp => ?_) h
    dsimp only [L2.cxOf]
    obtain ⟨t, rfl, hf, k⟩ := hp
    rw [show rho0 N__law_said.length [.str t] = [.dt (.str t), .un, .un] from rfl]
    refine r_seq (r_set ?_)
    repeat walk_at "ze"
    refine o_neg ?_
    walk_at "zn"
    refine r_cut (J := fun ρ => ∃ s, ρ = [.dt (.str t), .dt (.int (saidM t)), s]) (r_tryF (i := 2) (j := 1) (tb := fun W => tDrop (tStat A.c_Site (spP K (PParse A.c_Site A.c_InvalidText)) (WE W) (tC (.ref A.c_Site)) (tCons (tVar 0) tNil))) (c := .ref A.c_InvalidText) (Wout := fun cls d x H => E cls d H) (E := fun _ => E) (C := A.c_InvalidText) (f := "row") (Ξ1 := fun C fld ρ => C = A.c_InvalidText ∧ (∃ n : Nat, parseM t = .error n ∧ fld = some (("row" : Str), D.int n)) ∧ ρ = [.dt (.str t), .dt (.int (-1)), .un]) (fun _ _ _ _ => rfl) (by decide) (fun W => ?_) ?_) ?_
    · refine r_drop (ev_stat ?_)
      repeat walk_at "ze"
      refine ⟨fun _ => ∃ s, parseM t = .ok s, fun C fld => C = A.c_InvalidText ∧ ∃ n : Nat, parseM t = .error n ∧ fld = some (("row" : Str), D.int n), ⟨t, rfl, hf, fun s e => ⟨s, e⟩, fun n e => ⟨rfl, n, e, rfl⟩⟩, ?_, fun C fld z => ⟨z.1, z.2, rfl⟩⟩
      rintro d ⟨s, e⟩
      refine ⟨.un, ?_⟩
      unfold saidM saidP
      rw [e]
    · rintro C fld ρ ⟨rfl, ⟨n, e, rfl⟩, rfl⟩
      refine ⟨true, T.xe_InvalidText_InvalidText, fun _ => ⟨rfl, (by show 2 < 3; decide), _, rfl, .un, ?_⟩, fun z => (by cases z)⟩
      unfold saidM saidP
      rw [e]
      rfl
    · rintro _ ⟨s, rfl⟩
      exact r_ret (ev_var rfl k)
theorem ways_okT {ns : List Str} {r : RowM} (g : GoodR ns r) : okD 3 (.tup (r.ways.map wayD)) = true := by
  unfold okD
  exact okL_all fun d hd => by
    obtain ⟨p, hp, rfl⟩ := List.mem_map.mp hd
    simp [wayD, okD, okL, low_ok (name_low (g.way p hp).2.2.1).1]
theorem ok__law_left_out (T : Txt K mg A) : FnOk P w K mg base (L2.CX P w) 1 A.a__law_left_out A.d__law_left_out ["rows", "at"] (spP K PLeft) := by
  refine T.F__law_left_out.okX sc__law_left_out (fun vs H Q E h => spP_len h fun ds Φ Θ hp => by obtain ⟨_, _, _, rfl, _⟩ := hp; rfl) (fun cdv A' outer s H vs Q E hr h => ⟨_, (pss_cons (ps_set (i := 2) sc__law_left_out.nd rfl (by first | exact Or.inl rfl | exact Or.inr rfl) (pe_op op_addU (pe_slice sl_U (pv 0) po_none (po_some (pv 1))) (pe_slice sl_U (pv 0) (po_some (pe_op op_addU (pv 1) pe_int)) po_none))) (pss_cons (ps_for (passes_of rfl) rfl (pi_enum (by rfl) T.m_enumerate (pa_cons (pv 2) pa_nil)) (pg_tupK (K := K) (n := 2) rfl rfl (pgs_cons (pg_name (i := 3) sc__law_left_out.nd rfl (by first | exact Or.inl rfl | exact Or.inr rfl)) (pgs_cons (pg_name (i := 4) sc__law_left_out.nd rfl (by first | exact Or.inl rfl | exact Or.inr rfl)) pgs_nil))) (pss_one (ps_if (pt_cmpR (op_neU hr.units) (pe_lc (own := [("end", 5), ("steps", 6)]) rfl sc__law_left_out.nd (pi_tup (pe_ix ix_seq (pv 4) pe_int (fun _ _ => rfl))) (blkOk_by (own := [("end", 5), ("steps", 6)]) (N := N__law_left_out) (sc := (defScope s__law_left_out)) (by decide +kernel)) (fun _ _ _ _ _ => (pg_tupK (K := K) (n := 2) rfl rfl (pgs_cons (pg_name (i := 5) sc__law_left_out.nd rfl (by first | exact Or.inl rfl | exact Or.inr rfl)) (pgs_cons (pg_name (i := 6) sc__law_left_out.nd rfl (by first | exact Or.inl rfl | exact Or.inr rfl)) pgs_nil)))) (fun _ _ _ _ _ => (pts_one (pt_cmpR (opK rEqU K (op_eqU hr.units) rfl) (pv 5) (pe_ix (ixK rIx K ix_seq rfl) (pe_ix (ixK rIx K ix_seq rfl) (pv 0) (pv 1) (fun _ _ => rfl)) pe_int (fun _ _ => rfl)) (nomark _)))) (fun _ _ _ _ _ => (pv 5))) (pe_lst pa_nil) (nomark _)) (pss_one (ps_ret (pv 3))) pss_nil))) (pss_one (ps_ret (pe_ifExp (pt_cmpR (op_neU hr.units) (pv 2) (pe_lst pa_nil) (nomark _)) (pe_un un_neg pe_int) pe_int))))), ?_⟩)
  · refine body_pure (fun ds Φ Θ hp => ?_) h
    dsimp only [L2.cxOf]
    obtain ⟨rows, i, r, rfl, g, hr, k⟩ := hp
    have h6 := g.few
    have hi : i < rows.length := (List.getElem?_eq_some_iff.mp hr).1
    have hm : r ∈ rows := List.mem_of_getElem? hr
    have gall : ∀ q ∈ dropAt rows i, GoodR (rows.map (·.name)) q := fun q hq => g.all q ((drop_sub rows i).subset hq)
    have dl := Nat.le_trans (drop_sub rows i).length_le h6
    rw [show rho0 N__law_left_out.length [.lst (rows.map rowD), .int ((0 : Int) + (i : Nat))] = [.dt (.lst (rows.map rowD)), .dt (.int ((0 : Int) + (i : Nat))), .un, .un, .un, .un, .un] from rfl]
    refine r_cut (J := fun ρ => ρ = [.dt (.lst (rows.map rowD)), .dt (.int ((0 : Int) + (i : Nat))), .dt (.lst ((dropAt rows i).map rowD)), .un, .un, .un, .un]) (r_set (ev_op (ev_slice (ev_var rfl ⟨fun z e => (by cases e), eo_none (eo_some (ev_var rfl ⟨_, rfl, _, rfl, ?_⟩))⟩)))) ?_
    · rw [cut_take _ (by omega), show ((0 : Int) + (i : Nat)).toNat = i from by omega, ← List.map_take]
      refine ev_slice (ev_var rfl ⟨fun z e => (by cases e), eo_some (ev_op (ev_var rfl (ev_int (o_add ⟨_, rfl, eo_none ⟨_, rfl, ?_⟩⟩))))⟩)
      rw [Z.cut_drop _ (by omega), show ((0 : Int) + (i : Nat) + 1).toNat = i + 1 from by omega, ← List.map_drop]
      refine o_addL (by rw [List.length_map, List.length_map, List.length_take, List.length_drop]; omega) ?_
      rw [← List.map_append]
      rfl
    rintro _ rfl
    generalize dropAt rows i = rest at gall dl k ⊢
    refine r_seq (r_for (ei_enum (ea_cons (ev_var rfl (ea_nil ⟨_, rfl, ?_⟩)))))
    refine ⟨fun n ρ => ∃ (s3 s4 : Slot), ρ = [.dt (.lst (rows.map rowD)), .dt (.int ((0 : Int) + (i : Nat))), .dt (.lst (rest.map rowD)), s3, s4, .un, .un] ∧ leftAt r.name n (rest.drop n) = leftAt r.name 0 rest, ⟨_, _, rfl, rfl⟩, ?_, ?_⟩
    · rintro n d ρ hd ⟨s3, s4, rfl, hgo⟩
      rw [enumD_get, List.getElem?_map] at hd
      cases e : rest[n]? with
      | none => rw [e] at hd; cases hd
      | some q =>
        rw [e] at hd
        cases hd
        obtain ⟨hn, eq⟩ := List.getElem?_eq_some_iff.mp e
        have hq := gall q (List.mem_of_getElem? e)
        have few := hq.few
        rw [List.drop_eq_getElem_cons hn, eq] at hgo
        refine gg_tup rfl (gs_cons (gg_name (gs_cons (gg_name (gs_nil ?_)))))
        refine r_when (et_test (ev_op (EvL.ev (el_filtF (gt_tup (gts_name (by decide) (gts_name (by decide) gts_nil))) q.ways (fun p => p.1 == r.name) wayD (fun p => .str p.1) (ei_tup (ev_op (ev_var rfl (ev_int (o_ixT (ds := [.str q.name, .int q.limit, .bl q.stay, .tup (q.ways.map wayD)]) (d := .tup (q.ways.map wayD)) rfl ⟨_, rfl, rfl, by omega, fun p hp => ?_, ?_⟩)))))))))
        · refine gg_tup rfl (gs_cons (gg_name (gs_cons (gg_name (gs_nil ?_)))))
          refine et_test (ev_op (ev_var rfl (ev_op (ev_op (ev_var rfl (ev_var rfl (o_ixL (d := rowD r) (by rw [Int.zero_add]; exact atI_nat (by rw [List.getElem?_map, hr]; rfl)) (ev_int (o_ixT (ds := [.str r.name, .int r.limit, .bl r.stay, .tup (r.ways.map wayD)]) (d := .str r.name) rfl (o_eqS ⟨_, rfl, ?_⟩))))))))))
          exact ⟨rfl, rfl, fun _ => ev_var rfl ⟨rfl, rfl⟩⟩
        have okf : ∀ l : List (Str × Int), (∀ p ∈ l, PyData.strOk p.1 = true) → okD 3 (.lst (l.map fun p => D.str p.1)) = true := fun l hl => by
          unfold okD
          exact okL_all fun d hd => by
            obtain ⟨p, hp, rfl⟩ := List.mem_map.mp hd
            unfold okD
            exact hl p hp
        refine ev_lst (ea_nil ⟨by decide, o_neU (n := 3) (m := 3) (okf _ fun p hp => low_ok (name_low (hq.way p (List.mem_filter.mp hp).1).2.2.1).1) (by decide) ⟨_, rfl, fun c => ?_, fun c => ?_⟩⟩)
        · rw [deq_nilL, List.isEmpty_map] at c
          refine r_ret (ev_var rfl ?_)
          have hc : q.ways.any (fun p => p.1 == r.name) = true := by
            have : (q.ways.filter fun p => p.1 == r.name) ≠ [] := by simpa using c
            obtain ⟨p, hp⟩ := List.exists_mem_of_ne_nil _ this
            obtain ⟨h1, h2⟩ := List.mem_filter.mp hp
            exact List.any_eq_true.mpr ⟨p, h1, h2⟩
          have e0 : leftAt r.name 0 rest = some n := by
            rw [← hgo]
            unfold leftAt
            rw [if_pos hc]
          unfold saidL at k
          rw [e0] at k
          exact k
        · rw [deq_nilL, List.isEmpty_map] at c
          refine ⟨_, _, rfl, ?_⟩
          rw [← hgo]
          conv => rhs; unfold leftAt
          have hc : ¬ q.ways.any (fun p => p.1 == r.name) = true := by
            have : (q.ways.filter fun p => p.1 == r.name) = [] := by simpa using c
            intro z
            obtain ⟨p, h1, h2⟩ := List.any_eq_true.mp z
            have : p ∈ (q.ways.filter fun p => p.1 == r.name) := List.mem_filter.mpr ⟨h1, h2⟩
            rw [‹(q.ways.filter fun p => p.1 == r.name) = []›] at this
            cases this
          rw [if_neg hc]
    · rintro ρ ⟨s3, s4, rfl, hgo⟩
      rw [enumD_len, List.length_map, List.drop_length] at hgo
      have hno : leftAt r.name 0 rest = none := hgo.symm
      have okr : okD 5 (.lst (rest.map rowD)) = true := by
        unfold okD
        exact okL_all fun d hd => by
          obtain ⟨q, hq, rfl⟩ := List.mem_map.mp hd
          have w := ways_okT (gall q hq)
          have n1 := low_ok (name_low (gall q hq).nm).1
          unfold rowD okD
          exact okL_all fun d hd => by
            simp only [List.mem_cons, List.not_mem_nil, or_false] at hd
            rcases hd with rfl | rfl | rfl | rfl
            · unfold okD; exact n1
            · unfold okD; rfl
            · unfold okD; rfl
            · exact w
      refine r_ret (ev_if (et_test (ev_op (ev_var rfl (ev_lst (ea_nil ⟨by decide, o_neU (n := 5) (m := 3) okr (by decide) ⟨_, rfl, fun c => ?_, fun c => ?_⟩⟩))))))
      · rw [deq_nilL, List.isEmpty_map] at c
        refine ev_un (ev_int (o_neg ?_))
        unfold saidL at k
        rw [hno] at k
        have : rest.isEmpty = false := by simpa using c
        rw [this] at k
        exact k
      · rw [deq_nilL, List.isEmpty_map] at c
        refine ev_int ?_
        unfold saidL at k
        rw [hno] at k
        have : rest.isEmpty = true := by simpa using c
        rw [this] at k
        exact k
theorem ok__law_steps (T : Txt K mg A) : FnOk P w K mg base (L2.CX P w) 1 A.a__law_steps A.d__law_steps ["site"] (spP K (PSteps A.c_Site)) := by
  refine T.F__law_steps.okX sc__law_steps (fun vs H Q E h => spP_len h fun ds Φ Θ hp => by obtain ⟨_, rfl, _⟩ := hp; rfl) (fun cdv A' outer s H vs Q E hr h => ⟨_, (pss_cons (ps_set (i := 1) sc__law_steps.nd rfl (by first | exact Or.inl rfl | exact Or.inr rfl) (pe_lst pa_nil)) (pss_cons (ps_for (passes_of rfl) rfl (pi_tup (pe_fld (pv 0) rfl)) (pg_name (i := 2) sc__law_steps.nd rfl (by first | exact Or.inl rfl | exact Or.inr rfl)) (pss_one (ps_set (i := 1) sc__law_steps.nd rfl (by first | exact Or.inl rfl | exact Or.inr rfl) (pe_op op_addU (pv 1) (pe_lc (own := [("end", 3), ("steps", 4)]) rfl sc__law_steps.nd (pi_tup (pv 2)) (blkOk_by (own := [("end", 3), ("steps", 4)]) (N := N__law_steps) (sc := (defScope s__law_steps)) (by decide +kernel)) (fun _ _ _ _ _ => (pg_tupK (K := K) (n := 2) rfl rfl (pgs_cons (pg_name (i := 3) sc__law_steps.nd rfl (by first | exact Or.inl rfl | exact Or.inr rfl)) (pgs_cons (pg_name (i := 4) sc__law_steps.nd rfl (by first | exact Or.inl rfl | exact Or.inr rfl)) pgs_nil)))) (fun _ _ _ _ _ => pts_nil) (fun _ _ _ _ _ => (pv 4))))))) (pss_one (ps_ret (pe_callB (call_sortU rfl hr) (by rfl) T.m_sorted (by decide +kernel) (pa_cons (pv 1) pa_nil)))))), ?_⟩)
  · refine body_pure (fun ds Φ Θ hp => ?_) h
    dsimp only [L2.cxOf]
    obtain ⟨rows, rfl, g, k⟩ := hp
    have h6 := g.few
    have few : ∀ l : List RowM, (∀ r ∈ l, r.ways.length ≤ 6) → (stepsM l).length ≤ l.length * 6 := fun l => by
      induction l with
      | nil => intro _; exact Nat.zero_le _
      | cons a b ih =>
        intro hh
        have i2 := ih fun x hx => hh x (List.mem_cons_of_mem _ hx)
        have i3 := hh a List.mem_cons_self
        unfold stepsM at i2 ⊢
        rw [List.flatMap_cons, List.length_append, List.length_map, List.length_cons]
        omega
    rw [show rho0 N__law_steps.length [siteD A.c_Site (siteOf rows)] = [.dt (siteD A.c_Site (siteOf rows)), .un, .un, .un, .un] from rfl]
    refine r_cut (J := fun ρ => ρ = [.dt (siteD A.c_Site (siteOf rows)), .dt (.lst []), .un, .un, .un]) (r_set (ev_lst (ea_nil ⟨by decide, rfl⟩))) ?_
    rintro _ rfl
    refine r_seq (r_for (ei_tup (ev_fld (ev_var rfl ⟨A.c_Site, _, _, _, rfl, T.cl_Site, T.na_Site_ways, rfl, ⟨rows.map fun r => .tup (r.ways.map wayD), ?_, ?_⟩⟩))))
    · unfold siteOf
      simp only [List.map_map]
      rfl
    refine ⟨fun n ρ => ∃ s2 s3 s4 : Slot, ρ = [.dt (siteD A.c_Site (siteOf rows)), .dt (.lst ((stepsM (rows.take n)).map .int)), s2, s3, s4], ⟨_, _, _, rfl⟩, ?_, ?_⟩
    · rintro n d ρ hd ⟨s2, s3, s4, rfl⟩
      obtain ⟨r, hr, rfl, hm⟩ := map_at hd
      have gr := g.all r hm
      have rf := gr.few
      have hl := few (rows.take n) fun x hx => (g.all x (List.mem_of_mem_take hx)).few
      rw [List.length_take] at hl
      refine gg_name (r_set (ev_op (ev_var rfl (EvL.ev (el_mapF (gt_tup (gts_name (by decide) (gts_name (by decide) gts_nil))) r.ways wayD (fun p => .int p.2) (ei_tup (ev_var rfl ⟨_, rfl, rfl, by omega, fun p hp => ?_, ?_⟩)))))))
      · exact gg_tup rfl (gs_cons (gg_name (gs_cons (gg_name (gs_nil (ev_var rfl ⟨rfl, rfl⟩))))))
      refine o_addL (by rw [List.length_map, List.length_map]; omega) ?_
      refine ⟨.dt (.tup (r.ways.map wayD)), .un, .un, ?_⟩
      have e : (stepsM (rows.take (n + 1))).map D.int = (stepsM (rows.take n)).map D.int ++ r.ways.map (fun p => D.int p.2) := by
        rw [List.take_add_one, hr, Option.toList_some]
        unfold stepsM
        rw [List.flatMap_append, List.map_append]
        simp
      rw [e]
      rfl
    · rintro ρ ⟨s2, s3, s4, rfl⟩
      rw [List.length_map, List.take_length]
      exact r_ret (ev_cb (ea_cons (ev_var rfl (ea_nil (c_sortI k)))))
theorem ok__law_places (T : Txt K mg A) : FnOk P w K mg base (L2.CX P w) 1 A.a__law_places A.d__law_places ["site"] (spP K (PPlcs A.c_Site)) := by
  refine T.F__law_places.okX sc__law_places (fun vs H Q E h => spP_len h fun ds Φ Θ hp => by obtain ⟨_, rfl, _⟩ := hp; rfl) (fun cdv A' outer s H vs Q E hr h => ⟨_, (pss_cons (ps_set (i := 1) sc__law_places.nd rfl (by first | exact Or.inl rfl | exact Or.inr rfl) pe_dnewK) (pss_cons (ps_for (passes_of rfl) rfl (pi_enumT (by rfl) T.m_enumerate (pa_cons (pe_fld (pv 0) rfl) pa_nil)) (pg_tupK (K := K) (n := 2) rfl rfl (pgs_cons (pg_name (i := 2) sc__law_places.nd rfl (by first | exact Or.inl rfl | exact Or.inr rfl)) (pgs_cons (pg_name (i := 3) sc__law_places.nd rfl (by first | exact Or.inl rfl | exact Or.inr rfl)) pgs_nil))) (pss_one (ps_dput (hu_of hr) (pv 1) (pv 3) (pe_tup (pa_cons (pe_ix ix_seq (pe_fld (pv 0) rfl) (pv 2) (fun _ _ => rfl)) (pa_cons (pe_ix ix_seq (pe_fld (pv 0) rfl) (pv 2) (fun _ _ => rfl)) (pa_cons (pe_ix ix_seq (pe_fld (pv 0) rfl) (pv 2) (fun _ _ => rfl)) pa_nil)))) rfl))) (pss_one (ps_ret (pv 1))))), ?_⟩)
  · refine body_pure (fun ds Φ Θ hp => ?_) h
    dsimp only [L2.cxOf]
    obtain ⟨rows, rfl, g, k⟩ := hp
    have h6 := g.few
    rw [show rho0 N__law_places.length [siteD A.c_Site (siteOf rows)] = [.dt (siteD A.c_Site (siteOf rows)), .un, .un, .un] from rfl]
    refine r_seq (r_newD fun q => ?_)
    walk_at "zn"
    refine r_seq (r_for (ei_enumT (ea_cons (ev_fld (ev_var rfl ⟨A.c_Site, _, _, _, rfl, T.cl_Site, T.na_Site_names, rfl, ea_nil ⟨rows.map fun r => .str r.name, ?_, ?_⟩⟩)))))
    · unfold siteOf
      simp only [List.map_map]
      rfl
    refine ⟨fun n ρ => ∃ s2 s3 : Slot, (s2.ad = none ∧ s3.ad = none) ∧ ρ = [.dt (siteD A.c_Site (siteOf rows)), .od q ((rows.take n).map (·.name)) ((rows.take n).map plcD), s2, s3], ⟨.un, .un, ⟨rfl, rfl⟩, rfl⟩, ?_, ?_⟩
    · rintro n d ρ hd ⟨s2, s3, ⟨n2, n3⟩, rfl⟩
      rw [enumD_get, List.getElem?_map] at hd
      cases e : rows[n]? with
      | none => rw [e] at hd; cases hd
      | some r =>
        rw [e] at hd
        cases hd
        have hn := (List.getElem?_eq_some_iff.mp e).1
        have fld : ∀ (f : RowM → D), atI (rows.map f) (n : Int) = some (f r) := fun f => atI_nat (by rw [List.getElem?_map, e]; rfl)
        refine gg_tup rfl (gs_cons (gg_name (gs_cons (gg_name (gs_nil ?_)))))
        refine r_dput rfl (by rw [List.length_map, List.length_take]; omega) (ev_tup (ea_cons (ev_op (ev_fld (ev_var rfl ⟨A.c_Site, _, _, _, rfl, T.cl_Site, T.na_Site_limits, rfl, ev_var rfl (o_ixT (d := .int r.limit) ?_ ?_)⟩)))))
        · have := fld fun r => .int r.limit
          unfold siteOf
          simp only [List.map_map]
          exact this
        refine ea_cons (ev_op (ev_fld (ev_var rfl ⟨A.c_Site, _, _, _, rfl, T.cl_Site, T.na_Site_stays, rfl, ev_var rfl (o_ixT (d := .bl r.stay) ?_ ?_)⟩)))
        · have := fld fun r => .bl r.stay
          unfold siteOf
          simp only [List.map_map]
          exact this
        refine ea_cons (ev_op (ev_fld (ev_var rfl ⟨A.c_Site, _, _, _, rfl, T.cl_Site, T.na_Site_ways, rfl, ev_var rfl (o_ixT (d := .tup (r.ways.map wayD)) ?_ ?_)⟩)))
        · have := fld fun r => .tup (r.ways.map wayD)
          unfold siteOf
          simp only [List.map_map]
          exact this
        refine ea_nil ⟨by show 3 ≤ 100000; decide, rfl, ev_var rfl ⟨rfl, r.name, rfl, ?_, .dt (.int (n : Nat)), .dt (.str r.name), ⟨rfl, rfl⟩, ?_⟩⟩
        · have nd := g.nd
          have split : rows = rows.take n ++ r :: rows.drop (n + 1) := by
            have := (List.take_append_drop n rows).symm
            rw [List.drop_eq_getElem_cons hn, (List.getElem?_eq_some_iff.mp e).2] at this
            exact this
          rw [split, List.map_append, List.map_cons] at nd
          have : r.name ∉ (rows.take n).map (·.name) := fun z => (List.nodup_append.mp nd).2.2 r.name z r.name List.mem_cons_self rfl
          simpa using this
        · rw [List.take_add_one, e, Option.toList_some, List.map_append, List.map_append]
          rfl
    · rintro ρ ⟨s2, s3, _, rfl⟩
      rw [enumD_len, List.length_map, List.take_length]
      exact r_ret (ev_frzD rfl k)
end
end Lw

namespace Lw
open PySem PySem.Spec PyProof.Rows L2 Evl Z
local macro_rules | `(tactic| walk_at "ze") => `(tactic| (first
  | ((with_reducible show EvS _ _ _ (tVar _) _ _); refine ev_var rfl ?_)
  | ((with_reducible show EvS _ _ _ (tOp (rIx _) (tVar _) _) _ _); refine ev_ixO rfl ?_)
  | ((with_reducible show EvS _ _ _ (tCB (rLenU _) (tCons (tVar _) tNil)) _ _); refine ev_lenO rfl ?_)
  | (with_reducible first
    | refine ei_str ?_
    | refine ei_list ?_
    | refine ei_tup ?_
    | refine ei_enum ?_
    | refine ei_rng1 ?_
    | refine ei_rng2 ?_
    | refine ei_rng3 ?_
    | refine ei_zip ?_
    | refine gg_name ?_
    | refine ev_int ?_
    | refine ev_str ?_
    | refine ev_bl ?_
    | refine ev_non ?_
    | refine ea_nil ?_
    | refine ea_cons ?_
    | refine ev_op ?_
    | refine ev_un ?_
    | refine ev_cb ?_
    | refine et_test ?_
    | refine et_B ?_
    | refine et_not ?_
    | refine et_truth ?_
    | refine eo_none ?_
    | refine eo_some ?_
    | refine ev_slice ?_
    | refine ev_tup ?_
    | refine ev_chain ?_
    | refine ev_lst ?_
    | refine o_add ?_
    | refine o_sub ?_
    | refine o_cmp ?_
    | refine o_cmpS ?_
    | refine o_eqS ?_
    | refine o_neS ?_
    | refine o_eqI ?_
    | refine o_neI ?_
    | refine c_int ?_
    | refine c_intB ?_
    | refine c_abs ?_
    | refine c_max2 ?_
    | refine c_min2 ?_
    | refine c_tupL ?_
    | refine c_tupT ?_
    | refine c_listL ?_
    | refine c_listT ?_
    | refine o_isN ?_
    | refine o_notN ?_
    | refine el_lst ?_)
  | ((with_reducible show Cl _ (rLenU _) [_] _); refine c_len (by intro s hs; cases hs <;> first | assumption | omega) rfl ?_)))
local macro_rules | `(tactic| walk_at "zn") => `(tactic| try simp only [List.map_cons, List.map_nil, wipeR_n, wipeR_c, List.set_cons_zero, List.set_cons_succ])
theorem eqv_strs : ∀ {xs ys : List Str}, PyData.eqvAll (pyL (xs.map .str)) (pyL (ys.map .str)) = true → xs = ys
  | [], [], _ => rfl
  | [], y :: ys, h => by simp [pyL, PyData.eqvAll] at h
  | x :: xs, [], h => by simp [pyL, PyData.eqvAll] at h
  | x :: xs, y :: ys, h => by
    simp only [List.map_cons, pyL, py, PyData.eqvAll, PyData.eqv, Bool.and_eq_true] at h
    have e : x = y := by simpa using h.1
    have e2 : xs = ys := eqv_strs h.2
    subst e e2
    rfl
def PLaw : PP := fun ds Φ Θ => ∃ ns : List Int, ds = [.scr ns] ∧ ns.length ≤ 63 ∧ Φ (.bl true)
theorem eq_rot {rows : List RowM} (g : GoodRs rows) {a : Nat} (ha : a < rows.length) : eqM (siteOf (rotM rows a)) (siteOf rows) = decide (a = 0) := by
  by_cases c : a = 0
  · subst c
    rw [rot_zero, eqM_refl (okS_rows g)]
    rfl
  · rw [decide_eq_false c]
    cases e : eqM (siteOf (rotM rows a)) (siteOf rows) with
    | false => rfl
    | true =>
      unfold eqM at e
      have h := (Bool.and_eq_true_iff.mp e).1
      have n : (siteOf (rotM rows a)).names = (siteOf rows).names := by
        unfold deq fldN py at h
        simp only [PyData.eqv] at h
        exact eqv_strs h
      exact absurd ((rot_names g ha).mp n) c
theorem intsOk (ls : List Int) : okD 1 (.lst (ls.map .int)) = true := by
  unfold okD
  exact okL_all fun d hd => by
    obtain ⟨z, hz, rfl⟩ := List.mem_map.mp hd
    unfold okD
    rfl
section
variable {P : Program} {w : World} {K : PySem.W.Frag} {mg : Str → Option Value} {base : Heap} {A : Ad}
theorem ok_law (T : Txt K mg A) (G__law_feed : FnOk P w K mg base (L2.CX P w) 1 A.a__law_feed A.d__law_feed ["script", "k"] (spL K PFeed)) (G__law_drawn : FnOk P w K mg base (L2.CX P w) 4 A.a__law_drawn A.d__law_drawn ["feed"] (spQ K PDrawn)) (G_parse : FnOk P w K mg base (L2.CX P w) 5 A.a_parse A.d_parse ["text"] (spP K (PParse A.c_Site A.c_InvalidText))) (G__law_take : FnOk P w K mg base (L2.CX P w) 1 A.a__law_take A.d__law_take ["feed", "many"] (spQ K PTake)) (G__law_text : FnOk P w K mg base (L2.CX P w) 2 A.a__law_text A.d__law_text ["rows"] (spP K PLText)) (G_eqm : FnOk P w K mg base (L2.CX P w) 1 A.a_eqm A.d_eqm ["self", "other"] (spP K (PEq A.c_Site))) (G__law_said : FnOk P w K mg base (L2.CX P w) 6 A.a__law_said A.d__law_said ["text"] (spP K PSaid)) (G__law_left_out : FnOk P w K mg base (L2.CX P w) 1 A.a__law_left_out A.d__law_left_out ["rows", "at"] (spP K PLeft)) (G__law_places : FnOk P w K mg base (L2.CX P w) 1 A.a__law_places A.d__law_places ["site"] (spP K (PPlcs A.c_Site))) (G__law_turned_rows : FnOk P w K mg base (L2.CX P w) 1 A.a__law_turned_rows A.d__law_turned_rows ["rows"] (spP K PTR)) (G_turned : FnOk P w K mg base (L2.CX P w) 3 A.a_turned A.d_turned ["site"] (spP K (PTurn A.c_Site A.c_NoWay))) (G_with_limits : FnOk P w K mg base (L2.CX P w) 3 A.a_with_limits A.d_with_limits ["site", "limits"] (spP K (PWith A.c_Site))) (G__law_steps : FnOk P w K mg base (L2.CX P w) 1 A.a__law_steps A.d__law_steps ["site"] (spP K (PSteps A.c_Site))) (G_strm : FnOk P w K mg base (L2.CX P w) 2 A.a_strm A.d_strm ["self"] (spP K (PStr A.c_Site))) : FnG P w K mg base (L2.CX P w) 7 A.a_law A.d_law ["script"] (spP K PLaw) := by
  refine okG T.F_law sc_law (fun vs H Q E h => spP_len h fun ds Φ Θ hp => by obtain ⟨_, rfl, _⟩ := hp; rfl) (fun cdv A' outer s H vs Q E hr gd h => ⟨_, (pss_cons (ps_for (passes_of rfl) rfl (pi_range1 (by rfl) T.m_range (pa_cons (pe_callB (call_max2 rfl) (by rfl) T.m_max (by decide +kernel) (pa_cons pe_int (pa_cons (pe_callB (call_min2 rfl) (by rfl) T.m_min (by decide +kernel) (pa_cons pe_int (pa_cons (pe_callB call_len (by rfl) T.m_len PySem.boot_len (pa_cons (pv 0) pa_nil)) pa_nil))) pa_nil))) pa_nil)) (pg_name (i := 1) sc_law.nd rfl (by first | exact Or.inl rfl | exact Or.inr rfl)) (pss_cons (ps_set (i := 2) sc_law.nd rfl (by first | exact Or.inl rfl | exact Or.inr rfl) (pe_callSD G__law_feed (hr.mono (by decide)) rfl T.g__law_feed T.F__law_feed.kp T.b__law_feed .nil (fun σ => passAt (W := fun cls d _ H => E cls d H) (takes_of rfl rfl rfl rfl) σ) (pa_cons (pv 0) (pa_cons (pv 1) pa_nil)))) (pss_one (ps_for (passes_of rfl) rfl (pi_range1 (by rfl) T.m_range (pa_cons pe_int pa_nil)) (pg_name (i := 3) sc_law.nd rfl (by first | exact Or.inl rfl | exact Or.inr rfl)) (pss_cons (ps_set (i := 4) sc_law.nd rfl (by first | exact Or.inl rfl | exact Or.inr rfl) (pe_callSD G__law_drawn (hr.mono (by decide)) rfl T.g__law_drawn T.F__law_drawn.kp T.b__law_drawn .nil (fun σ => passAt (W := fun cls d _ H => E cls d H) (takes_of rfl rfl rfl rfl) σ) (pa_cons (pv 2) pa_nil))) (pss_cons (ps_par (i := 5) (j := 6) rfl sc_law.nd rfl rfl (by decide) rfl rfl (pa_cons (pe_static T.st_parse G_parse (hr.mono (by decide)) (pe_glob (v := .ref A.c_Site) rfl T.g_Site rfl) T.b_parse (fun σ => passAt (W := fun cls d _ H => E cls d H) (takes_of rfl rfl rfl rfl) σ) (pa_cons (pe_callSD G__law_text (hr.mono (by decide)) rfl T.g__law_text T.F__law_text.kp T.b__law_text .nil (fun σ => passAt (W := fun cls d _ H => E cls d H) (takes_of rfl rfl rfl rfl) σ) (pa_cons (pv 4) pa_nil)) pa_nil)) (pa_cons (pe_callSD G__law_take (hr.mono (by decide)) rfl T.g__law_take T.F__law_take.kp T.b__law_take .nil (fun σ => passAt (W := fun cls d _ H => E cls d H) (takes_of rfl rfl rfl rfl) σ) (pa_cons (pv 2) (pa_cons (pe_callB call_len (by rfl) T.m_len PySem.boot_len (pa_cons (pv 4) pa_nil)) pa_nil))) pa_nil)) (by first | rfl | with_unfolding_all rfl)) (pss_cons (ps_for (passes_of rfl) rfl (pi_range1 (by rfl) T.m_range (pa_cons (pe_callB call_len (by rfl) T.m_len PySem.boot_len (pa_cons (pv 4) pa_nil)) pa_nil)) (pg_name (i := 7) sc_law.nd rfl (by first | exact Or.inl rfl | exact Or.inr rfl)) (pss_cons (ps_set (i := 8) sc_law.nd rfl (by first | exact Or.inl rfl | exact Or.inr rfl) (pe_callSD G__law_text (hr.mono (by decide)) rfl T.g__law_text T.F__law_text.kp T.b__law_text .nil (fun σ => passAt (W := fun cls d _ H => E cls d H) (takes_of rfl rfl rfl rfl) σ) (pa_cons (pe_op op_addU (pe_slice sl_U (pv 4) po_none (po_some (pv 7))) (pe_slice sl_U (pv 4) (po_some (pe_op op_addU (pv 7) pe_int)) po_none)) pa_nil))) (pss_one (ps_if (pt_cmpR (op_neU hr.units) (pe_callSD G__law_said (hr.mono (by decide)) rfl T.g__law_said T.F__law_said.kp T.b__law_said .nil (fun σ => passAt (W := fun cls d _ H => E cls d H) (takes_of rfl rfl rfl rfl) σ) (pa_cons (pv 8) pa_nil)) (pe_callSD G__law_left_out (hr.mono (by decide)) rfl T.g__law_left_out T.F__law_left_out.kp T.b__law_left_out .nil (fun σ => passAt (W := fun cls d _ H => E cls d H) (takes_of rfl rfl rfl rfl) σ) (pa_cons (pv 4) (pa_cons (pv 7) pa_nil))) (nomark _)) (pss_one (ps_ret pe_bl)) pss_nil)))) (pss_cons (ps_set (i := 9) sc_law.nd rfl (by first | exact Or.inl rfl | exact Or.inr rfl) (pe_static T.st_parse G_parse (hr.mono (by decide)) (pe_glob (v := .ref A.c_Site) rfl T.g_Site rfl) T.b_parse (fun σ => passAt (W := fun cls d _ H => E cls d H) (takes_of rfl rfl rfl rfl) σ) (pa_cons (pe_callSD G__law_text (hr.mono (by decide)) rfl T.g__law_text T.F__law_text.kp T.b__law_text .nil (fun σ => passAt (W := fun cls d _ H => E cls d H) (takes_of rfl rfl rfl rfl) σ) (pa_cons (pe_op op_addU (pe_slice sl_U (pv 4) (po_some (pv 6)) po_none) (pe_slice sl_U (pv 4) po_none (po_some (pv 6)))) pa_nil)) pa_nil))) (pss_cons (ps_if (PW.pt (pw_or (pt_cmpR (op_neDD hr.units) (pe_callSD G__law_places (hr.mono (by decide)) rfl T.g__law_places T.F__law_places.kp T.b__law_places .nil (fun σ => passAt (W := fun cls d _ H => E cls d H) (takes_of rfl rfl rfl rfl) σ) (pa_cons (pv 9) pa_nil)) (pe_callSD G__law_places (hr.mono (by decide)) rfl T.g__law_places T.F__law_places.kp T.b__law_places .nil (fun σ => passAt (W := fun cls d _ H => E cls d H) (takes_of rfl rfl rfl rfl) σ) (pa_cons (pv 5) pa_nil)) (nomark _)) (pw_or1 (pt_cmpR (op_neU hr.units) (pe_cmpR (op_eqOwn T.eq_Site G_eqm T.b_eqm (hr.mono (by decide)) passL) (pv 9) (pv 5) (nomark _)) (pe_cmpR (op_eqU hr.units) (pv 6) pe_int (nomark _)) (nomark _))))) (pss_one (ps_ret pe_bl)) pss_nil) (pss_one (ps_if (pt_not (pt_truth (pe_callB call_isi (by rfl) T.m_isinstance (by decide +kernel) (pa_cons (pe_callSD G__law_turned_rows (hr.mono (by decide)) rfl T.g__law_turned_rows T.F__law_turned_rows.kp T.b__law_turned_rows .nil (fun σ => passAt (W := fun cls d _ H => E cls d H) (takes_of rfl rfl rfl rfl) σ) (pa_cons (pv 4) pa_nil)) (pa_cons (pe_bltn (v := .ty "str") (u := .type "str") (by rfl) T.m_str (by decide +kernel) rfl) pa_nil))) (by intro _; rfl))) (pss_cons (ps_par (i := 10) (j := 11) rfl sc_law.nd rfl rfl (by decide) rfl rfl (pa_cons (pe_callSD G_turned (hr.mono (by decide)) rfl T.g_turned T.F_turned.kp T.b_turned .nil (fun σ => passAt (W := fun cls d _ H => E cls d H) (takes_of rfl rfl rfl rfl) σ) (pa_cons (pv 5) pa_nil)) (pa_cons (pe_lc (own := [("row", 12)]) rfl sc_law.nd (pi_list (pv 4)) (blkOk_by (own := [("row", 12)]) (N := N_law) (sc := (defScope s_law)) (by decide +kernel)) (fun _ _ _ _ _ => (pg_name (i := 12) sc_law.nd rfl (by first | exact Or.inl rfl | exact Or.inr rfl))) (fun _ _ _ _ _ => pts_nil) (fun _ _ _ _ _ => (pe_callSD G__law_take (hr.mono (by decide)) rfl T.g__law_take T.F__law_take.kp T.b__law_take .nil (fun σ => passL0) (pa_cons (pv 2) (pa_cons pe_int pa_nil))))) pa_nil)) (by first | rfl | with_unfolding_all rfl)) (pss_cons (ps_if (pt_cmpR (op_neOwn T.eq_Site G_eqm T.b_eqm (hr.mono (by decide)) passL) (pe_callSD G_turned (hr.mono (by decide)) rfl T.g_turned T.F_turned.kp T.b_turned .nil (fun σ => passAt (W := fun cls d _ H => E cls d H) (takes_of rfl rfl rfl rfl) σ) (pa_cons (pe_callSD G_with_limits (hr.mono (by decide)) rfl T.g_with_limits T.F_with_limits.kp T.b_with_limits .nil (fun σ => passAt (W := fun cls d _ H => E cls d H) (takes_of rfl rfl rfl rfl) σ) (pa_cons (pv 5) (pa_cons (pv 11) pa_nil))) pa_nil)) (pe_callSD G_with_limits (hr.mono (by decide)) rfl T.g_with_limits T.F_with_limits.kp T.b_with_limits .nil (fun σ => passAt (W := fun cls d _ H => E cls d H) (takes_of rfl rfl rfl rfl) σ) (pa_cons (pv 10) (pa_cons (pv 11) pa_nil))) (nomark _)) (pss_one (ps_ret pe_bl)) pss_nil) (pss_cons (ps_if (pt_cmpR (op_neDD hr.units) (pe_callSD G__law_places (hr.mono (by decide)) rfl T.g__law_places T.F__law_places.kp T.b__law_places .nil (fun σ => passAt (W := fun cls d _ H => E cls d H) (takes_of rfl rfl rfl rfl) σ) (pa_cons (pe_callSD G_turned (hr.mono (by decide)) rfl T.g_turned T.F_turned.kp T.b_turned .nil (fun σ => passAt (W := fun cls d _ H => E cls d H) (takes_of rfl rfl rfl rfl) σ) (pa_cons (pv 9) pa_nil)) pa_nil)) (pe_callSD G__law_places (hr.mono (by decide)) rfl T.g__law_places T.F__law_places.kp T.b__law_places .nil (fun σ => passAt (W := fun cls d _ H => E cls d H) (takes_of rfl rfl rfl rfl) σ) (pa_cons (pv 10) pa_nil)) (nomark _)) (pss_one (ps_ret pe_bl)) pss_nil) (pss_cons (ps_if (pt_cmpR (op_neOwn T.eq_Site G_eqm T.b_eqm (hr.mono (by decide)) passL) (pe_callSD G_turned (hr.mono (by decide)) rfl T.g_turned T.F_turned.kp T.b_turned .nil (fun σ => passAt (W := fun cls d _ H => E cls d H) (takes_of rfl rfl rfl rfl) σ) (pa_cons (pe_static T.st_parse G_parse (hr.mono (by decide)) (pe_glob (v := .ref A.c_Site) rfl T.g_Site rfl) T.b_parse (fun σ => passAt (W := fun cls d _ H => E cls d H) (takes_of rfl rfl rfl rfl) σ) (pa_cons (pe_callTy (call_strOwn T.sm_Site G_strm T.b_strm (hr.mono (by decide)) passL) (by rfl) T.m_str (by decide +kernel) (pa_cons (pv 10) pa_nil)) pa_nil)) pa_nil)) (pv 5) (nomark _)) (pss_one (ps_ret pe_bl)) pss_nil) (pss_one (ps_if (pt_cmpR (op_neU hr.units) (pe_callSD G__law_steps (hr.mono (by decide)) rfl T.g__law_steps T.F__law_steps.kp T.b__law_steps .nil (fun σ => passAt (W := fun cls d _ H => E cls d H) (takes_of rfl rfl rfl rfl) σ) (pa_cons (pv 5) pa_nil)) (pe_callSD G__law_steps (hr.mono (by decide)) rfl T.g__law_steps T.F__law_steps.kp T.b__law_steps .nil (fun σ => passAt (W := fun cls d _ H => E cls d H) (takes_of rfl rfl rfl rfl) σ) (pa_cons (pv 10) pa_nil)) (nomark _)) (pss_one (ps_ret pe_bl)) pss_nil)))))) pss_nil))))))))))) (pss_one (ps_ret pe_bl))), ?_⟩)
  · refine body_pure (fun ds Φ Θ hp => ?_) h
    dsimp only [L2.cxOf]
    obtain ⟨ns, rfl, hl, k⟩ := hp
    rw [show rho0 N_law.length [.scr ns] = [.dt (.scr ns), .un, .un, .un, .un, .un, .un, .un, .un, .un, .un, .un, .un] from rfl]
    refine r_seq (r_for (ei_rng1 ?_))
    repeat walk_at "ze"
    have hm : ∃ m : Int, (if (if (ns.length : Int) < 4 then (ns.length : Int) else 4) > 2 then (if (ns.length : Int) < 4 then (ns.length : Int) else 4) else 2) = m ∧ 0 ≤ m ∧ m ≤ 4 := ⟨_, rfl, by split <;> split <;> omega, by split <;> split <;> omega⟩
    obtain ⟨m, em, hm0, hm5⟩ := hm
    rw [em]
    refine ⟨_, rfl, by omega, by omega, fun n ρ => ∃ (s1 s2 s3 s4 s5 s6 s7 s8 s9 s10 s11 : Slot), ρ = [.dt (.scr ns), s1, s2, s3, s4, s5, s6, s7, s8, s9, s10, s11, .un], ⟨_, _, _, _, _, _, _, _, _, _, _, rfl⟩, ?_, ?_⟩
    · rintro n d ρ hd ⟨s1, s2, s3, s4, s5, s6, s7, s8, s9, s10, s11, rfl⟩
      obtain ⟨j, hj, rfl, hj2⟩ := map_at hd
      have hj3 := List.mem_range.mp hj2
      refine gg_name ?_
      refine r_seq (r_setL (el_call (Z.ea_cons (ev_var rfl (Z.ea_cons (ev_var rfl (Z.ea_nil ⟨fun xs => Feed xs, ⟨ns, _, rfl, by omega, by omega, fun xs h => h⟩, fun xs hf q => ?_⟩)))))))
      refine r_for (ei_rng1 (ea_cons (ev_int (ea_nil ⟨4, rfl, by decide, by decide, fun n ρ => ∃ (xs : List D) (s3 s4 s5 s6 s7 s8 s9 s10 s11 : Slot), Feed xs ∧ ρ = [.dt (.scr ns), .dt (.int ((0 : Int) + (j : Nat))), .ol q xs, s3, s4, s5, s6, s7, s8, s9, s10, s11, .un], ⟨xs, _, _, _, _, _, _, _, _, _, hf, rfl⟩, ?_, ?_⟩))))
      · rintro n d ρ hd ⟨xs, s3, s4, s5, s6, s7, s8, s9, s10, s11, hf, rfl⟩
        obtain ⟨i, hi, rfl, hi2⟩ := map_at hd
        refine gg_name ?_
        have parse : ∀ {rows : List RowM}, GoodRs rows → PParse A.c_Site A.c_InvalidText [.str (textM rows)] (fun d => d = siteD A.c_Site (siteOf rows)) noT := fun {rows} g => ⟨textM rows, rfl, fine_text g, fun s e => by
          rw [parse_text g] at e
          cases e
          rfl, fun n e => by
          rw [parse_text g] at e
          cases e⟩
        have ptext : ∀ {rows : List RowM}, GoodRs rows → PLText [.lst (rows.map rowD)] (fun d => d = .str (textM rows)) noT := fun {rows} g => ⟨_, rows, rfl, g.few, g.all, rfl⟩
        refine r_seq (r_set (ev_callQ rfl (ea_nil ⟨_, rfl, _, ⟨hf, rfl, fun rows xs' g hf' => ?_⟩, fun d xs2 hd => hd⟩)))
        have h6 := g.few
        have l0 : 0 < rows.length := List.length_pos_iff.mpr g.ne
        have o1 := okS_rows g
        have fb := fine_back g
        refine r_cut (J := fun ρ => ∃ (xs : List D) (a : Nat), ρ = [.dt (.scr ns), .dt (.int ((0 : Int) + (j : Nat))), .ol q xs, .dt (.int ((0 : Int) + (i : Nat))), .dt (.lst (rows.map rowD)), .dt (siteD A.c_Site (siteOf rows)), .dt (.int (a : Nat)), s7, s8, s9, s10, s11, .un] ∧ Feed xs ∧ a < rows.length) (r_par2 (ea_cons (ev_stat (ea_cons (ev_call (ea_cons (ev_var rfl (ea_nil ⟨fun d => d = .str (textM rows), noT, ptext g, ?_, fun _ _ z => z.elim⟩)))))))) ?_
        · rintro _ rfl
          refine ea_nil ⟨fun d => d = siteD A.c_Site (siteOf rows), noT, parse g, ?_, fun _ _ z => z.elim⟩
          rintro _ rfl
          refine ea_cons (ev_callQ rfl ?_)
          repeat walk_at "ze"
          refine ⟨_, rfl, _, ⟨hf', (rows.length : Int), by rw [List.length_map], by omega, by omega, fun e xs2 h2 h3 hf2 => ?_⟩, fun d xs2 hd => hd⟩
          refine ea_nil ⟨_, _, rfl, xs2, e.toNat, ?_, hf2, by omega⟩
          rw [Int.toNat_of_nonneg h2]
          rfl
        rintro _ ⟨xs, a, rfl, hf, ha⟩
        have gr := good_perm g (rot_perm rows a)
        refine r_cut (J := fun ρ => ∃ (s7 s8 : Slot), ρ = [.dt (.scr ns), .dt (.int ((0 : Int) + (j : Nat))), .ol q xs, .dt (.int ((0 : Int) + (i : Nat))), .dt (.lst (rows.map rowD)), .dt (siteD A.c_Site (siteOf rows)), .dt (.int (a : Nat)), s7, s8, s9, s10, s11, .un]) (r_for (ei_rng1 (ea_cons (ev_cb (ea_cons (ev_var rfl (ea_nil (c_len (n := rows.length) (by intro s hs; cases hs) (by show some (rows.map rowD).length = _; rw [List.length_map]) (ea_nil ⟨(rows.length : Int), rfl, by omega, by omega, fun n ρ => ∃ (s7 s8 : Slot), ρ = [.dt (.scr ns), .dt (.int ((0 : Int) + (j : Nat))), .ol q xs, .dt (.int ((0 : Int) + (i : Nat))), .dt (.lst (rows.map rowD)), .dt (siteD A.c_Site (siteOf rows)), .dt (.int (a : Nat)), s7, s8, s9, s10, s11, .un], ⟨_, _, rfl⟩, ?_, ?_⟩))))))))) ?_
        · rintro n d ρ hd ⟨s7, s8, rfl⟩
          obtain ⟨p, hp, rfl, hp2⟩ := map_at hd
          have hp3 : p < rows.length := by have := List.mem_range.mp hp2; omega
          have er : rows[p]? = some rows[p] := List.getElem?_eq_getElem hp3
          generalize rows[p] = r at er
          have sub := drop_sub rows p
          have gall : ∀ q ∈ dropAt rows p, GoodR (rows.map (·.name)) q := fun q hq => g.all q (sub.subset hq)
          have dl := Nat.le_trans sub.length_le h6
          refine gg_name ?_
          refine r_cut (J := fun ρ => ρ = [.dt (.scr ns), .dt (.int ((0 : Int) + (j : Nat))), .ol q xs, .dt (.int ((0 : Int) + (i : Nat))), .dt (.lst (rows.map rowD)), .dt (siteD A.c_Site (siteOf rows)), .dt (.int (a : Nat)), .dt (.int ((0 : Int) + (p : Nat))), .dt (.str (textM (dropAt rows p))), s9, s10, s11, .un]) (r_set (ev_call (ea_cons (ev_op (ev_slice (ev_var rfl ⟨fun z e => (by cases e), eo_none (eo_some (ev_var rfl ⟨_, rfl, _, rfl, ?_⟩))⟩)))))) ?_
          · rw [cut_take _ (by omega), show ((0 : Int) + (p : Nat)).toNat = p from by omega, ← List.map_take]
            refine ev_slice (ev_var rfl ⟨fun z e => (by cases e), eo_some (ev_op (ev_var rfl (ev_int (o_add ⟨_, rfl, eo_none ⟨_, rfl, ?_⟩⟩))))⟩)
            rw [Z.cut_drop _ (by omega), show ((0 : Int) + (p : Nat) + 1).toNat = p + 1 from by omega, ← List.map_drop]
            refine o_addL (by rw [List.length_map, List.length_map, List.length_take, List.length_drop]; omega) ?_
            rw [← List.map_append]
            refine ea_nil ⟨fun d => d = .str (textM (dropAt rows p)), noT, ⟨_, dropAt rows p, rfl, dl, gall, rfl⟩, ?_, fun _ _ z => z.elim⟩
            rintro _ rfl
            rfl
          rintro _ rfl
          refine r_when (et_test (ev_op (ev_call (ea_cons (ev_var rfl (ea_nil ⟨fun d => d = .int (saidM (textM (dropAt rows p))), noT, ⟨_, rfl, fine_left dl gall, rfl⟩, ?_, fun _ _ z => z.elim⟩))))))
          rintro _ rfl
          refine ev_call (ea_cons (ev_var rfl (ea_cons (ev_var rfl (ea_nil ⟨fun d => d = .int (saidL r.name (dropAt rows p)), noT, ⟨rows, p, r, rfl, g, er, rfl⟩, ?_, fun _ _ z => z.elim⟩)))))
          rintro _ rfl
          refine o_neI ⟨_, rfl, fun c => ?_, fun c => ⟨_, _, rfl⟩⟩
          have := said_left g er
          unfold saidM at c
          rw [this] at c
          simp at c
        · rintro ρ ⟨s7, s8, rfl⟩
          exact ⟨_, _, rfl⟩
        rintro _ ⟨s7, s8, rfl⟩
        refine r_cut (J := fun ρ => ρ = [.dt (.scr ns), .dt (.int ((0 : Int) + (j : Nat))), .ol q xs, .dt (.int ((0 : Int) + (i : Nat))), .dt (.lst (rows.map rowD)), .dt (siteD A.c_Site (siteOf rows)), .dt (.int (a : Nat)), s7, s8, .dt (siteD A.c_Site (siteOf (rotM rows a))), s10, s11, .un]) (r_set (ev_stat (ea_cons (ev_call (ea_cons (ev_op (ev_slice (ev_var rfl ⟨fun z e => (by cases e), eo_some (ev_var rfl ⟨_, rfl, eo_none ⟨_, rfl, ev_slice (ev_var rfl ⟨fun z e => (by cases e), eo_none (eo_some (ev_var rfl ⟨_, rfl, _, rfl, ?_⟩))⟩)⟩⟩)⟩)))))))) ?_
        · rw [Z.cut_drop _ (by omega), cut_take _ (by omega), Int.toNat_natCast, ← List.map_drop, ← List.map_take]
          refine o_addL (by rw [List.length_map, List.length_map, List.length_drop, List.length_take]; omega) ?_
          rw [← List.map_append]
          refine ea_nil ⟨fun d => d = .str (textM (rotM rows a)), noT, ptext gr, ?_, fun _ _ z => z.elim⟩
          rintro _ rfl
          refine ea_nil ⟨fun d => d = siteD A.c_Site (siteOf (rotM rows a)), noT, parse gr, ?_, fun _ _ z => z.elim⟩
          rintro _ rfl
          rfl
        rintro _ rfl
        refine r_cut (J := fun ρ => ρ = [.dt (.scr ns), .dt (.int ((0 : Int) + (j : Nat))), .ol q xs, .dt (.int ((0 : Int) + (i : Nat))), .dt (.lst (rows.map rowD)), .dt (siteD A.c_Site (siteOf rows)), .dt (.int (a : Nat)), s7, s8, .dt (siteD A.c_Site (siteOf (rotM rows a))), s10, s11, .un]) (r_when (et_or (et_test (ev_op (ev_call (ea_cons (ev_var rfl (ea_nil ⟨fun d => d = plcsD (rotM rows a), noT, ⟨_, rfl, gr, rfl⟩, ?_, fun _ _ z => z.elim⟩)))))))) ?_
        · rintro _ rfl
          refine ev_call (ea_cons (ev_var rfl (ea_nil ⟨fun d => d = plcsD rows, noT, ⟨_, rfl, g, rfl⟩, ?_, fun _ _ z => z.elim⟩)))
          rintro _ rfl
          refine o_nePlaces g (rot_perm rows a) ⟨false, rfl, fun _ => ?_, fun z => (by cases z)⟩
          refine et_test (ev_op (ev_op (ev_var rfl (ev_var rfl (o_eqOwn ⟨fun d => d = .bl (decide (a = 0)), ⟨_, _, rfl, okS_rows gr, o1, by rw [eq_rot g ha]⟩, ?_⟩)))))
          rintro _ rfl
          refine ⟨_, rfl, ev_op (ev_var rfl (ev_int (o_eqI ?_)))⟩
          refine o_neU (n := 0) (m := 0) (by unfold okD; rfl) (by unfold okD; rfl) ⟨_, rfl, fun c => ?_, fun c => rfl⟩
          by_cases z : a = 0
          · subst z
            simp at c
          · have z2 : ((a : Int) == 0) = false := by simpa using z
            rw [z2, decide_eq_false z] at c
            simp at c
        rintro _ rfl
        cases et : turnedM (siteOf rows) with
        | error n =>
          refine r_when (et_not (et_truth (ev_isi (ev_call (ea_cons (ev_var rfl (ea_nil ⟨fun d => d = .str n, noT, ⟨rows, rfl, g, by rw [et]; rfl⟩, ?_, fun _ _ z => z.elim⟩)))))))
          rintro _ rfl
          exact ⟨_, _, rfl, rfl, fun s e => (by cases e), _, rfl, fun z => (by cases z), fun _ => ⟨xs, _, _, _, _, _, _, _, _, _, hf, rfl⟩⟩
        | ok s2 =>
          have stay := turn_stay et
          have g2 := back_good g stay
          have et2 := turn_ok stay
          have tt := turn_turn g g2
          have fb2 := fine_back g2
          have o2 := okS_rows g2
          have stayr : ∀ r ∈ rotM rows a, backM (siteOf (rotM rows a)) r.name = [] → r.stay = true := fun r hr h => stay r ((rot_perm rows a).mem_iff.mp hr) (by rw [← back_perm g (rot_perm rows a)]; exact h)
          have etr := turn_ok stayr
          have bp := backRows_perm g (rot_perm rows a)
          have gbr := good_perm g2 bp
          have turn : ∀ {s t : SiteM}, fineBack s = true → turnedM s = .ok t → PTurn A.c_Site A.c_NoWay [siteD A.c_Site s] (fun d => d = siteD A.c_Site t) noT := fun {s t} f e => ⟨s, rfl, f, fun s' e' => by
            rw [e] at e'
            cases e'
            rfl, fun n e' => by
            rw [e] at e'
            cases e'⟩
          have sl : (siteOf rows).ways.length ≤ 10000 := by show (rows.map _).length ≤ 10000; rw [List.length_map]; omega
          have sl2 : (siteOf (backRows rows)).ways.length ≤ 10000 := by show ((backRows rows).map _).length ≤ 10000; rw [List.length_map]; have := g2.few; omega
          refine r_when (et_not (et_truth (ev_isi (ev_call (ea_cons (ev_var rfl (ea_nil ⟨fun d => d = .lst ((backRows rows).map rowD), noT, ⟨rows, rfl, g, by rw [et]; rfl⟩, ?_, fun _ _ z => z.elim⟩)))))))
          rintro _ rfl
          refine ⟨_, _, rfl, rfl, fun s e => (by cases e), _, rfl, fun _ => ?_, fun z => (by cases z)⟩
          refine r_cut (J := fun ρ => ∃ (xs : List D) (ls : List Int), ρ = [.dt (.scr ns), .dt (.int ((0 : Int) + (j : Nat))), .ol q xs, .dt (.int ((0 : Int) + (i : Nat))), .dt (.lst (rows.map rowD)), .dt (siteD A.c_Site (siteOf rows)), .dt (.int (a : Nat)), s7, s8, .dt (siteD A.c_Site (siteOf (rotM rows a))), .dt (siteD A.c_Site (siteOf (backRows rows))), .dt (.lst (ls.map .int)), .un] ∧ Feed xs) (r_par2 (ea_cons (ev_call (ea_cons (ev_var rfl (ea_nil ⟨_, noT, turn fb et2, ?_, fun _ _ z => z.elim⟩)))))) ?_
          · rintro _ rfl
            refine ea_cons (EvL.ev (el_lc (gt_name (by decide)) (ei_list (ev_var rfl ⟨_, rfl, by rw [List.length_map]; omega, fun i' acc ρ => ∃ (xs2 : List D) (ls : List Int), ρ = [.dt (.scr ns), .dt (.int ((0 : Int) + (j : Nat))), .ol q xs2, .dt (.int ((0 : Int) + (i : Nat))), .dt (.lst (rows.map rowD)), .dt (siteD A.c_Site (siteOf rows)), .dt (.int (a : Nat)), s7, s8, .dt (siteD A.c_Site (siteOf (rotM rows a))), s10, s11, .un] ∧ Feed xs2 ∧ acc = ls.map .int, ⟨xs, [], rfl, hf, rfl⟩, ?_, ?_⟩))))
            · rintro i' d acc ρ2 hd2 ⟨xs2, ls, rfl, hf2, rfl⟩
              refine gg_name (et_yes ⟨fun _ => ev_callQ rfl ?_, fun z => (by cases z)⟩)
              repeat walk_at "ze"
              refine ⟨_, rfl, _, ⟨hf2, 10, rfl, by decide, by decide, fun d xs3 h0 h1 hf3 => ?_⟩, fun d xs2 hd => hd⟩
              exact ⟨xs3, ls ++ [d], rfl, hf3, by rw [List.map_append]; rfl⟩
            · rintro acc ρ2 ⟨xs2, ls, rfl, hf2, rfl⟩
              exact ea_nil ⟨_, _, rfl, xs2, ls, rfl, hf2⟩
          rintro _ ⟨xs, ls, rfl, hf⟩
          have etl := turn_lim et2 ls
          refine r_cut (J := fun ρ => ρ = [.dt (.scr ns), .dt (.int ((0 : Int) + (j : Nat))), .ol q xs, .dt (.int ((0 : Int) + (i : Nat))), .dt (.lst (rows.map rowD)), .dt (siteD A.c_Site (siteOf rows)), .dt (.int (a : Nat)), s7, s8, .dt (siteD A.c_Site (siteOf (rotM rows a))), .dt (siteD A.c_Site (siteOf (backRows rows))), .dt (.lst (ls.map .int)), .un]) (r_when (et_test (ev_op (ev_call (ea_cons (ev_call (ea_cons (ev_var rfl (ea_cons (ev_var rfl (ea_nil ⟨fun d => d = siteD A.c_Site { siteOf rows with limits := ls }, noT, ⟨siteOf rows, ls, false, rfl, sl, rfl⟩, ?_, fun _ _ z => z.elim⟩))))))))))) ?_
          · rintro _ rfl
            refine ea_nil ⟨_, noT, turn (show fineBack { siteOf rows with limits := ls } = true from fb) etl, ?_, fun _ _ z => z.elim⟩
            rintro _ rfl
            refine ev_call (ea_cons (ev_var rfl (ea_cons (ev_var rfl (ea_nil ⟨fun d => d = siteD A.c_Site { siteOf (backRows rows) with limits := ls }, noT, ⟨siteOf (backRows rows), ls, false, rfl, sl2, rfl⟩, ?_, fun _ _ z => z.elim⟩)))))
            rintro _ rfl
            have ol : okS { siteOf (backRows rows) with limits := ls } = true := o2
            refine o_eqOwn ⟨fun d => d = .bl true, ⟨_, _, rfl, ol, ol, by rw [eqM_refl ol]⟩, ?_⟩
            rintro _ rfl
            exact ⟨true, rfl, _, rfl, fun z => (by cases z), fun _ => rfl⟩
          rintro _ rfl
          refine r_cut (J := fun ρ => ρ = [.dt (.scr ns), .dt (.int ((0 : Int) + (j : Nat))), .ol q xs, .dt (.int ((0 : Int) + (i : Nat))), .dt (.lst (rows.map rowD)), .dt (siteD A.c_Site (siteOf rows)), .dt (.int (a : Nat)), s7, s8, .dt (siteD A.c_Site (siteOf (rotM rows a))), .dt (siteD A.c_Site (siteOf (backRows rows))), .dt (.lst (ls.map .int)), .un]) (r_when (et_test (ev_op (ev_call (ea_cons (ev_call (ea_cons (ev_var rfl (ea_nil ⟨_, noT, turn (fine_back gr) etr, ?_, fun _ _ z => z.elim⟩))))))))) ?_
          · rintro _ rfl
            refine ea_nil ⟨fun d => d = plcsD (backRows (rotM rows a)), noT, ⟨_, rfl, gbr, rfl⟩, ?_, fun _ _ z => z.elim⟩
            rintro _ rfl
            refine ev_call (ea_cons (ev_var rfl (ea_nil ⟨fun d => d = plcsD (backRows rows), noT, ⟨_, rfl, g2, rfl⟩, ?_, fun _ _ z => z.elim⟩)))
            rintro _ rfl
            exact o_nePlaces g2 bp ⟨false, rfl, fun z => (by cases z), fun _ => rfl⟩
          rintro _ rfl
          refine r_cut (J := fun ρ => ρ = [.dt (.scr ns), .dt (.int ((0 : Int) + (j : Nat))), .ol q xs, .dt (.int ((0 : Int) + (i : Nat))), .dt (.lst (rows.map rowD)), .dt (siteD A.c_Site (siteOf rows)), .dt (.int (a : Nat)), s7, s8, .dt (siteD A.c_Site (siteOf (rotM rows a))), .dt (siteD A.c_Site (siteOf (backRows rows))), .dt (.lst (ls.map .int)), .un]) (r_when (et_test (ev_op (ev_call (ea_cons (ev_stat (ea_cons (ev_cb (ea_cons (ev_var rfl (ea_nil (c_strOwn ⟨fun d => d = .str (textM (backRows rows)), ⟨siteOf (backRows rows), rfl, fine_str g2, by rw [str_text]⟩, ?_⟩))))))))))) ) ?_
          · rintro _ rfl
            refine ⟨⟨_, rfl⟩, ea_nil ⟨fun d => d = siteD A.c_Site (siteOf (backRows rows)), noT, parse g2, ?_, fun _ _ z => z.elim⟩⟩
            rintro _ rfl
            refine ea_nil ⟨_, noT, turn fb2 tt, ?_, fun _ _ z => z.elim⟩
            rintro _ rfl
            refine ev_var rfl (o_eqOwn ⟨fun d => d = .bl true, ⟨_, _, rfl, o1, o1, by rw [eqM_refl o1]⟩, ?_⟩)
            rintro _ rfl
            exact ⟨true, rfl, _, rfl, fun z => (by cases z), fun _ => rfl⟩
          rintro _ rfl
          refine r_when (et_test (ev_op (ev_call (ea_cons (ev_var rfl (ea_nil ⟨fun d => d = .lst ((sortI (stepsM rows)).map .int), noT, ⟨rows, rfl, g, rfl⟩, ?_, fun _ _ z => z.elim⟩))))))
          rintro _ rfl
          refine ev_call (ea_cons (ev_var rfl (ea_nil ⟨fun d => d = .lst ((sortI (stepsM rows)).map .int), noT, ⟨backRows rows, rfl, g2, by rw [sortI_perm (steps_back g g2)]⟩, ?_, fun _ _ z => z.elim⟩)))
          rintro _ rfl
          refine o_neU (n := 1) (m := 1) (intsOk _) (intsOk _) ⟨_, rfl, fun c => ?_, fun c => ⟨xs, _, _, _, _, _, _, _, _, _, hf, rfl⟩⟩
          rw [deq_refl (intsOk _)] at c
          cases c
      · rintro ρ ⟨xs, s3, s4, s5, s6, s7, s8, s9, s10, s11, hf, rfl⟩
        exact ⟨_, _, _, _, _, _, _, _, _, _, _, rfl⟩
    · rintro ρ ⟨s1, s2, s3, s4, s5, s6, s7, s8, s9, s10, s11, rfl⟩
      exact r_ret (ev_bl k)
end
end Lw

namespace Lw
open PySem PySem.Spec PyProof.Rows L2 Evl Z
open PySem.W in
theorem txt_mk {K : PySem.W.Frag} {h : Heap} {mg : Str → Option Value} (X : K.In h) (G : h.Ns mainGlobals mg)
    {C_WalkError C_InvalidText C_NoWay C_Site f_i_InvalidText f_i_NoWay f_init f_parse p_parse f_strm f_eqm f_turned f_with_limits f_is_name f__places_of f__place_of f__are_ways f__row_text f__ways_back f__law_feed f__law_take f__law_pick f__law_word f__law_drawn f__law_row f__law_text f__law_turned_rows f__law_said f__law_left_out f__law_steps f__law_places f_law ka_LIMIT_WORDS ka_STEP_WORDS : Addr} {od_i_InvalidText an_i_InvalidText od_i_NoWay an_i_NoWay od_init an_init od_parse an_parse od_strm an_strm od_eqm an_eqm od_turned an_turned od_with_limits an_with_limits od_is_name an_is_name od__places_of an__places_of od__place_of an__place_of od__are_ways an__are_ways od__row_text an__row_text od__ways_back an__ways_back od__law_feed an__law_feed od__law_take an__law_take od__law_pick an__law_pick od__law_word an__law_word od__law_drawn an__law_drawn od__law_row an__law_row od__law_text an__law_text od__law_turned_rows an__law_turned_rows od__law_said an__law_said od__law_left_out an__law_left_out od__law_steps an__law_steps od__law_places an__law_places od_law an_law kd_LIMIT_WORDS kd_STEP_WORDS : Option Addr} {sl_i_InvalidText sl_i_NoWay sl_init sl_parse sl_strm sl_eqm sl_turned sl_with_limits sl_is_name sl__places_of sl__place_of sl__are_ways sl__row_text sl__ways_back sl__law_feed sl__law_take sl__law_pick sl__law_word sl__law_drawn sl__law_row sl__law_text sl__law_turned_rows sl__law_said sl__law_left_out sl__law_steps sl__law_places sl_law ks_LIMIT_WORDS ks_STEP_WORDS : Array (Option Value)} {oc_i_InvalidText kV_i_InvalidText dc_i_InvalidText pm_i_InvalidText cd_i_InvalidText ct_i_InvalidText oc_i_NoWay kV_i_NoWay dc_i_NoWay pm_i_NoWay cd_i_NoWay ct_i_NoWay oc_init kV_init dc_init pm_init cd_init ct_init oc_parse kV_parse dc_parse pm_parse cd_parse ct_parse oc_strm kV_strm dc_strm pm_strm cd_strm ct_strm oc_eqm kV_eqm dc_eqm pm_eqm cd_eqm ct_eqm oc_turned kV_turned dc_turned pm_turned cd_turned ct_turned oc_with_limits kV_with_limits dc_with_limits pm_with_limits cd_with_limits ct_with_limits oc_is_name kV_is_name dc_is_name pm_is_name cd_is_name ct_is_name oc__places_of kV__places_of dc__places_of pm__places_of cd__places_of ct__places_of oc__place_of kV__place_of dc__place_of pm__place_of cd__place_of ct__place_of oc__are_ways kV__are_ways dc__are_ways pm__are_ways cd__are_ways ct__are_ways oc__row_text kV__row_text dc__row_text pm__row_text cd__row_text ct__row_text oc__ways_back kV__ways_back dc__ways_back pm__ways_back cd__ways_back ct__ways_back oc__law_feed kV__law_feed dc__law_feed pm__law_feed cd__law_feed ct__law_feed oc__law_take kV__law_take dc__law_take pm__law_take cd__law_take ct__law_take oc__law_pick kV__law_pick dc__law_pick pm__law_pick cd__law_pick ct__law_pick oc__law_word kV__law_word dc__law_word pm__law_word cd__law_word ct__law_word oc__law_drawn kV__law_drawn dc__law_drawn pm__law_drawn cd__law_drawn ct__law_drawn oc__law_row kV__law_row dc__law_row pm__law_row cd__law_row ct__law_row oc__law_text kV__law_text dc__law_text pm__law_text cd__law_text ct__law_text oc__law_turned_rows kV__law_turned_rows dc__law_turned_rows pm__law_turned_rows cd__law_turned_rows ct__law_turned_rows oc__law_said kV__law_said dc__law_said pm__law_said cd__law_said ct__law_said oc__law_left_out kV__law_left_out dc__law_left_out pm__law_left_out cd__law_left_out ct__law_left_out oc__law_steps kV__law_steps dc__law_steps pm__law_steps cd__law_steps ct__law_steps oc__law_places kV__law_places dc__law_places pm__law_places cd__law_places ct__law_places oc_law kV_law dc_law pm_law cd_law ct_law : Value} {rs_parse : List Value} {t_MOST_PLACES t_LONGEST_NAME t0_LIMIT_WORDS t1_LIMIT_WORDS t2_LIMIT_WORDS t3_LIMIT_WORDS t4_LIMIT_WORDS t5_LIMIT_WORDS t6_LIMIT_WORDS t7_LIMIT_WORDS t8_LIMIT_WORDS t9_LIMIT_WORDS t0_STEP_WORDS t1_STEP_WORDS t2_STEP_WORDS : Tok} {kn_LIMIT_WORDS kn_STEP_WORDS : Nat}
    (z_abs : PySem.W.nsIn K mainGlobals "abs" = some none)
    (z_all : PySem.W.nsIn K mainGlobals "all" = some none)
    (z_enumerate : PySem.W.nsIn K mainGlobals "enumerate" = some none)
    (z_int : PySem.W.nsIn K mainGlobals "int" = some none)
    (z_isinstance : PySem.W.nsIn K mainGlobals "isinstance" = some none)
    (z_len : PySem.W.nsIn K mainGlobals "len" = some none)
    (z_list : PySem.W.nsIn K mainGlobals "list" = some none)
    (z_max : PySem.W.nsIn K mainGlobals "max" = some none)
    (z_min : PySem.W.nsIn K mainGlobals "min" = some none)
    (z_range : PySem.W.nsIn K mainGlobals "range" = some none)
    (z_set : PySem.W.nsIn K mainGlobals "set" = some none)
    (z_sorted : PySem.W.nsIn K mainGlobals "sorted" = some none)
    (z_str : PySem.W.nsIn K mainGlobals "str" = some none)
    (z_tuple : PySem.W.nsIn K mainGlobals "tuple" = some none)
    (z_zip : PySem.W.nsIn K mainGlobals "zip" = some none)
    (gc_WalkError : PySem.W.nsIn K mainGlobals "WalkError" = some (some (.ref C_WalkError)))
    (gc_InvalidText : PySem.W.nsIn K mainGlobals "InvalidText" = some (some (.ref C_InvalidText)))
    (gc_NoWay : PySem.W.nsIn K mainGlobals "NoWay" = some (some (.ref C_NoWay)))
    (gc_Site : PySem.W.nsIn K mainGlobals "Site" = some (some (.ref C_Site)))
    (a_i_InvalidText : PySem.W.findIn K (.ref C_InvalidText) "__init__" = some (some (.ref f_i_InvalidText)))
    (l_i_InvalidText : K.lookup f_i_InvalidText = some ⟨oc_i_InvalidText, od_i_InvalidText, .func (PySem.W.fnOf "__init__" "InvalidText.__init__" (defArgs s_i_InvalidText) (defBody s_i_InvalidText) (defScope s_i_InvalidText) .none kV_i_InvalidText dc_i_InvalidText pm_i_InvalidText an_i_InvalidText cd_i_InvalidText ct_i_InvalidText), sl_i_InvalidText⟩)
    (c_i_InvalidText : PySem.W.codeIn K cd_i_InvalidText "InvalidText.__init__" = true)
    (k_i_InvalidText : PySem.W.keepIn K (.ref f_i_InvalidText) = true)
    (a_i_NoWay : PySem.W.findIn K (.ref C_NoWay) "__init__" = some (some (.ref f_i_NoWay)))
    (l_i_NoWay : K.lookup f_i_NoWay = some ⟨oc_i_NoWay, od_i_NoWay, .func (PySem.W.fnOf "__init__" "NoWay.__init__" (defArgs s_i_NoWay) (defBody s_i_NoWay) (defScope s_i_NoWay) .none kV_i_NoWay dc_i_NoWay pm_i_NoWay an_i_NoWay cd_i_NoWay ct_i_NoWay), sl_i_NoWay⟩)
    (c_i_NoWay : PySem.W.codeIn K cd_i_NoWay "NoWay.__init__" = true)
    (k_i_NoWay : PySem.W.keepIn K (.ref f_i_NoWay) = true)
    (a_init : PySem.W.findIn K (.ref C_Site) "__init__" = some (some (.ref f_init)))
    (l_init : K.lookup f_init = some ⟨oc_init, od_init, .func (PySem.W.fnOf "__init__" "Site.__init__" (defArgs s_init) (defBody s_init) (defScope s_init) .none kV_init dc_init pm_init an_init cd_init ct_init), sl_init⟩)
    (c_init : PySem.W.codeIn K cd_init "Site.__init__" = true)
    (k_init : PySem.W.keepIn K (.ref f_init) = true)
    (sf_parse : PySem.W.findCls K (.ref C_Site) (.type "type") "parse" = some (.get (.builtin "staticmethod.__get__") (.ref p_parse) .none (.ref C_Site)))
    (a_parse : PySem.W.recIn K p_parse "staticmethod" = some (.ref f_parse :: rs_parse))
    (sr_parse : PySem.W.readsIn K C_Site (.type "type") = true)
    (sg_parse : PySem.W.specialIn K (.ref C_Site) "__getattribute__" = some (some (.builtin "type.__getattribute__")))
    (l_parse : K.lookup f_parse = some ⟨oc_parse, od_parse, .func (PySem.W.fnOf "parse" "Site.parse" (defArgs s_parse) (defBody s_parse) (defScope s_parse) .none kV_parse dc_parse pm_parse an_parse cd_parse ct_parse), sl_parse⟩)
    (c_parse : PySem.W.codeIn K cd_parse "Site.parse" = true)
    (k_parse : PySem.W.keepIn K (.ref f_parse) = true)
    (a_strm : PySem.W.findIn K (.ref C_Site) "__str__" = some (some (.ref f_strm)))
    (l_strm : K.lookup f_strm = some ⟨oc_strm, od_strm, .func (PySem.W.fnOf "__str__" "Site.__str__" (defArgs s_strm) (defBody s_strm) (defScope s_strm) .none kV_strm dc_strm pm_strm an_strm cd_strm ct_strm), sl_strm⟩)
    (c_strm : PySem.W.codeIn K cd_strm "Site.__str__" = true)
    (k_strm : PySem.W.keepIn K (.ref f_strm) = true)
    (a_eqm : PySem.W.findIn K (.ref C_Site) "__eq__" = some (some (.ref f_eqm)))
    (l_eqm : K.lookup f_eqm = some ⟨oc_eqm, od_eqm, .func (PySem.W.fnOf "__eq__" "Site.__eq__" (defArgs s_eqm) (defBody s_eqm) (defScope s_eqm) .none kV_eqm dc_eqm pm_eqm an_eqm cd_eqm ct_eqm), sl_eqm⟩)
    (c_eqm : PySem.W.codeIn K cd_eqm "Site.__eq__" = true)
    (k_eqm : PySem.W.keepIn K (.ref f_eqm) = true)
    (a_turned : PySem.W.nsIn K mainGlobals "turned" = some (some (.ref f_turned)))
    (l_turned : K.lookup f_turned = some ⟨oc_turned, od_turned, .func (PySem.W.fnOf "turned" "turned" (defArgs s_turned) (defBody s_turned) (defScope s_turned) .none kV_turned dc_turned pm_turned an_turned cd_turned ct_turned), sl_turned⟩)
    (c_turned : PySem.W.codeIn K cd_turned "turned" = true)
    (k_turned : PySem.W.keepIn K (.ref f_turned) = true)
    (a_with_limits : PySem.W.nsIn K mainGlobals "with_limits" = some (some (.ref f_with_limits)))
    (l_with_limits : K.lookup f_with_limits = some ⟨oc_with_limits, od_with_limits, .func (PySem.W.fnOf "with_limits" "with_limits" (defArgs s_with_limits) (defBody s_with_limits) (defScope s_with_limits) .none kV_with_limits dc_with_limits pm_with_limits an_with_limits cd_with_limits ct_with_limits), sl_with_limits⟩)
    (c_with_limits : PySem.W.codeIn K cd_with_limits "with_limits" = true)
    (k_with_limits : PySem.W.keepIn K (.ref f_with_limits) = true)
    (a_is_name : PySem.W.nsIn K mainGlobals "is_name" = some (some (.ref f_is_name)))
    (l_is_name : K.lookup f_is_name = some ⟨oc_is_name, od_is_name, .func (PySem.W.fnOf "is_name" "is_name" (defArgs s_is_name) (defBody s_is_name) (defScope s_is_name) .none kV_is_name dc_is_name pm_is_name an_is_name cd_is_name ct_is_name), sl_is_name⟩)
    (c_is_name : PySem.W.codeIn K cd_is_name "is_name" = true)
    (k_is_name : PySem.W.keepIn K (.ref f_is_name) = true)
    (a__places_of : PySem.W.nsIn K mainGlobals "_places_of" = some (some (.ref f__places_of)))
    (l__places_of : K.lookup f__places_of = some ⟨oc__places_of, od__places_of, .func (PySem.W.fnOf "_places_of" "_places_of" (defArgs s__places_of) (defBody s__places_of) (defScope s__places_of) .none kV__places_of dc__places_of pm__places_of an__places_of cd__places_of ct__places_of), sl__places_of⟩)
    (c__places_of : PySem.W.codeIn K cd__places_of "_places_of" = true)
    (k__places_of : PySem.W.keepIn K (.ref f__places_of) = true)
    (a__place_of : PySem.W.nsIn K mainGlobals "_place_of" = some (some (.ref f__place_of)))
    (l__place_of : K.lookup f__place_of = some ⟨oc__place_of, od__place_of, .func (PySem.W.fnOf "_place_of" "_place_of" (defArgs s__place_of) (defBody s__place_of) (defScope s__place_of) .none kV__place_of dc__place_of pm__place_of an__place_of cd__place_of ct__place_of), sl__place_of⟩)
    (c__place_of : PySem.W.codeIn K cd__place_of "_place_of" = true)
    (k__place_of : PySem.W.keepIn K (.ref f__place_of) = true)
    (a__are_ways : PySem.W.nsIn K mainGlobals "_are_ways" = some (some (.ref f__are_ways)))
    (l__are_ways : K.lookup f__are_ways = some ⟨oc__are_ways, od__are_ways, .func (PySem.W.fnOf "_are_ways" "_are_ways" (defArgs s__are_ways) (defBody s__are_ways) (defScope s__are_ways) .none kV__are_ways dc__are_ways pm__are_ways an__are_ways cd__are_ways ct__are_ways), sl__are_ways⟩)
    (c__are_ways : PySem.W.codeIn K cd__are_ways "_are_ways" = true)
    (k__are_ways : PySem.W.keepIn K (.ref f__are_ways) = true)
    (a__row_text : PySem.W.nsIn K mainGlobals "_row_text" = some (some (.ref f__row_text)))
    (l__row_text : K.lookup f__row_text = some ⟨oc__row_text, od__row_text, .func (PySem.W.fnOf "_row_text" "_row_text" (defArgs s__row_text) (defBody s__row_text) (defScope s__row_text) .none kV__row_text dc__row_text pm__row_text an__row_text cd__row_text ct__row_text), sl__row_text⟩)
    (c__row_text : PySem.W.codeIn K cd__row_text "_row_text" = true)
    (k__row_text : PySem.W.keepIn K (.ref f__row_text) = true)
    (a__ways_back : PySem.W.nsIn K mainGlobals "_ways_back" = some (some (.ref f__ways_back)))
    (l__ways_back : K.lookup f__ways_back = some ⟨oc__ways_back, od__ways_back, .func (PySem.W.fnOf "_ways_back" "_ways_back" (defArgs s__ways_back) (defBody s__ways_back) (defScope s__ways_back) .none kV__ways_back dc__ways_back pm__ways_back an__ways_back cd__ways_back ct__ways_back), sl__ways_back⟩)
    (c__ways_back : PySem.W.codeIn K cd__ways_back "_ways_back" = true)
    (k__ways_back : PySem.W.keepIn K (.ref f__ways_back) = true)
    (a__law_feed : PySem.W.nsIn K mainGlobals "_law_feed" = some (some (.ref f__law_feed)))
    (l__law_feed : K.lookup f__law_feed = some ⟨oc__law_feed, od__law_feed, .func (PySem.W.fnOf "_law_feed" "_law_feed" (defArgs s__law_feed) (defBody s__law_feed) (defScope s__law_feed) .none kV__law_feed dc__law_feed pm__law_feed an__law_feed cd__law_feed ct__law_feed), sl__law_feed⟩)
    (c__law_feed : PySem.W.codeIn K cd__law_feed "_law_feed" = true)
    (k__law_feed : PySem.W.keepIn K (.ref f__law_feed) = true)
    (a__law_take : PySem.W.nsIn K mainGlobals "_law_take" = some (some (.ref f__law_take)))
    (l__law_take : K.lookup f__law_take = some ⟨oc__law_take, od__law_take, .func (PySem.W.fnOf "_law_take" "_law_take" (defArgs s__law_take) (defBody s__law_take) (defScope s__law_take) .none kV__law_take dc__law_take pm__law_take an__law_take cd__law_take ct__law_take), sl__law_take⟩)
    (c__law_take : PySem.W.codeIn K cd__law_take "_law_take" = true)
    (k__law_take : PySem.W.keepIn K (.ref f__law_take) = true)
    (a__law_pick : PySem.W.nsIn K mainGlobals "_law_pick" = some (some (.ref f__law_pick)))
    (l__law_pick : K.lookup f__law_pick = some ⟨oc__law_pick, od__law_pick, .func (PySem.W.fnOf "_law_pick" "_law_pick" (defArgs s__law_pick) (defBody s__law_pick) (defScope s__law_pick) .none kV__law_pick dc__law_pick pm__law_pick an__law_pick cd__law_pick ct__law_pick), sl__law_pick⟩)
    (c__law_pick : PySem.W.codeIn K cd__law_pick "_law_pick" = true)
    (k__law_pick : PySem.W.keepIn K (.ref f__law_pick) = true)
    (a__law_word : PySem.W.nsIn K mainGlobals "_law_word" = some (some (.ref f__law_word)))
    (l__law_word : K.lookup f__law_word = some ⟨oc__law_word, od__law_word, .func (PySem.W.fnOf "_law_word" "_law_word" (defArgs s__law_word) (defBody s__law_word) (defScope s__law_word) .none kV__law_word dc__law_word pm__law_word an__law_word cd__law_word ct__law_word), sl__law_word⟩)
    (c__law_word : PySem.W.codeIn K cd__law_word "_law_word" = true)
    (k__law_word : PySem.W.keepIn K (.ref f__law_word) = true)
    (a__law_drawn : PySem.W.nsIn K mainGlobals "_law_drawn" = some (some (.ref f__law_drawn)))
    (l__law_drawn : K.lookup f__law_drawn = some ⟨oc__law_drawn, od__law_drawn, .func (PySem.W.fnOf "_law_drawn" "_law_drawn" (defArgs s__law_drawn) (defBody s__law_drawn) (defScope s__law_drawn) .none kV__law_drawn dc__law_drawn pm__law_drawn an__law_drawn cd__law_drawn ct__law_drawn), sl__law_drawn⟩)
    (c__law_drawn : PySem.W.codeIn K cd__law_drawn "_law_drawn" = true)
    (k__law_drawn : PySem.W.keepIn K (.ref f__law_drawn) = true)
    (a__law_row : PySem.W.nsIn K mainGlobals "_law_row" = some (some (.ref f__law_row)))
    (l__law_row : K.lookup f__law_row = some ⟨oc__law_row, od__law_row, .func (PySem.W.fnOf "_law_row" "_law_row" (defArgs s__law_row) (defBody s__law_row) (defScope s__law_row) .none kV__law_row dc__law_row pm__law_row an__law_row cd__law_row ct__law_row), sl__law_row⟩)
    (c__law_row : PySem.W.codeIn K cd__law_row "_law_row" = true)
    (k__law_row : PySem.W.keepIn K (.ref f__law_row) = true)
    (a__law_text : PySem.W.nsIn K mainGlobals "_law_text" = some (some (.ref f__law_text)))
    (l__law_text : K.lookup f__law_text = some ⟨oc__law_text, od__law_text, .func (PySem.W.fnOf "_law_text" "_law_text" (defArgs s__law_text) (defBody s__law_text) (defScope s__law_text) .none kV__law_text dc__law_text pm__law_text an__law_text cd__law_text ct__law_text), sl__law_text⟩)
    (c__law_text : PySem.W.codeIn K cd__law_text "_law_text" = true)
    (k__law_text : PySem.W.keepIn K (.ref f__law_text) = true)
    (a__law_turned_rows : PySem.W.nsIn K mainGlobals "_law_turned_rows" = some (some (.ref f__law_turned_rows)))
    (l__law_turned_rows : K.lookup f__law_turned_rows = some ⟨oc__law_turned_rows, od__law_turned_rows, .func (PySem.W.fnOf "_law_turned_rows" "_law_turned_rows" (defArgs s__law_turned_rows) (defBody s__law_turned_rows) (defScope s__law_turned_rows) .none kV__law_turned_rows dc__law_turned_rows pm__law_turned_rows an__law_turned_rows cd__law_turned_rows ct__law_turned_rows), sl__law_turned_rows⟩)
    (c__law_turned_rows : PySem.W.codeIn K cd__law_turned_rows "_law_turned_rows" = true)
    (k__law_turned_rows : PySem.W.keepIn K (.ref f__law_turned_rows) = true)
    (a__law_said : PySem.W.nsIn K mainGlobals "_law_said" = some (some (.ref f__law_said)))
    (l__law_said : K.lookup f__law_said = some ⟨oc__law_said, od__law_said, .func (PySem.W.fnOf "_law_said" "_law_said" (defArgs s__law_said) (defBody s__law_said) (defScope s__law_said) .none kV__law_said dc__law_said pm__law_said an__law_said cd__law_said ct__law_said), sl__law_said⟩)
    (c__law_said : PySem.W.codeIn K cd__law_said "_law_said" = true)
    (k__law_said : PySem.W.keepIn K (.ref f__law_said) = true)
    (a__law_left_out : PySem.W.nsIn K mainGlobals "_law_left_out" = some (some (.ref f__law_left_out)))
    (l__law_left_out : K.lookup f__law_left_out = some ⟨oc__law_left_out, od__law_left_out, .func (PySem.W.fnOf "_law_left_out" "_law_left_out" (defArgs s__law_left_out) (defBody s__law_left_out) (defScope s__law_left_out) .none kV__law_left_out dc__law_left_out pm__law_left_out an__law_left_out cd__law_left_out ct__law_left_out), sl__law_left_out⟩)
    (c__law_left_out : PySem.W.codeIn K cd__law_left_out "_law_left_out" = true)
    (k__law_left_out : PySem.W.keepIn K (.ref f__law_left_out) = true)
    (a__law_steps : PySem.W.nsIn K mainGlobals "_law_steps" = some (some (.ref f__law_steps)))
    (l__law_steps : K.lookup f__law_steps = some ⟨oc__law_steps, od__law_steps, .func (PySem.W.fnOf "_law_steps" "_law_steps" (defArgs s__law_steps) (defBody s__law_steps) (defScope s__law_steps) .none kV__law_steps dc__law_steps pm__law_steps an__law_steps cd__law_steps ct__law_steps), sl__law_steps⟩)
    (c__law_steps : PySem.W.codeIn K cd__law_steps "_law_steps" = true)
    (k__law_steps : PySem.W.keepIn K (.ref f__law_steps) = true)
    (a__law_places : PySem.W.nsIn K mainGlobals "_law_places" = some (some (.ref f__law_places)))
    (l__law_places : K.lookup f__law_places = some ⟨oc__law_places, od__law_places, .func (PySem.W.fnOf "_law_places" "_law_places" (defArgs s__law_places) (defBody s__law_places) (defScope s__law_places) .none kV__law_places dc__law_places pm__law_places an__law_places cd__law_places ct__law_places), sl__law_places⟩)
    (c__law_places : PySem.W.codeIn K cd__law_places "_law_places" = true)
    (k__law_places : PySem.W.keepIn K (.ref f__law_places) = true)
    (a_law : PySem.W.nsIn K mainGlobals "law" = some (some (.ref f_law)))
    (l_law : K.lookup f_law = some ⟨oc_law, od_law, .func (PySem.W.fnOf "law" "law" (defArgs s_law) (defBody s_law) (defScope s_law) .none kV_law dc_law pm_law an_law cd_law ct_law), sl_law⟩)
    (c_law : PySem.W.codeIn K cd_law "law" = true)
    (k_law : PySem.W.keepIn K (.ref f_law) = true)
    (n_MOST_PLACES : PySem.W.nsIn K mainGlobals "MOST_PLACES" = some (some (.int 6 t_MOST_PLACES)))
    (n_LONGEST_NAME : PySem.W.nsIn K mainGlobals "LONGEST_NAME" = some (some (.int 8 t_LONGEST_NAME)))
    (n_LIMIT_WORDS : PySem.W.nsIn K mainGlobals "LIMIT_WORDS" = some (some (.ref ka_LIMIT_WORDS)))
    (kl_LIMIT_WORDS : K.lookup ka_LIMIT_WORDS = some ⟨.type "tuple", kd_LIMIT_WORDS, .seq #[.str "0" t0_LIMIT_WORDS, .str "1" t1_LIMIT_WORDS, .str "2" t2_LIMIT_WORDS, .str "3" t3_LIMIT_WORDS, .str "4" t4_LIMIT_WORDS, .str "5" t5_LIMIT_WORDS, .str "6" t6_LIMIT_WORDS, .str "7" t7_LIMIT_WORDS, .str "8" t8_LIMIT_WORDS, .str "9" t9_LIMIT_WORDS] kn_LIMIT_WORDS, ks_LIMIT_WORDS⟩)
    (n_STEP_WORDS : PySem.W.nsIn K mainGlobals "STEP_WORDS" = some (some (.ref ka_STEP_WORDS)))
    (kl_STEP_WORDS : K.lookup ka_STEP_WORDS = some ⟨.type "tuple", kd_STEP_WORDS, .seq #[.str "1" t0_STEP_WORDS, .str "2" t1_STEP_WORDS, .str "3" t2_STEP_WORDS] kn_STEP_WORDS, ks_STEP_WORDS⟩)
    (ec_InvalidText : ∃ nm q N bs bm sn sub ab col dd k0 k1 k2 k3 k5, K.lookup C_InvalidText = some (excClassObj nm q C_InvalidText N bs bm true sn sub ab col dd k0 k1 k2 k3 k5 "ValueError.__new__") ∧ PySem.HandSPX.refsVE bm = true)
    (es_InvalidText : PySem.W.findIn K (.ref C_InvalidText) "__setattr__" = some (some (.builtin "object.__setattr__")))
    (eg_InvalidText : PySem.W.findIn K (.ref C_InvalidText) "__getattribute__" = some (some (.builtin "BaseException.__getattribute__")))
    (eh_InvalidText : PySem.W.findIn K (.ref C_InvalidText) "__getattr__" = some none)
    (ex_InvalidText : PySem.W.subIn K (.ref C_InvalidText) (.type "BaseException") = some true)
    (et_InvalidText : PySem.W.typeIn K (.ref C_InvalidText) = some (.type "type"))
    (ek_InvalidText : PySem.W.keepIn K (.ref C_InvalidText) = true)
    (ed_InvalidText : PySem.W.hasDictIn K C_InvalidText = true)
    (ef_InvalidText : PySem.W.findIn K (.ref C_InvalidText) "row" = some none)
    (ei_InvalidText : PySem.W.typeIn K (.ref f_i_InvalidText) = some (.type "function"))
    (ec_NoWay : ∃ nm q N bs bm sn sub ab col dd k0 k1 k2 k3 k5, K.lookup C_NoWay = some (excClassObj nm q C_NoWay N bs bm true sn sub ab col dd k0 k1 k2 k3 k5 "ValueError.__new__") ∧ PySem.HandSPX.refsVE bm = true)
    (es_NoWay : PySem.W.findIn K (.ref C_NoWay) "__setattr__" = some (some (.builtin "object.__setattr__")))
    (eg_NoWay : PySem.W.findIn K (.ref C_NoWay) "__getattribute__" = some (some (.builtin "BaseException.__getattribute__")))
    (eh_NoWay : PySem.W.findIn K (.ref C_NoWay) "__getattr__" = some none)
    (ex_NoWay : PySem.W.subIn K (.ref C_NoWay) (.type "BaseException") = some true)
    (et_NoWay : PySem.W.typeIn K (.ref C_NoWay) = some (.type "type"))
    (ek_NoWay : PySem.W.keepIn K (.ref C_NoWay) = true)
    (ed_NoWay : PySem.W.hasDictIn K C_NoWay = true)
    (ef_NoWay : PySem.W.findIn K (.ref C_NoWay) "place" = some none)
    (ei_NoWay : PySem.W.typeIn K (.ref f_i_NoWay) = some (.type "function"))
    (xs_InvalidText_InvalidText : PySem.W.subIn K (.ref C_InvalidText) (.ref C_InvalidText) = some true)
    (xs_InvalidText_NoWay : PySem.W.subIn K (.ref C_InvalidText) (.ref C_NoWay) = some false)
    (xs_NoWay_InvalidText : PySem.W.subIn K (.ref C_NoWay) (.ref C_InvalidText) = some false)
    (xs_NoWay_NoWay : PySem.W.subIn K (.ref C_NoWay) (.ref C_NoWay) = some true)
    (pg_Site : PySem.W.plainGet K C_Site Str.empty = true)
    (hd_Site : PySem.W.hasDictIn K C_Site = true)
    (po_Site : PySem.W.plainOver K C_Site = true)
    (sa_Site : PySem.W.findIn K (.ref C_Site) "__setattr__" = some (some (.builtin "object.__setattr__")))
    (mk_Site : PySem.W.makesIn K C_Site = true)
    (mf_Site : PySem.W.isFn K (.ref f_init) = true)
    (mp_Site : PySem.W.keepIn K (.ref C_Site) = true)
    (na_Site_names : PySem.W.findIn K (.ref C_Site) "names" = some none)
    (na_Site_limits : PySem.W.findIn K (.ref C_Site) "limits" = some none)
    (na_Site_stays : PySem.W.findIn K (.ref C_Site) "stays" = some none)
    (na_Site_ways : PySem.W.findIn K (.ref C_Site) "ways" = some none)
    (sm_Site : PySem.W.isFn K (.ref f_strm) = true)
    (sq_Site : PySem.W.isFn K (.ref f_eqm) = true)
    (te_Site : PySem.W.typeIn K (.ref f_eqm) = some (.type "function"))
    (ne_Site : ∃ (nm q : Str) (N : Addr) (bs : List Value) (hd : Bool) (sn : List Str) (sub : List Value) (ab : Bool) (col : Option Bool) (dd : Option Addr) (k0 k1 k2 k3 k5 : Option Value) (nw : String), K.lookup C_Site = some (excClassObj nm q C_Site N bs [.type "object"] hd sn sub ab col dd k0 k1 k2 k3 k5 nw) ∧ PySem.W.nsOkIn K N = true ∧ PySem.W.nsIn K N "__eq__" = some (some (.ref f_eqm)) ∧ PySem.W.nsIn K N "__ne__" = some none)
    (ia_Site : PySem.W.findIn K (.ref C_Site) "__class__" = some (some (.builtin "object.__class__")))
    (ib_Site : PySem.W.specialIn K (.builtin "object.__class__") "__get__" = some (some (.builtin "getset_descriptor.__get__")))
    (ic_Site : PySem.W.takesIn K (.builtin "object.__class__") = some true)
    (id_Site : PySem.W.mroIn K C_Site (.type "object") = some true) :
    Txt K mg { a_i_InvalidText := f_i_InvalidText, d_i_InvalidText := PySem.W.fnOf "__init__" "InvalidText.__init__" (defArgs s_i_InvalidText) (defBody s_i_InvalidText) (defScope s_i_InvalidText) .none kV_i_InvalidText dc_i_InvalidText pm_i_InvalidText an_i_InvalidText cd_i_InvalidText ct_i_InvalidText, a_i_NoWay := f_i_NoWay, d_i_NoWay := PySem.W.fnOf "__init__" "NoWay.__init__" (defArgs s_i_NoWay) (defBody s_i_NoWay) (defScope s_i_NoWay) .none kV_i_NoWay dc_i_NoWay pm_i_NoWay an_i_NoWay cd_i_NoWay ct_i_NoWay, a_init := f_init, d_init := PySem.W.fnOf "__init__" "Site.__init__" (defArgs s_init) (defBody s_init) (defScope s_init) .none kV_init dc_init pm_init an_init cd_init ct_init, a_parse := f_parse, d_parse := PySem.W.fnOf "parse" "Site.parse" (defArgs s_parse) (defBody s_parse) (defScope s_parse) .none kV_parse dc_parse pm_parse an_parse cd_parse ct_parse, a_strm := f_strm, d_strm := PySem.W.fnOf "__str__" "Site.__str__" (defArgs s_strm) (defBody s_strm) (defScope s_strm) .none kV_strm dc_strm pm_strm an_strm cd_strm ct_strm, a_eqm := f_eqm, d_eqm := PySem.W.fnOf "__eq__" "Site.__eq__" (defArgs s_eqm) (defBody s_eqm) (defScope s_eqm) .none kV_eqm dc_eqm pm_eqm an_eqm cd_eqm ct_eqm, a_turned := f_turned, d_turned := PySem.W.fnOf "turned" "turned" (defArgs s_turned) (defBody s_turned) (defScope s_turned) .none kV_turned dc_turned pm_turned an_turned cd_turned ct_turned, a_with_limits := f_with_limits, d_with_limits := PySem.W.fnOf "with_limits" "with_limits" (defArgs s_with_limits) (defBody s_with_limits) (defScope s_with_limits) .none kV_with_limits dc_with_limits pm_with_limits an_with_limits cd_with_limits ct_with_limits, a_is_name := f_is_name, d_is_name := PySem.W.fnOf "is_name" "is_name" (defArgs s_is_name) (defBody s_is_name) (defScope s_is_name) .none kV_is_name dc_is_name pm_is_name an_is_name cd_is_name ct_is_name, a__places_of := f__places_of, d__places_of := PySem.W.fnOf "_places_of" "_places_of" (defArgs s__places_of) (defBody s__places_of) (defScope s__places_of) .none kV__places_of dc__places_of pm__places_of an__places_of cd__places_of ct__places_of, a__place_of := f__place_of, d__place_of := PySem.W.fnOf "_place_of" "_place_of" (defArgs s__place_of) (defBody s__place_of) (defScope s__place_of) .none kV__place_of dc__place_of pm__place_of an__place_of cd__place_of ct__place_of, a__are_ways := f__are_ways, d__are_ways := PySem.W.fnOf "_are_ways" "_are_ways" (defArgs s__are_ways) (defBody s__are_ways) (defScope s__are_ways) .none kV__are_ways dc__are_ways pm__are_ways an__are_ways cd__are_ways ct__are_ways, a__row_text := f__row_text, d__row_text := PySem.W.fnOf "_row_text" "_row_text" (defArgs s__row_text) (defBody s__row_text) (defScope s__row_text) .none kV__row_text dc__row_text pm__row_text an__row_text cd__row_text ct__row_text, a__ways_back := f__ways_back, d__ways_back := PySem.W.fnOf "_ways_back" "_ways_back" (defArgs s__ways_back) (defBody s__ways_back) (defScope s__ways_back) .none kV__ways_back dc__ways_back pm__ways_back an__ways_back cd__ways_back ct__ways_back, a__law_feed := f__law_feed, d__law_feed := PySem.W.fnOf "_law_feed" "_law_feed" (defArgs s__law_feed) (defBody s__law_feed) (defScope s__law_feed) .none kV__law_feed dc__law_feed pm__law_feed an__law_feed cd__law_feed ct__law_feed, a__law_take := f__law_take, d__law_take := PySem.W.fnOf "_law_take" "_law_take" (defArgs s__law_take) (defBody s__law_take) (defScope s__law_take) .none kV__law_take dc__law_take pm__law_take an__law_take cd__law_take ct__law_take, a__law_pick := f__law_pick, d__law_pick := PySem.W.fnOf "_law_pick" "_law_pick" (defArgs s__law_pick) (defBody s__law_pick) (defScope s__law_pick) .none kV__law_pick dc__law_pick pm__law_pick an__law_pick cd__law_pick ct__law_pick, a__law_word := f__law_word, d__law_word := PySem.W.fnOf "_law_word" "_law_word" (defArgs s__law_word) (defBody s__law_word) (defScope s__law_word) .none kV__law_word dc__law_word pm__law_word an__law_word cd__law_word ct__law_word, a__law_drawn := f__law_drawn, d__law_drawn := PySem.W.fnOf "_law_drawn" "_law_drawn" (defArgs s__law_drawn) (defBody s__law_drawn) (defScope s__law_drawn) .none kV__law_drawn dc__law_drawn pm__law_drawn an__law_drawn cd__law_drawn ct__law_drawn, a__law_row := f__law_row, d__law_row := PySem.W.fnOf "_law_row" "_law_row" (defArgs s__law_row) (defBody s__law_row) (defScope s__law_row) .none kV__law_row dc__law_row pm__law_row an__law_row cd__law_row ct__law_row, a__law_text := f__law_text, d__law_text := PySem.W.fnOf "_law_text" "_law_text" (defArgs s__law_text) (defBody s__law_text) (defScope s__law_text) .none kV__law_text dc__law_text pm__law_text an__law_text cd__law_text ct__law_text, a__law_turned_rows := f__law_turned_rows, d__law_turned_rows := PySem.W.fnOf "_law_turned_rows" "_law_turned_rows" (defArgs s__law_turned_rows) (defBody s__law_turned_rows) (defScope s__law_turned_rows) .none kV__law_turned_rows dc__law_turned_rows pm__law_turned_rows an__law_turned_rows cd__law_turned_rows ct__law_turned_rows, a__law_said := f__law_said, d__law_said := PySem.W.fnOf "_law_said" "_law_said" (defArgs s__law_said) (defBody s__law_said) (defScope s__law_said) .none kV__law_said dc__law_said pm__law_said an__law_said cd__law_said ct__law_said, a__law_left_out := f__law_left_out, d__law_left_out := PySem.W.fnOf "_law_left_out" "_law_left_out" (defArgs s__law_left_out) (defBody s__law_left_out) (defScope s__law_left_out) .none kV__law_left_out dc__law_left_out pm__law_left_out an__law_left_out cd__law_left_out ct__law_left_out, a__law_steps := f__law_steps, d__law_steps := PySem.W.fnOf "_law_steps" "_law_steps" (defArgs s__law_steps) (defBody s__law_steps) (defScope s__law_steps) .none kV__law_steps dc__law_steps pm__law_steps an__law_steps cd__law_steps ct__law_steps, a__law_places := f__law_places, d__law_places := PySem.W.fnOf "_law_places" "_law_places" (defArgs s__law_places) (defBody s__law_places) (defScope s__law_places) .none kV__law_places dc__law_places pm__law_places an__law_places cd__law_places ct__law_places, a_law := f_law, d_law := PySem.W.fnOf "law" "law" (defArgs s_law) (defBody s_law) (defScope s_law) .none kV_law dc_law pm_law an_law cd_law ct_law, k_LIMIT_WORDS := ka_LIMIT_WORDS, k_STEP_WORDS := ka_STEP_WORDS, c_WalkError := C_WalkError, c_InvalidText := C_InvalidText, c_NoWay := C_NoWay, c_Site := C_Site, p_parse := p_parse, mc_parse := .type "type" } :=
  { m_abs := PySem.W.mg_none_of X G z_abs,
    m_all := PySem.W.mg_none_of X G z_all,
    m_enumerate := PySem.W.mg_none_of X G z_enumerate,
    m_int := PySem.W.mg_none_of X G z_int,
    m_isinstance := PySem.W.mg_none_of X G z_isinstance,
    m_len := PySem.W.mg_none_of X G z_len,
    m_list := PySem.W.mg_none_of X G z_list,
    m_max := PySem.W.mg_none_of X G z_max,
    m_min := PySem.W.mg_none_of X G z_min,
    m_range := PySem.W.mg_none_of X G z_range,
    m_set := PySem.W.mg_none_of X G z_set,
    m_sorted := PySem.W.mg_none_of X G z_sorted,
    m_str := PySem.W.mg_none_of X G z_str,
    m_tuple := PySem.W.mg_none_of X G z_tuple,
    m_zip := PySem.W.mg_none_of X G z_zip,
    g_WalkError := PySem.W.mg_of X G gc_WalkError,
    g_InvalidText := PySem.W.mg_of X G gc_InvalidText,
    g_NoWay := PySem.W.mg_of X G gc_NoWay,
    g_Site := PySem.W.mg_of X G gc_Site,
    F_i_InvalidText := fun_mk (st := s_i_InvalidText) l_i_InvalidText c_i_InvalidText k_i_InvalidText,
    b_i_InvalidText := (fun_mk (st := s_i_InvalidText) l_i_InvalidText c_i_InvalidText k_i_InvalidText).binds (ps := ["self", "row"]) fun _ _ _ _ _ _ us hl => match us, hl with | [_, _], _ => rfl,
    F_i_NoWay := fun_mk (st := s_i_NoWay) l_i_NoWay c_i_NoWay k_i_NoWay,
    b_i_NoWay := (fun_mk (st := s_i_NoWay) l_i_NoWay c_i_NoWay k_i_NoWay).binds (ps := ["self", "place"]) fun _ _ _ _ _ _ us hl => match us, hl with | [_, _], _ => rfl,
    F_init := fun_mk (st := s_init) l_init c_init k_init,
    b_init := (fun_mk (st := s_init) l_init c_init k_init).binds (ps := ["self", "names", "limits", "stays", "ways"]) fun _ _ _ _ _ _ us hl => match us, hl with | [_, _, _, _, _], _ => rfl,
    F_parse := fun_mk (st := s_parse) l_parse c_parse k_parse,
    b_parse := (fun_mk (st := s_parse) l_parse c_parse k_parse).binds (ps := ["text"]) fun _ _ _ _ _ _ us hl => match us, hl with | [_], _ => rfl,
    F_strm := fun_mk (st := s_strm) l_strm c_strm k_strm,
    b_strm := (fun_mk (st := s_strm) l_strm c_strm k_strm).binds (ps := ["self"]) fun _ _ _ _ _ _ us hl => match us, hl with | [_], _ => rfl,
    F_eqm := fun_mk (st := s_eqm) l_eqm c_eqm k_eqm,
    b_eqm := (fun_mk (st := s_eqm) l_eqm c_eqm k_eqm).binds (ps := ["self", "other"]) fun _ _ _ _ _ _ us hl => match us, hl with | [_, _], _ => rfl,
    g_turned := PySem.W.mg_of X G a_turned,
    F_turned := fun_mk (st := s_turned) l_turned c_turned k_turned,
    b_turned := (fun_mk (st := s_turned) l_turned c_turned k_turned).binds (ps := ["site"]) fun _ _ _ _ _ _ us hl => match us, hl with | [_], _ => rfl,
    g_with_limits := PySem.W.mg_of X G a_with_limits,
    F_with_limits := fun_mk (st := s_with_limits) l_with_limits c_with_limits k_with_limits,
    b_with_limits := (fun_mk (st := s_with_limits) l_with_limits c_with_limits k_with_limits).binds (ps := ["site", "limits"]) fun _ _ _ _ _ _ us hl => match us, hl with | [_, _], _ => rfl,
    g_is_name := PySem.W.mg_of X G a_is_name,
    F_is_name := fun_mk (st := s_is_name) l_is_name c_is_name k_is_name,
    b_is_name := (fun_mk (st := s_is_name) l_is_name c_is_name k_is_name).binds (ps := ["word"]) fun _ _ _ _ _ _ us hl => match us, hl with | [_], _ => rfl,
    g__places_of := PySem.W.mg_of X G a__places_of,
    F__places_of := fun_mk (st := s__places_of) l__places_of c__places_of k__places_of,
    b__places_of := (fun_mk (st := s__places_of) l__places_of c__places_of k__places_of).binds (ps := ["rows"]) fun _ _ _ _ _ _ us hl => match us, hl with | [_], _ => rfl,
    g__place_of := PySem.W.mg_of X G a__place_of,
    F__place_of := fun_mk (st := s__place_of) l__place_of c__place_of k__place_of,
    b__place_of := (fun_mk (st := s__place_of) l__place_of c__place_of k__place_of).binds (ps := ["words", "firsts"]) fun _ _ _ _ _ _ us hl => match us, hl with | [_, _], _ => rfl,
    g__are_ways := PySem.W.mg_of X G a__are_ways,
    F__are_ways := fun_mk (st := s__are_ways) l__are_ways c__are_ways k__are_ways,
    b__are_ways := (fun_mk (st := s__are_ways) l__are_ways c__are_ways k__are_ways).binds (ps := ["name", "words", "firsts"]) fun _ _ _ _ _ _ us hl => match us, hl with | [_, _, _], _ => rfl,
    g__row_text := PySem.W.mg_of X G a__row_text,
    F__row_text := fun_mk (st := s__row_text) l__row_text c__row_text k__row_text,
    b__row_text := (fun_mk (st := s__row_text) l__row_text c__row_text k__row_text).binds (ps := ["site", "number"]) fun _ _ _ _ _ _ us hl => match us, hl with | [_, _], _ => rfl,
    g__ways_back := PySem.W.mg_of X G a__ways_back,
    F__ways_back := fun_mk (st := s__ways_back) l__ways_back c__ways_back k__ways_back,
    b__ways_back := (fun_mk (st := s__ways_back) l__ways_back c__ways_back k__ways_back).binds (ps := ["site", "name"]) fun _ _ _ _ _ _ us hl => match us, hl with | [_, _], _ => rfl,
    g__law_feed := PySem.W.mg_of X G a__law_feed,
    F__law_feed := fun_mk (st := s__law_feed) l__law_feed c__law_feed k__law_feed,
    b__law_feed := (fun_mk (st := s__law_feed) l__law_feed c__law_feed k__law_feed).binds (ps := ["script", "k"]) fun _ _ _ _ _ _ us hl => match us, hl with | [_, _], _ => rfl,
    g__law_take := PySem.W.mg_of X G a__law_take,
    F__law_take := fun_mk (st := s__law_take) l__law_take c__law_take k__law_take,
    b__law_take := (fun_mk (st := s__law_take) l__law_take c__law_take k__law_take).binds (ps := ["feed", "many"]) fun _ _ _ _ _ _ us hl => match us, hl with | [_, _], _ => rfl,
    g__law_pick := PySem.W.mg_of X G a__law_pick,
    F__law_pick := fun_mk (st := s__law_pick) l__law_pick c__law_pick k__law_pick,
    b__law_pick := (fun_mk (st := s__law_pick) l__law_pick c__law_pick k__law_pick).binds (ps := ["feed", "some"]) fun _ _ _ _ _ _ us hl => match us, hl with | [_, _], _ => rfl,
    g__law_word := PySem.W.mg_of X G a__law_word,
    F__law_word := fun_mk (st := s__law_word) l__law_word c__law_word k__law_word,
    b__law_word := (fun_mk (st := s__law_word) l__law_word c__law_word k__law_word).binds (ps := ["feed"]) fun _ _ _ _ _ _ us hl => match us, hl with | [_], _ => rfl,
    g__law_drawn := PySem.W.mg_of X G a__law_drawn,
    F__law_drawn := fun_mk (st := s__law_drawn) l__law_drawn c__law_drawn k__law_drawn,
    b__law_drawn := (fun_mk (st := s__law_drawn) l__law_drawn c__law_drawn k__law_drawn).binds (ps := ["feed"]) fun _ _ _ _ _ _ us hl => match us, hl with | [_], _ => rfl,
    g__law_row := PySem.W.mg_of X G a__law_row,
    F__law_row := fun_mk (st := s__law_row) l__law_row c__law_row k__law_row,
    b__law_row := (fun_mk (st := s__law_row) l__law_row c__law_row k__law_row).binds (ps := ["told"]) fun _ _ _ _ _ _ us hl => match us, hl with | [_], _ => rfl,
    g__law_text := PySem.W.mg_of X G a__law_text,
    F__law_text := fun_mk (st := s__law_text) l__law_text c__law_text k__law_text,
    b__law_text := (fun_mk (st := s__law_text) l__law_text c__law_text k__law_text).binds (ps := ["rows"]) fun _ _ _ _ _ _ us hl => match us, hl with | [_], _ => rfl,
    g__law_turned_rows := PySem.W.mg_of X G a__law_turned_rows,
    F__law_turned_rows := fun_mk (st := s__law_turned_rows) l__law_turned_rows c__law_turned_rows k__law_turned_rows,
    b__law_turned_rows := (fun_mk (st := s__law_turned_rows) l__law_turned_rows c__law_turned_rows k__law_turned_rows).binds (ps := ["rows"]) fun _ _ _ _ _ _ us hl => match us, hl with | [_], _ => rfl,
    g__law_said := PySem.W.mg_of X G a__law_said,
    F__law_said := fun_mk (st := s__law_said) l__law_said c__law_said k__law_said,
    b__law_said := (fun_mk (st := s__law_said) l__law_said c__law_said k__law_said).binds (ps := ["text"]) fun _ _ _ _ _ _ us hl => match us, hl with | [_], _ => rfl,
    g__law_left_out := PySem.W.mg_of X G a__law_left_out,
    F__law_left_out := fun_mk (st := s__law_left_out) l__law_left_out c__law_left_out k__law_left_out,
    b__law_left_out := (fun_mk (st := s__law_left_out) l__law_left_out c__law_left_out k__law_left_out).binds (ps := ["rows", "at"]) fun _ _ _ _ _ _ us hl => match us, hl with | [_, _], _ => rfl,
    g__law_steps := PySem.W.mg_of X G a__law_steps,
    F__law_steps := fun_mk (st := s__law_steps) l__law_steps c__law_steps k__law_steps,
    b__law_steps := (fun_mk (st := s__law_steps) l__law_steps c__law_steps k__law_steps).binds (ps := ["site"]) fun _ _ _ _ _ _ us hl => match us, hl with | [_], _ => rfl,
    g__law_places := PySem.W.mg_of X G a__law_places,
    F__law_places := fun_mk (st := s__law_places) l__law_places c__law_places k__law_places,
    b__law_places := (fun_mk (st := s__law_places) l__law_places c__law_places k__law_places).binds (ps := ["site"]) fun _ _ _ _ _ _ us hl => match us, hl with | [_], _ => rfl,
    g_law := PySem.W.mg_of X G a_law,
    F_law := fun_mk (st := s_law) l_law c_law k_law,
    b_law := (fun_mk (st := s_law) l_law c_law k_law).binds (ps := ["script"]) fun _ _ _ _ _ _ us hl => match us, hl with | [_], _ => rfl,
    g_MOST_PLACES := ⟨_, PySem.W.mg_of X G n_MOST_PLACES⟩,
    g_LONGEST_NAME := ⟨_, PySem.W.mg_of X G n_LONGEST_NAME⟩,
    g_LIMIT_WORDS := PySem.W.mg_of X G n_LIMIT_WORDS,
    kt_LIMIT_WORDS := fun H => .inr ⟨_, _, _, kl_LIMIT_WORDS, rfl, rfl, (by show 10 ≤ sizeLine; decide), (.cons ⟨_, rfl⟩ (.cons ⟨_, rfl⟩ (.cons ⟨_, rfl⟩ (.cons ⟨_, rfl⟩ (.cons ⟨_, rfl⟩ (.cons ⟨_, rfl⟩ (.cons ⟨_, rfl⟩ (.cons ⟨_, rfl⟩ (.cons ⟨_, rfl⟩ (.cons ⟨_, rfl⟩ .nil))))))))))⟩,
    g_STEP_WORDS := PySem.W.mg_of X G n_STEP_WORDS,
    kt_STEP_WORDS := fun H => .inr ⟨_, _, _, kl_STEP_WORDS, rfl, rfl, (by show 3 ≤ sizeLine; decide), (.cons ⟨_, rfl⟩ (.cons ⟨_, rfl⟩ (.cons ⟨_, rfl⟩ .nil)))⟩,
    x_InvalidText := ⟨ec_InvalidText, es_InvalidText, ex_InvalidText, et_InvalidText, ek_InvalidText⟩,
    xi_InvalidText := a_i_InvalidText,
    xt_InvalidText := ei_InvalidText,
    xf_InvalidText := ⟨eg_InvalidText, eh_InvalidText, ex_InvalidText, ed_InvalidText⟩,
    xn_InvalidText := ef_InvalidText,
    x_NoWay := ⟨ec_NoWay, es_NoWay, ex_NoWay, et_NoWay, ek_NoWay⟩,
    xi_NoWay := a_i_NoWay,
    xt_NoWay := ei_NoWay,
    xf_NoWay := ⟨eg_NoWay, eh_NoWay, ex_NoWay, ed_NoWay⟩,
    xn_NoWay := ef_NoWay,
    xe_InvalidText_InvalidText := PySem.W.exm_ref ex_InvalidText ed_InvalidText et_InvalidText xs_InvalidText_InvalidText,
    xe_InvalidText_NoWay := PySem.W.exm_ref ex_NoWay ed_NoWay et_NoWay xs_InvalidText_NoWay,
    xe_NoWay_InvalidText := PySem.W.exm_ref ex_InvalidText ed_InvalidText et_InvalidText xs_NoWay_InvalidText,
    xe_NoWay_NoWay := PySem.W.exm_ref ex_NoWay ed_NoWay et_NoWay xs_NoWay_NoWay,
    cl_Site := ⟨pg_Site, hd_Site, po_Site, sa_Site⟩,
    mk_Site := ⟨mk_Site, a_init, mf_Site, mp_Site⟩,
    na_Site_names := na_Site_names,
    na_Site_limits := na_Site_limits,
    na_Site_stays := na_Site_stays,
    na_Site_ways := na_Site_ways,
    sm_Site := ⟨a_strm, sm_Site⟩,
    eq_Site := ⟨a_eqm, sq_Site, te_Site, ne_Site⟩,
    is_Site := ⟨ia_Site, ib_Site, ic_Site, id_Site⟩,
    st_parse := ⟨sr_parse, sg_parse, sf_parse, ⟨_, a_parse⟩, k_parse⟩ }
end Lw

namespace Lw
open PySem PySem.Spec PyProof.Rows L2 Evl Z
theorem law_ok {P : Program} {w : World} {K : PySem.W.Frag} {mg : Str → Option Value} {base : Heap} {A : Ad} (T : Txt K mg A) : FnG P w K mg base (L2.CX P w) 7 A.a_law A.d_law ["script"] (spP K PLaw) := by
  have G__law_feed := ok__law_feed (P := P) (w := w) (base := base) T
  have G__law_take := ok__law_take (P := P) (w := w) (base := base) T
  have G__law_pick := ok__law_pick (P := P) (w := w) (base := base) T G__law_take
  have G__law_word := ok__law_word (P := P) (w := w) (base := base) T G__law_take G__law_pick
  have G__law_drawn := ok__law_drawn (P := P) (w := w) (base := base) T G__law_pick G__law_take G__law_word
  have G_is_name := ok_is_name (P := P) (w := w) (base := base) T
  have G__are_ways := ok__are_ways (P := P) (w := w) (base := base) T G_is_name
  have G__place_of := ok__place_of (P := P) (w := w) (base := base) T G_is_name G__are_ways
  have G_InvalidText := ok_i_InvalidText (P := P) (w := w) (base := base) T
  have G__places_of := ok__places_of (P := P) (w := w) (base := base) T G__place_of G_InvalidText
  have G_Site := ok_init (P := P) (w := w) (base := base) T
  have G_parse := ok_parse (P := P) (w := w) (base := base) T G__places_of G_Site G_InvalidText
  have G__law_row := ok__law_row (P := P) (w := w) (base := base) T
  have G__law_text := ok__law_text (P := P) (w := w) (base := base) T G__law_row
  have G_eqm := ok_eqm (P := P) (w := w) (base := base) T
  have G__law_said := ok__law_said (P := P) (w := w) (base := base) T G_parse
  have G__law_left_out := ok__law_left_out (P := P) (w := w) (base := base) T
  have G__law_places := ok__law_places (P := P) (w := w) (base := base) T
  have G__law_turned_rows := ok__law_turned_rows (P := P) (w := w) (base := base) T
  have G__ways_back := ok__ways_back (P := P) (w := w) (base := base) T
  have G_NoWay := ok_i_NoWay (P := P) (w := w) (base := base) T
  have G_turned := ok_turned (P := P) (w := w) (base := base) T G_Site G__ways_back G_NoWay
  have G_with_limits := ok_with_limits (P := P) (w := w) (base := base) T G_Site
  have G__law_steps := ok__law_steps (P := P) (w := w) (base := base) T
  have G__row_text := ok__row_text (P := P) (w := w) (base := base) T
  have G_strm := ok_strm (P := P) (w := w) (base := base) T G__row_text
  have G_law := ok_law (P := P) (w := w) (base := base) T G__law_feed G__law_drawn G_parse G__law_take G__law_text G_eqm G__law_said G__law_left_out G__law_places G__law_turned_rows G_turned G_with_limits G__law_steps G_strm
  exact G_law
open PySem.W in
theorem all_mk {l : PySem.W.OpenLaw} {w : World} {fa : Addr} {K : PySem.W.Frag} {h : Heap} {mg : Str → Option Value} (X : K.In h) (G : h.Ns mainGlobals mg) (hfa : mg "law" = some (.ref fa))
    {C_WalkError C_InvalidText C_NoWay C_Site f_i_InvalidText f_i_NoWay f_init f_parse p_parse f_strm f_eqm f_turned f_with_limits f_is_name f__places_of f__place_of f__are_ways f__row_text f__ways_back f__law_feed f__law_take f__law_pick f__law_word f__law_drawn f__law_row f__law_text f__law_turned_rows f__law_said f__law_left_out f__law_steps f__law_places f_law ka_LIMIT_WORDS ka_STEP_WORDS : Addr} {od_i_InvalidText an_i_InvalidText od_i_NoWay an_i_NoWay od_init an_init od_parse an_parse od_strm an_strm od_eqm an_eqm od_turned an_turned od_with_limits an_with_limits od_is_name an_is_name od__places_of an__places_of od__place_of an__place_of od__are_ways an__are_ways od__row_text an__row_text od__ways_back an__ways_back od__law_feed an__law_feed od__law_take an__law_take od__law_pick an__law_pick od__law_word an__law_word od__law_drawn an__law_drawn od__law_row an__law_row od__law_text an__law_text od__law_turned_rows an__law_turned_rows od__law_said an__law_said od__law_left_out an__law_left_out od__law_steps an__law_steps od__law_places an__law_places od_law an_law kd_LIMIT_WORDS kd_STEP_WORDS : Option Addr} {sl_i_InvalidText sl_i_NoWay sl_init sl_parse sl_strm sl_eqm sl_turned sl_with_limits sl_is_name sl__places_of sl__place_of sl__are_ways sl__row_text sl__ways_back sl__law_feed sl__law_take sl__law_pick sl__law_word sl__law_drawn sl__law_row sl__law_text sl__law_turned_rows sl__law_said sl__law_left_out sl__law_steps sl__law_places sl_law ks_LIMIT_WORDS ks_STEP_WORDS : Array (Option Value)} {oc_i_InvalidText kV_i_InvalidText dc_i_InvalidText pm_i_InvalidText cd_i_InvalidText ct_i_InvalidText oc_i_NoWay kV_i_NoWay dc_i_NoWay pm_i_NoWay cd_i_NoWay ct_i_NoWay oc_init kV_init dc_init pm_init cd_init ct_init oc_parse kV_parse dc_parse pm_parse cd_parse ct_parse oc_strm kV_strm dc_strm pm_strm cd_strm ct_strm oc_eqm kV_eqm dc_eqm pm_eqm cd_eqm ct_eqm oc_turned kV_turned dc_turned pm_turned cd_turned ct_turned oc_with_limits kV_with_limits dc_with_limits pm_with_limits cd_with_limits ct_with_limits oc_is_name kV_is_name dc_is_name pm_is_name cd_is_name ct_is_name oc__places_of kV__places_of dc__places_of pm__places_of cd__places_of ct__places_of oc__place_of kV__place_of dc__place_of pm__place_of cd__place_of ct__place_of oc__are_ways kV__are_ways dc__are_ways pm__are_ways cd__are_ways ct__are_ways oc__row_text kV__row_text dc__row_text pm__row_text cd__row_text ct__row_text oc__ways_back kV__ways_back dc__ways_back pm__ways_back cd__ways_back ct__ways_back oc__law_feed kV__law_feed dc__law_feed pm__law_feed cd__law_feed ct__law_feed oc__law_take kV__law_take dc__law_take pm__law_take cd__law_take ct__law_take oc__law_pick kV__law_pick dc__law_pick pm__law_pick cd__law_pick ct__law_pick oc__law_word kV__law_word dc__law_word pm__law_word cd__law_word ct__law_word oc__law_drawn kV__law_drawn dc__law_drawn pm__law_drawn cd__law_drawn ct__law_drawn oc__law_row kV__law_row dc__law_row pm__law_row cd__law_row ct__law_row oc__law_text kV__law_text dc__law_text pm__law_text cd__law_text ct__law_text oc__law_turned_rows kV__law_turned_rows dc__law_turned_rows pm__law_turned_rows cd__law_turned_rows ct__law_turned_rows oc__law_said kV__law_said dc__law_said pm__law_said cd__law_said ct__law_said oc__law_left_out kV__law_left_out dc__law_left_out pm__law_left_out cd__law_left_out ct__law_left_out oc__law_steps kV__law_steps dc__law_steps pm__law_steps cd__law_steps ct__law_steps oc__law_places kV__law_places dc__law_places pm__law_places cd__law_places ct__law_places oc_law kV_law dc_law pm_law cd_law ct_law : Value} {rs_parse : List Value} {t_MOST_PLACES t_LONGEST_NAME t0_LIMIT_WORDS t1_LIMIT_WORDS t2_LIMIT_WORDS t3_LIMIT_WORDS t4_LIMIT_WORDS t5_LIMIT_WORDS t6_LIMIT_WORDS t7_LIMIT_WORDS t8_LIMIT_WORDS t9_LIMIT_WORDS t0_STEP_WORDS t1_STEP_WORDS t2_STEP_WORDS : Tok} {kn_LIMIT_WORDS kn_STEP_WORDS : Nat}
    (z_abs : PySem.W.nsIn K mainGlobals "abs" = some none)
    (z_all : PySem.W.nsIn K mainGlobals "all" = some none)
    (z_enumerate : PySem.W.nsIn K mainGlobals "enumerate" = some none)
    (z_int : PySem.W.nsIn K mainGlobals "int" = some none)
    (z_isinstance : PySem.W.nsIn K mainGlobals "isinstance" = some none)
    (z_len : PySem.W.nsIn K mainGlobals "len" = some none)
    (z_list : PySem.W.nsIn K mainGlobals "list" = some none)
    (z_max : PySem.W.nsIn K mainGlobals "max" = some none)
    (z_min : PySem.W.nsIn K mainGlobals "min" = some none)
    (z_range : PySem.W.nsIn K mainGlobals "range" = some none)
    (z_set : PySem.W.nsIn K mainGlobals "set" = some none)
    (z_sorted : PySem.W.nsIn K mainGlobals "sorted" = some none)
    (z_str : PySem.W.nsIn K mainGlobals "str" = some none)
    (z_tuple : PySem.W.nsIn K mainGlobals "tuple" = some none)
    (z_zip : PySem.W.nsIn K mainGlobals "zip" = some none)
    (gc_WalkError : PySem.W.nsIn K mainGlobals "WalkError" = some (some (.ref C_WalkError)))
    (gc_InvalidText : PySem.W.nsIn K mainGlobals "InvalidText" = some (some (.ref C_InvalidText)))
    (gc_NoWay : PySem.W.nsIn K mainGlobals "NoWay" = some (some (.ref C_NoWay)))
    (gc_Site : PySem.W.nsIn K mainGlobals "Site" = some (some (.ref C_Site)))
    (a_i_InvalidText : PySem.W.findIn K (.ref C_InvalidText) "__init__" = some (some (.ref f_i_InvalidText)))
    (l_i_InvalidText : K.lookup f_i_InvalidText = some ⟨oc_i_InvalidText, od_i_InvalidText, .func (PySem.W.fnOf "__init__" "InvalidText.__init__" (defArgs s_i_InvalidText) (defBody s_i_InvalidText) (defScope s_i_InvalidText) .none kV_i_InvalidText dc_i_InvalidText pm_i_InvalidText an_i_InvalidText cd_i_InvalidText ct_i_InvalidText), sl_i_InvalidText⟩)
    (c_i_InvalidText : PySem.W.codeIn K cd_i_InvalidText "InvalidText.__init__" = true)
    (k_i_InvalidText : PySem.W.keepIn K (.ref f_i_InvalidText) = true)
    (a_i_NoWay : PySem.W.findIn K (.ref C_NoWay) "__init__" = some (some (.ref f_i_NoWay)))
    (l_i_NoWay : K.lookup f_i_NoWay = some ⟨oc_i_NoWay, od_i_NoWay, .func (PySem.W.fnOf "__init__" "NoWay.__init__" (defArgs s_i_NoWay) (defBody s_i_NoWay) (defScope s_i_NoWay) .none kV_i_NoWay dc_i_NoWay pm_i_NoWay an_i_NoWay cd_i_NoWay ct_i_NoWay), sl_i_NoWay⟩)
    (c_i_NoWay : PySem.W.codeIn K cd_i_NoWay "NoWay.__init__" = true)
    (k_i_NoWay : PySem.W.keepIn K (.ref f_i_NoWay) = true)
    (a_init : PySem.W.findIn K (.ref C_Site) "__init__" = some (some (.ref f_init)))
    (l_init : K.lookup f_init = some ⟨oc_init, od_init, .func (PySem.W.fnOf "__init__" "Site.__init__" (defArgs s_init) (defBody s_init) (defScope s_init) .none kV_init dc_init pm_init an_init cd_init ct_init), sl_init⟩)
    (c_init : PySem.W.codeIn K cd_init "Site.__init__" = true)
    (k_init : PySem.W.keepIn K (.ref f_init) = true)
    (sf_parse : PySem.W.findCls K (.ref C_Site) (.type "type") "parse" = some (.get (.builtin "staticmethod.__get__") (.ref p_parse) .none (.ref C_Site)))
    (a_parse : PySem.W.recIn K p_parse "staticmethod" = some (.ref f_parse :: rs_parse))
    (sr_parse : PySem.W.readsIn K C_Site (.type "type") = true)
    (sg_parse : PySem.W.specialIn K (.ref C_Site) "__getattribute__" = some (some (.builtin "type.__getattribute__")))
    (l_parse : K.lookup f_parse = some ⟨oc_parse, od_parse, .func (PySem.W.fnOf "parse" "Site.parse" (defArgs s_parse) (defBody s_parse) (defScope s_parse) .none kV_parse dc_parse pm_parse an_parse cd_parse ct_parse), sl_parse⟩)
    (c_parse : PySem.W.codeIn K cd_parse "Site.parse" = true)
    (k_parse : PySem.W.keepIn K (.ref f_parse) = true)
    (a_strm : PySem.W.findIn K (.ref C_Site) "__str__" = some (some (.ref f_strm)))
    (l_strm : K.lookup f_strm = some ⟨oc_strm, od_strm, .func (PySem.W.fnOf "__str__" "Site.__str__" (defArgs s_strm) (defBody s_strm) (defScope s_strm) .none kV_strm dc_strm pm_strm an_strm cd_strm ct_strm), sl_strm⟩)
    (c_strm : PySem.W.codeIn K cd_strm "Site.__str__" = true)
    (k_strm : PySem.W.keepIn K (.ref f_strm) = true)
    (a_eqm : PySem.W.findIn K (.ref C_Site) "__eq__" = some (some (.ref f_eqm)))
    (l_eqm : K.lookup f_eqm = some ⟨oc_eqm, od_eqm, .func (PySem.W.fnOf "__eq__" "Site.__eq__" (defArgs s_eqm) (defBody s_eqm) (defScope s_eqm) .none kV_eqm dc_eqm pm_eqm an_eqm cd_eqm ct_eqm), sl_eqm⟩)
    (c_eqm : PySem.W.codeIn K cd_eqm "Site.__eq__" = true)
    (k_eqm : PySem.W.keepIn K (.ref f_eqm) = true)
    (a_turned : PySem.W.nsIn K mainGlobals "turned" = some (some (.ref f_turned)))
    (l_turned : K.lookup f_turned = some ⟨oc_turned, od_turned, .func (PySem.W.fnOf "turned" "turned" (defArgs s_turned) (defBody s_turned) (defScope s_turned) .none kV_turned dc_turned pm_turned an_turned cd_turned ct_turned), sl_turned⟩)
    (c_turned : PySem.W.codeIn K cd_turned "turned" = true)
    (k_turned : PySem.W.keepIn K (.ref f_turned) = true)
    (a_with_limits : PySem.W.nsIn K mainGlobals "with_limits" = some (some (.ref f_with_limits)))
    (l_with_limits : K.lookup f_with_limits = some ⟨oc_with_limits, od_with_limits, .func (PySem.W.fnOf "with_limits" "with_limits" (defArgs s_with_limits) (defBody s_with_limits) (defScope s_with_limits) .none kV_with_limits dc_with_limits pm_with_limits an_with_limits cd_with_limits ct_with_limits), sl_with_limits⟩)
    (c_with_limits : PySem.W.codeIn K cd_with_limits "with_limits" = true)
    (k_with_limits : PySem.W.keepIn K (.ref f_with_limits) = true)
    (a_is_name : PySem.W.nsIn K mainGlobals "is_name" = some (some (.ref f_is_name)))
    (l_is_name : K.lookup f_is_name = some ⟨oc_is_name, od_is_name, .func (PySem.W.fnOf "is_name" "is_name" (defArgs s_is_name) (defBody s_is_name) (defScope s_is_name) .none kV_is_name dc_is_name pm_is_name an_is_name cd_is_name ct_is_name), sl_is_name⟩)
    (c_is_name : PySem.W.codeIn K cd_is_name "is_name" = true)
    (k_is_name : PySem.W.keepIn K (.ref f_is_name) = true)
    (a__places_of : PySem.W.nsIn K mainGlobals "_places_of" = some (some (.ref f__places_of)))
    (l__places_of : K.lookup f__places_of = some ⟨oc__places_of, od__places_of, .func (PySem.W.fnOf "_places_of" "_places_of" (defArgs s__places_of) (defBody s__places_of) (defScope s__places_of) .none kV__places_of dc__places_of pm__places_of an__places_of cd__places_of ct__places_of), sl__places_of⟩)
    (c__places_of : PySem.W.codeIn K cd__places_of "_places_of" = true)
    (k__places_of : PySem.W.keepIn K (.ref f__places_of) = true)
    (a__place_of : PySem.W.nsIn K mainGlobals "_place_of" = some (some (.ref f__place_of)))
    (l__place_of : K.lookup f__place_of = some ⟨oc__place_of, od__place_of, .func (PySem.W.fnOf "_place_of" "_place_of" (defArgs s__place_of) (defBody s__place_of) (defScope s__place_of) .none kV__place_of dc__place_of pm__place_of an__place_of cd__place_of ct__place_of), sl__place_of⟩)
    (c__place_of : PySem.W.codeIn K cd__place_of "_place_of" = true)
    (k__place_of : PySem.W.keepIn K (.ref f__place_of) = true)
    (a__are_ways : PySem.W.nsIn K mainGlobals "_are_ways" = some (some (.ref f__are_ways)))
    (l__are_ways : K.lookup f__are_ways = some ⟨oc__are_ways, od__are_ways, .func (PySem.W.fnOf "_are_ways" "_are_ways" (defArgs s__are_ways) (defBody s__are_ways) (defScope s__are_ways) .none kV__are_ways dc__are_ways pm__are_ways an__are_ways cd__are_ways ct__are_ways), sl__are_ways⟩)
    (c__are_ways : PySem.W.codeIn K cd__are_ways "_are_ways" = true)
    (k__are_ways : PySem.W.keepIn K (.ref f__are_ways) = true)
    (a__row_text : PySem.W.nsIn K mainGlobals "_row_text" = some (some (.ref f__row_text)))
    (l__row_text : K.lookup f__row_text = some ⟨oc__row_text, od__row_text, .func (PySem.W.fnOf "_row_text" "_row_text" (defArgs s__row_text) (defBody s__row_text) (defScope s__row_text) .none kV__row_text dc__row_text pm__row_text an__row_text cd__row_text ct__row_text), sl__row_text⟩)
    (c__row_text : PySem.W.codeIn K cd__row_text "_row_text" = true)
    (k__row_text : PySem.W.keepIn K (.ref f__row_text) = true)
    (a__ways_back : PySem.W.nsIn K mainGlobals "_ways_back" = some (some (.ref f__ways_back)))
    (l__ways_back : K.lookup f__ways_back = some ⟨oc__ways_back, od__ways_back, .func (PySem.W.fnOf "_ways_back" "_ways_back" (defArgs s__ways_back) (defBody s__ways_back) (defScope s__ways_back) .none kV__ways_back dc__ways_back pm__ways_back an__ways_back cd__ways_back ct__ways_back), sl__ways_back⟩)
    (c__ways_back : PySem.W.codeIn K cd__ways_back "_ways_back" = true)
    (k__ways_back : PySem.W.keepIn K (.ref f__ways_back) = true)
    (a__law_feed : PySem.W.nsIn K mainGlobals "_law_feed" = some (some (.ref f__law_feed)))
    (l__law_feed : K.lookup f__law_feed = some ⟨oc__law_feed, od__law_feed, .func (PySem.W.fnOf "_law_feed" "_law_feed" (defArgs s__law_feed) (defBody s__law_feed) (defScope s__law_feed) .none kV__law_feed dc__law_feed pm__law_feed an__law_feed cd__law_feed ct__law_feed), sl__law_feed⟩)
    (c__law_feed : PySem.W.codeIn K cd__law_feed "_law_feed" = true)
    (k__law_feed : PySem.W.keepIn K (.ref f__law_feed) = true)
    (a__law_take : PySem.W.nsIn K mainGlobals "_law_take" = some (some (.ref f__law_take)))
    (l__law_take : K.lookup f__law_take = some ⟨oc__law_take, od__law_take, .func (PySem.W.fnOf "_law_take" "_law_take" (defArgs s__law_take) (defBody s__law_take) (defScope s__law_take) .none kV__law_take dc__law_take pm__law_take an__law_take cd__law_take ct__law_take), sl__law_take⟩)
    (c__law_take : PySem.W.codeIn K cd__law_take "_law_take" = true)
    (k__law_take : PySem.W.keepIn K (.ref f__law_take) = true)
    (a__law_pick : PySem.W.nsIn K mainGlobals "_law_pick" = some (some (.ref f__law_pick)))
    (l__law_pick : K.lookup f__law_pick = some ⟨oc__law_pick, od__law_pick, .func (PySem.W.fnOf "_law_pick" "_law_pick" (defArgs s__law_pick) (defBody s__law_pick) (defScope s__law_pick) .none kV__law_pick dc__law_pick pm__law_pick an__law_pick cd__law_pick ct__law_pick), sl__law_pick⟩)
    (c__law_pick : PySem.W.codeIn K cd__law_pick "_law_pick" = true)
    (k__law_pick : PySem.W.keepIn K (.ref f__law_pick) = true)
    (a__law_word : PySem.W.nsIn K mainGlobals "_law_word" = some (some (.ref f__law_word)))
    (l__law_word : K.lookup f__law_word = some ⟨oc__law_word, od__law_word, .func (PySem.W.fnOf "_law_word" "_law_word" (defArgs s__law_word) (defBody s__law_word) (defScope s__law_word) .none kV__law_word dc__law_word pm__law_word an__law_word cd__law_word ct__law_word), sl__law_word⟩)
    (c__law_word : PySem.W.codeIn K cd__law_word "_law_word" = true)
    (k__law_word : PySem.W.keepIn K (.ref f__law_word) = true)
    (a__law_drawn : PySem.W.nsIn K mainGlobals "_law_drawn" = some (some (.ref f__law_drawn)))
    (l__law_drawn : K.lookup f__law_drawn = some ⟨oc__law_drawn, od__law_drawn, .func (PySem.W.fnOf "_law_drawn" "_law_drawn" (defArgs s__law_drawn) (defBody s__law_drawn) (defScope s__law_drawn) .none kV__law_drawn dc__law_drawn pm__law_drawn an__law_drawn cd__law_drawn ct__law_drawn), sl__law_drawn⟩)
    (c__law_drawn : PySem.W.codeIn K cd__law_drawn "_law_drawn" = true)
    (k__law_drawn : PySem.W.keepIn K (.ref f__law_drawn) = true)
    (a__law_row : PySem.W.nsIn K mainGlobals "_law_row" = some (some (.ref f__law_row)))
    (l__law_row : K.lookup f__law_row = some ⟨oc__law_row, od__law_row, .func (PySem.W.fnOf "_law_row" "_law_row" (defArgs s__law_row) (defBody s__law_row) (defScope s__law_row) .none kV__law_row dc__law_row pm__law_row an__law_row cd__law_row ct__law_row), sl__law_row⟩)
    (c__law_row : PySem.W.codeIn K cd__law_row "_law_row" = true)
    (k__law_row : PySem.W.keepIn K (.ref f__law_row) = true)
    (a__law_text : PySem.W.nsIn K mainGlobals "_law_text" = some (some (.ref f__law_text)))
    (l__law_text : K.lookup f__law_text = some ⟨oc__law_text, od__law_text, .func (PySem.W.fnOf "_law_text" "_law_text" (defArgs s__law_text) (defBody s__law_text) (defScope s__law_text) .none kV__law_text dc__law_text pm__law_text an__law_text cd__law_text ct__law_text), sl__law_text⟩)
    (c__law_text : PySem.W.codeIn K cd__law_text "_law_text" = true)
    (k__law_text : PySem.W.keepIn K (.ref f__law_text) = true)
    (a__law_turned_rows : PySem.W.nsIn K mainGlobals "_law_turned_rows" = some (some (.ref f__law_turned_rows)))
    (l__law_turned_rows : K.lookup f__law_turned_rows = some ⟨oc__law_turned_rows, od__law_turned_rows, .func (PySem.W.fnOf "_law_turned_rows" "_law_turned_rows" (defArgs s__law_turned_rows) (defBody s__law_turned_rows) (defScope s__law_turned_rows) .none kV__law_turned_rows dc__law_turned_rows pm__law_turned_rows an__law_turned_rows cd__law_turned_rows ct__law_turned_rows), sl__law_turned_rows⟩)
    (c__law_turned_rows : PySem.W.codeIn K cd__law_turned_rows "_law_turned_rows" = true)
    (k__law_turned_rows : PySem.W.keepIn K (.ref f__law_turned_rows) = true)
    (a__law_said : PySem.W.nsIn K mainGlobals "_law_said" = some (some (.ref f__law_said)))
    (l__law_said : K.lookup f__law_said = some ⟨oc__law_said, od__law_said, .func (PySem.W.fnOf "_law_said" "_law_said" (defArgs s__law_said) (defBody s__law_said) (defScope s__law_said) .none kV__law_said dc__law_said pm__law_said an__law_said cd__law_said ct__law_said), sl__law_said⟩)
    (c__law_said : PySem.W.codeIn K cd__law_said "_law_said" = true)
    (k__law_said : PySem.W.keepIn K (.ref f__law_said) = true)
    (a__law_left_out : PySem.W.nsIn K mainGlobals "_law_left_out" = some (some (.ref f__law_left_out)))
    (l__law_left_out : K.lookup f__law_left_out = some ⟨oc__law_left_out, od__law_left_out, .func (PySem.W.fnOf "_law_left_out" "_law_left_out" (defArgs s__law_left_out) (defBody s__law_left_out) (defScope s__law_left_out) .none kV__law_left_out dc__law_left_out pm__law_left_out an__law_left_out cd__law_left_out ct__law_left_out), sl__law_left_out⟩)
    (c__law_left_out : PySem.W.codeIn K cd__law_left_out "_law_left_out" = true)
    (k__law_left_out : PySem.W.keepIn K (.ref f__law_left_out) = true)
    (a__law_steps : PySem.W.nsIn K mainGlobals "_law_steps" = some (some (.ref f__law_steps)))
    (l__law_steps : K.lookup f__law_steps = some ⟨oc__law_steps, od__law_steps, .func (PySem.W.fnOf "_law_steps" "_law_steps" (defArgs s__law_steps) (defBody s__law_steps) (defScope s__law_steps) .none kV__law_steps dc__law_steps pm__law_steps an__law_steps cd__law_steps ct__law_steps), sl__law_steps⟩)
    (c__law_steps : PySem.W.codeIn K cd__law_steps "_law_steps" = true)
    (k__law_steps : PySem.W.keepIn K (.ref f__law_steps) = true)
    (a__law_places : PySem.W.nsIn K mainGlobals "_law_places" = some (some (.ref f__law_places)))
    (l__law_places : K.lookup f__law_places = some ⟨oc__law_places, od__law_places, .func (PySem.W.fnOf "_law_places" "_law_places" (defArgs s__law_places) (defBody s__law_places) (defScope s__law_places) .none kV__law_places dc__law_places pm__law_places an__law_places cd__law_places ct__law_places), sl__law_places⟩)
    (c__law_places : PySem.W.codeIn K cd__law_places "_law_places" = true)
    (k__law_places : PySem.W.keepIn K (.ref f__law_places) = true)
    (a_law : PySem.W.nsIn K mainGlobals "law" = some (some (.ref f_law)))
    (l_law : K.lookup f_law = some ⟨oc_law, od_law, .func (PySem.W.fnOf "law" "law" (defArgs s_law) (defBody s_law) (defScope s_law) .none kV_law dc_law pm_law an_law cd_law ct_law), sl_law⟩)
    (c_law : PySem.W.codeIn K cd_law "law" = true)
    (k_law : PySem.W.keepIn K (.ref f_law) = true)
    (n_MOST_PLACES : PySem.W.nsIn K mainGlobals "MOST_PLACES" = some (some (.int 6 t_MOST_PLACES)))
    (n_LONGEST_NAME : PySem.W.nsIn K mainGlobals "LONGEST_NAME" = some (some (.int 8 t_LONGEST_NAME)))
    (n_LIMIT_WORDS : PySem.W.nsIn K mainGlobals "LIMIT_WORDS" = some (some (.ref ka_LIMIT_WORDS)))
    (kl_LIMIT_WORDS : K.lookup ka_LIMIT_WORDS = some ⟨.type "tuple", kd_LIMIT_WORDS, .seq #[.str "0" t0_LIMIT_WORDS, .str "1" t1_LIMIT_WORDS, .str "2" t2_LIMIT_WORDS, .str "3" t3_LIMIT_WORDS, .str "4" t4_LIMIT_WORDS, .str "5" t5_LIMIT_WORDS, .str "6" t6_LIMIT_WORDS, .str "7" t7_LIMIT_WORDS, .str "8" t8_LIMIT_WORDS, .str "9" t9_LIMIT_WORDS] kn_LIMIT_WORDS, ks_LIMIT_WORDS⟩)
    (n_STEP_WORDS : PySem.W.nsIn K mainGlobals "STEP_WORDS" = some (some (.ref ka_STEP_WORDS)))
    (kl_STEP_WORDS : K.lookup ka_STEP_WORDS = some ⟨.type "tuple", kd_STEP_WORDS, .seq #[.str "1" t0_STEP_WORDS, .str "2" t1_STEP_WORDS, .str "3" t2_STEP_WORDS] kn_STEP_WORDS, ks_STEP_WORDS⟩)
    (ec_InvalidText : ∃ nm q N bs bm sn sub ab col dd k0 k1 k2 k3 k5, K.lookup C_InvalidText = some (excClassObj nm q C_InvalidText N bs bm true sn sub ab col dd k0 k1 k2 k3 k5 "ValueError.__new__") ∧ PySem.HandSPX.refsVE bm = true)
    (es_InvalidText : PySem.W.findIn K (.ref C_InvalidText) "__setattr__" = some (some (.builtin "object.__setattr__")))
    (eg_InvalidText : PySem.W.findIn K (.ref C_InvalidText) "__getattribute__" = some (some (.builtin "BaseException.__getattribute__")))
    (eh_InvalidText : PySem.W.findIn K (.ref C_InvalidText) "__getattr__" = some none)
    (ex_InvalidText : PySem.W.subIn K (.ref C_InvalidText) (.type "BaseException") = some true)
    (et_InvalidText : PySem.W.typeIn K (.ref C_InvalidText) = some (.type "type"))
    (ek_InvalidText : PySem.W.keepIn K (.ref C_InvalidText) = true)
    (ed_InvalidText : PySem.W.hasDictIn K C_InvalidText = true)
    (ef_InvalidText : PySem.W.findIn K (.ref C_InvalidText) "row" = some none)
    (ei_InvalidText : PySem.W.typeIn K (.ref f_i_InvalidText) = some (.type "function"))
    (ec_NoWay : ∃ nm q N bs bm sn sub ab col dd k0 k1 k2 k3 k5, K.lookup C_NoWay = some (excClassObj nm q C_NoWay N bs bm true sn sub ab col dd k0 k1 k2 k3 k5 "ValueError.__new__") ∧ PySem.HandSPX.refsVE bm = true)
    (es_NoWay : PySem.W.findIn K (.ref C_NoWay) "__setattr__" = some (some (.builtin "object.__setattr__")))
    (eg_NoWay : PySem.W.findIn K (.ref C_NoWay) "__getattribute__" = some (some (.builtin "BaseException.__getattribute__")))
    (eh_NoWay : PySem.W.findIn K (.ref C_NoWay) "__getattr__" = some none)
    (ex_NoWay : PySem.W.subIn K (.ref C_NoWay) (.type "BaseException") = some true)
    (et_NoWay : PySem.W.typeIn K (.ref C_NoWay) = some (.type "type"))
    (ek_NoWay : PySem.W.keepIn K (.ref C_NoWay) = true)
    (ed_NoWay : PySem.W.hasDictIn K C_NoWay = true)
    (ef_NoWay : PySem.W.findIn K (.ref C_NoWay) "place" = some none)
    (ei_NoWay : PySem.W.typeIn K (.ref f_i_NoWay) = some (.type "function"))
    (xs_InvalidText_InvalidText : PySem.W.subIn K (.ref C_InvalidText) (.ref C_InvalidText) = some true)
    (xs_InvalidText_NoWay : PySem.W.subIn K (.ref C_InvalidText) (.ref C_NoWay) = some false)
    (xs_NoWay_InvalidText : PySem.W.subIn K (.ref C_NoWay) (.ref C_InvalidText) = some false)
    (xs_NoWay_NoWay : PySem.W.subIn K (.ref C_NoWay) (.ref C_NoWay) = some true)
    (pg_Site : PySem.W.plainGet K C_Site Str.empty = true)
    (hd_Site : PySem.W.hasDictIn K C_Site = true)
    (po_Site : PySem.W.plainOver K C_Site = true)
    (sa_Site : PySem.W.findIn K (.ref C_Site) "__setattr__" = some (some (.builtin "object.__setattr__")))
    (mk_Site : PySem.W.makesIn K C_Site = true)
    (mf_Site : PySem.W.isFn K (.ref f_init) = true)
    (mp_Site : PySem.W.keepIn K (.ref C_Site) = true)
    (na_Site_names : PySem.W.findIn K (.ref C_Site) "names" = some none)
    (na_Site_limits : PySem.W.findIn K (.ref C_Site) "limits" = some none)
    (na_Site_stays : PySem.W.findIn K (.ref C_Site) "stays" = some none)
    (na_Site_ways : PySem.W.findIn K (.ref C_Site) "ways" = some none)
    (sm_Site : PySem.W.isFn K (.ref f_strm) = true)
    (sq_Site : PySem.W.isFn K (.ref f_eqm) = true)
    (te_Site : PySem.W.typeIn K (.ref f_eqm) = some (.type "function"))
    (ne_Site : ∃ (nm q : Str) (N : Addr) (bs : List Value) (hd : Bool) (sn : List Str) (sub : List Value) (ab : Bool) (col : Option Bool) (dd : Option Addr) (k0 k1 k2 k3 k5 : Option Value) (nw : String), K.lookup C_Site = some (excClassObj nm q C_Site N bs [.type "object"] hd sn sub ab col dd k0 k1 k2 k3 k5 nw) ∧ PySem.W.nsOkIn K N = true ∧ PySem.W.nsIn K N "__eq__" = some (some (.ref f_eqm)) ∧ PySem.W.nsIn K N "__ne__" = some none)
    (ia_Site : PySem.W.findIn K (.ref C_Site) "__class__" = some (some (.builtin "object.__class__")))
    (ib_Site : PySem.W.specialIn K (.builtin "object.__class__") "__get__" = some (some (.builtin "getset_descriptor.__get__")))
    (ic_Site : PySem.W.takesIn K (.builtin "object.__class__") = some true)
    (id_Site : PySem.W.mroIn K C_Site (.type "object") = some true) :
    ∃ fd : FuncData, (∀ (s : Shared) (v : Value), BindsTo s fd ⟨[v], []⟩ [("script", v)]) ∧ ∀ base : Heap, K.In base → base.Ns mainGlobals mg → FnG l.prog w K mg base (L2.CX l.prog w) 7 fa fd ["script"] (spP K PLaw) := by
  have e := hfa.symm.trans (PySem.W.mg_of X G a_law)
  cases e
  have T := txt_mk X G z_abs z_all z_enumerate z_int z_isinstance z_len z_list z_max z_min z_range z_set z_sorted z_str z_tuple z_zip gc_WalkError gc_InvalidText gc_NoWay gc_Site a_i_InvalidText l_i_InvalidText c_i_InvalidText k_i_InvalidText a_i_NoWay l_i_NoWay c_i_NoWay k_i_NoWay a_init l_init c_init k_init sf_parse a_parse sr_parse sg_parse l_parse c_parse k_parse a_strm l_strm c_strm k_strm a_eqm l_eqm c_eqm k_eqm a_turned l_turned c_turned k_turned a_with_limits l_with_limits c_with_limits k_with_limits a_is_name l_is_name c_is_name k_is_name a__places_of l__places_of c__places_of k__places_of a__place_of l__place_of c__place_of k__place_of a__are_ways l__are_ways c__are_ways k__are_ways a__row_text l__row_text c__row_text k__row_text a__ways_back l__ways_back c__ways_back k__ways_back a__law_feed l__law_feed c__law_feed k__law_feed a__law_take l__law_take c__law_take k__law_take a__law_pick l__law_pick c__law_pick k__law_pick a__law_word l__law_word c__law_word k__law_word a__law_drawn l__law_drawn c__law_drawn k__law_drawn a__law_row l__law_row c__law_row k__law_row a__law_text l__law_text c__law_text k__law_text a__law_turned_rows l__law_turned_rows c__law_turned_rows k__law_turned_rows a__law_said l__law_said c__law_said k__law_said a__law_left_out l__law_left_out c__law_left_out k__law_left_out a__law_steps l__law_steps c__law_steps k__law_steps a__law_places l__law_places c__law_places k__law_places a_law l_law c_law k_law n_MOST_PLACES n_LONGEST_NAME n_LIMIT_WORDS kl_LIMIT_WORDS n_STEP_WORDS kl_STEP_WORDS ec_InvalidText es_InvalidText eg_InvalidText eh_InvalidText ex_InvalidText et_InvalidText ek_InvalidText ed_InvalidText ef_InvalidText ei_InvalidText ec_NoWay es_NoWay eg_NoWay eh_NoWay ex_NoWay et_NoWay ek_NoWay ed_NoWay ef_NoWay ei_NoWay xs_InvalidText_InvalidText xs_InvalidText_NoWay xs_NoWay_InvalidText xs_NoWay_NoWay pg_Site hd_Site po_Site sa_Site mk_Site mf_Site mp_Site na_Site_names na_Site_limits na_Site_stays na_Site_ways sm_Site sq_Site te_Site ne_Site ia_Site ib_Site ic_Site id_Site
  exact ⟨_, fun s v => .of_eq rfl, fun base _ _ => law_ok T⟩
end Lw

open PySem PySem.W PyProof.Rows
set_option maxRecDepth 100000 in
set_option maxHeartbeats 0 in
theorem PySem.Challenge.cw_duewalk_k07_whole_sites_holds : PySem.Challenge.rw_duewalk_k07_whole_sites.Holds := by
  w_on; o_law; k_head; (case hw => w_witness2)
  k_fill
  refine Z.walk_top (l := PySem.Challenge.rw_duewalk_k07_whole_sites) (n := 63) (k := 7) (x := "script") (CX := fun w => L2.CX PySem.Challenge.rw_duewalk_k07_whole_sites.prog w) (P := Lw.PLaw) rfl (by decide) rfl ⟨rfl, by decide, by decide⟩ (fun w h Y => PySem.W.kIn_of Y) ?F (fun ns h => ⟨ns, rfl, h, rfl⟩) ?X
  case F =>
    intro w mg fa h KX G hmg
    refine' Lw.all_mk KX G hmg ?z_abs ?z_all ?z_enumerate ?z_int ?z_isinstance ?z_len ?z_list ?z_max ?z_min ?z_range ?z_set ?z_sorted ?z_str ?z_tuple ?z_zip ?gc_WalkError ?gc_InvalidText ?gc_NoWay ?gc_Site ?a_i_InvalidText ?l_i_InvalidText ?c_i_InvalidText ?k_i_InvalidText ?a_i_NoWay ?l_i_NoWay ?c_i_NoWay ?k_i_NoWay ?a_init ?l_init ?c_init ?k_init ?sf_parse ?a_parse ?sr_parse ?sg_parse ?l_parse ?c_parse ?k_parse ?a_strm ?l_strm ?c_strm ?k_strm ?a_eqm ?l_eqm ?c_eqm ?k_eqm ?a_turned ?l_turned ?c_turned ?k_turned ?a_with_limits ?l_with_limits ?c_with_limits ?k_with_limits ?a_is_name ?l_is_name ?c_is_name ?k_is_name ?a__places_of ?l__places_of ?c__places_of ?k__places_of ?a__place_of ?l__place_of ?c__place_of ?k__place_of ?a__are_ways ?l__are_ways ?c__are_ways ?k__are_ways ?a__row_text ?l__row_text ?c__row_text ?k__row_text ?a__ways_back ?l__ways_back ?c__ways_back ?k__ways_back ?a__law_feed ?l__law_feed ?c__law_feed ?k__law_feed ?a__law_take ?l__law_take ?c__law_take ?k__law_take ?a__law_pick ?l__law_pick ?c__law_pick ?k__law_pick ?a__law_word ?l__law_word ?c__law_word ?k__law_word ?a__law_drawn ?l__law_drawn ?c__law_drawn ?k__law_drawn ?a__law_row ?l__law_row ?c__law_row ?k__law_row ?a__law_text ?l__law_text ?c__law_text ?k__law_text ?a__law_turned_rows ?l__law_turned_rows ?c__law_turned_rows ?k__law_turned_rows ?a__law_said ?l__law_said ?c__law_said ?k__law_said ?a__law_left_out ?l__law_left_out ?c__law_left_out ?k__law_left_out ?a__law_steps ?l__law_steps ?c__law_steps ?k__law_steps ?a__law_places ?l__law_places ?c__law_places ?k__law_places ?a_law ?l_law ?c_law ?k_law ?n_MOST_PLACES ?n_LONGEST_NAME ?n_LIMIT_WORDS ?kl_LIMIT_WORDS ?n_STEP_WORDS ?kl_STEP_WORDS ?ec_InvalidText ?es_InvalidText ?eg_InvalidText ?eh_InvalidText ?ex_InvalidText ?et_InvalidText ?ek_InvalidText ?ed_InvalidText ?ef_InvalidText ?ei_InvalidText ?ec_NoWay ?es_NoWay ?eg_NoWay ?eh_NoWay ?ex_NoWay ?et_NoWay ?ek_NoWay ?ed_NoWay ?ef_NoWay ?ei_NoWay ?xs_InvalidText_InvalidText ?xs_InvalidText_NoWay ?xs_NoWay_InvalidText ?xs_NoWay_NoWay ?pg_Site ?hd_Site ?po_Site ?sa_Site ?mk_Site ?mf_Site ?mp_Site ?na_Site_names ?na_Site_limits ?na_Site_stays ?na_Site_ways ?sm_Site ?sq_Site ?te_Site ?ne_Site ?ia_Site ?ib_Site ?ic_Site ?id_Site
    (case z_abs => k_is)
    (case z_all => k_is)
    (case z_enumerate => k_is)
    (case z_int => k_is)
    (case z_isinstance => k_is)
    (case z_len => k_is)
    (case z_list => k_is)
    (case z_max => k_is)
    (case z_min => k_is)
    (case z_range => k_is)
    (case z_set => k_is)
    (case z_sorted => k_is)
    (case z_str => k_is)
    (case z_tuple => k_is)
    (case z_zip => k_is)
    (case gc_WalkError => k_is)
    (case gc_InvalidText => k_is)
    (case gc_NoWay => k_is)
    (case gc_Site => k_is)
    (case a_i_InvalidText => k_is)
    (case l_i_InvalidText => k_is)
    (case c_i_InvalidText => k_is)
    (case k_i_InvalidText => k_is)
    (case a_i_NoWay => k_is)
    (case l_i_NoWay => k_is)
    (case c_i_NoWay => k_is)
    (case k_i_NoWay => k_is)
    (case a_init => k_is)
    (case l_init => k_is)
    (case c_init => k_is)
    (case k_init => k_is)
    (case sf_parse => k_is)
    (case a_parse => k_is)
    (case sr_parse => k_is)
    (case sg_parse => k_is)
    (case l_parse => k_is)
    (case c_parse => k_is)
    (case k_parse => k_is)
    (case a_strm => k_is)
    (case l_strm => k_is)
    (case c_strm => k_is)
    (case k_strm => k_is)
    (case a_eqm => k_is)
    (case l_eqm => k_is)
    (case c_eqm => k_is)
    (case k_eqm => k_is)
    (case a_turned => k_is)
    (case l_turned => k_is)
    (case c_turned => k_is)
    (case k_turned => k_is)
    (case a_with_limits => k_is)
    (case l_with_limits => k_is)
    (case c_with_limits => k_is)
    (case k_with_limits => k_is)
    (case a_is_name => k_is)
    (case l_is_name => k_is)
    (case c_is_name => k_is)
    (case k_is_name => k_is)
    (case a__places_of => k_is)
    (case l__places_of => k_is)
    (case c__places_of => k_is)
    (case k__places_of => k_is)
    (case a__place_of => k_is)
    (case l__place_of => k_is)
    (case c__place_of => k_is)
    (case k__place_of => k_is)
    (case a__are_ways => k_is)
    (case l__are_ways => k_is)
    (case c__are_ways => k_is)
    (case k__are_ways => k_is)
    (case a__row_text => k_is)
    (case l__row_text => k_is)
    (case c__row_text => k_is)
    (case k__row_text => k_is)
    (case a__ways_back => k_is)
    (case l__ways_back => k_is)
    (case c__ways_back => k_is)
    (case k__ways_back => k_is)
    (case a__law_feed => k_is)
    (case l__law_feed => k_is)
    (case c__law_feed => k_is)
    (case k__law_feed => k_is)
    (case a__law_take => k_is)
    (case l__law_take => k_is)
    (case c__law_take => k_is)
    (case k__law_take => k_is)
    (case a__law_pick => k_is)
    (case l__law_pick => k_is)
    (case c__law_pick => k_is)
    (case k__law_pick => k_is)
    (case a__law_word => k_is)
    (case l__law_word => k_is)
    (case c__law_word => k_is)
    (case k__law_word => k_is)
    (case a__law_drawn => k_is)
    (case l__law_drawn => k_is)
    (case c__law_drawn => k_is)
    (case k__law_drawn => k_is)
    (case a__law_row => k_is)
    (case l__law_row => k_is)
    (case c__law_row => k_is)
    (case k__law_row => k_is)
    (case a__law_text => k_is)
    (case l__law_text => k_is)
    (case c__law_text => k_is)
    (case k__law_text => k_is)
    (case a__law_turned_rows => k_is)
    (case l__law_turned_rows => k_is)
    (case c__law_turned_rows => k_is)
    (case k__law_turned_rows => k_is)
    (case a__law_said => k_is)
    (case l__law_said => k_is)
    (case c__law_said => k_is)
    (case k__law_said => k_is)
    (case a__law_left_out => k_is)
    (case l__law_left_out => k_is)
    (case c__law_left_out => k_is)
    (case k__law_left_out => k_is)
    (case a__law_steps => k_is)
    (case l__law_steps => k_is)
    (case c__law_steps => k_is)
    (case k__law_steps => k_is)
    (case a__law_places => k_is)
    (case l__law_places => k_is)
    (case c__law_places => k_is)
    (case k__law_places => k_is)
    (case a_law => k_is)
    (case l_law => k_is)
    (case c_law => k_is)
    (case k_law => k_is)
    (case n_MOST_PLACES => k_is)
    (case n_LONGEST_NAME => k_is)
    (case n_LIMIT_WORDS => k_is)
    (case kl_LIMIT_WORDS => k_is)
    (case n_STEP_WORDS => k_is)
    (case kl_STEP_WORDS => k_is)
    (case ec_InvalidText => exact ⟨_, _, _, _, _, _, _, _, _, _, _, _, _, _, _, by k_is, by decide +kernel⟩)
    (case es_InvalidText => k_is)
    (case eg_InvalidText => k_is)
    (case eh_InvalidText => k_is)
    (case ex_InvalidText => k_is)
    (case et_InvalidText => k_is)
    (case ek_InvalidText => k_is)
    (case ed_InvalidText => k_is)
    (case ef_InvalidText => k_is)
    (case ei_InvalidText => k_is)
    (case ec_NoWay => exact ⟨_, _, _, _, _, _, _, _, _, _, _, _, _, _, _, by k_is, by decide +kernel⟩)
    (case es_NoWay => k_is)
    (case eg_NoWay => k_is)
    (case eh_NoWay => k_is)
    (case ex_NoWay => k_is)
    (case et_NoWay => k_is)
    (case ek_NoWay => k_is)
    (case ed_NoWay => k_is)
    (case ef_NoWay => k_is)
    (case ei_NoWay => k_is)
    (case xs_InvalidText_InvalidText => first | rfl | k_is)
    (case xs_InvalidText_NoWay => first | rfl | k_is)
    (case xs_NoWay_InvalidText => first | rfl | k_is)
    (case xs_NoWay_NoWay => first | rfl | k_is)
    (case pg_Site => k_is)
    (case hd_Site => k_is)
    (case po_Site => k_is)
    (case sa_Site => k_is)
    (case mk_Site => k_is)
    (case mf_Site => k_is)
    (case mp_Site => k_is)
    (case na_Site_names => k_is)
    (case na_Site_limits => k_is)
    (case na_Site_stays => k_is)
    (case na_Site_ways => k_is)
    (case sm_Site => k_is)
    (case sq_Site => k_is)
    (case te_Site => k_is)
    (case ne_Site => exact ⟨_, _, _, _, _, _, _, _, _, _, _, _, _, _, _, _, by k_is, by first | kernel_rfl | with_unfolding_all rfl, by k_is, by k_is⟩)
    (case ia_Site => k_is)
    (case ib_Site => k_is)
    (case ic_Site => k_is)
    (case id_Site => k_is)
  case X =>
    intro w H s e s' h
    obtain ⟨_, _, _, _, _, _, _, _, _, _, _, _, z⟩ := h
    exact z.elim

