import PyProof.Rows.All
import HandS.ForMost
import HandS.ForExc
import HandS.Evl
import HandS.IsInst
import HandS.DictComp
import HandS.Wide
import HandS.Walk
import HandS.Zip
import HandS.Conv
import HandS.Flow
import HandS.CallSlots
import HandS.TupAny
import KE.SortData
import KE.KCallOwn
import OpenK.KDescr
import HandS.ClsMeth
import HandS.ExcInit
import HandS.ExcField
import HandS.ExcOwn
import HandS.Style
import PyProof.ListStr
import HandS.WordsExc
import PySem.Challenge.RW_duewalk_k06_known_sites
import HandS.ExcIs
set_option Elab.async false
set_option linter.all false
set_option maxRecDepth 100000
set_option autoImplicit false
set_option maxHeartbeats 2000000
namespace Z
open PySem PySem.Spec PyProof.Rows L2 Evl

inductive D where
  | non | bl (b : Bool) | int (i : Int) | str (s : Str)
  | tup (ds : List D) | lst (ds : List D) | dic (ks : List Str) (ds : List D) | obj (C : Addr) (ks : List Str) (ds : List D) | scr (ns : List Int)

def kvZ (ks : List Str) (vs : List V) : List (Key × V) := (ks.map (Sum.inr : Str → Key)).zip vs

mutual
def Dn (K : PySem.W.Frag) (F : Hp) : D → V → Prop
  | .non, v => v = .non
  | .bl b, v => v = .bl b
  | .int i, v => v = .int i
  | .str s, v => v = .str s
  | .tup ds, v => ∃ a xs, v = .ref a ∧ SqT K F a xs ∧ DnL K F ds xs
  | .lst ds, v => ∃ a xs, v = .ref a ∧ F a = some (.lst xs) ∧ DnL K F ds xs
  | .dic ks ds, v => ∃ a xs, v = .ref a ∧ F a = some (.dK (kvZ ks xs)) ∧ ks.length = ds.length ∧ DnL K F ds xs
  | .obj C ks ds, v => ∃ a dx xs, v = .ref a ∧ F a = some (.ins C dx (ks.zip xs)) ∧ F dx = some (.own a) ∧ ks.length = ds.length ∧ DnL K F ds xs
  | .scr ns, v => ∃ a, v = .ref a ∧ SqL K F a (ns.map V.int)
def DnL (K : PySem.W.Frag) (F : Hp) : List D → List V → Prop
  | [], vs => vs = []
  | d :: ds, vs => ∃ v r, vs = v :: r ∧ Dn K F d v ∧ DnL K F ds r
end

variable {K : PySem.W.Frag}

mutual
theorem Dn.mono {F F' : Hp} (e : Ex F F') : ∀ {d : D} {v : V}, Dn K F d v → Dn K F' d v
  | .non, _, h => h
  | .bl _, _, h => h
  | .int _, _, h => h
  | .str _, _, h => h
  | .tup _, _, h => by
    unfold Dn at h ⊢
    obtain ⟨a, xs, e1, h1, h2⟩ := h
    exact ⟨a, xs, e1, ex_t e h1, DnL.mono e h2⟩
  | .lst _, _, h => by
    unfold Dn at h ⊢
    obtain ⟨a, xs, e1, h1, h2⟩ := h
    exact ⟨a, xs, e1, e _ _ h1, DnL.mono e h2⟩
  | .dic _ _, _, h => by
    unfold Dn at h ⊢
    obtain ⟨a, xs, e1, h1, h2, h3⟩ := h
    exact ⟨a, xs, e1, e _ _ h1, h2, DnL.mono e h3⟩
  | .obj _ _ _, _, h => by
    unfold Dn at h ⊢
    obtain ⟨a, dx, xs, e1, h1, h2, h3, h4⟩ := h
    exact ⟨a, dx, xs, e1, e _ _ h1, e _ _ h2, h3, DnL.mono e h4⟩
  | .scr _, _, h => by
    unfold Dn at h ⊢
    obtain ⟨a, e1, h1⟩ := h
    exact ⟨a, e1, ex_l e h1⟩
theorem DnL.mono {F F' : Hp} (e : Ex F F') : ∀ {ds : List D} {vs : List V}, DnL K F ds vs → DnL K F' ds vs
  | [], _, h => h
  | _ :: _, _, h => by
    unfold DnL at h ⊢
    obtain ⟨v, r, e1, h1, h2⟩ := h
    exact ⟨v, r, e1, Dn.mono e h1, DnL.mono e h2⟩
end

section
variable {F F' F2 H H' H2 H0 F0 : Hp} {d : D} {ds : List D} {v : V} {vs : List V}
theorem dn_non : Dn K F .non v ↔ v = .non := by unfold Dn; exact Iff.rfl
theorem dn_bl {b : Bool} : Dn K F (.bl b) v ↔ v = .bl b := by unfold Dn; exact Iff.rfl
theorem dn_int {i : Int} : Dn K F (.int i) v ↔ v = .int i := by unfold Dn; exact Iff.rfl
theorem dn_str {s : Str} : Dn K F (.str s) v ↔ v = .str s := by unfold Dn; exact Iff.rfl
theorem dn_tup : Dn K F (.tup ds) v ↔ ∃ a xs, v = .ref a ∧ SqT K F a xs ∧ DnL K F ds xs := by unfold Dn; exact Iff.rfl
theorem dn_lst : Dn K F (.lst ds) v ↔ ∃ a xs, v = .ref a ∧ F a = some (.lst xs) ∧ DnL K F ds xs := by unfold Dn; exact Iff.rfl
theorem dn_dic {ks : List Str} : Dn K F (.dic ks ds) v ↔ ∃ a xs, v = .ref a ∧ F a = some (.dK (kvZ ks xs)) ∧ ks.length = ds.length ∧ DnL K F ds xs := by unfold Dn; exact Iff.rfl
theorem dn_obj {C : Addr} {ks : List Str} : Dn K F (.obj C ks ds) v ↔ ∃ a dx xs, v = .ref a ∧ F a = some (.ins C dx (ks.zip xs)) ∧ F dx = some (.own a) ∧ ks.length = ds.length ∧ DnL K F ds xs := by unfold Dn; exact Iff.rfl
theorem dn_scr {ns : List Int} : Dn K F (.scr ns) v ↔ ∃ a, v = .ref a ∧ SqL K F a (ns.map V.int) := by unfold Dn; exact Iff.rfl
theorem dnl_nil : DnL K F [] vs ↔ vs = [] := by unfold DnL; exact Iff.rfl
theorem dnl_cons : DnL K F (d :: ds) vs ↔ ∃ v r, vs = v :: r ∧ Dn K F d v ∧ DnL K F ds r := by rw [DnL]
theorem DnL.cons (h : Dn K F d v) (t : DnL K F ds vs) : DnL K F (d :: ds) (v :: vs) := dnl_cons.mpr ⟨v, vs, rfl, h, t⟩
theorem DnL.nil : DnL K F [] [] := dnl_nil.mpr rfl
theorem DnL.length : ∀ {ds : List D} {vs : List V}, DnL K F ds vs → ds.length = vs.length
  | [], _, h => by rw [dnl_nil.mp h] <;> rfl
  | _ :: _, _, h => by
    obtain ⟨v, r, e, _, t⟩ := dnl_cons.mp h
    rw [e, List.length_cons, List.length_cons, t.length]
theorem DnL.get : ∀ {ds : List D} {vs : List V} {i : Nat} {d : D}, DnL K F ds vs → ds[i]? = some d → ∃ v, vs[i]? = some v ∧ Dn K F d v
  | [], _, _, _, _, h => by simp at h
  | _ :: _, _, 0, d, t, h => by
    obtain ⟨v, r, e, h1, _⟩ := dnl_cons.mp t
    simp at h
    subst h
    exact ⟨v, by rw [e] <;> rfl, h1⟩
  | _ :: ds, _, i + 1, d, t, h => by
    obtain ⟨v, r, e, _, t'⟩ := dnl_cons.mp t
    obtain ⟨u, h1, h2⟩ := DnL.get (i := i) t' (by simpa using h)
    exact ⟨u, by rw [e]; simpa using h1, h2⟩
theorem DnL.get' : ∀ {ds : List D} {vs : List V} {i : Nat} {v : V}, DnL K F ds vs → vs[i]? = some v → ∃ d, ds[i]? = some d ∧ Dn K F d v := by
  intro ds vs i v t h
  have hl := t.length
  have hi : i < vs.length := (List.getElem?_eq_some_iff.mp h).1
  obtain ⟨u, h1, h2⟩ := t.get (i := i) (d := ds[i]'(by omega)) (List.getElem?_eq_getElem _)
  rw [h] at h1
  cases h1
  exact ⟨_, List.getElem?_eq_getElem _, h2⟩
theorem DnL.append : ∀ {ds es : List D} {vs us : List V}, DnL K F ds vs → DnL K F es us → DnL K F (ds ++ es) (vs ++ us)
  | [], _, _, _, h, t => by rw [dnl_nil.mp h]; exact t
  | _ :: _, _, _, _, h, t => by
    obtain ⟨v, r, e, h1, h2⟩ := dnl_cons.mp h
    rw [e]
    exact .cons h1 (h2.append t)
theorem DnL.snoc (h : DnL K F ds vs) (t : Dn K F d v) : DnL K F (ds ++ [d]) (vs ++ [v]) := h.append (.cons t .nil)
theorem DnL.set : ∀ {ds : List D} {vs : List V} {i : Nat}, DnL K F ds vs → Dn K F d v → DnL K F (ds.set i d) (vs.set i v)
  | [], _, _, h, _ => by rw [dnl_nil.mp h]; exact .nil
  | _ :: _, _, 0, h, t => by
    obtain ⟨u, r, e, _, h2⟩ := dnl_cons.mp h
    rw [e]
    exact .cons t h2
  | _ :: _, _, i + 1, h, t => by
    obtain ⟨u, r, e, h1, h2⟩ := dnl_cons.mp h
    rw [e]
    exact .cons h1 (h2.set t)
theorem DnL.take : ∀ {ds : List D} {vs : List V} (i : Nat), DnL K F ds vs → DnL K F (ds.take i) (vs.take i)
  | [], _, _, h => by rw [dnl_nil.mp h, List.take_nil, List.take_nil]; exact .nil
  | _ :: _, _, 0, h => .nil
  | _ :: _, _, i + 1, h => by
    obtain ⟨u, r, e, h1, h2⟩ := dnl_cons.mp h
    rw [e]
    exact .cons h1 (h2.take i)
theorem DnL.drop : ∀ {ds : List D} {vs : List V} (i : Nat), DnL K F ds vs → DnL K F (ds.drop i) (vs.drop i)
  | [], _, _, h => by rw [dnl_nil.mp h, List.drop_nil, List.drop_nil]; exact .nil
  | _ :: _, _, 0, h => h
  | _ :: _, _, i + 1, h => by
    obtain ⟨u, r, e, h1, h2⟩ := dnl_cons.mp h
    rw [e]
    exact h2.drop i
theorem DnL.reverse : ∀ {ds : List D} {vs : List V}, DnL K F ds vs → DnL K F ds.reverse vs.reverse
  | [], _, h => by rw [dnl_nil.mp h]; exact .nil
  | _ :: _, _, h => by
    obtain ⟨u, r, e, h1, h2⟩ := dnl_cons.mp h
    rw [e, List.reverse_cons, List.reverse_cons]
    exact h2.reverse.snoc h1
theorem DnL.strs : ∀ {zs : List Str}, DnL K F (zs.map D.str) (zs.map V.str)
  | [] => .nil
  | _ :: _ => .cons (dn_str.mpr rfl) DnL.strs
theorem DnL.strs' : ∀ {zs : List Str} {vs : List V}, DnL K F (zs.map D.str) vs → vs = zs.map V.str
  | [], _, h => dnl_nil.mp h
  | z :: zs, _, h => by
    obtain ⟨u, r, e, h1, h2⟩ := dnl_cons.mp h
    rw [e, dn_str.mp h1, DnL.strs' h2] <;> rfl
theorem DnL.ints : ∀ {zs : List Int}, DnL K F (zs.map D.int) (zs.map V.int)
  | [] => .nil
  | _ :: _ => .cons (dn_int.mpr rfl) DnL.ints
theorem DnL.ints' : ∀ {zs : List Int} {vs : List V}, DnL K F (zs.map D.int) vs → vs = zs.map V.int
  | [], _, h => dnl_nil.mp h
  | z :: zs, _, h => by
    obtain ⟨u, r, e, h1, h2⟩ := dnl_cons.mp h
    rw [e, dn_int.mp h1, DnL.ints' h2] <;> rfl
theorem DnL.bls : ∀ {zs : List Bool}, DnL K F (zs.map D.bl) (zs.map V.bl)
  | [] => .nil
  | _ :: _ => .cons (dn_bl.mpr rfl) DnL.bls
theorem DnL.bls' : ∀ {zs : List Bool} {vs : List V}, DnL K F (zs.map D.bl) vs → vs = zs.map V.bl
  | [], _, h => dnl_nil.mp h
  | z :: zs, _, h => by
    obtain ⟨u, r, e, h1, h2⟩ := dnl_cons.mp h
    rw [e, dn_bl.mp h1, DnL.bls' h2] <;> rfl

structure Grow (F H F' H' : Hp) : Prop where
  ff : Ex F F'
  hh : Ex H H'
  fh : Ex F' H'
  nw : ∀ a, H a ≠ none → F a = none → F' a = none
theorem Grow.refl (e : Ex F H) : Grow F H F H := ⟨Ex.refl F, Ex.refl H, e, fun _ _ h => h⟩
theorem Grow.trans (a : Grow F H F' H') (b : Grow F' H' F2 H2) : Grow F H F2 H2 :=
  ⟨a.ff.trans b.ff, a.hh.trans b.hh, b.fh, fun x h1 h2 => b.nw x (fun z => by
    cases q : H x with
    | none => exact h1 q
    | some o => rw [a.hh x o q] at z; cases z) (a.nw x h1 h2)⟩
theorem fresh_F (e : Ex F H) {p : Addr} (h : H p = none) : F p = none := fresh_back e h
theorem ex_upd {p : Addr} {o : HO} (e : Ex F H) (h : H p = none) : Ex (upd F p o) (upd H p o) := fun a u ha => by
  unfold upd at ha ⊢
  split at ha
  · rename_i c
    rw [if_pos c]
    exact ha
  · rename_i c
    rw [if_neg c]
    exact e a u ha
theorem Grow.new {p : Addr} {o : HO} (e : Ex F H) (h : H p = none) : Grow F H (upd F p o) (upd H p o) :=
  ⟨Ex.new (fresh_F e h), Ex.new h, ex_upd e h, fun a h1 h2 => by
    have : a ≠ p := fun z => h1 (z ▸ h)
    rw [upd_ne this]; exact h2⟩
theorem Grow.newM {p : Addr} {o : HO} (e : Ex F H) (h : H p = none) : Grow F H F (upd H p o) :=
  ⟨Ex.refl F, Ex.new h, e.trans (Ex.new h), fun a _ h2 => h2⟩
end

inductive Slot where
  | un
  | dt (d : D)
  | ol (p : Addr) (ds : List D)
  | od (p : Addr) (ks : List Str) (ds : List D)
def Slot.ad : Slot → Option Addr
  | .ol p _ => some p
  | .od p _ _ => some p
  | _ => none
abbrev Rho := List Slot
def SlotOk (K : PySem.W.Frag) (H0 F H : Hp) : Slot → Option V → Prop
  | .un, _ => True
  | .dt d, x => ∃ v, x = some v ∧ Dn K F d v
  | .ol p ds, x => x = some (.ref p) ∧ H0 p = none ∧ F p = none ∧ ∃ vs, H p = some (.lst vs) ∧ DnL K F ds vs
  | .od p ks ds, x => x = some (.ref p) ∧ H0 p = none ∧ F p = none ∧ ∃ vs, H p = some (.dK (kvZ ks vs)) ∧ ks.length = ds.length ∧ DnL K F ds vs
structure Sd (K : PySem.W.Frag) (F0 H0 : Hp) (ρ : Rho) (σ : L2.St) (F H : Hp) : Prop where
  g : Grow F0 H0 F H
  len : σ.length = ρ.length
  sl : ∀ (i : Nat) (s : Slot), ρ[i]? = some s → SlotOk K H0 F H s (σ[i]?).join
  dj : ∀ (i j : Nat) (s t : Slot) (p : Addr), ρ[i]? = some s → ρ[j]? = some t → s.ad = some p → t.ad = some p → i = j

section
variable {F F' F2 H H' H2 H0 F0 : Hp} {ρ ρ' : Rho} {σ σ' : L2.St} {d : D} {ds : List D} {v : V} {vs : List V} {i : Nat} {s : Slot} {p : Addr}
theorem join_some {α : Type} {o : Option (Option α)} {x : α} (h : o.join = some x) : o = some (some x) := by
  cases o with
  | none => cases h
  | some y => exact congrArg some h
theorem SlotOk.grow {x : Option V} (h : SlotOk K H0 F H s x) (g : Grow F H F' H') : SlotOk K H0 F' H' s x := by
  cases s with
  | un => trivial
  | dt d => obtain ⟨v, e, q⟩ := h; exact ⟨v, e, q.mono g.ff⟩
  | ol p ds => obtain ⟨e, a, b, vs, c, q⟩ := h; exact ⟨e, a, g.nw p (by rw [c]; simp) b, vs, g.hh _ _ c, q.mono g.ff⟩
  | od p ks ds => obtain ⟨e, a, b, vs, c, l, q⟩ := h; exact ⟨e, a, g.nw p (by rw [c]; simp) b, vs, g.hh _ _ c, l, q.mono g.ff⟩
theorem Sd.grow (S : Sd K F0 H0 ρ σ F H) (g : Grow F H F' H') : Sd K F0 H0 ρ σ F' H' :=
  ⟨S.g.trans g, S.len, fun i s h => (S.sl i s h).grow g, S.dj⟩
theorem Sd.fh (S : Sd K F0 H0 ρ σ F H) : Ex F H := S.g.fh
theorem Sd.data (S : Sd K F0 H0 ρ σ F H) (h : ρ[i]? = some (.dt d)) : ∃ v, σ[i]? = some (some v) ∧ Dn K F d v := by
  obtain ⟨v, e, q⟩ := S.sl i _ h
  exact ⟨v, join_some e, q⟩
theorem Sd.own (S : Sd K F0 H0 ρ σ F H) (h : ρ[i]? = some (.ol p ds)) : σ[i]? = some (some (.ref p)) ∧ H0 p = none ∧ F p = none ∧ ∃ vs, H p = some (.lst vs) ∧ DnL K F ds vs := by
  obtain ⟨e, r⟩ := S.sl i _ h
  exact ⟨join_some e, r⟩
theorem Sd.ownD {ks : List Str} (S : Sd K F0 H0 ρ σ F H) (h : ρ[i]? = some (.od p ks ds)) : σ[i]? = some (some (.ref p)) ∧ H0 p = none ∧ F p = none ∧ ∃ vs, H p = some (.dK (kvZ ks vs)) ∧ ks.length = ds.length ∧ DnL K F ds vs := by
  obtain ⟨e, r⟩ := S.sl i _ h
  exact ⟨join_some e, r⟩
theorem set_join (hi : i < σ.length) {x : Option V} : ((σ.set i x)[i]?).join = x := by
  rw [List.getElem?_set_self hi]
  cases x <;> rfl
theorem get_set_ne {α : Type} {l : List α} {i j : Nat} {x : α} (h : i ≠ j) : (l.set i x)[j]? = l[j]? := List.getElem?_set_ne h
theorem Sd.put (S : Sd K F0 H0 ρ σ F H) (hs : i < ρ.length → SlotOk K H0 F H s (some v)) (hd : ∀ q, s.ad = some q → ∀ j t, j ≠ i → ρ[j]? = some t → t.ad ≠ some q) : Sd K F0 H0 (ρ.set i s) (σ.set i (some v)) F H := by
  refine ⟨S.g, by rw [List.length_set, List.length_set, S.len], fun j t h => ?_, fun j k t u q h1 h2 h3 h4 => ?_⟩
  · by_cases e : i = j
    · subst e
      have hl : i < ρ.length := by
        have := (List.getElem?_eq_some_iff.mp h).1
        rwa [List.length_set] at this
      rw [List.getElem?_set_self hl] at h
      cases h
      rw [set_join (by rw [S.len]; exact hl)]
      exact hs hl
    · rw [get_set_ne e] at h
      rw [get_set_ne e]
      exact S.sl j t h
  · by_cases e1 : i = j
    · by_cases e2 : i = k
      · rw [← e1, ← e2]
      · subst e1
        have hl : i < ρ.length := by
          have := (List.getElem?_eq_some_iff.mp h1).1
          rwa [List.length_set] at this
        rw [List.getElem?_set_self hl] at h1
        cases h1
        rw [get_set_ne e2] at h2
        exact absurd h4 (hd q h3 k u (Ne.symm e2) h2)
    · by_cases e2 : i = k
      · subst e2
        have hl : i < ρ.length := by
          have := (List.getElem?_eq_some_iff.mp h2).1
          rwa [List.length_set] at this
        rw [List.getElem?_set_self hl] at h2
        cases h2
        rw [get_set_ne e1] at h1
        exact absurd h3 (hd q h4 j t (Ne.symm e1) h1)
      · rw [get_set_ne e1] at h1
        rw [get_set_ne e2] at h2
        exact S.dj j k t u q h1 h2 h3 h4
theorem Sd.putD (S : Sd K F0 H0 ρ σ F H) (h : Dn K F d v) : Sd K F0 H0 (ρ.set i (.dt d)) (σ.set i (some v)) F H :=
  S.put (fun _ => ⟨v, rfl, h⟩) fun q e => by cases e
theorem Sd.chg (S : Sd K F0 H0 ρ σ F H) (h : ρ[i]? = some (.ol p ds)) {es : List D} {us : List V} (q : DnL K F es us) : Sd K F0 H0 (ρ.set i (.ol p es)) σ F (upd H p (.lst us)) := by
  obtain ⟨e1, e2, e3, _⟩ := S.own h
  have hl : i < ρ.length := (List.getElem?_eq_some_iff.mp h).1
  refine ⟨⟨S.g.ff, S.g.hh.mut e2, S.g.fh.mut e3, S.g.nw⟩, by rw [List.length_set, S.len], fun j t hj => ?_, fun j k t u r h1 h2 h3 h4 => ?_⟩
  · by_cases e : i = j
    · subst e
      rw [List.getElem?_set_self hl] at hj
      cases hj
      exact ⟨by rw [e1] <;> rfl, e2, e3, us, upd_same, q⟩
    · rw [get_set_ne e] at hj
      have z := S.sl j t hj
      have nad : ∀ r, t.ad = some r → r ≠ p := fun r hr c => e (S.dj i j _ t p h hj rfl (by rw [hr, c]))
      cases t with
      | un => trivial
      | dt d => exact z
      | ol r rs => obtain ⟨a, b, c, ws, x, y⟩ := z; exact ⟨a, b, c, ws, by rw [upd_ne (nad r rfl)]; exact x, y⟩
      | od r kk rs => obtain ⟨a, b, c, ws, x, y⟩ := z; exact ⟨a, b, c, ws, by rw [upd_ne (nad r rfl)]; exact x, y⟩
  · have back : ∀ (j : Nat) (t : Slot), (ρ.set i (.ol p es))[j]? = some t → ∃ t', ρ[j]? = some t' ∧ t'.ad = t.ad := fun j t hj => by
      by_cases e : i = j
      · subst e
        rw [List.getElem?_set_self hl] at hj
        cases hj
        exact ⟨_, h, rfl⟩
      · rw [get_set_ne e] at hj
        exact ⟨t, hj, rfl⟩
    obtain ⟨t', a1, a2⟩ := back j t h1
    obtain ⟨u', b1, b2⟩ := back k u h2
    exact S.dj j k t' u' r a1 b1 (a2.trans h3) (b2.trans h4)
theorem Sd.chgD {ks js : List Str} (S : Sd K F0 H0 ρ σ F H) (h : ρ[i]? = some (.od p ks ds)) {es : List D} {us : List V} (hl2 : js.length = es.length) (q : DnL K F es us) : Sd K F0 H0 (ρ.set i (.od p js es)) σ F (upd H p (.dK (kvZ js us))) := by
  obtain ⟨e1, e2, e3, _⟩ := S.ownD h
  have hl : i < ρ.length := (List.getElem?_eq_some_iff.mp h).1
  refine ⟨⟨S.g.ff, S.g.hh.mut e2, S.g.fh.mut e3, S.g.nw⟩, by rw [List.length_set, S.len], fun j t hj => ?_, fun j k t u r h1 h2 h3 h4 => ?_⟩
  · by_cases e : i = j
    · subst e
      rw [List.getElem?_set_self hl] at hj
      cases hj
      exact ⟨by rw [e1] <;> rfl, e2, e3, us, upd_same, hl2, q⟩
    · rw [get_set_ne e] at hj
      have z := S.sl j t hj
      have nad : ∀ r, t.ad = some r → r ≠ p := fun r hr c => e (S.dj i j _ t p h hj rfl (by rw [hr, c]))
      cases t with
      | un => trivial
      | dt d => exact z
      | ol r rs => obtain ⟨a, b, c, ws, x, y⟩ := z; exact ⟨a, b, c, ws, by rw [upd_ne (nad r rfl)]; exact x, y⟩
      | od r kk rs => obtain ⟨a, b, c, ws, x, y⟩ := z; exact ⟨a, b, c, ws, by rw [upd_ne (nad r rfl)]; exact x, y⟩
  · have back : ∀ (j : Nat) (t : Slot), (ρ.set i (.od p js es))[j]? = some t → ∃ t', ρ[j]? = some t' ∧ t'.ad = t.ad := fun j t hj => by
      by_cases e : i = j
      · subst e
        rw [List.getElem?_set_self hl] at hj
        cases hj
        exact ⟨_, h, rfl⟩
      · rw [get_set_ne e] at hj
        exact ⟨t, hj, rfl⟩
    obtain ⟨t', a1, a2⟩ := back j t h1
    obtain ⟨u', b1, b2⟩ := back k u h2
    exact S.dj j k t' u' r a1 b1 (a2.trans h3) (b2.trans h4)
theorem Sd.frz (S : Sd K F0 H0 ρ σ F H) (h : ρ[i]? = some (.ol p ds)) : ∃ F', Ex F F' ∧ Sd K F0 H0 (ρ.set i (.dt (.lst ds))) σ F' H ∧ Dn K F' (.lst ds) (.ref p) := by
  obtain ⟨e1, e2, e3, vs, e4, q⟩ := S.own h
  have hl : i < ρ.length := (List.getElem?_eq_some_iff.mp h).1
  have x : Ex F (upd F p (.lst vs)) := Ex.new e3
  have dn : Dn K (upd F p (.lst vs)) (.lst ds) (.ref p) := dn_lst.mpr ⟨p, vs, rfl, upd_same, q.mono x⟩
  refine ⟨upd F p (.lst vs), x, ⟨⟨S.g.ff.trans x, S.g.hh, fun a o ha => ?_, fun a h1 h2 => ?_⟩, by rw [List.length_set, S.len], fun j t hj => ?_, fun j k t u r h1 h2 h3 h4 => ?_⟩, dn⟩
  · unfold upd at ha
    split at ha
    · rename_i c
      rw [c, e4]
      exact ha
    · exact S.g.fh a o ha
  · have : a ≠ p := fun z => h1 (z ▸ e2)
    rw [upd_ne this]
    exact S.g.nw a h1 h2
  · by_cases e : i = j
    · subst e
      rw [List.getElem?_set_self hl] at hj
      cases hj
      exact ⟨.ref p, by rw [e1] <;> rfl, dn⟩
    · rw [get_set_ne e] at hj
      have z := S.sl j t hj
      have nad : ∀ r, t.ad = some r → r ≠ p := fun r hr c => e (S.dj i j _ t p h hj rfl (by rw [hr, c]))
      cases t with
      | un => trivial
      | dt d => obtain ⟨v, a, b⟩ := z; exact ⟨v, a, b.mono x⟩
      | ol r rs => obtain ⟨a, b, c, ws, y1, y2⟩ := z; exact ⟨a, b, by rw [upd_ne (nad r rfl)]; exact c, ws, y1, y2.mono x⟩
      | od r kk rs => obtain ⟨a, b, c, ws, y1, y2, y3⟩ := z; exact ⟨a, b, by rw [upd_ne (nad r rfl)]; exact c, ws, y1, y2, y3.mono x⟩
  · have back : ∀ (j : Nat) (t : Slot), (ρ.set i (.dt (.lst ds)))[j]? = some t → t.ad = some r → ρ[j]? = some t := fun j t hj ha => by
      by_cases e : i = j
      · subst e
        rw [List.getElem?_set_self hl] at hj
        cases hj
        cases ha
      · rw [get_set_ne e] at hj
        exact hj
    exact S.dj j k t u r (back j t h1 h3) (back k u h2 h4) h3 h4
end
end Z

namespace Z
open PySem PySem.Spec PyProof.Rows L2 Evl
variable {K : PySem.W.Frag}

open Classical in
noncomputable def delS (ρ : Rho) (H : Hp) : Hp := fun a => if ∃ (i : Nat) (s : Slot), ρ[i]? = some s ∧ s.ad = some a then none else H a
section
variable {F F' F2 H H' H2 H0 F0 : Hp} {ρ ρ' : Rho} {σ σ' : L2.St} {d : D} {ds : List D} {v : V} {vs : List V} {i : Nat} {s : Slot} {p : Addr}
theorem delS_none (h : H p = none) : delS ρ H p = none := by
  unfold delS
  split
  · rfl
  · exact h
theorem delS_own (h : ρ[i]? = some s) (e : s.ad = some p) : delS ρ H p = none := by
  unfold delS
  rw [if_pos ⟨i, s, h, e⟩]
theorem delS_some {o : HO} (h : delS ρ H p = some o) : H p = some o := by
  unfold delS at h
  split at h
  · cases h
  · exact h
theorem delS_keep (n : ∀ (i : Nat) (s : Slot), ρ[i]? = some s → s.ad ≠ some p) : delS ρ H p = H p := by
  unfold delS
  rw [if_neg]
  rintro ⟨i, s, h, e⟩
  exact n i s h e
theorem SlotOk.ad {x : Option V} (h : SlotOk K H0 F H s x) (e : s.ad = some p) : H0 p = none ∧ F p = none ∧ ∃ o, H p = some o := by
  cases s with
  | un => cases e
  | dt d => cases e
  | ol q ds => cases e; exact ⟨h.2.1, h.2.2.1, _, h.2.2.2.choose_spec.1⟩
  | od q ks ds => cases e; exact ⟨h.2.1, h.2.2.1, _, h.2.2.2.choose_spec.1⟩
theorem Sd.rebase (S : Sd K F0 H0 ρ σ F H) : Sd K F (delS ρ H) ρ σ F H := by
  refine ⟨⟨Ex.refl F, fun a o h => delS_some h, S.fh, fun a _ h => h⟩, S.len, fun i s h => ?_, S.dj⟩
  have z := S.sl i s h
  cases s with
  | un => trivial
  | dt d => exact z
  | ol p ds => exact ⟨z.1, delS_own h rfl, z.2.2⟩
  | od p ks ds => exact ⟨z.1, delS_own h rfl, z.2.2⟩
theorem Sd.unbase (S : Sd K F0 H0 ρ σ F H) (S' : Sd K F (delS ρ H) ρ' σ' F' H') : Sd K F0 H0 ρ' σ' F' H' := by
  have keep : ∀ a, H0 a ≠ none → delS ρ H a = H a := fun a h => delS_keep fun i s hi e => h ((S.sl i s hi).ad e).1
  have h0 : ∀ a o, H0 a = some o → H a = some o := S.g.hh
  refine ⟨⟨S.g.ff.trans S'.g.ff, fun a o h => S'.g.hh a o (by rw [keep a (by rw [h]; simp)]; exact h0 a o h), S'.g.fh, fun a h1 h2 => ?_⟩, S'.len, fun i s h => ?_, S'.dj⟩
  · refine S'.g.nw a ?_ (S.g.nw a h1 h2)
    rw [keep a h1]
    cases q : H0 a with
    | none => exact absurd q h1
    | some o => rw [h0 a o q]; simp
  · have z := S'.sl i s h
    have back : ∀ p, s.ad = some p → H0 p = none := fun p e => by
      obtain ⟨w, _, _⟩ := z.ad e
      cases q : H0 p with
      | none => rfl
      | some o => rw [keep p (by rw [q]; simp), h0 p o q] at w; cases w
    cases s with
    | un => trivial
    | dt d => exact z
    | ol p ds => exact ⟨z.1, back p rfl, z.2.2⟩
    | od p ks ds => exact ⟨z.1, back p rfl, z.2.2⟩
theorem Sd.out {o : HO} (S : Sd K F0 H0 ρ σ F H) (h0 : H0 p = none) (hf : F p = none) (n : ∀ (i : Nat) (s : Slot), ρ[i]? = some s → s.ad ≠ some p) : Sd K F0 H0 ρ σ F (upd H p o) := by
  refine ⟨⟨S.g.ff, S.g.hh.mut h0, S.g.fh.mut hf, S.g.nw⟩, S.len, fun j t hj => ?_, S.dj⟩
  have z := S.sl j t hj
  have nad : ∀ r, t.ad = some r → r ≠ p := fun r hr c => n j t hj (by rw [hr, c])
  cases t with
  | un => trivial
  | dt d => exact z
  | ol r rs => obtain ⟨a, b, c, ws, x, y⟩ := z; exact ⟨a, b, c, ws, by rw [upd_ne (nad r rfl)]; exact x, y⟩
  | od r kk rs => obtain ⟨a, b, c, ws, x, y⟩ := z; exact ⟨a, b, c, ws, by rw [upd_ne (nad r rfl)]; exact x, y⟩
theorem Sd.stand (S : Sd K F0 H0 ρ σ F H) (x : Ex F F') (y : Ex F' H) (n : ∀ a, F a = none → (H0 a ≠ none ∨ ∃ (i : Nat) (s : Slot), ρ[i]? = some s ∧ s.ad = some a) → F' a = none) : Sd K F0 H0 ρ σ F' H := by
  refine ⟨⟨S.g.ff.trans x, S.g.hh, y, fun a h1 h2 => n a (S.g.nw a h1 h2) (.inl h1)⟩, S.len, fun j t hj => ?_, S.dj⟩
  have z := S.sl j t hj
  cases t with
  | un => trivial
  | dt d => obtain ⟨v, a, b⟩ := z; exact ⟨v, a, b.mono x⟩
  | ol r rs => obtain ⟨a, b, c, ws, y1, y2⟩ := z; exact ⟨a, b, n r c (.inr ⟨j, _, hj, rfl⟩), ws, y1, y2.mono x⟩
  | od r kk rs => obtain ⟨a, b, c, ws, y1, y2, y3⟩ := z; exact ⟨a, b, n r c (.inr ⟨j, _, hj, rfl⟩), ws, y1, y2, y3.mono x⟩
theorem Sd.wipe1 (S : Sd K F0 H0 ρ σ F H) : Sd K F0 H0 (ρ.set i .un) (σ.set i none) F H := by
  refine ⟨S.g, by rw [List.length_set, List.length_set, S.len], fun j t h => ?_, fun j k t u q h1 h2 h3 h4 => ?_⟩
  · by_cases e : i = j
    · subst e
      have hl : i < ρ.length := by
        have := (List.getElem?_eq_some_iff.mp h).1
        rwa [List.length_set] at this
      rw [List.getElem?_set_self hl] at h
      cases h
      trivial
    · rw [get_set_ne e] at h
      rw [get_set_ne e]
      exact S.sl j t h
  · have back : ∀ (j : Nat) (t : Slot), (ρ.set i .un)[j]? = some t → t.ad = some q → ρ[j]? = some t := fun j t hj ha => by
      by_cases e : i = j
      · subst e
        have hl : i < ρ.length := by
          have := (List.getElem?_eq_some_iff.mp hj).1
          rwa [List.length_set] at this
        rw [List.getElem?_set_self hl] at hj
        cases hj
        cases ha
      · rw [get_set_ne e] at hj
        exact hj
    exact S.dj j k t u q (back j t h1 h3) (back k u h2 h4) h3 h4
def wipeR (ρ : Rho) : List Nat → Rho
  | [] => ρ
  | v :: vs => (wipeR ρ vs).set v .un
theorem Sd.wipe (S : Sd K F0 H0 ρ σ F H) : ∀ vs : List Nat, Sd K F0 H0 (wipeR ρ vs) (L2.wipe σ vs) F H
  | [] => S
  | v :: vs => (S.wipe vs).wipe1
end

def ExOk (K : PySem.W.Frag) (F H : Hp) (fld : Option (Str × D)) (dd : Option Addr) : Prop :=
  match fld with
  | none => dd = none
  | some (k, d) => ∃ a v, dd = some a ∧ H a = some (.xd [(k, v)]) ∧ Dn K F d v
abbrev Xi := Addr → Option (Str × D) → Rho → Prop
def EOk (K : PySem.W.Frag) (E : L2.St → XK) (Ξ : Xi) (F0 H0 : Hp) : Prop :=
  ∀ (C : Addr) (fld : Option (Str × D)) (ρ : Rho) (σ : L2.St) (dd : Option Addr) (F H : Hp), Ξ C fld ρ → Sd K F0 H0 ρ σ F H → ExOk K F H fld dd → E σ (.ref C) dd H
abbrev noX : Xi := fun _ _ _ => False
theorem EOk.no {E : L2.St → XK} {F0 H0 : Hp} : EOk K E noX F0 H0 := fun _ _ _ _ _ _ _ h => h.elim
theorem EOk.re {E : L2.St → XK} {Ξ : Xi} {F0 H0 F H : Hp} {ρ : Rho} {σ : L2.St} (e : EOk K E Ξ F0 H0) (S : Sd K F0 H0 ρ σ F H) : EOk K E Ξ F (delS ρ H) :=
  fun C fld ρ' σ' dd F' H' h S' x => e C fld ρ' σ' dd F' H' h (S.unbase S') x

def EvS (K : PySem.W.Frag) (E : L2.St → XK) (Ξ : Xi) (te : TE) (ρ : Rho) (Φ : D → Rho → Prop) : Prop :=
  ∀ (F0 H0 : Hp) (σ : L2.St) (F H : Hp) (Q : VK), Sd K F0 H0 ρ σ F H → EOk K E Ξ F0 H0 →
    (∀ (d : D) (ρ' : Rho) (v : V) (F' H' : Hp), Φ d ρ' → Ex F F' → Sd K F0 H0 ρ' σ F' H' → Dn K F' d v → Q v H') → te σ H Q
def EvA (K : PySem.W.Frag) (E : L2.St → XK) (Ξ : Xi) (ta : TA) (ρ : Rho) (Φ : List D → Rho → Prop) : Prop :=
  ∀ (F0 H0 : Hp) (σ : L2.St) (F H : Hp) (Q : List V → Hp → Prop), Sd K F0 H0 ρ σ F H → EOk K E Ξ F0 H0 →
    (∀ (ds : List D) (ρ' : Rho) (vs : List V) (F' H' : Hp), Φ ds ρ' → Ex F F' → Sd K F0 H0 ρ' σ F' H' → DnL K F' ds vs → Q vs H') → ta σ H Q
def EvT (K : PySem.W.Frag) (E : L2.St → XK) (Ξ : Xi) (tt : TT) (ρ : Rho) (Φ : Bool → Rho → Prop) : Prop :=
  ∀ (F0 H0 : Hp) (σ : L2.St) (F H : Hp) (Q : Bool → Hp → Prop), Sd K F0 H0 ρ σ F H → EOk K E Ξ F0 H0 →
    (∀ (b : Bool) (ρ' : Rho) (F' H' : Hp), Φ b ρ' → Ex F F' → Sd K F0 H0 ρ' σ F' H' → Q b H') → tt σ H Q
def EvL (K : PySem.W.Frag) (E : L2.St → XK) (Ξ : Xi) (te : TE) (ρ : Rho) (Φ : List D → Rho → Prop) : Prop :=
  ∀ (F0 H0 : Hp) (σ : L2.St) (F H : Hp) (Q : VK), Sd K F0 H0 ρ σ F H → EOk K E Ξ F0 H0 →
    (∀ (ds : List D) (ρ' : Rho) (p : Addr) (vs : List V) (F' H' : Hp), Φ ds ρ' → Ex F F' → Sd K F0 H0 ρ' σ F' H' → H0 p = none → F' p = none → (∀ (i : Nat) (s : Slot), ρ'[i]? = some s → s.ad ≠ some p) →
      H' p = some (.lst vs) → DnL K F' ds vs → Q (.ref p) H') → te σ H Q
def Op2 (K : PySem.W.Frag) (r : R2) (x y : D) (Ψ : D → Prop) : Prop :=
  ∀ (F H : Hp) (v w : V) (Q : VK), Ex F H → Dn K F x v → Dn K F y w → (∀ (d : D) (u : V) (F' H' : Hp), Ψ d → Grow F H F' H' → Dn K F' d u → Q u H') → r v w H Q
def Op1 (K : PySem.W.Frag) (r : V → Hp → VK → Prop) (x : D) (Ψ : D → Prop) : Prop :=
  ∀ (F H : Hp) (v : V) (Q : VK), Ex F H → Dn K F x v → (∀ (d : D) (u : V) (F' H' : Hp), Ψ d → Grow F H F' H' → Dn K F' d u → Q u H') → r v H Q
def Cl (K : PySem.W.Frag) (r : List V → Hp → VK → Prop) (xs : List D) (Ψ : D → Prop) : Prop :=
  ∀ (F H : Hp) (vs : List V) (Q : VK), Ex F H → DnL K F xs vs → (∀ (d : D) (u : V) (F' H' : Hp), Ψ d → Grow F H F' H' → Dn K F' d u → Q u H') → r vs H Q
def Mt (K : PySem.W.Frag) (r : V → List V → Hp → VK → Prop) (x : D) (xs : List D) (Ψ : D → Prop) : Prop :=
  ∀ (F H : Hp) (v : V) (vs : List V) (Q : VK), Ex F H → Dn K F x v → DnL K F xs vs → (∀ (d : D) (u : V) (F' H' : Hp), Ψ d → Grow F H F' H' → Dn K F' d u → Q u H') → r v vs H Q

section
variable {E : L2.St → XK} {Ξ : Xi} {ρ : Rho} {ta tb tc te : TE} {tl : TA} {t u : TT} {i : Nat} {d : D} {ds : List D} {p : Addr}
theorem EvS.imp {Φ Ψ : D → Rho → Prop} (h : EvS K E Ξ te ρ Φ) (k : ∀ d ρ', Φ d ρ' → Ψ d ρ') : EvS K E Ξ te ρ Ψ := fun F0 H0 σ F H Q S e q => h F0 H0 σ F H Q S e fun d ρ' v F' H' a => q d ρ' v F' H' (k d ρ' a)
theorem EvT.imp {Φ Ψ : Bool → Rho → Prop} (h : EvT K E Ξ t ρ Φ) (k : ∀ d ρ', Φ d ρ' → Ψ d ρ') : EvT K E Ξ t ρ Ψ := fun F0 H0 σ F H Q S e q => h F0 H0 σ F H Q S e fun d ρ' F' H' a => q d ρ' F' H' (k d ρ' a)
theorem ev_var {Φ : D → Rho → Prop} (h : ρ[i]? = some (.dt d)) (k : Φ d ρ) : EvS K E Ξ (tVar i) ρ Φ := fun F0 H0 σ F H Q S _ q => by
  obtain ⟨v, e, n⟩ := S.data h
  exact ⟨v, e, q d ρ v F H k (Ex.refl F) S n⟩
theorem ev_frz {Φ : D → Rho → Prop} (h : ρ[i]? = some (.ol p ds)) (k : Φ (.lst ds) (ρ.set i (.dt (.lst ds)))) : EvS K E Ξ (tVar i) ρ Φ := fun F0 H0 σ F H Q S _ q => by
  obtain ⟨F', x, S', n⟩ := S.frz h
  exact ⟨_, (S.own h).1, q _ _ _ F' H k x S' n⟩
theorem ev_c {Φ : D → Rho → Prop} {v : V} (h : ∀ F, Dn K F d v) (k : Φ d ρ) : EvS K E Ξ (tC v) ρ Φ := fun F0 H0 σ F H Q S _ q => q d ρ v F H k (Ex.refl F) S (h F)
theorem ev_int {Φ : D → Rho → Prop} {n : Int} (k : Φ (.int n) ρ) : EvS K E Ξ (tC (.int n)) ρ Φ := ev_c (fun _ => dn_int.mpr rfl) k
theorem ev_str {Φ : D → Rho → Prop} {n : Str} (k : Φ (.str n) ρ) : EvS K E Ξ (tC (.str n)) ρ Φ := ev_c (fun _ => dn_str.mpr rfl) k
theorem ev_bl {Φ : D → Rho → Prop} {n : Bool} (k : Φ (.bl n) ρ) : EvS K E Ξ (tC (.bl n)) ρ Φ := ev_c (fun _ => dn_bl.mpr rfl) k
theorem ev_non {Φ : D → Rho → Prop} (k : Φ .non ρ) : EvS K E Ξ (tC .non) ρ Φ := ev_c (fun _ => dn_non.mpr rfl) k
theorem ev_op {Φ : D → Rho → Prop} {r : R2} (h : EvS K E Ξ ta ρ fun x ρ1 => EvS K E Ξ tb ρ1 fun y ρ2 => Op2 K r x y fun z => Φ z ρ2) : EvS K E Ξ (tOp r ta tb) ρ Φ := fun F0 H0 σ F H Q S e k =>
  h F0 H0 σ F H _ S e fun x ρ1 v F1 H1 h1 x1 S1 n1 => h1 F0 H0 σ F1 H1 _ S1 e fun y ρ2 w F2 H2 h2 x2 S2 n2 =>
    h2 F2 H2 v w Q S2.fh (n1.mono x2) n2 fun d z F3 H3 hd g n => k d ρ2 z F3 H3 hd ((x1.trans x2).trans g.ff) (S2.grow g) n
theorem ev_un {Φ : D → Rho → Prop} {r : V → Hp → VK → Prop} (h : EvS K E Ξ ta ρ fun x ρ1 => Op1 K r x fun z => Φ z ρ1) : EvS K E Ξ (tUn r ta) ρ Φ := fun F0 H0 σ F H Q S e k =>
  h F0 H0 σ F H _ S e fun x ρ1 v F1 H1 h1 x1 S1 n1 => h1 F1 H1 v Q S1.fh n1 fun d z F3 H3 hd g n => k d ρ1 z F3 H3 hd (x1.trans g.ff) (S1.grow g) n
theorem ea_nil {Φ : List D → Rho → Prop} (k : Φ [] ρ) : EvA K E Ξ tNil ρ Φ := fun F0 H0 σ F H Q S _ q => q [] ρ [] F H k (Ex.refl F) S .nil
theorem ea_cons {Φ : List D → Rho → Prop} (h : EvS K E Ξ ta ρ fun x ρ1 => EvA K E Ξ tl ρ1 fun xs ρ2 => Φ (x :: xs) ρ2) : EvA K E Ξ (tCons ta tl) ρ Φ := fun F0 H0 σ F H Q S e k =>
  h F0 H0 σ F H _ S e fun x ρ1 v F1 H1 h1 x1 S1 n1 => h1 F0 H0 σ F1 H1 _ S1 e fun xs ρ2 vs F2 H2 h2 x2 S2 n2 => k (x :: xs) ρ2 (v :: vs) F2 H2 h2 (x1.trans x2) S2 (.cons (n1.mono x2) n2)
theorem ev_cb {Φ : D → Rho → Prop} {r : List V → Hp → VK → Prop} (h : EvA K E Ξ tl ρ fun xs ρ1 => Cl K r xs fun z => Φ z ρ1) : EvS K E Ξ (tCB r tl) ρ Φ := fun F0 H0 σ F H Q S e k =>
  h F0 H0 σ F H _ S e fun xs ρ1 vs F1 H1 h1 x1 S1 n1 => h1 F1 H1 vs Q S1.fh n1 fun d z F3 H3 hd g n => k d ρ1 z F3 H3 hd (x1.trans g.ff) (S1.grow g) n
theorem ev_tup {Φ : D → Rho → Prop} (h : EvA K E Ξ tl ρ fun xs ρ1 => xs.length ≤ 100000 ∧ Φ (.tup xs) ρ1) : EvS K E Ξ (tTup tl) ρ Φ := fun F0 H0 σ F H Q S e k =>
  h F0 H0 σ F H _ S e fun xs ρ1 vs F1 H1 h1 x1 S1 n1 => ⟨sz_of (by rw [← n1.length]; exact h1.1), fun p hp => by
    have g := Grow.new (o := .tup vs) S1.fh hp
    exact k _ ρ1 _ _ _ h1.2 (x1.trans g.ff) (S1.grow g) (dn_tup.mpr ⟨p, vs, rfl, .inl (.inl upd_same), n1.mono g.ff⟩)⟩
theorem Sd.newAd {F0 H0 F H : Hp} {σ : L2.St} (S : Sd K F0 H0 ρ σ F H) (h : H p = none) : ∀ (i : Nat) (s : Slot), ρ[i]? = some s → s.ad ≠ some p := fun i s hi e => by
  obtain ⟨_, _, o, ho⟩ := (S.sl i s hi).ad e
  rw [h] at ho
  cases ho
theorem Sd.new0 {F0 H0 F H : Hp} {σ : L2.St} (S : Sd K F0 H0 ρ σ F H) (h : H p = none) : H0 p = none := fresh_back S.g.hh h
theorem el_lst {Φ : List D → Rho → Prop} (h : EvA K E Ξ tl ρ fun xs ρ1 => xs.length ≤ 100000 ∧ Φ xs ρ1) : EvL K E Ξ (tLst tl) ρ Φ := fun F0 H0 σ F H Q S e k =>
  h F0 H0 σ F H _ S e fun xs ρ1 vs F1 H1 h1 x1 S1 n1 => ⟨sz_of (by rw [← n1.length]; exact h1.1), fun p hp =>
    k xs ρ1 p vs F1 _ h1.2 x1 (S1.grow (Grow.newM S1.fh hp)) (S1.new0 hp) (fresh_F S1.fh hp) (S1.newAd hp) upd_same n1⟩
theorem Sd.frzN {F0 H0 F H : Hp} {σ : L2.St} {o : HO} (S : Sd K F0 H0 ρ σ F H) (h0 : H0 p = none) (hf : F p = none) (n : ∀ (i : Nat) (s : Slot), ρ[i]? = some s → s.ad ≠ some p) (hp : H p = some o) : Sd K F0 H0 ρ σ (upd F p o) H := by
  refine S.stand (Ex.new hf) (fun a u ha => ?_) (fun a h1 h2 => ?_)
  · unfold upd at ha
    split at ha
    · rename_i c
      rw [c, hp]
      exact ha
    · exact S.fh a u ha
  · have : a ≠ p := fun z => by
      subst z
      rcases h2 with h2 | ⟨i, s, hi, e⟩
      · exact h2 h0
      · exact n i s hi e
    rw [upd_ne this]
    exact h1
theorem EvL.ev {Φ : D → Rho → Prop} (h : EvL K E Ξ te ρ fun xs ρ1 => Φ (.lst xs) ρ1) : EvS K E Ξ te ρ Φ := fun F0 H0 σ F H Q S e k =>
  h F0 H0 σ F H Q S e fun xs ρ1 p vs F1 H1 h1 x1 S1 a b c hp n => k _ ρ1 _ _ H1 h1 (x1.trans (Ex.new b)) (S1.frzN a b c hp) (dn_lst.mpr ⟨p, vs, rfl, upd_same, n.mono (Ex.new b)⟩)
theorem EvL.imp {Φ Ψ : List D → Rho → Prop} (h : EvL K E Ξ te ρ Φ) (k : ∀ d ρ', Φ d ρ' → Ψ d ρ') : EvL K E Ξ te ρ Ψ := fun F0 H0 σ F H Q S e q => h F0 H0 σ F H Q S e fun d ρ' p vs F' H' a => q d ρ' p vs F' H' (k d ρ' a)

theorem et_test {Φ : Bool → Rho → Prop} (h : EvS K E Ξ te ρ fun d ρ1 => ∃ b, d = .bl b ∧ Φ b ρ1) : EvT K E Ξ (tTest te) ρ Φ := fun F0 H0 σ F H Q S e k =>
  h F0 H0 σ F H _ S e fun d ρ1 v F1 H1 ⟨b, eb, h1⟩ x1 S1 n1 => ⟨b, by subst eb; exact dn_bl.mp n1, k b ρ1 F1 H1 h1 x1 S1⟩
theorem et_B {Φ : Bool → Rho → Prop} (h : EvS K E Ξ te ρ fun d ρ1 => ∃ b, d = .bl b ∧ Φ b ρ1) : EvT K E Ξ (tB te) ρ Φ := fun F0 H0 σ F H Q S e k =>
  h F0 H0 σ F H _ S e fun d ρ1 v F1 H1 ⟨b, eb, h1⟩ x1 S1 n1 => ⟨b, by subst eb; exact dn_bl.mp n1, k b ρ1 F1 H1 h1 x1 S1⟩
theorem et_and {Φ : Bool → Rho → Prop} (h : EvT K E Ξ t ρ fun b ρ1 => (b = true → EvT K E Ξ u ρ1 Φ) ∧ (b = false → Φ false ρ1)) : EvT K E Ξ (tAnd t u) ρ Φ := fun F0 H0 σ F H Q S e k =>
  h F0 H0 σ F H _ S e fun b ρ1 F1 H1 h1 x1 S1 => by
    cases b with
    | true => exact (h1.1 rfl) F0 H0 σ F1 H1 Q S1 e fun c ρ2 F2 H2 h2 x2 S2 => k c ρ2 F2 H2 h2 (x1.trans x2) S2
    | false => exact k false ρ1 F1 H1 (h1.2 rfl) x1 S1
theorem et_or {Φ : Bool → Rho → Prop} (h : EvT K E Ξ t ρ fun b ρ1 => (b = false → EvT K E Ξ u ρ1 Φ) ∧ (b = true → Φ true ρ1)) : EvT K E Ξ (tOr t u) ρ Φ := fun F0 H0 σ F H Q S e k =>
  h F0 H0 σ F H _ S e fun b ρ1 F1 H1 h1 x1 S1 => by
    cases b with
    | false => exact (h1.1 rfl) F0 H0 σ F1 H1 Q S1 e fun c ρ2 F2 H2 h2 x2 S2 => k c ρ2 F2 H2 h2 (x1.trans x2) S2
    | true => exact k true ρ1 F1 H1 (h1.2 rfl) x1 S1
theorem et_not {Φ : Bool → Rho → Prop} (h : EvT K E Ξ t ρ fun b ρ1 => Φ (!b) ρ1) : EvT K E Ξ (tNot t) ρ Φ := fun F0 H0 σ F H Q S e k =>
  h F0 H0 σ F H _ S e fun b ρ1 F1 H1 h1 x1 S1 => k (!b) ρ1 F1 H1 h1 x1 S1
theorem ev_and {Φ : D → Rho → Prop} (h : EvS K E Ξ ta ρ fun d ρ1 => ∃ b, d = .bl b ∧ (b = true → EvS K E Ξ tb ρ1 Φ) ∧ (b = false → Φ (.bl false) ρ1)) : EvS K E Ξ (tAndV ta tb) ρ Φ := fun F0 H0 σ F H Q S e k =>
  h F0 H0 σ F H _ S e fun d ρ1 v F1 H1 ⟨b, eb, h1, h2⟩ x1 S1 n1 => ⟨b, by subst eb; exact dn_bl.mp n1, by
    cases b with
    | true => exact (h1 rfl) F0 H0 σ F1 H1 Q S1 e fun c ρ2 w F2 H2 h2 x2 S2 n2 => k c ρ2 w F2 H2 h2 (x1.trans x2) S2 n2
    | false => exact k (.bl false) ρ1 _ F1 H1 (h2 rfl) x1 S1 (dn_bl.mpr rfl)⟩
theorem ev_or {Φ : D → Rho → Prop} (h : EvS K E Ξ ta ρ fun d ρ1 => ∃ b, d = .bl b ∧ (b = false → EvS K E Ξ tb ρ1 Φ) ∧ (b = true → Φ (.bl true) ρ1)) : EvS K E Ξ (tOrV ta tb) ρ Φ := fun F0 H0 σ F H Q S e k =>
  h F0 H0 σ F H _ S e fun d ρ1 v F1 H1 ⟨b, eb, h1, h2⟩ x1 S1 n1 => ⟨b, by subst eb; exact dn_bl.mp n1, by
    cases b with
    | false => exact (h1 rfl) F0 H0 σ F1 H1 Q S1 e fun c ρ2 w F2 H2 h2 x2 S2 n2 => k c ρ2 w F2 H2 h2 (x1.trans x2) S2 n2
    | true => exact k (.bl true) ρ1 _ F1 H1 (h2 rfl) x1 S1 (dn_bl.mpr rfl)⟩
theorem ev_not {Φ : D → Rho → Prop} (h : EvS K E Ξ ta ρ fun d ρ1 => ∃ b, d = .bl b ∧ Φ (.bl (!b)) ρ1) : EvS K E Ξ (tNotV ta) ρ Φ := fun F0 H0 σ F H Q S e k =>
  h F0 H0 σ F H _ S e fun d ρ1 v F1 H1 ⟨b, eb, h1⟩ x1 S1 n1 => ⟨b, by subst eb; exact dn_bl.mp n1, k _ ρ1 _ F1 H1 h1 x1 S1 (dn_bl.mpr rfl)⟩
theorem ev_if {Φ : D → Rho → Prop} (h : EvT K E Ξ t ρ fun b ρ1 => (b = true → EvS K E Ξ ta ρ1 Φ) ∧ (b = false → EvS K E Ξ tb ρ1 Φ)) : EvS K E Ξ (tIf t ta tb) ρ Φ := fun F0 H0 σ F H Q S e k =>
  h F0 H0 σ F H _ S e fun b ρ1 F1 H1 h1 x1 S1 => by
    cases b with
    | true => exact (h1.1 rfl) F0 H0 σ F1 H1 Q S1 e fun c ρ2 w F2 H2 h2 x2 S2 n2 => k c ρ2 w F2 H2 h2 (x1.trans x2) S2 n2
    | false => exact (h1.2 rfl) F0 H0 σ F1 H1 Q S1 e fun c ρ2 w F2 H2 h2 x2 S2 n2 => k c ρ2 w F2 H2 h2 (x1.trans x2) S2 n2
theorem ev_chain {Φ : D → Rho → Prop} {r r' : R2} (h : EvS K E Ξ ta ρ fun x ρ1 => EvS K E Ξ tb ρ1 fun y ρ2 => Op2 K r x y fun z => ∃ b, z = .bl b ∧ (b = true → EvS K E Ξ tc ρ2 fun w ρ3 => Op2 K r' y w fun q => Φ q ρ3) ∧ (b = false → Φ (.bl false) ρ2)) :
    EvS K E Ξ (tChain r r' ta tb tc) ρ Φ := fun F0 H0 σ F H Q S e k =>
  h F0 H0 σ F H _ S e fun x ρ1 v F1 H1 h1 x1 S1 n1 => h1 F0 H0 σ F1 H1 _ S1 e fun y ρ2 w F2 H2 h2 x2 S2 n2 =>
    h2 F2 H2 v w _ S2.fh (n1.mono x2) n2 fun d z F3 H3 ⟨b, eb, h3, h4⟩ g n => ⟨b, by subst eb; exact dn_bl.mp n, by
      cases b with
      | true => exact (h3 rfl) F0 H0 σ F3 H3 _ (S2.grow g) e fun q ρ3 w' F4 H4 h5 x4 S4 n4 => h5 F4 H4 w w' Q S4.fh ((n2.mono g.ff).mono x4) n4 fun d' z' F5 H5 hd g5 n5 => k d' ρ3 z' F5 H5 hd ((((x1.trans x2).trans g.ff).trans x4).trans g5.ff) (S4.grow g5) n5
      | false => exact k (.bl false) ρ2 _ F3 H3 (h4 rfl) ((x1.trans x2).trans g.ff) (S2.grow g) (dn_bl.mpr rfl)⟩
end

inductive Out where
  | nx (ρ : Rho) | rt (d : D) (ρ : Rho) | bk (ρ : Rho) | ct (ρ : Rho)
def RunS (K : PySem.W.Frag) (E : L2.St → XK) (Ξ : Xi) (ts : TS) (ρ : Rho) (Φ : Out → Prop) : Prop :=
  ∀ (F0 H0 : Hp) (σ : L2.St) (F H : Hp) (D : Ends), Sd K F0 H0 ρ σ F H → EOk K E Ξ F0 H0 →
    (∀ (ρ' : Rho) (σ' : L2.St) (F' H' : Hp), Φ (.nx ρ') → Ex F F' → Sd K F0 H0 ρ' σ' F' H' → D.nx σ' H') →
    (∀ (d : Z.D) (ρ' : Rho) (v : V) (σ' : L2.St) (F' H' : Hp), Φ (.rt d ρ') → Ex F F' → Sd K F0 H0 ρ' σ' F' H' → Dn K F' d v → D.rt v H') →
    (∀ (ρ' : Rho) (σ' : L2.St) (F' H' : Hp), Φ (.bk ρ') → Ex F F' → Sd K F0 H0 ρ' σ' F' H' → D.bk σ' H') →
    (∀ (ρ' : Rho) (σ' : L2.St) (F' H' : Hp), Φ (.ct ρ') → Ex F F' → Sd K F0 H0 ρ' σ' F' H' → D.ct σ' H') → ts D σ H
def RunG (K : PySem.W.Frag) (g : TG) (d : D) (ρ : Rho) (Φ : Rho → Prop) : Prop :=
  ∀ (F0 H0 : Hp) (σ : L2.St) (F H : Hp) (v : V) (Q : L2.St → Hp → Prop), Sd K F0 H0 ρ σ F H → Dn K F d v → (∀ (ρ' : Rho) (σ' : L2.St) (F' H' : Hp), Φ ρ' → Ex F F' → Sd K F0 H0 ρ' σ' F' H' → Q σ' H') → g v σ H Q
def RunGs (K : PySem.W.Frag) (g : TGs) (ds : List D) (ρ : Rho) (Φ : Rho → Prop) : Prop :=
  ∀ (F0 H0 : Hp) (σ : L2.St) (F H : Hp) (vs : List V) (Q : L2.St → Hp → Prop), Sd K F0 H0 ρ σ F H → DnL K F ds vs → (∀ (ρ' : Rho) (σ' : L2.St) (F' H' : Hp), Φ ρ' → Ex F F' → Sd K F0 H0 ρ' σ' F' H' → Q σ' H') → g vs σ H Q
section
variable {E : L2.St → XK} {Ξ : Xi} {ρ : Rho} {ta tb tc te : TE} {tl : TA} {t : TT} {ts tu : TS} {i : Nat} {d : D} {ds : List D} {p : Addr} {Φ : Out → Prop} {g : TG}
theorem RunS.imp {Ψ : Out → Prop} (h : RunS K E Ξ ts ρ Φ) (k : ∀ o, Φ o → Ψ o) : RunS K E Ξ ts ρ Ψ := fun F0 H0 σ F H D S e k1 k2 k3 k4 => h F0 H0 σ F H D S e (fun ρ' σ' F' H' a => k1 ρ' σ' F' H' (k _ a)) (fun d ρ' v σ' F' H' a => k2 d ρ' v σ' F' H' (k _ a)) (fun ρ' σ' F' H' a => k3 ρ' σ' F' H' (k _ a)) (fun ρ' σ' F' H' a => k4 ρ' σ' F' H' (k _ a))
theorem gg_name {Φ : Rho → Prop} (k : Φ (ρ.set i (.dt d))) : RunG K (gName i) d ρ Φ := fun F0 H0 σ F H v Q S n q => q _ _ F H k (Ex.refl F) (S.putD n)
theorem gs_nil {Φ : Rho → Prop} (k : Φ ρ) : RunGs K gNil [] ρ Φ := fun F0 H0 σ F H vs Q S n q => ⟨dnl_nil.mp n, q ρ σ F H k (Ex.refl F) S⟩
theorem gs_cons {Φ : Rho → Prop} {gs : TGs} (h : RunG K g d ρ fun ρ1 => RunGs K gs ds ρ1 Φ) : RunGs K (gCons g gs) (d :: ds) ρ Φ := fun F0 H0 σ F H vs Q S n q => by
  obtain ⟨v, r, e, n1, n2⟩ := dnl_cons.mp n
  exact ⟨v, r, e, h F0 H0 σ F H v _ S n1 fun ρ1 σ1 F1 H1 h1 x1 S1 => h1 F0 H0 σ1 F1 H1 r Q S1 (n2.mono x1) fun ρ2 σ2 F2 H2 h2 x2 S2 => q ρ2 σ2 F2 H2 h2 (x1.trans x2) S2⟩
theorem gg_tup {Φ : Rho → Prop} {gs : TGs} {n : Nat} (hl : ds.length = n) (h : RunGs K gs ds ρ Φ) : RunG K (gTup K n gs) (.tup ds) ρ Φ := fun F0 H0 σ F H v Q S nn q => by
  obtain ⟨a, xs, e, h1, h2⟩ := dn_tup.mp nn
  exact ⟨a, xs, e, ex_t S.fh h1, by rw [← h2.length]; exact hl, h F0 H0 σ F H xs Q S h2 q⟩
theorem r_next (k : Φ (.nx ρ)) : RunS K E Ξ tNext ρ Φ := fun F0 H0 σ F H D S e k1 k2 k3 k4 => k1 ρ σ F H k (Ex.refl F) S
theorem r_break (k : Φ (.bk ρ)) : RunS K E Ξ tBreak ρ Φ := fun F0 H0 σ F H D S e k1 k2 k3 k4 => k3 ρ σ F H k (Ex.refl F) S
theorem r_cont (k : Φ (.ct ρ)) : RunS K E Ξ tCont ρ Φ := fun F0 H0 σ F H D S e k1 k2 k3 k4 => k4 ρ σ F H k (Ex.refl F) S
def thenO (Φ : Out → Prop) (k : Rho → Prop) : Out → Prop := fun o => match o with
  | .nx ρ' => k ρ'
  | o => Φ o
theorem r_seq (h : RunS K E Ξ ts ρ (thenO Φ fun ρ1 => RunS K E Ξ tu ρ1 Φ)) : RunS K E Ξ (tSeq ts tu) ρ Φ := fun F0 H0 σ F H D S e k1 k2 k3 k4 =>
  h F0 H0 σ F H _ S e (fun ρ1 σ1 F1 H1 h1 x1 S1 => h1 F0 H0 σ1 F1 H1 D S1 e (fun ρ2 σ2 F2 H2 h2 x2 S2 => k1 ρ2 σ2 F2 H2 h2 (x1.trans x2) S2) (fun d ρ2 v σ2 F2 H2 h2 x2 S2 n => k2 d ρ2 v σ2 F2 H2 h2 (x1.trans x2) S2 n)
    (fun ρ2 σ2 F2 H2 h2 x2 S2 => k3 ρ2 σ2 F2 H2 h2 (x1.trans x2) S2) (fun ρ2 σ2 F2 H2 h2 x2 S2 => k4 ρ2 σ2 F2 H2 h2 (x1.trans x2) S2)) k2 k3 k4
theorem r_ret (h : EvS K E Ξ te ρ fun d ρ1 => Φ (.rt d ρ1)) : RunS K E Ξ (tRet te) ρ Φ := fun F0 H0 σ F H D S e k1 k2 k3 k4 => h F0 H0 σ F H _ S e fun d ρ1 v F1 H1 h1 x1 S1 n => k2 d ρ1 v σ F1 H1 h1 x1 S1 n
theorem r_retN (h : Φ (.rt .non ρ)) : RunS K E Ξ tRetN ρ Φ := fun F0 H0 σ F H D S e k1 k2 k3 k4 => k2 .non ρ .non σ F H h (Ex.refl F) S (dn_non.mpr rfl)
theorem r_drop (h : EvS K E Ξ te ρ fun _ ρ1 => Φ (.nx ρ1)) : RunS K E Ξ (tDrop te) ρ Φ := fun F0 H0 σ F H D S e k1 k2 k3 k4 => h F0 H0 σ F H _ S e fun d ρ1 v F1 H1 h1 x1 S1 n => k1 ρ1 σ F1 H1 h1 x1 S1
theorem r_asg (h : EvS K E Ξ te ρ fun d ρ1 => RunG K g d ρ1 fun ρ2 => Φ (.nx ρ2)) : RunS K E Ξ (tAsg te g) ρ Φ := fun F0 H0 σ F H D S e k1 k2 k3 k4 =>
  h F0 H0 σ F H _ S e fun d ρ1 v F1 H1 h1 x1 S1 n => h1 F0 H0 σ F1 H1 v _ S1 n fun ρ2 σ2 F2 H2 h2 x2 S2 => k1 ρ2 σ2 F2 H2 h2 (x1.trans x2) S2
theorem r_set (h : EvS K E Ξ te ρ fun d ρ1 => Φ (.nx (ρ1.set i (.dt d)))) : RunS K E Ξ (tAsg te (gName i)) ρ Φ := r_asg (h.imp fun d ρ1 k => gg_name k)
theorem r_setL (h : EvL K E Ξ te ρ fun ds ρ1 => ∀ p, Φ (.nx (ρ1.set i (.ol p ds)))) : RunS K E Ξ (tAsg te (gName i)) ρ Φ := fun F0 H0 σ F H D S e k1 k2 k3 k4 =>
  h F0 H0 σ F H _ S e fun ds ρ1 p vs F1 H1 h1 x1 S1 a b c hp n => k1 _ _ F1 H1 (h1 p) x1 (S1.put (fun _ => ⟨rfl, a, b, vs, hp, n⟩) fun q e j t _ hj z => by
    cases e
    exact c j t hj z)
theorem r_if (h : EvT K E Ξ t ρ fun b ρ1 => (b = true → RunS K E Ξ ts ρ1 Φ) ∧ (b = false → RunS K E Ξ tu ρ1 Φ)) : RunS K E Ξ (tIfS t ts tu) ρ Φ := by
  intro F0 H0 σ F H D S e k1 k2 k3 k4
  refine h F0 H0 σ F H _ S e fun b ρ1 F1 H1 h1 x1 S1 => ?_
  cases b with
  | true => exact (h1.1 rfl) F0 H0 σ F1 H1 D S1 e (fun ρ2 σ2 F2 H2 h2 x2 S2 => k1 ρ2 σ2 F2 H2 h2 (x1.trans x2) S2) (fun d ρ2 v σ2 F2 H2 h2 x2 S2 n => k2 d ρ2 v σ2 F2 H2 h2 (x1.trans x2) S2 n) (fun ρ2 σ2 F2 H2 h2 x2 S2 => k3 ρ2 σ2 F2 H2 h2 (x1.trans x2) S2) (fun ρ2 σ2 F2 H2 h2 x2 S2 => k4 ρ2 σ2 F2 H2 h2 (x1.trans x2) S2)
  | false => exact (h1.2 rfl) F0 H0 σ F1 H1 D S1 e (fun ρ2 σ2 F2 H2 h2 x2 S2 => k1 ρ2 σ2 F2 H2 h2 (x1.trans x2) S2) (fun d ρ2 v σ2 F2 H2 h2 x2 S2 n => k2 d ρ2 v σ2 F2 H2 h2 (x1.trans x2) S2 n) (fun ρ2 σ2 F2 H2 h2 x2 S2 => k3 ρ2 σ2 F2 H2 h2 (x1.trans x2) S2) (fun ρ2 σ2 F2 H2 h2 x2 S2 => k4 ρ2 σ2 F2 H2 h2 (x1.trans x2) S2)
theorem r_when (h : EvT K E Ξ t ρ fun b ρ1 => (b = true → RunS K E Ξ ts ρ1 Φ) ∧ (b = false → Φ (.nx ρ1))) : RunS K E Ξ (tIfS t ts tNext) ρ Φ := r_if (h.imp fun b ρ1 k => ⟨k.1, fun e => r_next (k.2 e)⟩)
theorem r_app {j : Nat} (hj : ρ[j]? = some (.ol p ds)) (hz : ds.length < 100000) (h : EvS K E Ξ te ρ fun d ρ1 => ∃ es, ρ1[j]? = some (.ol p es) ∧ es.length < 100000 ∧ Φ (.nx (ρ1.set j (.ol p (es ++ [d]))))) :
    RunS K E Ξ (tDrop (tBM K "list" rAppend (tVar j) (tCons te tNil))) ρ Φ := fun F0 H0 σ F H D S e k1 k2 k3 k4 => by
  obtain ⟨e1, _, _, vs, e4, n4⟩ := S.own hj
  refine ⟨.ref p, e1, .inl ⟨rfl, vs, .inl (.inl e4)⟩, h F0 H0 σ F H _ S e fun d ρ1 v F1 H1 ⟨es, h1, h2, h3⟩ x1 S1 n => ?_⟩
  obtain ⟨_, _, _, us, e5, n5⟩ := S1.own h1
  exact ⟨p, us, v, rfl, rfl, e5, sz_lt (by rw [← n5.length]; exact h2), k1 _ _ F1 _ h3 x1 (S1.chg h1 (n5.snoc n))⟩
theorem r_setAt {j k : Nat} (h : EvS K E Ξ te ρ fun d ρ1 => ∃ es, ρ1[j]? = some (.ol p es) ∧ k < es.length ∧ Φ (.nx (ρ1.set j (.ol p (es.set k d))))) :
    RunS K E Ξ (tAsg te (gSub (tVar j) (tC (.int (k : Int))) rSetL)) ρ Φ := fun F0 H0 σ F H D S e k1 k2 k3 k4 =>
  h F0 H0 σ F H _ S e fun d ρ1 v F1 H1 ⟨es, h1, h2, h3⟩ x1 S1 n => by
    obtain ⟨e1, _, _, us, e5, n5⟩ := S1.own h1
    refine ⟨.ref p, e1, p, us, k, k, rfl, rfl, e5, ?_, k1 _ _ F1 _ h3 x1 (S1.chg h1 (n5.set n))⟩
    unfold ixN
    rw [if_pos (by omega), if_pos (by rw [← n5.length]; omega)]
    rfl
end
end Z

namespace Z
open PySem PySem.Spec PyProof.Rows L2 Evl
variable {K : PySem.W.Frag}

def IterD (K : PySem.W.Frag) (J : It) (xs : List D) (F : Hp) : Prop :=
  ∀ (i : Nat) (F1 H1 : Hp), Ex F F1 → Ex F1 H1 →
    (∀ d, xs[i]? = some d → J.go i H1 ∧ ∀ v H2, J.yld i H1 v H2 → ∃ F2, Grow F1 H1 F2 H2 ∧ Dn K F2 d v) ∧ (xs.length ≤ i → J.stop i H1)
def EvI (K : PySem.W.Frag) (E : L2.St → XK) (Ξ : Xi) (wi : TI) (ρ : Rho) (Φ : List D → Rho → Prop) : Prop :=
  ∀ (F0 H0 : Hp) (σ : L2.St) (F H : Hp) (R : It → Hp → Prop), Sd K F0 H0 ρ σ F H → EOk K E Ξ F0 H0 →
    (∀ (xs : List D) (ρ' : Rho) (J : It) (F' H' : Hp), Φ xs ρ' → Ex F F' → Sd K F0 H0 ρ' σ F' H' → IterD K J xs F' → R J H') → wi σ H R

section
variable {E : L2.St → XK} {Ξ : Xi} {ρ : Rho} {ta tb tc te : TE} {tl : TA} {t : TT} {ts tu : TS} {i : Nat} {d : D} {ds : List D} {p : Addr} {Φ : Out → Prop} {g : TG} {F : Hp}
theorem iter_lst {a : Addr} {xs : List V} (h : F a = some (.lst xs)) (n : DnL K F ds xs) : IterD K (Itl K a) ds F := fun i F1 H1 x1 y1 => by
  have hq : SqL K H1 a xs := .inl (.inl (y1 _ _ (x1 _ _ h)))
  refine ⟨fun d hd => ?_, fun hl => ⟨xs, hq, by rw [← n.length]; exact hl⟩⟩
  obtain ⟨v, hv, nv⟩ := n.get hd
  refine ⟨⟨xs, v, hq, hv⟩, fun w H2 hy => ?_⟩
  obtain ⟨rfl, hy⟩ := hy
  have e := hy xs hq
  rw [hv] at e
  cases e
  exact ⟨F1, Grow.refl y1, nv.mono x1⟩
theorem iter_tup {a : Addr} {xs : List V} (h : SqT K F a xs) (n : DnL K F ds xs) : IterD K (Itt K a) ds F := fun i F1 H1 x1 y1 => by
  have hq : SqT K H1 a xs := ex_t y1 (ex_t x1 h)
  refine ⟨fun d hd => ?_, fun hl => ⟨xs, hq, by rw [← n.length]; exact hl⟩⟩
  obtain ⟨v, hv, nv⟩ := n.get hd
  refine ⟨⟨xs, v, hq, hv⟩, fun w H2 hy => ?_⟩
  obtain ⟨rfl, hy⟩ := hy
  have e := hy xs hq
  rw [hv] at e
  cases e
  exact ⟨F1, Grow.refl y1, nv.mono x1⟩
theorem iter_str {z : Str} : IterD K (Its z) (z.cps.toList.map fun c => .str ⟨#[c]⟩) F := fun i F1 H1 x1 y1 => by
  refine ⟨fun d hd => ?_, fun hl => by show z.cps.size ≤ i; rw [List.length_map, Array.length_toList] at hl; exact hl⟩
  rw [List.getElem?_map] at hd
  cases q : z.cps.toList[i]? with
  | none => rw [q] at hd; cases hd
  | some c =>
    rw [q] at hd
    cases hd
    have q' : z.cps[i]? = some c := by rw [← Array.getElem?_toList]; exact q
    refine ⟨(Array.getElem?_eq_some_iff.mp q').1, fun w H2 hy => ?_⟩
    obtain ⟨rfl, c', hc, rfl⟩ := hy
    rw [q'] at hc
    cases hc
    exact ⟨F1, Grow.refl y1, dn_str.mpr rfl⟩
theorem iter_rng {lo : Int} {n : Nat} : IterD K (Itr lo n) ((List.range n).map fun i => .int (lo + (i : Nat))) F := fun i F1 H1 x1 y1 => by
  refine ⟨fun d hd => ?_, fun hl => by show n ≤ i; rw [List.length_map, List.length_range] at hl; exact hl⟩
  rw [List.getElem?_map] at hd
  cases q : (List.range n)[i]? with
  | none => rw [q] at hd; cases hd
  | some c =>
    rw [q] at hd
    cases hd
    obtain ⟨hl, hc⟩ := List.getElem?_eq_some_iff.mp q
    rw [List.getElem_range] at hc
    rw [List.length_range] at hl
    subst hc
    refine ⟨hl, fun w H2 hy => ?_⟩
    obtain ⟨rfl, rfl⟩ := hy
    exact ⟨F1, Grow.refl y1, dn_int.mpr rfl⟩
theorem iter_rngC {lo c : Int} {n : Nat} : IterD K (Itc lo c n) ((List.range n).map fun i => .int (lo + (i : Nat) * c)) F := fun i F1 H1 x1 y1 => by
  refine ⟨fun d hd => ?_, fun hl => by show n ≤ i; rw [List.length_map, List.length_range] at hl; exact hl⟩
  rw [List.getElem?_map] at hd
  cases q : (List.range n)[i]? with
  | none => rw [q] at hd; cases hd
  | some c' =>
    rw [q] at hd
    cases hd
    obtain ⟨hl, hc⟩ := List.getElem?_eq_some_iff.mp q
    rw [List.getElem_range] at hc
    rw [List.length_range] at hl
    subst hc
    refine ⟨hl, fun w H2 hy => ?_⟩
    obtain ⟨rfl, rfl⟩ := hy
    exact ⟨F1, Grow.refl y1, dn_int.mpr rfl⟩
theorem pair_new {F1 H1 : Hp} {T : Addr} {a b : V} {x y : D} (y1 : Ex F1 H1) (hT : H1 T = none) (ha : Dn K F1 x a) (hb : Dn K F1 y b) : ∃ F2, Grow F1 H1 F2 (upd H1 T (.tup [a, b])) ∧ Dn K F2 (.tup [x, y]) (.ref T) := by
  have g := Grow.new (o := .tup [a, b]) y1 hT
  exact ⟨_, g, dn_tup.mpr ⟨T, [a, b], rfl, .inl (.inl upd_same), .cons (ha.mono g.ff) (.cons (hb.mono g.ff) .nil)⟩⟩
def enumD (ds : List D) : List D := (List.range ds.length).zipWith (fun i d => .tup [.int (i : Nat), d]) ds
theorem enumD_len : (enumD ds).length = ds.length := by unfold enumD; rw [List.length_zipWith, List.length_range]; exact Nat.min_self _
theorem enumD_get {i : Nat} : (enumD ds)[i]? = ds[i]?.map fun d => .tup [.int (i : Nat), d] := by
  unfold enumD
  rw [List.getElem?_zipWith]
  by_cases h : i < ds.length
  · rw [List.getElem?_eq_getElem h, List.getElem?_eq_getElem (by rw [List.length_range]; exact h), List.getElem_range]
    rfl
  · rw [List.getElem?_eq_none (by omega : ds.length ≤ i), List.getElem?_eq_none (by rw [List.length_range]; omega)]
    rfl
theorem iter_enum {a : Addr} {xs : List V} (h : F a = some (.lst xs)) (n : DnL K F ds xs) : IterD K (Ite K a) (enumD ds) F := fun i F1 H1 x1 y1 => by
  have hq : SqL K H1 a xs := .inl (.inl (y1 _ _ (x1 _ _ h)))
  refine ⟨fun d hd => ?_, fun hl => ⟨xs, hq, by rw [← n.length, ← enumD_len]; exact hl⟩⟩
  rw [enumD_get] at hd
  cases q : ds[i]? with
  | none => rw [q] at hd; cases hd
  | some e =>
    rw [q] at hd
    cases hd
    obtain ⟨v, hv, nv⟩ := n.get q
    refine ⟨⟨xs, v, hq, hv⟩, fun w H2 hy => ?_⟩
    obtain ⟨T, x, rfl, hT, rfl, hx⟩ := hy
    have e := hx xs hq
    rw [hv] at e
    cases e
    exact pair_new y1 hT (dn_int.mpr rfl) (nv.mono x1)
def zipD (ds es : List D) : List D := ds.zipWith (fun a b => .tup [a, b]) es
theorem zipD_get {ds es : List D} {i : Nat} {d : D} (h : (zipD ds es)[i]? = some d) : ∃ a b, ds[i]? = some a ∧ es[i]? = some b ∧ d = .tup [a, b] := by
  unfold zipD at h
  rw [List.getElem?_zipWith] at h
  cases q1 : ds[i]? with
  | none => rw [q1] at h; cases h
  | some a =>
    cases q2 : es[i]? with
    | none => rw [q1, q2] at h; cases h
    | some b => rw [q1, q2] at h; cases h; exact ⟨a, b, rfl, rfl, rfl⟩
theorem iter_zipL {es : List D} {a b : Addr} {xs ys : List V} (h : F a = some (.lst xs)) (n : DnL K F ds xs) (h' : F b = some (.lst ys)) (n' : DnL K F es ys) : IterD K (Itz K a b) (zipD ds es) F := fun i F1 H1 x1 y1 => by
  have hq : SqL K H1 a xs := .inl (.inl (y1 _ _ (x1 _ _ h)))
  have hq' : SqL K H1 b ys := .inl (.inl (y1 _ _ (x1 _ _ h')))
  refine ⟨fun d hd => ?_, fun hl => ⟨xs, ys, hq, hq', by
    unfold zipD at hl
    rw [List.length_zipWith] at hl
    rw [← n.length, ← n'.length]
    omega⟩⟩
  obtain ⟨d1, d2, e1, e2, rfl⟩ := zipD_get hd
  obtain ⟨v, hv, nv⟩ := n.get e1
  obtain ⟨v', hv', nv'⟩ := n'.get e2
  refine ⟨⟨xs, ys, v, v', hq, hq', hv, hv'⟩, fun w H2 hy => ?_⟩
  obtain ⟨T, x, y, rfl, hT, rfl, hx, hx'⟩ := hy
  have e := hx xs hq
  rw [hv] at e
  cases e
  have e := hx' ys hq'
  rw [hv'] at e
  cases e
  exact pair_new y1 hT (nv.mono x1) (nv'.mono x1)
theorem iter_zipT {es : List D} {a b : Addr} {xs ys : List V} (h : SqT K F a xs) (n : DnL K F ds xs) (h' : SqT K F b ys) (n' : DnL K F es ys) : IterD K (RZ.ItzT K a b) (zipD ds es) F := fun i F1 H1 x1 y1 => by
  have hq : SqT K H1 a xs := ex_t y1 (ex_t x1 h)
  have hq' : SqT K H1 b ys := ex_t y1 (ex_t x1 h')
  refine ⟨fun d hd => ?_, fun hl => ⟨xs, ys, hq, hq', by
    unfold zipD at hl
    rw [List.length_zipWith] at hl
    rw [← n.length, ← n'.length]
    omega⟩⟩
  obtain ⟨d1, d2, e1, e2, rfl⟩ := zipD_get hd
  obtain ⟨v, hv, nv⟩ := n.get e1
  obtain ⟨v', hv', nv'⟩ := n'.get e2
  refine ⟨⟨xs, ys, v, v', hq, hq', hv, hv'⟩, fun w H2 hy => ?_⟩
  obtain ⟨T, x, y, rfl, hT, rfl, hx, hx'⟩ := hy
  have e := hx xs hq
  rw [hv] at e
  cases e
  have e := hx' ys hq'
  rw [hv'] at e
  cases e
  exact pair_new y1 hT (nv.mono x1) (nv'.mono x1)

theorem ei_list {Φ : List D → Rho → Prop} (h : EvS K E Ξ te ρ fun d ρ1 => ∃ xs, d = .lst xs ∧ Φ xs ρ1) : EvI K E Ξ (iList K te) ρ Φ := fun F0 H0 σ F H R S e k =>
  h F0 H0 σ F H _ S e fun d ρ1 v F1 H1 ⟨xs, ed, h1⟩ x1 S1 n1 => by
    subst ed
    obtain ⟨a, vs, e1, h2, n2⟩ := dn_lst.mp n1
    exact ⟨a, e1, ⟨vs, .inl (.inl (S1.fh _ _ h2))⟩, k xs ρ1 _ F1 H1 h1 x1 S1 (iter_lst h2 n2)⟩
theorem ei_tup {Φ : List D → Rho → Prop} (h : EvS K E Ξ te ρ fun d ρ1 => ∃ xs, d = .tup xs ∧ Φ xs ρ1) : EvI K E Ξ (iTup K te) ρ Φ := fun F0 H0 σ F H R S e k =>
  h F0 H0 σ F H _ S e fun d ρ1 v F1 H1 ⟨xs, ed, h1⟩ x1 S1 n1 => by
    subst ed
    obtain ⟨a, vs, e1, h2, n2⟩ := dn_tup.mp n1
    exact ⟨a, e1, ⟨vs, ex_t S1.fh h2⟩, k xs ρ1 _ F1 H1 h1 x1 S1 (iter_tup h2 n2)⟩
theorem ei_str {Φ : List D → Rho → Prop} (h : EvS K E Ξ te ρ fun d ρ1 => ∃ z : Str, d = .str z ∧ Φ (z.cps.toList.map fun c => .str ⟨#[c]⟩) ρ1) : EvI K E Ξ (iStr te) ρ Φ := fun F0 H0 σ F H R S e k =>
  h F0 H0 σ F H _ S e fun d ρ1 v F1 H1 ⟨z, ed, h1⟩ x1 S1 n1 => by
    subst ed
    exact ⟨z, dn_str.mp n1, k _ ρ1 _ F1 H1 h1 x1 S1 iter_str⟩
theorem ei_rng1 {Φ : List D → Rho → Prop} (h : EvA K E Ξ tl ρ fun ds ρ1 => ∃ n : Int, ds = [.int n] ∧ -(2 ^ 62) ≤ n ∧ n < 2 ^ 62 ∧ Φ ((List.range n.toNat).map fun i => .int ((0 : Int) + (i : Nat))) ρ1) : EvI K E Ξ (iRng1 tl) ρ Φ := fun F0 H0 σ F H R S e k =>
  h F0 H0 σ F H _ S e fun d ρ1 v F1 H1 ⟨z, ed, h1, h2, h3⟩ x1 S1 n1 => by
    subst ed
    obtain ⟨u, r, e1, n2, n3⟩ := dnl_cons.mp n1
    rw [dn_int.mp n2, dnl_nil.mp n3] at e1
    exact ⟨z, e1, h1, h2, k _ ρ1 _ F1 H1 h3 x1 S1 iter_rng⟩
theorem ei_rng2 {Φ : List D → Rho → Prop} (h : EvA K E Ξ tl ρ fun ds ρ1 => ∃ m n : Int, ds = [.int m, .int n] ∧ (-(2 ^ 62) ≤ m ∧ m < 2 ^ 62 ∧ -(2 ^ 62) ≤ n ∧ n < 2 ^ 62) ∧ Φ ((List.range (n - m).toNat).map fun i => .int (m + (i : Nat))) ρ1) : EvI K E Ξ (iRng2 tl) ρ Φ := fun F0 H0 σ F H R S e k =>
  h F0 H0 σ F H _ S e fun d ρ1 v F1 H1 ⟨z, z', ed, h1, h3⟩ x1 S1 n1 => by
    subst ed
    obtain ⟨u, r, e1, n2, n3⟩ := dnl_cons.mp n1
    obtain ⟨u', r', e2, n4, n5⟩ := dnl_cons.mp n3
    rw [dn_int.mp n2, e2, dn_int.mp n4, dnl_nil.mp n5] at e1
    exact ⟨z, z', e1, h1, k _ ρ1 _ F1 H1 h3 x1 S1 iter_rng⟩
theorem ei_rng3 {Φ : List D → Rho → Prop} (h : EvA K E Ξ tl ρ fun ds ρ1 => ∃ (m n c : Int) (q : Nat), ds = [.int m, .int n, .int c] ∧ RgC m n c q ∧ Φ ((List.range q).map fun i => .int (m + (i : Nat) * c)) ρ1) : EvI K E Ξ (iRng3 tl) ρ Φ := fun F0 H0 σ F H R S e k =>
  h F0 H0 σ F H _ S e fun d ρ1 v F1 H1 ⟨z, z', z'', q, ed, h1, h3⟩ x1 S1 n1 => by
    subst ed
    obtain ⟨u, r, e1, n2, n3⟩ := dnl_cons.mp n1
    obtain ⟨u', r', e2, n4, n5⟩ := dnl_cons.mp n3
    obtain ⟨u'', r'', e3, n6, n7⟩ := dnl_cons.mp n5
    rw [dn_int.mp n2, e2, dn_int.mp n4, e3, dn_int.mp n6, dnl_nil.mp n7] at e1
    exact ⟨z, z', z'', q, e1, h1, k _ ρ1 _ F1 H1 h3 x1 S1 iter_rngC⟩
theorem ei_enum {Φ : List D → Rho → Prop} (h : EvA K E Ξ tl ρ fun ds ρ1 => ∃ xs, ds = [.lst xs] ∧ Φ (enumD xs) ρ1) : EvI K E Ξ (iEnum K tl) ρ Φ := fun F0 H0 σ F H R S e k =>
  h F0 H0 σ F H _ S e fun d ρ1 v F1 H1 ⟨xs, ed, h1⟩ x1 S1 n1 => by
    subst ed
    obtain ⟨u, r, e1, n2, n3⟩ := dnl_cons.mp n1
    obtain ⟨a, vs, e2, h2, n4⟩ := dn_lst.mp n2
    rw [e2, dnl_nil.mp n3] at e1
    exact ⟨a, vs, e1, .inl (.inl (S1.fh _ _ h2)), k _ ρ1 _ F1 H1 h1 x1 S1 (iter_enum h2 n4)⟩
theorem ei_zip {Φ : List D → Rho → Prop} (h : EvA K E Ξ tl ρ fun ds ρ1 => ∃ xs ys, (ds = [.lst xs, .lst ys] ∨ ds = [.tup xs, .tup ys]) ∧ Φ (zipD xs ys) ρ1) : EvI K E Ξ (RZ.iZipA K tl) ρ Φ := fun F0 H0 σ F H R S e k =>
  h F0 H0 σ F H _ S e fun d ρ1 v F1 H1 ⟨xs, ys, ed, h1⟩ x1 S1 n1 => by
    rcases ed with ed | ed
    · subst ed
      obtain ⟨u, r, e1, n2, n3⟩ := dnl_cons.mp n1
      obtain ⟨u', r', e2, n4, n5⟩ := dnl_cons.mp n3
      obtain ⟨a, vs, e3, h2, n6⟩ := dn_lst.mp n2
      obtain ⟨b, us, e4, h3, n7⟩ := dn_lst.mp n4
      rw [e3, e2, e4, dnl_nil.mp n5] at e1
      exact ⟨a, b, vs, us, e1, .inl ⟨.inl (.inl (S1.fh _ _ h2)), .inl (.inl (S1.fh _ _ h3)), k _ ρ1 _ F1 H1 h1 x1 S1 (iter_zipL h2 n6 h3 n7)⟩⟩
    · subst ed
      obtain ⟨u, r, e1, n2, n3⟩ := dnl_cons.mp n1
      obtain ⟨u', r', e2, n4, n5⟩ := dnl_cons.mp n3
      obtain ⟨a, vs, e3, h2, n6⟩ := dn_tup.mp n2
      obtain ⟨b, us, e4, h3, n7⟩ := dn_tup.mp n4
      rw [e3, e2, e4, dnl_nil.mp n5] at e1
      exact ⟨a, b, vs, us, e1, .inr ⟨ex_t S1.fh h2, ex_t S1.fh h3, k _ ρ1 _ F1 H1 h1 x1 S1 (iter_zipT h2 n6 h3 n7)⟩⟩

def turnO (Φ : Out → Prop) (k : Rho → Prop) : Out → Prop := fun o => match o with
  | .nx ρ' => k ρ'
  | .ct ρ' => k ρ'
  | .bk ρ' => Φ (.nx ρ')
  | .rt d ρ' => Φ (.rt d ρ')
theorem r_for {wi : TI} (h : EvI K E Ξ wi ρ fun xs ρ1 => ∃ I : Nat → Rho → Prop, I 0 ρ1 ∧ (∀ i d ρ2, xs[i]? = some d → I i ρ2 → RunG K g d ρ2 fun ρ3 => RunS K E Ξ ts ρ3 (turnO Φ (I (i + 1)))) ∧ ∀ ρ2, I xs.length ρ2 → Φ (.nx ρ2)) :
    RunS K E Ξ (tFor wi g ts) ρ Φ := by
  intro F0 H0 σ F H D S e k1 k2 k3 k4
  refine h F0 H0 σ F H _ S e fun xs ρ1 J F1 H1 ⟨I, i0, turn, fin⟩ x1 S1 it => ?_
  refine ⟨fun i m σ' H' => m = xs.length - i ∧ i ≤ xs.length ∧ ∃ ρ' F', I i ρ' ∧ Ex F1 F' ∧ Sd K F0 H0 ρ' σ' F' H', ⟨xs.length, rfl, Nat.zero_le _, ρ1, F1, i0, Ex.refl F1, S1⟩, ?_⟩
  rintro i m σ' H' ⟨rfl, hi, ρ', F', hI, x', S'⟩
  obtain ⟨a, b⟩ := it i F' H' x' S'.fh
  by_cases hl : i < xs.length
  · obtain ⟨go, yl⟩ := a xs[i] (List.getElem?_eq_getElem hl)
    refine .inr ⟨go, fun σ2 H2 => ∃ ρ2 F2, I (i + 1) ρ2 ∧ Ex F1 F2 ∧ Sd K F0 H0 ρ2 σ2 F2 H2, fun σ2 H2 ⟨ρ2, F2, a1, a2, a3⟩ => ⟨xs.length - (i + 1), by omega, rfl, hl, ρ2, F2, a1, a2, a3⟩, fun v H2 hy => ?_⟩
    obtain ⟨F2, g2, n2⟩ := yl v H2 hy
    refine turn i xs[i] ρ' (List.getElem?_eq_getElem hl) hI F0 H0 σ' F2 H2 v _ (S'.grow g2) n2 fun ρ3 σ3 F3 H3 h3 x3 S3 => ?_
    have y3 : Ex F1 F3 := (x'.trans g2.ff).trans x3
    exact h3 F0 H0 σ3 F3 H3 _ S3 e (fun ρ4 σ4 F4 H4 h4 x4 S4 => ⟨ρ4, F4, h4, y3.trans x4, S4⟩) (fun d ρ4 w σ4 F4 H4 h4 x4 S4 n4 => k2 d ρ4 w σ4 F4 H4 h4 ((x1.trans y3).trans x4) S4 n4)
      (fun ρ4 σ4 F4 H4 h4 x4 S4 => k1 ρ4 σ4 F4 H4 h4 ((x1.trans y3).trans x4) S4) (fun ρ4 σ4 F4 H4 h4 x4 S4 => ⟨ρ4, F4, h4, y3.trans x4, S4⟩)
  · have e1 : i = xs.length := by omega
    subst e1
    exact .inl ⟨b (Nat.le_refl _), k1 ρ' σ' F' H' (fin ρ' hI) (x1.trans x') S'⟩

theorem wipe_get {σ : L2.St} : ∀ {vs : List Nat} {i : Nat}, (wipe σ vs)[i]? = if i ∈ vs ∧ i < σ.length then some none else σ[i]?
  | [], i => by simp [wipe]
  | v :: vs, i => by
    unfold wipe
    by_cases e : v = i
    · subst e
      by_cases hl : v < σ.length
      · rw [List.getElem?_set_self (by rw [wipe_length]; exact hl), if_pos ⟨List.mem_cons_self, hl⟩]
      · rw [if_neg (fun z => hl z.2), List.getElem?_eq_none (by rw [List.length_set, wipe_length]; omega), List.getElem?_eq_none (by omega)]
    · rw [List.getElem?_set_ne e, wipe_get]
      have : (i ∈ vs ∧ i < σ.length) ↔ (i ∈ v :: vs ∧ i < σ.length) := by
        rw [List.mem_cons]
        exact ⟨fun z => ⟨.inr z.1, z.2⟩, fun z => ⟨z.1.elim (fun q => absurd q.symm e) id, z.2⟩⟩
      simp only [this]
theorem wipeR_len {ρ : Rho} : ∀ {vs : List Nat}, (wipeR ρ vs).length = ρ.length
  | [] => rfl
  | v :: vs => by unfold wipeR; rw [List.length_set, wipeR_len]
theorem wipeR_get {ρ : Rho} : ∀ {vs : List Nat} {i : Nat}, (wipeR ρ vs)[i]? = if i ∈ vs ∧ i < ρ.length then some .un else ρ[i]?
  | [], i => by simp [wipeR]
  | v :: vs, i => by
    unfold wipeR
    by_cases e : v = i
    · subst e
      by_cases hl : v < ρ.length
      · rw [List.getElem?_set_self (by rw [wipeR_len]; exact hl), if_pos ⟨List.mem_cons_self, hl⟩]
      · rw [if_neg (fun z => hl z.2), List.getElem?_eq_none (by rw [List.length_set, wipeR_len]; omega), List.getElem?_eq_none (by omega)]
    · rw [List.getElem?_set_ne e, wipeR_get]
      have : (i ∈ vs ∧ i < ρ.length) ↔ (i ∈ v :: vs ∧ i < ρ.length) := by
        rw [List.mem_cons]
        exact ⟨fun z => ⟨.inr z.1, z.2⟩, fun z => ⟨z.1.elim (fun q => absurd q.symm e) id, z.2⟩⟩
      simp only [this]
theorem wipe_wipe {σ : L2.St} {vs : List Nat} : wipe (wipe σ vs) vs = wipe σ vs := by
  apply List.ext_getElem?
  intro i
  rw [wipe_get, wipe_get, wipe_length]
  split <;> rfl
theorem wipe_set {σ : L2.St} {vs : List Nat} {j : Nat} {x : Option V} (h : j ∈ vs) : wipe (σ.set j x) vs = wipe σ vs := by
  apply List.ext_getElem?
  intro i
  rw [wipe_get, wipe_get, List.length_set]
  split
  · rfl
  · rename_i c
    by_cases e : j = i
    · subst e
      have hl : ¬ j < σ.length := fun z => c ⟨h, z⟩
      rw [List.getElem?_eq_none (by rw [List.length_set]; omega), List.getElem?_eq_none (by omega)]
    · rw [List.getElem?_set_ne e]
theorem Sd.weak {F0 H0 F H : Hp} {σ σ' : L2.St} {ρ : Rho} {vs : List Nat} (S : Sd K F0 H0 (wipeR ρ vs) σ F H) (h : L2.wipe σ' vs = L2.wipe σ vs) : Sd K F0 H0 (wipeR ρ vs) σ' F H := by
  have hl : σ'.length = σ.length := by rw [← wipe_length σ' vs, h, wipe_length]
  refine ⟨S.g, by rw [hl]; exact S.len, fun i s hi => ?_, S.dj⟩
  by_cases c : i ∈ vs ∧ i < ρ.length
  · rw [wipeR_get, if_pos c] at hi
    cases hi
    trivial
  · have z := S.sl i s hi
    have il : i < ρ.length := by
      have := (List.getElem?_eq_some_iff.mp hi).1
      rwa [wipeR_len] at this
    have e1 : (L2.wipe σ' vs)[i]? = σ'[i]? := by rw [wipe_get, if_neg (fun q => c ⟨q.1, il⟩)]
    have e2 : (L2.wipe σ vs)[i]? = σ[i]? := by rw [wipe_get, if_neg (fun q => c ⟨q.1, il⟩)]
    rw [← e1, h, e2]
    exact z
theorem Sd.forget {F0 H0 F H : Hp} {σ : L2.St} {ρ : Rho} (S : Sd K F0 H0 ρ σ F H) (vs : List Nat) : Sd K F0 H0 (wipeR ρ vs) σ F H := (S.wipe vs).weak (σ' := σ) wipe_wipe.symm
def GT (g : TG) (vs : List Nat) : Prop := ∀ (v : V) (τ β : L2.St) (H : Hp) (Q : L2.St → Hp → Prop), wipe τ vs = β → g v τ H (fun σ2 H2 => wipe σ2 vs = β → Q σ2 H2) → g v τ H (fun σ2 H2 => wipe σ2 vs = β ∧ Q σ2 H2)
def GTs (g : TGs) (vs : List Nat) : Prop := ∀ (xs : List V) (τ β : L2.St) (H : Hp) (Q : L2.St → Hp → Prop), wipe τ vs = β → g xs τ H (fun σ2 H2 => wipe σ2 vs = β → Q σ2 H2) → g xs τ H (fun σ2 H2 => wipe σ2 vs = β ∧ Q σ2 H2)
theorem gt_name {j : Nat} {vs : List Nat} (h : j ∈ vs) : GT (gName j) vs := fun v τ β H Q e q => by
  have e' : wipe (τ.set j (some v)) vs = β := (wipe_set h).trans e
  exact ⟨e', q e'⟩
theorem gts_nil {vs : List Nat} : GTs gNil vs := fun xs τ β H Q e q => ⟨q.1, e, q.2 e⟩
theorem gts_name {j : Nat} {gs : TGs} {vs : List Nat} (h : j ∈ vs) (h2 : GTs gs vs) : GTs (gCons (gName j) gs) vs := fun xs τ β H Q e q => by
  obtain ⟨v, r, e1, q⟩ := q
  exact ⟨v, r, e1, h2 r _ β H Q ((wipe_set h).trans e) q⟩
theorem gt_tup {gs : TGs} {vs : List Nat} {n : Nat} (h : GTs gs vs) : GT (gTup K n gs) vs := fun v τ β H Q e q => by
  obtain ⟨a, xs, e1, h1, h2, q⟩ := q
  exact ⟨a, xs, e1, h1, h2, h xs τ β H Q e q⟩
theorem el_lc {wi : TI} {vs : List Nat} {Φ : List D → Rho → Prop} (hg : GT g vs)
    (h : EvI K E Ξ wi ρ fun xs ρ1 => xs.length < 100000 ∧ ∃ I : Nat → List D → Rho → Prop, I 0 [] (wipeR ρ1 vs) ∧
      (∀ i d acc ρ2, xs[i]? = some d → I i acc ρ2 → RunG K g d (wipeR ρ2 vs) fun ρ3 => EvT K (fun _ => E0) noX t ρ3 fun b ρ4 => (b = true → EvS K (fun _ => E0) noX te ρ4 fun e ρ5 => I (i + 1) (acc ++ [e]) (wipeR ρ5 vs)) ∧ (b = false → I (i + 1) acc (wipeR ρ4 vs))) ∧
      ∀ acc ρ2, I xs.length acc ρ2 → Φ acc ρ2) : EvL K E Ξ (tLc wi g t te vs) ρ Φ := by
  intro F0 H0 σ F H Q S e k
  refine h F0 H0 σ F H _ S e fun xs ρ1 J F1 H1 ⟨hlen, I, i0, turn, fin⟩ x1 S1 it => ?_
  intro Dl hD
  have hw : Sd K F0 H0 (wipeR ρ1 vs) σ F1 H1 := S1.forget vs
  have d0 : H0 Dl = none := S1.new0 hD
  have S2 : Sd K F0 H0 (wipeR ρ1 vs) σ F1 (upd H1 Dl (.lst [])) := hw.out d0 (fresh_F S1.fh hD) (hw.newAd hD)
  let P : Nat → Hp → Prop := fun i H' => ∃ (ρ' : Rho) (F' : Hp) (acc : List D) (ws : List V), I i acc ρ' ∧ acc.length ≤ i ∧ Ex F1 F' ∧ Sd K F0 H0 ρ' σ F' H' ∧ F' Dl = none ∧ (∀ (i : Nat) (s : Slot), ρ'[i]? = some s → s.ad ≠ some Dl) ∧ H' Dl = some (.lst ws) ∧ DnL K F' acc ws
  refine ⟨fun i m H' => m = xs.length - i ∧ i ≤ xs.length ∧ P i H', ⟨xs.length, rfl, Nat.zero_le _, _, F1, [], [], i0, Nat.le_refl _, Ex.refl F1, S2, fresh_F S1.fh hD, hw.newAd hD, upd_same, .nil⟩, ?_⟩
  rintro i m H' ⟨rfl, hi, ρ', F', acc, ws, hI, hacc, x', S', fD, nD, hDw, nn⟩
  obtain ⟨a, b⟩ := it i F' H' x' S'.fh
  by_cases hl : i < xs.length
  · obtain ⟨go, yl⟩ := a xs[i] (List.getElem?_eq_getElem hl)
    refine .inr ⟨go, fun H2 => P (i + 1) H2, fun H2 p2 => ⟨xs.length - (i + 1), by omega, rfl, hl, p2⟩, fun v H2 hy => ?_⟩
    obtain ⟨F2, g2, n2⟩ := yl v H2 hy
    have hD2 : H2 Dl = some (.lst ws) := g2.hh _ _ hDw
    have fD2 : F2 Dl = none := g2.nw Dl (by rw [hDw]; simp) fD
    have Sb : Sd K F0 H0 (wipeR ρ' vs) (wipe σ vs) F2 H2 := (S'.grow g2).wipe vs
    have nb : ∀ (i : Nat) (s : Slot), (wipeR ρ' vs)[i]? = some s → s.ad ≠ some Dl := fun i s hs => by
      rw [wipeR_get] at hs
      split at hs
      · cases hs
        intro z
        cases z
      · exact nD i s hs
    have dk : delS (wipeR ρ' vs) H2 Dl = some (.lst ws) := (delS_keep nb).trans hD2
    have x2 : Ex F1 F2 := x'.trans g2.ff
    refine hg v (wipe σ vs) (wipe σ vs) H2 _ wipe_wipe ?_
    refine turn i xs[i] acc ρ' (List.getElem?_eq_getElem hl) hI F2 _ (wipe σ vs) F2 H2 v _ Sb.rebase n2 fun ρ3 σ3 F3 H3 h3 x3 S3 hw3 => ?_
    refine h3 F2 _ σ3 F3 H3 _ S3 EOk.no fun c ρ4 F4 H4 h4 x4 S4 => ?_
    have back : ∀ {ρ5 : Rho} {F5 H5 : Hp}, Sd K F2 (delS (wipeR ρ' vs) H2) ρ5 σ3 F5 H5 → Sd K F0 H0 (wipeR ρ5 vs) σ F5 H5 ∧ H5 Dl = some (.lst ws) ∧ F5 Dl = none ∧ ∀ (i : Nat) (s : Slot), (wipeR ρ5 vs)[i]? = some s → s.ad ≠ some Dl := fun {ρ5 F5 H5} S5 => by
      have q1 : Sd K F2 (delS (wipeR ρ' vs) H2) (wipeR ρ5 vs) (wipe σ vs) F5 H5 := (hw3 ▸ S5.wipe vs)
      refine ⟨(Sb.unbase q1).weak (σ' := σ) wipe_wipe.symm, S5.g.hh _ _ dk, S5.g.nw Dl (by rw [dk]; simp) fD2, fun i s hs z => ?_⟩
      have := ((q1.sl i s hs).ad z).1
      rw [dk] at this
      cases this
    cases c with
    | true =>
      show te σ3 H4 fun y H5 => ∃ acc', H5 Dl = some (.lst acc') ∧ acc'.length < sizeLine ∧ P (i + 1) (upd H5 Dl (.lst (acc' ++ [y])))
      refine (h4.1 rfl) F2 _ σ3 F4 H4 _ S4 EOk.no fun q ρ5 y F5 H5 h5 x5 S5 n5 => ?_
      obtain ⟨b1, b2, b3, b4⟩ := back S5
      have x6 : Ex F' F5 := ((g2.ff.trans x3).trans x4).trans x5
      refine ⟨ws, b2, sz_lt (by rw [← nn.length]; omega), wipeR ρ5 vs, F5, acc ++ [q], ws ++ [y], h5, by rw [List.length_append]; exact Nat.succ_le_succ hacc, x'.trans x6, b1.out d0 b3 b4, b3, b4, upd_same, (nn.mono x6).snoc n5⟩
    | false =>
      show P (i + 1) H4
      obtain ⟨b1, b2, b3, b4⟩ := back S4
      have x6 : Ex F' F4 := (g2.ff.trans x3).trans x4
      exact ⟨wipeR ρ4 vs, F4, acc, ws, h4.2 rfl, Nat.le_succ_of_le hacc, x'.trans x6, b1, b3, b4, b2, nn.mono x6⟩
  · have e1 : i = xs.length := by omega
    subst e1
    exact .inl ⟨b (Nat.le_refl _), k acc ρ' Dl ws F' H' (fin acc ρ' hI) (x1.trans x') S' d0 fD nD hDw nn⟩
theorem et_yes {Φ : Bool → Rho → Prop} (h : Φ true ρ) : EvT K E Ξ tYes ρ Φ := fun F0 H0 σ F H Q S e k => k true ρ F H h (Ex.refl F) S
theorem el_map {wi : TI} {vs : List Nat} {Φ : List D → Rho → Prop} (hg : GT g vs) (f : D → D)
    (h : EvI K E Ξ wi ρ fun xs ρ1 => xs.length < 100000 ∧ (∀ d ∈ xs, RunG K g d (wipeR (wipeR ρ1 vs) vs) fun ρ3 => EvS K (fun _ => E0) noX te ρ3 fun e ρ5 => e = f d ∧ wipeR ρ5 vs = wipeR ρ1 vs) ∧ Φ (xs.map f) (wipeR ρ1 vs)) : EvL K E Ξ (tLc wi g tYes te vs) ρ Φ := by
  refine el_lc hg fun F0 H0 σ F H R S e k => h F0 H0 σ F H R S e fun xs ρ1 J F1 H1 ⟨h1, h2, h3⟩ => k xs ρ1 J F1 H1 ⟨h1, fun i acc ρ2 => acc = (xs.take i).map f ∧ ρ2 = wipeR ρ1 vs, ⟨rfl, rfl⟩, fun i d acc ρ2 hd ⟨ea, er⟩ => ?_, fun acc ρ2 ⟨ea, er⟩ => ?_⟩
  · subst er
    have hm : d ∈ xs := List.mem_of_getElem? hd
    intro F0 H0 σ F H v Q S n q
    refine h2 d hm F0 H0 σ F H v Q S n fun ρ3 σ3 F3 H3 h3 => q ρ3 σ3 F3 H3 (et_yes ⟨fun _ => h3.imp fun e ρ5 z => ⟨?_, z.2⟩, fun z => by cases z⟩)
    rw [ea, z.1, List.take_add_one, hd, List.map_append]
    rfl
  · subst ea er
    rw [List.take_length]
    exact h3
theorem el_filt {wi : TI} {vs : List Nat} {Φ : List D → Rho → Prop} (hg : GT g vs) (c : D → Bool) (f : D → D)
    (h : EvI K E Ξ wi ρ fun xs ρ1 => xs.length < 100000 ∧ (∀ d ∈ xs, RunG K g d (wipeR (wipeR ρ1 vs) vs) fun ρ3 => EvT K (fun _ => E0) noX t ρ3 fun b ρ4 => b = c d ∧ wipeR ρ4 vs = wipeR ρ1 vs ∧ (b = true → EvS K (fun _ => E0) noX te ρ4 fun e ρ5 => e = f d ∧ wipeR ρ5 vs = wipeR ρ1 vs)) ∧ Φ ((xs.filter c).map f) (wipeR ρ1 vs)) :
    EvL K E Ξ (tLc wi g t te vs) ρ Φ := by
  refine el_lc hg fun F0 H0 σ F H R S e k => h F0 H0 σ F H R S e fun xs ρ1 J F1 H1 ⟨h1, h2, h3⟩ => k xs ρ1 J F1 H1 ⟨h1, fun i acc ρ2 => acc = ((xs.take i).filter c).map f ∧ ρ2 = wipeR ρ1 vs, ⟨rfl, rfl⟩, fun i d acc ρ2 hd ⟨ea, er⟩ => ?_, fun acc ρ2 ⟨ea, er⟩ => ?_⟩
  · subst er
    have hm : d ∈ xs := List.mem_of_getElem? hd
    intro F0 H0 σ F H v Q S n q
    refine h2 d hm F0 H0 σ F H v Q S n fun ρ3 σ3 F3 H3 h3 => q ρ3 σ3 F3 H3 (h3.imp fun b ρ4 ⟨eb, e4, h4⟩ => ⟨fun eb1 => (h4 eb1).imp fun e ρ5 z => ⟨?_, z.2⟩, fun eb1 => ⟨?_, e4⟩⟩)
    · rw [ea, z.1, List.take_add_one, hd, List.filter_append, List.map_append]
      have : c d = true := by rw [← eb, eb1]
      simp [this]
    · rw [ea, List.take_add_one, hd, List.filter_append, List.map_append]
      have : c d = false := by rw [← eb, eb1]
      simp [this]
  · subst ea er
    rw [List.take_length]
    exact h3
end
end Z

namespace Z
open PySem PySem.Spec PyProof.Rows L2 Evl
variable {K : PySem.W.Frag}

abbrev Theta := Addr → Option (Str × D) → Prop
abbrev noT : Theta := fun _ _ => False
abbrev PP := List D → (D → Prop) → Theta → Prop
def spP (K : PySem.W.Frag) (P : PP) : Sp := fun vs H Q E => ∃ (ds : List D) (F : Hp) (Φ : D → Prop) (Θ : Theta), P ds Φ Θ ∧ Ex F H ∧ DnL K F ds vs ∧
  (∀ (d : D) (v : V) (F' H' : Hp), Φ d → Grow F H F' H' → Dn K F' d v → Q v H') ∧
  (∀ (C : Addr) (fld : Option (Str × D)) (dd : Option Addr) (F' H' : Hp), Θ C fld → Grow F H F' H' → ExOk K F' H' fld dd → E (.ref C) dd H')
def delA (p : Addr) (H : Hp) : Hp := fun a => if a = p then none else H a
theorem delA_ne {p a : Addr} {H : Hp} (h : a ≠ p) : delA p H a = H a := if_neg h
theorem delA_same {p : Addr} {H : Hp} : delA p H p = none := if_pos rfl
theorem delA_some {p a : Addr} {H : Hp} {o : HO} (h : delA p H a = some o) : H a = some o := by
  unfold delA at h
  split at h
  · cases h
  · exact h
abbrev PQ := List D → List D → (D → List D → Prop) → Prop
def spQ (K : PySem.W.Frag) (P : PQ) : Sp := fun vs H Q E => ∃ (p : Addr) (ws : List V) (xs : List D) (vs' : List V) (ds : List D) (F : Hp) (Ψ : D → List D → Prop), vs = .ref p :: vs' ∧ P xs ds Ψ ∧ Ex F H ∧ F p = none ∧ H p = some (.lst ws) ∧ DnL K F xs ws ∧ DnL K F ds vs' ∧
  ∀ (d : D) (xs2 : List D) (v : V) (ws2 : List V) (F' H' : Hp), Ψ d xs2 → Grow F (delA p H) F' H' → F' p = none → H' p = some (.lst ws2) → DnL K F' xs2 ws2 → Dn K F' d v → Q v H'

section
variable {E : L2.St → XK} {Ξ : Xi} {ρ : Rho} {ta tb tc te : TE} {tl : TA} {t : TT} {ts tu : TS} {i : Nat} {d : D} {ds : List D} {p : Addr} {g : TG} {F : Hp}
theorem ev_call {Φ : D → Rho → Prop} {P : PP} (h : EvA K E Ξ tl ρ fun ds ρ1 => ∃ Ψ Θ, P ds Ψ Θ ∧ (∀ d, Ψ d → Φ d ρ1) ∧ ∀ C fld, Θ C fld → Ξ C fld ρ1) : EvS K E Ξ (tCallSD (spP K P) [] E tl) ρ Φ := fun F0 H0 σ F H Q S e k =>
  h F0 H0 σ F H _ S e fun ds ρ1 vs F1 H1 ⟨Ψ, Θ, h1, h2, h3⟩ x1 S1 n1 => by
    rw [List.append_nil]
    exact ⟨ds, F1, Ψ, Θ, h1, S1.fh, n1, fun d v F' H' hd g n => k d ρ1 v F' H' (h2 d hd) (x1.trans g.ff) (S1.grow g) n, fun C fld dd F' H' hc g x => e C fld ρ1 σ dd F' H' (h3 C fld hc) (S1.grow g) x⟩
theorem Sd.called {F0 H0 F H F' H' : Hp} {σ : L2.St} {es : List D} {us : List V} (S : Sd K F0 H0 ρ σ F H) (h : ρ[i]? = some (.ol p ds)) (g : Grow F (delA p H) F' H') (hf : F' p = none) (hh : H' p = some (.lst us)) (n : DnL K F' es us) : Sd K F0 H0 (ρ.set i (.ol p es)) σ F' H' := by
  obtain ⟨e1, e2, e3, _⟩ := S.own h
  have hl : i < ρ.length := (List.getElem?_eq_some_iff.mp h).1
  have ne : ∀ a, H0 a ≠ none → a ≠ p := fun a ha z => ha (z ▸ e2)
  refine ⟨⟨S.g.ff.trans g.ff, fun a o ha => g.hh a o (by rw [delA_ne (ne a (by rw [ha]; simp))]; exact S.g.hh a o ha), g.fh, fun a h1 h2 => g.nw a ?_ (S.g.nw a h1 h2)⟩, by rw [List.length_set, S.len], fun j t hj => ?_, fun j k t u r h1 h2 h3 h4 => ?_⟩
  · rw [delA_ne (ne a h1)]
    cases q : H0 a with
    | none => exact absurd q h1
    | some o => rw [S.g.hh a o q]; simp
  · by_cases e : i = j
    · subst e
      rw [List.getElem?_set_self hl] at hj
      cases hj
      exact ⟨by rw [e1] <;> rfl, e2, hf, us, hh, n⟩
    · rw [get_set_ne e] at hj
      have z := S.sl j t hj
      have nad : ∀ r, t.ad = some r → r ≠ p := fun r hr c => e (S.dj i j _ t p h hj rfl (by rw [hr, c]))
      cases t with
      | un => trivial
      | dt d => obtain ⟨v, a, b⟩ := z; exact ⟨v, a, b.mono g.ff⟩
      | ol r rs => obtain ⟨a, b, c, ws, x, y⟩ := z; have q := delA_ne (H := H) (nad r rfl); exact ⟨a, b, g.nw r (by rw [q, x]; simp) c, ws, g.hh _ _ (by rw [q]; exact x), y.mono g.ff⟩
      | od r kk rs => obtain ⟨a, b, c, ws, x, l, y⟩ := z; have q := delA_ne (H := H) (nad r rfl); exact ⟨a, b, g.nw r (by rw [q, x]; simp) c, ws, g.hh _ _ (by rw [q]; exact x), l, y.mono g.ff⟩
  · have back : ∀ (j : Nat) (t : Slot), (ρ.set i (.ol p es))[j]? = some t → ∃ t', ρ[j]? = some t' ∧ t'.ad = t.ad := fun j t hj => by
      by_cases e : i = j
      · subst e
        rw [List.getElem?_set_self hl] at hj
        cases hj
        exact ⟨_, h, rfl⟩
      · rw [get_set_ne e] at hj
        exact ⟨t, hj, rfl⟩
    obtain ⟨t', a1, a2⟩ := back j t h1
    obtain ⟨u', b1, b2⟩ := back k u h2
    exact S.dj j k t' u' r a1 b1 (a2.trans h3) (b2.trans h4)
theorem ev_callQ {Φ : D → Rho → Prop} {P : PQ} (h0 : ρ[i]? = some (.ol p ds)) (h : EvA K E Ξ tl ρ fun as ρ1 => ∃ xs, ρ1[i]? = some (.ol p xs) ∧ ∃ Ψ, P xs as Ψ ∧ ∀ d xs2, Ψ d xs2 → Φ d (ρ1.set i (.ol p xs2))) : EvS K E Ξ (tCallSD (spQ K P) [] E (tCons (tVar i) tl)) ρ Φ := fun F0 H0 σ F H Q S e k => by
  obtain ⟨e1, _⟩ := S.own h0
  refine ⟨.ref p, e1, h F0 H0 σ F H _ S e fun as ρ1 vs F1 H1 ⟨xs, h1, Ψ, h2, h3⟩ x1 S1 n1 => ?_⟩
  obtain ⟨_, _, f1, ws, h5, n5⟩ := S1.own h1
  rw [List.append_nil]
  exact ⟨p, ws, xs, vs, as, F1, Ψ, rfl, h2, S1.fh, f1, h5, n5, n1, fun d xs2 v ws2 F' H' hd g a b c n => k d _ v F' H' (h3 d xs2 hd) (x1.trans g.ff) (S1.called h1 g a b c) n⟩

def endO (Φ : D → Prop) : Out → Prop := fun o => match o with
  | .rt d _ => Φ d
  | .nx _ => Φ .non
  | _ => False
def endQ (p : Addr) (Ψ : D → List D → Prop) : Out → Prop := fun o => match o with
  | .rt d ρ => ∃ xs, ρ[0]? = some (.ol p xs) ∧ Ψ d xs
  | .nx ρ => ∃ xs, ρ[0]? = some (.ol p xs) ∧ Ψ .non xs
  | _ => False
def rho0 (n : Nat) (ds : List D) : Rho := ds.map Slot.dt ++ List.replicate (n - ds.length) .un
def rhoQ (n : Nat) (p : Addr) (xs : List D) (ds : List D) : Rho := .ol p xs :: (ds.map Slot.dt ++ List.replicate (n - (ds.length + 1)) .un)
theorem start_get {N : List Str} {vs : List V} {i : Nat} {v : V} (h : vs[i]? = some v) : (L2.start N vs)[i]? = some (some v) := by
  unfold L2.start
  rw [List.getElem?_append_left (by rw [List.length_map]; exact (List.getElem?_eq_some_iff.mp h).1), List.getElem?_map, h]
  rfl
theorem rep_un {n i : Nat} {s : Slot} (h : (List.replicate n Slot.un)[i]? = some s) : s = .un := by
  rw [List.getElem?_replicate] at h
  split at h
  · cases h; rfl
  · cases h
theorem body_pure {N : List Str} {P : PP} {ts : TS} {vs : List V} {H : Hp} {Q : VK} {E' : XK} 
    (h : ∀ ds Φ Θ, P ds Φ Θ → RunS K (fun _ => E') (fun C fld _ => Θ C fld) ts (rho0 N.length ds) (endO Φ)) (sp : spP K P vs H Q E') : ts { nx := fun _ H' => Q .non H', rt := Q } (L2.start N vs) H := by
  obtain ⟨ds, F, Φ, Θ, h1, x, n, q, qe⟩ := sp
  have hlen := n.length
  have S : Sd K F H (rho0 N.length ds) (L2.start N vs) F H := by
    refine ⟨Grow.refl x, ?_, fun i s hi => ?_, fun i j s t p h1 h2 h3 h4 => ?_⟩
    · unfold L2.start rho0
      rw [List.length_append, List.length_append, List.length_map, List.length_map, List.length_replicate, List.length_replicate, hlen]
    · unfold rho0 at hi
      by_cases c : i < ds.length
      · rw [List.getElem?_append_left (by rw [List.length_map]; exact c), List.getElem?_map, List.getElem?_eq_getElem c] at hi
        cases hi
        obtain ⟨v, hv, nv⟩ := n.get (List.getElem?_eq_getElem c)
        exact ⟨v, by rw [start_get hv] <;> rfl, nv⟩
      · rw [List.getElem?_append_right (by rw [List.length_map]; omega)] at hi
        rw [rep_un hi]
        trivial
    · unfold rho0 at h1
      by_cases c : i < ds.length
      · rw [List.getElem?_append_left (by rw [List.length_map]; exact c), List.getElem?_map, List.getElem?_eq_getElem c] at h1
        cases h1
        cases h3
      · rw [List.getElem?_append_right (by rw [List.length_map]; omega)] at h1
        rw [rep_un h1] at h3
        cases h3
  refine h ds Φ Θ h1 F H (L2.start N vs) F H _ S (fun C fld ρ σ dd F' H' hc S' x' => qe C fld dd F' H' hc S'.g x') (fun ρ' σ' F' H' hn x' S' => q .non .non F' H' hn S'.g (dn_non.mpr rfl)) (fun d ρ' v σ' F' H' hr x' S' nv => q d v F' H' hr S'.g nv) (fun ρ' σ' F' H' hb => hb.elim) (fun ρ' σ' F' H' hb => hb.elim)
theorem body_own {N : List Str} {P : PQ} {ts : TS} {vs : List V} {H : Hp} {Q : VK} {E' : XK} 
    (h : ∀ xs ds Ψ, P xs ds Ψ → ∀ p, RunS K (fun _ => E') noX ts (rhoQ N.length p xs ds) (endQ p Ψ)) (sp : spQ K P vs H Q E') : ts { nx := fun _ H' => Q .non H', rt := Q } (L2.start N vs) H := by
  obtain ⟨p, ws, xs, vs', ds, F, Ψ, rfl, h1, x, fp, hp, nx, n, q⟩ := sp
  have hlen := n.length
  have S : Sd K F (delA p H) (rhoQ N.length p xs ds) (L2.start N (.ref p :: vs')) F H := by
    refine ⟨⟨Ex.refl F, fun a o ha => delA_some ha, x, fun a _ h => h⟩, ?_, fun i s hi => ?_, fun i j s t r h1 h2 h3 h4 => ?_⟩
    · unfold L2.start rhoQ
      simp only [List.length_append, List.length_cons, List.length_map, List.length_replicate, hlen]
      omega
    · cases i with
      | zero =>
        cases hi
        exact ⟨by rw [start_get (v := .ref p) rfl] <;> rfl, delA_same, fp, ws, hp, nx⟩
      | succ i =>
        have hi' : (ds.map Slot.dt ++ List.replicate (N.length - (ds.length + 1)) .un)[i]? = some s := hi
        by_cases c : i < ds.length
        · rw [List.getElem?_append_left (by rw [List.length_map]; exact c), List.getElem?_map, List.getElem?_eq_getElem c] at hi'
          cases hi'
          obtain ⟨v, hv, nv⟩ := n.get (List.getElem?_eq_getElem c)
          exact ⟨v, by rw [start_get (N := N) (vs := .ref p :: vs') (i := i + 1) (v := v) hv] <;> rfl, nv⟩
        · rw [List.getElem?_append_right (by rw [List.length_map]; omega)] at hi'
          rw [rep_un hi']
          trivial
    · have only : ∀ (i : Nat) (s : Slot), (rhoQ N.length p xs ds)[i]? = some s → s.ad = some r → i = 0 := fun i s hi hr => by
        cases i with
        | zero => rfl
        | succ i =>
          have hi' : (ds.map Slot.dt ++ List.replicate (N.length - (ds.length + 1)) .un)[i]? = some s := hi
          by_cases c : i < ds.length
          · rw [List.getElem?_append_left (by rw [List.length_map]; exact c), List.getElem?_map, List.getElem?_eq_getElem c] at hi'
            cases hi'
            cases hr
          · rw [List.getElem?_append_right (by rw [List.length_map]; omega)] at hi'
            rw [rep_un hi'] at hr
            cases hr
      rw [only i s h1 h3, only j t h2 h4]
  refine h xs ds Ψ h1 p F _ (L2.start N (.ref p :: vs')) F H _ S EOk.no (fun ρ' σ' F' H' ⟨xs2, e, hn⟩ x' S' => ?_) (fun d ρ' v σ' F' H' ⟨xs2, e, hr⟩ x' S' nv => ?_) (fun ρ' σ' F' H' hb => hb.elim) (fun ρ' σ' F' H' hb => hb.elim)
  · obtain ⟨_, _, a, ws2, b, c⟩ := S'.own e
    exact q .non xs2 .non ws2 F' H' hn S'.g a b c (dn_non.mpr rfl)
  · obtain ⟨_, _, a, ws2, b, c⟩ := S'.own e
    exact q d xs2 v ws2 F' H' hr S'.g a b c nv

def lookD : List Str → List D → Str → Option D
  | k :: ks, d :: ds, f => if f == k then some d else lookD ks ds f
  | _, _, _ => none
theorem lookD_ok {F : Hp} {f : Str} : ∀ {ks : List Str} {ds : List D} {xs : List V} {d : D}, DnL K F ds xs → lookD ks ds f = some d → ∃ v, (ks.zip xs).lookup f = some v ∧ Dn K F d v
  | [], _, _, _, _, h => by simp [lookD] at h
  | _ :: _, [], _, _, _, h => by simp [lookD] at h
  | k :: ks, e :: es, xs, d, n, h => by
    obtain ⟨v, r, ex, n1, n2⟩ := dnl_cons.mp n
    subst ex
    unfold lookD at h
    rw [List.zip_cons_cons, List.lookup_cons]
    cases c : f == k with
    | true =>
      rw [c, if_pos rfl] at h
      cases h
      exact ⟨v, rfl, n1⟩
    | false =>
      rw [c, if_neg (by decide)] at h
      exact lookD_ok n2 h
theorem ev_fld {Φ : D → Rho → Prop} {f : Str} (h : EvS K E Ξ te ρ fun d ρ1 => ∃ C ks ds e, d = .obj C ks ds ∧ Cls K C ∧ NoAttr K C f ∧ lookD ks ds f = some e ∧ Φ e ρ1) : EvS K E Ξ (tFld K te f) ρ Φ := fun F0 H0 σ F H Q S e k =>
  h F0 H0 σ F H _ S e fun d ρ1 v F1 H1 ⟨C, ks, ds, q, ed, c, na, l, h1⟩ x1 S1 n1 => by
    subst ed
    obtain ⟨a, dx, xs, e1, h2, h3, hl, n2⟩ := dn_obj.mp n1
    obtain ⟨u, l2, n3⟩ := lookD_ok n2 l
    exact ⟨a, C, dx, _, u, e1, S1.fh _ _ h2, c, na, l2, k q ρ1 u F1 H1 h1 x1 S1 n3⟩
end
end Z

namespace Z
open PySem PySem.Spec PyProof.Rows L2 Evl
variable {K : PySem.W.Frag}

mutual
def py : D → PyData
  | .non => .none | .bl b => .bool b | .int i => .int i | .str s => .str s
  | .tup ds => .tuple (pyL ds) | .lst ds => .list (pyL ds) | _ => .none
def pyL : List D → List PyData
  | [] => []
  | d :: ds => py d :: pyL ds
end
mutual
def okD : Nat → D → Bool
  | _, .non => true | _, .bl _ => true | _, .int _ => true | _, .str s => PyData.strOk s
  | n + 1, .tup ds => okL n ds | n + 1, .lst ds => okL n ds | _, _ => false
def okL : Nat → List D → Bool
  | _, [] => true
  | n, d :: ds => okD n d && okL n ds
end
mutual
theorem okD_lay : ∀ (n : Nat) (d : D), okD n d = true → (py d).canLay0 = true ∧ (py d).depth ≤ n
  | n, .non, _ => by unfold py; exact ⟨by simp [PyData.canLay0], by simp [PyData.depth]⟩
  | n, .bl _, _ => by unfold py; exact ⟨by simp [PyData.canLay0], by simp [PyData.depth]⟩
  | n, .int _, _ => by unfold py; exact ⟨by simp [PyData.canLay0], by simp [PyData.depth]⟩
  | n, .str s, h => by
    unfold py
    unfold okD at h
    exact ⟨by simpa [PyData.canLay0] using h, by simp [PyData.depth]⟩
  | 0, .tup ds, h => by unfold okD at h; cases h
  | n + 1, .tup ds, h => by
    unfold py
    unfold okD at h
    have z := okL_lay n ds h
    exact ⟨by simpa [PyData.canLay0] using z.1, by simpa [PyData.depth] using z.2⟩
  | 0, .lst ds, h => by unfold okD at h; cases h
  | n + 1, .lst ds, h => by
    unfold py
    unfold okD at h
    have z := okL_lay n ds h
    exact ⟨by simpa [PyData.canLay0] using z.1, by simpa [PyData.depth] using z.2⟩
  | 0, .dic _ _, h => by unfold okD at h; cases h
  | n + 1, .dic _ _, h => by unfold okD at h; cases h
  | 0, .obj _ _ _, h => by unfold okD at h; cases h
  | n + 1, .obj _ _ _, h => by unfold okD at h; cases h
  | 0, .scr _, h => by unfold okD at h; cases h
  | n + 1, .scr _, h => by unfold okD at h; cases h
theorem okL_lay : ∀ (n : Nat) (ds : List D), okL n ds = true → PyData.canLayAll0 (pyL ds) = true ∧ PyData.depthAll (pyL ds) ≤ n
  | n, [], _ => by unfold pyL; exact ⟨by simp [PyData.canLayAll0], by simp [PyData.depthAll]⟩
  | n, d :: ds, h => by
    unfold pyL
    unfold okL at h
    have h' := Bool.and_eq_true_iff.mp h
    have z1 := okD_lay n d h'.1
    have z2 := okL_lay n ds h'.2
    exact ⟨by rw [PyData.canLayAll0, z1.1, z2.1]; rfl, by rw [PyData.depthAll]; exact Nat.max_le.mpr ⟨z1.2, z2.2⟩⟩
end
theorem okD_shaped {d : D} {n : Nat} (h : okD n d = true) (hn : n ≤ 64 := by decide) : SeqAt.shaped (py d) = true := by
  have z := okD_lay n d h
  unfold SeqAt.shaped
  rw [z.1, decide_eq_true (Nat.le_trans z.2 hn)]
  rfl
mutual
theorem dn_dp {F : Hp} : ∀ (n : Nat) (d : D) (v : V), okD n d = true → Dn K F d v → Dp K F v (py d)
  | n, .non, v, _, h => by rw [dn_non.mp h]; unfold py; exact .non
  | n, .bl b, v, _, h => by rw [dn_bl.mp h]; unfold py; exact .bl b
  | n, .int i, v, _, h => by rw [dn_int.mp h]; unfold py; exact .int i
  | n, .str s, v, _, h => by rw [dn_str.mp h]; unfold py; exact .str s
  | 0, .tup ds, v, k, h => by unfold okD at k; cases k
  | n + 1, .tup ds, v, k, h => by
    unfold okD at k
    obtain ⟨a, xs, e, h1, h2⟩ := dn_tup.mp h
    rw [e]
    unfold py
    exact .tup h1 (dnl_dp n ds xs k h2)
  | 0, .lst ds, v, k, h => by unfold okD at k; cases k
  | n + 1, .lst ds, v, k, h => by
    unfold okD at k
    obtain ⟨a, xs, e, h1, h2⟩ := dn_lst.mp h
    rw [e]
    unfold py
    exact .lst (.inl (.inl h1)) (dnl_dp n ds xs k h2)
  | 0, .dic _ _, _, h, _ => by unfold okD at h; cases h
  | n + 1, .dic _ _, _, h, _ => by unfold okD at h; cases h
  | 0, .obj _ _ _, _, h, _ => by unfold okD at h; cases h
  | n + 1, .obj _ _ _, _, h, _ => by unfold okD at h; cases h
  | 0, .scr _, _, h, _ => by unfold okD at h; cases h
  | n + 1, .scr _, _, h, _ => by unfold okD at h; cases h
theorem dnl_dp {F : Hp} : ∀ (n : Nat) (ds : List D) (vs : List V), okL n ds = true → DnL K F ds vs → DpAll K F vs (pyL ds)
  | n, [], vs, _, h => by rw [dnl_nil.mp h]; unfold pyL; exact .nil
  | n, d :: ds, vs, k, h => by
    unfold okL at k
    have k' := Bool.and_eq_true_iff.mp k
    obtain ⟨v, r, e, h1, h2⟩ := dnl_cons.mp h
    rw [e]
    unfold pyL
    exact .cons (dn_dp n d v k'.1 h1) (dnl_dp n ds r k'.2 h2)
end
def deq (x y : D) : Bool := PyData.eqv (py x) (py y)
def deqL (x y : List D) : Bool := PyData.eqvAll (pyL x) (pyL y)
theorem deq_refl {n : Nat} {d : D} (h : okD n d = true) : deq d d = true := SeqAt.eqv_refl _ (okD_lay n d h).1
@[simp] theorem deq_str {x y : Str} : deq (.str x) (.str y) = (x == y) := by unfold deq py; simp [PyData.eqv]
@[simp] theorem deq_int {x y : Int} : deq (.int x) (.int y) = (x == y) := by unfold deq py; simp [PyData.eqv]
@[simp] theorem deq_bl {x y : Bool} : deq (.bl x) (.bl y) = (x == y) := by unfold deq py; simp [PyData.eqv]
@[simp] theorem deq_tup {x y : List D} : deq (.tup x) (.tup y) = deqL x y := by unfold deq deqL py; simp [PyData.eqv]
@[simp] theorem deq_lst {x y : List D} : deq (.lst x) (.lst y) = deqL x y := by unfold deq deqL py; simp [PyData.eqv]
@[simp] theorem deq_non_str {y : Str} : deq .non (.str y) = false := by unfold deq py; simp [PyData.eqv]
@[simp] theorem deq_str_non {y : Str} : deq (.str y) .non = false := by unfold deq py; simp [PyData.eqv]
@[simp] theorem deq_non : deq .non .non = true := by unfold deq py; simp [PyData.eqv]
@[simp] theorem deq_int_str {x : Int} {y : Str} : deq (.int x) (.str y) = false := by unfold deq py; simp [PyData.eqv]
@[simp] theorem deq_str_int {x : Int} {y : Str} : deq (.str y) (.int x) = false := by unfold deq py; simp [PyData.eqv]
@[simp] theorem deq_non_int {x : Int} : deq .non (.int x) = false := by unfold deq py; simp [PyData.eqv]
@[simp] theorem deq_int_non {x : Int} : deq (.int x) .non = false := by unfold deq py; simp [PyData.eqv]
@[simp] theorem deqL_nil : deqL [] [] = true := by unfold deqL pyL; simp [PyData.eqvAll]
@[simp] theorem deqL_cons {x y : D} {xs ys : List D} : deqL (x :: xs) (y :: ys) = (deq x y && deqL xs ys) := by unfold deqL deq; rw [pyL, pyL, PyData.eqvAll]
@[simp] theorem deqL_nc {y : D} {ys : List D} : deqL [] (y :: ys) = false := by unfold deqL pyL; simp [PyData.eqvAll]
@[simp] theorem deqL_cn {y : D} {ys : List D} : deqL (y :: ys) [] = false := by unfold deqL pyL; simp [PyData.eqvAll]

section
variable {Ψ : D → Prop} {x y : D}
theorem Op2.imp {r : R2} {Ψ' : D → Prop} (h : Op2 K r x y Ψ) (k : ∀ d, Ψ d → Ψ' d) : Op2 K r x y Ψ' := fun F H v w Q e a b q => h F H v w Q e a b fun d u F' H' z => q d u F' H' (k d z)
theorem op2_l {r r' : R2} (h : Op2 K r x y Ψ) : Op2 K (fun x y H Q => r x y H Q ∨ r' x y H Q) x y Ψ := fun F H v w Q e a b q => .inl (h F H v w Q e a b q)
theorem op2_r {r r' : R2} (h : Op2 K r' x y Ψ) : Op2 K (fun x y H Q => r x y H Q ∨ r' x y H Q) x y Ψ := fun F H v w Q e a b q => .inr (h F H v w Q e a b q)
theorem op2_I0 {g : Int → Int → V} {i j : Int} {d : D} (hd : ∀ F, Dn K F d (g i j)) (h : Ψ d) : Op2 K (rI0 g) (.int i) (.int j) Ψ := fun F H v w Q e a b q => ⟨i, j, dn_int.mp a, dn_int.mp b, q d _ F H h (Grow.refl e) (hd F)⟩
theorem op2_I {C : Int → Int → Prop} {g : Int → Int → V} {i j : Int} {d : D} (hd : ∀ F, Dn K F d (g i j)) (hc : C i j) (h : Ψ d) : Op2 K (rI C g) (.int i) (.int j) Ψ := fun F H v w Q e a b q => ⟨i, j, dn_int.mp a, dn_int.mp b, hc, q d _ F H h (Grow.refl e) (hd F)⟩
abbrev rAddS : R2 := fun x y H Q => ∃ i j, x = V.str i ∧ y = V.str j ∧ i.length + j.length ≤ sizeLine ∧ Q (.str (i ++ j)) H
abbrev rAddU (K : PySem.W.Frag) : R2 := fun x y H Q => rI0 (fun i j => .int (i + j)) x y H Q ∨ (rAddS x y H Q ∨ (rCat x y H Q ∨ rCatA K x y H Q))
theorem op_addU {X : Cx} : OpR X (binaryOp .Add) (rAddU X.K) := OpR.or op_add (OpR.or op_add_str (OpR.or op_cat op_catA))
theorem o_add {i j : Int} (h : Ψ (.int (i + j))) : Op2 K (rAddU K) (.int i) (.int j) Ψ := op2_l (op2_I0 (fun _ => dn_int.mpr rfl) h)
theorem o_addS {i j : Str} (hl : i.length + j.length ≤ 100000) (h : Ψ (.str (i ++ j))) : Op2 K (rAddU K) (.str i) (.str j) Ψ := op2_r (op2_l fun F H v w Q e a b q => ⟨i, j, dn_str.mp a, dn_str.mp b, sz_of hl, q _ _ F H h (Grow.refl e) (dn_str.mpr rfl)⟩)
theorem o_addL {xs ys : List D} (hl : xs.length + ys.length ≤ 100000) (h : Ψ (.lst (xs ++ ys))) : Op2 K (rAddU K) (.lst xs) (.lst ys) Ψ := op2_r (op2_r (op2_l fun F H v w Q e a b q => by
  obtain ⟨p, vs, e1, h1, n1⟩ := dn_lst.mp a
  obtain ⟨p', us, e2, h2, n2⟩ := dn_lst.mp b
  refine ⟨p, p', vs, us, e1, e2, e _ _ h1, e _ _ h2, sz_of (by rw [← n1.length, ← n2.length]; exact hl), fun r hr => ?_⟩
  have g := Grow.new (o := .lst (vs ++ us)) e hr
  exact q _ _ _ _ h g (dn_lst.mpr ⟨r, _, rfl, upd_same, (n1.mono g.ff).append (n2.mono g.ff)⟩)))
theorem o_addT {xs ys : List D} (hl : xs.length + ys.length ≤ 100000) (h : Ψ (.tup (xs ++ ys))) : Op2 K (rAddU K) (.tup xs) (.tup ys) Ψ := op2_r (op2_r (op2_r fun F H v w Q e a b q => by
  obtain ⟨p, vs, e1, h1, n1⟩ := dn_tup.mp a
  obtain ⟨p', us, e2, h2, n2⟩ := dn_tup.mp b
  refine ⟨p, p', vs, us, e1, e2, ex_t e h1, ex_t e h2, sz_of (by rw [← n1.length, ← n2.length]; exact hl), fun z => ?_, fun z z' => ?_, fun z z' r hr => ?_⟩
  · have e0 : xs = [] := by
      have := n1.length
      rw [z] at this
      exact List.length_eq_zero_iff.mp this
    subst e0
    exact q _ _ F H h (Grow.refl e) (dn_tup.mpr ⟨p', us, rfl, h2, n2⟩)
  · have e0 : ys = [] := by
      have := n2.length
      rw [z'] at this
      exact List.length_eq_zero_iff.mp this
    subst e0
    rw [List.append_nil] at h
    exact q _ _ F H h (Grow.refl e) (dn_tup.mpr ⟨p, vs, rfl, h1, n1⟩)
  · have g := Grow.new (o := .tup (vs ++ us)) e hr
    exact q _ _ _ _ h g (dn_tup.mpr ⟨r, _, rfl, .inl (.inl upd_same), (n1.mono g.ff).append (n2.mono g.ff)⟩)))
theorem o_sub {i j : Int} (h : Ψ (.int (i - j))) : Op2 K (rI0 fun i j => .int (i - j)) (.int i) (.int j) Ψ := op2_I0 (fun _ => dn_int.mpr rfl) h
theorem o_mul {i j : Int} (hc : CMulW i j) (h : Ψ (.int (i * j))) : Op2 K (rI CMulW fun i j => .int (i * j)) (.int i) (.int j) Ψ := op2_I (fun _ => dn_int.mpr rfl) hc h
theorem o_fdiv {i j : Int} (hc : CDiv i j) (h : Ψ (.int (i / j))) : Op2 K (rI CDiv fun i j => .int (i / j)) (.int i) (.int j) Ψ := op2_I (fun _ => dn_int.mpr rfl) hc h
theorem o_mod {i j : Int} (hc : 0 < j) (h : Ψ (.int (i % j))) : Op2 K (rI (fun _ j => 0 < j) fun i j => .int (i % j)) (.int i) (.int j) Ψ := op2_I (fun _ => dn_int.mpr rfl) hc h
theorem o_pow {i j : Int} (hc : CPow i j) (h : Ψ (.int (i ^ j.toNat))) : Op2 K (rI CPow fun i j => .int (i ^ j.toNat)) (.int i) (.int j) Ψ := op2_I (fun _ => dn_int.mpr rfl) hc h
abbrev rCmpU (p : Int → Int → Bool) (q : List Nat → List Nat → Bool) : R2 := fun x y H Q => rI0 (fun i j => .bl (p i j)) x y H Q ∨ ∃ i j, x = V.str i ∧ y = V.str j ∧ Q (.bl (q i.cps.toList j.cps.toList)) H
abbrev rLtU : R2 := rCmpU (fun i j => decide (i < j)) fun i j => decide (i < j)
abbrev rLeU : R2 := rCmpU (fun i j => decide (i ≤ j)) fun i j => !decide (j < i)
abbrev rGtU : R2 := rCmpU (fun i j => decide (j < i)) fun i j => decide (j < i)
abbrev rGeU : R2 := rCmpU (fun i j => decide (j ≤ i)) fun i j => !decide (i < j)
theorem op_ltU {X : Cx} : OpR X (compareOp .Lt) rLtU := OpR.or op_lt op_lt_str
theorem op_leU {X : Cx} : OpR X (compareOp .LtE) rLeU := OpR.or op_le op_le_str
theorem op_gtU {X : Cx} : OpR X (compareOp .Gt) rGtU := OpR.or op_gt op_gt_str
theorem op_geU {X : Cx} : OpR X (compareOp .GtE) rGeU := OpR.or op_ge op_ge_str
theorem o_cmp {p : Int → Int → Bool} {q : List Nat → List Nat → Bool} {i j : Int} (h : Ψ (.bl (p i j))) : Op2 K (rCmpU p q) (.int i) (.int j) Ψ := op2_l (op2_I0 (fun _ => dn_bl.mpr rfl) h)
theorem o_cmpS {p : Int → Int → Bool} {q : List Nat → List Nat → Bool} {i j : Str} (h : Ψ (.bl (q i.cps.toList j.cps.toList))) : Op2 K (rCmpU p q) (.str i) (.str j) Ψ := op2_r fun F H v w Q e a b k => ⟨i, j, dn_str.mp a, dn_str.mp b, k _ _ F H h (Grow.refl e) (dn_bl.mpr rfl)⟩
theorem o_eqD {n m : Nat} (hx : okD n x = true) (hy : okD m y = true) (h : Ψ (.bl (deq x y))) (hn : n ≤ 64 := by decide) (hm : m ≤ 64 := by decide) : Op2 K (rEqD K) x y Ψ := fun F H v w Q e a b q =>
  ⟨py x, py y, dn_dp n x v hx (a.mono e), dn_dp m y w hy (b.mono e), okD_shaped hx hn, okD_shaped hy hm, q _ _ F H h (Grow.refl e) (dn_bl.mpr rfl)⟩
theorem o_neD {n m : Nat} (hx : okD n x = true) (hy : okD m y = true) (h : Ψ (.bl (!deq x y))) (hn : n ≤ 64 := by decide) (hm : m ≤ 64 := by decide) : Op2 K (rNeD K) x y Ψ := fun F H v w Q e a b q =>
  ⟨py x, py y, dn_dp n x v hx (a.mono e), dn_dp m y w hy (b.mono e), okD_shaped hx hn, okD_shaped hy hm, q _ _ F H h (Grow.refl e) (dn_bl.mpr rfl)⟩
def isNon : D → Bool
  | .non => true
  | _ => false
theorem dn_isNon {F : Hp} {v : V} : ∀ {x : D}, Dn K F x v → decide (v = .non) = isNon x
  | .non, h => by rw [dn_non.mp h]; rfl
  | .bl _, h => by rw [dn_bl.mp h]; rfl
  | .int _, h => by rw [dn_int.mp h]; rfl
  | .str _, h => by rw [dn_str.mp h]; rfl
  | .tup _, h => by obtain ⟨_, _, e, _⟩ := dn_tup.mp h; rw [e]; rfl
  | .lst _, h => by obtain ⟨_, _, e, _⟩ := dn_lst.mp h; rw [e]; rfl
  | .dic _ _, h => by obtain ⟨_, _, e, _⟩ := dn_dic.mp h; rw [e]; rfl
  | .obj _ _ _, h => by obtain ⟨_, _, _, e, _⟩ := dn_obj.mp h; rw [e]; rfl
  | .scr _, h => by obtain ⟨_, e, _⟩ := dn_scr.mp h; rw [e]; rfl
abbrev rIsN : R2 := fun x y H Q => y = .non ∧ Q (.bl (decide (x = .non))) H
abbrev rNotN : R2 := fun x y H Q => y = .non ∧ Q (.bl (!decide (x = .non))) H
theorem o_isN (h : Ψ (.bl (isNon x))) : Op2 K rIsN x .non Ψ := fun F H v w Q e a b q => ⟨dn_non.mp b, q _ _ F H h (Grow.refl e) (by rw [dn_isNon a]; exact dn_bl.mpr rfl)⟩
theorem o_notN (h : Ψ (.bl (!isNon x))) : Op2 K rNotN x .non Ψ := fun F H v w Q e a b q => ⟨dn_non.mp b, q _ _ F H h (Grow.refl e) (by rw [dn_isNon a]; exact dn_bl.mpr rfl)⟩
theorem flat_strs : ∀ zs : List Str, (zs.map V.str).all flatV = true
  | [] => rfl
  | _ :: zs => by rw [List.map_cons, List.all_cons, flat_strs zs]; rfl
theorem inV_strs {z : Str} : ∀ zs : List Str, inV (.str z) (zs.map V.str) = zs.contains z
  | [] => rfl
  | y :: zs => by
    have ih := inV_strs (z := z) zs
    unfold inV at ih ⊢
    rw [List.map_cons, List.any_cons, ih, List.contains_cons]
    show ((y == z) || _) = _
    rw [Bool.beq_comm]
theorem o_inT {z : Str} {zs : List Str} {neg : Bool} (h : Ψ (.bl (if neg then !zs.contains z else zs.contains z))) : Op2 K (rIn K neg) (.str z) (.tup (zs.map D.str)) Ψ := fun F H v w Q e a b q => by
  obtain ⟨p, xs, e1, h1, n1⟩ := dn_tup.mp b
  have ex := DnL.strs' n1
  subst ex
  refine ⟨p, _, e1, .inr (ex_t e h1), by rw [dn_str.mp a]; rfl, flat_strs zs, ?_⟩
  rw [dn_str.mp a, inV_strs]
  exact q _ _ F H h (Grow.refl e) (dn_bl.mpr rfl)
theorem o_inL {z : Str} {zs : List Str} {neg : Bool} (h : Ψ (.bl (if neg then !zs.contains z else zs.contains z))) : Op2 K (rIn K neg) (.str z) (.lst (zs.map D.str)) Ψ := fun F H v w Q e a b q => by
  obtain ⟨p, xs, e1, h1, n1⟩ := dn_lst.mp b
  have ex := DnL.strs' n1
  subst ex
  refine ⟨p, _, e1, .inl (.inl (.inl (e _ _ h1))), by rw [dn_str.mp a]; rfl, flat_strs zs, ?_⟩
  rw [dn_str.mp a, inV_strs]
  exact q _ _ F H h (Grow.refl e) (dn_bl.mpr rfl)
theorem atI_dn {F : Hp} {ds : List D} {vs : List V} {i : Int} {d : D} (n : DnL K F ds vs) (h : atI ds i = some d) : ∃ v, atI vs i = some v ∧ Dn K F d v := by
  unfold atI at h ⊢
  rw [n.length] at h
  cases q : ixN vs.length i with
  | none => rw [q] at h; cases h
  | some j =>
    rw [q] at h
    exact n.get (i := j) h
theorem o_ixL {ds : List D} {i : Int} {d : D} (h : atI ds i = some d) (k : Ψ d) : Op2 K (rIx K) (.lst ds) (.int i) Ψ := fun F H v w Q e a b q => by
  obtain ⟨p, xs, e1, h1, n1⟩ := dn_lst.mp a
  obtain ⟨u, h2, n2⟩ := atI_dn n1 h
  exact .inl ⟨p, xs, i, u, e1, dn_int.mp b, .inl (.inl (e _ _ h1)), h2, q d u F H k (Grow.refl e) n2⟩
theorem o_ixT {ds : List D} {i : Int} {d : D} (h : atI ds i = some d) (k : Ψ d) : Op2 K (rIx K) (.tup ds) (.int i) Ψ := fun F H v w Q e a b q => by
  obtain ⟨p, xs, e1, h1, n1⟩ := dn_tup.mp a
  obtain ⟨u, h2, n2⟩ := atI_dn n1 h
  exact .inr (.inl ⟨p, xs, i, u, e1, dn_int.mp b, ex_t e h1, h2, q d u F H k (Grow.refl e) n2⟩)
theorem o_ixR {ns : List Int} {i : Int} {d : Int} (h : atI ns i = some d) (k : Ψ (.int d)) : Op2 K (rIx K) (.scr ns) (.int i) Ψ := fun F H v w Q e a b q => by
  obtain ⟨p, e1, h1⟩ := dn_scr.mp a
  have h2 : atI (ns.map V.int) i = some (.int d) := by
    unfold atI at h ⊢
    rw [List.length_map]
    cases z : ixN ns.length i with
    | none => rw [z] at h; cases h
    | some j =>
      rw [z] at h
      show (ns.map V.int)[j]? = _
      rw [List.getElem?_map]
      have h' : ns[j]? = some d := h
      rw [h']
      rfl
  exact .inl ⟨p, _, i, _, e1, dn_int.mp b, ex_l e h1, h2, q _ _ F H k (Grow.refl e) (dn_int.mpr rfl)⟩
theorem o_ixS {z : Str} {i : Int} {c : Nat} (hz : z.length ≤ 100000) (h : atI z.cps.toList i = some c) (k : Ψ (.str ⟨#[c]⟩)) : Op2 K (rIx K) (.str z) (.int i) Ψ := fun F H v w Q e a b q =>
  .inr (.inr ⟨z, i, c, dn_str.mp a, dn_int.mp b, sz_of hz, h, q _ _ F H k (Grow.refl e) (dn_str.mpr rfl)⟩)
end

def truD : D → Option Bool
  | .non => some false
  | .bl b => some b
  | .int i => some (i != 0)
  | .str s => some ((s.length : Int) != 0)
  | .tup ds => some (!ds.isEmpty)
  | .lst ds => some (!ds.isEmpty)
  | _ => none
theorem isEmpty_dn {F : Hp} {ds : List D} {vs : List V} (n : DnL K F ds vs) : vs.isEmpty = ds.isEmpty := by
  cases ds with
  | nil => rw [dnl_nil.mp n]; rfl
  | cons d ds => obtain ⟨v, r, e, _⟩ := dnl_cons.mp n; rw [e]; rfl
abbrev tTruth (K : PySem.W.Frag) (ta : TE) : TT := fun σ H Q => ta σ H fun x H' => ∃ k, TruV K x H' k ∧ Q k H'
section
variable {E : L2.St → XK} {Ξ : Xi} {ρ : Rho} {ta tb tc te : TE} {tl : TA} {t : TT} {ts tu : TS} {i : Nat} {d : D} {ds : List D} {p : Addr} {g : TG}
theorem et_truth {Φ : Bool → Rho → Prop} (h : EvS K E Ξ te ρ fun d ρ1 => (∀ s, d = .str s → s.length ≤ 100000) ∧ ∃ b, truD d = some b ∧ Φ b ρ1) : EvT K E Ξ (tTruth K te) ρ Φ := fun F0 H0 σ F H Q S e k =>
  h F0 H0 σ F H _ S e fun d ρ1 v F1 H1 ⟨hs, b, eb, h1⟩ x1 S1 n1 => by
    refine ⟨b, ?_, k b ρ1 F1 H1 h1 x1 S1⟩
    cases d with
    | non => rw [dn_non.mp n1]; cases eb; rfl
    | bl c => rw [dn_bl.mp n1]; cases eb; rfl
    | int c => rw [dn_int.mp n1]; cases eb; rfl
    | str c => rw [dn_str.mp n1]; cases eb; exact ⟨sz_of (hs c rfl), rfl⟩
    | tup ds => obtain ⟨a, xs, e1, h2, n2⟩ := dn_tup.mp n1; rw [e1]; cases eb; exact .inr (.inl ⟨xs, ex_t S1.fh h2, by rw [isEmpty_dn n2]⟩)
    | lst ds => obtain ⟨a, xs, e1, h2, n2⟩ := dn_lst.mp n1; rw [e1]; cases eb; exact .inl ⟨xs, .inl (.inl (S1.fh _ _ h2)), by rw [isEmpty_dn n2]⟩
    | dic _ _ => cases eb
    | obj _ _ _ => cases eb
    | scr _ => cases eb

variable {Ψ : D → Prop}
theorem Cl.one {r : List V → Hp → VK → Prop} {x : D} (h : ∀ (F H : Hp) (v : V) (Q : VK), Ex F H → Dn K F x v → (∀ (d : D) (u : V) (F' H' : Hp), Ψ d → Grow F H F' H' → Dn K F' d u → Q u H') → r [v] H Q) : Cl K r [x] Ψ := fun F H vs Q e n q => by
  obtain ⟨v, r', ev, n1, n2⟩ := dnl_cons.mp n
  rw [ev, dnl_nil.mp n2]
  exact h F H v Q e n1 q
theorem Cl.two {r : List V → Hp → VK → Prop} {x y : D} (h : ∀ (F H : Hp) (v w : V) (Q : VK), Ex F H → Dn K F x v → Dn K F y w → (∀ (d : D) (u : V) (F' H' : Hp), Ψ d → Grow F H F' H' → Dn K F' d u → Q u H') → r [v, w] H Q) : Cl K r [x, y] Ψ := fun F H vs Q e n q => by
  obtain ⟨v, r', ev, n1, n2⟩ := dnl_cons.mp n
  obtain ⟨w, r'', ew, n3, n4⟩ := dnl_cons.mp n2
  rw [ev, ew, dnl_nil.mp n4]
  exact h F H v w Q e n1 n3 q
def lenD : D → Option Nat
  | .str s => some s.length
  | .tup ds => some ds.length
  | .lst ds => some ds.length
  | .scr ns => some ns.length
  | _ => none
abbrev rLenU (K : PySem.W.Frag) : List V → Hp → VK → Prop := fun xs H Q => ∃ x n, xs = [x] ∧ LenV K x H n ∧ Q (.int n) H
theorem c_len {x : D} {n : Nat} (hs : ∀ s, x = .str s → s.length ≤ 100000) (hl : lenD x = some n) (h : Ψ (.int n)) : Cl K (rLenU K) [x] Ψ := .one fun F H v Q e nn q => by
  refine ⟨v, n, rfl, ?_, q _ _ F H h (Grow.refl e) (dn_int.mpr rfl)⟩
  cases x with
  | str s => rw [dn_str.mp nn]; cases hl; exact ⟨sz_of (hs s rfl), rfl⟩
  | tup ds => obtain ⟨a, xs, e1, h2, n2⟩ := dn_tup.mp nn; rw [e1]; cases hl; exact .inr ⟨xs, ex_t e h2, n2.length⟩
  | lst ds => obtain ⟨a, xs, e1, h2, n2⟩ := dn_lst.mp nn; rw [e1]; cases hl; exact .inl ⟨xs, .inl (.inl (e _ _ h2)), n2.length⟩
  | scr ns => obtain ⟨a, e1, h2⟩ := dn_scr.mp nn; rw [e1]; cases hl; exact .inl ⟨_, ex_l e h2, by rw [List.length_map]⟩
  | non => cases hl
  | bl _ => cases hl
  | int _ => cases hl
  | dic _ _ => cases hl
  | obj _ _ _ => cases hl
abbrev rAbs : List V → Hp → VK → Prop := fun xs H Q => ∃ i, xs = [V.int i] ∧ Q (.int (if i < 0 then -i else i)) H
theorem c_abs {i : Int} (h : Ψ (.int (if i < 0 then -i else i))) : Cl K rAbs [.int i] Ψ := .one fun F H v Q e nn q => ⟨i, by rw [dn_int.mp nn], q _ _ F H h (Grow.refl e) (dn_int.mpr rfl)⟩
abbrev rMax2' : List V → Hp → VK → Prop := fun xs H Q => ∃ i j, xs = [V.int i, .int j] ∧ Q (.int (if j > i then j else i)) H
abbrev rMin2' : List V → Hp → VK → Prop := fun xs H Q => ∃ i j, xs = [V.int i, .int j] ∧ Q (.int (if j < i then j else i)) H
theorem c_max2 {i j : Int} (h : Ψ (.int (if j > i then j else i))) : Cl K rMax2' [.int i, .int j] Ψ := .two fun F H v w Q e n1 n2 q => ⟨i, j, by rw [dn_int.mp n1, dn_int.mp n2], q _ _ F H h (Grow.refl e) (dn_int.mpr rfl)⟩
theorem c_min2 {i j : Int} (h : Ψ (.int (if j < i then j else i))) : Cl K rMin2' [.int i, .int j] Ψ := .two fun F H v w Q e n1 n2 q => ⟨i, j, by rw [dn_int.mp n1, dn_int.mp n2], q _ _ F H h (Grow.refl e) (dn_int.mpr rfl)⟩
abbrev rIntU : List V → Hp → VK → Prop := fun xs H Q => ((∃ i, xs = [V.int i] ∧ Q (.int i) H) ∨ ∃ k, xs = [V.bl k] ∧ Q (.int (if k then 1 else 0)) H) ∨ ∃ a n, xs = [V.str a] ∧ PySem.intText? a = some n ∧ a.length ≤ 640 ∧ Q (.int n) H
theorem call_intU {X : Cx} : CallR X (.type "int") rIntU := CallR.or call_int1 call_int_str
theorem c_int {i : Int} (h : Ψ (.int i)) : Cl K rIntU [.int i] Ψ := .one fun F H v Q e nn q => .inl (.inl ⟨i, by rw [dn_int.mp nn], q _ _ F H h (Grow.refl e) (dn_int.mpr rfl)⟩)
theorem c_intB {i : Bool} (h : Ψ (.int (if i then 1 else 0))) : Cl K rIntU [.bl i] Ψ := .one fun F H v Q e nn q => .inl (.inr ⟨i, by rw [dn_bl.mp nn], q _ _ F H h (Grow.refl e) (dn_int.mpr rfl)⟩)
theorem c_intS {a : Str} {n : Int} (h0 : PySem.intText? a = some n) (hl : a.length ≤ 640) (h : Ψ (.int n)) : Cl K rIntU [.str a] Ψ := .one fun F H v Q e nn q => .inr ⟨a, n, by rw [dn_str.mp nn], h0, hl, q _ _ F H h (Grow.refl e) (dn_int.mpr rfl)⟩
abbrev rStrI : List V → Hp → VK → Prop := fun xs H Q => ∃ i : Int, xs = [V.int i] ∧ i.natAbs.log2 < 1920 ∧ Q (.str (toString i)) H
theorem c_strI {i : Int} (hl : i.natAbs.log2 < 1920) (h : Ψ (.str (toString i))) : Cl K rStrI [.int i] Ψ := .one fun F H v Q e nn q => ⟨i, by rw [dn_int.mp nn], hl, q _ _ F H h (Grow.refl e) (dn_str.mpr rfl)⟩
abbrev rTupOf (K : PySem.W.Frag) : List V → Hp → VK → Prop := fun xs H Q => ∃ p ys, xs = [.ref p] ∧ ((SqL K H p ys ∧ ∀ l, H l = none → Q (.ref l) (upd H l (.tup ys))) ∨ (SqT K H p ys ∧ Q (.ref p) H))
theorem c_tupL {ds : List D} (h : Ψ (.tup ds)) : Cl K (rTupOf K) [.lst ds] Ψ := .one fun F H v Q e nn q => by
  obtain ⟨a, xs, e1, h2, n2⟩ := dn_lst.mp nn
  refine ⟨a, xs, by rw [e1], .inl ⟨.inl (.inl (e _ _ h2)), fun l hl => ?_⟩⟩
  have g := Grow.new (o := .tup xs) e hl
  exact q _ _ _ _ h g (dn_tup.mpr ⟨l, xs, rfl, .inl (.inl upd_same), n2.mono g.ff⟩)
theorem c_tupT {ds : List D} (h : Ψ (.tup ds)) : Cl K (rTupOf K) [.tup ds] Ψ := .one fun F H v Q e nn q => by
  obtain ⟨a, xs, e1, h2, n2⟩ := dn_tup.mp nn
  exact ⟨a, xs, by rw [e1], .inr ⟨ex_t e h2, q _ _ F H h (Grow.refl e) (by rw [← e1]; exact nn)⟩⟩
theorem c_all {bs : List Bool} (h : Ψ (.bl (bs.all id))) : Cl K (rAll K) [.lst (bs.map D.bl)] Ψ := .one fun F H v Q e nn q => by
  obtain ⟨a, xs, e1, h2, n2⟩ := dn_lst.mp nn
  have ex := DnL.bls' n2
  subst ex
  exact ⟨a, bs, by rw [e1], .inl (.inl (e _ _ h2)), q _ _ F H h (Grow.refl e) (dn_bl.mpr rfl)⟩
theorem c_any {bs : List Bool} (h : Ψ (.bl (bs.any id))) : Cl K (rAny K) [.lst (bs.map D.bl)] Ψ := .one fun F H v Q e nn q => by
  obtain ⟨a, xs, e1, h2, n2⟩ := dn_lst.mp nn
  have ex := DnL.bls' n2
  subst ex
  exact ⟨a, bs, by rw [e1], .inl (.inl (e _ _ h2)), q _ _ F H h (Grow.refl e) (dn_bl.mpr rfl)⟩
end
end Z

namespace Z
open PySem PySem.Spec PyProof.Rows L2 Evl
variable {K : PySem.W.Frag}

section
variable {pins : List (Addr × Obj)} {X : Cx} {H : Hp} {s : Shared} {σ : L2.St}
theorem passL0 {X : Cx} {σ : L2.St} : PassesAt (L2.CX X.prog X.w) X σ E0 := fun pins H s e s' I c => passL pins σ H s e s' I c
structure StM (K : PySem.W.Frag) (C : Addr) (mc : Value) (m : Str) (p g : Addr) : Prop where
  sr : PySem.W.readsIn K C mc = true
  sg : PySem.W.specialIn K (.ref C) "__getattribute__" = some (some (.builtin "type.__getattribute__"))
  at_ : PySem.W.findCls K (.ref C) mc m = some (.get (.builtin "staticmethod.__get__") (.ref p) .none (.ref C))
  rc : ∃ rest, PySem.W.recIn K p "staticmethod" = some (.ref g :: rest)
  kp : PySem.W.keepIn K (.ref g) = true
def tStat (C : Addr) (sp : Sp) (E : L2.St → XK) (ta : TE) (t : TA) : TE := fun σ H Q => ta σ H fun x H1 => x = .ref C ∧ t σ H1 fun vs H2 => sp (vs ++ []) H2 Q (E σ)
theorem pe_static {CX : CXT} {k : Nat} {C p g : Addr} {mc : Value} {sp : Sp} {E : L2.St → XK} {o e : Expr} {es : List Expr} {m : Str} {pos apos : Pos} {ta : TE} {t : TA} {pl : Sem Bool} {fd : FuncData} {ps : List Str}
    (S : StM X.K C mc m p g) (F : FnOk X.prog X.w X.K X.mg X.base CX k g fd ps sp) (hr : Room k X.A) (hv3 : PE X o ta) (hb : Binds X.K fd ps []) (hx : ∀ σ, PassesAt CX X σ (E σ)) (ha : PA X (e :: es) t)
    (hz1 : starEach (e :: es) X.env = (false, eval e X.env) :: starEach es X.env := by rfl) (hz2 : (backTo pos (starEach es X.env)).any (·.1) = false := by rfl)
    (hz3 : eval (.Call (.Attribute o m apos) (e :: es) [] pos) X.env = (do let ov ← eval o X.env; standAt apos.atName; let (f, first) ← holding [ov] (getMethod ov m pl); callWith pos f first (backTo pos (starEach (e :: es) X.env)) (backToKw pos (keywordEach [] X.env))) := by rfl) :
    PE X (.Call (.Attribute o m apos) (e :: es) [] pos) (tStat C sp E ta t) := by
  refine ⟨fun pp s σ H Q Iv h => ?_⟩
  refine PySem.W.methodCall_KW (pl := pl) (thn (hv3.run pp s σ H _ Iv h) fun u z1 ⟨x, G1, J1, rr, ex, q⟩ => ?_) hz3
  subst ex
  obtain rfl : u = Value.ref C := rr
  obtain ⟨rest, hp⟩ := S.rc
  refine PySem.W.method_cls J1.kIn S.sg (PySem.W.cls_bind J1.kIn S.sr S.at_ (wpAny_call (PySem.W.sm_get (s := { z1 with toks := z1.toks + 1 }) J1.kIn hp (PySem.W.handed_on rfl ?_))))
  have J2 : Inv X pp σ G1 { z1 with toks := z1.toks + 1 } := J1.tok _
  refine PySem.W.callWith_K (h₀ := X.base) (first := []) Iv.ok.mod.kin S.kp (thn (ha.run pos pp _ σ G1 _ J2 q) fun uu z3 ⟨vv, G2, J3, rv, q2⟩ => ⟨J3.kIn, ?_⟩) hz1 hz2
  exact run_fnSD F hr hb .nil (hx σ) J3 rv q2
structure StrM (K : PySem.W.Frag) (C f : Addr) : Prop where
  at_ : PySem.W.findIn K (.ref C) "__str__" = some (some (.ref f))
  isf : PySem.W.isFn K (.ref f) = true
def rStrOwn (C : Addr) (sp : Sp) : List V → Hp → VK → Prop := fun xs H Q => ∃ a dx fs, xs = [V.ref a] ∧ H a = some (.ins C dx fs) ∧ sp [.ref a] H (fun v H' => (∃ y, v = V.str y) ∧ Q v H') E0
theorem call_strOwn {CX : CXT} {k : Nat} {C f : Addr} {fd : FuncData} {sp : Sp} (S : StrM X.K C f) (F : FnOk X.prog X.w X.K X.mg X.base CX k f fd ["self"] sp) (hb : Binds X.K fd ["self"] []) (hr : Room (k + 2) X.A) (hx : Passes CX X E0) : CallR X (.type "str") (rStrOwn C sp) := by
  intro pp s σ H xs uu Q Iv r h
  obtain ⟨a, dx, fs, rfl, ha, hsp⟩ := h
  obtain ⟨u, rfl, rr⟩ := vals1 r
  obtain rfl : u = Value.ref a := rr
  obtain ⟨mA, O, _, _, _, _⟩ := ins_get Iv.hok ha
  obtain ⟨od, J, _⟩ := O.look
  have hu := hr.un
  refine PySem.W.kso_call (by show X.A.units + 1 + 1 < cLine; omega) Iv.kIn J S.at_ S.isf ?_
  have hr2 : Room k X.A.in1.in1 := (hr.in1).in1
  refine wpAny_call (codeAny_mono (F.run X.A.in1.in1 X.stack s H ⟨[.ref a], []⟩ [.ref a] [.ref a] _ _ hr2 Iv.env0.in1.in1 (hb s [.ref a] Iv.kIn rfl) (.cons rfl .nil) hsp) fun r s' hq => ?_)
  cases r with
  | error e => exact hx pp σ H s e s' Iv hq
  | ok fl =>
    cases fl with
    | ret u =>
      obtain ⟨v, H', I', rv, ⟨y, ey⟩, q⟩ := Iv.after hq
      subst ey
      obtain ⟨t, rfl⟩ := rv
      exact ⟨.str y, H', I', ⟨t, rfl⟩, q⟩
    | next => exact False.elim hq
    | brk => exact False.elim hq
    | cont => exact False.elim hq

abbrev rSlU (K : PySem.W.Frag) : V → Option Int → Option Int → Hp → VK → Prop := fun x lo hi H Q => rSlL K x lo hi H Q ∨ (rSlA K x lo hi H Q ∨ rSlS x lo hi H Q)
theorem sl_U : SlR X (rSlU X.K) := SlR.or sl_list (SlR.or sl_tupA sl_str)
def stepPick {α : Type} (xs : List α) (lo : Int) (c : Int) : List α := (sliceRange (sliceBounds (some lo) none (some c) xs.length).1 (sliceBounds (some lo) none (some c) xs.length).2.1 (sliceBounds (some lo) none (some c) xs.length).2.2).filterMap (xs[·]?)
theorem vals_pick : ∀ {xs : List V} {us : List Value} (r : Vals xs us) (is : List Nat), Vals (is.filterMap (xs[·]?)) (is.filterMap (us[·]?))
  | xs, us, r, [] => .nil
  | xs, us, r, i :: is => by
    rw [List.filterMap_cons, List.filterMap_cons]
    cases e : xs[i]? with
    | none =>
      rw [Vals.none_of r e]
      exact vals_pick r is
    | some x =>
      obtain ⟨u, eu, ru⟩ := Vals.get r e
      rw [eu]
      exact .cons ru (vals_pick r is)
def tStepL (K : PySem.W.Frag) (c : Int) (te : TE) (tl : TO) : TE := fun σ H Q => te σ H fun x H1 => tl σ H1 fun o H2 => ∃ i, o = some i ∧ ∃ a xs, x = .ref a ∧ SqL K H2 a xs ∧ c ≠ 0 ∧ ∀ p, H2 p = none → Q (.ref p) (upd H2 p (.lst (stepPick xs i c)))
theorem pick_eq {its : List Value} {i c : Int} : slicePick its.toArray (some i) none (some c) = (stepPick its i c).toArray := by
  unfold slicePick stepPick
  rw [List.size_toArray]
  congr 2
  funext j
  rw [List.getElem?_toArray]
theorem stepPick_vals {xs : List V} {us : List Value} (r : Vals xs us) (i c : Int) : Vals (stepPick xs i c) (stepPick us i c) := by
  unfold stepPick
  rw [r.length]
  exact vals_pick r _
theorem pe_stepL {e : Expr} {lo : Option Expr} {te : TE} {tl : TO} {k : Nat} {c : Int} {p1 p3 pos : Pos} (hv3 : PE X e te) (hl : PO X lo tl) : PE X (.Subscript e (.Slice lo none (some (.Constant (.int c) k p1)) p3) pos) (tStepL X.K c te tl) := by
  refine ⟨fun pp s σ H Q Iv h => ?_⟩
  refine Subscript_ (thn (hv3.run pp s σ H _ Iv h) fun v z1 ⟨x, G1, J1, y1, q1⟩ => ?_)
  have hz1 : PO X (some (.Constant (.int c) k p1)) (tPart (tC (.int c))) := po_some pe_int
  refine wpAny_Slice (thn (hl.run pp z1 σ G1 _ J1 q1) fun vl z2 ⟨l, G2, J2, pl, q2⟩ => ?_)
  obtain ⟨i, rfl, a, xs, ex, hx, hc, q⟩ := q2
  subst ex
  cases y1
  refine thn (po_none.run pp z2 σ G2 (fun o G3 => o = none ∧ G3 = G2) J2 ⟨rfl, rfl⟩) fun vu z3 ⟨u, G3, J3, pu, eu, e3⟩ => ?_
  subst eu e3
  refine thn (hz1.run pp z3 σ G3 (fun o G4 => o = some c ∧ G4 = G3) J3 ⟨c, rfl, rfl, rfl⟩) fun vv z4 ⟨o, G4, J4, ps, eo, e4⟩ => ?_
  subst eo e4
  have J5 : Inv X pp σ G4 { z4 with heap := z4.heap.push { cls := .type "slice", data := .fields #[vl, vu, vv] } } := J4.kept (t' := z4.toks) fun b ob q => Heap.get?_push_of_some _ q
  obtain ⟨its, r, hz3, hz⟩ := J5.list hx
  have hlen := r.length
  show wpAny (model X.prog X.w) X.A (subscriptTail e (.Slice lo none (some (.Constant (.int c) k p1)) p3) (.ref a) (.ref z4.heap.objs.size)) (EP X pp σ Q) X.xe { z4 with heap := z4.heap.push { cls := .type "slice", data := .fields #[vl, vu, vv] } }
  refine tail_any (ops := [.ref a, .ref z4.heap.objs.size]) hz3.isList.typeIs (PySem.slot_list_getitem.lookup) ?_ (by with_unfolding_all rfl)
  refine wpAny_getItem_list_slice hz3.isList (Heap.IsSliceOf.new _ vl vu vv) pl pu ps (fun z => hc (Option.some.inj z)) ?_ (by rw [List.size_toArray]; omega)
  have hz2 : (stepPick xs i c).length ≤ sizeLine := by
    have q1 := slicePick_size_le its.toArray (some i) none (some c)
    rw [pick_eq, List.size_toArray, List.size_toArray, ← (stepPick_vals r i c).length] at q1
    omega
  rw [pick_eq]
  refine ⟨.ref _, _, J5.laid (t' := z4.toks) (o := .lst (stepPick xs i c)) (fun b ob q => Heap.get?_push_of_some _ q) (Nat.le_refl _) ?_, rfl, q _ (J5.hok.fresh (Nat.le_refl _))⟩
  exact ⟨hz2, _, 0, stepPick_vals r i c, Heap.get?_push_size _ rfl⟩

theorem call_listS (hh : X.calm = true) : CallR X (.type "list") (fun xs H Q => ∃ z : Str, xs = [V.str z] ∧ z.cps.size ≤ 100000 ∧ ∀ p, H p = none → Q (.ref p) (upd H p (.lst (z.cps.toList.map fun c => V.str ⟨#[c]⟩)))) := by
  intro pp s σ H xs uu Q Iv r h
  obtain ⟨z, rfl, hz, q⟩ := h
  obtain ⟨u, rfl, rr⟩ := vals1 r
  obtain ⟨t, rfl⟩ := rr
  have hz' : z.cps.size ≤ sizeLine := sz_of hz
  refine call_list_str (hn := hz') (Iv.ok.hd hh) z t fun h' tk acc c' hv2 hS hacc => ?_
  have hv : Vals (z.cps.toList.map fun c => V.str ⟨#[c]⟩) acc.toList := by
    obtain ⟨h1, h2⟩ := hacc
    refine vals_of_at (by rw [List.length_map, Array.length_toList, Array.length_toList, h1]) fun j x u hx hu => ?_
    rw [Array.getElem?_toList] at hu
    obtain ⟨c, w, hc, rfl⟩ := h2 j u hu
    rw [List.getElem?_map, Array.getElem?_toList, hc] at hx
    cases hx
    exact ⟨w, rfl⟩
  refine ⟨.ref _, _, Iv.laid (t' := tk) (o := .lst (z.cps.toList.map fun c => V.str ⟨#[c]⟩)) hv2 (Nat.le_refl _) ?_, rfl, q _ (Iv.hok.fresh (Nat.le_refl _))⟩
  exact ⟨by rw [List.length_map, Array.length_toList]; exact hz', _, c', hv, hS⟩
abbrev rListU (K : PySem.W.Frag) : List V → Hp → VK → Prop := fun xs H Q => (∃ p ys, xs = [V.ref p] ∧ (SqL K H p ys ∨ SqT K H p ys) ∧ ∀ l, H l = none → Q (.ref l) (upd H l (.lst ys))) ∨
  ∃ z : Str, xs = [V.str z] ∧ z.cps.size ≤ 100000 ∧ ∀ p, H p = none → Q (.ref p) (upd H p (.lst (z.cps.toList.map fun c => V.str ⟨#[c]⟩)))
theorem call_listU (hh : X.calm = true) : CallR X (.type "list") (rListU X.K) := CallR.or call_list_of (call_listS hh)

def rSortD (K : PySem.W.Frag) : List V → Hp → VK → Prop := fun xs H Q => ∃ (a : Addr) (bs : List (V × PyData)), xs = [V.ref a] ∧ SqL K H a (bs.map (·.1)) ∧ (∀ b ∈ bs, Dp K H b.1 b.2 ∧ b.2.depth ≤ 64) ∧ PySem.W.AllAlike (bs.map (·.2)) ∧ PySem.W.Sortable (bs.map (·.2)) ∧
  ∀ p, H p = none → Q (.ref p) (upd H p (.lst ((bs.mergeSort (PySem.W.dataLe false (·.2))).map (·.1))))
theorem each_of : ∀ {bs : List (V × PyData)} {us : List Value}, Vals (bs.map (·.1)) us → PySem.W.EachIs (fun u (b : V × PyData) => RelV b.1 u) us bs
  | [], _, h => by cases h; exact .nil
  | b :: bs, _, h => by
    cases h with
    | cons r t => exact .cons r (each_of t)
theorem of_each : ∀ {bs : List (V × PyData)} {us : List Value}, PySem.W.EachIs (fun u (b : V × PyData) => RelV b.1 u) us bs → Vals (bs.map (·.1)) us
  | _, _, .nil => .nil
  | _, _, .cons r t => .cons r (of_each t)
theorem each_and {α β : Type} {R : α → β → Prop} {P : α → β → Prop} : ∀ {as : List α} {bs : List β}, PySem.W.EachIs R as bs → (∀ a b, R a b → b ∈ bs → P a b) → PySem.W.EachIs P as bs
  | _, _, .nil, _ => .nil
  | _, _, .cons r t, h => .cons (h _ _ r List.mem_cons_self) (each_and t fun a b q m => h a b q (List.mem_cons_of_mem _ m))
theorem call_sortedD {k : Nat} (hr : Room k X.A) : CallR X (.builtin "sorted") (rSortD X.K) := by
  intro pp s σ H xs uu Q Iv r h
  obtain ⟨a, bs, rfl, hl, hd, hal, hv2, q⟩ := h
  obtain ⟨u, rfl, rr⟩ := vals1 r
  obtain rfl : u = Value.ref a := rr
  obtain ⟨its, rv, hz3, hz⟩ := Iv.list hl
  have hun := hr.un
  have e1 := each_of rv
  refine PySem.W.sorted_data (enc := fun b : V × PyData => b.2) hz3.isList e1 (each_and e1 fun u b ru hb => (hd b hb).1.reads Iv _ _ _ ru) hal hv2 (by rw [List.length_map] at hz; exact hz) (fun b hb => by have := (hd b hb).2; omega) fun out ho eo => ?_
  obtain ⟨c, hc⟩ := PyProof.Rows.sortedAll_at s.heap its out.toArray
  have v2 := of_each eo
  refine ⟨.ref _, _, Iv.laid (t' := s.toks) (o := .lst ((bs.mergeSort (PySem.W.dataLe false (·.2))).map (·.1))) (fun _ _ => PyProof.Rows.sortedAll_old) (Nat.le_succ _) ?_, rfl, q _ (Iv.hok.fresh (Nat.le_succ _))⟩
  exact ⟨by rw [List.length_map, List.length_mergeSort]; rw [List.length_map] at hz; exact hz, _, c, v2, hc⟩
end
end Z

namespace Z
open PySem PySem.Spec PyProof.Rows L2 Evl
variable {K : PySem.W.Frag}
section
variable {E : L2.St → XK} {Ξ : Xi} {ρ : Rho} {ta tb tc te : TE} {tl : TA} {t : TT} {ts tu : TS} {i j : Nat} {d : D} {ds : List D} {p : Addr} {g : TG} {Ψ : D → Prop}
theorem ev_ixO {Φ : D → Rho → Prop} (hj : ρ[j]? = some (.ol p ds)) (h : EvS K E Ξ tb ρ fun d ρ1 => ∃ (i : Int) (es : List D) (e : D), d = .int i ∧ ρ1[j]? = some (.ol p es) ∧ atI es i = some e ∧ Φ e ρ1) : EvS K E Ξ (tOp (rIx K) (tVar j) tb) ρ Φ := fun F0 H0 σ F H Q S e k => by
  refine ⟨_, (S.own hj).1, h F0 H0 σ F H _ S e fun d ρ1 v F1 H1 ⟨i, es, q, ed, h1, h2, h3⟩ x1 S1 n1 => ?_⟩
  subst ed
  obtain ⟨_, _, _, vs, h4, n4⟩ := S1.own h1
  obtain ⟨u, h5, n5⟩ := atI_dn n4 h2
  exact .inl ⟨p, vs, i, u, rfl, dn_int.mp n1, .inl (.inl h4), h5, k q ρ1 u F1 H1 h3 x1 S1 n5⟩
theorem ev_lenO {Φ : D → Rho → Prop} (hj : ρ[j]? = some (.ol p ds)) (k : Φ (.int ds.length) ρ) : EvS K E Ξ (tCB (rLenU K) (tCons (tVar j) tNil)) ρ Φ := fun F0 H0 σ F H Q S e q => by
  obtain ⟨e1, _, _, vs, h4, n4⟩ := S.own hj
  refine ⟨_, e1, .ref p, vs.length, rfl, .inl ⟨vs, .inl (.inl h4), rfl⟩, ?_⟩
  rw [← n4.length]
  exact q _ ρ _ F H k (Ex.refl F) S (dn_int.mpr rfl)
def EvO (K : PySem.W.Frag) (E : L2.St → XK) (Ξ : Xi) (to : TO) (ρ : Rho) (Φ : Option Int → Rho → Prop) : Prop :=
  ∀ (F0 H0 : Hp) (σ : L2.St) (F H : Hp) (Q : Option Int → Hp → Prop), Sd K F0 H0 ρ σ F H → EOk K E Ξ F0 H0 →
    (∀ (o : Option Int) (ρ' : Rho) (F' H' : Hp), Φ o ρ' → Ex F F' → Sd K F0 H0 ρ' σ F' H' → Q o H') → to σ H Q
theorem eo_none {Φ : Option Int → Rho → Prop} (k : Φ none ρ) : EvO K E Ξ tNoPart ρ Φ := fun F0 H0 σ F H Q S e q => q none ρ F H k (Ex.refl F) S
theorem eo_some {Φ : Option Int → Rho → Prop} (h : EvS K E Ξ te ρ fun d ρ1 => ∃ i, d = .int i ∧ Φ (some i) ρ1) : EvO K E Ξ (tPart te) ρ Φ := fun F0 H0 σ F H Q S e q =>
  h F0 H0 σ F H _ S e fun d ρ1 v F1 H1 ⟨i, ed, h1⟩ x1 S1 n1 => ⟨i, by subst ed; exact dn_int.mp n1, q (some i) ρ1 F1 H1 h1 x1 S1⟩
def cutD (ds : List D) (lo hi : Option Int) : List D := (ds.drop (HT.sIx ds.length 0 lo)).take (HT.sIx ds.length ds.length hi - HT.sIx ds.length 0 lo)
theorem cut_dn {F : Hp} {vs : List V} (n : DnL K F ds vs) (lo hi : Option Int) : DnL K F (cutD ds lo hi) (cutV vs lo hi) := by
  unfold cutD cutV
  rw [n.length]
  exact (n.drop _).take _
def slD (d : D) (lo hi : Option Int) : Option D := match d with
  | .lst ds => some (.lst (cutD ds lo hi))
  | .tup ds => some (.tup (cutD ds lo hi))
  | .str z => some (.str (cutS z lo hi))
  | _ => none
theorem ev_slice {tlo thi : TO} {Φ : D → Rho → Prop} (h : EvS K E Ξ te ρ fun d ρ1 => (∀ z, d = .str z → z.length ≤ 100000) ∧ EvO K E Ξ tlo ρ1 fun lo ρ2 => EvO K E Ξ thi ρ2 fun hi ρ3 => ∃ e, slD d lo hi = some e ∧ Φ e ρ3) : EvS K E Ξ (tSl (rSlU K) te tlo thi) ρ Φ := fun F0 H0 σ F H Q S e k =>
  h F0 H0 σ F H _ S e fun d ρ1 v F1 H1 ⟨hz, h1⟩ x1 S1 n1 => h1 F0 H0 σ F1 H1 _ S1 e fun lo ρ2 F2 H2 h2 x2 S2 => h2 F0 H0 σ F2 H2 _ S2 e fun hi ρ3 F3 H3 ⟨q, hq, h3⟩ x3 S3 => by
    have n3 := n1.mono (x2.trans x3)
    have x := (x1.trans x2).trans x3
    cases d with
    | lst ds =>
      cases hq
      obtain ⟨a, vs, e1, h4, n4⟩ := dn_lst.mp n3
      refine .inl ⟨a, vs, e1, .inl (.inl (S3.fh _ _ h4)), fun p hp => ?_⟩
      have gr := Grow.new (o := .lst (cutV vs lo hi)) S3.fh hp
      exact k _ ρ3 _ _ _ h3 (x.trans gr.ff) (S3.grow gr) (dn_lst.mpr ⟨p, _, rfl, upd_same, (cut_dn n4 lo hi).mono gr.ff⟩)
    | tup ds =>
      cases hq
      obtain ⟨a, vs, e1, h4, n4⟩ := dn_tup.mp n3
      refine .inr (.inl ⟨a, vs, e1, ex_t S3.fh h4, fun hw => ?_, fun _ p hp => ?_⟩)
      · have ec : cutV vs lo hi = vs := by
          unfold cutV
          rw [hw.1, hw.2, List.drop_zero, Nat.sub_zero, List.take_length]
        have n5 := cut_dn n4 lo hi
        rw [ec] at n5
        exact k _ ρ3 _ _ _ h3 x S3 (dn_tup.mpr ⟨a, vs, rfl, h4, n5⟩)
      · have gr := Grow.new (o := .tup (cutV vs lo hi)) S3.fh hp
        exact k _ ρ3 _ _ _ h3 (x.trans gr.ff) (S3.grow gr) (dn_tup.mpr ⟨p, _, rfl, .inl (.inl upd_same), (cut_dn n4 lo hi).mono gr.ff⟩)
    | str z =>
      cases hq
      exact .inr (.inr ⟨z, dn_str.mp n3, sz_of (hz z rfl), k _ ρ3 _ _ _ h3 x S3 (dn_str.mpr rfl)⟩)
    | non => cases hq
    | bl _ => cases hq
    | int _ => cases hq
    | dic _ _ => cases hq
    | obj _ _ _ => cases hq
    | scr _ => cases hq
theorem pick_dn {F : Hp} {vs : List V} (n : DnL K F ds vs) (is : List Nat) : DnL K F (is.filterMap (ds[·]?)) (is.filterMap (vs[·]?)) := by
  induction is with
  | nil => exact .nil
  | cons i is ih =>
    rw [List.filterMap_cons, List.filterMap_cons]
    cases e : ds[i]? with
    | none =>
      have : vs[i]? = none := by
        rw [List.getElem?_eq_none_iff] at e ⊢
        rw [← n.length]
        exact e
      rw [this]
      exact ih
    | some x =>
      obtain ⟨u, eu, ru⟩ := n.get e
      rw [eu]
      exact .cons ru ih
theorem stepPick_dn {F : Hp} {vs : List V} (n : DnL K F ds vs) (i c : Int) : DnL K F (stepPick ds i c) (stepPick vs i c) := by
  unfold stepPick
  rw [n.length]
  exact pick_dn n _
theorem ev_step {tlo : TO} {c : Int} {Φ : D → Rho → Prop} (hc : c ≠ 0) (h : EvS K E Ξ te ρ fun d ρ1 => EvO K E Ξ tlo ρ1 fun lo ρ2 => ∃ ds i, d = .lst ds ∧ lo = some i ∧ Φ (.lst (stepPick ds i c)) ρ2) : EvS K E Ξ (tStepL K c te tlo) ρ Φ := fun F0 H0 σ F H Q S e k =>
  h F0 H0 σ F H _ S e fun d ρ1 v F1 H1 h1 x1 S1 n1 => h1 F0 H0 σ F1 H1 _ S1 e fun lo ρ2 F2 H2 ⟨ds, i, ed, el, h2⟩ x2 S2 => by
    subst ed
    obtain ⟨a, vs, e1, h4, n4⟩ := dn_lst.mp (n1.mono x2)
    refine ⟨i, el, a, vs, e1, .inl (.inl (S2.fh _ _ h4)), hc, fun p hp => ?_⟩
    have gr := Grow.new (o := .lst (stepPick vs i c)) S2.fh hp
    exact k _ ρ2 _ _ _ h2 ((x1.trans x2).trans gr.ff) (S2.grow gr) (dn_lst.mpr ⟨p, _, rfl, upd_same, (stepPick_dn n4 i c).mono gr.ff⟩)
theorem ev_rev {Φ : D → Rho → Prop} (h : EvS K E Ξ te ρ fun d ρ1 => ∃ ds, d = .lst ds ∧ Φ (.lst ds.reverse) ρ1) : EvS K E Ξ (tRevL K te) ρ Φ := fun F0 H0 σ F H Q S e k =>
  h F0 H0 σ F H _ S e fun d ρ1 v F1 H1 ⟨ds, ed, h1⟩ x1 S1 n1 => by
    subst ed
    obtain ⟨a, vs, e1, h4, n4⟩ := dn_lst.mp n1
    refine ⟨a, vs, e1, .inl (.inl (S1.fh _ _ h4)), fun p hp => ?_⟩
    have gr := Grow.new (o := .lst vs.reverse) S1.fh hp
    exact k _ ρ1 _ _ _ h1 (x1.trans gr.ff) (S1.grow gr) (dn_lst.mpr ⟨p, _, rfl, upd_same, n4.reverse.mono gr.ff⟩)
theorem ev_lst {Φ : D → Rho → Prop} (h : EvA K E Ξ tl ρ fun xs ρ1 => xs.length ≤ 100000 ∧ Φ (.lst xs) ρ1) : EvS K E Ξ (tLst tl) ρ Φ := EvL.ev (el_lst h)
abbrev rSplit : V → List V → Hp → VK → Prop := fun x xs H Q => ∃ a b, x = V.str a ∧ xs = [.str b] ∧ (b.length == 0) = false ∧ a.length + 2 ≤ sizeLine ∧ rNewStrs (Txt.split a b) H Q
abbrev rJoin (K : PySem.W.Frag) : V → List V → Hp → VK → Prop := fun x xs H Q => ∃ a p, ∃ ys : List Str, x = V.str a ∧ xs = [.ref p] ∧ (SqL K H p (ys.map V.str) ∨ SqT K H p (ys.map V.str)) ∧ (ys.map (·.length)).sum + ys.length * a.length ≤ 16777216 ∧ Q (.str (Txt.join a ys)) H
theorem ev_split {Φ : D → Rho → Prop} (h : EvS K E Ξ ta ρ fun d ρ1 => ∃ a, d = .str a ∧ a.length + 2 ≤ 100000 ∧ EvS K E Ξ tb ρ1 fun e ρ2 => ∃ b, e = .str b ∧ (b.length == 0) = false ∧ Φ (.lst ((Txt.split a b).map .str)) ρ2) : EvS K E Ξ (tM1 rSplit ta tb) ρ Φ := fun F0 H0 σ F H Q S e k =>
  h F0 H0 σ F H _ S e fun d ρ1 v F1 H1 ⟨a, ed, hl, h1⟩ x1 S1 n1 => by
    subst ed
    refine ⟨⟨a, dn_str.mp n1⟩, h1 F0 H0 σ F1 H1 _ S1 e fun d2 ρ2 w F2 H2 ⟨b, eb, hb, h2⟩ x2 S2 n2 => ?_⟩
    subst eb
    refine ⟨a, b, dn_str.mp n1, by rw [dn_str.mp n2], hb, sz_of hl, fun p hp => ?_⟩
    have gr := Grow.new (o := .lst ((Txt.split a b).map V.str)) S2.fh hp
    exact k _ ρ2 _ _ _ h2 ((x1.trans x2).trans gr.ff) (S2.grow gr) (dn_lst.mpr ⟨p, _, rfl, upd_same, DnL.strs⟩)
theorem ev_join {Φ : D → Rho → Prop} (h : EvS K E Ξ ta ρ fun d ρ1 => ∃ a, d = .str a ∧ EvS K E Ξ tb ρ1 fun e ρ2 => ∃ ys : List Str, e = .lst (ys.map .str) ∧ (ys.map (·.length)).sum + ys.length * a.length ≤ 100000 ∧ Φ (.str (Txt.join a ys)) ρ2) : EvS K E Ξ (tM1 (rJoin K) ta tb) ρ Φ := fun F0 H0 σ F H Q S e k =>
  h F0 H0 σ F H _ S e fun d ρ1 v F1 H1 ⟨a, ed, h1⟩ x1 S1 n1 => by
    subst ed
    refine ⟨⟨a, dn_str.mp n1⟩, h1 F0 H0 σ F1 H1 _ S1 e fun d2 ρ2 w F2 H2 ⟨ys, eb, hb, h2⟩ x2 S2 n2 => ?_⟩
    subst eb
    obtain ⟨q, vs, e1, h4, n4⟩ := dn_lst.mp n2
    have ev := DnL.strs' n4
    subst ev
    exact ⟨a, q, ys, dn_str.mp n1, by rw [e1], .inl (.inl (.inl (S2.fh _ _ h4))), Nat.le_trans hb (by decide), k _ ρ2 _ _ _ h2 (x1.trans x2) S2 (dn_str.mpr rfl)⟩
theorem c_listS {z : Str} (hz : z.length ≤ 100000) (h : Ψ (.lst (z.cps.toList.map fun c => .str ⟨#[c]⟩))) : Cl K (rListU K) [.str z] Ψ := .one fun F H v Q e nn q => .inr ⟨z, by rw [dn_str.mp nn], hz, fun p hp => by
  have gr := Grow.new (o := .lst (z.cps.toList.map fun c => V.str ⟨#[c]⟩)) e hp
  refine q _ _ _ _ h gr (dn_lst.mpr ⟨p, _, rfl, upd_same, ?_⟩)
  have := DnL.strs (K := K) (F := upd F p (.lst (z.cps.toList.map fun c => V.str ⟨#[c]⟩))) (zs := z.cps.toList.map fun c => (⟨#[c]⟩ : Str))
  rw [List.map_map, List.map_map] at this
  exact this⟩
theorem c_listL (h : Ψ (.lst ds)) : Cl K (rListU K) [.lst ds] Ψ := .one fun F H v Q e nn q => by
  obtain ⟨a, xs, e1, h2, n2⟩ := dn_lst.mp nn
  refine .inl ⟨a, xs, by rw [e1], .inl (.inl (.inl (e _ _ h2))), fun l hl => ?_⟩
  have gr := Grow.new (o := .lst xs) e hl
  exact q _ _ _ _ h gr (dn_lst.mpr ⟨l, xs, rfl, upd_same, n2.mono gr.ff⟩)
theorem c_listT (h : Ψ (.lst ds)) : Cl K (rListU K) [.tup ds] Ψ := .one fun F H v Q e nn q => by
  obtain ⟨a, xs, e1, h2, n2⟩ := dn_tup.mp nn
  refine .inl ⟨a, xs, by rw [e1], .inr (ex_t e h2), fun l hl => ?_⟩
  have gr := Grow.new (o := .lst xs) e hl
  exact q _ _ _ _ h gr (dn_lst.mpr ⟨l, xs, rfl, upd_same, n2.mono gr.ff⟩)
def leD : D → D → Bool := PySem.W.dataLe false py
theorem dn_zip {F : Hp} : ∀ {ds : List D} {vs : List V}, DnL K F ds vs → ∀ q ∈ vs.zip ds, Dn K F q.2 q.1
  | [], _, h, q, hq => by rw [dnl_nil.mp h] at hq; cases hq
  | d :: ds, _, h, q, hq => by
    obtain ⟨v, r, e, h1, h2⟩ := dnl_cons.mp h
    rw [e, List.zip_cons_cons] at hq
    rcases List.mem_cons.mp hq with z | z
    · rw [z]; exact h1
    · exact dn_zip h2 q z
theorem zip_dn {F : Hp} : ∀ {l : List (V × D)}, (∀ q ∈ l, Dn K F q.2 q.1) → DnL K F (l.map (·.2)) (l.map (·.1))
  | [], _ => .nil
  | q :: l, h => .cons (h q List.mem_cons_self) (zip_dn fun r hr => h r (List.mem_cons_of_mem _ hr))
theorem c_sorted {n : Nat} (hn : n ≤ 64) (hok : ∀ d ∈ ds, okD n d = true) (hal : PySem.W.AllAlike (ds.map py)) (hk : PySem.W.Sortable (ds.map py)) (h : Ψ (.lst (ds.mergeSort leD))) : Cl K (rSortD K) [.lst ds] Ψ := .one fun F H v Q e nn q => by
  obtain ⟨a, xs, e1, h2, n2⟩ := dn_lst.mp nn
  have hl := n2.length
  let l : List (V × D) := xs.zip ds
  have l1 : l.map (·.1) = xs := by simp only [l]; exact List.map_fst_zip (by omega)
  have l2 : l.map (·.2) = ds := by simp only [l]; exact List.map_snd_zip (by omega)
  have lm : ∀ q ∈ l, q.2 ∈ ds := fun q hq => by rw [← l2]; exact List.mem_map.mpr ⟨q, hq, rfl⟩
  let bs : List (V × PyData) := l.map fun q => (q.1, py q.2)
  have b1 : bs.map (·.1) = xs := by simp only [bs, List.map_map]; exact l1
  have b2 : bs.map (·.2) = ds.map py := by
    simp only [bs, List.map_map]
    rw [← l2, List.map_map]
    rfl
  refine ⟨a, bs, by rw [e1], .inl (.inl (by rw [b1]; exact e _ _ h2)), fun b hb => ?_, by rw [b2]; exact hal, by rw [b2]; exact hk, fun p hp => ?_⟩
  · obtain ⟨q, hq, rfl⟩ := List.mem_map.mp hb
    have ho := hok _ (lm q hq)
    exact ⟨dn_dp n q.2 q.1 ho ((dn_zip n2 q hq).mono e), Nat.le_trans (okD_lay n q.2 ho).2 hn⟩
  · have s1 : bs.mergeSort (PySem.W.dataLe false (·.2)) = (l.mergeSort (fun x y => leD x.2 y.2)).map fun q => (q.1, py q.2) :=
      (PySem.W.sort_maps (r := fun x y : V × D => leD x.2 y.2) (s := PySem.W.dataLe false (fun b : V × PyData => b.2)) (fun q : V × D => (q.1, py q.2)) fun _ _ _ _ => rfl).symm
    have s2 : (l.mergeSort (fun x y => leD x.2 y.2)).map (·.2) = ds.mergeSort leD := by
      rw [PySem.W.sort_maps (s := leD) (fun q : V × D => q.2) fun _ _ _ _ => rfl, l2]
    have s3 : DnL K F (ds.mergeSort leD) ((bs.mergeSort (PySem.W.dataLe false (·.2))).map (·.1)) := by
      rw [s1, List.map_map, ← s2]
      exact zip_dn fun q hq => dn_zip n2 q (List.mem_mergeSort.mp hq)
    have gr := Grow.new (o := .lst ((bs.mergeSort (PySem.W.dataLe false (·.2))).map (·.1))) e hp
    exact q _ _ _ _ h gr (dn_lst.mpr ⟨p, _, rfl, upd_same, s3.mono gr.ff⟩)
end
end Z

namespace Z
open PySem PySem.Spec PyProof.Rows L2 Evl
variable {K : PySem.W.Frag}
def spXI (C : Addr) (f : Str) : Sp := fun vs H Q _ => ∃ (a : Addr) (v : V), vs = [.ref a, v] ∧ H a = some (exo a C none) ∧ ∀ dx, H dx = none → dx ≠ a → Q .non (upd (upd H dx (exd dx [(f, v)])) a (exo a C (some dx)))
section
variable {E : L2.St → XK} {Ξ : Xi} {ρ : Rho} {ta tb tc te : TE} {tl : TA} {t : TT} {ts tu : TS} {i j : Nat} {d : D} {ds : List D} {p : Addr} {g : TG} {Ψ : D → Prop} {Φ : Out → Prop}
theorem r_raise {C : Addr} {f : Str} (h : EvA K E Ξ tl ρ fun ds ρ1 => ∃ d, ds = [d] ∧ Ξ C (some (f, d)) ρ1) : RunS K E Ξ (fun _ σ H => tMkO C (spXI C f) [] tl σ H (E σ)) ρ Φ := fun F0 H0 σ F H D S e k1 k2 k3 k4 =>
  h F0 H0 σ F H _ S e fun ds ρ1 vs F1 H1 ⟨d, ed, hx⟩ x1 S1 n1 => by
    subst ed
    obtain ⟨v, r, e1, n2, n3⟩ := dnl_cons.mp n1
    rw [dnl_nil.mp n3] at e1
    subst e1
    refine ⟨Nat.le_of_lt (by show 1 < 1000; decide), fun a ha => ⟨a, v, rfl, upd_same, fun dx hdx hne => ⟨rfl, dx, [(f, v)], upd_same, ?_, ?_, ?_⟩⟩⟩
    · rw [upd_ne hne]; exact upd_same
    · rw [upd_ne hne] at hdx; exact hdx
    · rw [upd_ne hne] at hdx
      let H' : Hp := upd (del (upd (upd (upd H1 a (exo a C none)) dx (exd dx [(f, v)])) a (exo a C (some dx))) a) dx (.xd [(f, v)])
      have same : ∀ b o, H1 b = some o → H' b = some o := fun b o hb => by
        have b1 : b ≠ a := fun z => by rw [z, ha] at hb; cases hb
        have b2 : b ≠ dx := fun z => by rw [z, hdx] at hb; cases hb
        show upd _ _ _ b = _
        rw [upd_ne b2, del_ne b1, upd_ne b1, upd_ne b2, upd_ne b1]
        exact hb
      have gr : Grow F1 H1 F1 H' := ⟨Ex.refl F1, same, fun b o hb => same b o (S1.fh b o hb), fun b _ h2 => h2⟩
      exact e C (some (f, d)) ρ1 σ (some dx) F1 H' hx (S1.grow gr) ⟨dx, v, rfl, upd_same, n2⟩
theorem Sd.unset {F0 H0 F H : Hp} {σ : L2.St} (S : Sd K F0 H0 ρ σ F H) : Sd K F0 H0 (ρ.set i .un) (σ.set i none) F H := S.wipe1
theorem Sd.any {F0 H0 F H : Hp} {σ : L2.St} {x : Option V} (S : Sd K F0 H0 ρ σ F H) : Sd K F0 H0 (ρ.set i .un) (σ.set i x) F H := by
  have S1 := S.wipe1 (i := i)
  refine ⟨S1.g, by rw [List.length_set, List.length_set]; exact S.len, fun j t h => ?_, S1.dj⟩
  by_cases e : i = j
  · subst e
    have hl : i < ρ.length := by
      have := (List.getElem?_eq_some_iff.mp h).1
      rwa [List.length_set] at this
    rw [List.getElem?_set_self hl] at h
    cases h
    trivial
  · have z := S1.sl j t h
    rw [get_set_ne e] at z ⊢
    exact z
theorem r_tryF {tb : WX → TS} {c : Value} {C : Addr} {f : Str} {Wout : WX} {Ξ1 : Xi} (hW : ∀ cls d σ H, Wout cls d σ H = E σ cls d H) (hij : i ≠ j)
    (body : ∀ W : WX, RunS K (fun σ cls d H => W cls d σ H) Ξ1 (tb W) ρ Φ)
    (hx : ∀ C' fld ρ', Ξ1 C' fld ρ' → ∃ b, PySem.W.exmOne K (.ref C') c = some b ∧ (b = true → C' = C ∧ i < ρ'.length ∧ ∃ d, fld = some (f, d) ∧ Φ (.nx (((ρ'.set i .un).set j (.dt d)).set i .un))) ∧ (b = false → Ξ C' fld ρ')) :
    RunS K E Ξ (fun D σ H => tb (wAs K c i (fun a cls d => tAsg (tXf a cls d C f (tVar i)) (gName j)) Wout D) D σ H) ρ Φ := by
  intro F0 H0 σ F H D S e k1 k2 k3 k4
  refine body _ F (delS ρ H) σ F H D S.rebase (fun C' fld ρ' σ' dd F' H' hc S1' xo => ?_) (fun ρ' σ' F' H' h x S' => k1 ρ' σ' F' H' h x (S.unbase S')) (fun d ρ' v σ' F' H' h x S' n => k2 d ρ' v σ' F' H' h x (S.unbase S') n)
    (fun ρ' σ' F' H' h x S' => k3 ρ' σ' F' H' h x (S.unbase S')) (fun ρ' σ' F' H' h x S' => k4 ρ' σ' F' H' h x (S.unbase S'))
  have S' := S.unbase S1'
  obtain ⟨b, eb, h1, h2⟩ := hx C' fld ρ' hc
  refine ⟨b, eb, fun ht a ha => ?_, fun hf => ?_⟩
  · obtain ⟨rfl, hlt, d, rfl, hΦ⟩ := h1 ht
    obtain ⟨ad, v, rfl, hd, nd⟩ := xo
    have hi : (σ'.set i (some (.ref a)))[i]? = some (some (.ref a)) := List.getElem?_set_self (by rw [S'.len]; exact hlt)
    refine ⟨_, hi, rfl, rfl, ad, _, v, rfl, hd, by simp [List.lookup], ?_⟩
    have S2 : Sd K F0 H0 (ρ'.set i .un) (σ'.set i (some (.ref a))) F' H' := S'.any
    exact k1 _ _ F' H' hΦ S1'.g.ff ((S2.putD nd).wipe1)
  · rw [hW]
    exact e C' fld ρ' σ' dd F' H' (h2 hf) S' xo
theorem r_tryC {tb : WX → TS} {c : Value} {w : V} {Wout : WX} {Ξ1 : Xi} (hw : ∀ F, Dn K F d w) (hW : ∀ cls d σ H, Wout cls d σ H = E σ cls d H)
    (body : ∀ W : WX, RunS K (fun σ cls d H => W cls d σ H) Ξ1 (tb W) ρ Φ)
    (hx : ∀ C' fld ρ', Ξ1 C' fld ρ' → ∃ b, PySem.W.exmOne K (.ref C') c = some b ∧ (b = true → Φ (.nx (((ρ'.set i .un).set j (.dt d)).set i .un))) ∧ (b = false → Ξ C' fld ρ')) :
    RunS K E Ξ (fun D σ H => tb (wAs K c i (fun _ _ _ => tAsg (tC w) (gName j)) Wout D) D σ H) ρ Φ := by
  intro F0 H0 σ F H D S e k1 k2 k3 k4
  refine body _ F (delS ρ H) σ F H D S.rebase (fun C' fld ρ' σ' dd F' H' hc S1' xo => ?_) (fun ρ' σ' F' H' h x S' => k1 ρ' σ' F' H' h x (S.unbase S')) (fun d ρ' v σ' F' H' h x S' n => k2 d ρ' v σ' F' H' h x (S.unbase S') n)
    (fun ρ' σ' F' H' h x S' => k3 ρ' σ' F' H' h x (S.unbase S')) (fun ρ' σ' F' H' h x S' => k4 ρ' σ' F' H' h x (S.unbase S'))
  have S' := S.unbase S1'
  obtain ⟨b, eb, h1, h2⟩ := hx C' fld ρ' hc
  refine ⟨b, eb, fun ht a ha => ?_, fun hf => ?_⟩
  · have S2 : Sd K F0 H0 (ρ'.set i .un) (σ'.set i (some (.ref a))) F' H' := S'.any
    exact k1 _ _ F' H' (h1 ht) S1'.g.ff ((S2.putD (hw F')).wipe1)
  · rw [hW]
    exact e C' fld ρ' σ' dd F' H' (h2 hf) S' xo

theorem ev_stat {C : Addr} {Φ : D → Rho → Prop} {P : PP} (h : EvA K E Ξ tl ρ fun ds ρ1 => ∃ Ψ Θ, P ds Ψ Θ ∧ (∀ d, Ψ d → Φ d ρ1) ∧ ∀ C fld, Θ C fld → Ξ C fld ρ1) : EvS K E Ξ (tStat C (spP K P) E (tC (.ref C)) tl) ρ Φ := fun F0 H0 σ F H Q S e k =>
  ⟨rfl, h F0 H0 σ F H _ S e fun ds ρ1 vs F1 H1 ⟨Ψ, Θ, h1, h2, h3⟩ x1 S1 n1 => by
    rw [List.append_nil]
    exact ⟨ds, F1, Ψ, Θ, h1, S1.fh, n1, fun d v F' H' hd g n => k d ρ1 v F' H' (h2 d hd) (x1.trans g.ff) (S1.grow g) n, fun C fld dd F' H' hc g x => e C fld ρ1 σ dd F' H' (h3 C fld hc) (S1.grow g) x⟩⟩
theorem c_strOwn {C : Addr} {P : PP} {ks : List Str} (h : ∃ Ψ', P [.obj C ks ds] Ψ' noT ∧ ∀ d, Ψ' d → (∃ y, d = .str y) ∧ Ψ d) : Cl K (rStrOwn C (spP K P)) [.obj C ks ds] Ψ := .one fun F H v Q e nn q => by
  obtain ⟨a, dx, xs, e1, h1, h2, hl, n2⟩ := dn_obj.mp nn
  obtain ⟨Ψ', hP, hΨ⟩ := h
  subst e1
  refine ⟨a, dx, _, rfl, e _ _ h1, [.obj C ks ds], F, Ψ', noT, hP, e, .cons nn .nil, fun d v F' H' hd g n => ?_, fun _ _ _ _ _ z => z.elim⟩
  obtain ⟨⟨y, rfl⟩, z⟩ := hΨ d hd
  exact ⟨⟨y, dn_str.mp n⟩, q _ v F' H' z g n⟩
def spMk (K : PySem.W.Frag) (C : Addr) (P : List D → (List Str → List D → Prop) → Prop) : Sp := fun vs H Q _ => ∃ (x dx : Addr) (ws : List V) (ds : List D) (F : Hp) (Φ : List Str → List D → Prop), vs = .ref x :: ws ∧ P ds Φ ∧ Ex F H ∧ F x = none ∧ F dx = none ∧ H x = some (.ins C dx []) ∧ H dx = some (.own x) ∧ DnL K F ds ws ∧
  ∀ (ks : List Str) (es : List D) (us : List V) (F' H' : Hp), Φ ks es → Ex F F' → Ex F' H' → (∀ b o, b ≠ x → H b = some o → H' b = some o) → (∀ b, H b ≠ none → F b = none → F' b = none) → H' x = some (.ins C dx (ks.zip us)) → ks.length = es.length → DnL K F' es us → Q .non H'
theorem ev_make {C : Addr} {Φ : D → Rho → Prop} {P : List D → (List Str → List D → Prop) → Prop} {E0' : XK} (h : EvA K E Ξ tl ρ fun ds ρ1 => ∃ Ψ, P ds Ψ ∧ ∀ ks es, Ψ ks es → Φ (.obj C ks es) ρ1) : EvS K E Ξ (tMake C (spMk K C P) [] E0' tl) ρ Φ := fun F0 H0 σ F H Q S e k =>
  h F0 H0 σ F H _ S e fun ds ρ1 vs F1 H1 ⟨Ψ, h1, h2⟩ x1 S1 n1 x dx hx hdx hne => by
    rw [List.append_nil]
    have fx : F1 x = none := fresh_F S1.fh hx
    have fdx : F1 dx = none := fresh_F S1.fh hdx
    have e2 : Ex H1 (upd (upd H1 dx (.own x)) x (.ins C dx [])) := (Ex.new hdx).mut hx
    refine ⟨x, dx, vs, ds, F1, Ψ, rfl, h1, S1.fh.trans e2, fx, fdx, upd_same, by rw [upd_ne hne]; exact upd_same, n1, fun ks es us F' H' hp a1 a2 a3 a4 a5 a6 a7 => ⟨rfl, ?_⟩⟩
    have hdx' : H' dx = some (.own x) := a3 dx _ hne (by rw [upd_ne hne]; exact upd_same)
    have fx' : F' x = none := a4 x (by rw [upd_same]; simp) fx
    have fdx' : F' dx = none := a4 dx (by rw [upd_ne hne, upd_same]; simp) fdx
    let F2 : Hp := upd (upd F' dx (.own x)) x (.ins C dx (ks.zip us))
    have x2 : Ex F' F2 := (Ex.new fdx').mut fx'
    have gr : Grow F1 H1 F2 H' := by
      refine ⟨a1.trans x2, fun b o hb => a3 b o (fun z => by rw [z, hx] at hb; cases hb) (e2 b o hb), fun b o hb => ?_, fun b hb1 hb2 => ?_⟩
      · by_cases c1 : b = x
        · subst c1
          have : F2 b = some (.ins C dx (ks.zip us)) := upd_same
          rw [this] at hb
          cases hb
          exact a5
        · by_cases c2 : b = dx
          · subst c2
            have : F2 b = some (.own x) := by show upd _ _ _ b = _; rw [upd_ne c1, upd_same]
            rw [this] at hb
            cases hb
            exact hdx'
          · have : F2 b = F' b := by show upd _ _ _ b = _; rw [upd_ne c1, upd_ne c2]
            rw [this] at hb
            exact a2 b o hb
      · have c1 : b ≠ x := fun z => hb1 (z ▸ hx)
        have c2 : b ≠ dx := fun z => hb1 (z ▸ hdx)
        show upd _ _ _ b = none
        rw [upd_ne c1, upd_ne c2]
        exact a4 b (by rw [upd_ne c1, upd_ne c2]; exact hb1) hb2
    refine k _ ρ1 (.ref x) F2 H' (h2 ks es hp) (x1.trans gr.ff) (S1.grow gr) (dn_obj.mpr ⟨x, dx, us, rfl, upd_same, ?_, a6, a7.mono x2⟩)
    show upd _ _ _ dx = _
    rw [upd_ne hne, upd_same]

def clsD : D → Option String
  | .non => some "NoneType" | .bl _ => some "bool" | .int _ => some "int" | .str _ => some "str" | .tup _ => some "tuple" | .lst _ => some "list" | .dic _ _ => some "dict" | _ => none
theorem tyX_of {F H : Hp} {v : V} (e : Ex F H) : ∀ {d : D} {c : String}, clsD d = some c → Dn K F d v → TyX K H v (.type c)
  | .non, c, h, n => by rw [dn_non.mp n]; cases h; exact .base .non
  | .bl b, c, h, n => by rw [dn_bl.mp n]; cases h; exact .base (.bl b)
  | .int b, c, h, n => by rw [dn_int.mp n]; cases h; exact .base (.int b)
  | .str b, c, h, n => by rw [dn_str.mp n]; cases h; exact .base (.str b)
  | .tup ds, c, h, n => by
    obtain ⟨a, xs, e1, h1, _⟩ := dn_tup.mp n
    rw [e1]
    cases h
    rcases ex_t e h1 with (z | ⟨o, z⟩) | ⟨o, its, m, h1, h2, _⟩
    · exact .base (.tup z)
    · exact .fTuple z
    · exact .kTuple h1 h2
  | .lst ds, c, h, n => by
    obtain ⟨a, xs, e1, h1, _⟩ := dn_lst.mp n
    rw [e1]
    cases h
    exact .base (.lst (e _ _ h1))
  | .dic ks ds, c, h, n => by
    obtain ⟨a, xs, e1, h1, _⟩ := dn_dic.mp n
    rw [e1]
    cases h
    exact .base (.dK (e _ _ h1))
  | .obj _ _ _, c, h, _ => by cases h
  | .scr _, c, h, _ => by cases h
theorem ev_isi {T : String} {Φ : D → Rho → Prop} (h : EvS K E Ξ te ρ fun d ρ1 => ∃ c b, clsD d = some c ∧ kitB c T = some b ∧ Φ (.bl b) ρ1) : EvS K E Ξ (tCB (rIsi K) (tCons te (tCons (tC (.ty T)) tNil))) ρ Φ := fun F0 H0 σ F H Q S e k =>
  h F0 H0 σ F H _ S e fun d ρ1 v F1 H1 ⟨c, b, hc, hb, h1⟩ x1 S1 n1 => ⟨v, .ty T, .type c, .type T, b, rfl, .ty T, tyX_of S1.fh hc n1, kit_ty hb, k (.bl b) ρ1 _ F1 H1 h1 x1 S1 (dn_bl.mpr rfl)⟩

def findK : List Str → List D → Str → Option D
  | k :: ks, d :: ds, f => if k = f then some d else findK ks ds f
  | _, _, _ => none
theorem val_dn {F : Hp} {f : Str} : ∀ {ks : List Str} {ds : List D} {vs : List V}, DnL K F ds vs → ks.length = ds.length → (valV (kvZ ks vs) (.inr f) = none ↔ findK ks ds f = none) ∧ ∀ v, valV (kvZ ks vs) (.inr f) = some v → ∃ d, findK ks ds f = some d ∧ Dn K F d v
  | [], [], _, n, _ => by rw [dnl_nil.mp n]; exact ⟨⟨fun _ => rfl, fun _ => rfl⟩, fun v h => by cases h⟩
  | [], _ :: _, _, _, h => by cases h
  | _ :: _, [], _, _, h => by cases h
  | k :: ks, d :: ds, vs, n, h => by
    obtain ⟨v, r, e, h1, h2⟩ := dnl_cons.mp n
    subst e
    have ih := val_dn (f := f) h2 (Nat.succ.inj h)
    show (valV ((Sum.inr k, v) :: kvZ ks r) (.inr f) = none ↔ _) ∧ ∀ w, valV ((Sum.inr k, v) :: kvZ ks r) (.inr f) = some w → _
    unfold findK
    by_cases c : k = f
    · rw [valV_pos (by rw [c]), if_pos c]
      exact ⟨⟨(fun z => nomatch z), (fun z => nomatch z)⟩, (fun w hw => by cases hw; exact ⟨d, rfl, h1⟩)⟩
    · rw [valV_neg (fun z => c (Sum.inr.inj z)), if_neg c]
      exact ih
theorem find_in {f : Str} : ∀ {ks : List Str} {ds : List D}, ks.length = ds.length → (findK ks ds f).isSome = ks.contains f
  | [], [], _ => rfl
  | [], _ :: _, h => by cases h
  | _ :: _, [], h => by cases h
  | k :: ks, d :: ds, h => by
    unfold findK
    rw [List.contains_cons]
    by_cases c : k = f
    · rw [if_pos c, c]; simp
    · rw [if_neg c, find_in (Nat.succ.inj h)]
      have : (f == k) = false := by simpa using fun z : f = k => c z.symm
      rw [this, Bool.false_or]
theorem val_some {F : Hp} {f : Str} {ks : List Str} {vs : List V} (n : DnL K F ds vs) (h : ks.length = ds.length) : (valV (kvZ ks vs) (.inr f)).isSome = ks.contains f := by
  have z := val_dn (f := f) n h
  rw [← find_in h]
  cases q : valV (kvZ ks vs) (.inr f) with
  | none => rw [(z.1).mp q] <;> rfl
  | some v => obtain ⟨d, hd, _⟩ := z.2 v q; rw [hd] <;> rfl
theorem ev_dIn {Φ : D → Rho → Prop} (h : EvS K E Ξ ta ρ fun d ρ1 => ∃ f, d = .str f ∧ EvS K E Ξ tb ρ1 fun e ρ2 => ∃ ks ds, e = .dic ks ds ∧ Φ (.bl (ks.contains f)) ρ2) : EvS K E Ξ (tDIn ta tb) ρ Φ := fun F0 H0 σ F H Q S e k =>
  h F0 H0 σ F H _ S e fun d ρ1 v F1 H1 ⟨f, ed, h1⟩ x1 S1 n1 => h1 F0 H0 σ F1 H1 _ S1 e fun d2 ρ2 w F2 H2 ⟨ks, ds, e2, h2⟩ x2 S2 n2 => by
    subst ed e2
    obtain ⟨a, xs, e3, h3, hl, n3⟩ := dn_dic.mp n2
    refine ⟨a, _, e3, .inl ⟨_, .inr f, .inl (S2.fh _ _ h3), dn_str.mp n1, rfl⟩, ?_⟩
    rw [val_some n3 hl]
    exact k _ ρ2 _ F2 H2 h2 (x1.trans x2) S2 (dn_bl.mpr rfl)
theorem ev_dInO {ks : List Str} {Φ : D → Rho → Prop} (hj : ρ[j]? = some (.od p ks ds)) (h : EvS K E Ξ ta ρ fun d ρ1 => ρ1 = ρ ∧ ∃ f, d = .str f ∧ Φ (.bl (ks.contains f)) ρ) : EvS K E Ξ (tDIn ta (tVar j)) ρ Φ := fun F0 H0 σ F H Q S e k =>
  h F0 H0 σ F H _ S e fun d ρ1 v F1 H1 ⟨er, f, ed, h1⟩ x1 S1 n1 => by
    subst er ed
    obtain ⟨e1, _, _, vs, h4, hl, n4⟩ := S1.ownD hj
    refine ⟨_, e1, p, _, rfl, .inl ⟨_, .inr f, .inl h4, dn_str.mp n1, rfl⟩, ?_⟩
    rw [val_some n4 hl]
    exact k _ _ _ F1 H1 h1 x1 S1 (dn_bl.mpr rfl)
theorem put_new {F : Hp} {f : Str} {ks : List Str} {vs : List V} {v : V} (n : DnL K F ds vs) (hl : ks.length = ds.length) (hn : ks.contains f = false) : putK (kvZ ks vs) (.inr f) v = kvZ (ks ++ [f]) (vs ++ [v]) := by
  have q : valV (kvZ ks vs) (.inr f) = none := by
    have z := val_some (f := f) n hl
    rw [hn] at z
    cases q : valV (kvZ ks vs) (.inr f) with
    | none => rfl
    | some w => rw [q] at z; cases z
  rw [putK_new v q]
  unfold kvZ
  rw [List.map_append, List.zip_append (by rw [List.length_map, hl, n.length])]
  rfl
theorem kv_len {F : Hp} {ks : List Str} {vs : List V} (n : DnL K F ds vs) (hl : ks.length = ds.length) : (kvZ ks vs).length = ks.length := by
  unfold kvZ
  rw [List.length_zip, List.length_map, ← n.length, hl, Nat.min_self]
theorem r_dput {ks : List Str} (hj : ρ[j]? = some (.od p ks ds)) (hz : ks.length < 100000) (h : EvS K E Ξ te ρ fun d ρ1 => ρ1 = ρ ∧ EvS K E Ξ tb ρ fun b ρ2 => ρ2 = ρ ∧ ∃ f, b = .str f ∧ ks.contains f = false ∧ Φ (.nx (ρ.set j (.od p (ks ++ [f]) (ds ++ [d]))))) : RunS K E Ξ (sDPut (tVar j) tb te) ρ Φ := fun F0 H0 σ F H D S e k1 k2 k3 k4 =>
  h F0 H0 σ F H _ S e fun d ρ1 v F1 H1 ⟨er, h1⟩ x1 S1 n1 => by
    subst er
    refine ⟨_, (S1.ownD hj).1, h1 F0 H0 σ F1 H1 _ S1 e fun b ρ2 w F2 H2 ⟨er, f, eb, hn, hΦ⟩ x2 S2 n2 => ?_⟩
    subst er eb
    obtain ⟨_, _, _, vs, h4, hl, n4⟩ := S2.ownD hj
    refine ⟨p, _, rfl, .inl ⟨_, .inr f, h4, dn_str.mp n2, sz_lt (by rw [kv_len n4 hl]; exact hz), rfl⟩, ?_⟩
    rw [put_new n4 hl hn]
    exact k1 _ _ F2 _ hΦ (x1.trans x2) (S2.chgD hj (by rw [List.length_append, List.length_append, hl]; rfl) (n4.snoc (n1.mono x2)))
theorem r_newD (h : ∀ p, Φ (.nx (ρ.set i (.od p [] [])))) : RunS K E Ξ (tAsg tDNewK (gName i)) ρ Φ := fun F0 H0 σ F H D S e k1 k2 k3 k4 p hp => by
  refine k1 _ _ F _ (h p) (Ex.refl F) ((S.grow (Grow.newM S.fh hp)).put (fun _ => ⟨rfl, S.new0 hp, fresh_F S.fh hp, [], upd_same, rfl, .nil⟩) fun q eq k t _ hk z => ?_)
  cases eq
  exact S.newAd hp k t hk z
end
end Z

namespace Z
open PySem PySem.Spec PyProof.Rows L2 Evl
variable {K : PySem.W.Frag}
def addK (ks : List Str) (f : Str) : List Str := if ks.contains f = true then ks else ks ++ [f]
def keysOf (fs : List Str) : List Str := fs.foldl addK []
theorem addK_has {ks : List Str} {f g : Str} : (addK ks f).contains g = (ks.contains g || (g == f)) := by
  unfold addK
  by_cases c : ks.contains f = true
  · rw [if_pos c]
    by_cases e : g = f
    · subst e; rw [c]; simp
    · have : (g == f) = false := by simpa using e
      rw [this, Bool.or_false]
  · rw [if_neg c]
    rw [List.contains_eq_any_beq, List.contains_eq_any_beq, List.any_append]
    simp [Bool.beq_comm]
theorem keys_has {f : Str} : ∀ (fs : List Str) (ks : List Str), (fs.foldl addK ks).contains f = (ks.contains f || fs.contains f)
  | [], ks => by simp
  | g :: fs, ks => by
    rw [List.foldl_cons, keys_has fs, addK_has, List.contains_cons, Bool.or_assoc]
theorem keysOf_has {f : Str} {fs : List Str} : (keysOf fs).contains f = fs.contains f := by
  unfold keysOf
  rw [keys_has]
  simp
theorem keysOf_len : ∀ (fs ks : List Str), (fs.foldl addK ks).length ≤ ks.length + fs.length
  | [], ks => Nat.le_refl _
  | g :: fs, ks => by
    rw [List.foldl_cons]
    refine Nat.le_trans (keysOf_len fs _) ?_
    unfold addK
    split
    · rw [List.length_cons]; omega
    · rw [List.length_append, List.length_cons, List.length_cons, List.length_nil]; omega
def trues (n : Nat) : List V := List.replicate n (V.bl true)
theorem put_true (K : PySem.W.Frag) {ks : List Str} {f : Str} : putK (kvZ ks (trues ks.length)) (.inr f) (.bl true) = kvZ (addK ks f) (trues (addK ks f).length) := by
  have n : DnL K (fun _ => none) (ks.map fun _ => D.bl true) (trues ks.length) := by
    unfold trues
    induction ks with
    | nil => exact .nil
    | cons k ks ih => exact .cons (dn_bl.mpr rfl) ih
  have hl : ks.length = (ks.map fun _ => D.bl true).length := by rw [List.length_map]
  unfold addK
  by_cases c : ks.contains f = true
  · rw [if_pos c]
    have hv := val_some (f := f) n hl
    unfold putK
    have ha : ((kvZ ks (trues ks.length)).any fun kv => decide (kv.1 = .inr f)) = true := by rw [valV_any, hv, c]
    rw [if_pos ha]
    apply List.ext_getElem?
    intro i
    rw [List.getElem?_map]
    cases q : (kvZ ks (trues ks.length))[i]? with
    | none => rfl
    | some kv =>
      have hm : kv ∈ kvZ ks (trues ks.length) := List.mem_of_getElem? q
      have h2 : kv.2 = .bl true := by
        unfold kvZ trues at hm
        have := (List.of_mem_zip hm).2
        exact List.eq_of_mem_replicate this
      show some (if kv.1 = .inr f then (kv.1, V.bl true) else kv) = some kv
      split
      · rw [← h2]
      · rfl
  · rw [if_neg c, put_new n hl (by simpa using c), List.length_append]
    unfold trues
    rw [List.length_singleton, List.replicate_succ']
theorem trues_dn {F : Hp} : ∀ (ks : List Str), DnL K F (ks.map fun _ => D.bl true) (trues ks.length)
  | [] => .nil
  | _ :: ks => .cons (dn_bl.mpr rfl) (trues_dn ks)
section
variable {E : L2.St → XK} {Ξ : Xi} {ρ : Rho} {tk : TE} {g : TG}
theorem ev_dcT {wi : TI} {vs : List Nat} {Φ : D → Rho → Prop} (hg : GT g vs) (f : D → Str)
    (h : EvI K E Ξ wi ρ fun xs ρ1 => xs.length < 100000 ∧ (∀ d ∈ xs, RunG K g d (wipeR (wipeR ρ1 vs) vs) fun ρ3 => EvS K (fun _ => E0) noX tk ρ3 fun e ρ5 => e = .str (f d) ∧ wipeR ρ5 vs = wipeR ρ1 vs) ∧
      Φ (.dic (keysOf (xs.map f)) ((keysOf (xs.map f)).map fun _ => .bl true)) (wipeR ρ1 vs)) : EvS K E Ξ (tDc wi g tYes tk (tC (.bl true)) vs) ρ Φ := by
  intro F0 H0 σ F H Q S e k
  refine h F0 H0 σ F H _ S e fun xs ρ1 J F1 H1 ⟨hlen, turn, fin⟩ x1 S1 it => ?_
  intro Dl hD
  have hw : Sd K F0 H0 (wipeR ρ1 vs) σ F1 H1 := S1.forget vs
  have d0 : H0 Dl = none := S1.new0 hD
  have S2 : Sd K F0 H0 (wipeR ρ1 vs) σ F1 (upd H1 Dl (.dK [])) := hw.out d0 (fresh_F S1.fh hD) (hw.newAd hD)
  let P : Nat → Hp → Prop := fun i H' => ∃ (F' : Hp) (ks : List Str), ks = keysOf ((xs.take i).map f) ∧ Ex F1 F' ∧ Sd K F0 H0 (wipeR ρ1 vs) σ F' H' ∧ F' Dl = none ∧ H' Dl = some (.dK (kvZ ks (trues ks.length)))
  have nD : ∀ (i : Nat) (s : Slot), (wipeR ρ1 vs)[i]? = some s → s.ad ≠ some Dl := hw.newAd hD
  refine ⟨fun i m H' => m = xs.length - i ∧ i ≤ xs.length ∧ P i H', ⟨xs.length, rfl, Nat.zero_le _, F1, [], rfl, Ex.refl F1, S2, fresh_F S1.fh hD, upd_same⟩, ?_⟩
  rintro i m H' ⟨rfl, hi, F', ks, ek, x', S', fD, hDw⟩
  obtain ⟨a, b⟩ := it i F' H' x' S'.fh
  by_cases hl : i < xs.length
  · have hget : xs[i]? = some xs[i] := List.getElem?_eq_getElem hl
    obtain ⟨go, yl⟩ := a xs[i] hget
    refine .inr ⟨go, fun H2 => P (i + 1) H2, fun H2 p2 => ⟨xs.length - (i + 1), by omega, rfl, hl, p2⟩, fun v H2 hy => ?_⟩
    obtain ⟨F2, g2, n2⟩ := yl v H2 hy
    have hD2 : H2 Dl = some (.dK (kvZ ks (trues ks.length))) := g2.hh _ _ hDw
    have fD2 : F2 Dl = none := g2.nw Dl (by rw [hDw]; simp) fD
    have Sb : Sd K F0 H0 (wipeR (wipeR ρ1 vs) vs) (wipe σ vs) F2 H2 := (S'.grow g2).wipe vs
    have nb : ∀ (i : Nat) (s : Slot), (wipeR (wipeR ρ1 vs) vs)[i]? = some s → s.ad ≠ some Dl := fun i s hs => by
      rw [wipeR_get] at hs
      split at hs
      · cases hs
        intro z
        cases z
      · exact nD i s hs
    have dk : delS (wipeR (wipeR ρ1 vs) vs) H2 Dl = some (.dK (kvZ ks (trues ks.length))) := (delS_keep nb).trans hD2
    refine hg v (wipe σ vs) (wipe σ vs) H2 _ wipe_wipe ?_
    refine turn xs[i] (List.getElem_mem hl) F2 _ (wipe σ vs) F2 H2 v _ Sb.rebase n2 fun ρ3 σ3 F3 H3 h3 x3 S3 hw3 => ?_
    show tk σ3 H3 fun y H4 => ∃ kvs k, y = kV k ∧ H4 Dl = some (.dK kvs) ∧ kvs.length < sizeLine ∧ P (i + 1) (upd H4 Dl (.dK (putK kvs k (.bl true))))
    refine h3 F2 _ σ3 F3 H3 _ S3 EOk.no fun q ρ5 y F5 H5 ⟨eq, e5⟩ x5 S5 n5 => ?_
    subst eq
    have q1 : Sd K F2 (delS (wipeR (wipeR ρ1 vs) vs) H2) (wipeR ρ5 vs) (wipe σ vs) F5 H5 := (hw3 ▸ S5.wipe vs)
    have b1 : Sd K F0 H0 (wipeR ρ1 vs) σ F5 H5 := by
      have z := (Sb.unbase q1)
      rw [e5] at z
      exact z.weak (σ' := σ) wipe_wipe.symm
    have b2 : H5 Dl = some (.dK (kvZ ks (trues ks.length))) := S5.g.hh _ _ dk
    have b3 : F5 Dl = none := S5.g.nw Dl (by rw [dk]; simp) fD2
    have kl : (kvZ ks (trues ks.length)).length ≤ 100000 - 1 := by
      have := keysOf_len ((xs.take i).map f) []
      rw [List.length_map, List.length_take] at this
      have e1 : ks.length ≤ i := by
        rw [ek]
        unfold keysOf
        simp only [List.length_nil] at this
        omega
      unfold kvZ trues
      rw [List.length_zip, List.length_map, List.length_replicate]
      omega
    refine ⟨_, .inr (f xs[i]), dn_str.mp n5, b2, sz_lt (by omega), F5, addK ks (f xs[i]), ?_, x'.trans ((g2.ff.trans x3).trans x5), b1.out d0 b3 nD, b3, ?_⟩
    · rw [ek, List.take_add_one, hget, List.map_append]
      unfold keysOf
      rw [List.foldl_append]
      rfl
    · rw [put_true K]
      exact upd_same
  · have e1 : i = xs.length := by omega
    subst e1
    rw [List.take_length] at ek
    subst ek
    refine .inl ⟨b (Nat.le_refl _), ?_⟩
    have x2 : Ex F' (upd F' Dl (.dK (kvZ (keysOf (xs.map f)) (trues (keysOf (xs.map f)).length)))) := Ex.new fD
    exact k _ _ (.ref Dl) _ H' fin ((x1.trans x').trans x2) (S'.frzN d0 fD nD hDw) (dn_dic.mpr ⟨Dl, _, rfl, upd_same, by rw [List.length_map], trues_dn _⟩)
end
end Z

namespace Z
open PySem PySem.Spec PyProof.Rows L2 Evl
section
variable {K : PySem.W.Frag} {E : L2.St → XK} {Ξ : Xi} {ρ : Rho} {te : TE} {tt : TT} {ts : TS}
theorem ev_mono {Φ Ψ : D → Rho → Prop} (h : EvS K E Ξ te ρ Ψ) (k : ∀ d ρ', Ψ d ρ' → Φ d ρ') : EvS K E Ξ te ρ Φ := fun F0 H0 σ F H Q S e q =>
  h F0 H0 σ F H Q S e fun d ρ' v F' H' a => q d ρ' v F' H' (k d ρ' a)
theorem et_mono {Φ Ψ : Bool → Rho → Prop} (h : EvT K E Ξ tt ρ Ψ) (k : ∀ d ρ', Ψ d ρ' → Φ d ρ') : EvT K E Ξ tt ρ Φ := fun F0 H0 σ F H Q S e q =>
  h F0 H0 σ F H Q S e fun d ρ' F' H' a => q d ρ' F' H' (k d ρ' a)
theorem run_mono {Φ Ψ : Out → Prop} (h : RunS K E Ξ ts ρ Ψ) (k : ∀ o, Ψ o → Φ o) : RunS K E Ξ ts ρ Φ := fun F0 H0 σ F H D S e k1 k2 k3 k4 =>
  h F0 H0 σ F H D S e (fun a b c d i => k1 a b c d (k _ i)) (fun a b c d e' f i => k2 a b c d e' f (k _ i)) (fun a b c d i => k3 a b c d (k _ i)) (fun a b c d i => k4 a b c d (k _ i))
theorem r_cut {Φ : Out → Prop} {J : Rho → Prop} {tu : TS} (h : RunS K E Ξ ts ρ (thenO Φ J)) (k : ∀ ρ', J ρ' → RunS K E Ξ tu ρ' Φ) : RunS K E Ξ (tSeq ts tu) ρ Φ :=
  r_seq (run_mono h fun o ho => by
    cases o with
    | nx ρ' => exact k ρ' ho
    | rt _ _ => exact ho
    | bk _ => exact ho
    | ct _ => exact ho)
end
end Z

namespace Z
open PySem PySem.Spec PyProof.Rows L2 Evl
variable {K : PySem.W.Frag}
theorem Sd.over {F0 H0 F H H2 : Hp} {σ : L2.St} {ρ : Rho} (S : Sd K F0 H0 ρ σ F H) (hn : ∀ s ∈ ρ, s.ad = none) (x : Ex F H2) : Sd K F H2 ρ σ F H2 := by
  refine ⟨Grow.refl x, S.len, fun i s hi => ?_, S.dj⟩
  have a := S.sl i s hi
  have b := hn s (List.mem_of_getElem? hi)
  cases s with
  | un => trivial
  | dt d => exact a
  | ol p ds => cases b
  | od p ks ds => cases b
def MkS (K : PySem.W.Frag) (x C dx : Addr) (ts : TS) (ρ : Rho) (ks : List Str) (ds : List D) (Φ : Rho → List Str → List D → Prop) : Prop :=
  ∀ (σ : L2.St) (F H : Hp) (us : List V) (D : Ends), Sd K F H ρ σ F H → σ[0]? = some (some (.ref x)) → F x = none → H x = some (.ins C dx (ks.zip us)) → ks.length = ds.length → DnL K F ds us →
    (∀ (ρ' : Rho) (ks' : List Str) (ds' : List Z.D) (us' : List V) (σ' : L2.St) (F' H' : Hp), Φ ρ' ks' ds' → Ex F F' → (∀ b o, b ≠ x → H b = some o → H' b = some o) → (∀ b, H b ≠ none → F b = none → F' b = none) →
      Sd K F' H' ρ' σ' F' H' → σ'[0]? = some (some (.ref x)) → F' x = none → H' x = some (.ins C dx (ks'.zip us')) → ks'.length = ds'.length → DnL K F' ds' us' → D.nx σ' H') → ts D σ H
section
variable {x C dx : Addr} {ρ : Rho} {ks : List Str} {ds : List D} {ts tu : TS} {tv : TE}
theorem mk_end {Φ : Rho → List Str → List D → Prop} (h : Φ ρ ks ds) : MkS K x C dx tNext ρ ks ds Φ := fun σ F H us D S s0 f0 hx hl n k =>
  k ρ ks ds us σ F H h (Ex.refl F) (fun b o _ h => h) (fun b _ h => h) S s0 f0 hx hl n
theorem mk_seq {Φ : Rho → List Str → List D → Prop} (h : MkS K x C dx ts ρ ks ds fun ρ1 ks1 ds1 => MkS K x C dx tu ρ1 ks1 ds1 Φ) : MkS K x C dx (tSeq ts tu) ρ ks ds Φ := fun σ F H us D S s0 f0 hx hl n k =>
  h σ F H us _ S s0 f0 hx hl n fun ρ1 ks1 ds1 us1 σ1 F1 H1 h1 x1 a1 b1 S1 s1 f1 hx1 hl1 n1 =>
    h1 σ1 F1 H1 us1 D S1 s1 f1 hx1 hl1 n1 fun ρ2 ks2 ds2 us2 σ2 F2 H2 h2 x2 a2 b2 S2 s2 f2 hx2 hl2 n2 =>
      k ρ2 ks2 ds2 us2 σ2 F2 H2 h2 (x1.trans x2) (fun b o hb ho => a2 b o hb (a1 b o hb ho)) (fun b hb1 hb2 => by
        by_cases c : b = x
        · rw [c]; exact f2
        · cases q : H b with
          | none => exact (hb1 q).elim
          | some o => exact b2 b (by rw [a1 b o c q]; simp) (b1 b hb1 hb2)) S2 s2 f2 hx2 hl2 n2
theorem putF_snoc {f : Str} {v : V} : ∀ {ks : List Str} {us : List V}, ks.length = us.length → ks.contains f = false → putF f v (ks.zip us) = (ks ++ [f]).zip (us ++ [v])
  | [], [], _, _ => rfl
  | k :: ks, u :: us, hl, hn => by
    rw [List.contains_cons, Bool.or_eq_false_iff] at hn
    have : k ≠ f := by
      intro z
      rw [z, beq_self_eq_true] at hn
      exact Bool.noConfusion hn.1
    show putF f v ((k, u) :: ks.zip us) = (k, u) :: (ks ++ [f]).zip (us ++ [v])
    unfold putF
    rw [if_neg this, putF_snoc (Nat.succ.inj hl) hn.2]
theorem mk_fld {f : Str} {Φ : Rho → List Str → List D → Prop} (hc : Cls K C) (hf : NoAttr K C f) (hk : ks.contains f = false) (hz : ks.length < 1000)
    (h : EvS K (fun _ => E0) noX tv ρ fun d ρ1 => (∀ s ∈ ρ1, s.ad = none) ∧ Φ ρ1 (ks ++ [f]) (ds ++ [d])) : MkS K x C dx (sFld K (tVar 0) tv f) ρ ks ds Φ := fun σ F H us D S s0 f0 hx hl n k => by
  refine h F H σ F H _ S EOk.no fun d ρ1 v F1 H1 ⟨hn, hp⟩ x1 S1 n1 => ?_
  have hx1 : H1 x = some (.ins C dx (ks.zip us)) := S1.g.hh _ _ hx
  have fx1 : F1 x = none := S1.g.nw x (by rw [hx]; simp) f0
  have e : Ex F1 (upd H1 x (.ins C dx (putF f v (ks.zip us)))) := fun b o hb => by
    rw [upd_ne (fun z => by rw [z, fx1] at hb; cases hb)]
    exact S1.fh b o hb
  have l2 : ks.length = us.length := hl.trans n.length
  refine ⟨_, s0, x, C, dx, ks.zip us, rfl, hx1, hc, hf, by rw [List.length_zip]; omega, ?_⟩
  refine k ρ1 _ _ (us ++ [v]) σ F1 _ hp x1 (fun b o hb ho => by rw [upd_ne hb]; exact S1.g.hh b o ho) S1.g.nw (S1.over hn e) s0 fx1 ?_ ?_ ((n.mono x1).snoc n1)
  · rw [upd_same, putF_snoc l2 hk]
  · rw [List.length_append, List.length_append, hl]; rfl
theorem body_make {N : List Str} {P : List D → (List Str → List D → Prop) → Prop} {vs : List V} {H : Hp} {Q : VK} {E' : XK}
    (h : ∀ ds Φ, P ds Φ → ∀ x dx, MkS K x C dx ts (.un :: (ds.map Slot.dt ++ List.replicate (N.length - (ds.length + 1)) .un)) [] [] fun _ ks es => Φ ks es) (sp : spMk K C P vs H Q E') : ts { nx := fun _ H' => Q .non H', rt := Q } (L2.start N vs) H := by
  obtain ⟨x, dx, ws, ds, F, Φ, rfl, hp, ex, fx, fdx, hx, hdx, n, q⟩ := sp
  have hlen := n.length
  have S : Sd K F H (.un :: (ds.map Slot.dt ++ List.replicate (N.length - (ds.length + 1)) .un)) (L2.start N (.ref x :: ws)) F H := by
    refine ⟨Grow.refl ex, ?_, fun i s hi => ?_, fun i j s t p h1 h2 h3 h4 => ?_⟩
    · unfold L2.start
      simp only [List.length_append, List.length_map, List.length_replicate, List.length_cons, hlen]
      omega
    · cases i with
      | zero => cases hi; trivial
      | succ i =>
        rw [List.getElem?_cons_succ] at hi
        by_cases c : i < ds.length
        · rw [List.getElem?_append_left (by rw [List.length_map]; exact c), List.getElem?_map, List.getElem?_eq_getElem c] at hi
          cases hi
          obtain ⟨v, hv, nv⟩ := n.get (List.getElem?_eq_getElem c)
          exact ⟨v, by rw [start_get (v := v) (by rw [List.getElem?_cons_succ]; exact hv)] <;> rfl, nv⟩
        · rw [List.getElem?_append_right (by rw [List.length_map]; omega)] at hi
          rw [rep_un hi]
          trivial
    · exfalso
      cases i with
      | zero => cases h1; cases h3
      | succ i =>
        rw [List.getElem?_cons_succ] at h1
        by_cases c : i < ds.length
        · rw [List.getElem?_append_left (by rw [List.length_map]; exact c), List.getElem?_map, List.getElem?_eq_getElem c] at h1
          cases h1
          cases h3
        · rw [List.getElem?_append_right (by rw [List.length_map]; omega)] at h1
          rw [rep_un h1] at h3
          cases h3
  exact h ds Φ hp x dx (L2.start N (.ref x :: ws)) F H [] _ S (start_get rfl) fx hx rfl .nil fun ρ' ks' ds' us' σ' F' H' h1 x1 a1 b1 S1 s1 f1 hx1 hl1 n1 => q ks' ds' us' F' H' h1 x1 S1.fh a1 b1 hx1 hl1 n1
end
end Z

namespace Lw
open PySem PySem.Spec PyProof.Rows L2 Evl Z
def Letter (c : Nat) : Bool := decide (97 ≤ c) && decide (c ≤ 122)
def isLow (z : Str) : Bool := z.cps.toList.all Letter
def isNameM (w : Str) : Bool := decide (1 ≤ w.length) && decide (w.length ≤ 8) && isLow w
def limitWords : List Str := ["0", "1", "2", "3", "4", "5", "6", "7", "8", "9"]
def stepWords : List Str := ["1", "2", "3"]
def digitM (z : Str) : Int := (z.cps.toList.headD 48 : Nat) - 48
def ltS (a b : Str) : Bool := decide (a.cps.toList < b.cps.toList)
def areWaysM (name : Str) (words firsts : List Str) : Bool :=
  if words.headD "" != "->" || decide (words.length < 3) || words.length % 2 == 0 then false else
    (stepPick words 1 2).all (fun e => e != name && firsts.contains e && isNameM e) &&
      ((stepPick words 1 2).zip (stepPick words 1 2).tail).all (fun p => ltS p.1 p.2) && (stepPick words 2 2).all stepWords.contains
structure PlaceM where
  limit : Int
  stay : Bool
  ways : List (Str × Int)
deriving DecidableEq
def waysM (rest : List Str) : List (Str × Int) := (List.range (rest.length / 2)).map fun i => (rest.getD (1 + i * 2) "", digitM (rest.getD (1 + i * 2 + 1) ""))
def restM (words : List Str) : List Str := words.drop (if words.getD 2 "" == "stay" then 3 else 2)
def placeM (words firsts : List Str) : Option PlaceM :=
  if decide (words.length < 3) || !isNameM (words.getD 0 "") || !limitWords.contains (words.getD 1 "") then none else
    if !(restM words).isEmpty && !areWaysM (words.getD 0 "") (restM words) firsts then none else
      some ⟨digitM (words.getD 1 ""), words.getD 2 "" == "stay", waysM (restM words)⟩
def goM (firsts : List Str) : Nat → List Str → List PlaceM → List (List Str) → Except Nat (List PlaceM)
  | _, _, acc, [] => .ok acc
  | n, seen, acc, w :: ws =>
    if decide (6 ≤ n) then .error n else
      match placeM w firsts with
      | none => .error n
      | some p => if seen.contains (w.getD 0 "") then .error n else goM firsts (n + 1) (seen ++ [w.getD 0 ""]) (acc ++ [p]) ws
def firstsM (rows : List (List Str)) : List Str := rows.map fun w => w.getD 0 ""
def placesM (rows : List (List Str)) : Except Nat (List PlaceM) := goM (keysOf (firstsM rows)) 0 [] [] rows
structure SiteM where
  names : List Str
  limits : List Int
  stays : List Bool
  ways : List (List (Str × Int))
deriving DecidableEq
def siteM (rows : List (List Str)) (ps : List PlaceM) : SiteM := ⟨firstsM rows, ps.map (·.limit), ps.map (·.stay), ps.map (·.ways)⟩
def rowsM (text : Str) : List (List Str) := (Txt.split text "\n").map fun r => Txt.split r " "
def parseM (text : Str) : Except Nat SiteM :=
  match placesM (rowsM text) with
  | .error n => .error n
  | .ok ps => .ok (siteM (rowsM text) ps)
def fineW (w : List Str) : Bool := decide (1 ≤ w.length) && decide (w.length ≤ 1000) && w.all fun z => decide (z.length ≤ 600)
def fineR (rows : List (List Str)) : Bool := decide (rows.length ≤ 1000) && rows.all fineW
def fineT (t : Str) : Bool := decide (t.length ≤ 50000) && ((Txt.split t "\n").all fun r => decide (r.length ≤ 50000)) && fineR (rowsM t)
def strsD (ws : List Str) : D := .lst (ws.map .str)
def wayD (p : Str × Int) : D := .tup [.str p.1, .int p.2]
def placeD (p : PlaceM) : D := .tup [.int p.limit, .bl p.stay, .lst (p.ways.map wayD)]
def siteD (C : Addr) (s : SiteM) : D := .obj C ["names", "limits", "stays", "ways"] [.tup (s.names.map .str), .tup (s.limits.map .int), .tup (s.stays.map .bl), .tup (s.ways.map fun r => .tup (r.map wayD))]
def keyD (ks : List Str) : D := .dic ks (ks.map fun _ => .bl true)
instance {α β : Type} [DecidableEq α] [DecidableEq β] : DecidableEq (Except α β) := fun a b => match a, b with
  | .ok x, .ok y => if h : x = y then isTrue (h ▸ rfl) else isFalse fun e => h (by cases e; rfl)
  | .error x, .error y => if h : x = y then isTrue (h ▸ rfl) else isFalse fun e => h (by cases e; rfl)
  | .ok _, .error _ => isFalse fun e => by cases e
  | .error _, .ok _ => isFalse fun e => by cases e
theorem step_map {α β : Type} (f : α → β) (xs : List α) (i c : Int) : stepPick (xs.map f) i c = (stepPick xs i c).map f := by
  unfold stepPick
  rw [List.length_map, List.map_filterMap]
  congr 1
  funext k
  rw [List.getElem?_map]
theorem getD_get {α : Type} {xs : List α} {i : Nat} {d : α} (h : i < xs.length) : xs[i]? = some (xs.getD i d) := by
  rw [List.getD_eq_getElem?_getD, List.getElem?_eq_getElem h]
  rfl
theorem atI_D {α : Type} {xs : List α} {i : Nat} (d : α) (h : i < xs.length) : atI xs (i : Int) = some (xs.getD i d) := atI_nat (getD_get h)
theorem atI_map {α β : Type} {f : α → β} {xs : List α} {i : Int} {x : α} (h : atI xs i = some x) : atI (xs.map f) i = some (f x) := by
  unfold atI at *
  rw [List.length_map]
  cases e : ixN xs.length i with
  | none => rw [e] at h; cases h
  | some j =>
    rw [e] at h
    show (xs.map f)[j]? = _
    rw [List.getElem?_map, show xs[j]? = some x from h]
    rfl
theorem limit_int {z : Str} (h : limitWords.contains z = true) : PySem.intText? z = some (digitM z) ∧ z.length ≤ 640 := by
  have h := List.contains_iff_mem.mp h
  simp only [limitWords, List.mem_cons, List.not_mem_nil, or_false] at h
  rcases h with h | h | h | h | h | h | h | h | h | h <;> subst h <;> decide +kernel
theorem steps_int {z : Str} (h : stepWords.contains z = true) : PySem.intText? z = some (digitM z) ∧ z.length ≤ 640 := by
  have h := List.contains_iff_mem.mp h
  simp only [stepWords, List.mem_cons, List.not_mem_nil, or_false] at h
  rcases h with h | h | h <;> subst h <;> decide +kernel
theorem even_in {xs : List Str} {i : Nat} (h : 2 + 2 * i < xs.length) : xs.getD (2 + 2 * i) "" ∈ stepPick xs 2 2 := by
  unfold stepPick
  rw [List.mem_filterMap]
  refine ⟨2 + 2 * i, ?_, getD_get h⟩
  unfold sliceBounds sliceRange
  simp only [Option.getD_some, show ((2 : Int) > 0) = True from by simp, if_true, List.mem_map, List.mem_range]
  refine ⟨i, ?_, ?_⟩
  · have e : ¬ ((2 : Int) < 0) := by decide
    simp only [e, if_false]
    split <;> omega
  · have e : ¬ ((2 : Int) < 0) := by decide
    simp only [e, if_false]
    omega
theorem odd_in {xs : List Str} {i : Nat} (h : 1 + 2 * i < xs.length) : xs.getD (1 + 2 * i) "" ∈ stepPick xs 1 2 := by
  unfold stepPick
  rw [List.mem_filterMap]
  refine ⟨1 + 2 * i, ?_, getD_get h⟩
  unfold sliceBounds sliceRange
  simp only [Option.getD_some, show ((2 : Int) > 0) = True from by simp, if_true, List.mem_map, List.mem_range]
  refine ⟨i, ?_, ?_⟩
  · have e : ¬ ((1 : Int) < 0) := by decide
    simp only [e, if_false]
    split <;> omega
  · have e : ¬ ((1 : Int) < 0) := by decide
    simp only [e, if_false]
    omega
theorem step_len {α : Type} (xs : List α) (i : Int) : (stepPick xs i 2).length ≤ (sliceRange (sliceBounds (some i) none (some 2) xs.length).1 (sliceBounds (some i) none (some 2) xs.length).2.1 (sliceBounds (some i) none (some 2) xs.length).2.2).length := List.length_filterMap_le _ _
end Lw

namespace Z
open PySem PySem.Spec PyProof.Rows L2 Evl
variable {K : PySem.W.Frag}
theorem op_inK {X : Cx} {K : PySem.W.Frag} (e : X.K = K) : OpR X (compareOp .In) (rIn K false) := by subst e; exact op_in_seq
theorem op_notInK {X : Cx} {K : PySem.W.Frag} (e : X.K = K) : OpR X (compareOp .NotIn) (rIn K true) := by subst e; exact op_notIn_seq
theorem pg_tupK {X : Cx} {K : PySem.W.Frag} {es : List Expr} {k : Nat} {t : TGs} {n : Nat} {pos : Pos} (e : X.K = K) (hc : X.calm = true) (h : PGs X es t)
    (hn : (assignEach es X.env).length = n := by rfl) (hst : (assignEach es X.env).findIdx? (·.1) = none := by rfl) : PG X (.Tuple es k pos) (gTup K n t) := by subst e; exact pg_tup hc h hn hst
theorem opK {X : Cx} {op : Value → Value → Sem Value} (r : PySem.W.Frag → R2) (K : PySem.W.Frag) (h : OpR X op (r X.K)) (e : X.K = K) : OpR X op (r K) := by subst e; exact h
theorem caK {X : Cx} {f : Value} (r : PySem.W.Frag → List V → Hp → VK → Prop) (K : PySem.W.Frag) (h : CallR X f (r X.K)) (e : X.K = K) : CallR X f (r K) := by subst e; exact h
section
variable {E : L2.St → XK} {Ξ : Xi} {ρ : Rho} {te : TE} {t : TT} {g : TG}
theorem map_at {α : Type} {as : List α} {gi : α → D} {i : Nat} {d : D} (h : (as.map gi)[i]? = some d) : ∃ a, as[i]? = some a ∧ gi a = d ∧ a ∈ as := by
  rw [List.getElem?_map] at h
  cases e : as[i]? with
  | none => rw [e] at h; cases h
  | some a => rw [e] at h; cases h; exact ⟨a, rfl, rfl, List.mem_of_getElem? e⟩
theorem el_mapF {α : Type} {wi : TI} {vs : List Nat} {Φ : List D → Rho → Prop} (hg : GT g vs) (as : List α) (gi f : α → D)
    (h : EvI K E Ξ wi ρ fun xs ρ1 => xs = as.map gi ∧ as.length < 100000 ∧ (∀ a ∈ as, RunG K g (gi a) (wipeR (wipeR ρ1 vs) vs) fun ρ3 => EvS K (fun _ => E0) noX te ρ3 fun e ρ5 => e = f a ∧ wipeR ρ5 vs = wipeR ρ1 vs) ∧ Φ (as.map f) (wipeR ρ1 vs)) : EvL K E Ξ (tLc wi g tYes te vs) ρ Φ := by
  refine el_lc hg fun F0 H0 σ F H R S e k => h F0 H0 σ F H R S e fun xs ρ1 J F1 H1 ⟨ex, h1, h2, h3⟩ => k xs ρ1 J F1 H1 ⟨by rw [ex, List.length_map]; exact h1, fun i acc ρ2 => acc = (as.take i).map f ∧ ρ2 = wipeR ρ1 vs, ⟨rfl, rfl⟩, fun i d acc ρ2 hd ⟨ea, er⟩ => ?_, fun acc ρ2 ⟨ea, er⟩ => ?_⟩
  · subst er ex
    obtain ⟨a, ha, rfl, hm⟩ := map_at hd
    intro F0 H0 σ F H v Q S n q
    refine h2 a hm F0 H0 σ F H v Q S n fun ρ3 σ3 F3 H3 h3 => q ρ3 σ3 F3 H3 (et_yes ⟨fun _ => h3.imp fun e ρ5 z => ⟨?_, z.2⟩, fun z => by cases z⟩)
    rw [ea, z.1, List.take_add_one, ha, List.map_append]
    rfl
  · subst ea er ex
    rw [List.length_map, List.take_length]
    exact h3
theorem el_filtF {α : Type} {wi : TI} {vs : List Nat} {Φ : List D → Rho → Prop} (hg : GT g vs) (as : List α) (c : α → Bool) (gi f : α → D)
    (h : EvI K E Ξ wi ρ fun xs ρ1 => xs = as.map gi ∧ as.length < 100000 ∧ (∀ a ∈ as, RunG K g (gi a) (wipeR (wipeR ρ1 vs) vs) fun ρ3 => EvT K (fun _ => E0) noX t ρ3 fun b ρ4 => b = c a ∧ wipeR ρ4 vs = wipeR ρ1 vs ∧ (b = true → EvS K (fun _ => E0) noX te ρ4 fun e ρ5 => e = f a ∧ wipeR ρ5 vs = wipeR ρ1 vs)) ∧ Φ ((as.filter c).map f) (wipeR ρ1 vs)) :
    EvL K E Ξ (tLc wi g t te vs) ρ Φ := by
  refine el_lc hg fun F0 H0 σ F H R S e k => h F0 H0 σ F H R S e fun xs ρ1 J F1 H1 ⟨ex, h1, h2, h3⟩ => k xs ρ1 J F1 H1 ⟨by rw [ex, List.length_map]; exact h1, fun i acc ρ2 => acc = ((as.take i).filter c).map f ∧ ρ2 = wipeR ρ1 vs, ⟨rfl, rfl⟩, fun i d acc ρ2 hd ⟨ea, er⟩ => ?_, fun acc ρ2 ⟨ea, er⟩ => ?_⟩
  · subst er ex
    obtain ⟨a, ha, rfl, hm⟩ := map_at hd
    intro F0 H0 σ F H v Q S n q
    refine h2 a hm F0 H0 σ F H v Q S n fun ρ3 σ3 F3 H3 h3 => q ρ3 σ3 F3 H3 (h3.imp fun b ρ4 z => ⟨fun hb => (z.2.2 hb).imp fun e ρ5 y => ⟨?_, y.2⟩, fun hb => ⟨?_, z.2.1⟩⟩)
    · have : c a = true := z.1 ▸ hb
      rw [ea, y.1, List.take_add_one, ha, List.filter_append, List.map_append]
      simp [this]
    · have : c a = false := z.1 ▸ hb
      rw [ea, List.take_add_one, ha, List.filter_append, List.map_append]
      simp [this]
  · subst ea er ex
    rw [List.length_map, List.take_length]
    exact h3
theorem zipD_map {α β : Type} {f : α → D} {g : β → D} (as : List α) (bs : List β) : zipD (as.map f) (bs.map g) = (as.zip bs).map fun p => .tup [f p.1, g p.2] := by
  unfold zipD
  rw [List.zipWith_map, List.zip, List.map_zipWith]
end
end Z

namespace Z
open PySem PySem.Spec PyProof.Rows L2 Evl
variable {K : PySem.W.Frag}
theorem ixK {X : Cx} (r : PySem.W.Frag → R2) (K : PySem.W.Frag) (h : IxR X (r X.K)) (e : X.K = K) : IxR X (r K) := by subst e; exact h
abbrev rEqU (K : PySem.W.Frag) : R2 := fun x y H Q => rEq x y H Q ∨ rEqD K x y H Q
abbrev rNeU (K : PySem.W.Frag) : R2 := fun x y H Q => rNe x y H Q ∨ rNeD K x y H Q
theorem op_eqU {X : Cx} (hu : X.A.units + 64 < cLine) : OpR X (compareOp .Eq) (rEqU X.K) := OpR.or op_eq (op_eqD hu)
theorem op_neU {X : Cx} (hu : X.A.units + 64 < cLine) : OpR X (compareOp .NotEq) (rNeU X.K) := OpR.or op_ne (op_neD hu)
section
variable {Ψ : D → Prop} {E : L2.St → XK} {Ξ : Xi} {ρ : Rho}
theorem o_eqS {a b : Str} (h : Ψ (.bl (a == b))) : Op2 K (rEqU K) (.str a) (.str b) Ψ := op2_l fun F H v w Q e n1 n2 q => by
  rw [dn_str.mp n1, dn_str.mp n2]
  refine ⟨rfl, ?_⟩
  rw [dec_str]
  exact q _ _ F H h (Grow.refl e) (dn_bl.mpr rfl)
theorem o_neS {a b : Str} (h : Ψ (.bl (a != b))) : Op2 K (rNeU K) (.str a) (.str b) Ψ := op2_l fun F H v w Q e n1 n2 q => by
  rw [dn_str.mp n1, dn_str.mp n2]
  refine ⟨rfl, ?_⟩
  rw [dec_str]
  exact q _ _ F H h (Grow.refl e) (dn_bl.mpr rfl)
theorem o_eqI {a b : Int} (h : Ψ (.bl (a == b))) : Op2 K (rEqU K) (.int a) (.int b) Ψ := op2_l fun F H v w Q e n1 n2 q => by
  rw [dn_int.mp n1, dn_int.mp n2]
  refine ⟨rfl, ?_⟩
  rw [dec_int]
  exact q _ _ F H h (Grow.refl e) (dn_bl.mpr rfl)
theorem o_neI {a b : Int} (h : Ψ (.bl (a != b))) : Op2 K (rNeU K) (.int a) (.int b) Ψ := op2_l fun F H v w Q e n1 n2 q => by
  rw [dn_int.mp n1, dn_int.mp n2]
  refine ⟨rfl, ?_⟩
  rw [dec_int]
  exact q _ _ F H h (Grow.refl e) (dn_bl.mpr rfl)
theorem o_eqU {n m : Nat} {x y : D} (hx : okD n x = true) (hy : okD m y = true) (h : Ψ (.bl (deq x y))) (hn : n ≤ 64 := by decide) (hm : m ≤ 64 := by decide) : Op2 K (rEqU K) x y Ψ := op2_r (o_eqD hx hy h hn hm)
theorem o_neU {n m : Nat} {x y : D} (hx : okD n x = true) (hy : okD m y = true) (h : Ψ (.bl (!deq x y))) (hn : n ≤ 64 := by decide) (hm : m ≤ 64 := by decide) : Op2 K (rNeU K) x y Ψ := op2_r (o_neD hx hy h hn hm)
theorem ev_kt {zs : List Str} {a : Addr} {Φ : D → Rho → Prop} (h : ∀ H, SqT K H a (zs.map V.str)) (k : Φ (.tup (zs.map .str)) ρ) : EvS K E Ξ (tC (.ref a)) ρ Φ := ev_c (fun F => dn_tup.mpr ⟨a, _, rfl, h F, DnL.strs⟩) k
theorem cut_tail {ds : List D} : cutD ds (some 1) none = ds.tail := by
  unfold cutD HT.sIx
  cases ds with
  | nil => rfl
  | cons a as =>
    show List.take _ (List.drop _ _) = as
    simp
theorem step_mem {α : Type} {xs : List α} {i c : Int} {x : α} (h : x ∈ stepPick xs i c) : x ∈ xs := by
  unfold stepPick at h
  obtain ⟨k, _, hk⟩ := List.mem_filterMap.mp h
  exact List.mem_of_getElem? hk
theorem step_le {α : Type} {xs : List α} {i : Int} (h : 0 ≤ i) : (stepPick xs i 2).length ≤ xs.length := by
  unfold stepPick
  refine Nat.le_trans (List.length_filterMap_le _ _) ?_
  unfold sliceBounds sliceRange
  simp only [Option.getD_some, show ((2 : Int) > 0) = True from by simp, if_true, List.length_map, List.length_range]
  split <;> split <;> omega
end
end Z

namespace L2
open PySem PySem.Spec PyProof.Rows
section
variable {X : Cx}
theorem sw_trueD {kx vx : Expr} {gs : List Comprehension} {scope : Scope} {pos py : Pos} {y : Str} {l : Nat} {env : Env} (hv2 : env.scope.kind = .function) (hy : env.scope.names.lookup y = some .local) (hln : (py.line == pos.line) = true)
    (haa : (scope.names.any fun (n, k) => n == y && (k == .local || k == .cell)) = false) : swapsWith (.DictComp kx vx gs scope pos) (some (.Name y py)) l env = pure true := by
  have kloc : env.kindOf y = some .local := hy
  have hbk : env.blockKind = .function := by unfold Env.blockKind; rw [hv2]; rfl
  unfold swapsWith
  simp only [hbk, kloc, haa, Expr.pos, hln]
  rfl
theorem ps_setDc {i : Nat} {y : Str} {py : Pos} {kx vx tg iter : Expr} {ifs : List Expr} {scope : Scope} {own : List (Str × Nat)} {pos spos : Pos} {wi : TI} {g : TG} {tt : TT} {tk tv : TE} (hc : X.calm = true) (hN : X.N.Nodup) (hy : X.N[i]? = some y) (hyl : X.env.scope.names.lookup y = some .local)
    (hv5 : swapsWith (.DictComp kx vx [⟨tg, iter, ifs, 0⟩] scope pos) (some (.Name y py)) spos.line X.env = pure true) (hi : PI X tg iter wi) (ok : BlkOk X.N X.env.scope scope own)
    (hv1 : ∀ (s : Shared) (H : Hp) (C : Addr) (cl : List (Str × Addr)) (fp : List Addr), PG (X.blk s H scope (compEnvC scope cl C X.env) fp) tg g) (hz3 : ∀ (s : Shared) (H : Hp) (C : Addr) (cl : List (Str × Addr)) (fp : List Addr), PTs (X.blk s H scope (compEnvC scope cl C X.env) fp) ifs tt)
    (hv2 : ∀ (s : Shared) (H : Hp) (C : Addr) (cl : List (Str × Addr)) (fp : List Addr), PE (X.blk s H scope (compEnvC scope cl C X.env) fp) kx tk)
    (hv3 : ∀ (s : Shared) (H : Hp) (C : Addr) (cl : List (Str × Addr)) (fp : List Addr), PE (X.blk s H scope (compEnvC scope cl C X.env) fp) vx tv) (hv6 : ∀ x, foldedSetIterable iter X.env x = pure x := by intro _; rfl) :
    PS X (.Assign [.Name y py] (.DictComp kx vx [⟨tg, iter, ifs, 0⟩] scope pos) spos) (tAsg (tDc wi g tt tk tv (own.map (·.2))) (gName i)) := by
  refine ⟨fun pp s σ H D Iv h => ?_⟩
  rw [exec_Assign_Name_used _ _ _ _ hv5]
  refine wpAny_bind (wpAny_standAt ?_); refine wpAny_bind ?_
  show wpAny _ X.A (do let _ ← comprehension (.DictComp kx vx [⟨tg, iter, ifs, 0⟩] scope pos) scope X.env (firstIterPos [⟨tg, iter, ifs, 0⟩] pos) newDict false (eval iter X.env) (some (assign (.Name y py) X.env))) _ _ s
  have h : tDc wi g tt tk tv (own.map (·.2)) σ H (fun x G1 => gName i x σ G1 D.nx) := h
  refine wpAny_bind (thn (dc_core (Qf := fun _ s' => SP X pp D .next s') hc hN Iv hi ok hv1 hz3 hv2 hv3 hv6 h fun Lq C s' m H' I' q hn f => ?_) fun _ s' hq => wpAny_pure (wpAny_pure hq))
  show wpAny _ _ (assign (.Name y py) X.env (.ref Lq)) _ _ _
  refine wpAny_assign_Name (store_ok2 (v := V.ref Lq) I' hN hy (.inl hyl) rfl (fun z2 J2 ⟨a, sbx, haa⟩ => ?_) (.inr hyl))
  obtain ⟨m0, m1, m2, m3, m4, m5⟩ := f
  have hCa : C ≠ a := by
    rcases haa with z | z
    · rw [z]; exact m1
    · exact fun e => m4 y a z e.symm
  refine ⟨m, hn.sameBut sbx hCa, fun hh3 sbb => ?_⟩
  exact ⟨_, H', J2.turned (t' := z2.toks) (fun b o hbk e => (sbb.2 b hbk).trans e) m0 m1 m3 m4 m5, q⟩
end
end L2
namespace Z
open PySem PySem.Spec PyProof.Rows L2 Evl
theorem wipeR_n (ρ : Rho) : wipeR ρ [] = ρ := rfl
theorem wipeR_c (ρ : Rho) (v : Nat) (vs : List Nat) : wipeR ρ (v :: vs) = (wipeR ρ vs).set v .un := rfl
end Z

namespace Z
open PySem PySem.Spec PyProof.Rows L2 Evl
variable {K : PySem.W.Frag} {E : L2.St → XK} {Ξ : Xi} {ρ : Rho} {te : TE} {Φ : Out → Prop} {p : Addr} {ds : List D}
theorem r_ext {j : Nat} (hj : ρ[j]? = some (.ol p ds)) (h : EvS K E Ξ te ρ fun d ρ1 => ∃ es fs, d = .lst fs ∧ ρ1[j]? = some (.ol p es) ∧ es.length + fs.length ≤ 100000 ∧ Φ (.nx (ρ1.set j (.ol p (es ++ fs))))) :
    RunS K E Ξ (tDrop (tBM K "list" rExtend (tVar j) (tCons te tNil))) ρ Φ := fun F0 H0 σ F H D S e k1 k2 k3 k4 => by
  obtain ⟨e1, _, _, vs, e4, n4⟩ := S.own hj
  refine ⟨.ref p, e1, .inl ⟨rfl, vs, .inl (.inl e4)⟩, h F0 H0 σ F H _ S e fun d ρ1 v F1 H1 ⟨es, fs, ed, h1, h2, h3⟩ x1 S1 n => ?_⟩
  subst ed
  obtain ⟨_, _, _, us, e5, n5⟩ := S1.own h1
  obtain ⟨b, zs, rfl, hb, n6⟩ := dn_lst.mp n
  exact ⟨p, b, us, zs, rfl, rfl, e5, S1.fh _ _ hb, sz_of (by rw [← n5.length, ← n6.length]; exact h2), k1 _ _ F1 _ h3 x1 (S1.chg h1 (n5.append n6))⟩
end Z

namespace Z
open PySem PySem.Spec PyProof.Rows L2 Evl
def iSeq (K : PySem.W.Frag) (te : TE) : TI := fun σ H R => iList K te σ H R ∨ iTup K te σ H R
theorem pi_seq {X : Cx} {K : PySem.W.Frag} {tg e : Expr} {te : TE} (eK : X.K = K) (h : PE X e te) : PI X tg e (iSeq K te) := by
  subst eK
  refine ⟨fun pins s σ H R I h' => ?_⟩
  rcases h' with h' | h'
  · exact (pi_list h).run pins s σ H R I h'
  · exact (pi_tup h).run pins s σ H R I h'
section
variable {K : PySem.W.Frag} {E : L2.St → XK} {Ξ : Xi} {ρ : Rho} {te : TE}
theorem ei_seqL {Φ : List D → Rho → Prop} (h : EvS K E Ξ te ρ fun d ρ1 => ∃ xs, d = .lst xs ∧ Φ xs ρ1) : EvI K E Ξ (iSeq K te) ρ Φ := fun F0 H0 σ F H R S e k => .inl (ei_list h F0 H0 σ F H R S e k)
theorem ei_seqT {Φ : List D → Rho → Prop} (h : EvS K E Ξ te ρ fun d ρ1 => ∃ xs, d = .tup xs ∧ Φ xs ρ1) : EvI K E Ξ (iSeq K te) ρ Φ := fun F0 H0 σ F H R S e k => .inr (ei_tup h F0 H0 σ F H R S e k)
end
end Z

namespace L2
open PySem PySem.Spec PyProof.Rows
theorem pe_callSD0 {X : Cx} {CX : CXT} {k : Nat} {f : Addr} {fd : FuncData} {ps : List Str} {sp : Sp} {x : Str} {p pos : Pos} {ds : List Value} {dvs : List V} {E : St → XK} (F : FnOk X.prog X.w X.K X.mg X.base CX k f fd ps sp) (hr : Room k X.A) (hv1 : Gl X x) (hm : X.mg x = some (.ref f)) (hv2 : PySem.W.keepIn X.K (.ref f) = true) (hb : Binds X.K fd ps ds) (hd : Vals dvs ds) (hx : ∀ σ, PassesAt CX X σ (E σ))
    (hv4 : (x == ("__debug__" : Str)) = false := by decide) : PE X (.Call (.Name x p) [] [] pos) (tCallSD sp dvs E tNil) := by
  refine ⟨fun pp s σ H Q Iv h => ?_⟩
  refine wpAny_Call_Name_kw (ld_glob Iv hv1 hm ?_ hv4)
  exact PySem.W.callWith_K0 Iv.kIn hv2 (run_fnSD (us := []) F hr hb hd (hx σ) Iv .nil h)
end L2

namespace Lw
open PySem PySem.Spec PyProof.Rows L2 Evl Z
def topS (i : Nat) : Stmt := PySem.Challenge.pw_duewalk_k06_known_sites.main.body.getD i (.Pass ⟨0, 0, 0, 0⟩)
abbrev s_i_InvalidText : Stmt := (inClass (topS 2) 0)
abbrev N_i_InvalidText : List Str := ["self", "row"]
theorem sc_i_InvalidText : FnScope N_i_InvalidText ["self", "row"] (defScope s_i_InvalidText) := ⟨rfl, rfl, rfl, by decide +kernel, rfl, by decide +kernel, by decide +kernel⟩
abbrev s_i_NoWay : Stmt := (inClass (topS 3) 0)
abbrev N_i_NoWay : List Str := ["self", "place"]
theorem sc_i_NoWay : FnScope N_i_NoWay ["self", "place"] (defScope s_i_NoWay) := ⟨rfl, rfl, rfl, by decide +kernel, rfl, by decide +kernel, by decide +kernel⟩
abbrev s_init : Stmt := (inClass (topS 9) 0)
abbrev N_init : List Str := ["self", "names", "limits", "stays", "ways", "row"]
theorem sc_init : FnScope N_init ["self", "names", "limits", "stays", "ways"] (defScope s_init) := ⟨rfl, rfl, rfl, by decide +kernel, rfl, by decide +kernel, by decide +kernel⟩
abbrev s_parse : Stmt := (inClass (topS 9) 1)
abbrev N_parse : List Str := ["text", "rows", "places", "row", "words", "limit", "_", "stay", "ways"]
theorem sc_parse : FnScope N_parse ["text"] (defScope s_parse) := ⟨rfl, rfl, rfl, by decide +kernel, rfl, by decide +kernel, by decide +kernel⟩
abbrev s_strm : Stmt := (inClass (topS 9) 2)
abbrev N_strm : List Str := ["self", "number"]
theorem sc_strm : FnScope N_strm ["self"] (defScope s_strm) := ⟨rfl, rfl, rfl, by decide +kernel, rfl, by decide +kernel, by decide +kernel⟩
abbrev s_eqm : Stmt := (inClass (topS 9) 3)
abbrev N_eqm : List Str := ["self", "other"]
theorem sc_eqm : FnScope N_eqm ["self", "other"] (defScope s_eqm) := ⟨rfl, rfl, rfl, by decide +kernel, rfl, by decide +kernel, by decide +kernel⟩
abbrev s_turned : Stmt := (topS 10)
abbrev N_turned : List Str := ["site", "ways", "name", "stay", "back"]
theorem sc_turned : FnScope N_turned ["site"] (defScope s_turned) := ⟨rfl, rfl, rfl, by decide +kernel, rfl, by decide +kernel, by decide +kernel⟩
abbrev s_with_limits : Stmt := (topS 11)
abbrev N_with_limits : List Str := ["site", "limits"]
theorem sc_with_limits : FnScope N_with_limits ["site", "limits"] (defScope s_with_limits) := ⟨rfl, rfl, rfl, by decide +kernel, rfl, by decide +kernel, by decide +kernel⟩
abbrev s_is_name : Stmt := (topS 12)
abbrev N_is_name : List Str := ["word", "letter"]
theorem sc_is_name : FnScope N_is_name ["word"] (defScope s_is_name) := ⟨rfl, rfl, rfl, by decide +kernel, rfl, by decide +kernel, by decide +kernel⟩
abbrev s__places_of : Stmt := (topS 13)
abbrev N__places_of : List Str := ["rows", "firsts", "seen", "places", "number", "words", "place"]
theorem sc__places_of : FnScope N__places_of ["rows"] (defScope s__places_of) := ⟨rfl, rfl, rfl, by decide +kernel, rfl, by decide +kernel, by decide +kernel⟩
abbrev s__place_of : Stmt := (topS 14)
abbrev N__place_of : List Str := ["words", "firsts", "stay", "rest", "ways", "at"]
theorem sc__place_of : FnScope N__place_of ["words", "firsts"] (defScope s__place_of) := ⟨rfl, rfl, rfl, by decide +kernel, rfl, by decide +kernel, by decide +kernel⟩
abbrev s__are_ways : Stmt := (topS 15)
abbrev N__are_ways : List Str := ["name", "words", "firsts", "ends", "end", "first", "second", "steps"]
theorem sc__are_ways : FnScope N__are_ways ["name", "words", "firsts"] (defScope s__are_ways) := ⟨rfl, rfl, rfl, by decide +kernel, rfl, by decide +kernel, by decide +kernel⟩
abbrev s__row_text : Stmt := (topS 16)
abbrev N__row_text : List Str := ["site", "number", "words", "end", "steps"]
theorem sc__row_text : FnScope N__row_text ["site", "number"] (defScope s__row_text) := ⟨rfl, rfl, rfl, by decide +kernel, rfl, by decide +kernel, by decide +kernel⟩
abbrev s__ways_back : Stmt := (topS 17)
abbrev N__ways_back : List Str := ["site", "name", "back", "start", "ways", "end", "steps"]
theorem sc__ways_back : FnScope N__ways_back ["site", "name"] (defScope s__ways_back) := ⟨rfl, rfl, rfl, by decide +kernel, rfl, by decide +kernel, by decide +kernel⟩
abbrev s__law_feed : Stmt := (topS 19)
abbrev N__law_feed : List Str := ["script", "k", "cell", "digits", "state"]
theorem sc__law_feed : FnScope N__law_feed ["script", "k"] (defScope s__law_feed) := ⟨rfl, rfl, rfl, by decide +kernel, rfl, by decide +kernel, by decide +kernel⟩
abbrev s__law_take : Stmt := (topS 20)
abbrev N__law_take : List Str := ["feed", "many", "digit"]
theorem sc__law_take : FnScope N__law_take ["feed", "many"] (defScope s__law_take) := ⟨rfl, rfl, rfl, by decide +kernel, rfl, by decide +kernel, by decide +kernel⟩
abbrev s__law_pick : Stmt := (topS 21)
abbrev N__law_pick : List Str := ["feed", "some"]
theorem sc__law_pick : FnScope N__law_pick ["feed", "some"] (defScope s__law_pick) := ⟨rfl, rfl, rfl, by decide +kernel, rfl, by decide +kernel, by decide +kernel⟩
abbrev s__law_word : Stmt := (topS 22)
abbrev N__law_word : List Str := ["feed", "found", "turn"]
theorem sc__law_word : FnScope N__law_word ["feed"] (defScope s__law_word) := ⟨rfl, rfl, rfl, by decide +kernel, rfl, by decide +kernel, by decide +kernel⟩
abbrev s__law_said : Stmt := (topS 23)
abbrev N__law_said : List Str := ["text", "told", "error"]
theorem sc__law_said : FnScope N__law_said ["text"] (defScope s__law_said) := ⟨rfl, rfl, rfl, by decide +kernel, rfl, by decide +kernel, by decide +kernel⟩
abbrev s__law_rows : Stmt := (topS 24)
abbrev N__law_rows : List Str := ["found"]
theorem sc__law_rows : FnScope N__law_rows [] (defScope s__law_rows) := ⟨rfl, rfl, rfl, by decide +kernel, rfl, by decide +kernel, by decide +kernel⟩
abbrev s__law_more_rows : Stmt := (topS 25)
abbrev N__law_more_rows : List Str := ["six", "far", "found", "name"]
theorem sc__law_more_rows : FnScope N__law_more_rows [] (defScope s__law_more_rows) := ⟨rfl, rfl, rfl, by decide +kernel, rfl, by decide +kernel, by decide +kernel⟩
abbrev s__law_back : Stmt := (topS 26)
abbrev N__law_back : List Str := ["site", "told", "error"]
theorem sc__law_back : FnScope N__law_back ["site"] (defScope s__law_back) := ⟨rfl, rfl, rfl, by decide +kernel, rfl, by decide +kernel, by decide +kernel⟩
abbrev s__law_told_right : Stmt := (topS 27)
abbrev N__law_told_right : List Str := ["name", "site", "ring", "fork"]
theorem sc__law_told_right : FnScope N__law_told_right ["name"] (defScope s__law_told_right) := ⟨rfl, rfl, rfl, by decide +kernel, rfl, by decide +kernel, by decide +kernel⟩
abbrev s_law : Stmt := (topS 28)
abbrev N_law : List Str := ["script", "text", "due", "k", "feed"]
theorem sc_law : FnScope N_law ["script"] (defScope s_law) := ⟨rfl, rfl, rfl, by decide +kernel, rfl, by decide +kernel, by decide +kernel⟩
structure Ad where
  a_i_InvalidText : Addr
  d_i_InvalidText : FuncData
  a_i_NoWay : Addr
  d_i_NoWay : FuncData
  a_init : Addr
  d_init : FuncData
  a_parse : Addr
  d_parse : FuncData
  a_strm : Addr
  d_strm : FuncData
  a_eqm : Addr
  d_eqm : FuncData
  a_turned : Addr
  d_turned : FuncData
  a_with_limits : Addr
  d_with_limits : FuncData
  a_is_name : Addr
  d_is_name : FuncData
  a__places_of : Addr
  d__places_of : FuncData
  a__place_of : Addr
  d__place_of : FuncData
  a__are_ways : Addr
  d__are_ways : FuncData
  a__row_text : Addr
  d__row_text : FuncData
  a__ways_back : Addr
  d__ways_back : FuncData
  a__law_feed : Addr
  d__law_feed : FuncData
  a__law_take : Addr
  d__law_take : FuncData
  a__law_pick : Addr
  d__law_pick : FuncData
  a__law_word : Addr
  d__law_word : FuncData
  a__law_said : Addr
  d__law_said : FuncData
  a__law_rows : Addr
  d__law_rows : FuncData
  a__law_more_rows : Addr
  d__law_more_rows : FuncData
  a__law_back : Addr
  d__law_back : FuncData
  a__law_told_right : Addr
  d__law_told_right : FuncData
  a_law : Addr
  d_law : FuncData
  c_WalkError : Addr
  c_InvalidText : Addr
  c_NoWay : Addr
  c_Site : Addr
  k_LIMIT_WORDS : Addr
  k_STEP_WORDS : Addr
  p_parse : Addr
  mc_parse : Value
structure Txt (K : PySem.W.Frag) (mg : Str → Option Value) (A : Ad) : Prop where
  m_abs : mg "abs" = none
  m_all : mg "all" = none
  m_enumerate : mg "enumerate" = none
  m_int : mg "int" = none
  m_isinstance : mg "isinstance" = none
  m_len : mg "len" = none
  m_list : mg "list" = none
  m_max : mg "max" = none
  m_min : mg "min" = none
  m_range : mg "range" = none
  m_sorted : mg "sorted" = none
  m_str : mg "str" = none
  m_tuple : mg "tuple" = none
  m_zip : mg "zip" = none
  F_i_InvalidText : Fun K "__init__" "InvalidText.__init__" s_i_InvalidText A.a_i_InvalidText A.d_i_InvalidText
  b_i_InvalidText : Binds K A.d_i_InvalidText ["self", "row"] []
  F_i_NoWay : Fun K "__init__" "NoWay.__init__" s_i_NoWay A.a_i_NoWay A.d_i_NoWay
  b_i_NoWay : Binds K A.d_i_NoWay ["self", "place"] []
  F_init : Fun K "__init__" "Site.__init__" s_init A.a_init A.d_init
  b_init : Binds K A.d_init ["self", "names", "limits", "stays", "ways"] []
  F_parse : Fun K "parse" "Site.parse" s_parse A.a_parse A.d_parse
  b_parse : Binds K A.d_parse ["text"] []
  F_strm : Fun K "__str__" "Site.__str__" s_strm A.a_strm A.d_strm
  b_strm : Binds K A.d_strm ["self"] []
  F_eqm : Fun K "__eq__" "Site.__eq__" s_eqm A.a_eqm A.d_eqm
  b_eqm : Binds K A.d_eqm ["self", "other"] []
  g_turned : mg "turned" = some (.ref A.a_turned)
  F_turned : Fun K "turned" "turned" s_turned A.a_turned A.d_turned
  b_turned : Binds K A.d_turned ["site"] []
  g_with_limits : mg "with_limits" = some (.ref A.a_with_limits)
  F_with_limits : Fun K "with_limits" "with_limits" s_with_limits A.a_with_limits A.d_with_limits
  b_with_limits : Binds K A.d_with_limits ["site", "limits"] []
  g_is_name : mg "is_name" = some (.ref A.a_is_name)
  F_is_name : Fun K "is_name" "is_name" s_is_name A.a_is_name A.d_is_name
  b_is_name : Binds K A.d_is_name ["word"] []
  g__places_of : mg "_places_of" = some (.ref A.a__places_of)
  F__places_of : Fun K "_places_of" "_places_of" s__places_of A.a__places_of A.d__places_of
  b__places_of : Binds K A.d__places_of ["rows"] []
  g__place_of : mg "_place_of" = some (.ref A.a__place_of)
  F__place_of : Fun K "_place_of" "_place_of" s__place_of A.a__place_of A.d__place_of
  b__place_of : Binds K A.d__place_of ["words", "firsts"] []
  g__are_ways : mg "_are_ways" = some (.ref A.a__are_ways)
  F__are_ways : Fun K "_are_ways" "_are_ways" s__are_ways A.a__are_ways A.d__are_ways
  b__are_ways : Binds K A.d__are_ways ["name", "words", "firsts"] []
  g__row_text : mg "_row_text" = some (.ref A.a__row_text)
  F__row_text : Fun K "_row_text" "_row_text" s__row_text A.a__row_text A.d__row_text
  b__row_text : Binds K A.d__row_text ["site", "number"] []
  g__ways_back : mg "_ways_back" = some (.ref A.a__ways_back)
  F__ways_back : Fun K "_ways_back" "_ways_back" s__ways_back A.a__ways_back A.d__ways_back
  b__ways_back : Binds K A.d__ways_back ["site", "name"] []
  g__law_feed : mg "_law_feed" = some (.ref A.a__law_feed)
  F__law_feed : Fun K "_law_feed" "_law_feed" s__law_feed A.a__law_feed A.d__law_feed
  b__law_feed : Binds K A.d__law_feed ["script", "k"] []
  g__law_take : mg "_law_take" = some (.ref A.a__law_take)
  F__law_take : Fun K "_law_take" "_law_take" s__law_take A.a__law_take A.d__law_take
  b__law_take : Binds K A.d__law_take ["feed", "many"] []
  g__law_pick : mg "_law_pick" = some (.ref A.a__law_pick)
  F__law_pick : Fun K "_law_pick" "_law_pick" s__law_pick A.a__law_pick A.d__law_pick
  b__law_pick : Binds K A.d__law_pick ["feed", "some"] []
  g__law_word : mg "_law_word" = some (.ref A.a__law_word)
  F__law_word : Fun K "_law_word" "_law_word" s__law_word A.a__law_word A.d__law_word
  b__law_word : Binds K A.d__law_word ["feed"] []
  g__law_said : mg "_law_said" = some (.ref A.a__law_said)
  F__law_said : Fun K "_law_said" "_law_said" s__law_said A.a__law_said A.d__law_said
  b__law_said : Binds K A.d__law_said ["text"] []
  g__law_rows : mg "_law_rows" = some (.ref A.a__law_rows)
  F__law_rows : Fun K "_law_rows" "_law_rows" s__law_rows A.a__law_rows A.d__law_rows
  b__law_rows : Binds K A.d__law_rows [] []
  g__law_more_rows : mg "_law_more_rows" = some (.ref A.a__law_more_rows)
  F__law_more_rows : Fun K "_law_more_rows" "_law_more_rows" s__law_more_rows A.a__law_more_rows A.d__law_more_rows
  b__law_more_rows : Binds K A.d__law_more_rows [] []
  g__law_back : mg "_law_back" = some (.ref A.a__law_back)
  F__law_back : Fun K "_law_back" "_law_back" s__law_back A.a__law_back A.d__law_back
  b__law_back : Binds K A.d__law_back ["site"] []
  g__law_told_right : mg "_law_told_right" = some (.ref A.a__law_told_right)
  F__law_told_right : Fun K "_law_told_right" "_law_told_right" s__law_told_right A.a__law_told_right A.d__law_told_right
  b__law_told_right : Binds K A.d__law_told_right ["name"] []
  g_law : mg "law" = some (.ref A.a_law)
  F_law : Fun K "law" "law" s_law A.a_law A.d_law
  b_law : Binds K A.d_law ["script"] []
  g_MOST_PLACES : ∃ t, mg "MOST_PLACES" = some (.int 6 t)
  g_LONGEST_NAME : ∃ t, mg "LONGEST_NAME" = some (.int 8 t)
  g_LIMIT_WORDS : mg "LIMIT_WORDS" = some (.ref A.k_LIMIT_WORDS)
  kt_LIMIT_WORDS : ∀ H, SqT K H A.k_LIMIT_WORDS [.str "0", .str "1", .str "2", .str "3", .str "4", .str "5", .str "6", .str "7", .str "8", .str "9"]
  g_STEP_WORDS : mg "STEP_WORDS" = some (.ref A.k_STEP_WORDS)
  kt_STEP_WORDS : ∀ H, SqT K H A.k_STEP_WORDS [.str "1", .str "2", .str "3"]
  g_WalkError : mg "WalkError" = some (.ref A.c_WalkError)
  g_InvalidText : mg "InvalidText" = some (.ref A.c_InvalidText)
  x_InvalidText : OexC K A.c_InvalidText
  xi_InvalidText : PySem.W.findIn K (.ref A.c_InvalidText) "__init__" = some (some (.ref A.a_i_InvalidText))
  xt_InvalidText : PySem.W.typeIn K (.ref A.a_i_InvalidText) = some (.type "function")
  xf_InvalidText : XfC K A.c_InvalidText
  xn_InvalidText : PySem.W.findIn K (.ref A.c_InvalidText) "row" = some none
  g_NoWay : mg "NoWay" = some (.ref A.c_NoWay)
  x_NoWay : OexC K A.c_NoWay
  xi_NoWay : PySem.W.findIn K (.ref A.c_NoWay) "__init__" = some (some (.ref A.a_i_NoWay))
  xt_NoWay : PySem.W.typeIn K (.ref A.a_i_NoWay) = some (.type "function")
  xf_NoWay : XfC K A.c_NoWay
  xn_NoWay : PySem.W.findIn K (.ref A.c_NoWay) "place" = some none
  xe_InvalidText_InvalidText : PySem.W.exmOne K (.ref A.c_InvalidText) (.ref A.c_InvalidText) = some true
  xe_InvalidText_NoWay : PySem.W.exmOne K (.ref A.c_InvalidText) (.ref A.c_NoWay) = some false
  xe_NoWay_InvalidText : PySem.W.exmOne K (.ref A.c_NoWay) (.ref A.c_InvalidText) = some false
  xe_NoWay_NoWay : PySem.W.exmOne K (.ref A.c_NoWay) (.ref A.c_NoWay) = some true
  g_Site : mg "Site" = some (.ref A.c_Site)
  cl_Site : Cls K A.c_Site
  mk_Site : Mk K A.c_Site A.a_init
  na_Site_names : NoAttr K A.c_Site "names"
  na_Site_limits : NoAttr K A.c_Site "limits"
  na_Site_stays : NoAttr K A.c_Site "stays"
  na_Site_ways : NoAttr K A.c_Site "ways"
  sm_Site : Z.StrM K A.c_Site A.a_strm
  st_parse : Z.StM K A.c_Site A.mc_parse "parse" A.p_parse A.a_parse
end Lw

namespace Z
open PySem PySem.Spec PyProof.Rows L2 Evl
variable {K : PySem.W.Frag}
abbrev PL := List D → (List D → Prop) → Prop
def spL (K : PySem.W.Frag) (P : PL) : Sp := fun vs H Q E => ∃ (ds : List D) (F : Hp) (Φ : List D → Prop), P ds Φ ∧ Ex F H ∧ DnL K F ds vs ∧
  ∀ (xs : List D) (p : Addr) (us : List V) (F' H' : Hp), Φ xs → Grow F H F' H' → H p = none → F' p = none → H' p = some (.lst us) → DnL K F' xs us → Q (.ref p) H'
def RunL (K : PySem.W.Frag) (E : L2.St → XK) (Ξ : Xi) (ts : TS) (ρ : Rho) (Φ : List D → Prop) : Prop :=
  ∀ (F0 H0 : Hp) (σ : L2.St) (F H : Hp) (D : Ends), Sd K F0 H0 ρ σ F H → EOk K E Ξ F0 H0 →
    (∀ (xs : List Z.D) (ρ' : Rho) (p : Addr) (us : List V) (σ' : L2.St) (F' H' : Hp), Φ xs → Ex F F' → Sd K F0 H0 ρ' σ' F' H' → H0 p = none → F' p = none → H' p = some (.lst us) → DnL K F' xs us → D.rt (.ref p) H') → ts D σ H
section
variable {E : L2.St → XK} {Ξ : Xi} {ρ : Rho} {te : TE} {tl : TA} {ts tu : TS}
theorem el_call {P : PL} {Φ : List D → Rho → Prop} (h : EvA K E Ξ tl ρ fun ds ρ1 => ∃ Ψ, P ds Ψ ∧ ∀ xs, Ψ xs → Φ xs ρ1) : EvL K E Ξ (tCallSD (spL K P) [] E tl) ρ Φ := fun F0 H0 σ F H Q S e k =>
  h F0 H0 σ F H _ S e fun ds ρ1 vs F1 H1 ⟨Ψ, h1, h2⟩ x1 S1 n1 => by
    rw [List.append_nil]
    exact ⟨ds, F1, Ψ, h1, S1.fh, n1, fun xs p us F' H' hx g hp fp hh n => k xs ρ1 p us F' H' (h2 xs hx) (x1.trans g.ff) (S1.grow g) (S1.new0 hp) fp (S1.newAd hp) hh n⟩
theorem l_seq {Φ : List D → Prop} {J : Rho → Prop} (h : RunS K E Ξ ts ρ fun o => ∃ ρ', o = .nx ρ' ∧ J ρ') (k : ∀ ρ', J ρ' → RunL K E Ξ tu ρ' Φ) : RunL K E Ξ (tSeq ts tu) ρ Φ := fun F0 H0 σ F H D S e q =>
  h F0 H0 σ F H _ S e (fun ρ1 σ1 F1 H1 ⟨ρ', eq, hj⟩ x1 S1 => by
      cases eq
      exact k ρ1 hj F0 H0 σ1 F1 H1 D S1 e fun xs ρ2 p us σ2 F2 H2 hx x2 S2 a b c n => q xs ρ2 p us σ2 F2 H2 hx (x1.trans x2) S2 a b c n)
    (fun _ _ _ _ _ _ ⟨_, eq, _⟩ => by cases eq) (fun _ _ _ _ ⟨_, eq, _⟩ => by cases eq) (fun _ _ _ _ ⟨_, eq, _⟩ => by cases eq)
theorem l_ret {Φ : List D → Prop} (h : EvL K E Ξ te ρ fun xs _ => Φ xs) : RunL K E Ξ (tRet te) ρ Φ := fun F0 H0 σ F H D S e q =>
  h F0 H0 σ F H _ S e fun xs ρ1 p vs F1 H1 h1 x1 S1 a b _ hp n => q xs ρ1 p vs σ F1 H1 h1 x1 S1 a b hp n
theorem Sd.start {N : List Str} {F H : Hp} {ds : List D} {vs : List V} (x : Ex F H) (n : DnL K F ds vs) : Sd K F H (rho0 N.length ds) (L2.start N vs) F H := by
  have hlen := n.length
  refine ⟨Grow.refl x, ?_, fun i s hi => ?_, fun i j s t p h1 h2 h3 h4 => ?_⟩
  · unfold L2.start rho0
    rw [List.length_append, List.length_append, List.length_map, List.length_map, List.length_replicate, List.length_replicate, hlen]
  · unfold rho0 at hi
    by_cases c : i < ds.length
    · rw [List.getElem?_append_left (by rw [List.length_map]; exact c), List.getElem?_map, List.getElem?_eq_getElem c] at hi
      cases hi
      obtain ⟨v, hv, nv⟩ := n.get (List.getElem?_eq_getElem c)
      exact ⟨v, by rw [start_get hv] <;> rfl, nv⟩
    · rw [List.getElem?_append_right (by rw [List.length_map]; omega)] at hi
      rw [rep_un hi]
      trivial
  · unfold rho0 at h1
    by_cases c : i < ds.length
    · rw [List.getElem?_append_left (by rw [List.length_map]; exact c), List.getElem?_map, List.getElem?_eq_getElem c] at h1
      cases h1
      cases h3
    · rw [List.getElem?_append_right (by rw [List.length_map]; omega)] at h1
      rw [rep_un h1] at h3
      cases h3
theorem body_lst {N : List Str} {P : PL} {vs : List V} {H : Hp} {Q : VK} {E' : XK}
    (h : ∀ ds Φ, P ds Φ → RunL K (fun _ => E') noX ts (rho0 N.length ds) Φ) (sp : spL K P vs H Q E') : ts { nx := fun _ H' => Q .non H', rt := Q } (L2.start N vs) H := by
  obtain ⟨ds, F, Φ, h1, x, n, q⟩ := sp
  exact h ds Φ h1 F H (L2.start N vs) F H _ (Sd.start x n) EOk.no fun xs ρ' p us σ' F' H' hx _ S' a b c nn => q xs p us F' H' hx S'.g a b c nn
theorem spL_len {P : PL} {n : Nat} {vs : List V} {H : Hp} {Q : VK} {E : XK} (h : spL K P vs H Q E) (hP : ∀ ds Φ, P ds Φ → ds.length = n) : vs.length = n := by
  obtain ⟨ds, F, Φ, hp, _, nn, _⟩ := h
  rw [← nn.length]
  exact hP ds Φ hp
end
end Z

namespace Lw
open PySem PySem.Spec PyProof.Rows L2 Evl Z
local macro_rules | `(tactic| walk_at "ze") => `(tactic| (first
  | ((with_reducible show EvS _ _ _ (tVar _) _ _); refine ev_var rfl ?_)
  | ((with_reducible show EvS _ _ _ (tOp (rIx _) (tVar _) _) _ _); refine ev_ixO rfl ?_)
  | ((with_reducible show EvS _ _ _ (tCB (rLenU _) (tCons (tVar _) tNil)) _ _); refine ev_lenO rfl ?_)
  | (with_reducible first
    | refine ei_str ?_
    | refine ei_list ?_
    | refine ei_tup ?_
    | refine ei_enum ?_
    | refine ei_rng1 ?_
    | refine ei_rng2 ?_
    | refine ei_rng3 ?_
    | refine ei_zip ?_
    | refine gg_name ?_
    | refine ev_int ?_
    | refine ev_str ?_
    | refine ev_bl ?_
    | refine ev_non ?_
    | refine ea_nil ?_
    | refine ea_cons ?_
    | refine ev_op ?_
    | refine ev_un ?_
    | refine ev_cb ?_
    | refine et_test ?_
    | refine et_B ?_
    | refine et_not ?_
    | refine et_truth ?_
    | refine eo_none ?_
    | refine eo_some ?_
    | refine ev_slice ?_
    | refine ev_tup ?_
    | refine ev_chain ?_
    | refine ev_lst ?_
    | refine o_add ?_
    | refine o_sub ?_
    | refine o_cmp ?_
    | refine o_cmpS ?_
    | refine o_eqS ?_
    | refine o_neS ?_
    | refine o_eqI ?_
    | refine o_neI ?_
    | refine c_int ?_
    | refine c_intB ?_
    | refine c_abs ?_
    | refine c_max2 ?_
    | refine c_min2 ?_
    | refine c_tupL ?_
    | refine c_tupT ?_
    | refine c_listL ?_
    | refine c_listT ?_
    | refine o_isN ?_
    | refine o_notN ?_
    | refine el_lst ?_)
  | ((with_reducible show Cl _ (rLenU _) [_] _); refine c_len (by intro s hs; cases hs <;> first | assumption | omega) rfl ?_)))
local macro_rules | `(tactic| walk_at "zn") => `(tactic| try simp only [List.map_cons, List.map_nil, wipeR_n, wipeR_c, List.set_cons_zero, List.set_cons_succ])
def Feed (xs : List D) : Prop := ∃ a b : Int, xs = [.int a, .int b] ∧ 0 ≤ a ∧ 0 ≤ b ∧ b < 2305843009213693951
def PTake : PQ := fun xs ds Ψ => Feed xs ∧ ∃ m : Int, ds = [.int m] ∧ 0 < m ∧ m < 1073741824 ∧ ∀ (d : Int) (xs' : List D), 0 ≤ d → d < m → Feed xs' → Ψ (.int d) xs'
def PPick : PQ := fun xs ds Ψ => Feed xs ∧ ∃ ys : List D, ds = [.lst ys] ∧ ys ≠ [] ∧ ys.length < 100000 ∧ ∀ (y : D) (xs' : List D), y ∈ ys → Feed xs' → Ψ y xs'


def PWord : PQ := fun xs ds Ψ => Feed xs ∧ ds = [] ∧ ∀ (z : Str) (xs' : List D), 1 ≤ z.length → z.length ≤ 8 → isLow z = true → Feed xs' → Ψ (.str z) xs'
def PFeed : PL := fun ds Φ => ∃ (ns : List Int) (k : Int), ds = [.scr ns, .int k] ∧ 0 ≤ k ∧ k < 1000 ∧ ∀ xs, Feed xs → Φ xs
theorem spQ_len {K : PySem.W.Frag} {P : PQ} {n : Nat} {vs : List V} {H : Hp} {Q : VK} {E : XK} (h : spQ K P vs H Q E) (hP : ∀ xs ds Ψ, P xs ds Ψ → ds.length + 1 = n) : vs.length = n := by
  obtain ⟨p, ws, xs, vs', ds, F, Ψ, rfl, hp, _, _, _, _, nn, _⟩ := h
  rw [List.length_cons, ← nn.length]
  exact hP xs ds Ψ hp
theorem spP_len {K : PySem.W.Frag} {P : PP} {n : Nat} {vs : List V} {H : Hp} {Q : VK} {E : XK} (h : spP K P vs H Q E) (hP : ∀ ds Φ Θ, P ds Φ Θ → ds.length = n) : vs.length = n := by
  obtain ⟨ds, F, Φ, Θ, hp, _, nn, _⟩ := h
  rw [← nn.length]
  exact hP ds Φ Θ hp
theorem atI_ex {α : Type} {xs : List α} {i : Int} (h0 : 0 ≤ i) (h1 : i < xs.length) : ∃ x, atI xs i = some x ∧ x ∈ xs := by
  have h2 : i.toNat < xs.length := by omega
  refine ⟨xs[i.toNat], ?_, List.getElem_mem h2⟩
  have := atI_nat (xs := xs) (j := i.toNat) (List.getElem?_eq_getElem h2)
  rwa [Int.toNat_of_nonneg h0] at this
theorem az_chars : (Str.ofString "abcdefghijklmnopqrstuvwxyz").cps.toList = List.range' 97 26 := by decide +kernel
theorem low_app {x y : Str} (h1 : isLow x = true) (h2 : isLow y = true) : isLow (x ++ y) = true := by
  unfold isLow at *
  have : (x ++ y).cps.toList = x.cps.toList ++ y.cps.toList := TL.tl_append x y
  rw [this, List.all_append, h1, h2]
  rfl
theorem len_app (x y : Str) : (x ++ y).length = x.length + y.length := by
  have := TL.tl_append x y
  show (x ++ y).cps.size = x.cps.size + y.cps.size
  rw [← Array.length_toList, ← Array.length_toList, ← Array.length_toList]
  show (TL.tl (x ++ y)).length = _
  rw [this, List.length_append]
section
variable {P : Program} {w : World} {K : PySem.W.Frag} {mg : Str → Option Value} {base : Heap} {A : Ad}
theorem ok__law_take (T : Txt K mg A) : FnOk P w K mg base (L2.CX P w) 1 A.a__law_take A.d__law_take ["feed", "many"] (spQ K PTake) := by
  refine T.F__law_take.okX sc__law_take (fun vs H Q E h => spQ_len h fun xs ds Ψ hp => by obtain ⟨_, m, rfl, _⟩ := hp; rfl) (fun cdv A' outer s H vs Q E hr h => ⟨_, (pss_cons (ps_if (pt_cmpR op_gtU (pe_ix ix_seq (pv 0) pe_int (fun _ _ => rfl)) pe_int (nomark _)) (pss_cons (ps_set (i := 2) sc__law_take.nd rfl (by first | exact Or.inl rfl | exact Or.inr rfl) (pe_op op_mod (pe_callTy call_intU (by rfl) T.m_int (by decide +kernel) (pa_cons (pe_ix ix_seq (pv 0) pe_int (fun _ _ => rfl)) pa_nil)) (pv 1))) (pss_cons (ps_asg (pe_op op_fdiv (pe_ix ix_seq (pv 0) pe_int (fun _ _ => rfl)) (pv 1)) (pg_sub (pv 0) pe_int set_list)) (pss_one (ps_ret (pv 2))))) pss_nil) (pss_cons (ps_asg (pe_op op_mod (pe_callTy call_intU (by rfl) T.m_int (by decide +kernel) (pa_cons (pe_op op_addU (pe_op op_mul (pe_ix ix_seq (pv 0) pe_int (fun _ _ => rfl)) pe_int) pe_int) pa_nil)) pe_int) (pg_sub (pv 0) pe_int set_list)) (pss_one (ps_ret (pe_op op_mod (pe_callTy call_intU (by rfl) T.m_int (by decide +kernel) (pa_cons (pe_op op_fdiv (pe_ix ix_seq (pv 0) pe_int (fun _ _ => rfl)) pe_int) pa_nil)) (pv 1)))))), ?_⟩)
  · refine body_own (fun xs ds Ψ hp p => ?_) h
    dsimp only [L2.cxOf]
    obtain ⟨⟨a, b, rfl, ha, hb, hb2⟩, n, rfl, hn, hn2, k⟩ := hp
    refine r_seq (r_when ?_)
    repeat walk_at "ze"
    refine ⟨0, _, _, rfl, rfl, rfl, ?_⟩
    repeat walk_at "ze"
    refine ⟨_, rfl, fun c => ?_, fun c => ?_⟩
    · refine r_seq (r_set ?_)
      repeat walk_at "ze"
      refine ⟨0, _, _, rfl, rfl, rfl, ?_⟩
      repeat walk_at "ze"
      refine o_mod hn ?_
      refine r_seq (r_setAt (p := p) (k := 0) ?_)
      repeat walk_at "ze"
      refine ⟨0, _, _, rfl, rfl, rfl, ?_⟩
      repeat walk_at "ze"
      refine o_fdiv ⟨hn, hn2⟩ ⟨_, rfl, Nat.zero_lt_succ _, ?_⟩
      refine r_ret (ev_var rfl ⟨_, rfl, k _ _ (Int.emod_nonneg _ (by omega)) (Int.emod_lt_of_pos _ hn) ⟨_, _, rfl, Int.ediv_nonneg ha (by omega), hb, hb2⟩⟩)
    · refine r_seq (r_setAt (p := p) (k := 1) ?_)
      repeat walk_at "ze"
      refine ⟨1, _, _, rfl, rfl, rfl, ?_⟩
      refine ev_int (op2_I (fun _ => dn_int.mpr rfl) (.inr ⟨by decide, by decide⟩) ?_)
      repeat walk_at "ze"
      refine o_mod (by decide) ⟨_, rfl, by show 1 < 2; decide, ?_⟩
      refine r_ret ?_
      repeat walk_at "ze"
      refine ⟨1, _, _, rfl, rfl, rfl, ?_⟩
      repeat walk_at "ze"
      refine o_fdiv ⟨by decide, by decide⟩ ?_
      repeat walk_at "ze"
      refine o_mod hn ⟨_, rfl, k _ _ (Int.emod_nonneg _ (by omega)) (Int.emod_lt_of_pos _ hn) ⟨_, _, rfl, ha, Int.emod_nonneg _ (by decide), Int.emod_lt_of_pos _ (by decide)⟩⟩
theorem ok__law_pick (T : Txt K mg A) (G__law_take : FnOk P w K mg base (L2.CX P w) 1 A.a__law_take A.d__law_take ["feed", "many"] (spQ K PTake)) : FnOk P w K mg base (L2.CX P w) 2 A.a__law_pick A.d__law_pick ["feed", "some"] (spQ K PPick) := by
  refine T.F__law_pick.okX sc__law_pick (fun vs H Q E h => spQ_len h fun xs ds Ψ hp => by obtain ⟨_, ys, rfl, _⟩ := hp; rfl) (fun cdv A' outer s H vs Q E hr h => ⟨_, (pss_one (ps_ret (pe_ix ix_seq (pv 1) (pe_callSD G__law_take (hr.mono (by decide)) rfl T.g__law_take T.F__law_take.kp T.b__law_take .nil (fun σ => passAt (W := fun cls d _ H => E cls d H) (takes_of rfl rfl rfl rfl) σ) (pa_cons (pv 0) (pa_cons (pe_callB call_len (by rfl) T.m_len PySem.boot_len (pa_cons (pv 1) pa_nil)) pa_nil))) (fun _ _ => rfl)))), ?_⟩)
  · refine body_own (fun xs ds Ψ hp p => ?_) h
    dsimp only [L2.cxOf]
    obtain ⟨hf, ys, rfl, hn, hl, k⟩ := hp
    have hpos : 0 < ys.length := List.length_pos_iff.mpr hn
    refine r_ret ?_
    refine ev_op (ev_var rfl (ev_callQ rfl ?_))
    repeat walk_at "ze"
    refine ⟨_, rfl, _, ⟨hf, _, rfl, by omega, by omega, ?_⟩, fun d xs2 hd => hd⟩
    intro d xs' h0 h1 hf'
    obtain ⟨y, hy, hm⟩ := atI_ex h0 h1
    exact o_ixL hy ⟨_, rfl, k y xs' hm hf'⟩
theorem ok__law_word (T : Txt K mg A) (G__law_take : FnOk P w K mg base (L2.CX P w) 1 A.a__law_take A.d__law_take ["feed", "many"] (spQ K PTake)) (G__law_pick : FnOk P w K mg base (L2.CX P w) 2 A.a__law_pick A.d__law_pick ["feed", "some"] (spQ K PPick)) : FnOk P w K mg base (L2.CX P w) 3 A.a__law_word A.d__law_word ["feed"] (spQ K PWord) := by
  refine T.F__law_word.okX sc__law_word (fun vs H Q E h => spQ_len h fun xs ds Ψ hp => by obtain ⟨_, rfl, _⟩ := hp; rfl) (fun cdv A' outer s H vs Q E hr h => ⟨_, (pss_cons (ps_set (i := 1) sc__law_word.nd rfl (by first | exact Or.inl rfl | exact Or.inr rfl) pe_str) (pss_cons (ps_for (passes_of rfl) rfl (pi_range1 (by rfl) T.m_range (pa_cons (pe_op op_addU pe_int (pe_callSD G__law_take (hr.mono (by decide)) rfl T.g__law_take T.F__law_take.kp T.b__law_take .nil (fun σ => passAt (W := fun cls d _ H => E cls d H) (takes_of rfl rfl rfl rfl) σ) (pa_cons (pv 0) (pa_cons pe_int pa_nil)))) pa_nil)) (pg_name (i := 2) sc__law_word.nd rfl (by first | exact Or.inl rfl | exact Or.inr rfl)) (pss_one (ps_set (i := 1) sc__law_word.nd rfl (by first | exact Or.inl rfl | exact Or.inr rfl) (pe_op op_addU (pv 1) (pe_callSD G__law_pick (hr.mono (by decide)) rfl T.g__law_pick T.F__law_pick.kp T.b__law_pick .nil (fun σ => passAt (W := fun cls d _ H => E cls d H) (takes_of rfl rfl rfl rfl) σ) (pa_cons (pv 0) (pa_cons (pe_callTy (call_listU rfl) (by rfl) T.m_list (by decide +kernel) (pa_cons pe_str pa_nil)) pa_nil))))))) (pss_one (ps_ret (pv 1))))), ?_⟩)
  · refine body_own (fun xs ds Ψ hp p => ?_) h
    dsimp only [L2.cxOf]
    obtain ⟨hf, rfl, k⟩ := hp
    refine r_seq (r_set (ev_str ?_))
    refine r_seq (r_for ?_)
    refine ei_rng1 ?_
    refine ea_cons (ev_op (ev_int (ev_callQ rfl ?_)))
    repeat walk_at "ze"
    refine ⟨_, rfl, _, ⟨hf, 8, rfl, by decide, by decide, fun d xs' h0 h1 hf' => ?_⟩, fun d xs2 hd => hd⟩
    repeat walk_at "ze"
    refine ⟨_, rfl, by omega, by omega, ?_⟩
    refine ⟨fun i ρ => ∃ (z : Str) (xs2 : List D) (t : Slot), ρ = [.ol p xs2, .dt (.str z), t] ∧ z.length = i ∧ isLow z = true ∧ Feed xs2 ∧ t.ad = none, ⟨_, _, _, rfl, rfl, rfl, hf', rfl⟩, ?_, ?_⟩
    · rintro i q ρ2 hq ⟨z, xs2, t, rfl, hz, hlow, hf2, ht⟩
      have hi : i < 8 := by
        have := (List.getElem?_eq_some_iff.mp hq).1
        rw [List.length_map, List.length_range] at this
        omega
      refine gg_name ?_
      refine r_set ?_
      refine ev_op (ev_var rfl (ev_callQ rfl ?_))
      repeat walk_at "ze"
      refine c_listS (by decide) ?_
      repeat walk_at "ze"
      refine ⟨_, rfl, _, ⟨hf2, _, rfl, ?_, ?_, fun y xs' hy hf3 => ?_⟩, fun d xs2 hd => hd⟩
      · rw [az_chars]; simp
      · rw [az_chars]; simp
      rw [az_chars] at hy
      obtain ⟨c, hc, rfl⟩ := List.mem_map.mp hy
      have hc' := List.mem_range'.mp hc
      refine o_addS ?_ ⟨_, _, _, rfl, ?_, ?_, hf3, rfl⟩
      · show z.length + 1 ≤ 100000
        omega
      · rw [len_app, hz]; rfl
      · refine low_app hlow ?_
        obtain ⟨a, ha, rfl⟩ := hc'
        simp [isLow, Letter]
        omega
    · rintro ρ2 ⟨z, xs2, t, rfl, hz, hlow, hf2, ht⟩
      rw [List.length_map, List.length_range] at hz
      exact r_ret (ev_var rfl ⟨_, rfl, k z xs2 (by omega) (by omega) hlow hf2⟩)
theorem ok__law_feed (T : Txt K mg A) : FnOk P w K mg base (L2.CX P w) 1 A.a__law_feed A.d__law_feed ["script", "k"] (spL K PFeed) := by
  refine T.F__law_feed.okX sc__law_feed (fun vs H Q E h => spL_len h fun ds Φ hp => by obtain ⟨_, _, rfl, _⟩ := hp; rfl) (fun cdv A' outer s H vs Q E hr h => ⟨_, (pss_cons (ps_set (i := 2) sc__law_feed.nd rfl (by first | exact Or.inl rfl | exact Or.inr rfl) (pe_ifExp (pt_cmpR op_ltU (pv 1) (pe_callB call_len (by rfl) T.m_len PySem.boot_len (pa_cons (pv 0) pa_nil)) (nomark _)) (pe_ix ix_seq (pv 0) (pv 1) (fun _ _ => rfl)) (pe_op op_addU (pe_op op_mul pe_int (pv 1)) pe_int))) (pss_cons (ps_set (i := 3) sc__law_feed.nd rfl (by first | exact Or.inl rfl | exact Or.inr rfl) (pe_callB (call_max2 rfl) (by rfl) T.m_max (by decide +kernel) (pa_cons pe_int (pa_cons (pe_op op_sub (pe_callB call_abs (by rfl) T.m_abs (by decide +kernel) (pa_cons (pv 2) pa_nil)) (pe_op op_pow pe_int pe_int)) pa_nil)))) (pss_cons (ps_set (i := 4) sc__law_feed.nd rfl (by first | exact Or.inl rfl | exact Or.inr rfl) (pe_op op_mod (pe_callTy call_intU (by rfl) T.m_int (by decide +kernel) (pa_cons (pe_op op_addU (pe_op op_addU (pe_op op_mul (pv 2) pe_int) (pe_op op_mul pe_int (pv 1))) pe_int) pa_nil)) pe_int)) (pss_one (ps_ret (pe_lst (pa_cons (pv 3) (pa_cons (pv 4) pa_nil)))))))), ?_⟩)
  · refine body_lst (fun ds Φ hp => ?_) h
    dsimp only [L2.cxOf]
    obtain ⟨ns, n, rfl, h0, h1, k⟩ := hp
    refine l_seq (J := fun ρ => ∃ c : Int, ρ = [.dt (.scr ns), .dt (.int n), .dt (.int c), .un, .un]) (r_set (ev_if ?_)) ?_
    · repeat walk_at "ze"
      refine ⟨_, rfl, fun c => ?_, fun c => ?_⟩
      · have c' : n < ns.length := of_decide_eq_true c
        obtain ⟨y, hy, _⟩ := atI_ex h0 c'
        repeat walk_at "ze"
        refine o_ixR hy ?_
        exact ⟨_, rfl, _, rfl⟩
      · repeat walk_at "ze"
        refine op2_I (fun _ => dn_int.mpr rfl) (.inl ⟨by decide, by decide⟩) ?_
        repeat walk_at "ze"
        exact ⟨_, rfl, _, rfl⟩
    rintro _ ⟨c, rfl⟩
    refine l_seq (J := fun ρ => ∃ d : Int, 0 ≤ d ∧ ρ = [.dt (.scr ns), .dt (.int n), .dt (.int c), .dt (.int d), .un]) (r_set ?_) ?_
    · repeat walk_at "ze"
      refine o_pow ⟨by decide, by decide, by decide⟩ ?_
      repeat walk_at "ze"
      exact ⟨_, rfl, _, by split <;> omega, rfl⟩
    rintro _ ⟨d, hd, rfl⟩
    refine l_seq (J := fun ρ => ∃ e : Int, 0 ≤ e ∧ e < 2305843009213693951 ∧ ρ = [.dt (.scr ns), .dt (.int n), .dt (.int c), .dt (.int d), .dt (.int e)]) (r_set ?_) ?_
    · repeat walk_at "ze"
      refine op2_I (fun _ => dn_int.mpr rfl) (.inr ⟨by decide, by decide⟩) ?_
      repeat walk_at "ze"
      refine op2_I (fun _ => dn_int.mpr rfl) (.inl ⟨by decide, by decide⟩) ?_
      repeat walk_at "ze"
      refine o_mod (by decide) ?_
      exact ⟨_, rfl, _, Int.emod_nonneg _ (by decide), Int.emod_lt_of_pos _ (by decide), rfl⟩
    rintro _ ⟨e, he1, he2, rfl⟩
    refine l_ret (el_lst ?_)
    repeat walk_at "ze"
    exact ⟨by show 2 ≤ 100000; decide, k _ ⟨_, _, rfl, hd, he1, he2⟩⟩
end
end Lw

namespace Lw
open PySem PySem.Spec PyProof.Rows L2 Evl Z
local macro_rules | `(tactic| walk_at "ze") => `(tactic| (first
  | ((with_reducible show EvS _ _ _ (tVar _) _ _); refine ev_var rfl ?_)
  | ((with_reducible show EvS _ _ _ (tOp (rIx _) (tVar _) _) _ _); refine ev_ixO rfl ?_)
  | ((with_reducible show EvS _ _ _ (tCB (rLenU _) (tCons (tVar _) tNil)) _ _); refine ev_lenO rfl ?_)
  | (with_reducible first
    | refine ei_str ?_
    | refine ei_list ?_
    | refine ei_tup ?_
    | refine ei_enum ?_
    | refine ei_rng1 ?_
    | refine ei_rng2 ?_
    | refine ei_rng3 ?_
    | refine ei_zip ?_
    | refine gg_name ?_
    | refine ev_int ?_
    | refine ev_str ?_
    | refine ev_bl ?_
    | refine ev_non ?_
    | refine ea_nil ?_
    | refine ea_cons ?_
    | refine ev_op ?_
    | refine ev_un ?_
    | refine ev_cb ?_
    | refine et_test ?_
    | refine et_B ?_
    | refine et_not ?_
    | refine et_truth ?_
    | refine eo_none ?_
    | refine eo_some ?_
    | refine ev_slice ?_
    | refine ev_tup ?_
    | refine ev_chain ?_
    | refine ev_lst ?_
    | refine o_add ?_
    | refine o_sub ?_
    | refine o_cmp ?_
    | refine o_cmpS ?_
    | refine o_eqS ?_
    | refine o_neS ?_
    | refine o_eqI ?_
    | refine o_neI ?_
    | refine c_int ?_
    | refine c_intB ?_
    | refine c_abs ?_
    | refine c_max2 ?_
    | refine c_min2 ?_
    | refine c_tupL ?_
    | refine c_tupT ?_
    | refine c_listL ?_
    | refine c_listT ?_
    | refine o_isN ?_
    | refine o_notN ?_
    | refine el_lst ?_)
  | ((with_reducible show Cl _ (rLenU _) [_] _); refine c_len (by intro s hs; cases hs <;> first | assumption | omega) rfl ?_)))
local macro_rules | `(tactic| walk_at "zn") => `(tactic| try simp only [List.map_cons, List.map_nil, wipeR_n, wipeR_c, List.set_cons_zero, List.set_cons_succ])
def PName : PP := fun ds Φ Θ => ∃ w : Str, ds = [.str w] ∧ w.length ≤ 100000 ∧ Φ (.bl (isNameM w))
def PAre : PP := fun ds Φ Θ => ∃ (name : Str) (words firsts : List Str), ds = [.str name, strsD words, keyD firsts] ∧ words ≠ [] ∧ words.length ≤ 1000 ∧ (∀ w ∈ words, w.length ≤ 600) ∧ Φ (.bl (areWaysM name words firsts))
def outP : Option PlaceM → D
  | none => .non
  | some p => placeD p
def PPlace : PP := fun ds Φ Θ => ∃ (words firsts : List Str), ds = [strsD words, keyD firsts] ∧ fineW words = true ∧ Φ (outP (placeM words firsts))
def PPlaces (C : Addr) : PP := fun ds Φ Θ => ∃ rows : List (List Str), ds = [.lst (rows.map strsD)] ∧ fineR rows = true ∧ (∀ ps, placesM rows = .ok ps → Φ (.lst (ps.map placeD))) ∧ ∀ n : Nat, placesM rows = .error n → Θ C (some ("row", .int n))
def PInit : List D → (List Str → List D → Prop) → Prop := fun ds Φ => ∃ (ns ls ss ws : List D) (rs : List (List D)) (a b c d : Bool), ds = [if a then .tup ns else .lst ns, if b then .tup ls else .lst ls, if c then .tup ss else .lst ss, if d then .tup ws else .lst ws] ∧ ws.length < 100000 ∧ (ws = rs.map D.lst ∨ ws = rs.map D.tup) ∧
  Φ ["names", "limits", "stays", "ways"] [.tup ns, .tup ls, .tup ss, .tup (rs.map D.tup)]
def PParse (C X : Addr) : PP := fun ds Φ Θ => ∃ t : Str, ds = [.str t] ∧ fineT t = true ∧ (∀ s, parseM t = .ok s → Φ (siteD C s)) ∧ ∀ n : Nat, parseM t = .error n → Θ X (some ("row", .int n))
theorem lt1 {a b : Nat} : decide (([a] : List Nat) < [b]) = decide (a < b) := by
  simp [List.cons_lt_cons_iff]
theorem az_a : (Str.ofString "a").cps.toList = [97] := by decide +kernel
theorem az_z : (Str.ofString "z").cps.toList = [122] := by decide +kernel
theorem letter_t {c : Nat} (h : (!decide ((⟨#[c]⟩ : Str).cps.toList < (Str.ofString "a").cps.toList)) = true) : (!decide ((Str.ofString "z").cps.toList < (⟨#[c]⟩ : Str).cps.toList)) = Letter c := by
  rw [az_a] at h
  rw [az_z]
  have h : (!decide (([c] : List Nat) < [97])) = true := h
  show (!decide (([122] : List Nat) < [c])) = _
  rw [lt1] at h ⊢
  unfold Letter
  by_cases a : c < 97
  · simp [a] at h
  · by_cases b : 122 < c
    · simp [b, show ¬ c ≤ 122 by omega]
    · simp [b, show c ≤ 122 by omega, show 97 ≤ c by omega]
theorem letter_f {c : Nat} (h : (!decide ((⟨#[c]⟩ : Str).cps.toList < (Str.ofString "a").cps.toList)) = false) : false = Letter c := by
  rw [az_a] at h
  have h : (!decide (([c] : List Nat) < [97])) = false := h
  rw [lt1] at h
  unfold Letter
  by_cases a : c < 97
  · simp [show ¬ 97 ≤ c by omega]
  · simp [a] at h
section
variable {P : Program} {w : World} {K : PySem.W.Frag} {mg : Str → Option Value} {base : Heap} {A : Ad}
theorem ok_is_name (T : Txt K mg A) : FnOk P w K mg base (L2.CX P w) 1 A.a_is_name A.d_is_name ["word"] (spP K PName) := by
  refine T.F_is_name.okX sc_is_name (fun vs H Q E h => spP_len h fun ds Φ Θ hp => by obtain ⟨_, rfl, _⟩ := hp; rfl) (fun cdv A' outer s H vs Q E hr h => ⟨_, (pss_one (ps_ret (pe_and (pe_chain op_leU op_leU pe_int (pe_callB call_len (by rfl) T.m_len PySem.boot_len (pa_cons (pv 0) pa_nil)) (pe_glob (v := .int 8) rfl T.g_LONGEST_NAME.choose_spec ⟨_, rfl⟩)) (pe_one (pe_callB (cr_all rfl) (by rfl) T.m_all (by decide +kernel) (pa_cons (pe_lc (own := [("letter", 1)]) rfl sc_is_name.nd (pi_str (pv 0)) (blkOk_by (own := [("letter", 1)]) (N := N_is_name) (sc := (defScope s_is_name)) (by decide +kernel)) (fun _ _ _ _ _ => (pg_name (i := 1) sc_is_name.nd rfl (by first | exact Or.inl rfl | exact Or.inr rfl))) (fun _ _ _ _ _ => pts_nil) (fun _ _ _ _ _ => (pe_chain op_leU op_leU pe_str (pv 1) pe_str))) pa_nil)))))), ?_⟩)
  · refine body_pure (fun ds Φ Θ hp => ?_) h
    dsimp only [L2.cxOf]
    obtain ⟨w, rfl, hw, k⟩ := hp
    refine r_ret (ev_and ?_)
    repeat walk_at "ze"
    refine ⟨_, rfl, fun c1 => ?_, fun c1 => ?_⟩
    · repeat walk_at "ze"
      refine ⟨_, rfl, fun c2 => ?_, fun c2 => ?_⟩
      · repeat walk_at "ze"
        refine EvL.ev (el_mapF (gt_name (by decide)) w.cps.toList (fun c => .str ⟨#[c]⟩) (fun c => .bl (Letter c)) (ei_str ?_))
        repeat walk_at "ze"
        refine ⟨_, rfl, rfl, ?_, fun c _ => ?_, ?_⟩
        · have : w.cps.toList.length = w.length := Array.length_toList
          have : w.length ≤ 8 := by
            have := of_decide_eq_true c2
            omega
          omega
        · repeat walk_at "ze"
          refine ⟨_, rfl, fun c3 => ?_, fun c3 => ?_⟩
          · repeat walk_at "ze"
            exact ⟨congrArg D.bl (letter_t c3), rfl⟩
          · exact ⟨congrArg D.bl (letter_f c3), rfl⟩
        · refine ea_nil ?_
          rw [show (List.map (fun c => D.bl (Letter c)) w.cps.toList) = (w.cps.toList.map Letter).map D.bl by rw [List.map_map]; rfl]
          refine c_all ?_
          have : isNameM w = (w.cps.toList.map Letter).all id := by
            unfold isNameM isLow
            rw [List.all_map]
            have e1 : decide (1 ≤ w.length) = true := by
              have := of_decide_eq_true c1
              exact decide_eq_true (by omega)
            have e2 : decide (w.length ≤ 8) = true := by
              have := of_decide_eq_true c2
              exact decide_eq_true (by omega)
            rw [e1, e2]
            rfl
          exact this ▸ k
      · have : isNameM w = false := by
          unfold isNameM
          simp at c1 c2
          simp [show ¬ w.length ≤ 8 by omega]
        exact this ▸ k
    · have : isNameM w = false := by
        unfold isNameM
        simp at c1
        simp [show ¬ 1 ≤ w.length by omega]
      exact ⟨false, rfl, fun e => (by cases e), fun _ => this ▸ k⟩
theorem ok__are_ways (T : Txt K mg A) (G_is_name : FnOk P w K mg base (L2.CX P w) 1 A.a_is_name A.d_is_name ["word"] (spP K PName)) : FnOk P w K mg base (L2.CX P w) 2 A.a__are_ways A.d__are_ways ["name", "words", "firsts"] (spP K PAre) := by
  refine T.F__are_ways.okX sc__are_ways (fun vs H Q E h => spP_len h fun ds Φ Θ hp => by obtain ⟨_, _, _, rfl, _⟩ := hp; rfl) (fun cdv A' outer s H vs Q E hr h => ⟨_, (pss_cons (ps_if (PW.pt (pw_or (pt_cmpR (op_neU hr.units) (pe_ix ix_seq (pv 1) pe_int (fun _ _ => rfl)) pe_str (nomark _)) (pw_or (pt_cmpR op_ltU (pe_callB call_len (by rfl) T.m_len PySem.boot_len (pa_cons (pv 1) pa_nil)) pe_int (nomark _)) (pw_or1 (pt_cmpR (op_eqU hr.units) (pe_op op_mod (pe_callB call_len (by rfl) T.m_len PySem.boot_len (pa_cons (pv 1) pa_nil)) pe_int) pe_int (nomark _)))))) (pss_one (ps_ret pe_bl)) pss_nil) (pss_cons (ps_set (i := 3) sc__are_ways.nd rfl (by first | exact Or.inl rfl | exact Or.inr rfl) (pe_stepL (pv 1) (po_some pe_int))) (pss_one (ps_ret (pe_and (pe_callB (cr_all rfl) (by rfl) T.m_all (by decide +kernel) (pa_cons (pe_lc (own := [("end", 4)]) rfl sc__are_ways.nd (pi_list (pv 3)) (blkOk_by (own := [("end", 4)]) (N := N__are_ways) (sc := (defScope s__are_ways)) (by decide +kernel)) (fun _ _ _ _ _ => (pg_name (i := 4) sc__are_ways.nd rfl (by first | exact Or.inl rfl | exact Or.inr rfl))) (fun _ _ _ _ _ => pts_nil) (fun _ _ _ _ _ => (pe_and (pe_cmpR (opK rNeU K (op_neU hr.units) rfl) (pv 4) (pv 0) (nomark _)) (pe_and (pe_cmp (pc_din (hu_of hr) (pv 4) (pv 2)) rfl) (pe_one (pe_callSD G_is_name (hr.mono (by decide)) rfl T.g_is_name T.F_is_name.kp T.b_is_name .nil (fun σ => passL0) (pa_cons (pv 4) pa_nil))))))) pa_nil)) (pe_and (pe_callB (cr_all rfl) (by rfl) T.m_all (by decide +kernel) (pa_cons (pe_lc (own := [("first", 5), ("second", 6)]) rfl sc__are_ways.nd (RZ.pi_zipA (by rfl) T.m_zip (pa_cons (pv 3) (pa_cons (pe_slice sl_U (pv 3) (po_some pe_int) po_none) pa_nil))) (blkOk_by (own := [("first", 5), ("second", 6)]) (N := N__are_ways) (sc := (defScope s__are_ways)) (by decide +kernel)) (fun _ _ _ _ _ => (pg_tupK (K := K) (n := 2) rfl rfl (pgs_cons (pg_name (i := 5) sc__are_ways.nd rfl (by first | exact Or.inl rfl | exact Or.inr rfl)) (pgs_cons (pg_name (i := 6) sc__are_ways.nd rfl (by first | exact Or.inl rfl | exact Or.inr rfl)) pgs_nil)))) (fun _ _ _ _ _ => pts_nil) (fun _ _ _ _ _ => (pe_cmpR op_ltU (pv 5) (pv 6) (nomark _)))) pa_nil)) (pe_one (pe_callB (cr_all rfl) (by rfl) T.m_all (by decide +kernel) (pa_cons (pe_lc (own := [("steps", 7)]) rfl sc__are_ways.nd (pi_list (pe_stepL (pv 1) (po_some pe_int))) (blkOk_by (own := [("steps", 7)]) (N := N__are_ways) (sc := (defScope s__are_ways)) (by decide +kernel)) (fun _ _ _ _ _ => (pg_name (i := 7) sc__are_ways.nd rfl (by first | exact Or.inl rfl | exact Or.inr rfl))) (fun _ _ _ _ _ => pts_nil) (fun _ _ _ _ _ => (pe_cmpR (op_inK (K := K) rfl) (pv 7) (pe_glob (v := .ref A.k_STEP_WORDS) rfl T.g_STEP_WORDS rfl) (by rfl)))) pa_nil))))))))), ?_⟩)
  · refine body_pure (fun ds Φ Θ hp => ?_) h
    dsimp only [L2.cxOf]
    obtain ⟨name, words, firsts, rfl, hn, hl, hz, k⟩ := hp
    have hpos : 0 < words.length := List.length_pos_iff.mpr hn
    have h0 : atI (words.map D.str) 0 = some (.str (words.headD "")) := by
      cases words with
      | nil => exact (hn rfl).elim
      | cons x xs => exact atI_nat (j := 0) rfl
    have early : (words.headD "" != "->" || decide (words.length < 3) || words.length % 2 == 0) = true → Φ (.bl false) := fun e => by
      have : areWaysM name words firsts = false := by unfold areWaysM; rw [if_pos e]
      exact this ▸ k
    have hsmall : ∀ e, e ∈ words → e.length ≤ 100000 := fun e he => Nat.le_trans (hz e he) (by decide)
    refine r_seq (r_when (et_or ?_))
    repeat walk_at "ze"
    refine o_ixL h0 ?_
    repeat walk_at "ze"
    refine ⟨_, rfl, fun c1 => ?_, fun c1 => ⟨fun _ => r_ret (ev_bl (early (by rw [c1]; rfl))), fun z => by cases z⟩⟩
    refine et_or ?_
    repeat walk_at "ze"
    refine ⟨_, rfl, fun c2 => ?_, fun c2 => ⟨fun _ => r_ret (ev_bl (early ?_)), fun z => by cases z⟩⟩
    rotate_left
    · have c2 := of_decide_eq_true c2
      have : words.length < 3 := by
        rw [List.length_map] at c2
        omega
      simp [this]
    repeat walk_at "ze"
    refine o_mod (by decide) ?_
    repeat walk_at "ze"
    refine ⟨_, rfl, fun c3 => ?_, fun c3 => ?_⟩
    · refine r_ret (ev_bl (early ?_))
      rw [beq_iff_eq, List.length_map] at c3
      have : words.length % 2 = 0 := by omega
      simp [this]
    have cc : (words.headD "" != "->" || decide (words.length < 3) || words.length % 2 == 0) = false := by
      have c2 := of_decide_eq_false c2
      rw [List.length_map] at c2
      rw [c1]
      rw [beq_eq_false_iff_ne, List.length_map] at c3
      have a : ¬ words.length < 3 := by omega
      have b : ¬ words.length % 2 = 0 := by omega
      simp [a, b]
    have em : areWaysM name words firsts = ((stepPick words 1 2).all (fun e => e != name && firsts.contains e && isNameM e) &&
      ((stepPick words 1 2).zip (stepPick words 1 2).tail).all (fun p => ltS p.1 p.2) && (stepPick words 2 2).all stepWords.contains) := by
      unfold areWaysM
      rw [if_neg (by rw [cc]; exact Bool.false_ne_true)]
    refine r_seq (r_set (ev_step (by decide) ?_))
    repeat walk_at "ze"
    refine ⟨_, rfl, _, _, rfl, rfl, ?_⟩
    rw [step_map]
    have l1 := step_le (xs := words) (i := 1) (by decide)
    have l2 := step_le (xs := words) (i := 2) (by decide)
    refine r_ret (ev_and ?_)
    repeat walk_at "ze"
    refine EvL.ev (el_mapF (gt_name (by decide)) (stepPick words 1 2) D.str (fun e => .bl (e != name && firsts.contains e && isNameM e)) (ei_list ?_))
    repeat walk_at "ze"
    refine ⟨_, rfl, rfl, by omega, fun e he => ?_, ?_⟩
    · refine gg_name (ev_and ?_)
      repeat walk_at "ze"
      refine ⟨_, rfl, fun d1 => ?_, fun d1 => ⟨by rw [d1]; rfl, rfl⟩⟩
      refine ev_and (ev_dIn ?_)
      repeat walk_at "ze"
      refine ⟨_, rfl, ?_⟩
      repeat walk_at "ze"
      refine ⟨_, _, rfl, _, rfl, fun d2 => ?_, fun d2 => ⟨by rw [d1, d2]; rfl, rfl⟩⟩
      refine ev_call ?_
      repeat walk_at "ze"
      refine ⟨fun d => d = .bl (isNameM e), noT, ⟨e, rfl, hsmall e (step_mem he), rfl⟩, fun d hd => ⟨by rw [hd, d1, d2]; rfl, rfl⟩, fun _ _ z => z.elim⟩
    repeat walk_at "ze"
    rw [show (List.map (fun e => D.bl (e != name && firsts.contains e && isNameM e)) (stepPick words 1 2)) = ((stepPick words 1 2).map fun e => e != name && firsts.contains e && isNameM e).map D.bl by rw [List.map_map]; rfl]
    refine c_all ?_
    rw [List.all_map]
    refine ⟨_, rfl, fun d1 => ?_, fun d1 => ?_⟩
    rotate_left
    · have : areWaysM name words firsts = false := by rw [em, Bool.and_assoc, Bool.and_eq_false_iff]; exact .inl d1
      exact this ▸ k
    refine ev_and ?_
    repeat walk_at "ze"
    refine EvL.ev (el_mapF (gt_tup (gts_name (by decide) (gts_name (by decide) gts_nil))) ((stepPick words 1 2).zip (stepPick words 1 2).tail) (fun p => .tup [.str p.1, .str p.2]) (fun p => .bl (ltS p.1 p.2)) (ei_zip ?_))
    repeat walk_at "ze"
    refine ⟨fun z hz => (by cases hz), ?_⟩
    repeat walk_at "ze"
    refine ⟨_, rfl, ?_⟩
    repeat walk_at "ze"
    refine ⟨_, rfl, ?_⟩
    repeat walk_at "ze"
    rw [cut_tail, ← List.map_tail]
    refine ⟨_, _, .inl rfl, zipD_map _ _, by rw [List.length_zip]; omega, fun p hp => ?_, ?_⟩
    · refine gg_tup rfl (gs_cons ?_)
      refine gg_name (gs_cons ?_)
      refine gg_name (gs_nil ?_)
      repeat walk_at "ze"
      exact ⟨rfl, rfl⟩
    repeat walk_at "ze"
    rw [show (List.map (fun p => D.bl (ltS p.1 p.2)) ((stepPick words 1 2).zip (stepPick words 1 2).tail)) = (((stepPick words 1 2).zip (stepPick words 1 2).tail).map fun p => ltS p.1 p.2).map D.bl by rw [List.map_map]; rfl]
    refine c_all ?_
    rw [List.all_map]
    refine ⟨_, rfl, fun d2 => ?_, fun d2 => ?_⟩
    rotate_left
    · have : areWaysM name words firsts = false := by rw [em, Bool.and_eq_false_iff, Bool.and_eq_false_iff]; exact .inl (.inr d2)
      exact this ▸ k
    repeat walk_at "ze"
    refine EvL.ev (el_mapF (gt_name (by decide)) (stepPick words 2 2) D.str (fun e => .bl (stepWords.contains e)) (ei_list ?_))
    refine ev_step (by decide) ?_
    repeat walk_at "ze"
    refine ⟨_, rfl, _, _, rfl, rfl, ?_⟩
    rw [step_map]
    refine ⟨_, rfl, rfl, by omega, fun e he => ?_, ?_⟩
    · refine gg_name ?_
      repeat walk_at "ze"
      refine ev_kt (zs := stepWords) T.kt_STEP_WORDS (o_inT ⟨rfl, rfl⟩)
    repeat walk_at "ze"
    rw [show (List.map (fun e => D.bl (stepWords.contains e)) (stepPick words 2 2)) = ((stepPick words 2 2).map stepWords.contains).map D.bl by rw [List.map_map]; rfl]
    refine c_all ?_
    have : areWaysM name words firsts = ((stepPick words 2 2).map stepWords.contains).all id := by
      have e1 : (stepPick words 1 2).all (fun e => e != name && firsts.contains e && isNameM e) = true := d1
      have e2 : ((stepPick words 1 2).zip (stepPick words 1 2).tail).all (fun p => ltS p.1 p.2) = true := d2
      rw [em, e1, e2, List.all_map]
      rfl
    exact this ▸ k
end
end Lw

namespace Lw
open PySem PySem.Spec PyProof.Rows L2 Evl Z
local macro_rules | `(tactic| walk_at "ze") => `(tactic| (first
  | ((with_reducible show EvS _ _ _ (tVar _) _ _); refine ev_var rfl ?_)
  | ((with_reducible show EvS _ _ _ (tOp (rIx _) (tVar _) _) _ _); refine ev_ixO rfl ?_)
  | ((with_reducible show EvS _ _ _ (tCB (rLenU _) (tCons (tVar _) tNil)) _ _); refine ev_lenO rfl ?_)
  | (with_reducible first
    | refine ei_str ?_
    | refine ei_list ?_
    | refine ei_tup ?_
    | refine ei_enum ?_
    | refine ei_rng1 ?_
    | refine ei_rng2 ?_
    | refine ei_rng3 ?_
    | refine ei_zip ?_
    | refine gg_name ?_
    | refine ev_int ?_
    | refine ev_str ?_
    | refine ev_bl ?_
    | refine ev_non ?_
    | refine ea_nil ?_
    | refine ea_cons ?_
    | refine ev_op ?_
    | refine ev_un ?_
    | refine ev_cb ?_
    | refine et_test ?_
    | refine et_B ?_
    | refine et_not ?_
    | refine et_truth ?_
    | refine eo_none ?_
    | refine eo_some ?_
    | refine ev_slice ?_
    | refine ev_tup ?_
    | refine ev_chain ?_
    | refine ev_lst ?_
    | refine o_add ?_
    | refine o_sub ?_
    | refine o_cmp ?_
    | refine o_cmpS ?_
    | refine o_eqS ?_
    | refine o_neS ?_
    | refine o_eqI ?_
    | refine o_neI ?_
    | refine c_int ?_
    | refine c_intB ?_
    | refine c_abs ?_
    | refine c_max2 ?_
    | refine c_min2 ?_
    | refine c_tupL ?_
    | refine c_tupT ?_
    | refine c_listL ?_
    | refine c_listT ?_
    | refine o_isN ?_
    | refine o_notN ?_
    | refine el_lst ?_)
  | ((with_reducible show Cl _ (rLenU _) [_] _); refine c_len (by intro s hs; cases hs <;> first | assumption | omega) rfl ?_)))
local macro_rules | `(tactic| walk_at "zn") => `(tactic| try simp only [List.map_cons, List.map_nil, wipeR_n, wipeR_c, List.set_cons_zero, List.set_cons_succ])
theorem rgc2 {n : Nat} (h : n ≤ 100000) : RgC 1 (n : Int) 2 (n / 2) := by
  have e : Builtin.Range.rangeSize 1 (n : Int) 2 = (n / 2 : Nat) := by
    unfold Builtin.Range.rangeSize
    rw [if_pos (by decide)]
    split <;> omega
  have f : ∀ i : Int, -100 ≤ i → i ≤ 200000 → Builtin.Range.rangeFitsLong i = true := fun i a b => by
    unfold Builtin.Range.rangeFitsLong
    rw [Bool.and_eq_true]
    exact ⟨decide_eq_true (by omega), decide_eq_true (by omega)⟩
  refine ⟨by decide, by decide, ?_, e⟩
  unfold Builtin.Range.small
  rw [e, f 1 (by decide) (by decide), f n (by omega) (by omega), f 2 (by decide) (by decide), f (n / 2 : Nat) (by omega) (by omega), if_pos (by decide), f (n + (2 - 1)) (by omega) (by omega), Bool.or_true]
  rfl
theorem cut_drop {ds : List D} {n : Nat} : Z.cutD ds (some (n : Int)) none = ds.drop n := by
  unfold Z.cutD
  rw [HT.sIx_nat, HT.sIx_none]
  by_cases h : n ≤ ds.length
  · rw [Nat.min_eq_left h]
    exact List.take_of_length_le (by rw [List.length_drop]; exact Nat.le_refl _)
  · rw [Nat.min_eq_right (by omega), List.drop_eq_nil_of_le (Nat.le_refl _), List.drop_eq_nil_of_le (by omega), List.take_nil]
section
variable {P : Program} {w : World} {K : PySem.W.Frag} {mg : Str → Option Value} {base : Heap} {A : Ad}
theorem ok__place_of (T : Txt K mg A) (G_is_name : FnOk P w K mg base (L2.CX P w) 1 A.a_is_name A.d_is_name ["word"] (spP K PName)) (G__are_ways : FnOk P w K mg base (L2.CX P w) 2 A.a__are_ways A.d__are_ways ["name", "words", "firsts"] (spP K PAre)) : FnOk P w K mg base (L2.CX P w) 3 A.a__place_of A.d__place_of ["words", "firsts"] (spP K PPlace) := by
  refine T.F__place_of.okX sc__place_of (fun vs H Q E h => spP_len h fun ds Φ Θ hp => by obtain ⟨_, _, rfl, _⟩ := hp; rfl) (fun cdv A' outer s H vs Q E hr h => ⟨_, (pss_cons (ps_if (PW.pt (pw_or (pt_cmpR op_ltU (pe_callB call_len (by rfl) T.m_len PySem.boot_len (pa_cons (pv 0) pa_nil)) pe_int (nomark _)) (pw_or (pt_not (pt_truth (pe_callSD G_is_name (hr.mono (by decide)) rfl T.g_is_name T.F_is_name.kp T.b_is_name .nil (fun σ => passAt (W := fun cls d _ H => E cls d H) (takes_of rfl rfl rfl rfl) σ) (pa_cons (pe_ix ix_seq (pv 0) pe_int (fun _ _ => rfl)) pa_nil)) (by intro _; rfl))) (pw_or1 (pt_cmpR (op_notInK (K := K) rfl) (pe_ix ix_seq (pv 0) pe_int (fun _ _ => rfl)) (pe_glob (v := .ref A.k_LIMIT_WORDS) rfl T.g_LIMIT_WORDS rfl) (by rfl)))))) (pss_one (ps_ret pe_non)) pss_nil) (pss_cons (ps_set (i := 2) sc__place_of.nd rfl (by first | exact Or.inl rfl | exact Or.inr rfl) (pe_cmpR (op_eqU hr.units) (pe_ix ix_seq (pv 0) pe_int (fun _ _ => rfl)) pe_str (nomark _))) (pss_cons (ps_set (i := 3) sc__place_of.nd rfl (by first | exact Or.inl rfl | exact Or.inr rfl) (pe_ifExp (pt_truth (pv 2) (by intro _; rfl)) (pe_slice sl_U (pv 0) (po_some pe_int) po_none) (pe_slice sl_U (pv 0) (po_some pe_int) po_none))) (pss_cons (ps_if (PW.pt (pw_and (pt_truth (pv 3) (by intro _; rfl)) (pw_and1 (pt_not (pt_truth (pe_callSD G__are_ways (hr.mono (by decide)) rfl T.g__are_ways T.F__are_ways.kp T.b__are_ways .nil (fun σ => passAt (W := fun cls d _ H => E cls d H) (takes_of rfl rfl rfl rfl) σ) (pa_cons (pe_ix ix_seq (pv 0) pe_int (fun _ _ => rfl)) (pa_cons (pv 3) (pa_cons (pv 1) pa_nil)))) (by intro _; rfl)))))) (pss_one (ps_ret pe_non)) pss_nil) (pss_cons (by first | exact (ps_setLc (i := 4) (own := [("at", 5)]) rfl sc__place_of.nd rfl rfl (sw_true rfl rfl rfl (by decide +kernel)) (pi_range3 (by rfl) T.m_range (pa_cons pe_int (pa_cons (pe_callB call_len (by rfl) T.m_len PySem.boot_len (pa_cons (pv 3) pa_nil)) (pa_cons pe_int pa_nil)))) (blkOk_by (own := [("at", 5)]) (N := N__place_of) (sc := (defScope s__place_of)) (by decide +kernel)) (fun _ _ _ _ _ => (pg_name (i := 5) sc__place_of.nd rfl (by first | exact Or.inl rfl | exact Or.inr rfl))) (fun _ _ _ _ _ => pts_nil) (fun _ _ _ _ _ => (pe_tup (pa_cons (pe_ix (ixK rIx K ix_seq rfl) (pv 3) (pv 5) (fun _ _ => rfl)) (pa_cons (pe_callTy call_intU (by rfl) T.m_int (by decide +kernel) (pa_cons (pe_ix (ixK rIx K ix_seq rfl) (pv 3) (pe_op (opK rAddU K op_addU rfl) (pv 5) pe_int) (fun _ _ => rfl)) pa_nil)) pa_nil))))) | exact (ps_set (i := 4) sc__place_of.nd rfl (by first | exact Or.inl rfl | exact Or.inr rfl) (pe_lc (own := [("at", 5)]) rfl sc__place_of.nd (pi_range3 (by rfl) T.m_range (pa_cons pe_int (pa_cons (pe_callB call_len (by rfl) T.m_len PySem.boot_len (pa_cons (pv 3) pa_nil)) (pa_cons pe_int pa_nil)))) (blkOk_by (own := [("at", 5)]) (N := N__place_of) (sc := (defScope s__place_of)) (by decide +kernel)) (fun _ _ _ _ _ => (pg_name (i := 5) sc__place_of.nd rfl (by first | exact Or.inl rfl | exact Or.inr rfl))) (fun _ _ _ _ _ => pts_nil) (fun _ _ _ _ _ => (pe_tup (pa_cons (pe_ix (ixK rIx K ix_seq rfl) (pv 3) (pv 5) (fun _ _ => rfl)) (pa_cons (pe_callTy call_intU (by rfl) T.m_int (by decide +kernel) (pa_cons (pe_ix (ixK rIx K ix_seq rfl) (pv 3) (pe_op (opK rAddU K op_addU rfl) (pv 5) pe_int) (fun _ _ => rfl)) pa_nil)) pa_nil))))))) (pss_one (ps_ret (pe_tup (pa_cons (pe_callTy call_intU (by rfl) T.m_int (by decide +kernel) (pa_cons (pe_ix ix_seq (pv 0) pe_int (fun _ _ => rfl)) pa_nil)) (pa_cons (pv 2) (pa_cons (pv 4) pa_nil))))))))))), ?_⟩)
  · refine body_pure (fun ds Φ Θ hp => ?_) h
    dsimp only [L2.cxOf]
    obtain ⟨words, firsts, rfl, hf, k⟩ := hp
    have hf1 : 1 ≤ words.length ∧ words.length ≤ 1000 ∧ ∀ w ∈ words, w.length ≤ 600 := by
      unfold fineW at hf
      simp only [Bool.and_eq_true, decide_eq_true_eq, List.all_eq_true] at hf
      exact ⟨hf.1.1, hf.1.2, hf.2⟩
    obtain ⟨l1, l2, hz⟩ := hf1
    have hg : ∀ i : Nat, i < words.length → atI (words.map D.str) (i : Int) = some (.str (words.getD i "")) := fun i hi => atI_map (atI_D ("" : Str) hi)
    have hgz : ∀ i : Nat, i < words.length → (words.getD i "").length ≤ 600 := fun i hi => hz _ (by
      rw [List.getD_eq_getElem?_getD, List.getElem?_eq_getElem hi]
      exact List.getElem_mem hi)
    have early : (decide (words.length < 3) || !isNameM (words.getD 0 "") || !limitWords.contains (words.getD 1 "")) = true → Φ .non := fun e => by
      have : placeM words firsts = none := by unfold placeM; rw [if_pos e]
      rw [this] at k
      exact k
    refine r_seq (r_when (et_or ?_))
    repeat walk_at "ze"
    refine ⟨_, rfl, fun c1 => ?_, fun c1 => ⟨fun _ => r_ret (ev_non (early ?_)), fun z => by cases z⟩⟩
    rotate_left
    · have c1 := of_decide_eq_true c1
      rw [List.length_map] at c1
      have : words.length < 3 := by omega
      simp [this]
    have c1' : ¬ words.length < 3 := by
      have c1 := of_decide_eq_false c1
      rw [List.length_map] at c1
      omega
    refine et_or ?_
    repeat walk_at "ze"
    refine ev_call ?_
    repeat walk_at "ze"
    refine o_ixL (hg 0 (by omega)) ?_
    repeat walk_at "ze"
    refine ⟨fun d => d = .bl (isNameM (words.getD 0 "")), noT, ⟨_, rfl, Nat.le_trans (hgz 0 (by omega)) (by decide), rfl⟩, ?_, fun _ _ z => z.elim⟩
    rintro _ rfl
    refine ⟨fun s e => (by cases e), _, rfl, fun c2 => ?_, fun c2 => ⟨fun _ => r_ret (ev_non (early ?_)), fun z => by cases z⟩⟩
    rotate_left
    · have c2 : isNameM (words.getD 0 "") = false := by simpa using c2
      rw [c2]
      simp
    have c2 : isNameM (words.getD 0 "") = true := by simpa using c2
    repeat walk_at "ze"
    refine o_ixL (hg 1 (by omega)) ?_
    refine ev_kt (zs := limitWords) T.kt_LIMIT_WORDS (o_inT ?_)
    refine ⟨_, rfl, fun c3 => r_ret (ev_non (early ?_)), fun c3 => ?_⟩
    · have c3 : (!limitWords.contains (words.getD 1 "")) = true := c3
      rw [c3]
      simp
    have c3 : limitWords.contains (words.getD 1 "") = true := by
      have c3 : (!limitWords.contains (words.getD 1 "")) = false := c3
      simpa using c3
    have ee : ¬ (decide (words.length < 3) || !isNameM (words.getD 0 "") || !limitWords.contains (words.getD 1 "")) = true := by
      rw [c2, c3]
      simp [c1']
    refine r_seq (r_set ?_)
    repeat walk_at "ze"
    refine o_ixL (hg 2 (by omega)) ?_
    repeat walk_at "ze"
    refine r_cut (J := fun ρ => ρ = [.dt (strsD words), .dt (keyD firsts), .dt (.bl (words.getD 2 "" == "stay")), .dt (strsD (restM words)), .un, .un]) (r_set (ev_if ?_)) ?_
    · repeat walk_at "ze"
      refine ⟨fun s e => (by cases e), _, rfl, fun c4 => ?_, fun c4 => ?_⟩
      · repeat walk_at "ze"
        refine ⟨fun z e => (by cases e), ?_⟩
        repeat walk_at "ze"
        refine ⟨_, rfl, ?_⟩
        repeat walk_at "ze"
        refine ⟨_, rfl, ?_⟩
        have : restM words = words.drop 3 := by unfold restM; rw [if_pos c4]
        rw [show (3 : Int) = ((3 : Nat) : Int) from rfl, cut_drop, ← List.map_drop, this]
        rfl
      · repeat walk_at "ze"
        refine ⟨fun z e => (by cases e), ?_⟩
        repeat walk_at "ze"
        refine ⟨_, rfl, ?_⟩
        repeat walk_at "ze"
        refine ⟨_, rfl, ?_⟩
        have : restM words = words.drop 2 := by unfold restM; rw [if_neg (by rw [c4]; exact Bool.false_ne_true)]
        rw [show (2 : Int) = ((2 : Nat) : Int) from rfl, cut_drop, ← List.map_drop, this]
        rfl
    rintro _ rfl
    have hr1 : (restM words).length ≤ 1000 := by
      unfold restM
      rw [List.length_drop]
      omega
    have hr2 : ∀ w ∈ restM words, w.length ≤ 600 := fun w hw => hz w (List.mem_of_mem_drop hw)
    refine r_cut (J := fun ρ => ρ = [.dt (strsD words), .dt (keyD firsts), .dt (.bl (words.getD 2 "" == "stay")), .dt (strsD (restM words)), .un, .un] ∧ ((restM words).isEmpty || areWaysM (words.getD 0 "") (restM words) firsts) = true) (r_when (et_and ?_)) ?_
    · repeat walk_at "ze"
      refine ⟨fun s e => (by cases e), _, rfl, fun c5 => ?_, fun c5 => ⟨fun z => (by cases z), fun _ => ?_⟩⟩
      · have c5 : restM words ≠ [] := fun z => by rw [z] at c5; cases c5
        repeat walk_at "ze"
        refine ev_call ?_
        repeat walk_at "ze"
        refine o_ixL (hg 0 (by omega)) ?_
        repeat walk_at "ze"
        refine ⟨fun d => d = .bl (areWaysM (words.getD 0 "") (restM words) firsts), noT, ⟨_, _, _, rfl, c5, hr1, hr2, rfl⟩, ?_, fun _ _ z => z.elim⟩
        rintro _ rfl
        refine ⟨fun s e => (by cases e), _, rfl, fun c6 => ?_, fun c6 => ⟨rfl, ?_⟩⟩
        · refine r_ret (ev_non ?_)
          have : placeM words firsts = none := by
            unfold placeM
            rw [if_neg ee, if_pos]
            have : (restM words).isEmpty = false := by cases hh : restM words with | nil => exact (c5 hh).elim | cons _ _ => rfl
            rw [this, c6]
            rfl
          rw [this] at k
          exact k
        · have : areWaysM (words.getD 0 "") (restM words) firsts = true := by simpa using c6
          rw [this, Bool.or_true]
      · refine ⟨rfl, ?_⟩
        have : restM words = [] := by
          cases hh : restM words with
          | nil => rfl
          | cons a as => rw [hh] at c5; cases c5
        rw [this]
        rfl
    rintro _ ⟨rfl, hw⟩
    have pm : placeM words firsts = some ⟨digitM (words.getD 1 ""), words.getD 2 "" == "stay", waysM (restM words)⟩ := by
      unfold placeM
      rw [if_neg ee, if_neg]
      rw [Bool.or_eq_true] at hw
      intro z
      rw [Bool.and_eq_true] at z
      rcases hw with hw | hw
      · rw [hw] at z; cases z.1
      · rw [hw] at z; cases z.2
    have hlen : ∀ i : Nat, i < (restM words).length / 2 → (restM words).isEmpty = false ∧ areWaysM (words.getD 0 "") (restM words) firsts = true := fun i hi => by
      have : (restM words).isEmpty = false := by
        cases hh : restM words with
        | nil => rw [hh] at hi; simp at hi
        | cons _ _ => rfl
      rw [this] at hw
      exact ⟨this, hw⟩
    have hodd : ∀ i : Nat, i < (restM words).length / 2 → 1 + i * 2 + 1 < (restM words).length ∧ stepWords.contains ((restM words).getD (1 + i * 2 + 1) "") = true := fun i hi => by
      have e1 := (hlen i hi).2
      unfold areWaysM at e1
      split at e1
      · cases e1
      · rename_i hh
        have h3 : ¬ (restM words).length % 2 = 0 := by
          intro z
          apply hh
          simp [z]
        have hlt : 1 + i * 2 + 1 < (restM words).length := by omega
        refine ⟨hlt, ?_⟩
        rw [Bool.and_eq_true] at e1
        have := List.all_eq_true.mp e1.2 _ (even_in (xs := restM words) (i := i) (by omega))
        rw [show 1 + i * 2 + 1 = 2 + 2 * i by omega]
        exact this
    have hgr : ∀ i : Nat, i < (restM words).length → atI ((restM words).map D.str) (i : Int) = some (.str ((restM words).getD i "")) := fun i hi => atI_map (atI_D ("" : Str) hi)
    refine r_seq (r_set (EvL.ev (el_mapF (gt_name (by decide)) (List.range ((restM words).length / 2)) (fun i => .int (1 + (i : Nat) * 2)) (fun i => wayD ((restM words).getD (1 + i * 2) "", digitM ((restM words).getD (1 + i * 2 + 1) ""))) (ei_rng3 ?_))))
    repeat walk_at "ze"
    refine ⟨_, _, _, _, rfl, by rw [List.length_map]; exact rgc2 (by omega), rfl, by rw [List.length_range]; omega, fun i hi => ?_, ?_⟩
    · have hi := List.mem_range.mp hi
      refine gg_name ?_
      repeat walk_at "ze"
      refine o_ixL (i := 1 + (i : Nat) * 2) (hgr (1 + i * 2) (by omega)) ?_
      repeat walk_at "ze"
      refine o_ixL (i := 1 + (i : Nat) * 2 + 1) (hgr (1 + i * 2 + 1) (hodd i hi).1) ?_
      have si := steps_int (hodd i hi).2
      repeat walk_at "ze"
      refine c_intS si.1 si.2 ?_
      repeat walk_at "ze"
      exact ⟨by show 2 ≤ 100000; decide, rfl, rfl⟩
    refine r_ret ?_
    repeat walk_at "ze"
    refine o_ixL (hg 1 (by omega)) ?_
    have si := limit_int c3
    repeat walk_at "ze"
    refine c_intS si.1 si.2 ?_
    repeat walk_at "ze"
    refine ⟨by show 3 ≤ 100000; decide, ?_⟩
    rw [pm] at k
    have : placeD ⟨digitM (words.getD 1 ""), words.getD 2 "" == "stay", waysM (restM words)⟩ = .tup [.int (digitM (words.getD 1 "")), .bl (words.getD 2 "" == "stay"), .lst ((List.range ((restM words).length / 2)).map fun i => wayD ((restM words).getD (1 + i * 2) "", digitM ((restM words).getD (1 + i * 2 + 1) "")))] := by
      unfold placeD waysM
      rw [List.map_map]
      rfl
    rw [← this]
    exact k
end
end Lw

namespace Lw
open PySem PySem.Spec PyProof.Rows L2 Evl Z
local macro_rules | `(tactic| walk_at "ze") => `(tactic| (first
  | ((with_reducible show EvS _ _ _ (tVar _) _ _); refine ev_var rfl ?_)
  | ((with_reducible show EvS _ _ _ (tOp (rIx _) (tVar _) _) _ _); refine ev_ixO rfl ?_)
  | ((with_reducible show EvS _ _ _ (tCB (rLenU _) (tCons (tVar _) tNil)) _ _); refine ev_lenO rfl ?_)
  | (with_reducible first
    | refine ei_str ?_
    | refine ei_list ?_
    | refine ei_tup ?_
    | refine ei_enum ?_
    | refine ei_rng1 ?_
    | refine ei_rng2 ?_
    | refine ei_rng3 ?_
    | refine ei_zip ?_
    | refine gg_name ?_
    | refine ev_int ?_
    | refine ev_str ?_
    | refine ev_bl ?_
    | refine ev_non ?_
    | refine ea_nil ?_
    | refine ea_cons ?_
    | refine ev_op ?_
    | refine ev_un ?_
    | refine ev_cb ?_
    | refine et_test ?_
    | refine et_B ?_
    | refine et_not ?_
    | refine et_truth ?_
    | refine eo_none ?_
    | refine eo_some ?_
    | refine ev_slice ?_
    | refine ev_tup ?_
    | refine ev_chain ?_
    | refine ev_lst ?_
    | refine o_add ?_
    | refine o_sub ?_
    | refine o_cmp ?_
    | refine o_cmpS ?_
    | refine o_eqS ?_
    | refine o_neS ?_
    | refine o_eqI ?_
    | refine o_neI ?_
    | refine c_int ?_
    | refine c_intB ?_
    | refine c_abs ?_
    | refine c_max2 ?_
    | refine c_min2 ?_
    | refine c_tupL ?_
    | refine c_tupT ?_
    | refine c_listL ?_
    | refine c_listT ?_
    | refine o_isN ?_
    | refine o_notN ?_
    | refine el_lst ?_)
  | ((with_reducible show Cl _ (rLenU _) [_] _); refine c_len (by intro s hs; cases hs <;> first | assumption | omega) rfl ?_)))
local macro_rules | `(tactic| walk_at "zn") => `(tactic| try simp only [List.map_cons, List.map_nil, wipeR_n, wipeR_c, List.set_cons_zero, List.set_cons_succ])
def hdD : D → Str
  | .lst (.str z :: _) => z
  | _ => ""
theorem hd_strs {w : List Str} (h : 1 ≤ w.length) : hdD (strsD w) = w.getD 0 "" := by
  cases w with
  | nil => simp at h
  | cons a as => rfl
theorem fineW_1 {w : List Str} (h : fineW w = true) : 1 ≤ w.length := by
  unfold fineW at h
  simp only [Bool.and_eq_true, decide_eq_true_eq, List.all_eq_true] at h
  exact h.1.1
theorem map_snoc {α β : Type} (f : α → β) (xs : List α) (x : α) : xs.map f ++ [f x] = (xs ++ [x]).map f := by rw [List.map_append]; rfl
section
variable {P : Program} {w : World} {K : PySem.W.Frag} {mg : Str → Option Value} {base : Heap} {A : Ad}
theorem ok__places_of (T : Txt K mg A) (G__place_of : FnOk P w K mg base (L2.CX P w) 3 A.a__place_of A.d__place_of ["words", "firsts"] (spP K PPlace)) (G_InvalidText : FnOk P w K mg base (L2.CX P w) 1 A.a_i_InvalidText A.d_i_InvalidText ["self", "row"] (spXI A.c_InvalidText "row")) : FnOk P w K mg base (L2.CX P w) 4 A.a__places_of A.d__places_of ["rows"] (spP K (PPlaces A.c_InvalidText)) := by
  refine T.F__places_of.okX sc__places_of (fun vs H Q E h => spP_len h fun ds Φ Θ hp => by obtain ⟨_, rfl, _⟩ := hp; rfl) (fun cdv A' outer s H vs Q E hr h => ⟨_, (pss_cons (by first | exact (ps_setDc (i := 1) (own := [("words", 5)]) rfl sc__places_of.nd rfl rfl (sw_trueD rfl rfl rfl (by decide +kernel)) (pi_list (pv 0)) (blkOk_by (own := [("words", 5)]) (N := N__places_of) (sc := (defScope s__places_of)) (by decide +kernel)) (fun _ _ _ _ _ => (pg_name (i := 5) sc__places_of.nd rfl (by first | exact Or.inl rfl | exact Or.inr rfl))) (fun _ _ _ _ _ => pts_nil) (fun _ _ _ _ _ => (pe_ix (ixK rIx K ix_seq rfl) (pv 5) pe_int (fun _ _ => rfl))) (fun _ _ _ _ _ => pe_bl)) | exact (ps_set (i := 1) sc__places_of.nd rfl (by first | exact Or.inl rfl | exact Or.inr rfl) (pe_dc (own := [("words", 5)]) rfl sc__places_of.nd (pi_list (pv 0)) (blkOk_by (own := [("words", 5)]) (N := N__places_of) (sc := (defScope s__places_of)) (by decide +kernel)) (fun _ _ _ _ _ => (pg_name (i := 5) sc__places_of.nd rfl (by first | exact Or.inl rfl | exact Or.inr rfl))) (fun _ _ _ _ _ => pts_nil) (fun _ _ _ _ _ => (pe_ix (ixK rIx K ix_seq rfl) (pv 5) pe_int (fun _ _ => rfl))) (fun _ _ _ _ _ => pe_bl)))) (pss_cons (ps_set (i := 2) sc__places_of.nd rfl (by first | exact Or.inl rfl | exact Or.inr rfl) pe_dnewK) (pss_cons (ps_set (i := 3) sc__places_of.nd rfl (by first | exact Or.inl rfl | exact Or.inr rfl) (pe_lst pa_nil)) (pss_cons (ps_for (passes_of rfl) rfl (pi_enum (by rfl) T.m_enumerate (pa_cons (pv 0) pa_nil)) (pg_tupK (K := K) (n := 2) rfl rfl (pgs_cons (pg_name (i := 4) sc__places_of.nd rfl (by first | exact Or.inl rfl | exact Or.inr rfl)) (pgs_cons (pg_name (i := 5) sc__places_of.nd rfl (by first | exact Or.inl rfl | exact Or.inr rfl)) pgs_nil))) (pss_cons (ps_set (i := 6) sc__places_of.nd rfl (by first | exact Or.inl rfl | exact Or.inr rfl) (pe_callSD G__place_of (hr.mono (by decide)) rfl T.g__place_of T.F__place_of.kp T.b__place_of .nil (fun σ => passAt (W := fun cls d _ H => E cls d H) (takes_of rfl rfl rfl rfl) σ) (pa_cons (pv 5) (pa_cons (pv 1) pa_nil)))) (pss_cons (ps_if (PW.pt (pw_or (pt_cmpR op_geU (pv 4) (pe_glob (v := .int 6) rfl T.g_MOST_PLACES.choose_spec ⟨_, rfl⟩) (nomark _)) (pw_or (pt_cmpR op_isN (pv 6) pe_non (nomark _)) (pw_or1 (pt_cmp (pc_din (hu_of hr) (pe_ix ix_seq (pv 5) pe_int (fun _ _ => rfl)) (pv 2)) rfl))))) (pss_one (ps_raise rfl (takes_of rfl rfl rfl rfl) (pmk_oex T.x_InvalidText T.xi_InvalidText T.xt_InvalidText G_InvalidText (hr.mono (by decide)) T.b_i_InvalidText .nil passL rfl T.g_InvalidText (pa_cons (pv 4) pa_nil)))) pss_nil) (pss_cons (ps_dput (hu_of hr) (pv 2) (pe_ix ix_seq (pv 5) pe_int (fun _ _ => rfl)) pe_bl rfl) (pss_one (ps_expr (pe_bm PySem.F.plainAttrs_list PySem.F.slot_list_append PySem.F.type_list_append mt_append (pv 3) (pa_cons (pv 6) pa_nil)))))))) (pss_one (ps_ret (pv 3))))))), ?_⟩)
  · refine body_pure (fun ds Φ Θ hp => ?_) h
    dsimp only [L2.cxOf]
    obtain ⟨rows, rfl, hf, kok, kerr⟩ := hp
    have hf1 : rows.length ≤ 1000 ∧ ∀ w ∈ rows, fineW w = true := by
      unfold fineR at hf
      simp only [Bool.and_eq_true, decide_eq_true_eq, List.all_eq_true] at hf
      exact hf
    obtain ⟨hl, hw⟩ := hf1
    have hat : ∀ w ∈ rows, atI (w.map D.str) 0 = some (.str (w.getD 0 "")) := fun w h => atI_map (atI_D (i := 0) ("" : Str) (fineW_1 (hw w h)))
    refine r_seq (r_set (ev_dcT (gt_name (by decide)) hdD (ei_list ?_)))
    repeat walk_at "ze"
    refine ⟨_, rfl, by rw [List.length_map]; omega, fun d hd => ?_, ?_⟩
    · obtain ⟨w, hm, rfl⟩ := List.mem_map.mp hd
      refine gg_name ?_
      repeat walk_at "ze"
      refine o_ixL (hat w hm) ?_
      exact ⟨by rw [hd_strs (fineW_1 (hw w hm))], rfl⟩
    have e1 : (rows.map strsD).map hdD = firstsM rows := by
      rw [List.map_map]
      exact List.map_congr_left fun w h => hd_strs (fineW_1 (hw w h))
    rw [e1]
    refine r_seq (r_newD fun q => ?_)
    refine r_seq (r_setL (el_lst (ea_nil ⟨by decide, fun p => ?_⟩)))
    refine r_seq (r_for (ei_enum ?_))
    repeat walk_at "ze"
    refine ⟨_, rfl, fun i ρ => ∃ (seen : List Str) (acc : List PlaceM) (s4 s5 s6 : Slot), ρ = [.dt (.lst (rows.map strsD)), .dt (keyD (keysOf (firstsM rows))), .od q seen (seen.map fun _ => .bl true), .ol p (acc.map placeD), s4, s5, s6] ∧
      (s4.ad = none ∧ s5.ad = none ∧ s6.ad = none) ∧ seen.length = i ∧ acc.length = i ∧ goM (keysOf (firstsM rows)) i seen acc (rows.drop i) = placesM rows, ⟨[], [], .un, .un, .un, rfl, ⟨rfl, rfl, rfl⟩, rfl, rfl, rfl⟩, ?_, ?_⟩
    · rintro i d ρ hd ⟨seen, acc, s4, s5, s6, rfl, ⟨n4, n5, n6⟩, ls, la, hgo⟩
      rw [enumD_get, List.getElem?_map] at hd
      have hi : i < rows.length := by
        by_cases c : i < rows.length
        · exact c
        · rw [List.getElem?_eq_none (by omega)] at hd
          cases hd
      rw [List.getElem?_eq_getElem hi] at hd
      cases hd
      have hm : rows[i] ∈ rows := List.getElem_mem hi
      rw [List.drop_eq_getElem_cons hi] at hgo
      generalize rows[i] = w at *
      refine gg_tup rfl (gs_cons ?_)
      refine gg_name (gs_cons ?_)
      refine gg_name (gs_nil ?_)
      refine r_seq (r_set (ev_call ?_))
      repeat walk_at "ze"
      refine ⟨fun d => d = outP (placeM w (keysOf (firstsM rows))), noT, ⟨w, _, rfl, hw w hm, rfl⟩, ?_, fun _ _ z => z.elim⟩
      rintro _ rfl
      refine r_seq (r_when (et_or ?_))
      repeat walk_at "ze"
      refine ⟨_, rfl, fun c1 => ?_, fun c1 => ⟨fun _ => r_raise ?_, fun z => (by cases z)⟩⟩
      rotate_left
      · repeat walk_at "ze"
        refine ⟨_, rfl, kerr i ?_⟩
        rw [← hgo]
        unfold goM
        have := of_decide_eq_true c1
        rw [if_pos (decide_eq_true (by omega))]
      have c1' : ¬ decide (6 ≤ i) = true := by
        have := of_decide_eq_false c1
        simp
        omega
      refine et_or ?_
      repeat walk_at "ze"
      cases hp : placeM w (keysOf (firstsM rows)) with
      | none =>
        refine ⟨true, rfl, fun z => (by cases z), fun _ => ⟨fun _ => r_raise ?_, fun z => (by cases z)⟩⟩
        repeat walk_at "ze"
        refine ⟨_, rfl, kerr i ?_⟩
        rw [← hgo]
        unfold goM
        rw [if_neg c1', hp]
      | some pl =>
        refine ⟨false, rfl, fun _ => ?_, fun z => (by cases z)⟩
        refine et_B (ev_dInO rfl ?_)
        repeat walk_at "ze"
        refine o_ixL (hat w hm) ⟨rfl, _, rfl, _, rfl, fun c2 => r_raise ?_, fun c2 => ?_⟩
        · repeat walk_at "ze"
          refine ⟨_, rfl, kerr i ?_⟩
          rw [← hgo]
          unfold goM
          rw [if_neg c1', hp]
          show (if seen.contains (w.getD 0 "") = true then _ else _) = _
          rw [if_pos c2]
        · refine r_seq (r_dput rfl (by omega) ?_)
          repeat walk_at "ze"
          refine ⟨rfl, ?_⟩
          repeat walk_at "ze"
          refine o_ixL (hat w hm) ⟨rfl, _, rfl, c2, ?_⟩
          refine r_app rfl (by rw [List.length_map]; omega) ?_
          repeat walk_at "ze"
          refine ⟨_, rfl, by rw [List.length_map]; omega, seen ++ [w.getD 0 ""], acc ++ [pl], .dt (.int i), .dt (strsD w), .dt (placeD pl), ?_, ⟨rfl, rfl, rfl⟩, by rw [List.length_append, ls]; rfl, by rw [List.length_append, la]; rfl, ?_⟩
          · rw [List.map_append, List.map_append]
            rfl
          · rw [← hgo]
            conv => rhs; unfold goM
            rw [if_neg c1', hp]
            show _ = (if seen.contains (w.getD 0 "") = true then _ else _)
            rw [if_neg (by rw [c2]; exact Bool.false_ne_true)]
    · rintro ρ ⟨seen, acc, s4, s5, s6, rfl, _, ls, la, hgo⟩
      rw [enumD_len, List.length_map, List.drop_length] at hgo
      refine r_ret (ev_frz rfl (kok acc ?_))
      rw [← hgo]
      rfl
end
end Lw

namespace Lw
open PySem PySem.Spec PyProof.Rows L2 Evl Z
local macro_rules | `(tactic| walk_at "ze") => `(tactic| (first
  | ((with_reducible show EvS _ _ _ (tVar _) _ _); refine ev_var rfl ?_)
  | ((with_reducible show EvS _ _ _ (tOp (rIx _) (tVar _) _) _ _); refine ev_ixO rfl ?_)
  | ((with_reducible show EvS _ _ _ (tCB (rLenU _) (tCons (tVar _) tNil)) _ _); refine ev_lenO rfl ?_)
  | (with_reducible first
    | refine ei_str ?_
    | refine ei_list ?_
    | refine ei_tup ?_
    | refine ei_enum ?_
    | refine ei_rng1 ?_
    | refine ei_rng2 ?_
    | refine ei_rng3 ?_
    | refine ei_zip ?_
    | refine gg_name ?_
    | refine ev_int ?_
    | refine ev_str ?_
    | refine ev_bl ?_
    | refine ev_non ?_
    | refine ea_nil ?_
    | refine ea_cons ?_
    | refine ev_op ?_
    | refine ev_un ?_
    | refine ev_cb ?_
    | refine et_test ?_
    | refine et_B ?_
    | refine et_not ?_
    | refine et_truth ?_
    | refine eo_none ?_
    | refine eo_some ?_
    | refine ev_slice ?_
    | refine ev_tup ?_
    | refine ev_chain ?_
    | refine ev_lst ?_
    | refine o_add ?_
    | refine o_sub ?_
    | refine o_cmp ?_
    | refine o_cmpS ?_
    | refine o_eqS ?_
    | refine o_neS ?_
    | refine o_eqI ?_
    | refine o_neI ?_
    | refine c_int ?_
    | refine c_intB ?_
    | refine c_abs ?_
    | refine c_max2 ?_
    | refine c_min2 ?_
    | refine c_tupL ?_
    | refine c_tupT ?_
    | refine c_listL ?_
    | refine c_listT ?_
    | refine o_isN ?_
    | refine o_notN ?_
    | refine el_lst ?_)
  | ((with_reducible show Cl _ (rLenU _) [_] _); refine c_len (by intro s hs; cases hs <;> first | assumption | omega) rfl ?_)))
local macro_rules | `(tactic| walk_at "zn") => `(tactic| try simp only [List.map_cons, List.map_nil, wipeR_n, wipeR_c, List.set_cons_zero, List.set_cons_succ])
theorem spMk_len {K : PySem.W.Frag} {C : Addr} {P : List D → (List Str → List D → Prop) → Prop} {n : Nat} {vs : List V} {H : Hp} {Q : VK} {E : XK} (h : spMk K C P vs H Q E) (hP : ∀ ds Φ, P ds Φ → ds.length + 1 = n) : vs.length = n := by
  obtain ⟨x, dx, ws, ds, F, Φ, rfl, hp, _, _, _, _, _, nn, _⟩ := h
  rw [List.length_cons, ← nn.length]
  exact hP ds Φ hp
theorem noOwn {ρ : Rho} (h : ρ.all (fun s => s.ad.isNone) = true) : ∀ s ∈ ρ, s.ad = none := fun s hs => Option.isNone_iff_eq_none.mp (List.all_eq_true.mp h s hs)
theorem c_tupA {K : PySem.W.Frag} {Ψ : D → Prop} {ds : List D} {a : Bool} (h : Ψ (.tup ds)) : Cl K (rTupOf K) [if a then .tup ds else .lst ds] Ψ := by
  cases a with
  | true => exact c_tupT h
  | false => exact c_tupL h
theorem go_len {ks : List Str} : ∀ {rows : List (List Str)} {n : Nat} {seen : List Str} {acc ps : List PlaceM}, goM ks n seen acc rows = .ok ps → ps.length = acc.length + rows.length
  | [], n, seen, acc, ps, h => by
    unfold goM at h
    cases h
    rfl
  | w :: ws, n, seen, acc, ps, h => by
    unfold goM at h
    split at h
    · cases h
    · split at h
      · cases h
      · split at h
        · cases h
        · have := go_len h
          simp only [List.length_append, List.length_cons, List.length_nil] at this ⊢
          omega
theorem places_len {rows : List (List Str)} {ps : List PlaceM} (h : placesM rows = .ok ps) : ps.length = rows.length := by
  have := go_len h
  rw [this]
  exact Nat.zero_add _
section
variable {P : Program} {w : World} {K : PySem.W.Frag} {mg : Str → Option Value} {base : Heap} {A : Ad}
theorem ok_i_InvalidText (T : Txt K mg A) : FnOk P w K mg base (L2.CX P w) 1 A.a_i_InvalidText A.d_i_InvalidText ["self", "row"] (spXI A.c_InvalidText "row") := by
  refine T.F_i_InvalidText.okX sc_i_InvalidText (fun vs H Q E h => by obtain ⟨a, v, rfl, _⟩ := h; rfl) (fun cdv A' outer s H vs Q E hr h => ⟨_, (pss_one (ps_ost (pv 0) (pv 1))), ?_⟩)
  · obtain ⟨a, v, rfl, ha, k⟩ := h
    exact ⟨v, rfl, .ref a, rfl, a, A.c_InvalidText, rfl, T.x_InvalidText, T.xn_InvalidText, .inl ⟨ha, fun dx h1 h2 => k dx h1 h2⟩⟩
theorem ok_i_NoWay (T : Txt K mg A) : FnOk P w K mg base (L2.CX P w) 1 A.a_i_NoWay A.d_i_NoWay ["self", "place"] (spXI A.c_NoWay "place") := by
  refine T.F_i_NoWay.okX sc_i_NoWay (fun vs H Q E h => by obtain ⟨a, v, rfl, _⟩ := h; rfl) (fun cdv A' outer s H vs Q E hr h => ⟨_, (pss_one (ps_ost (pv 0) (pv 1))), ?_⟩)
  · obtain ⟨a, v, rfl, ha, k⟩ := h
    exact ⟨v, rfl, .ref a, rfl, a, A.c_NoWay, rfl, T.x_NoWay, T.xn_NoWay, .inl ⟨ha, fun dx h1 h2 => k dx h1 h2⟩⟩
theorem ok_init (T : Txt K mg A) : FnOk P w K mg base (L2.CX P w) 1 A.a_init A.d_init ["self", "names", "limits", "stays", "ways"] (spMk K A.c_Site PInit) := by
  refine T.F_init.okX sc_init (fun vs H Q E h => spMk_len h fun ds Φ hp => by obtain ⟨_, _, _, _, _, _, _, _, _, rfl, _⟩ := hp; rfl) (fun cdv A' outer s H vs Q E hr h => ⟨_, (pss_cons (ps_fld (pv 0) (pe_callTy call_tuple_of (by rfl) T.m_tuple (by decide +kernel) (pa_cons (pv 1) pa_nil)) rfl) (pss_cons (ps_fld (pv 0) (pe_callTy call_tuple_of (by rfl) T.m_tuple (by decide +kernel) (pa_cons (pv 2) pa_nil)) rfl) (pss_cons (ps_fld (pv 0) (pe_callTy call_tuple_of (by rfl) T.m_tuple (by decide +kernel) (pa_cons (pv 3) pa_nil)) rfl) (pss_one (ps_fld (pv 0) (pe_callTy call_tuple_of (by rfl) T.m_tuple (by decide +kernel) (pa_cons (pe_lc (own := [("row", 5)]) rfl sc_init.nd (pi_seq (K := K) rfl (pv 4)) (blkOk_by (own := [("row", 5)]) (N := N_init) (sc := (defScope s_init)) (by decide +kernel)) (fun _ _ _ _ _ => (pg_name (i := 5) sc_init.nd rfl (by first | exact Or.inl rfl | exact Or.inr rfl))) (fun _ _ _ _ _ => pts_nil) (fun _ _ _ _ _ => (pe_callTy (caK rTupOf K call_tuple_of rfl) (by rfl) T.m_tuple (by decide +kernel) (pa_cons (pv 5) pa_nil)))) pa_nil)) rfl))))), ?_⟩)
  · refine body_make (fun ds Φ hp x dx => ?_) h
    dsimp only [L2.cxOf]
    obtain ⟨ns, ls, ss, ws, rs, a, b, c, dd, rfl, hw, hws, k⟩ := hp
    refine mk_seq (mk_fld T.cl_Site T.na_Site_names rfl (by decide) ?_)
    repeat walk_at "ze"
    refine c_tupA ⟨noOwn rfl, ?_⟩
    refine mk_seq (mk_fld T.cl_Site T.na_Site_limits rfl (by decide) ?_)
    repeat walk_at "ze"
    refine c_tupA ⟨noOwn rfl, ?_⟩
    refine mk_seq (mk_fld T.cl_Site T.na_Site_stays rfl (by decide) ?_)
    repeat walk_at "ze"
    refine c_tupA ⟨noOwn rfl, ?_⟩
    refine mk_fld T.cl_Site T.na_Site_ways rfl (by decide) ?_
    repeat walk_at "ze"
    have el : rs.length = ws.length := by rcases hws with e | e <;> rw [e, List.length_map]
    cases dd <;> rcases hws with e | e
    · refine EvL.ev (el_mapF (gt_name (by decide)) rs D.lst D.tup (ei_seqL ?_))
      repeat walk_at "ze"
      refine ⟨_, rfl, e, by omega, fun r hr => ?_, ?_⟩
      · refine gg_name ?_
        repeat walk_at "ze"
        exact ⟨rfl, rfl⟩
      · repeat walk_at "ze"
        exact ⟨noOwn rfl, k⟩
    · refine EvL.ev (el_mapF (gt_name (by decide)) rs D.tup D.tup (ei_seqL ?_))
      repeat walk_at "ze"
      refine ⟨_, rfl, e, by omega, fun r hr => ?_, ?_⟩
      · refine gg_name ?_
        repeat walk_at "ze"
        exact ⟨rfl, rfl⟩
      · repeat walk_at "ze"
        exact ⟨noOwn rfl, k⟩
    · refine EvL.ev (el_mapF (gt_name (by decide)) rs D.lst D.tup (ei_seqT ?_))
      repeat walk_at "ze"
      refine ⟨_, rfl, e, by omega, fun r hr => ?_, ?_⟩
      · refine gg_name ?_
        repeat walk_at "ze"
        exact ⟨rfl, rfl⟩
      · repeat walk_at "ze"
        exact ⟨noOwn rfl, k⟩
    · refine EvL.ev (el_mapF (gt_name (by decide)) rs D.tup D.tup (ei_seqT ?_))
      repeat walk_at "ze"
      refine ⟨_, rfl, e, by omega, fun r hr => ?_, ?_⟩
      · refine gg_name ?_
        repeat walk_at "ze"
        exact ⟨rfl, rfl⟩
      · repeat walk_at "ze"
        exact ⟨noOwn rfl, k⟩
theorem ok_parse (T : Txt K mg A) (G__places_of : FnOk P w K mg base (L2.CX P w) 4 A.a__places_of A.d__places_of ["rows"] (spP K (PPlaces A.c_InvalidText))) (G_Site : FnOk P w K mg base (L2.CX P w) 1 A.a_init A.d_init ["self", "names", "limits", "stays", "ways"] (spMk K A.c_Site PInit)) (G_InvalidText : FnOk P w K mg base (L2.CX P w) 1 A.a_i_InvalidText A.d_i_InvalidText ["self", "row"] (spXI A.c_InvalidText "row")) : FnOk P w K mg base (L2.CX P w) 5 A.a_parse A.d_parse ["text"] (spP K (PParse A.c_Site A.c_InvalidText)) := by
  refine T.F_parse.okX sc_parse (fun vs H Q E h => spP_len h fun ds Φ Θ hp => by obtain ⟨_, rfl, _⟩ := hp; rfl) (fun cdv A' outer s H vs Q E hr h => ⟨_, (pss_cons (ps_if (pt_not (pt_truth (pe_callB call_isi (by rfl) T.m_isinstance (by decide +kernel) (pa_cons (pv 0) (pa_cons (pe_bltn (v := .ty "str") (u := .type "str") (by rfl) T.m_str (by decide +kernel) rfl) pa_nil))) (by intro _; rfl))) (pss_one (ps_raise rfl (takes_of rfl rfl rfl rfl) (pmk_oex T.x_InvalidText T.xi_InvalidText T.xt_InvalidText G_InvalidText (hr.mono (by decide)) T.b_i_InvalidText .nil passL rfl T.g_InvalidText (pa_cons pe_int pa_nil)))) pss_nil) (pss_cons (by first | exact (ps_setLc (i := 1) (own := [("row", 3)]) rfl sc_parse.nd rfl rfl (sw_true rfl rfl rfl (by decide +kernel)) (pi_list (pe_split (pv 0) pe_str)) (blkOk_by (own := [("row", 3)]) (N := N_parse) (sc := (defScope s_parse)) (by decide +kernel)) (fun _ _ _ _ _ => (pg_name (i := 3) sc_parse.nd rfl (by first | exact Or.inl rfl | exact Or.inr rfl))) (fun _ _ _ _ _ => pts_nil) (fun _ _ _ _ _ => (pe_split (pv 3) pe_str))) | exact (ps_set (i := 1) sc_parse.nd rfl (by first | exact Or.inl rfl | exact Or.inr rfl) (pe_lc (own := [("row", 3)]) rfl sc_parse.nd (pi_list (pe_split (pv 0) pe_str)) (blkOk_by (own := [("row", 3)]) (N := N_parse) (sc := (defScope s_parse)) (by decide +kernel)) (fun _ _ _ _ _ => (pg_name (i := 3) sc_parse.nd rfl (by first | exact Or.inl rfl | exact Or.inr rfl))) (fun _ _ _ _ _ => pts_nil) (fun _ _ _ _ _ => (pe_split (pv 3) pe_str))))) (pss_cons (ps_set (i := 2) sc_parse.nd rfl (by first | exact Or.inl rfl | exact Or.inr rfl) (pe_callSD G__places_of (hr.mono (by decide)) rfl T.g__places_of T.F__places_of.kp T.b__places_of .nil (fun σ => passAt (W := fun cls d _ H => E cls d H) (takes_of rfl rfl rfl rfl) σ) (pa_cons (pv 1) pa_nil))) (pss_one (ps_ret (pe_make T.mk_Site G_Site (hr.mono (by decide)) rfl T.g_Site T.b_init .nil passL (pa_cons (pe_lc (own := [("words", 4)]) rfl sc_parse.nd (pi_list (pv 1)) (blkOk_by (own := [("words", 4)]) (N := N_parse) (sc := (defScope s_parse)) (by decide +kernel)) (fun _ _ _ _ _ => (pg_name (i := 4) sc_parse.nd rfl (by first | exact Or.inl rfl | exact Or.inr rfl))) (fun _ _ _ _ _ => pts_nil) (fun _ _ _ _ _ => (pe_ix (ixK rIx K ix_seq rfl) (pv 4) pe_int (fun _ _ => rfl)))) (pa_cons (pe_lc (own := [("limit", 5), ("_", 6)]) rfl sc_parse.nd (pi_list (pv 2)) (blkOk_by (own := [("limit", 5), ("_", 6)]) (N := N_parse) (sc := (defScope s_parse)) (by decide +kernel)) (fun _ _ _ _ _ => (pg_tupK (K := K) (n := 3) rfl rfl (pgs_cons (pg_name (i := 5) sc_parse.nd rfl (by first | exact Or.inl rfl | exact Or.inr rfl)) (pgs_cons (pg_name (i := 6) sc_parse.nd rfl (by first | exact Or.inl rfl | exact Or.inr rfl)) (pgs_cons (pg_name (i := 6) sc_parse.nd rfl (by first | exact Or.inl rfl | exact Or.inr rfl)) pgs_nil))))) (fun _ _ _ _ _ => pts_nil) (fun _ _ _ _ _ => (pv 5))) (pa_cons (pe_lc (own := [("_", 6), ("stay", 7)]) rfl sc_parse.nd (pi_list (pv 2)) (blkOk_by (own := [("_", 6), ("stay", 7)]) (N := N_parse) (sc := (defScope s_parse)) (by decide +kernel)) (fun _ _ _ _ _ => (pg_tupK (K := K) (n := 3) rfl rfl (pgs_cons (pg_name (i := 6) sc_parse.nd rfl (by first | exact Or.inl rfl | exact Or.inr rfl)) (pgs_cons (pg_name (i := 7) sc_parse.nd rfl (by first | exact Or.inl rfl | exact Or.inr rfl)) (pgs_cons (pg_name (i := 6) sc_parse.nd rfl (by first | exact Or.inl rfl | exact Or.inr rfl)) pgs_nil))))) (fun _ _ _ _ _ => pts_nil) (fun _ _ _ _ _ => (pv 7))) (pa_cons (pe_lc (own := [("_", 6), ("ways", 8)]) rfl sc_parse.nd (pi_list (pv 2)) (blkOk_by (own := [("_", 6), ("ways", 8)]) (N := N_parse) (sc := (defScope s_parse)) (by decide +kernel)) (fun _ _ _ _ _ => (pg_tupK (K := K) (n := 3) rfl rfl (pgs_cons (pg_name (i := 6) sc_parse.nd rfl (by first | exact Or.inl rfl | exact Or.inr rfl)) (pgs_cons (pg_name (i := 6) sc_parse.nd rfl (by first | exact Or.inl rfl | exact Or.inr rfl)) (pgs_cons (pg_name (i := 8) sc_parse.nd rfl (by first | exact Or.inl rfl | exact Or.inr rfl)) pgs_nil))))) (fun _ _ _ _ _ => pts_nil) (fun _ _ _ _ _ => (pv 8))) pa_nil)))))))))), ?_⟩)
  · refine body_pure (fun ds Φ Θ hp => ?_) h
    dsimp only [L2.cxOf]
    obtain ⟨t, rfl, hf, kok, kerr⟩ := hp
    have hf1 : t.length ≤ 50000 ∧ (∀ r ∈ Txt.split t "\n", r.length ≤ 50000) ∧ fineR (rowsM t) = true := by
      unfold fineT at hf
      simp only [Bool.and_eq_true, decide_eq_true_eq, List.all_eq_true] at hf
      exact ⟨hf.1.1, hf.1.2, hf.2⟩
    obtain ⟨l1, l2, hr⟩ := hf1
    have hr1 : (rowsM t).length ≤ 1000 ∧ ∀ w ∈ rowsM t, fineW w = true := by
      unfold fineR at hr
      simp only [Bool.and_eq_true, decide_eq_true_eq, List.all_eq_true] at hr
      exact hr
    obtain ⟨hl, hw⟩ := hr1
    have hsl : (Txt.split t "\n").length = (rowsM t).length := by unfold rowsM; rw [List.length_map]
    rw [show rho0 N_parse.length [D.str t] = [.dt (.str t), .un, .un, .un, .un, .un, .un, .un, .un] from rfl]
    refine r_seq (r_when ?_)
    refine et_not (et_truth (ev_isi ?_))
    repeat walk_at "ze"
    refine ⟨_, _, rfl, rfl, fun s e => (by cases e), _, rfl, fun z => (by cases z), fun _ => ?_⟩
    refine r_seq (r_set (EvL.ev (el_mapF (gt_name (by decide)) (Txt.split t "\n") D.str (fun r => strsD (Txt.split r " ")) (ei_list ?_))))
    refine ev_split ?_
    repeat walk_at "ze"
    refine ⟨_, rfl, by omega, ?_⟩
    repeat walk_at "ze"
    refine ⟨_, rfl, by decide +kernel, _, rfl, rfl, by omega, fun r hr => ?_, ?_⟩
    · refine gg_name (ev_split ?_)
      repeat walk_at "ze"
      have := l2 r hr
      refine ⟨_, rfl, by omega, ?_⟩
      repeat walk_at "ze"
      exact ⟨_, rfl, by decide +kernel, rfl, rfl⟩
    rw [show (Txt.split t "\n").map (fun r => strsD (Txt.split r " ")) = (rowsM t).map strsD by unfold rowsM; rw [List.map_map]; rfl]
    walk_at "zn"
    refine r_seq (r_set (ev_call ?_))
    repeat walk_at "ze"
    refine ⟨fun d => ∃ ps, placesM (rowsM t) = .ok ps ∧ d = .lst (ps.map placeD), fun C fld => C = A.c_InvalidText ∧ ∃ n : Nat, placesM (rowsM t) = .error n ∧ fld = some (("row" : Str), D.int n), ⟨_, rfl, hr, fun ps e => ⟨ps, e, rfl⟩, fun n e => ⟨rfl, n, e, rfl⟩⟩, ?_, ?_⟩
    rotate_left
    · rintro C fld ⟨rfl, n, e, rfl⟩
      refine kerr n ?_
      unfold parseM
      rw [e]
    rintro _ ⟨ps, e, rfl⟩
    walk_at "zn"
    refine r_ret (ev_make ?_)
    walk_at "zn"
    refine ea_cons (EvL.ev (el_mapF (gt_name (by decide)) (rowsM t) strsD (fun w => .str (w.getD 0 "")) (ei_list ?_)))
    repeat walk_at "ze"
    refine ⟨_, rfl, rfl, by omega, fun w hm => ?_, ?_⟩
    · refine gg_name ?_
      repeat walk_at "ze"
      refine o_ixL (atI_map (atI_D (i := 0) ("" : Str) (fineW_1 (hw w hm)))) ⟨rfl, rfl⟩
    have hp := places_len e
    walk_at "zn"
    refine ea_cons (EvL.ev (el_mapF (gt_tup (gts_name (by decide) (gts_name (by decide) (gts_name (by decide) gts_nil)))) ps placeD (fun p => .int p.limit) (ei_list ?_)))
    repeat walk_at "ze"
    refine ⟨_, rfl, rfl, by omega, fun p hm => ?_, ?_⟩
    · refine gg_tup rfl (gs_cons ?_)
      refine gg_name (gs_cons ?_)
      refine gg_name (gs_cons ?_)
      refine gg_name (gs_nil ?_)
      repeat walk_at "ze"
      exact ⟨rfl, rfl⟩
    walk_at "zn"
    refine ea_cons (EvL.ev (el_mapF (gt_tup (gts_name (by decide) (gts_name (by decide) (gts_name (by decide) gts_nil)))) ps placeD (fun p => .bl p.stay) (ei_list ?_)))
    repeat walk_at "ze"
    refine ⟨_, rfl, rfl, by omega, fun p hm => ?_, ?_⟩
    · refine gg_tup rfl (gs_cons ?_)
      refine gg_name (gs_cons ?_)
      refine gg_name (gs_cons ?_)
      refine gg_name (gs_nil ?_)
      repeat walk_at "ze"
      exact ⟨rfl, rfl⟩
    walk_at "zn"
    refine ea_cons (EvL.ev (el_mapF (gt_tup (gts_name (by decide) (gts_name (by decide) (gts_name (by decide) gts_nil)))) ps placeD (fun p => .lst (p.ways.map wayD)) (ei_list ?_)))
    repeat walk_at "ze"
    refine ⟨_, rfl, rfl, by omega, fun p hm => ?_, ?_⟩
    · refine gg_tup rfl (gs_cons ?_)
      refine gg_name (gs_cons ?_)
      refine gg_name (gs_cons ?_)
      refine gg_name (gs_nil ?_)
      repeat walk_at "ze"
      exact ⟨rfl, rfl⟩
    walk_at "zn"
    refine Z.ea_nil ⟨fun ks es => ks = (["names", "limits", "stays", "ways"] : List Str) ∧ es = [.tup ((rowsM t).map fun w => .str (w.getD 0 "")), .tup (ps.map fun p => .int p.limit), .tup (ps.map fun p => .bl p.stay), .tup ((ps.map fun p => p.ways.map wayD).map D.tup)],
      ⟨(rowsM t).map fun w => .str (w.getD 0 ""), ps.map fun p => .int p.limit, ps.map fun p => .bl p.stay, ps.map fun p => .lst (p.ways.map wayD), ps.map fun p => p.ways.map wayD, false, false, false, false, rfl, by rw [List.length_map]; omega, .inl (by rw [List.map_map]; rfl), rfl, rfl⟩, ?_⟩
    rintro ks es ⟨rfl, rfl⟩
    have := kok (siteM (rowsM t) ps) (by unfold parseM; rw [e])
    have e2 : siteD A.c_Site (siteM (rowsM t) ps) = .obj A.c_Site ["names", "limits", "stays", "ways"] [.tup ((rowsM t).map fun w => .str (w.getD 0 "")), .tup (ps.map fun p => .int p.limit), .tup (ps.map fun p => .bl p.stay), .tup ((ps.map fun p => p.ways.map wayD).map D.tup)] := by
      unfold siteD siteM firstsM
      simp only [List.map_map]
      rfl
    rw [e2] at this
    exact this
end
end Lw

namespace Lw
open PySem PySem.Spec PyProof.Rows L2 Evl Z
def intS (i : Int) : Str := Str.ofString (toString i)
def wayWords (ws : List (Str × Int)) : List Str := ws.flatMap fun p => [p.1, intS p.2]
def rowWords (s : SiteM) (i : Nat) : List Str :=
  [s.names.getD i "", intS (s.limits.getD i 0)] ++ (if s.stays.getD i false then [("stay" : Str)] else []) ++ (if (s.ways.getD i []).isEmpty then [] else [("->" : Str)]) ++ wayWords (s.ways.getD i [])
def rowTextM (s : SiteM) (i : Nat) : Str := Txt.join " " (rowWords s i)
def joinOk (sep : Nat) (ws : List Str) : Bool := decide ((ws.map (·.length)).sum + ws.length * sep ≤ 100000)
def smallI (i : Int) : Bool := decide (i.natAbs.log2 < 1920)
def fineRow (s : SiteM) (i : Nat) : Bool := decide (i < s.names.length) && decide (i < s.limits.length) && decide (i < s.stays.length) && decide (i < s.ways.length) && smallI (s.limits.getD i 0) && decide ((s.ways.getD i []).length ≤ 1000) &&
  ((s.ways.getD i []).all fun p => smallI p.2) && joinOk 1 (rowWords s i)
def rowsText (s : SiteM) : List Str := (List.range s.names.length).map (rowTextM s)
def strM (s : SiteM) : Str := Txt.join "\n" (rowsText s)
def fineStr (s : SiteM) : Bool := decide (s.names.length ≤ 1000) && ((List.range s.names.length).all (fineRow s)) && joinOk 1 (rowsText s)
def PRow (C : Addr) : PP := fun ds Φ Θ => ∃ (s : SiteM) (i : Nat), ds = [siteD C s, .int i] ∧ fineRow s i = true ∧ Φ (.str (rowTextM s i))
def PStr (C : Addr) : PP := fun ds Φ Θ => ∃ s : SiteM, ds = [siteD C s] ∧ fineStr s = true ∧ Φ (.str (strM s))
def getM (x : Except Nat SiteM) : SiteM := match x with
  | .ok s => s
  | .error _ => ⟨[], [], [], []⟩
end Lw

namespace Lw
open PySem PySem.Spec PyProof.Rows L2 Evl Z
local macro_rules | `(tactic| walk_at "ze") => `(tactic| (first
  | ((with_reducible show EvS _ _ _ (tVar _) _ _); refine ev_var rfl ?_)
  | ((with_reducible show EvS _ _ _ (tOp (rIx _) (tVar _) _) _ _); refine ev_ixO rfl ?_)
  | ((with_reducible show EvS _ _ _ (tCB (rLenU _) (tCons (tVar _) tNil)) _ _); refine ev_lenO rfl ?_)
  | (with_reducible first
    | refine ei_str ?_
    | refine ei_list ?_
    | refine ei_tup ?_
    | refine ei_enum ?_
    | refine ei_rng1 ?_
    | refine ei_rng2 ?_
    | refine ei_rng3 ?_
    | refine ei_zip ?_
    | refine gg_name ?_
    | refine ev_int ?_
    | refine ev_str ?_
    | refine ev_bl ?_
    | refine ev_non ?_
    | refine ea_nil ?_
    | refine ea_cons ?_
    | refine ev_op ?_
    | refine ev_un ?_
    | refine ev_cb ?_
    | refine et_test ?_
    | refine et_B ?_
    | refine et_not ?_
    | refine et_truth ?_
    | refine eo_none ?_
    | refine eo_some ?_
    | refine ev_slice ?_
    | refine ev_tup ?_
    | refine ev_chain ?_
    | refine ev_lst ?_
    | refine o_add ?_
    | refine o_sub ?_
    | refine o_cmp ?_
    | refine o_cmpS ?_
    | refine o_eqS ?_
    | refine o_neS ?_
    | refine o_eqI ?_
    | refine o_neI ?_
    | refine c_int ?_
    | refine c_intB ?_
    | refine c_abs ?_
    | refine c_max2 ?_
    | refine c_min2 ?_
    | refine c_tupL ?_
    | refine c_tupT ?_
    | refine c_listL ?_
    | refine c_listT ?_
    | refine o_isN ?_
    | refine o_notN ?_
    | refine el_lst ?_)
  | ((with_reducible show Cl _ (rLenU _) [_] _); refine c_len (by intro s hs; cases hs <;> first | assumption | omega) rfl ?_)))
local macro_rules | `(tactic| walk_at "zn") => `(tactic| try simp only [List.map_cons, List.map_nil, wipeR_n, wipeR_c, List.set_cons_zero, List.set_cons_succ])
section
variable {P : Program} {w : World} {K : PySem.W.Frag} {mg : Str → Option Value} {base : Heap} {A : Ad}
theorem ok__row_text (T : Txt K mg A) : FnOk P w K mg base (L2.CX P w) 1 A.a__row_text A.d__row_text ["site", "number"] (spP K (PRow A.c_Site)) := by
  refine T.F__row_text.okX sc__row_text (fun vs H Q E h => spP_len h fun ds Φ Θ hp => by obtain ⟨_, _, rfl, _⟩ := hp; rfl) (fun cdv A' outer s H vs Q E hr h => ⟨_, (pss_cons (ps_set (i := 2) sc__row_text.nd rfl (by first | exact Or.inl rfl | exact Or.inr rfl) (pe_lst (pa_cons (pe_ix ix_seq (pe_fld (pv 0) rfl) (pv 1) (fun _ _ => rfl)) (pa_cons (pe_callTy call_str_int (by rfl) T.m_str (by decide +kernel) (pa_cons (pe_ix ix_seq (pe_fld (pv 0) rfl) (pv 1) (fun _ _ => rfl)) pa_nil)) pa_nil)))) (pss_cons (ps_if (pt_truth (pe_ix ix_seq (pe_fld (pv 0) rfl) (pv 1) (fun _ _ => rfl)) (by intro _; rfl)) (pss_one (ps_expr (pe_bm PySem.F.plainAttrs_list PySem.F.slot_list_append PySem.F.type_list_append mt_append (pv 2) (pa_cons pe_str pa_nil)))) pss_nil) (pss_cons (ps_if (pt_truth (pe_ix ix_seq (pe_fld (pv 0) rfl) (pv 1) (fun _ _ => rfl)) (by intro _; rfl)) (pss_one (ps_expr (pe_bm PySem.F.plainAttrs_list PySem.F.slot_list_append PySem.F.type_list_append mt_append (pv 2) (pa_cons pe_str pa_nil)))) pss_nil) (pss_cons (ps_for (passes_of rfl) rfl (pi_tup (pe_ix ix_seq (pe_fld (pv 0) rfl) (pv 1) (fun _ _ => rfl))) (pg_tupK (K := K) (n := 2) rfl rfl (pgs_cons (pg_name (i := 3) sc__row_text.nd rfl (by first | exact Or.inl rfl | exact Or.inr rfl)) (pgs_cons (pg_name (i := 4) sc__row_text.nd rfl (by first | exact Or.inl rfl | exact Or.inr rfl)) pgs_nil))) (pss_cons (ps_expr (pe_bm PySem.F.plainAttrs_list PySem.F.slot_list_append PySem.F.type_list_append mt_append (pv 2) (pa_cons (pv 3) pa_nil))) (pss_one (ps_expr (pe_bm PySem.F.plainAttrs_list PySem.F.slot_list_append PySem.F.type_list_append mt_append (pv 2) (pa_cons (pe_callTy call_str_int (by rfl) T.m_str (by decide +kernel) (pa_cons (pv 4) pa_nil)) pa_nil)))))) (pss_one (ps_ret (pe_join pe_str (pv 2)))))))), ?_⟩)
  · refine body_pure (fun ds Φ Θ hp => ?_) h
    dsimp only [L2.cxOf]
    obtain ⟨s, i, rfl, hf, k⟩ := hp
    have hf1 : i < s.names.length ∧ i < s.limits.length ∧ i < s.stays.length ∧ i < s.ways.length ∧ (s.limits.getD i 0).natAbs.log2 < 1920 ∧ (s.ways.getD i []).length ≤ 1000 ∧ (∀ p ∈ s.ways.getD i [], p.2.natAbs.log2 < 1920) ∧ joinOk 1 (rowWords s i) = true := by
      unfold fineRow smallI at hf
      simp only [Bool.and_eq_true, decide_eq_true_eq, List.all_eq_true] at hf
      obtain ⟨⟨⟨⟨⟨⟨⟨a, b⟩, c⟩, d⟩, e⟩, f⟩, g⟩, h⟩ := hf
      exact ⟨a, b, c, d, e, f, g, h⟩
    obtain ⟨l1, l2, l3, l4, q1, q2, q3, hj⟩ := hf1
    have i1 : atI (s.names.map D.str) (i : Int) = some (.str (s.names.getD i "")) := atI_map (atI_D ("" : Str) l1)
    have i2 : atI (s.limits.map D.int) (i : Int) = some (.int (s.limits.getD i 0)) := atI_map (atI_D (0 : Int) l2)
    have i3 : atI (s.stays.map D.bl) (i : Int) = some (.bl (s.stays.getD i false)) := atI_map (atI_D false l3)
    have i4 : atI (s.ways.map fun r => D.tup (r.map wayD)) (i : Int) = some (.tup ((s.ways.getD i []).map wayD)) := atI_map (f := fun r : List (Str × Int) => D.tup (r.map wayD)) (atI_D ([] : List (Str × Int)) l4)
    rw [show rho0 N__row_text.length [siteD A.c_Site s, .int i] = [.dt (siteD A.c_Site s), .dt (.int i), .un, .un, .un] from rfl]
    refine r_seq (r_setL (el_lst ?_))
    refine Z.ea_cons (ev_op (ev_fld ?_))
    repeat walk_at "ze"
    refine ⟨A.c_Site, _, _, _, rfl, T.cl_Site, T.na_Site_names, rfl, ?_⟩
    repeat walk_at "ze"
    refine o_ixT i1 ?_
    repeat walk_at "ze"
    refine ev_fld ?_
    repeat walk_at "ze"
    refine ⟨A.c_Site, _, _, _, rfl, T.cl_Site, T.na_Site_limits, rfl, ?_⟩
    repeat walk_at "ze"
    refine o_ixT i2 ?_
    repeat walk_at "ze"
    refine c_strI q1 ?_
    repeat walk_at "ze"
    refine ⟨by show 2 ≤ 100000; decide, fun q => ?_⟩
    walk_at "zn"
    refine r_cut (J := fun ρ => ρ = [.dt (siteD A.c_Site s), .dt (.int i), .ol q (([s.names.getD i "", intS (s.limits.getD i 0)] ++ (if s.stays.getD i false then [("stay" : Str)] else [])).map D.str), .un, .un]) (r_when (et_truth (ev_op (ev_fld ?_)))) ?_
    · repeat walk_at "ze"
      refine ⟨A.c_Site, _, _, _, rfl, T.cl_Site, T.na_Site_stays, rfl, ?_⟩
      repeat walk_at "ze"
      refine o_ixT i3 ?_
      refine ⟨fun s e => (by cases e), _, rfl, fun c => ?_, fun c => ?_⟩
      · refine r_app rfl (by show 2 < 100000; decide) ?_
        repeat walk_at "ze"
        refine ⟨_, rfl, by show 2 < 100000; decide, ?_⟩
        rw [if_pos c]
        rfl
      · rw [if_neg (by rw [c]; exact Bool.false_ne_true)]
        rfl
    rintro _ rfl
    refine r_cut (J := fun ρ => ρ = [.dt (siteD A.c_Site s), .dt (.int i), .ol q (([s.names.getD i "", intS (s.limits.getD i 0)] ++ (if s.stays.getD i false then [("stay" : Str)] else []) ++ (if (s.ways.getD i []).isEmpty then [] else [("->" : Str)])).map D.str), .un, .un]) (r_when (et_truth (ev_op (ev_fld ?_)))) ?_
    · repeat walk_at "ze"
      refine ⟨A.c_Site, _, _, _, rfl, T.cl_Site, T.na_Site_ways, rfl, ?_⟩
      repeat walk_at "ze"
      refine o_ixT i4 ?_
      have em : ((s.ways.getD i []).map wayD).isEmpty = (s.ways.getD i []).isEmpty := List.isEmpty_map
      have lw : ((([s.names.getD i "", intS (s.limits.getD i 0)] ++ (if s.stays.getD i false then [("stay" : Str)] else [])) : List Str).map D.str).length < 100000 := by
        rw [List.length_map, List.length_append]
        split
        · show 3 < 100000; decide
        · show 2 < 100000; decide
      refine ⟨fun s e => (by cases e), _, rfl, fun c => ?_, fun c => ?_⟩
      · refine r_app rfl lw ?_
        repeat walk_at "ze"
        refine ⟨_, rfl, lw, ?_⟩
        rw [em] at c
        rw [if_neg (show ¬ (s.ways.getD i []).isEmpty = true by cases h : (s.ways.getD i []).isEmpty with | true => rw [h] at c; cases c | false => exact Bool.false_ne_true)]
        rw [map_snoc]
        rfl
      · rw [em] at c
        rw [if_pos (show (s.ways.getD i []).isEmpty = true by cases h : (s.ways.getD i []).isEmpty with | true => rfl | false => rw [h] at c; cases c), List.append_nil]
        rfl
    rintro _ rfl
    let W2 : List Str := [s.names.getD i "", intS (s.limits.getD i 0)] ++ (if s.stays.getD i false then [("stay" : Str)] else []) ++ (if (s.ways.getD i []).isEmpty then [] else [("->" : Str)])
    have lW : W2.length ≤ 4 := by
      simp only [W2, List.length_append]
      split <;> split
      · show 3 ≤ 4; decide
      · show 4 ≤ 4; decide
      · show 2 ≤ 4; decide
      · show 3 ≤ 4; decide
    change RunS K _ _ _ [.dt (siteD A.c_Site s), .dt (.int i), .ol q (W2.map D.str), .un, .un] _
    have eW : rowWords s i = W2 ++ wayWords (s.ways.getD i []) := rfl
    generalize W2 = W at lW eW ⊢
    refine r_seq (r_for (ei_tup (ev_op (ev_fld ?_))))
    repeat walk_at "ze"
    refine ⟨A.c_Site, _, _, _, rfl, T.cl_Site, T.na_Site_ways, rfl, ?_⟩
    repeat walk_at "ze"
    refine o_ixT i4 ⟨_, rfl, fun n ρ => ∃ (s3 s4 : Slot), (s3.ad = none ∧ s4.ad = none) ∧ ρ = [.dt (siteD A.c_Site s), .dt (.int i), .ol q ((W ++ wayWords ((s.ways.getD i []).take n)).map D.str), s3, s4], ⟨.un, .un, ⟨rfl, rfl⟩, by rw [List.take_zero]; show _ = [_, _, Slot.ol q ((W ++ []).map D.str), _, _]; rw [List.append_nil]⟩, ?_, ?_⟩
    · rintro n d ρ hd ⟨s3, s4, ⟨n3, n4⟩, rfl⟩
      obtain ⟨pr, hp, rfl, hm⟩ := map_at hd
      have hn : n < (s.ways.getD i []).length := (List.getElem?_eq_some_iff.mp hp).1
      have wl : (wayWords ((s.ways.getD i []).take n)).length = 2 * n := by
        unfold wayWords
        rw [List.length_flatMap]
        have : ((s.ways.getD i []).take n).map (fun p => ([p.1, intS p.2] : List Str).length) = List.replicate n 2 := by
          rw [List.eq_replicate_iff]
          refine ⟨by rw [List.length_map, List.length_take]; omega, fun x hx => ?_⟩
          obtain ⟨y, _, rfl⟩ := List.mem_map.mp hx
          rfl
        rw [this, List.sum_replicate_nat]
        omega
      have hb : ((W ++ wayWords ((s.ways.getD i []).take n)).map D.str).length < 90000 := by
        rw [List.length_map, List.length_append, wl]
        omega
      refine gg_tup rfl (gs_cons ?_)
      refine gg_name (gs_cons ?_)
      refine gg_name (gs_nil ?_)
      refine r_seq (r_app rfl (by omega) ?_)
      repeat walk_at "ze"
      refine ⟨_, rfl, by omega, ?_⟩
      refine r_app rfl (by rw [List.length_append]; show _ + 1 < _; omega) ?_
      repeat walk_at "ze"
      refine c_strI (q3 pr hm) ?_
      repeat walk_at "ze"
      refine ⟨_, rfl, by rw [List.length_append]; show _ + 1 < _; omega, .dt (.str pr.1), .dt (.int pr.2), ⟨rfl, rfl⟩, ?_⟩
      have : wayWords ((s.ways.getD i []).take (n + 1)) = wayWords ((s.ways.getD i []).take n) ++ [pr.1, intS pr.2] := by
        unfold wayWords
        rw [List.take_add_one, hp, List.flatMap_append]
        rfl
      rw [this]
      simp only [List.map_append]
      show [_, _, Slot.ol q _, _, _] = _
      rw [List.append_assoc, List.append_assoc]
      rfl
    · rintro ρ ⟨s3, s4, _, rfl⟩
      rw [List.length_map, List.take_length, ← eW]
      refine r_ret (ev_join ?_)
      repeat walk_at "ze"
      refine ⟨_, rfl, ev_frz rfl ⟨_, rfl, ?_, k⟩⟩
      unfold joinOk at hj
      exact of_decide_eq_true hj
theorem ok_strm (T : Txt K mg A) (G__row_text : FnOk P w K mg base (L2.CX P w) 1 A.a__row_text A.d__row_text ["site", "number"] (spP K (PRow A.c_Site))) : FnOk P w K mg base (L2.CX P w) 2 A.a_strm A.d_strm ["self"] (spP K (PStr A.c_Site)) := by
  refine T.F_strm.okX sc_strm (fun vs H Q E h => spP_len h fun ds Φ Θ hp => by obtain ⟨_, rfl, _⟩ := hp; rfl) (fun cdv A' outer s H vs Q E hr h => ⟨_, (pss_one (ps_ret (pe_join pe_str (pe_lc (own := [("number", 1)]) rfl sc_strm.nd (pi_range1 (by rfl) T.m_range (pa_cons (pe_callB call_len (by rfl) T.m_len PySem.boot_len (pa_cons (pe_fld (pv 0) rfl) pa_nil)) pa_nil)) (blkOk_by (own := [("number", 1)]) (N := N_strm) (sc := (defScope s_strm)) (by decide +kernel)) (fun _ _ _ _ _ => (pg_name (i := 1) sc_strm.nd rfl (by first | exact Or.inl rfl | exact Or.inr rfl))) (fun _ _ _ _ _ => pts_nil) (fun _ _ _ _ _ => (pe_callSD G__row_text (hr.mono (by decide)) rfl T.g__row_text T.F__row_text.kp T.b__row_text .nil (fun σ => passL0) (pa_cons (pv 0) (pa_cons (pv 1) pa_nil)))))))), ?_⟩)
  · refine body_pure (fun ds Φ Θ hp => ?_) h
    dsimp only [L2.cxOf]
    obtain ⟨s, rfl, hf, k⟩ := hp
    have hf1 : s.names.length ≤ 1000 ∧ (∀ i, i < s.names.length → fineRow s i = true) ∧ joinOk 1 (rowsText s) = true := by
      unfold fineStr at hf
      simp only [Bool.and_eq_true, decide_eq_true_eq, List.all_eq_true, List.mem_range] at hf
      exact ⟨hf.1.1, hf.1.2, hf.2⟩
    obtain ⟨l1, hr, hj⟩ := hf1
    refine r_ret (ev_join ?_)
    repeat walk_at "ze"
    refine ⟨_, rfl, EvL.ev (el_mapF (gt_name (by decide)) (List.range s.names.length) (fun i => .int ((0 : Int) + (i : Nat))) (fun i => .str (rowTextM s i)) (ei_rng1 (Z.ea_cons (ev_cb (Z.ea_cons (ev_fld ?_))))))⟩
    repeat walk_at "ze"
    refine ⟨A.c_Site, _, _, _, rfl, T.cl_Site, T.na_Site_names, rfl, ?_⟩
    repeat walk_at "ze"
    rw [List.length_map]
    refine ⟨_, rfl, by omega, by omega, by rw [Int.toNat_natCast], by rw [List.length_range]; omega, fun i hi => ?_, ?_⟩
    · refine gg_name (ev_call ?_)
      repeat walk_at "ze"
      refine ⟨fun d => d = .str (rowTextM s i), noT, ⟨s, i, by rw [Int.zero_add], hr i (List.mem_range.mp hi), rfl⟩, fun d hd => ⟨hd, rfl⟩, fun _ _ z => z.elim⟩
    refine ⟨rowsText s, by unfold rowsText; rw [List.map_map]; rfl, ?_, k⟩
    unfold joinOk at hj
    exact of_decide_eq_true hj
end
end Lw

namespace Lw
open PySem PySem.Spec PyProof.Rows L2 Evl Z
def sortW (l : List (Str × Int)) : List (Str × Int) := l.mergeSort fun a b => leD (wayD a) (wayD b)
theorem sortW_map (l : List (Str × Int)) : (l.map wayD).mergeSort leD = (sortW l).map wayD := (List.map_mergeSort (f := wayD) (r := fun a b => leD (wayD a) (wayD b)) (s := leD) (fun a _ b _ => rfl)).symm
def backRaw (s : SiteM) (name : Str) (n : Nat) : List (Str × Int) := ((s.names.zip s.ways).take n).flatMap fun p => (p.2.filter fun q => q.1 == name).map fun q => (p.1, q.2)
def backM (s : SiteM) (name : Str) : List (Str × Int) := sortW (backRaw s name (s.names.zip s.ways).length)
def goT (s : SiteM) : List (List (Str × Int)) → List (Str × Bool) → Except Str (List (List (Str × Int)))
  | acc, [] => .ok acc
  | acc, p :: r => if !p.2 && (backM s p.1).isEmpty then .error p.1 else goT s (acc ++ [backM s p.1]) r
def turnedM (s : SiteM) : Except Str SiteM :=
  match goT s [] (s.names.zip s.stays) with
  | .ok ws => .ok ⟨s.names, s.limits, s.stays, ws⟩
  | .error n => .error n
def fineBack (s : SiteM) : Bool := decide (s.names.length ≤ 100) && (s.ways.all fun r => decide (r.length ≤ 100)) && s.names.all PyData.strOk
def PBack (C : Addr) : PP := fun ds Φ Θ => ∃ (s : SiteM) (name : Str), ds = [siteD C s, .str name] ∧ fineBack s = true ∧ Φ (.lst ((backM s name).map wayD))
def PTurn (C X : Addr) : PP := fun ds Φ Θ => ∃ s : SiteM, ds = [siteD C s] ∧ fineBack s = true ∧ (∀ s', turnedM s = .ok s' → Φ (siteD C s')) ∧ ∀ n, turnedM s = .error n → Θ X (some ("place", .str n))
def PWith (C : Addr) : PP := fun ds Φ Θ => ∃ (s : SiteM) (ls : List Int) (b : Bool), ds = [siteD C s, if b then .tup (ls.map .int) else .lst (ls.map .int)] ∧ s.ways.length ≤ 10000 ∧ Φ (siteD C { s with limits := ls })
def getT (x : Except Str SiteM) : SiteM := match x with
  | .ok s => s
  | .error _ => ⟨[], [], [], []⟩
def leW (a b : Str × Int) : Bool := leD (wayD a) (wayD b)
def insW (a : Str × Int) : List (Str × Int) → List (Str × Int)
  | [] => [a]
  | b :: r => if leW a b then a :: b :: r else b :: insW a r
def isort : List (Str × Int) → List (Str × Int)
  | [] => []
  | a :: r => insW a (isort r)
theorem leW_total : PySem.W.TotalLe leW := PySem.W.sortLe_total (PyProof.Rows.listOrd PyProof.Rows.itemOrd) false fun a => PySem.W.keyToks (py (wayD a))
theorem insW_at {a : Str × Int} : ∀ {l1 l2 : List (Str × Int)}, (∀ b ∈ l1, (!leW a b) = true) → (∀ b ∈ l2, leW a b = true) → insW a (l1 ++ l2) = l1 ++ a :: l2
  | [], [], _, _ => rfl
  | [], b :: r, _, h => by
    show (if leW a b then _ else _) = _
    rw [if_pos (h b List.mem_cons_self)]
    rfl
  | b :: r, l2, h, h2 => by
    show (if leW a b then _ else _) = _
    have := h b List.mem_cons_self
    rw [if_neg (by intro z; rw [z] at this; cases this), show r.append l2 = r ++ l2 from rfl, insW_at (fun c hc => h c (List.mem_cons_of_mem _ hc)) h2]
    rfl
theorem sortW_eq : ∀ l : List (Str × Int), sortW l = isort l
  | [] => by unfold sortW isort; exact List.mergeSort_nil
  | a :: r => by
    have tot : ∀ a b, (leW a b || leW b a) = true := fun a b => by rw [Bool.or_eq_true]; exact leW_total.total a b
    obtain ⟨l1, l2, h1, h2, h3⟩ := List.mergeSort_cons (le := leW) leW_total.trans tot a r
    have hs := List.pairwise_mergeSort (le := leW) leW_total.trans tot (a :: r)
    rw [h1] at hs
    have h4 := (List.pairwise_cons.mp (List.pairwise_append.mp hs).2.1).1
    show List.mergeSort (a :: r) leW = insW a (isort r)
    have e : isort r = l1 ++ l2 := by rw [← sortW_eq r]; exact h2
    rw [h1, e, insW_at (fun b hb => h3 b hb) h4]
def backI (s : SiteM) (name : Str) : List (Str × Int) := isort (backRaw s name (s.names.zip s.ways).length)
theorem backM_eq (s : SiteM) (name : Str) : backM s name = backI s name := sortW_eq _
def goI (s : SiteM) : List (List (Str × Int)) → List (Str × Bool) → Except Str (List (List (Str × Int)))
  | acc, [] => .ok acc
  | acc, p :: r => if !p.2 && (backI s p.1).isEmpty then .error p.1 else goI s (acc ++ [backI s p.1]) r
def turnedI (s : SiteM) : Except Str SiteM :=
  match goI s [] (s.names.zip s.stays) with
  | .ok ws => .ok ⟨s.names, s.limits, s.stays, ws⟩
  | .error n => .error n
theorem goT_eq (s : SiteM) : ∀ (r : List (Str × Bool)) (acc : List (List (Str × Int))), goT s acc r = goI s acc r
  | [], _ => rfl
  | p :: r, acc => by
    unfold goT goI
    rw [backM_eq, goT_eq s r]
theorem turned_eq (s : SiteM) : turnedM s = turnedI s := by
  unfold turnedM turnedI
  rw [goT_eq]
theorem alike_ways (l : List (Str × Int)) : PySem.W.AllAlike ((l.map wayD).map py) := by
  intro d hd d' hd'
  rw [List.map_map] at hd hd'
  obtain ⟨p, _, rfl⟩ := List.mem_map.mp hd
  obtain ⟨q, _, rfl⟩ := List.mem_map.mp hd'
  simp [wayD, py, pyL, PySem.W.alike, PySem.W.alikeAll]
theorem sortable_ways (l : List (Str × Int)) : PySem.W.Sortable ((l.map wayD).map py) := by
  refine .inl fun d hd => ?_
  rw [List.map_map] at hd
  obtain ⟨p, _, rfl⟩ := List.mem_map.mp hd
  exact ⟨.str p.1, [.int p.2], by simp [wayD, py, pyL]⟩
theorem c_sortW {K : PySem.W.Frag} {Ψ : D → Prop} {l : List (Str × Int)} (hok : ∀ p ∈ l, PyData.strOk p.1 = true) (h : Ψ (.lst ((sortW l).map wayD))) : Cl K (rSortD K) [.lst (l.map wayD)] Ψ :=
  c_sorted (n := 2) (by decide) (fun d hd => by
    obtain ⟨p, hp, rfl⟩ := List.mem_map.mp hd
    simp [wayD, okD, okL, hok p hp]) (alike_ways l) (sortable_ways l) (by rw [sortW_map]; exact h)
end Lw

namespace Lw
open PySem PySem.Spec PyProof.Rows L2 Evl Z
local macro_rules | `(tactic| walk_at "ze") => `(tactic| (first
  | ((with_reducible show EvS _ _ _ (tVar _) _ _); refine ev_var rfl ?_)
  | ((with_reducible show EvS _ _ _ (tOp (rIx _) (tVar _) _) _ _); refine ev_ixO rfl ?_)
  | ((with_reducible show EvS _ _ _ (tCB (rLenU _) (tCons (tVar _) tNil)) _ _); refine ev_lenO rfl ?_)
  | (with_reducible first
    | refine ei_str ?_
    | refine ei_list ?_
    | refine ei_tup ?_
    | refine ei_enum ?_
    | refine ei_rng1 ?_
    | refine ei_rng2 ?_
    | refine ei_rng3 ?_
    | refine ei_zip ?_
    | refine gg_name ?_
    | refine ev_int ?_
    | refine ev_str ?_
    | refine ev_bl ?_
    | refine ev_non ?_
    | refine ea_nil ?_
    | refine ea_cons ?_
    | refine ev_op ?_
    | refine ev_un ?_
    | refine ev_cb ?_
    | refine et_test ?_
    | refine et_B ?_
    | refine et_not ?_
    | refine et_truth ?_
    | refine eo_none ?_
    | refine eo_some ?_
    | refine ev_slice ?_
    | refine ev_tup ?_
    | refine ev_chain ?_
    | refine ev_lst ?_
    | refine o_add ?_
    | refine o_sub ?_
    | refine o_cmp ?_
    | refine o_cmpS ?_
    | refine o_eqS ?_
    | refine o_neS ?_
    | refine o_eqI ?_
    | refine o_neI ?_
    | refine c_int ?_
    | refine c_intB ?_
    | refine c_abs ?_
    | refine c_max2 ?_
    | refine c_min2 ?_
    | refine c_tupL ?_
    | refine c_tupT ?_
    | refine c_listL ?_
    | refine c_listT ?_
    | refine o_isN ?_
    | refine o_notN ?_
    | refine el_lst ?_)
  | ((with_reducible show Cl _ (rLenU _) [_] _); refine c_len (by intro s hs; cases hs <;> first | assumption | omega) rfl ?_)))
local macro_rules | `(tactic| walk_at "zn") => `(tactic| try simp only [List.map_cons, List.map_nil, wipeR_n, wipeR_c, List.set_cons_zero, List.set_cons_succ])
theorem fineBack_1 {s : SiteM} (h : fineBack s = true) : s.names.length ≤ 100 ∧ (∀ r ∈ s.ways, r.length ≤ 100) ∧ ∀ z ∈ s.names, PyData.strOk z = true := by
  unfold fineBack at h
  simp only [Bool.and_eq_true, decide_eq_true_eq, List.all_eq_true] at h
  exact ⟨h.1.1, h.1.2, h.2⟩
theorem backRaw_len {s : SiteM} {name : Str} (h : ∀ r ∈ s.ways, r.length ≤ 100) : ∀ n, (backRaw s name n).length ≤ n * 100
  | 0 => by unfold backRaw; rw [List.take_zero]; exact Nat.le_refl _
  | n + 1 => by
    have ih := backRaw_len (name := name) h n
    unfold backRaw at ih ⊢
    rw [List.take_add_one, List.flatMap_append, List.length_append]
    cases hp : (s.names.zip s.ways)[n]? with
    | none => show _ + 0 ≤ _; omega
    | some p =>
      have hm : p.2 ∈ s.ways := (List.of_mem_zip (List.mem_of_getElem? hp)).2
      have h1 := h _ hm
      have h2 := List.length_filter_le (fun q : Str × Int => q.1 == name) p.2
      simp only [Option.toList_some, List.flatMap_cons, List.flatMap_nil, List.append_nil, List.length_map]
      omega
section
variable {P : Program} {w : World} {K : PySem.W.Frag} {mg : Str → Option Value} {base : Heap} {A : Ad}
theorem ok__ways_back (T : Txt K mg A) : FnOk P w K mg base (L2.CX P w) 1 A.a__ways_back A.d__ways_back ["site", "name"] (spP K (PBack A.c_Site)) := by
  refine T.F__ways_back.okX sc__ways_back (fun vs H Q E h => spP_len h fun ds Φ Θ hp => by obtain ⟨_, _, rfl, _⟩ := hp; rfl) (fun cdv A' outer s H vs Q E hr h => ⟨_, (pss_cons (ps_set (i := 2) sc__ways_back.nd rfl (by first | exact Or.inl rfl | exact Or.inr rfl) (pe_lst pa_nil)) (pss_cons (ps_for (passes_of rfl) rfl (RZ.pi_zipA (by rfl) T.m_zip (pa_cons (pe_fld (pv 0) rfl) (pa_cons (pe_fld (pv 0) rfl) pa_nil))) (pg_tupK (K := K) (n := 2) rfl rfl (pgs_cons (pg_name (i := 3) sc__ways_back.nd rfl (by first | exact Or.inl rfl | exact Or.inr rfl)) (pgs_cons (pg_name (i := 4) sc__ways_back.nd rfl (by first | exact Or.inl rfl | exact Or.inr rfl)) pgs_nil))) (pss_one (ps_expr (pe_bm PySem.F.plainAttrs_list PySem.F.slot_list_extend PySem.F.type_list_extend mt_extend (pv 2) (pa_cons (pe_lc (own := [("end", 5), ("steps", 6)]) rfl sc__ways_back.nd (pi_tup (pv 4)) (blkOk_by (own := [("end", 5), ("steps", 6)]) (N := N__ways_back) (sc := (defScope s__ways_back)) (by decide +kernel)) (fun _ _ _ _ _ => (pg_tupK (K := K) (n := 2) rfl rfl (pgs_cons (pg_name (i := 5) sc__ways_back.nd rfl (by first | exact Or.inl rfl | exact Or.inr rfl)) (pgs_cons (pg_name (i := 6) sc__ways_back.nd rfl (by first | exact Or.inl rfl | exact Or.inr rfl)) pgs_nil)))) (fun _ _ _ _ _ => (pts_one (pt_cmpR (opK rEqU K (op_eqU hr.units) rfl) (pv 5) (pv 1) (nomark _)))) (fun _ _ _ _ _ => (pe_tup (pa_cons (pv 3) (pa_cons (pv 6) pa_nil))))) pa_nil))))) (pss_one (ps_ret (pe_callB (call_sortedD hr) (by rfl) T.m_sorted (by decide +kernel) (pa_cons (pv 2) pa_nil)))))), ?_⟩)
  · refine body_pure (fun ds Φ Θ hp => ?_) h
    dsimp only [L2.cxOf]
    obtain ⟨s, name, rfl, hf, k⟩ := hp
    obtain ⟨l1, l2, hz⟩ := fineBack_1 hf
    have lz : (s.names.zip s.ways).length ≤ 100 := by rw [List.length_zip]; omega
    rw [show rho0 N__ways_back.length [siteD A.c_Site s, .str name] = [.dt (siteD A.c_Site s), .dt (.str name), .un, .un, .un, .un, .un] from rfl]
    refine r_seq (r_setL (el_lst (Z.ea_nil ⟨by decide, fun q => ?_⟩)))
    walk_at "zn"
    refine r_seq (r_for (ei_zip (Z.ea_cons (ev_fld ?_))))
    repeat walk_at "ze"
    refine ⟨A.c_Site, _, _, _, rfl, T.cl_Site, T.na_Site_names, rfl, Z.ea_cons (ev_fld ?_)⟩
    repeat walk_at "ze"
    refine ⟨A.c_Site, _, _, _, rfl, T.cl_Site, T.na_Site_ways, rfl, Z.ea_nil ⟨_, _, .inr rfl, fun n ρ => ∃ (s3 s4 s5 s6 : Slot), (s3.ad = none ∧ s4.ad = none ∧ s5.ad = none ∧ s6.ad = none) ∧ ρ = [.dt (siteD A.c_Site s), .dt (.str name), .ol q ((backRaw s name n).map wayD), s3, s4, s5, s6], ⟨.un, .un, .un, .un, ⟨rfl, rfl, rfl, rfl⟩, rfl⟩, ?_, ?_⟩⟩
    · rintro n d ρ hd ⟨s3, s4, s5, s6, _, rfl⟩
      rw [zipD_map] at hd
      obtain ⟨p, hp, rfl, hm⟩ := map_at (gi := fun p : Str × List (Str × Int) => D.tup [.str p.1, .tup (p.2.map wayD)]) hd
      have hn : n < 100 := by
        have := (List.getElem?_eq_some_iff.mp hp).1
        omega
      have hw : p.2.length ≤ 100 := l2 _ (List.of_mem_zip hm).2
      have hb := backRaw_len (name := name) l2 n
      refine gg_tup rfl (gs_cons ?_)
      refine gg_name (gs_cons ?_)
      refine gg_name (gs_nil ?_)
      walk_at "zn"
      refine r_ext rfl (EvL.ev (el_filtF (gt_tup (gts_name (by decide) (gts_name (by decide) gts_nil))) p.2 (fun q => q.1 == name) wayD (fun q => wayD (p.1, q.2)) (ei_tup ?_)))
      repeat walk_at "ze"
      refine ⟨_, rfl, rfl, by omega, fun r hr => ?_, ?_⟩
      · refine gg_tup rfl (gs_cons ?_)
        refine gg_name (gs_cons ?_)
        refine gg_name (gs_nil ?_)
        refine et_test ?_
        repeat walk_at "ze"
        refine ⟨_, rfl, rfl, rfl, fun _ => ?_⟩
        repeat walk_at "ze"
        exact ⟨by show 2 ≤ 100000; decide, rfl, rfl⟩
      walk_at "zn"
      have h2 := List.length_filter_le (fun q : Str × Int => q.1 == name) p.2
      refine ⟨_, _, rfl, rfl, by rw [List.length_map, List.length_map]; omega, .dt (.str p.1), .dt (.tup (p.2.map wayD)), .un, .un, ⟨rfl, rfl, rfl, rfl⟩, ?_⟩
      have : backRaw s name (n + 1) = backRaw s name n ++ (p.2.filter fun q => q.1 == name).map fun q => (p.1, q.2) := by
        unfold backRaw
        rw [List.take_add_one, hp, List.flatMap_append]
        simp
      rw [this, List.map_append, List.map_map]
      rfl
    · rintro ρ ⟨s3, s4, s5, s6, _, rfl⟩
      rw [zipD_map, List.length_map]
      refine r_ret (ev_cb (Z.ea_cons (ev_frz rfl (Z.ea_nil (c_sortW (fun p hp => ?_) k)))))
      unfold backRaw at hp
      obtain ⟨r, hr, hq⟩ := List.mem_flatMap.mp hp
      obtain ⟨t, ht, rfl⟩ := List.mem_map.mp hq
      exact hz _ (List.of_mem_zip (List.mem_of_mem_take hr)).1
theorem ok_turned (T : Txt K mg A) (G_Site : FnOk P w K mg base (L2.CX P w) 1 A.a_init A.d_init ["self", "names", "limits", "stays", "ways"] (spMk K A.c_Site PInit)) (G__ways_back : FnOk P w K mg base (L2.CX P w) 1 A.a__ways_back A.d__ways_back ["site", "name"] (spP K (PBack A.c_Site))) (G_NoWay : FnOk P w K mg base (L2.CX P w) 1 A.a_i_NoWay A.d_i_NoWay ["self", "place"] (spXI A.c_NoWay "place")) : FnOk P w K mg base (L2.CX P w) 3 A.a_turned A.d_turned ["site"] (spP K (PTurn A.c_Site A.c_NoWay)) := by
  refine T.F_turned.okX sc_turned (fun vs H Q E h => spP_len h fun ds Φ Θ hp => by obtain ⟨_, rfl, _⟩ := hp; rfl) (fun cdv A' outer s H vs Q E hr h => ⟨_, (pss_cons (ps_set (i := 1) sc_turned.nd rfl (by first | exact Or.inl rfl | exact Or.inr rfl) (pe_lst pa_nil)) (pss_cons (ps_for (passes_of rfl) rfl (RZ.pi_zipA (by rfl) T.m_zip (pa_cons (pe_fld (pv 0) rfl) (pa_cons (pe_fld (pv 0) rfl) pa_nil))) (pg_tupK (K := K) (n := 2) rfl rfl (pgs_cons (pg_name (i := 2) sc_turned.nd rfl (by first | exact Or.inl rfl | exact Or.inr rfl)) (pgs_cons (pg_name (i := 3) sc_turned.nd rfl (by first | exact Or.inl rfl | exact Or.inr rfl)) pgs_nil))) (pss_cons (ps_set (i := 4) sc_turned.nd rfl (by first | exact Or.inl rfl | exact Or.inr rfl) (pe_callSD G__ways_back (hr.mono (by decide)) rfl T.g__ways_back T.F__ways_back.kp T.b__ways_back .nil (fun σ => passAt (W := fun cls d _ H => E cls d H) (takes_of rfl rfl rfl rfl) σ) (pa_cons (pv 0) (pa_cons (pv 2) pa_nil)))) (pss_cons (ps_if (PW.pt (pw_and (pt_not (pt_truth (pv 3) (by intro _; rfl))) (pw_and1 (pt_not (pt_truth (pv 4) (by intro _; rfl)))))) (pss_one (ps_raise rfl (takes_of rfl rfl rfl rfl) (pmk_oex T.x_NoWay T.xi_NoWay T.xt_NoWay G_NoWay (hr.mono (by decide)) T.b_i_NoWay .nil passL rfl T.g_NoWay (pa_cons (pv 2) pa_nil)))) pss_nil) (pss_one (ps_expr (pe_bm PySem.F.plainAttrs_list PySem.F.slot_list_append PySem.F.type_list_append mt_append (pv 1) (pa_cons (pv 4) pa_nil))))))) (pss_one (ps_ret (pe_make T.mk_Site G_Site (hr.mono (by decide)) rfl T.g_Site T.b_init .nil passL (pa_cons (pe_fld (pv 0) rfl) (pa_cons (pe_fld (pv 0) rfl) (pa_cons (pe_fld (pv 0) rfl) (pa_cons (pv 1) pa_nil))))))))), ?_⟩)
  · refine body_pure (fun ds Φ Θ hp => ?_) h
    dsimp only [L2.cxOf]
    obtain ⟨s, rfl, hf, kok, kerr⟩ := hp
    obtain ⟨l1, l2, hz⟩ := fineBack_1 hf
    have lz : (s.names.zip s.stays).length ≤ 100 := by rw [List.length_zip]; omega
    rw [show rho0 N_turned.length [siteD A.c_Site s] = [.dt (siteD A.c_Site s), .un, .un, .un, .un] from rfl]
    refine r_seq (r_setL (el_lst (Z.ea_nil ⟨by decide, fun q => ?_⟩)))
    walk_at "zn"
    refine r_seq (r_for (ei_zip (Z.ea_cons (ev_fld ?_))))
    repeat walk_at "ze"
    refine ⟨A.c_Site, _, _, _, rfl, T.cl_Site, T.na_Site_names, rfl, Z.ea_cons (ev_fld ?_)⟩
    repeat walk_at "ze"
    refine ⟨A.c_Site, _, _, _, rfl, T.cl_Site, T.na_Site_stays, rfl, Z.ea_nil ⟨_, _, .inr rfl, fun n ρ => ∃ (acc : List (List (Str × Int))) (s2 s3 s4 : Slot), (s2.ad = none ∧ s3.ad = none ∧ s4.ad = none) ∧ ρ = [.dt (siteD A.c_Site s), .ol q (acc.map fun r => .lst (r.map wayD)), s2, s3, s4] ∧
      acc.length = n ∧ goT s acc ((s.names.zip s.stays).drop n) = goT s [] (s.names.zip s.stays), ⟨[], .un, .un, .un, ⟨rfl, rfl, rfl⟩, rfl, rfl, rfl⟩, ?_, ?_⟩⟩
    · rintro n d ρ hd ⟨acc, s2, s3, s4, _, rfl, la, hgo⟩
      rw [zipD_map] at hd
      obtain ⟨p, hp, rfl, hm⟩ := map_at (gi := fun p : Str × Bool => D.tup [.str p.1, .bl p.2]) hd
      have hn : n < (s.names.zip s.stays).length := (List.getElem?_eq_some_iff.mp hp).1
      rw [List.drop_eq_getElem_cons hn, show (s.names.zip s.stays)[n] = p from (List.getElem?_eq_some_iff.mp hp).2] at hgo
      refine gg_tup rfl (gs_cons ?_)
      refine gg_name (gs_cons ?_)
      refine gg_name (gs_nil ?_)
      walk_at "zn"
      refine r_seq (r_set (ev_call ?_))
      repeat walk_at "ze"
      refine ⟨fun d => d = .lst ((backM s p.1).map wayD), noT, ⟨s, p.1, rfl, hf, rfl⟩, ?_, fun _ _ z => z.elim⟩
      rintro _ rfl
      walk_at "zn"
      have em : ((backM s p.1).map wayD).isEmpty = (backM s p.1).isEmpty := List.isEmpty_map
      refine r_cut (J := fun ρ => ρ = [.dt (siteD A.c_Site s), .ol q (acc.map fun r => .lst (r.map wayD)), .dt (.str p.1), .dt (.bl p.2), .dt (.lst ((backM s p.1).map wayD))] ∧ (!p.2 && (backM s p.1).isEmpty) = false) (r_when (et_and (et_not ?_))) ?_
      · repeat walk_at "ze"
        refine ⟨fun s e => (by cases e), _, rfl, fun c1 => et_not ?_, fun c1 => ⟨fun z => (by cases z), fun _ => ⟨rfl, by rw [c1]; rfl⟩⟩⟩
        repeat walk_at "ze"
        refine ⟨fun s e => (by cases e), _, rfl, fun c2 => r_raise ?_, fun c2 => ⟨rfl, ?_⟩⟩
        · repeat walk_at "ze"
          refine ⟨_, rfl, kerr p.1 ?_⟩
          have c2 : (backM s p.1).isEmpty = true := by
            rw [em] at c2
            simpa using c2
          unfold turnedM
          rw [← hgo]
          unfold goT
          rw [c1, c2]
          rfl
        · rw [em] at c2
          have c2 : (backM s p.1).isEmpty = false := by simpa using c2
          rw [c2, Bool.and_false]
      rintro _ ⟨rfl, hc⟩
      refine r_app rfl (by rw [List.length_map]; omega) ?_
      repeat walk_at "ze"
      refine ⟨_, rfl, by rw [List.length_map]; omega, acc ++ [backM s p.1], .dt (.str p.1), .dt (.bl p.2), .dt (.lst ((backM s p.1).map wayD)), ⟨rfl, rfl, rfl⟩, ?_, by rw [List.length_append, la]; rfl, ?_⟩
      · rw [List.map_append]
        rfl
      · rw [← hgo]
        conv => rhs; unfold goT
        rw [hc]
        rfl
    · rintro ρ ⟨acc, s2, s3, s4, _, rfl, la, hgo⟩
      rw [zipD_map, List.length_map, List.drop_length] at hgo
      rw [zipD_map, List.length_map] at la
      refine r_ret (ev_make (Z.ea_cons (ev_fld ?_)))
      repeat walk_at "ze"
      refine ⟨A.c_Site, _, _, _, rfl, T.cl_Site, T.na_Site_names, rfl, Z.ea_cons (ev_fld ?_)⟩
      repeat walk_at "ze"
      refine ⟨A.c_Site, _, _, _, rfl, T.cl_Site, T.na_Site_limits, rfl, Z.ea_cons (ev_fld ?_)⟩
      repeat walk_at "ze"
      refine ⟨A.c_Site, _, _, _, rfl, T.cl_Site, T.na_Site_stays, rfl, Z.ea_cons (ev_frz rfl (Z.ea_nil ?_))⟩
      refine ⟨fun ks es => ks = (["names", "limits", "stays", "ways"] : List Str) ∧ es = [.tup (s.names.map .str), .tup (s.limits.map .int), .tup (s.stays.map .bl), .tup ((acc.map fun r => r.map wayD).map D.tup)],
        ⟨s.names.map .str, s.limits.map .int, s.stays.map .bl, acc.map fun r => .lst (r.map wayD), acc.map fun r => r.map wayD, true, true, true, false, rfl, by rw [List.length_map]; omega, .inl (by rw [List.map_map]; rfl), rfl, rfl⟩, ?_⟩
      rintro ks es ⟨rfl, rfl⟩
      have := kok ⟨s.names, s.limits, s.stays, acc⟩ (by unfold turnedM; rw [← hgo]; rfl)
      unfold siteD at this
      rw [List.map_map]
      exact this
theorem ok_with_limits (T : Txt K mg A) (G_Site : FnOk P w K mg base (L2.CX P w) 1 A.a_init A.d_init ["self", "names", "limits", "stays", "ways"] (spMk K A.c_Site PInit)) : FnOk P w K mg base (L2.CX P w) 3 A.a_with_limits A.d_with_limits ["site", "limits"] (spP K (PWith A.c_Site)) := by
  refine T.F_with_limits.okX sc_with_limits (fun vs H Q E h => spP_len h fun ds Φ Θ hp => by obtain ⟨_, _, _, rfl, _⟩ := hp; rfl) (fun cdv A' outer s H vs Q E hr h => ⟨_, (pss_one (ps_ret (pe_make T.mk_Site G_Site (hr.mono (by decide)) rfl T.g_Site T.b_init .nil passL (pa_cons (pe_fld (pv 0) rfl) (pa_cons (pv 1) (pa_cons (pe_fld (pv 0) rfl) (pa_cons (pe_fld (pv 0) rfl) pa_nil))))))), ?_⟩)
  · refine body_pure (fun ds Φ Θ hp => ?_) h
    dsimp only [L2.cxOf]
    obtain ⟨s, ls, b, rfl, hl, k⟩ := hp
    rw [show rho0 N_with_limits.length [siteD A.c_Site s, if b then .tup (ls.map .int) else .lst (ls.map .int)] = [.dt (siteD A.c_Site s), .dt (if b then .tup (ls.map .int) else .lst (ls.map .int))] from rfl]
    refine r_ret (ev_make (Z.ea_cons (ev_fld ?_)))
    repeat walk_at "ze"
    refine ⟨A.c_Site, _, _, _, rfl, T.cl_Site, T.na_Site_names, rfl, ?_⟩
    repeat walk_at "ze"
    refine ev_fld ?_
    repeat walk_at "ze"
    refine ⟨A.c_Site, _, _, _, rfl, T.cl_Site, T.na_Site_stays, rfl, Z.ea_cons (ev_fld ?_)⟩
    repeat walk_at "ze"
    refine ⟨A.c_Site, _, _, _, rfl, T.cl_Site, T.na_Site_ways, rfl, Z.ea_nil ?_⟩
    refine ⟨fun ks es => ks = (["names", "limits", "stays", "ways"] : List Str) ∧ es = [.tup (s.names.map .str), .tup (ls.map .int), .tup (s.stays.map .bl), .tup ((s.ways.map fun r => r.map wayD).map D.tup)],
      ⟨s.names.map .str, ls.map .int, s.stays.map .bl, s.ways.map fun r => .tup (r.map wayD), s.ways.map fun r => r.map wayD, true, b, true, true, rfl, by rw [List.length_map]; omega, .inr (by rw [List.map_map]; rfl), rfl, rfl⟩, ?_⟩
    rintro ks es ⟨rfl, rfl⟩
    unfold siteD at k
    rw [List.map_map]
    exact k
end
end Lw

namespace Lw
open PySem PySem.Spec PyProof.Rows L2 Evl Z
local macro_rules | `(tactic| walk_at "ze") => `(tactic| (first
  | ((with_reducible show EvS _ _ _ (tVar _) _ _); refine ev_var rfl ?_)
  | ((with_reducible show EvS _ _ _ (tOp (rIx _) (tVar _) _) _ _); refine ev_ixO rfl ?_)
  | ((with_reducible show EvS _ _ _ (tCB (rLenU _) (tCons (tVar _) tNil)) _ _); refine ev_lenO rfl ?_)
  | (with_reducible first
    | refine ei_str ?_
    | refine ei_list ?_
    | refine ei_tup ?_
    | refine ei_enum ?_
    | refine ei_rng1 ?_
    | refine ei_rng2 ?_
    | refine ei_rng3 ?_
    | refine ei_zip ?_
    | refine gg_name ?_
    | refine ev_int ?_
    | refine ev_str ?_
    | refine ev_bl ?_
    | refine ev_non ?_
    | refine ea_nil ?_
    | refine ea_cons ?_
    | refine ev_op ?_
    | refine ev_un ?_
    | refine ev_cb ?_
    | refine et_test ?_
    | refine et_B ?_
    | refine et_not ?_
    | refine et_truth ?_
    | refine eo_none ?_
    | refine eo_some ?_
    | refine ev_slice ?_
    | refine ev_tup ?_
    | refine ev_chain ?_
    | refine ev_lst ?_
    | refine o_add ?_
    | refine o_sub ?_
    | refine o_cmp ?_
    | refine o_cmpS ?_
    | refine o_eqS ?_
    | refine o_neS ?_
    | refine o_eqI ?_
    | refine o_neI ?_
    | refine c_int ?_
    | refine c_intB ?_
    | refine c_abs ?_
    | refine c_max2 ?_
    | refine c_min2 ?_
    | refine c_tupL ?_
    | refine c_tupT ?_
    | refine c_listL ?_
    | refine c_listT ?_
    | refine o_isN ?_
    | refine o_notN ?_
    | refine el_lst ?_)
  | ((with_reducible show Cl _ (rLenU _) [_] _); refine c_len (by intro s hs; cases hs <;> first | assumption | omega) rfl ?_)))
local macro_rules | `(tactic| walk_at "zn") => `(tactic| try simp only [List.map_cons, List.map_nil, wipeR_n, wipeR_c, List.set_cons_zero, List.set_cons_succ])
def saidM (t : Str) : Int := match parseM t with
  | .ok _ => -1
  | .error n => (n : Nat)
def PSaid : PP := fun ds Φ Θ => ∃ t : Str, ds = [.str t] ∧ fineT t = true ∧ Φ (.int (saidM t))
def backD (x : Except Str SiteM) : D := match x with
  | .ok _ => .non
  | .error n => .str n
def PLBack (C : Addr) : PP := fun ds Φ Θ => ∃ s : SiteM, ds = [siteD C s] ∧ fineBack s = true ∧ Φ (backD (turnedM s))
def dueD (p : Str × Int) : D := .tup [.str p.1, .int p.2]
def rowsL : List (Str × Int) := [(("a 0 stay" : Str), -1), (("a 9 stay" : Str), -1), (("a 10 stay" : Str), 0), (("a 0" : Str), 0), (("a" : Str), 0), (("a stay" : Str), 0), (("a 1 -> b 1" : Str), 0), (("a 1 -> b 1\nb 1 stay" : Str), -1), (("a 1 -> b 1\nb 1" : Str), 1), (("a 1 -> a 1" : Str), 0), (("a 1 stay -> a 1" : Str), 0), (("a 1 -> b 0\nb 1 stay" : Str), 0), (("a 1 -> b 3\nb 1 stay" : Str), -1), (("a 1 -> b 4\nb 1 stay" : Str), 0), (("a 1 -> c 1 b 1\nb 1 stay\nc 1 stay" : Str), 0), (("a 1 -> b 1 c 1\nb 1 stay\nc 1 stay" : Str), -1), (("a 1 -> b 1 b 2\nb 1 stay" : Str), 0), (("a 1 -> b\nb 1 stay" : Str), 0), (("a 1 ->\nb 1 stay" : Str), 0), (("a 1 stay ->\nb 1 stay" : Str), 0), (("a 1 stay stay" : Str), 0), (("stay 1 stay" : Str), -1), (("stay 1 -> a 1\na 1 stay" : Str), -1), (("a 1 -> stay 1\nstay 1 stay" : Str), -1), (("a 1 stay -> stay 1\nstay 1 stay -> a 2" : Str), -1), (("stay stay stay" : Str), 0), (("a 1 stay\na 1 stay" : Str), 1), (("a 1 stay\nb 1 stay\na 2 stay" : Str), 2), (("a 1 stay\n" : Str), 1), (("\na 1 stay" : Str), 0), (("a  1 stay" : Str), 0), ((" a 1 stay" : Str), 0), (("a 1 stay " : Str), 0), (("a 01 stay" : Str), 0), (("a -1 stay" : Str), 0), (("A 1 stay" : Str), 0), (("abcdefgh 1 stay" : Str), -1), (("abcdefghi 1 stay" : Str), 0), (("a1 1 stay" : Str), 0), (("a\t1 stay" : Str), 0), (("a 1 -> b 01\nb 1 stay" : Str), 0), (("a +1 stay" : Str), 0), (("a 1 -> b +1\nb 1 stay" : Str), 0), (("a 1_ stay" : Str), 0)]
def PRows : PP := fun ds Φ Θ => ds = [] ∧ Φ (.lst (rowsL.map dueD))
def sixM : Str := Txt.join "\n" (("abcdef" : Str).cps.toList.map fun c => (⟨#[c]⟩ : Str) ++ (" 1 stay" : Str))
def farM : Str := Txt.join "\n" (("bcdef" : Str).cps.toList.map fun c => (⟨#[c]⟩ : Str) ++ (" 1 stay" : Str))
def moreL : List (Str × Int) := [(sixM, -1), (sixM ++ ("\ng 1 stay" : Str), 6), (sixM ++ ("\n" : Str), 6), (sixM ++ ("\na 1 stay" : Str), 6), (("a 1 -> g 1\n" : Str) ++ farM, 0), (("a 1 -> g 1\n" : Str) ++ farM ++ ("\ng" : Str), 6), (("a 1 -> b 1\nb" : Str), 1), (("a 1 -> b 1\nb x" : Str), 1), (("a 1 -> b 1\nc 1 stay\nb" : Str), 2)]
def PMore : PP := fun ds Φ Θ => ds = [] ∧ Φ (.lst (moreL.map dueD))
theorem rows_ok : (rowsL ++ moreL).all (fun p => fineT p.1 && saidM p.1 == p.2) = true := by decide +kernel
theorem o_neg {K : PySem.W.Frag} {Ψ : D → Prop} {i : Int} (h : Ψ (.int (-i))) : Op1 K (rU fun i => .int (-i)) (.int i) Ψ := fun F H v Q e n q => ⟨i, dn_int.mp n, q _ _ F H h (Grow.refl e) (dn_int.mpr rfl)⟩
section
variable {P : Program} {w : World} {K : PySem.W.Frag} {mg : Str → Option Value} {base : Heap} {A : Ad}
theorem ok__law_said (T : Txt K mg A) (G_parse : FnOk P w K mg base (L2.CX P w) 5 A.a_parse A.d_parse ["text"] (spP K (PParse A.c_Site A.c_InvalidText))) : FnOk P w K mg base (L2.CX P w) 6 A.a__law_said A.d__law_said ["text"] (spP K PSaid) := by
  refine T.F__law_said.okX sc__law_said (fun vs H Q E h => spP_len h fun ds Φ Θ hp => by obtain ⟨_, rfl, _⟩ := hp; rfl) (fun cdv A' outer s H vs Q E hr h => ⟨_, (pss_cons (ps_set (i := 1) sc__law_said.nd rfl (by first | exact Or.inl rfl | exact Or.inr rfl) (pe_un un_neg pe_int)) (pss_cons (ps_try_as (i := 2) rfl rfl sc__law_said.nd rfl rfl ⟨rfl, by decide, Or.inl T.g_InvalidText⟩ (takes_of rfl rfl rfl rfl) (fun W pn xe tk h_po => (pss_one (ps_expr (pe_static T.st_parse G_parse (hr.mono (by decide)) (pe_glob (v := .ref A.c_Site) rfl T.g_Site rfl) T.b_parse (fun σ => passAt tk σ) (pa_cons (pv 0) pa_nil))))) (fun a oe cls d pn hz hf => (pss_one (ps_set (i := 1) sc__law_said.nd rfl (by first | exact Or.inl rfl | exact Or.inr rfl) (pe_xf T.xf_InvalidText T.xn_InvalidText hz hf (pv 2) rfl))))) (pss_one (ps_ret (pv 1))))), ?_⟩)
  · refine body_pure (fun ds Φ Θ hp => ?_) h
    dsimp only [L2.cxOf]
    obtain ⟨t, rfl, hf, k⟩ := hp
    rw [show rho0 N__law_said.length [.str t] = [.dt (.str t), .un, .un] from rfl]
    refine r_seq (r_set ?_)
    repeat walk_at "ze"
    refine o_neg ?_
    walk_at "zn"
    refine r_cut (J := fun ρ => ∃ s, ρ = [.dt (.str t), .dt (.int (saidM t)), s]) (r_tryF (i := 2) (j := 1) (tb := fun W => tDrop (tStat A.c_Site (spP K (PParse A.c_Site A.c_InvalidText)) (WE W) (tC (.ref A.c_Site)) (tCons (tVar 0) tNil))) (c := .ref A.c_InvalidText) (Wout := fun cls d x H => E cls d H) (E := fun _ => E) (C := A.c_InvalidText) (f := "row") (Ξ1 := fun C fld ρ => C = A.c_InvalidText ∧ (∃ n : Nat, parseM t = .error n ∧ fld = some (("row" : Str), D.int n)) ∧ ρ = [.dt (.str t), .dt (.int (-1)), .un]) (fun _ _ _ _ => rfl) (by decide) (fun W => ?_) ?_) ?_
    · refine r_drop (ev_stat ?_)
      repeat walk_at "ze"
      refine ⟨fun _ => ∃ s, parseM t = .ok s, fun C fld => C = A.c_InvalidText ∧ ∃ n : Nat, parseM t = .error n ∧ fld = some (("row" : Str), D.int n), ⟨t, rfl, hf, fun s e => ⟨s, e⟩, fun n e => ⟨rfl, n, e, rfl⟩⟩, ?_, fun C fld z => ⟨z.1, z.2, rfl⟩⟩
      rintro d ⟨s, e⟩
      refine ⟨.un, ?_⟩
      unfold saidM
      rw [e]
    · rintro C fld ρ ⟨rfl, ⟨n, e, rfl⟩, rfl⟩
      refine ⟨true, T.xe_InvalidText_InvalidText, fun _ => ⟨rfl, (by show 2 < 3; decide), _, rfl, .un, ?_⟩, fun z => (by cases z)⟩
      unfold saidM
      rw [e]
      rfl
    · rintro _ ⟨s, rfl⟩
      exact r_ret (ev_var rfl k)
theorem ok__law_back (T : Txt K mg A) (G_turned : FnOk P w K mg base (L2.CX P w) 3 A.a_turned A.d_turned ["site"] (spP K (PTurn A.c_Site A.c_NoWay))) : FnOk P w K mg base (L2.CX P w) 4 A.a__law_back A.d__law_back ["site"] (spP K (PLBack A.c_Site)) := by
  refine T.F__law_back.okX sc__law_back (fun vs H Q E h => spP_len h fun ds Φ Θ hp => by obtain ⟨_, rfl, _⟩ := hp; rfl) (fun cdv A' outer s H vs Q E hr h => ⟨_, (pss_cons (ps_set (i := 1) sc__law_back.nd rfl (by first | exact Or.inl rfl | exact Or.inr rfl) pe_non) (pss_cons (ps_try_as (i := 2) rfl rfl sc__law_back.nd rfl rfl ⟨rfl, by decide, Or.inl T.g_NoWay⟩ (takes_of rfl rfl rfl rfl) (fun W pn xe tk h_po => (pss_one (ps_expr (pe_callSD G_turned (hr.mono (by decide)) rfl T.g_turned T.F_turned.kp T.b_turned .nil (fun σ => passAt tk σ) (pa_cons (pv 0) pa_nil))))) (fun a oe cls d pn hz hf => (pss_one (ps_set (i := 1) sc__law_back.nd rfl (by first | exact Or.inl rfl | exact Or.inr rfl) (pe_xf T.xf_NoWay T.xn_NoWay hz hf (pv 2) rfl))))) (pss_one (ps_ret (pv 1))))), ?_⟩)
  · refine body_pure (fun ds Φ Θ hp => ?_) h
    dsimp only [L2.cxOf]
    obtain ⟨s, rfl, hf, k⟩ := hp
    rw [show rho0 N__law_back.length [siteD A.c_Site s] = [.dt (siteD A.c_Site s), .un, .un] from rfl]
    refine r_seq (r_set ?_)
    repeat walk_at "ze"
    walk_at "zn"
    refine r_cut (J := fun ρ => ∃ t, ρ = [.dt (siteD A.c_Site s), .dt (backD (turnedM s)), t]) (r_tryF (i := 2) (j := 1) (tb := fun W => tDrop (tCallSD (spP K (PTurn A.c_Site A.c_NoWay)) [] (WE W) (tCons (tVar 0) tNil))) (c := .ref A.c_NoWay) (Wout := fun cls d x H => E cls d H) (E := fun _ => E) (C := A.c_NoWay) (f := "place") (Ξ1 := fun C fld ρ => C = A.c_NoWay ∧ (∃ n : Str, turnedM s = .error n ∧ fld = some (("place" : Str), D.str n)) ∧ ρ = [.dt (siteD A.c_Site s), .dt .non, .un]) (fun _ _ _ _ => rfl) (by decide) (fun W => ?_) ?_) ?_
    · refine r_drop (ev_call ?_)
      repeat walk_at "ze"
      refine ⟨fun _ => ∃ s', turnedM s = .ok s', fun C fld => C = A.c_NoWay ∧ ∃ n : Str, turnedM s = .error n ∧ fld = some (("place" : Str), D.str n), ⟨s, rfl, hf, fun s' e => ⟨s', e⟩, fun n e => ⟨rfl, n, e, rfl⟩⟩, ?_, fun C fld z => ⟨z.1, z.2, rfl⟩⟩
      rintro d ⟨s', e⟩
      refine ⟨.un, ?_⟩
      rw [e]
      rfl
    · rintro C fld ρ ⟨rfl, ⟨n, e, rfl⟩, rfl⟩
      refine ⟨true, T.xe_NoWay_NoWay, fun _ => ⟨rfl, (by show 2 < 3; decide), _, rfl, .un, ?_⟩, fun z => (by cases z)⟩
      rw [e]
      rfl
    · rintro _ ⟨t, rfl⟩
      exact r_ret (ev_var rfl k)
end
end Lw

namespace Lw
open PySem PySem.Spec PyProof.Rows L2 Evl Z
theorem sr31 : sliceRange (sliceBounds (some 1) none (some 2) 3).1 (sliceBounds (some 1) none (some 2) 3).2.1 (sliceBounds (some 1) none (some 2) 3).2.2 = [1] := by decide +kernel
theorem sr32 : sliceRange (sliceBounds (some 2) none (some 2) 3).1 (sliceBounds (some 2) none (some 2) 3).2.1 (sliceBounds (some 2) none (some 2) 3).2.2 = [2] := by decide +kernel
theorem step3_1 (a b c : Str) : stepPick [a, b, c] 1 2 = [b] := by
  show (sliceRange (sliceBounds (some 1) none (some 2) 3).1 (sliceBounds (some 1) none (some 2) 3).2.1 (sliceBounds (some 1) none (some 2) 3).2.2).filterMap (([a, b, c] : List Str)[·]?) = _
  rw [sr31]
  rfl
theorem step3_2 (a b c : Str) : stepPick [a, b, c] 2 2 = [c] := by
  show (sliceRange (sliceBounds (some 2) none (some 2) 3).1 (sliceBounds (some 2) none (some 2) 3).2.1 (sliceBounds (some 2) none (some 2) 3).2.2).filterMap (([a, b, c] : List Str)[·]?) = _
  rw [sr32]
  rfl
theorem hb3 : ((("->" : Str) != "->") || decide ((3 : Nat) < 3) || (3 : Nat) % 2 == 0) = false := by decide +kernel
theorem keys2 {a b : Str} (h : ¬ b = a) : keysOf [a, b] = [a, b] := by
  simp [keysOf, addK, h]
theorem are1 {name e : Str} {d : Str} {ks : List Str} (h1 : (e != name) = true) (h2 : ks.contains e = true) (h3 : isNameM e = true) (h4 : stepWords.contains d = true) : areWaysM name [("->" : Str), e, d] ks = true := by
  unfold areWaysM
  have hb : ((([("->" : Str), e, d]).headD "" != "->") || decide (([("->" : Str), e, d]).length < 3) || ([("->" : Str), e, d] : List Str).length % 2 == 0) = false := hb3
  rw [step3_1, step3_2, hb]
  show ((e != name && ks.contains e && isNameM e) && true && true && (stepWords.contains d && true)) = true
  rw [h1, h2, h3, h4]
  rfl
theorem ways3 (a e d : Str) : waysM [a, e, d] = [(e, digitM d)] := by
  show (List.range (3 / 2)).map _ = _
  rw [show List.range (3 / 2) = [0] by decide]
  rfl
theorem ways0 : waysM [] = [] := by
  show (List.range (0 / 2)).map _ = _
  rw [show List.range (0 / 2) = [] by decide]
  rfl
theorem placeA {name l e d : Str} {ks : List Str} (hn : isNameM name = true) (hl : limitWords.contains l = true) (h1 : (e != name) = true) (h2 : ks.contains e = true) (h3 : isNameM e = true) (h4 : stepWords.contains d = true) :
    placeM [name, l, ("->" : Str), e, d] ks = some ⟨digitM l, false, [(e, digitM d)]⟩ := by
  have hr : restM [name, l, ("->" : Str), e, d] = [("->" : Str), e, d] := by
    unfold restM
    rw [if_neg (by show ¬ (("->" : Str) == "stay") = true; decide +kernel)]
    rfl
  unfold placeM
  rw [hr]
  have e1 : (decide (([name, l, ("->" : Str), e, d]).length < 3) || !isNameM (([name, l, ("->" : Str), e, d]).getD 0 "") || !limitWords.contains (([name, l, ("->" : Str), e, d]).getD 1 "")) = false := by
    show (false || !isNameM name || !limitWords.contains l) = false
    rw [hn, hl]
    rfl
  have e2 : (!([("->" : Str), e, d] : List Str).isEmpty && !areWaysM (([name, l, ("->" : Str), e, d]).getD 0 "") [("->" : Str), e, d] ks) = false := by
    show (true && !areWaysM name [("->" : Str), e, d] ks) = false
    rw [are1 h1 h2 h3 h4]
    rfl
  rw [e1, e2]
  have e3 : ((([name, l, ("->" : Str), e, d]).getD 2 "") == "stay") = false := by
    show (("->" : Str) == "stay") = false
    decide +kernel
  rw [e3, ways3]
  rfl
theorem placeB {name l e d : Str} {ks : List Str} (hn : isNameM name = true) (hl : limitWords.contains l = true) (h1 : (e != name) = true) (h2 : ks.contains e = true) (h3 : isNameM e = true) (h4 : stepWords.contains d = true) :
    placeM [name, l, ("stay" : Str), ("->" : Str), e, d] ks = some ⟨digitM l, true, [(e, digitM d)]⟩ := by
  have hr : restM [name, l, ("stay" : Str), ("->" : Str), e, d] = [("->" : Str), e, d] := by
    unfold restM
    rw [if_pos (by show (("stay" : Str) == "stay") = true; decide +kernel)]
    rfl
  unfold placeM
  rw [hr]
  have e1 : (decide (([name, l, ("stay" : Str), ("->" : Str), e, d]).length < 3) || !isNameM (([name, l, ("stay" : Str), ("->" : Str), e, d]).getD 0 "") || !limitWords.contains (([name, l, ("stay" : Str), ("->" : Str), e, d]).getD 1 "")) = false := by
    show (false || !isNameM name || !limitWords.contains l) = false
    rw [hn, hl]
    rfl
  have e2 : (!([("->" : Str), e, d] : List Str).isEmpty && !areWaysM (([name, l, ("stay" : Str), ("->" : Str), e, d]).getD 0 "") [("->" : Str), e, d] ks) = false := by
    show (true && !areWaysM name [("->" : Str), e, d] ks) = false
    rw [are1 h1 h2 h3 h4]
    rfl
  rw [e1, e2]
  have e3 : ((([name, l, ("stay" : Str), ("->" : Str), e, d]).getD 2 "") == "stay") = true := by
    show (("stay" : Str) == "stay") = true
    decide +kernel
  rw [e3, ways3]
  rfl
theorem placeC {name l : Str} {ks : List Str} (hn : isNameM name = true) (hl : limitWords.contains l = true) :
    placeM [name, l, "stay"] ks = some ⟨digitM l, true, []⟩ := by
  have hr : restM [name, l, "stay"] = [] := by
    unfold restM
    rw [if_pos (by show (("stay" : Str) == "stay") = true; decide +kernel)]
    rfl
  unfold placeM
  rw [hr]
  have e1 : (decide (([name, l, "stay"] : List Str).length < 3) || !isNameM (([name, l, "stay"] : List Str).getD 0 "") || !limitWords.contains (([name, l, "stay"] : List Str).getD 1 "")) = false := by
    show (false || !isNameM name || !limitWords.contains l) = false
    rw [hn, hl]
    rfl
  rw [e1]
  have e3 : ((([name, l, "stay"] : List Str).getD 2 "") == "stay") = true := by
    show (("stay" : Str) == "stay") = true
    decide +kernel
  rw [e3, ways0]
  rfl
end Lw

namespace Lw
open PySem PySem.Spec PyProof.Rows L2 Evl Z
theorem notin_joinL {c : Nat} {S : List Nat} (hS : c ∉ S) : ∀ {ps : List (List Nat)}, (∀ p ∈ ps, c ∉ p) → c ∉ TL.joinL S ps
  | [], _ => by simp [TL.joinL]
  | [p], h => by simpa [TL.joinL] using h p
  | p :: q :: r, h => by
    have ih := notin_joinL (c := c) hS (ps := q :: r) fun x hx => h x (List.mem_cons_of_mem _ hx)
    show c ∉ p ++ (S ++ TL.joinL S (q :: r))
    simp only [List.mem_append, not_or]
    exact ⟨h p List.mem_cons_self, hS, ih⟩
theorem tl_sp : TL.tl (" " : Str) = [32] := by decide +kernel
theorem tl_nl : TL.tl ("\n" : Str) = [10] := by decide +kernel
theorem tlj (y : Str) (ps : List Str) : TL.tl (Txt.join y ps) = TL.joinL (TL.tl y) (ps.map TL.tl) := by rw [TL.join_eq, TL.tl_join]
def clean (w : Str) : Bool := (TL.tl w).all fun c => c != 32 && c != 10
theorem rowsM_join {rows : List (List Str)} (h0 : rows ≠ []) (h1 : ∀ r ∈ rows, r ≠ []) (h2 : ∀ r ∈ rows, ∀ w ∈ r, clean w = true) : rowsM (Txt.join "\n" (rows.map (Txt.join " "))) = rows := by
  have hc : ∀ r ∈ rows, ∀ w ∈ r, 32 ∉ TL.tl w ∧ 10 ∉ TL.tl w := fun r hr w hw => by
    have := List.all_eq_true.mp (h2 r hr w hw)
    exact ⟨fun z => by simpa using this 32 z, fun z => by simpa using this 10 z⟩
  unfold rowsM
  rw [TL.split_join (y := "\n") (s := 10) (S := []) tl_nl (by decide +kernel) (fun e => h0 (List.map_eq_nil_iff.mp e)) (fun p hp => by
    obtain ⟨r, hr, rfl⟩ := List.mem_map.mp hp
    rw [tlj, tl_sp]
    exact notin_joinL (by decide) fun x hx => by
      obtain ⟨w, hw, rfl⟩ := List.mem_map.mp hx
      exact (hc r hr w hw).2)]
  rw [List.map_map]
  conv => rhs; rw [← List.map_id rows]
  refine List.map_congr_left fun r hr => ?_
  exact TL.split_join (y := " ") (s := 32) (S := []) tl_sp (by decide +kernel) (h1 r hr) fun w hw => (hc r hr w hw).1
theorem split_nl {rows : List (List Str)} (h0 : rows ≠ []) (h2 : ∀ r ∈ rows, ∀ w ∈ r, clean w = true) : Txt.split (Txt.join "\n" (rows.map (Txt.join " "))) "\n" = rows.map (Txt.join " ") := by
  refine TL.split_join (y := "\n") (s := 10) (S := []) tl_nl (by decide +kernel) (fun e => h0 (List.map_eq_nil_iff.mp e)) fun p hp => ?_
  obtain ⟨r, hr, rfl⟩ := List.mem_map.mp hp
  rw [tlj, tl_sp]
  refine notin_joinL (by decide) fun x hx => ?_
  obtain ⟨w, hw, rfl⟩ := List.mem_map.mp hx
  intro z
  have := List.all_eq_true.mp (h2 r hr w hw) 10 z
  simp at this
theorem low_clean {z : Str} (h : isLow z = true) : clean z = true := by
  unfold clean
  refine List.all_eq_true.mpr fun c hc => ?_
  have := List.all_eq_true.mp h c hc
  unfold Letter at this
  simp at this ⊢
  omega
theorem tc0 : TL.tl (Str.ofString "3") = [51] := by decide +kernel
theorem tc1 : TL.tl (Str.ofString "->") = [45, 62] := by decide +kernel
theorem tc2 : TL.tl (Str.ofString "zz") = [122, 122] := by decide +kernel
theorem tc3 : TL.tl (Str.ofString "2") = [50] := by decide +kernel
theorem tc4 : TL.tl (Str.ofString "0") = [48] := by decide +kernel
theorem tc5 : TL.tl (Str.ofString "stay") = [115, 116, 97, 121] := by decide +kernel
theorem tc6 : TL.tl (Str.ofString "1") = [49] := by decide +kernel
theorem tc7 : TL.tl (Str.ofString "9") = [57] := by decide +kernel
theorem tc8 : TL.tl (Str.ofString " ") = [32] := by decide +kernel
theorem tc9 : TL.tl (Str.ofString "\n") = [10] := by decide +kernel
theorem tc10 : TL.tl (Str.ofString " 3 -> zz 2\nzz 0 stay -> ") = [32, 51, 32, 45, 62, 32, 122, 122, 32, 50, 10, 122, 122, 32, 48, 32, 115, 116, 97, 121, 32, 45, 62, 32] := by decide +kernel
theorem tc11 : TL.tl (Str.ofString " 1") = [32, 49] := by decide +kernel
theorem tc12 : TL.tl (Str.ofString " 3 -> zz 1\nzz 0 stay -> ") = [32, 51, 32, 45, 62, 32, 122, 122, 32, 49, 10, 122, 122, 32, 48, 32, 115, 116, 97, 121, 32, 45, 62, 32] := by decide +kernel
theorem tc13 : TL.tl (Str.ofString " 2") = [32, 50] := by decide +kernel
theorem tc14 : TL.tl (Str.ofString " 0 -> zz 2\nzz 9 stay -> ") = [32, 48, 32, 45, 62, 32, 122, 122, 32, 50, 10, 122, 122, 32, 57, 32, 115, 116, 97, 121, 32, 45, 62, 32] := by decide +kernel
theorem tc15 : TL.tl (Str.ofString " 3 -> zz 2\nzz 0 stay") = [32, 51, 32, 45, 62, 32, 122, 122, 32, 50, 10, 122, 122, 32, 48, 32, 115, 116, 97, 121] := by decide +kernel
def tA (n : Str) : Str := n ++ (" 3 -> zz 2\nzz 0 stay -> " : Str) ++ n ++ (" 1" : Str)
def tAr (n : Str) : List (List Str) := [[n, ("3" : Str), ("->" : Str), ("zz" : Str), ("2" : Str)], [("zz" : Str), ("0" : Str), ("stay" : Str), ("->" : Str), n, ("1" : Str)]]
theorem tA_eq (n : Str) : Txt.join "\n" ((tAr n).map (Txt.join " ")) = tA n := by
  apply TL.ext_tl
  unfold tA tAr
  simp only [List.map_cons, List.map_nil, tlj, TL.tl_append, TL.joinL, tc0, tc1, tc2, tc3, tc4, tc5, tc6, tc7, tc8, tc9, tc10, tc11, tc12, tc13, tc14, tc15]
  simp
theorem tA_rows {n : Str} (h : isLow n = true) : rowsM (tA n) = tAr n := by
  rw [← tA_eq]
  have hc := low_clean h
  refine rowsM_join (by unfold tAr; simp) (by unfold tAr; simp) fun r hr w hw => ?_
  unfold tAr at hr
  simp only [List.mem_cons, List.not_mem_nil, or_false] at hr
  rcases hr with rfl | rfl <;> simp only [List.mem_cons, List.not_mem_nil, or_false] at hw
  · rcases hw with rfl | rfl | rfl | rfl | rfl <;> first | exact hc | decide +kernel
  · rcases hw with rfl | rfl | rfl | rfl | rfl | rfl <;> first | exact hc | decide +kernel
def tB (n : Str) : Str := n ++ (" 3 -> zz 1\nzz 0 stay -> " : Str) ++ n ++ (" 2" : Str)
def tBr (n : Str) : List (List Str) := [[n, ("3" : Str), ("->" : Str), ("zz" : Str), ("1" : Str)], [("zz" : Str), ("0" : Str), ("stay" : Str), ("->" : Str), n, ("2" : Str)]]
theorem tB_eq (n : Str) : Txt.join "\n" ((tBr n).map (Txt.join " ")) = tB n := by
  apply TL.ext_tl
  unfold tB tBr
  simp only [List.map_cons, List.map_nil, tlj, TL.tl_append, TL.joinL, tc0, tc1, tc2, tc3, tc4, tc5, tc6, tc7, tc8, tc9, tc10, tc11, tc12, tc13, tc14, tc15]
  simp
theorem tB_rows {n : Str} (h : isLow n = true) : rowsM (tB n) = tBr n := by
  rw [← tB_eq]
  have hc := low_clean h
  refine rowsM_join (by unfold tBr; simp) (by unfold tBr; simp) fun r hr w hw => ?_
  unfold tBr at hr
  simp only [List.mem_cons, List.not_mem_nil, or_false] at hr
  rcases hr with rfl | rfl <;> simp only [List.mem_cons, List.not_mem_nil, or_false] at hw
  · rcases hw with rfl | rfl | rfl | rfl | rfl <;> first | exact hc | decide +kernel
  · rcases hw with rfl | rfl | rfl | rfl | rfl | rfl <;> first | exact hc | decide +kernel
def tC (n : Str) : Str := n ++ (" 0 -> zz 2\nzz 9 stay -> " : Str) ++ n ++ (" 1" : Str)
def tCr (n : Str) : List (List Str) := [[n, ("0" : Str), ("->" : Str), ("zz" : Str), ("2" : Str)], [("zz" : Str), ("9" : Str), ("stay" : Str), ("->" : Str), n, ("1" : Str)]]
theorem tC_eq (n : Str) : Txt.join "\n" ((tCr n).map (Txt.join " ")) = tC n := by
  apply TL.ext_tl
  unfold tC tCr
  simp only [List.map_cons, List.map_nil, tlj, TL.tl_append, TL.joinL, tc0, tc1, tc2, tc3, tc4, tc5, tc6, tc7, tc8, tc9, tc10, tc11, tc12, tc13, tc14, tc15]
  simp
theorem tC_rows {n : Str} (h : isLow n = true) : rowsM (tC n) = tCr n := by
  rw [← tC_eq]
  have hc := low_clean h
  refine rowsM_join (by unfold tCr; simp) (by unfold tCr; simp) fun r hr w hw => ?_
  unfold tCr at hr
  simp only [List.mem_cons, List.not_mem_nil, or_false] at hr
  rcases hr with rfl | rfl <;> simp only [List.mem_cons, List.not_mem_nil, or_false] at hw
  · rcases hw with rfl | rfl | rfl | rfl | rfl <;> first | exact hc | decide +kernel
  · rcases hw with rfl | rfl | rfl | rfl | rfl | rfl <;> first | exact hc | decide +kernel
def tD (n : Str) : Str := n ++ (" 3 -> zz 2\nzz 0 stay" : Str)
def tDr (n : Str) : List (List Str) := [[n, ("3" : Str), ("->" : Str), ("zz" : Str), ("2" : Str)], [("zz" : Str), ("0" : Str), ("stay" : Str)]]
theorem tD_eq (n : Str) : Txt.join "\n" ((tDr n).map (Txt.join " ")) = tD n := by
  apply TL.ext_tl
  unfold tD tDr
  simp only [List.map_cons, List.map_nil, tlj, TL.tl_append, TL.joinL, tc0, tc1, tc2, tc3, tc4, tc5, tc6, tc7, tc8, tc9, tc10, tc11, tc12, tc13, tc14, tc15]
  simp
theorem tD_rows {n : Str} (h : isLow n = true) : rowsM (tD n) = tDr n := by
  rw [← tD_eq]
  have hc := low_clean h
  refine rowsM_join (by unfold tDr; simp) (by unfold tDr; simp) fun r hr w hw => ?_
  unfold tDr at hr
  simp only [List.mem_cons, List.not_mem_nil, or_false] at hr
  rcases hr with rfl | rfl <;> simp only [List.mem_cons, List.not_mem_nil, or_false] at hw
  · rcases hw with rfl | rfl | rfl | rfl | rfl <;> first | exact hc | decide +kernel
  · rcases hw with rfl | rfl | rfl <;> first | exact hc | decide +kernel
end Lw

namespace Lw
open PySem PySem.Spec PyProof.Rows L2 Evl Z
def NameOk (n : Str) : Prop := isNameM n = true ∧ (n == "zz") = false
theorem NameOk.low {n : Str} (h : NameOk n) : isLow n = true := by
  have := h.1
  unfold isNameM at this
  simp only [Bool.and_eq_true] at this
  exact this.2
theorem NameOk.len {n : Str} (h : NameOk n) : n.length ≤ 8 := by
  have := h.1
  unfold isNameM at this
  simp only [Bool.and_eq_true, decide_eq_true_eq] at this
  exact this.1.2
theorem NameOk.ne {n : Str} (h : NameOk n) : (n != "zz") = true := by
  show (!(n == "zz")) = true
  rw [h.2]
  rfl
theorem NameOk.ne2 {n : Str} (h : NameOk n) : (("zz" : Str) == n) = false := by
  have := h.2
  rw [beq_eq_false_iff_ne] at this ⊢
  exact fun z => this z.symm
theorem NameOk.ne3 {n : Str} (h : NameOk n) : (("zz" : Str) != n) = true := by
  show (!(("zz" : Str) == n)) = true
  rw [h.ne2]
  rfl
theorem NameOk.ks {n : Str} (h : NameOk n) : keysOf [n, "zz"] = [n, "zz"] := keys2 (by
  have := h.ne2
  rw [beq_eq_false_iff_ne] at this
  exact this)
theorem nm_zz : isNameM "zz" = true := by decide +kernel
theorem has_zz (n : Str) : ([n, "zz"] : List Str).contains "zz" = true := by simp
theorem has_n (n : Str) : ([n, "zz"] : List Str).contains n = true := by simp
theorem strOk_low {z : Str} (h : isLow z = true) : PyData.strOk z = true := by
  unfold PyData.strOk
  rw [← Array.all_toList]
  refine List.all_eq_true.mpr fun c hc => ?_
  have := List.all_eq_true.mp h c hc
  unfold Letter at this
  simp at this ⊢
  omega
theorem fineW_of {w : List Str} (h1 : 1 ≤ w.length) (h2 : w.length ≤ 1000) (h3 : ∀ z ∈ w, z.length ≤ 600) : fineW w = true := by
  unfold fineW
  simp only [Bool.and_eq_true, decide_eq_true_eq, List.all_eq_true]
  exact ⟨⟨h1, h2⟩, h3⟩
theorem lenL (z : Str) : z.length = (TL.tl z).length := Array.length_toList.symm
def tAs (n : Str) : SiteM := ⟨[n, "zz"], [3, 0], [false, true], [[("zz", 2)], [(n, 1)]]⟩
theorem tA_parse {n : Str} (h : NameOk n) : parseM (tA n) = .ok (tAs n) := by
  unfold parseM
  rw [tA_rows h.low]
  have e : placesM (tAr n) = .ok [⟨3, false, [("zz", 2)]⟩, ⟨0, true, [(n, 1)]⟩] := by
    unfold placesM
    rw [show firstsM (tAr n) = [n, "zz"] from rfl, h.ks]
    unfold tAr goM
    rw [if_neg (by decide), placeA h.1 (by decide +kernel) h.ne3 (has_zz n) nm_zz (by decide +kernel)]
    show (if ([] : List Str).contains n = true then _ else _) = _
    rw [if_neg (by simp)]
    unfold goM
    rw [if_neg (by decide), placeB nm_zz (by decide +kernel) h.ne (has_n n) h.1 (by decide +kernel)]
    show (if ([n] : List Str).contains "zz" = true then _ else _) = _
    rw [if_neg (by have := h.ne2; rw [beq_eq_false_iff_ne] at this; simp [this])]
    rfl
  rw [e]
  rfl
theorem tA_fine {n : Str} (h : NameOk n) : fineT (tA n) = true := by
  have hl := h.len
  have hc := low_clean h.low
  unfold fineT
  rw [tA_rows h.low]
  simp only [Bool.and_eq_true, decide_eq_true_eq]
  refine ⟨⟨?_, ?_⟩, ?_⟩
  · rw [lenL] at hl ⊢
    unfold tA
    simp only [TL.tl_append, tc0, tc1, tc2, tc3, tc4, tc5, tc6, tc7, tc8, tc9, tc10, tc11, tc12, tc13, tc14, tc15, List.length_append, List.length_cons, List.length_nil]
    omega
  · rw [← tA_eq, split_nl (by unfold tAr; simp) (fun r hr w hw => by
      unfold tAr at hr
      simp only [List.mem_cons, List.not_mem_nil, or_false] at hr
      rcases hr with rfl | rfl <;> simp only [List.mem_cons, List.not_mem_nil, or_false] at hw
      · rcases hw with rfl | rfl | rfl | rfl | rfl <;> first | exact hc | decide +kernel
      · rcases hw with rfl | rfl | rfl | rfl | rfl | rfl <;> first | exact hc | decide +kernel)]
    unfold tAr
    rw [lenL] at hl
    simp only [List.map_cons, List.map_nil, List.all_cons, List.all_nil, Bool.and_true, Bool.and_eq_true, decide_eq_true_eq, lenL, tlj, TL.joinL, tc0, tc1, tc2, tc3, tc4, tc5, tc6, tc7, tc8, tc9, tc10, tc11, tc12, tc13, tc14, tc15, List.length_append, List.length_cons, List.length_nil]
    omega
  · unfold fineR tAr
    simp only [Bool.and_eq_true, decide_eq_true_eq, List.all_cons, List.all_nil, Bool.and_true]
    refine ⟨by show 2 ≤ 1000; decide, fineW_of (by show 1 ≤ 5; decide) (by show 5 ≤ 1000; decide) fun w hw => ?_, fineW_of (by show 1 ≤ 6; decide) (by show 6 ≤ 1000; decide) fun w hw => ?_⟩ <;> simp only [List.mem_cons, List.not_mem_nil, or_false] at hw
    · rcases hw with rfl | rfl | rfl | rfl | rfl <;> first | omega | decide +kernel
    · rcases hw with rfl | rfl | rfl | rfl | rfl | rfl <;> first | omega | decide +kernel
def tDs (n : Str) : SiteM := ⟨[n, "zz"], [3, 0], [false, true], [[("zz", 2)], []]⟩
theorem tD_parse {n : Str} (h : NameOk n) : parseM (tD n) = .ok (tDs n) := by
  unfold parseM
  rw [tD_rows h.low]
  have e : placesM (tDr n) = .ok [⟨3, false, [("zz", 2)]⟩, ⟨0, true, []⟩] := by
    unfold placesM
    rw [show firstsM (tDr n) = [n, "zz"] from rfl, h.ks]
    unfold tDr goM
    rw [if_neg (by decide), placeA h.1 (by decide +kernel) h.ne3 (has_zz n) nm_zz (by decide +kernel)]
    show (if ([] : List Str).contains n = true then _ else _) = _
    rw [if_neg (by simp)]
    unfold goM
    rw [if_neg (by decide), placeC nm_zz (by decide +kernel)]
    show (if ([n] : List Str).contains "zz" = true then _ else _) = _
    rw [if_neg (by have := h.ne2; rw [beq_eq_false_iff_ne] at this; simp [this])]
    rfl
  rw [e]
  rfl
theorem tD_fine {n : Str} (h : NameOk n) : fineT (tD n) = true := by
  have hl := h.len
  have hc := low_clean h.low
  unfold fineT
  rw [tD_rows h.low]
  simp only [Bool.and_eq_true, decide_eq_true_eq]
  refine ⟨⟨?_, ?_⟩, ?_⟩
  · rw [lenL] at hl ⊢
    unfold tD
    simp only [TL.tl_append, tc0, tc1, tc2, tc3, tc4, tc5, tc6, tc7, tc8, tc9, tc10, tc11, tc12, tc13, tc14, tc15, List.length_append, List.length_cons, List.length_nil]
    omega
  · rw [← tD_eq, split_nl (by unfold tDr; simp) (fun r hr w hw => by
      unfold tDr at hr
      simp only [List.mem_cons, List.not_mem_nil, or_false] at hr
      rcases hr with rfl | rfl <;> simp only [List.mem_cons, List.not_mem_nil, or_false] at hw
      · rcases hw with rfl | rfl | rfl | rfl | rfl <;> first | exact hc | decide +kernel
      · rcases hw with rfl | rfl | rfl <;> first | exact hc | decide +kernel)]
    unfold tDr
    rw [lenL] at hl
    simp only [List.map_cons, List.map_nil, List.all_cons, List.all_nil, Bool.and_true, Bool.and_eq_true, decide_eq_true_eq, lenL, tlj, TL.joinL, tc0, tc1, tc2, tc3, tc4, tc5, tc6, tc7, tc8, tc9, tc10, tc11, tc12, tc13, tc14, tc15, List.length_append, List.length_cons, List.length_nil]
    omega
  · unfold fineR tDr
    simp only [Bool.and_eq_true, decide_eq_true_eq, List.all_cons, List.all_nil, Bool.and_true]
    refine ⟨by show 2 ≤ 1000; decide, fineW_of (by show 1 ≤ 5; decide) (by show 5 ≤ 1000; decide) fun w hw => ?_, fineW_of (by show 1 ≤ 3; decide) (by show 3 ≤ 1000; decide) fun w hw => ?_⟩ <;> simp only [List.mem_cons, List.not_mem_nil, or_false] at hw
    · rcases hw with rfl | rfl | rfl | rfl | rfl <;> first | omega | decide +kernel
    · rcases hw with rfl | rfl | rfl <;> first | omega | decide +kernel
end Lw

namespace Lw
open PySem PySem.Spec PyProof.Rows L2 Evl Z
def tBs (n : Str) : SiteM := ⟨[n, ("zz" : Str)], [3, 0], [false, true], [[(("zz" : Str), 1)], [(n, 2)]]⟩
def tCs (n : Str) : SiteM := ⟨[n, ("zz" : Str)], [0, 9], [false, true], [[(("zz" : Str), 2)], [(n, 1)]]⟩
theorem two_take {α : Type} (a b : α) : ([a, b] : List α).take 2 = [a, b] := rfl
theorem tA_turn {n : Str} (h : NameOk n) : turnedM (tAs n) = .ok (tBs n) := by
  have e1 := h.ne2
  have e2 : (n == n) = true := beq_self_eq_true n
  have e3 : (("zz" : Str) == ("zz" : Str)) = true := by decide +kernel
  have e4 := h.2
  have b1 : backI (tAs n) n = [(("zz" : Str), 1)] := by
    unfold backI backRaw tAs
    show isort ((([(("zz" : Str), 2)] : List (Str × Int)).filter (fun q => q.1 == n)).map (fun q => (n, q.2)) ++ (((([(n, 1)] : List (Str × Int)).filter (fun q => q.1 == n)).map (fun q => (("zz" : Str), q.2))) ++ [])) = _
    simp only [List.filter_cons, List.filter_nil, e1, e2, if_true]
    rfl
  have b2 : backI (tAs n) ("zz" : Str) = [(n, 2)] := by
    unfold backI backRaw tAs
    show isort ((([(("zz" : Str), 2)] : List (Str × Int)).filter (fun q => q.1 == ("zz" : Str))).map (fun q => (n, q.2)) ++ (((([(n, 1)] : List (Str × Int)).filter (fun q => q.1 == ("zz" : Str))).map (fun q => (("zz" : Str), q.2))) ++ [])) = _
    simp only [List.filter_cons, List.filter_nil, e3, e4, if_true]
    rfl
  rw [turned_eq]
  unfold turnedI
  show (match goI (tAs n) [] [(n, false), (("zz" : Str), true)] with | .ok ws => _ | .error n => _) = _
  unfold goI
  simp only [b1]
  unfold goI
  simp only [b2]
  unfold goI
  rfl
theorem tD_turn {n : Str} (h : NameOk n) : turnedM (tDs n) = .error n := by
  have e1 := h.ne2
  have b1 : backI (tDs n) n = [] := by
    unfold backI backRaw tDs
    show isort ((([(("zz" : Str), 2)] : List (Str × Int)).filter (fun q => q.1 == n)).map (fun q => (n, q.2)) ++ (((([] : List (Str × Int)).filter (fun q => q.1 == n)).map (fun q => (("zz" : Str), q.2))) ++ [])) = _
    simp only [List.filter_cons, List.filter_nil, e1]
    rfl
  rw [turned_eq]
  unfold turnedI
  show (match goI (tDs n) [] [(n, false), (("zz" : Str), true)] with | .ok ws => _ | .error n => _) = _
  unfold goI
  simp only [b1]
  rfl
theorem i0 : intS 0 = ("0" : Str) := by decide +kernel
theorem i1 : intS 1 = ("1" : Str) := by decide +kernel
theorem i2 : intS 2 = ("2" : Str) := by decide +kernel
theorem i3 : intS 3 = ("3" : Str) := by decide +kernel
theorem i9 : intS 9 = ("9" : Str) := by decide +kernel
theorem r2 {s : SiteM} (h : s.names.length = 2) : rowsText s = [rowTextM s 0, rowTextM s 1] := by
  unfold rowsText
  rw [h]
  rfl
theorem tB_rows0 (n : Str) : rowWords (tBs n) 0 = [n, ("3" : Str), ("->" : Str), ("zz" : Str), ("1" : Str)] := by
  show [n, intS 3, ("->" : Str), ("zz" : Str), intS 1] = _
  rw [i3, i1]
theorem tB_rows1 (n : Str) : rowWords (tBs n) 1 = [("zz" : Str), ("0" : Str), ("stay" : Str), ("->" : Str), n, ("2" : Str)] := by
  show [("zz" : Str), intS 0, ("stay" : Str), ("->" : Str), n, intS 2] = _
  rw [i0, i2]
theorem tC_rows0 (n : Str) : rowWords (tCs n) 0 = [n, ("0" : Str), ("->" : Str), ("zz" : Str), ("2" : Str)] := by
  show [n, intS 0, ("->" : Str), ("zz" : Str), intS 2] = _
  rw [i0, i2]
theorem tC_rows1 (n : Str) : rowWords (tCs n) 1 = [("zz" : Str), ("9" : Str), ("stay" : Str), ("->" : Str), n, ("1" : Str)] := by
  show [("zz" : Str), intS 9, ("stay" : Str), ("->" : Str), n, intS 1] = _
  rw [i9, i1]
theorem tB_txt (n : Str) : rowsText (tBs n) = (tBr n).map (Txt.join " ") := by
  rw [r2 rfl]
  unfold rowTextM
  rw [tB_rows0, tB_rows1]
  rfl
theorem tC_txt (n : Str) : rowsText (tCs n) = (tCr n).map (Txt.join " ") := by
  rw [r2 rfl]
  unfold rowTextM
  rw [tC_rows0, tC_rows1]
  rfl
theorem tB_str (n : Str) : strM (tBs n) = tB n := by
  unfold strM
  rw [tB_txt, tB_eq]
theorem tC_str (n : Str) : strM (tCs n) = tC n := by
  unfold strM
  rw [tC_txt, tC_eq]
theorem fineStr_of {s : SiteM} (h : s.names.length = 2) (h0 : fineRow s 0 = true) (h1 : fineRow s 1 = true) (h2 : joinOk 1 (rowsText s) = true) : fineStr s = true := by
  unfold fineStr
  rw [h, h2]
  show (decide (2 ≤ 1000) && (fineRow s 0 && (fineRow s 1 && true)) && true) = true
  rw [h0, h1]
  rfl
theorem tB_fine {n : Str} (h : NameOk n) : fineStr (tBs n) = true := by
  have hl := h.len
  rw [lenL] at hl
  refine fineStr_of rfl ?_ ?_ ?_
  · unfold fineRow
    rw [tB_rows0]
    show (true && true && true && true && smallI 3 && true && (smallI 1 && true) && joinOk 1 _) = true
    rw [show smallI 3 = true by decide +kernel, show smallI 1 = true by decide +kernel]
    unfold joinOk
    simp only [List.map_cons, List.map_nil, List.sum_cons, List.sum_nil, lenL, tc0, tc1, tc2, tc3, tc4, tc5, tc6, tc7, tc8, tc9, tc11, tc13, List.length_cons, List.length_nil, Bool.true_and, Bool.and_true, decide_eq_true_eq]
    omega
  · unfold fineRow
    rw [tB_rows1]
    show (true && true && true && true && smallI 0 && true && (smallI 2 && true) && joinOk 1 _) = true
    rw [show smallI 0 = true by decide +kernel, show smallI 2 = true by decide +kernel]
    unfold joinOk
    simp only [List.map_cons, List.map_nil, List.sum_cons, List.sum_nil, lenL, tc0, tc1, tc2, tc3, tc4, tc5, tc6, tc7, tc8, tc9, tc11, tc13, List.length_cons, List.length_nil, Bool.true_and, Bool.and_true, decide_eq_true_eq]
    omega
  · rw [tB_txt]
    unfold joinOk tBr
    simp only [List.map_cons, List.map_nil, List.sum_cons, List.sum_nil, lenL, tlj, TL.joinL, tc0, tc1, tc2, tc3, tc4, tc5, tc6, tc7, tc8, tc9, tc11, tc13, List.length_append, List.length_cons, List.length_nil, decide_eq_true_eq]
    omega
theorem tC_fine {n : Str} (h : NameOk n) : fineStr (tCs n) = true := by
  have hl := h.len
  rw [lenL] at hl
  refine fineStr_of rfl ?_ ?_ ?_
  · unfold fineRow
    rw [tC_rows0]
    show (true && true && true && true && smallI 0 && true && (smallI 2 && true) && joinOk 1 _) = true
    rw [show smallI 0 = true by decide +kernel, show smallI 2 = true by decide +kernel]
    unfold joinOk
    simp only [List.map_cons, List.map_nil, List.sum_cons, List.sum_nil, lenL, tc0, tc1, tc2, tc3, tc4, tc5, tc6, tc7, tc8, tc9, tc11, tc13, List.length_cons, List.length_nil, Bool.true_and, Bool.and_true, decide_eq_true_eq]
    omega
  · unfold fineRow
    rw [tC_rows1]
    show (true && true && true && true && smallI 9 && true && (smallI 1 && true) && joinOk 1 _) = true
    rw [show smallI 9 = true by decide +kernel, show smallI 1 = true by decide +kernel]
    unfold joinOk
    simp only [List.map_cons, List.map_nil, List.sum_cons, List.sum_nil, lenL, tc0, tc1, tc2, tc3, tc4, tc5, tc6, tc7, tc8, tc9, tc11, tc13, List.length_cons, List.length_nil, Bool.true_and, Bool.and_true, decide_eq_true_eq]
    omega
  · rw [tC_txt]
    unfold joinOk tCr
    simp only [List.map_cons, List.map_nil, List.sum_cons, List.sum_nil, lenL, tlj, TL.joinL, tc0, tc1, tc2, tc3, tc4, tc5, tc6, tc7, tc8, tc9, tc11, tc13, List.length_append, List.length_cons, List.length_nil, decide_eq_true_eq]
    omega
theorem back_of {n : Str} (h : NameOk n) (ls : List Int) (ss : List Bool) (a b : Str × Int) : fineBack ⟨[n, ("zz" : Str)], ls, ss, [[a], [b]]⟩ = true := by
  unfold fineBack
  show (decide (2 ≤ 100) && (decide (1 ≤ 100) && (decide (1 ≤ 100) && true)) && (PyData.strOk n && (PyData.strOk ("zz" : Str) && true))) = true
  rw [strOk_low h.low, show PyData.strOk ("zz" : Str) = true by decide +kernel]
  rfl
theorem tD_back {n : Str} (h : NameOk n) : fineBack (tDs n) = true := by
  unfold fineBack tDs
  show (decide (2 ≤ 100) && (decide (1 ≤ 100) && (decide (0 ≤ 100) && true)) && (PyData.strOk n && (PyData.strOk ("zz" : Str) && true))) = true
  rw [strOk_low h.low, show PyData.strOk ("zz" : Str) = true by decide +kernel]
  rfl
end Lw

namespace Lw
open PySem PySem.Spec PyProof.Rows L2 Evl Z
local macro_rules | `(tactic| walk_at "ze") => `(tactic| (first
  | ((with_reducible show EvS _ _ _ (tVar _) _ _); refine ev_var rfl ?_)
  | ((with_reducible show EvS _ _ _ (tOp (rIx _) (tVar _) _) _ _); refine ev_ixO rfl ?_)
  | ((with_reducible show EvS _ _ _ (tCB (rLenU _) (tCons (tVar _) tNil)) _ _); refine ev_lenO rfl ?_)
  | (with_reducible first
    | refine ei_str ?_
    | refine ei_list ?_
    | refine ei_tup ?_
    | refine ei_enum ?_
    | refine ei_rng1 ?_
    | refine ei_rng2 ?_
    | refine ei_rng3 ?_
    | refine ei_zip ?_
    | refine gg_name ?_
    | refine ev_int ?_
    | refine ev_str ?_
    | refine ev_bl ?_
    | refine ev_non ?_
    | refine ea_nil ?_
    | refine ea_cons ?_
    | refine ev_op ?_
    | refine ev_un ?_
    | refine ev_cb ?_
    | refine et_test ?_
    | refine et_B ?_
    | refine et_not ?_
    | refine et_truth ?_
    | refine eo_none ?_
    | refine eo_some ?_
    | refine ev_slice ?_
    | refine ev_tup ?_
    | refine ev_chain ?_
    | refine ev_lst ?_
    | refine o_add ?_
    | refine o_sub ?_
    | refine o_cmp ?_
    | refine o_cmpS ?_
    | refine o_eqS ?_
    | refine o_neS ?_
    | refine o_eqI ?_
    | refine o_neI ?_
    | refine c_int ?_
    | refine c_intB ?_
    | refine c_abs ?_
    | refine c_max2 ?_
    | refine c_min2 ?_
    | refine c_tupL ?_
    | refine c_tupT ?_
    | refine c_listL ?_
    | refine c_listT ?_
    | refine o_isN ?_
    | refine o_notN ?_
    | refine el_lst ?_)
  | ((with_reducible show Cl _ (rLenU _) [_] _); refine c_len (by intro s hs; cases hs <;> first | assumption | omega) rfl ?_)))
local macro_rules | `(tactic| walk_at "zn") => `(tactic| try simp only [List.map_cons, List.map_nil, wipeR_n, wipeR_c, List.set_cons_zero, List.set_cons_succ])
theorem lc0 : (" 3 -> zz 2\nzz 0 stay -> " : Str).length = 24 := by decide +kernel
theorem lc1 : (" 1" : Str).length = 2 := by decide +kernel
theorem lc2 : (" 3 -> zz 1\nzz 0 stay -> " : Str).length = 24 := by decide +kernel
theorem lc3 : (" 2" : Str).length = 2 := by decide +kernel
theorem lc4 : (" 0 -> zz 2\nzz 9 stay -> " : Str).length = 24 := by decide +kernel
theorem lc5 : (" 3 -> zz 2\nzz 0 stay" : Str).length = 20 := by decide +kernel
def ringS : SiteM := getM (parseM ("b 1 -> a 1\na 1 -> c 1\nc 1 -> b 1\nd 1 -> a 3\ne 1 -> d 1" : Str))
def forkS : SiteM := getM (parseM ("b 1 stay -> a 3 c 1\nc 2 stay\na 4 stay -> c 2" : Str))
def forkT : SiteM := getT (turnedI forkS)
theorem ring_p : parseM ("b 1 -> a 1\na 1 -> c 1\nc 1 -> b 1\nd 1 -> a 3\ne 1 -> d 1" : Str) = .ok ringS := by decide +kernel
theorem fork_p : parseM ("b 1 stay -> a 3 c 1\nc 2 stay\na 4 stay -> c 2" : Str) = .ok forkS := by decide +kernel
theorem ring_f : fineT ("b 1 -> a 1\na 1 -> c 1\nc 1 -> b 1\nd 1 -> a 3\ne 1 -> d 1" : Str) = true ∧ fineBack ringS = true := by decide +kernel
theorem fork_f : fineT ("b 1 stay -> a 3 c 1\nc 2 stay\na 4 stay -> c 2" : Str) = true ∧ fineBack forkS = true ∧ fineStr forkT = true := by decide +kernel
theorem ring_t : turnedM ringS = .error "e" := by rw [turned_eq]; decide +kernel
theorem fork_t : turnedM forkS = .ok forkT := by rw [turned_eq]; decide +kernel
theorem fork_s : strM forkT = ("b 1 stay\nc 2 stay -> a 2 b 1\na 4 stay -> b 3" : Str) := by decide +kernel
theorem o_neSame {K : PySem.W.Frag} {Ψ : D → Prop} {x y d : D} (h : okD 5 d = true) (e1 : x = d) (e2 : y = d) (k : Ψ (.bl false)) : Op2 K (rNeU K) x y Ψ := by
  subst e1
  subst e2
  exact o_neU (n := 5) (m := 5) h h (by rw [deq_refl h]; exact k)
def PTold : PP := fun ds Φ Θ => ∃ n : Str, ds = [.str n] ∧ NameOk n ∧ Φ (.bl true)
theorem PParse.ok {C X : Addr} {t : Str} {s : SiteM} (h : parseM t = .ok s) (hf : fineT t = true) : PParse C X [.str t] (fun d => d = siteD C s) noT := ⟨t, rfl, hf, fun s' e => (by rw [h] at e; cases e; rfl), fun n e => (by rw [h] at e; cases e)⟩
theorem PTurn.ok {C X : Addr} {s s' : SiteM} (h : turnedM s = .ok s') (hf : fineBack s = true) : PTurn C X [siteD C s] (fun d => d = siteD C s') noT := ⟨s, rfl, hf, fun s' e => (by rw [h] at e; cases e; rfl), fun n e => (by rw [h] at e; cases e)⟩
section
variable {P : Program} {w : World} {K : PySem.W.Frag} {mg : Str → Option Value} {base : Heap} {A : Ad}
theorem ok__law_told_right (T : Txt K mg A) (G_parse : FnOk P w K mg base (L2.CX P w) 5 A.a_parse A.d_parse ["text"] (spP K (PParse A.c_Site A.c_InvalidText))) (G_strm : FnOk P w K mg base (L2.CX P w) 2 A.a_strm A.d_strm ["self"] (spP K (PStr A.c_Site))) (G__law_back : FnOk P w K mg base (L2.CX P w) 4 A.a__law_back A.d__law_back ["site"] (spP K (PLBack A.c_Site))) (G_turned : FnOk P w K mg base (L2.CX P w) 3 A.a_turned A.d_turned ["site"] (spP K (PTurn A.c_Site A.c_NoWay))) (G_with_limits : FnOk P w K mg base (L2.CX P w) 3 A.a_with_limits A.d_with_limits ["site", "limits"] (spP K (PWith A.c_Site))) : FnOk P w K mg base (L2.CX P w) 6 A.a__law_told_right A.d__law_told_right ["name"] (spP K PTold) := by
  refine T.F__law_told_right.okX sc__law_told_right (fun vs H Q E h => spP_len h fun ds Φ Θ hp => by obtain ⟨_, rfl, _⟩ := hp; rfl) (fun cdv A' outer s H vs Q E hr h => ⟨_, (pss_cons (ps_set (i := 1) sc__law_told_right.nd rfl (by first | exact Or.inl rfl | exact Or.inr rfl) (pe_static T.st_parse G_parse (hr.mono (by decide)) (pe_glob (v := .ref A.c_Site) rfl T.g_Site rfl) T.b_parse (fun σ => passAt (W := fun cls d _ H => E cls d H) (takes_of rfl rfl rfl rfl) σ) (pa_cons (pe_op op_addU (pe_op op_addU (pe_op op_addU (pv 0) pe_str) (pv 0)) pe_str) pa_nil))) (pss_cons (ps_if (pt_cmpR (op_neU hr.units) (pe_lst (pa_cons (pe_fld (pv 1) rfl) (pa_cons (pe_fld (pv 1) rfl) (pa_cons (pe_fld (pv 1) rfl) pa_nil)))) (pe_lst (pa_cons (pe_tup (pa_cons (pv 0) (pa_cons pe_str pa_nil))) (pa_cons (pe_tup (pa_cons pe_int (pa_cons pe_int pa_nil))) (pa_cons (pe_tup (pa_cons pe_bl (pa_cons pe_bl pa_nil))) pa_nil)))) (nomark _)) (pss_one (ps_ret pe_bl)) pss_nil) (pss_cons (ps_if (pt_cmpR (op_neU hr.units) (pe_fld (pv 1) rfl) (pe_tup (pa_cons (pe_tup (pa_cons (pe_tup (pa_cons pe_str (pa_cons pe_int pa_nil))) pa_nil)) (pa_cons (pe_tup (pa_cons (pe_tup (pa_cons (pv 0) (pa_cons pe_int pa_nil))) pa_nil)) pa_nil))) (nomark _)) (pss_one (ps_ret pe_bl)) pss_nil) (pss_cons (ps_if (pt_cmpR (op_neU hr.units) (pe_callTy (call_strOwn T.sm_Site G_strm T.b_strm (hr.mono (by decide)) passL) (by rfl) T.m_str (by decide +kernel) (pa_cons (pe_callSD G_turned (hr.mono (by decide)) rfl T.g_turned T.F_turned.kp T.b_turned .nil (fun σ => passAt (W := fun cls d _ H => E cls d H) (takes_of rfl rfl rfl rfl) σ) (pa_cons (pv 1) pa_nil)) pa_nil)) (pe_op op_addU (pe_op op_addU (pe_op op_addU (pv 0) pe_str) (pv 0)) pe_str) (nomark _)) (pss_one (ps_ret pe_bl)) pss_nil) (pss_cons (ps_if (pt_cmpR (op_neU hr.units) (pe_callTy (call_strOwn T.sm_Site G_strm T.b_strm (hr.mono (by decide)) passL) (by rfl) T.m_str (by decide +kernel) (pa_cons (pe_callSD G_with_limits (hr.mono (by decide)) rfl T.g_with_limits T.F_with_limits.kp T.b_with_limits .nil (fun σ => passAt (W := fun cls d _ H => E cls d H) (takes_of rfl rfl rfl rfl) σ) (pa_cons (pv 1) (pa_cons (pe_lst (pa_cons pe_int (pa_cons pe_int pa_nil))) pa_nil))) pa_nil)) (pe_op op_addU (pe_op op_addU (pe_op op_addU (pv 0) pe_str) (pv 0)) pe_str) (nomark _)) (pss_one (ps_ret pe_bl)) pss_nil) (pss_cons (ps_if (pt_cmpR (op_neU hr.units) (pe_callSD G__law_back (hr.mono (by decide)) rfl T.g__law_back T.F__law_back.kp T.b__law_back .nil (fun σ => passAt (W := fun cls d _ H => E cls d H) (takes_of rfl rfl rfl rfl) σ) (pa_cons (pe_static T.st_parse G_parse (hr.mono (by decide)) (pe_glob (v := .ref A.c_Site) rfl T.g_Site rfl) T.b_parse (fun σ => passAt (W := fun cls d _ H => E cls d H) (takes_of rfl rfl rfl rfl) σ) (pa_cons (pe_op op_addU (pv 0) pe_str) pa_nil)) pa_nil)) (pv 0) (nomark _)) (pss_one (ps_ret pe_bl)) pss_nil) (pss_cons (ps_set (i := 2) sc__law_told_right.nd rfl (by first | exact Or.inl rfl | exact Or.inr rfl) (pe_static T.st_parse G_parse (hr.mono (by decide)) (pe_glob (v := .ref A.c_Site) rfl T.g_Site rfl) T.b_parse (fun σ => passAt (W := fun cls d _ H => E cls d H) (takes_of rfl rfl rfl rfl) σ) (pa_cons pe_str pa_nil))) (pss_cons (ps_set (i := 3) sc__law_told_right.nd rfl (by first | exact Or.inl rfl | exact Or.inr rfl) (pe_static T.st_parse G_parse (hr.mono (by decide)) (pe_glob (v := .ref A.c_Site) rfl T.g_Site rfl) T.b_parse (fun σ => passAt (W := fun cls d _ H => E cls d H) (takes_of rfl rfl rfl rfl) σ) (pa_cons pe_str pa_nil))) (pss_cons (ps_if (pt_cmpR (op_neU hr.units) (pe_lst (pa_cons (pe_callSD G__law_back (hr.mono (by decide)) rfl T.g__law_back T.F__law_back.kp T.b__law_back .nil (fun σ => passAt (W := fun cls d _ H => E cls d H) (takes_of rfl rfl rfl rfl) σ) (pa_cons (pv 2) pa_nil)) (pa_cons (pe_callSD G__law_back (hr.mono (by decide)) rfl T.g__law_back T.F__law_back.kp T.b__law_back .nil (fun σ => passAt (W := fun cls d _ H => E cls d H) (takes_of rfl rfl rfl rfl) σ) (pa_cons (pv 1) pa_nil)) (pa_cons (pe_callSD G__law_back (hr.mono (by decide)) rfl T.g__law_back T.F__law_back.kp T.b__law_back .nil (fun σ => passAt (W := fun cls d _ H => E cls d H) (takes_of rfl rfl rfl rfl) σ) (pa_cons (pv 3) pa_nil)) pa_nil)))) (pe_lst (pa_cons pe_str (pa_cons pe_non (pa_cons pe_non pa_nil)))) (nomark _)) (pss_one (ps_ret pe_bl)) pss_nil) (pss_one (ps_ret (pe_cmpR (op_eqU hr.units) (pe_callTy (call_strOwn T.sm_Site G_strm T.b_strm (hr.mono (by decide)) passL) (by rfl) T.m_str (by decide +kernel) (pa_cons (pe_callSD G_turned (hr.mono (by decide)) rfl T.g_turned T.F_turned.kp T.b_turned .nil (fun σ => passAt (W := fun cls d _ H => E cls d H) (takes_of rfl rfl rfl rfl) σ) (pa_cons (pv 3) pa_nil)) pa_nil)) pe_str (nomark _))))))))))))), ?_⟩)
  · refine body_pure (fun ds Φ Θ hp => ?_) h
    dsimp only [L2.cxOf]
    obtain ⟨n, rfl, hn, k⟩ := hp
    have hl := hn.len
    have so : PyData.strOk n = true := strOk_low hn.low
    have sz : PyData.strOk ("zz" : Str) = true := by decide +kernel
    rw [show rho0 N__law_told_right.length [.str n] = [.dt (.str n), .un, .un, .un] from rfl]
    refine r_seq (r_set (ev_stat ?_))
    repeat (first | (walk_at "ze") | (with_reducible refine o_addS (by simp only [len_app, lc0, lc1, lc2, lc3, lc4, lc5]; omega) ?_))
    refine ⟨fun d => d = siteD A.c_Site (tAs n), noT, PParse.ok (tA_parse hn) (tA_fine hn), ?_, fun _ _ z => z.elim⟩
    rintro _ rfl
    walk_at "zn"
    refine r_seq (r_when ?_)
    repeat walk_at "ze"
    refine ev_fld ?_
    repeat walk_at "ze"
    refine ⟨A.c_Site, _, _, _, rfl, T.cl_Site, T.na_Site_names, rfl, ?_⟩
    repeat walk_at "ze"
    refine ev_fld ?_
    repeat walk_at "ze"
    refine ⟨A.c_Site, _, _, _, rfl, T.cl_Site, T.na_Site_limits, rfl, ?_⟩
    repeat walk_at "ze"
    refine ev_fld ?_
    repeat walk_at "ze"
    refine ⟨A.c_Site, _, _, _, rfl, T.cl_Site, T.na_Site_stays, rfl, ?_⟩
    repeat walk_at "ze"
    repeat (first | (walk_at "ze") | (refine ⟨by decide, ?_⟩) | (refine ⟨by show 2 ≤ 100000; decide, ?_⟩) | (refine ⟨by show 3 ≤ 100000; decide, ?_⟩))
    have ok1 : okD 5 (.lst [.tup [.str n, .str "zz"], .tup [.int 3, .int 0], .tup [.bl false, .bl true]]) = true := by
      show (((PyData.strOk n && (PyData.strOk ("zz" : Str) && true)) && _)) = true
      rw [so, sz]
      rfl
    refine o_neSame ok1 rfl rfl ?_
    refine ⟨_, rfl, fun z => (by cases z), fun _ => ?_⟩
    refine r_seq (r_when ?_)
    repeat walk_at "ze"
    refine ev_fld ?_
    repeat walk_at "ze"
    refine ⟨A.c_Site, _, _, _, rfl, T.cl_Site, T.na_Site_ways, rfl, ?_⟩
    repeat walk_at "ze"
    repeat (first | (walk_at "ze") | (refine ⟨by show 1 ≤ 100000; decide, ?_⟩) | (refine ⟨by show 2 ≤ 100000; decide, ?_⟩))
    have ok2 : okD 5 (.tup [.tup [.tup [.str "zz", .int 2]], .tup [.tup [.str n, .int 1]]]) = true := by
      show (((((PyData.strOk ("zz" : Str) && _) && true)) && (((PyData.strOk n && _) && true) && true))) = true
      rw [so, sz]
      rfl
    refine o_neSame ok2 rfl rfl ?_
    refine ⟨_, rfl, fun z => (by cases z), fun _ => ?_⟩
    refine r_seq (r_when ?_)
    repeat walk_at "ze"
    refine ev_call ?_
    repeat walk_at "ze"
    refine ⟨fun d => d = siteD A.c_Site (tBs n), noT, PTurn.ok (tA_turn hn) (back_of hn _ _ _ _), ?_, fun _ _ z => z.elim⟩
    rintro _ rfl
    repeat walk_at "ze"
    refine c_strOwn ⟨fun d => d = .str (strM (tBs n)), ⟨tBs n, rfl, tB_fine hn, rfl⟩, ?_⟩
    rintro _ rfl
    refine ⟨⟨_, rfl⟩, ?_⟩
    repeat (first | (walk_at "ze") | (with_reducible refine o_addS (by simp only [len_app, lc0, lc1, lc2, lc3, lc4, lc5]; omega) ?_))
    have s1 : (strM (tBs n) != n ++ (" 3 -> zz 1\nzz 0 stay -> " : Str) ++ n ++ (" 2" : Str)) = false := by
      rw [tB_str]
      show (!(tB n == tB n)) = false
      rw [beq_self_eq_true]
      rfl
    refine ⟨_, rfl, fun z => (by rw [s1] at z; cases z), fun _ => ?_⟩
    refine r_seq (r_when ?_)
    repeat walk_at "ze"
    refine ev_call ?_
    repeat walk_at "ze"
    refine ⟨by show 2 ≤ 100000; decide, ?_⟩
    repeat walk_at "ze"
    refine ⟨fun d => d = siteD A.c_Site (tCs n), noT, ⟨tAs n, [0, 9], false, rfl, by show 2 ≤ 10000; decide, rfl⟩, ?_, fun _ _ z => z.elim⟩
    rintro _ rfl
    repeat walk_at "ze"
    refine c_strOwn ⟨fun d => d = .str (strM (tCs n)), ⟨tCs n, rfl, tC_fine hn, rfl⟩, ?_⟩
    rintro _ rfl
    refine ⟨⟨_, rfl⟩, ?_⟩
    repeat (first | (walk_at "ze") | (with_reducible refine o_addS (by simp only [len_app, lc0, lc1, lc2, lc3, lc4, lc5]; omega) ?_))
    have s2 : (strM (tCs n) != n ++ (" 0 -> zz 2\nzz 9 stay -> " : Str) ++ n ++ (" 1" : Str)) = false := by
      rw [tC_str]
      show (!(Lw.tC n == Lw.tC n)) = false
      rw [beq_self_eq_true]
      rfl
    refine ⟨_, rfl, fun z => (by rw [s2] at z; cases z), fun _ => ?_⟩
    refine r_seq (r_when ?_)
    repeat walk_at "ze"
    refine ev_call (Z.ea_cons (ev_stat ?_))
    repeat (first | (walk_at "ze") | (with_reducible refine o_addS (by simp only [len_app, lc0, lc1, lc2, lc3, lc4, lc5]; omega) ?_))
    refine ⟨fun d => d = siteD A.c_Site (tDs n), noT, PParse.ok (tD_parse hn) (tD_fine hn), ?_, fun _ _ z => z.elim⟩
    rintro _ rfl
    repeat walk_at "ze"
    refine ⟨fun d => d = backD (turnedM (tDs n)), noT, ⟨tDs n, rfl, tD_back hn, rfl⟩, ?_, fun _ _ z => z.elim⟩
    rintro _ rfl
    rw [tD_turn hn]
    repeat walk_at "ze"
    refine o_neS ?_
    have s3 : (n != n) = false := by
      show (!(n == n)) = false
      rw [beq_self_eq_true]
      rfl
    refine ⟨_, rfl, fun z => (by rw [s3] at z; cases z), fun _ => ?_⟩
    refine r_seq (r_set (ev_stat ?_))
    repeat walk_at "ze"
    refine ⟨fun d => d = siteD A.c_Site ringS, noT, PParse.ok ring_p ring_f.1, ?_, fun _ _ z => z.elim⟩
    rintro _ rfl
    walk_at "zn"
    refine r_seq (r_set (ev_stat ?_))
    repeat walk_at "ze"
    refine ⟨fun d => d = siteD A.c_Site forkS, noT, PParse.ok fork_p fork_f.1, ?_, fun _ _ z => z.elim⟩
    rintro _ rfl
    walk_at "zn"
    refine r_seq (r_when ?_)
    repeat walk_at "ze"
    refine ev_call ?_
    repeat walk_at "ze"
    refine ⟨fun d => d = backD (turnedM ringS), noT, ⟨ringS, rfl, ring_f.2, rfl⟩, ?_, fun _ _ z => z.elim⟩
    rintro _ rfl
    repeat walk_at "ze"
    refine ev_call ?_
    repeat walk_at "ze"
    refine ⟨fun d => d = backD (turnedM (tAs n)), noT, ⟨tAs n, rfl, back_of hn _ _ _ _, rfl⟩, ?_, fun _ _ z => z.elim⟩
    rintro _ rfl
    repeat walk_at "ze"
    refine ev_call ?_
    repeat walk_at "ze"
    refine ⟨fun d => d = backD (turnedM forkS), noT, ⟨forkS, rfl, fork_f.2.1, rfl⟩, ?_, fun _ _ z => z.elim⟩
    rintro _ rfl
    rw [ring_t, tA_turn hn, fork_t]
    repeat walk_at "ze"
    repeat (first | (walk_at "ze") | (refine ⟨by show 3 ≤ 100000; decide, ?_⟩))
    have ok3 : okD 5 (.lst [.str "e", .non, .non]) = true := by decide +kernel
    refine o_neSame ok3 rfl rfl ?_
    refine ⟨_, rfl, fun z => (by cases z), fun _ => ?_⟩
    refine r_ret ?_
    repeat walk_at "ze"
    refine ev_call ?_
    repeat walk_at "ze"
    refine ⟨fun d => d = siteD A.c_Site forkT, noT, PTurn.ok fork_t fork_f.2.1, ?_, fun _ _ z => z.elim⟩
    rintro _ rfl
    repeat walk_at "ze"
    refine c_strOwn ⟨fun d => d = .str (strM forkT), ⟨forkT, rfl, fork_f.2.2, rfl⟩, ?_⟩
    rintro _ rfl
    refine ⟨⟨_, rfl⟩, ?_⟩
    repeat walk_at "ze"
    rw [fork_s]
    have s4 : ∀ z : Str, (z == z) = true := fun z => beq_self_eq_true z
    rw [s4]
    exact k
end
end Lw

namespace Lw
open PySem PySem.Spec PyProof.Rows L2 Evl Z
local macro_rules | `(tactic| walk_at "ze") => `(tactic| (first
  | ((with_reducible show EvS _ _ _ (tVar _) _ _); refine ev_var rfl ?_)
  | ((with_reducible show EvS _ _ _ (tOp (rIx _) (tVar _) _) _ _); refine ev_ixO rfl ?_)
  | ((with_reducible show EvS _ _ _ (tCB (rLenU _) (tCons (tVar _) tNil)) _ _); refine ev_lenO rfl ?_)
  | (with_reducible first
    | refine ei_str ?_
    | refine ei_list ?_
    | refine ei_tup ?_
    | refine ei_enum ?_
    | refine ei_rng1 ?_
    | refine ei_rng2 ?_
    | refine ei_rng3 ?_
    | refine ei_zip ?_
    | refine gg_name ?_
    | refine ev_int ?_
    | refine ev_str ?_
    | refine ev_bl ?_
    | refine ev_non ?_
    | refine ea_nil ?_
    | refine ea_cons ?_
    | refine ev_op ?_
    | refine ev_un ?_
    | refine ev_cb ?_
    | refine et_test ?_
    | refine et_B ?_
    | refine et_not ?_
    | refine et_truth ?_
    | refine eo_none ?_
    | refine eo_some ?_
    | refine ev_slice ?_
    | refine ev_tup ?_
    | refine ev_chain ?_
    | refine ev_lst ?_
    | refine o_add ?_
    | refine o_sub ?_
    | refine o_cmp ?_
    | refine o_cmpS ?_
    | refine o_eqS ?_
    | refine o_neS ?_
    | refine o_eqI ?_
    | refine o_neI ?_
    | refine c_int ?_
    | refine c_intB ?_
    | refine c_abs ?_
    | refine c_max2 ?_
    | refine c_min2 ?_
    | refine c_tupL ?_
    | refine c_tupT ?_
    | refine c_listL ?_
    | refine c_listT ?_
    | refine o_isN ?_
    | refine o_notN ?_
    | refine el_lst ?_)
  | ((with_reducible show Cl _ (rLenU _) [_] _); refine c_len (by intro s hs; cases hs <;> first | assumption | omega) rfl ?_)))
local macro_rules | `(tactic| walk_at "zn") => `(tactic| try simp only [List.map_cons, List.map_nil, wipeR_n, wipeR_c, List.set_cons_zero, List.set_cons_succ])
section
variable {P : Program} {w : World} {K : PySem.W.Frag} {mg : Str → Option Value} {base : Heap} {A : Ad}
theorem ok__law_rows (T : Txt K mg A) : FnOk P w K mg base (L2.CX P w) 1 A.a__law_rows A.d__law_rows [] (spP K PRows) := by
  refine T.F__law_rows.okX sc__law_rows (fun vs H Q E h => spP_len h fun ds Φ Θ hp => by obtain ⟨rfl, _⟩ := hp; rfl) (fun cdv A' outer s H vs Q E hr h => ⟨_, (pss_cons (ps_set (i := 0) sc__law_rows.nd rfl (by first | exact Or.inl rfl | exact Or.inr rfl) (pe_lst (pa_cons (pe_tup (pa_cons pe_str (pa_cons (pe_un un_neg pe_int) pa_nil))) (pa_cons (pe_tup (pa_cons pe_str (pa_cons (pe_un un_neg pe_int) pa_nil))) (pa_cons (pe_tup (pa_cons pe_str (pa_cons pe_int pa_nil))) (pa_cons (pe_tup (pa_cons pe_str (pa_cons pe_int pa_nil))) (pa_cons (pe_tup (pa_cons pe_str (pa_cons pe_int pa_nil))) (pa_cons (pe_tup (pa_cons pe_str (pa_cons pe_int pa_nil))) pa_nil)))))))) (pss_cons (ps_set (i := 0) sc__law_rows.nd rfl (by first | exact Or.inl rfl | exact Or.inr rfl) (pe_op op_addU (pv 0) (pe_lst (pa_cons (pe_tup (pa_cons pe_str (pa_cons pe_int pa_nil))) (pa_cons (pe_tup (pa_cons pe_str (pa_cons (pe_un un_neg pe_int) pa_nil))) (pa_cons (pe_tup (pa_cons pe_str (pa_cons pe_int pa_nil))) pa_nil)))))) (pss_cons (ps_set (i := 0) sc__law_rows.nd rfl (by first | exact Or.inl rfl | exact Or.inr rfl) (pe_op op_addU (pv 0) (pe_lst (pa_cons (pe_tup (pa_cons pe_str (pa_cons pe_int pa_nil))) (pa_cons (pe_tup (pa_cons pe_str (pa_cons pe_int pa_nil))) (pa_cons (pe_tup (pa_cons pe_str (pa_cons pe_int pa_nil))) pa_nil)))))) (pss_cons (ps_set (i := 0) sc__law_rows.nd rfl (by first | exact Or.inl rfl | exact Or.inr rfl) (pe_op op_addU (pv 0) (pe_lst (pa_cons (pe_tup (pa_cons pe_str (pa_cons (pe_un un_neg pe_int) pa_nil))) (pa_cons (pe_tup (pa_cons pe_str (pa_cons pe_int pa_nil))) pa_nil))))) (pss_cons (ps_set (i := 0) sc__law_rows.nd rfl (by first | exact Or.inl rfl | exact Or.inr rfl) (pe_op op_addU (pv 0) (pe_lst (pa_cons (pe_tup (pa_cons pe_str (pa_cons pe_int pa_nil))) (pa_cons (pe_tup (pa_cons pe_str (pa_cons (pe_un un_neg pe_int) pa_nil))) pa_nil))))) (pss_cons (ps_set (i := 0) sc__law_rows.nd rfl (by first | exact Or.inl rfl | exact Or.inr rfl) (pe_op op_addU (pv 0) (pe_lst (pa_cons (pe_tup (pa_cons pe_str (pa_cons pe_int pa_nil))) (pa_cons (pe_tup (pa_cons pe_str (pa_cons pe_int pa_nil))) (pa_cons (pe_tup (pa_cons pe_str (pa_cons pe_int pa_nil))) pa_nil)))))) (pss_cons (ps_set (i := 0) sc__law_rows.nd rfl (by first | exact Or.inl rfl | exact Or.inr rfl) (pe_op op_addU (pv 0) (pe_lst (pa_cons (pe_tup (pa_cons pe_str (pa_cons pe_int pa_nil))) (pa_cons (pe_tup (pa_cons pe_str (pa_cons pe_int pa_nil))) (pa_cons (pe_tup (pa_cons pe_str (pa_cons (pe_un un_neg pe_int) pa_nil))) pa_nil)))))) (pss_cons (ps_set (i := 0) sc__law_rows.nd rfl (by first | exact Or.inl rfl | exact Or.inr rfl) (pe_op op_addU (pv 0) (pe_lst (pa_cons (pe_tup (pa_cons pe_str (pa_cons (pe_un un_neg pe_int) pa_nil))) (pa_cons (pe_tup (pa_cons pe_str (pa_cons (pe_un un_neg pe_int) pa_nil))) pa_nil))))) (pss_cons (ps_set (i := 0) sc__law_rows.nd rfl (by first | exact Or.inl rfl | exact Or.inr rfl) (pe_op op_addU (pv 0) (pe_lst (pa_cons (pe_tup (pa_cons pe_str (pa_cons (pe_un un_neg pe_int) pa_nil))) (pa_cons (pe_tup (pa_cons pe_str (pa_cons pe_int pa_nil))) pa_nil))))) (pss_cons (ps_set (i := 0) sc__law_rows.nd rfl (by first | exact Or.inl rfl | exact Or.inr rfl) (pe_op op_addU (pv 0) (pe_lst (pa_cons (pe_tup (pa_cons pe_str (pa_cons pe_int pa_nil))) (pa_cons (pe_tup (pa_cons pe_str (pa_cons pe_int pa_nil))) (pa_cons (pe_tup (pa_cons pe_str (pa_cons pe_int pa_nil))) pa_nil)))))) (pss_cons (ps_set (i := 0) sc__law_rows.nd rfl (by first | exact Or.inl rfl | exact Or.inr rfl) (pe_op op_addU (pv 0) (pe_lst (pa_cons (pe_tup (pa_cons pe_str (pa_cons pe_int pa_nil))) (pa_cons (pe_tup (pa_cons pe_str (pa_cons pe_int pa_nil))) (pa_cons (pe_tup (pa_cons pe_str (pa_cons pe_int pa_nil))) (pa_cons (pe_tup (pa_cons pe_str (pa_cons pe_int pa_nil))) pa_nil))))))) (pss_cons (ps_set (i := 0) sc__law_rows.nd rfl (by first | exact Or.inl rfl | exact Or.inr rfl) (pe_op op_addU (pv 0) (pe_lst (pa_cons (pe_tup (pa_cons pe_str (pa_cons pe_int pa_nil))) (pa_cons (pe_tup (pa_cons pe_str (pa_cons pe_int pa_nil))) (pa_cons (pe_tup (pa_cons pe_str (pa_cons pe_int pa_nil))) (pa_cons (pe_tup (pa_cons pe_str (pa_cons (pe_un un_neg pe_int) pa_nil))) pa_nil))))))) (pss_one (ps_ret (pe_op op_addU (pv 0) (pe_lst (pa_cons (pe_tup (pa_cons pe_str (pa_cons pe_int pa_nil))) (pa_cons (pe_tup (pa_cons pe_str (pa_cons pe_int pa_nil))) (pa_cons (pe_tup (pa_cons pe_str (pa_cons pe_int pa_nil))) (pa_cons (pe_tup (pa_cons pe_str (pa_cons pe_int pa_nil))) (pa_cons (pe_tup (pa_cons pe_str (pa_cons pe_int pa_nil))) (pa_cons (pe_tup (pa_cons pe_str (pa_cons pe_int pa_nil))) (pa_cons (pe_tup (pa_cons pe_str (pa_cons pe_int pa_nil))) pa_nil))))))))))))))))))))))), ?_⟩)
  · refine body_pure (fun ds Φ Θ hp => ?_) h
    dsimp only [L2.cxOf]
    obtain ⟨rfl, k⟩ := hp
    rw [show rho0 N__law_rows.length [] = [.un] from rfl]
    refine r_seq (r_set ?_)
    repeat (first | (walk_at "ze") | (with_reducible refine o_neg ?_) | (with_reducible refine o_addL (by decide) ?_) | (with_reducible refine o_addS (by decide) ?_) | (refine ⟨by decide, ?_⟩) | (refine r_seq (r_set ?_)))
    refine r_ret ?_
    repeat (first | (walk_at "ze") | (with_reducible refine o_neg ?_) | (with_reducible refine o_addL (by decide) ?_) | (with_reducible refine o_addS (by decide) ?_) | (refine ⟨by decide, ?_⟩) | (refine r_seq (r_set ?_)))
    exact k
end
end Lw

namespace Lw
open PySem PySem.Spec PyProof.Rows L2 Evl Z
local macro_rules | `(tactic| walk_at "ze") => `(tactic| (first
  | ((with_reducible show EvS _ _ _ (tVar _) _ _); refine ev_var rfl ?_)
  | ((with_reducible show EvS _ _ _ (tOp (rIx _) (tVar _) _) _ _); refine ev_ixO rfl ?_)
  | ((with_reducible show EvS _ _ _ (tCB (rLenU _) (tCons (tVar _) tNil)) _ _); refine ev_lenO rfl ?_)
  | (with_reducible first
    | refine ei_str ?_
    | refine ei_list ?_
    | refine ei_tup ?_
    | refine ei_enum ?_
    | refine ei_rng1 ?_
    | refine ei_rng2 ?_
    | refine ei_rng3 ?_
    | refine ei_zip ?_
    | refine gg_name ?_
    | refine ev_int ?_
    | refine ev_str ?_
    | refine ev_bl ?_
    | refine ev_non ?_
    | refine ea_nil ?_
    | refine ea_cons ?_
    | refine ev_op ?_
    | refine ev_un ?_
    | refine ev_cb ?_
    | refine et_test ?_
    | refine et_B ?_
    | refine et_not ?_
    | refine et_truth ?_
    | refine eo_none ?_
    | refine eo_some ?_
    | refine ev_slice ?_
    | refine ev_tup ?_
    | refine ev_chain ?_
    | refine ev_lst ?_
    | refine o_add ?_
    | refine o_sub ?_
    | refine o_cmp ?_
    | refine o_cmpS ?_
    | refine o_eqS ?_
    | refine o_neS ?_
    | refine o_eqI ?_
    | refine o_neI ?_
    | refine c_int ?_
    | refine c_intB ?_
    | refine c_abs ?_
    | refine c_max2 ?_
    | refine c_min2 ?_
    | refine c_tupL ?_
    | refine c_tupT ?_
    | refine c_listL ?_
    | refine c_listT ?_
    | refine o_isN ?_
    | refine o_notN ?_
    | refine el_lst ?_)
  | ((with_reducible show Cl _ (rLenU _) [_] _); refine c_len (by intro s hs; cases hs <;> first | assumption | omega) rfl ?_)))
local macro_rules | `(tactic| walk_at "zn") => `(tactic| try simp only [List.map_cons, List.map_nil, wipeR_n, wipeR_c, List.set_cons_zero, List.set_cons_succ])
section
variable {P : Program} {w : World} {K : PySem.W.Frag} {mg : Str → Option Value} {base : Heap} {A : Ad}
theorem ok__law_more_rows (T : Txt K mg A) : FnOk P w K mg base (L2.CX P w) 1 A.a__law_more_rows A.d__law_more_rows [] (spP K PMore) := by
  refine T.F__law_more_rows.okX sc__law_more_rows (fun vs H Q E h => spP_len h fun ds Φ Θ hp => by obtain ⟨rfl, _⟩ := hp; rfl) (fun cdv A' outer s H vs Q E hr h => ⟨_, (pss_cons (ps_set (i := 0) sc__law_more_rows.nd rfl (by first | exact Or.inl rfl | exact Or.inr rfl) (pe_join pe_str (pe_lc (own := [("name", 3)]) rfl sc__law_more_rows.nd (pi_str pe_str) (blkOk_by (own := [("name", 3)]) (N := N__law_more_rows) (sc := (defScope s__law_more_rows)) (by decide +kernel)) (fun _ _ _ _ _ => (pg_name (i := 3) sc__law_more_rows.nd rfl (by first | exact Or.inl rfl | exact Or.inr rfl))) (fun _ _ _ _ _ => pts_nil) (fun _ _ _ _ _ => (pe_op (opK rAddU K op_addU rfl) (pv 3) pe_str))))) (pss_cons (ps_set (i := 1) sc__law_more_rows.nd rfl (by first | exact Or.inl rfl | exact Or.inr rfl) (pe_join pe_str (pe_lc (own := [("name", 3)]) rfl sc__law_more_rows.nd (pi_str pe_str) (blkOk_by (own := [("name", 3)]) (N := N__law_more_rows) (sc := (defScope s__law_more_rows)) (by decide +kernel)) (fun _ _ _ _ _ => (pg_name (i := 3) sc__law_more_rows.nd rfl (by first | exact Or.inl rfl | exact Or.inr rfl))) (fun _ _ _ _ _ => pts_nil) (fun _ _ _ _ _ => (pe_op (opK rAddU K op_addU rfl) (pv 3) pe_str))))) (pss_cons (ps_set (i := 2) sc__law_more_rows.nd rfl (by first | exact Or.inl rfl | exact Or.inr rfl) (pe_lst (pa_cons (pe_tup (pa_cons (pv 0) (pa_cons (pe_un un_neg pe_int) pa_nil))) (pa_cons (pe_tup (pa_cons (pe_op op_addU (pv 0) pe_str) (pa_cons pe_int pa_nil))) (pa_cons (pe_tup (pa_cons (pe_op op_addU (pv 0) pe_str) (pa_cons pe_int pa_nil))) (pa_cons (pe_tup (pa_cons (pe_op op_addU (pv 0) pe_str) (pa_cons pe_int pa_nil))) pa_nil)))))) (pss_cons (ps_set (i := 2) sc__law_more_rows.nd rfl (by first | exact Or.inl rfl | exact Or.inr rfl) (pe_op op_addU (pv 2) (pe_lst (pa_cons (pe_tup (pa_cons (pe_op op_addU pe_str (pv 1)) (pa_cons pe_int pa_nil))) (pa_cons (pe_tup (pa_cons (pe_op op_addU (pe_op op_addU pe_str (pv 1)) pe_str) (pa_cons pe_int pa_nil))) pa_nil))))) (pss_one (ps_ret (pe_op op_addU (pv 2) (pe_lst (pa_cons (pe_tup (pa_cons pe_str (pa_cons pe_int pa_nil))) (pa_cons (pe_tup (pa_cons pe_str (pa_cons pe_int pa_nil))) (pa_cons (pe_tup (pa_cons pe_str (pa_cons pe_int pa_nil))) pa_nil))))))))))), ?_⟩)
  · refine body_pure (fun ds Φ Θ hp => ?_) h
    dsimp only [L2.cxOf]
    obtain ⟨rfl, k⟩ := hp
    rw [show rho0 N__law_more_rows.length [] = [.un, .un, .un, .un] from rfl]
    refine r_seq (r_set (ev_join ?_))
    repeat walk_at "ze"
    refine ⟨_, rfl, EvL.ev (el_mapF (gt_name (by decide)) ("abcdef" : Str).cps.toList (fun c => .str ⟨#[c]⟩) (fun c => .str ((⟨#[c]⟩ : Str) ++ (" 1 stay" : Str))) (ei_str (ev_str ⟨_, rfl, rfl, by decide +kernel, fun c hc => ?_, ?_⟩)))⟩
    · refine gg_name ?_
      repeat walk_at "ze"
      refine o_addS ?_ ⟨rfl, rfl⟩
      have h7 : (" 1 stay" : Str).length = 7 := by decide +kernel
      rw [h7]
      show 1 + 7 ≤ 100000
      decide
    refine ⟨("abcdef" : Str).cps.toList.map fun c => (⟨#[c]⟩ : Str) ++ (" 1 stay" : Str), by rw [List.map_map]; rfl, by decide +kernel, ?_⟩
    change thenO _ _ (Out.nx (List.set _ _ (Slot.dt (.str sixM))))
    walk_at "zn"
    refine r_seq (r_set (ev_join ?_))
    repeat walk_at "ze"
    refine ⟨_, rfl, EvL.ev (el_mapF (gt_name (by decide)) ("bcdef" : Str).cps.toList (fun c => .str ⟨#[c]⟩) (fun c => .str ((⟨#[c]⟩ : Str) ++ (" 1 stay" : Str))) (ei_str (ev_str ⟨_, rfl, rfl, by decide +kernel, fun c hc => ?_, ?_⟩)))⟩
    · refine gg_name ?_
      repeat walk_at "ze"
      refine o_addS ?_ ⟨rfl, rfl⟩
      have h7 : (" 1 stay" : Str).length = 7 := by decide +kernel
      rw [h7]
      show 1 + 7 ≤ 100000
      decide
    refine ⟨("bcdef" : Str).cps.toList.map fun c => (⟨#[c]⟩ : Str) ++ (" 1 stay" : Str), by rw [List.map_map]; rfl, by decide +kernel, ?_⟩
    change thenO _ _ (Out.nx (List.set _ _ (Slot.dt (.str farM))))
    walk_at "zn"
    refine r_seq (r_set ?_)
    repeat (first | (walk_at "ze") | (with_reducible refine o_neg ?_) | (with_reducible refine o_addL (by decide +kernel) ?_) | (with_reducible refine o_addS (by decide +kernel) ?_) | (refine ⟨by decide +kernel, ?_⟩) | (refine r_seq (r_set ?_)))
    refine r_ret ?_
    repeat (first | (walk_at "ze") | (with_reducible refine o_neg ?_) | (with_reducible refine o_addL (by decide +kernel) ?_) | (with_reducible refine o_addS (by decide +kernel) ?_) | (refine ⟨by decide +kernel, ?_⟩) | (refine r_seq (r_set ?_)))
    exact k
end
end Lw

namespace Lw
open PySem PySem.Spec PyProof.Rows L2 Evl Z
local macro_rules | `(tactic| walk_at "ze") => `(tactic| (first
  | ((with_reducible show EvS _ _ _ (tVar _) _ _); refine ev_var rfl ?_)
  | ((with_reducible show EvS _ _ _ (tOp (rIx _) (tVar _) _) _ _); refine ev_ixO rfl ?_)
  | ((with_reducible show EvS _ _ _ (tCB (rLenU _) (tCons (tVar _) tNil)) _ _); refine ev_lenO rfl ?_)
  | (with_reducible first
    | refine ei_str ?_
    | refine ei_list ?_
    | refine ei_tup ?_
    | refine ei_enum ?_
    | refine ei_rng1 ?_
    | refine ei_rng2 ?_
    | refine ei_rng3 ?_
    | refine ei_zip ?_
    | refine gg_name ?_
    | refine ev_int ?_
    | refine ev_str ?_
    | refine ev_bl ?_
    | refine ev_non ?_
    | refine ea_nil ?_
    | refine ea_cons ?_
    | refine ev_op ?_
    | refine ev_un ?_
    | refine ev_cb ?_
    | refine et_test ?_
    | refine et_B ?_
    | refine et_not ?_
    | refine et_truth ?_
    | refine eo_none ?_
    | refine eo_some ?_
    | refine ev_slice ?_
    | refine ev_tup ?_
    | refine ev_chain ?_
    | refine ev_lst ?_
    | refine o_add ?_
    | refine o_sub ?_
    | refine o_cmp ?_
    | refine o_cmpS ?_
    | refine o_eqS ?_
    | refine o_neS ?_
    | refine o_eqI ?_
    | refine o_neI ?_
    | refine c_int ?_
    | refine c_intB ?_
    | refine c_abs ?_
    | refine c_max2 ?_
    | refine c_min2 ?_
    | refine c_tupL ?_
    | refine c_tupT ?_
    | refine c_listL ?_
    | refine c_listT ?_
    | refine o_isN ?_
    | refine o_notN ?_
    | refine el_lst ?_)
  | ((with_reducible show Cl _ (rLenU _) [_] _); refine c_len (by intro s hs; cases hs <;> first | assumption | omega) rfl ?_)))
local macro_rules | `(tactic| walk_at "zn") => `(tactic| try simp only [List.map_cons, List.map_nil, wipeR_n, wipeR_c, List.set_cons_zero, List.set_cons_succ])
def PLaw : PP := fun ds Φ Θ => ∃ ns : List Int, ds = [.scr ns] ∧ ns.length ≤ 63 ∧ Φ (.bl true)
theorem row_ok {p : Str × Int} (h : p ∈ rowsL ++ moreL) : fineT p.1 = true ∧ saidM p.1 = p.2 := by
  have := List.all_eq_true.mp rows_ok p h
  rw [Bool.and_eq_true, beq_iff_eq] at this
  exact this
theorem tl_cut7 (w : Str) : TL.tl (cutS w none (some 7)) = (TL.tl w).take 7 := by
  have e : TL.tl (cutS w none (some 7)) = ((TL.tl w).drop (HT.sIx w.length 0 none)).take (HT.sIx w.length w.length (some 7) - HT.sIx w.length 0 none) := rfl
  rw [e, HT.sIx_none, List.drop_zero, show HT.sIx w.length w.length (some 7) = min 7 w.length from HT.sIx_nat _ _ 7, Nat.sub_zero, lenL]
  by_cases h : 7 ≤ (TL.tl w).length
  · rw [Nat.min_eq_left h]
  · rw [Nat.min_eq_right (by omega), List.take_of_length_le (Nat.le_refl _), List.take_of_length_le (by omega)]
theorem nmCut {z : Str} (h1 : 1 ≤ z.length) (h3 : isLow z = true) : NameOk (cutS (z ++ ("a" : Str)) none (some 7)) := by
  have ea : TL.tl ("a" : Str) = [97] := by decide +kernel
  have et : TL.tl (cutS (z ++ ("a" : Str)) none (some 7)) = (TL.tl z ++ [97]).take 7 := by rw [tl_cut7, TL.tl_append, ea]
  rw [lenL] at h1
  refine ⟨?_, ?_⟩
  · unfold isNameM
    rw [lenL, et, List.length_take, List.length_append]
    have hl : isLow (cutS (z ++ ("a" : Str)) none (some 7)) = true := by
      show (TL.tl (cutS (z ++ ("a" : Str)) none (some 7))).all Letter = true
      rw [et]
      refine List.all_eq_true.mpr fun c hc => ?_
      have hc := List.mem_of_mem_take hc
      rw [List.mem_append] at hc
      rcases hc with hc | hc
      · exact List.all_eq_true.mp h3 c hc
      · rw [List.mem_singleton] at hc
        subst hc
        decide
    rw [hl]
    simp only [Bool.and_true, Bool.and_eq_true, decide_eq_true_eq, List.length_singleton]
    omega
  · rw [beq_eq_false_iff_ne]
    intro e
    have e2 : (TL.tl z ++ [97]).take 7 = [122, 122] := by
      rw [← et, e]
      decide +kernel
    cases hz : TL.tl z with
    | nil => rw [hz] at h1; simp at h1
    | cons x r =>
      rw [hz] at e2
      cases r with
      | nil => simp at e2
      | cons y r =>
        cases r with
        | nil => simp at e2
        | cons w r => simp at e2
theorem nmA : NameOk (cutS ("a" : Str) none (some 7)) := ⟨by decide +kernel, by decide +kernel⟩
theorem nmS : NameOk (cutS ("stay" : Str) none (some 7)) := ⟨by decide +kernel, by decide +kernel⟩
theorem nmZ : NameOk (cutS ("z" : Str) none (some 7)) := ⟨by decide +kernel, by decide +kernel⟩
section
variable {P : Program} {w : World} {K : PySem.W.Frag} {mg : Str → Option Value} {base : Heap} {A : Ad}
theorem ok_law (T : Txt K mg A) (G__law_rows : FnOk P w K mg base (L2.CX P w) 1 A.a__law_rows A.d__law_rows [] (spP K PRows)) (G__law_more_rows : FnOk P w K mg base (L2.CX P w) 1 A.a__law_more_rows A.d__law_more_rows [] (spP K PMore)) (G__law_feed : FnOk P w K mg base (L2.CX P w) 1 A.a__law_feed A.d__law_feed ["script", "k"] (spL K PFeed)) (G__law_said : FnOk P w K mg base (L2.CX P w) 6 A.a__law_said A.d__law_said ["text"] (spP K PSaid)) (G__law_told_right : FnOk P w K mg base (L2.CX P w) 6 A.a__law_told_right A.d__law_told_right ["name"] (spP K PTold)) (G__law_pick : FnOk P w K mg base (L2.CX P w) 2 A.a__law_pick A.d__law_pick ["feed", "some"] (spQ K PPick)) (G__law_word : FnOk P w K mg base (L2.CX P w) 3 A.a__law_word A.d__law_word ["feed"] (spQ K PWord)) : FnOk P w K mg base (L2.CX P w) 7 A.a_law A.d_law ["script"] (spP K PLaw) := by
  refine T.F_law.okX sc_law (fun vs H Q E h => spP_len h fun ds Φ Θ hp => by obtain ⟨_, rfl, _⟩ := hp; rfl) (fun cdv A' outer s H vs Q E hr h => ⟨_, (pss_cons (ps_for (passes_of rfl) rfl (pi_list (pe_op op_addU (pe_callSD0 G__law_rows (hr.mono (by decide)) rfl T.g__law_rows T.F__law_rows.kp T.b__law_rows .nil (fun σ => passAt (W := fun cls d _ H => E cls d H) (takes_of rfl rfl rfl rfl) σ)) (pe_callSD0 G__law_more_rows (hr.mono (by decide)) rfl T.g__law_more_rows T.F__law_more_rows.kp T.b__law_more_rows .nil (fun σ => passAt (W := fun cls d _ H => E cls d H) (takes_of rfl rfl rfl rfl) σ)))) (pg_tupK (K := K) (n := 2) rfl rfl (pgs_cons (pg_name (i := 1) sc_law.nd rfl (by first | exact Or.inl rfl | exact Or.inr rfl)) (pgs_cons (pg_name (i := 2) sc_law.nd rfl (by first | exact Or.inl rfl | exact Or.inr rfl)) pgs_nil))) (pss_one (ps_if (pt_cmpR (op_neU hr.units) (pe_callSD G__law_said (hr.mono (by decide)) rfl T.g__law_said T.F__law_said.kp T.b__law_said .nil (fun σ => passAt (W := fun cls d _ H => E cls d H) (takes_of rfl rfl rfl rfl) σ) (pa_cons (pv 1) pa_nil)) (pv 2) (nomark _)) (pss_one (ps_ret pe_bl)) pss_nil))) (pss_cons (ps_for (passes_of rfl) rfl (pi_range1 (by rfl) T.m_range (pa_cons (pe_callB (call_max2 rfl) (by rfl) T.m_max (by decide +kernel) (pa_cons pe_int (pa_cons (pe_callB (call_min2 rfl) (by rfl) T.m_min (by decide +kernel) (pa_cons pe_int (pa_cons (pe_callB call_len (by rfl) T.m_len PySem.boot_len (pa_cons (pv 0) pa_nil)) pa_nil))) pa_nil))) pa_nil)) (pg_name (i := 3) sc_law.nd rfl (by first | exact Or.inl rfl | exact Or.inr rfl)) (pss_cons (ps_set (i := 4) sc_law.nd rfl (by first | exact Or.inl rfl | exact Or.inr rfl) (pe_callSD G__law_feed (hr.mono (by decide)) rfl T.g__law_feed T.F__law_feed.kp T.b__law_feed .nil (fun σ => passAt (W := fun cls d _ H => E cls d H) (takes_of rfl rfl rfl rfl) σ) (pa_cons (pv 0) (pa_cons (pv 3) pa_nil)))) (pss_one (ps_if (pt_not (pt_truth (pe_callSD G__law_told_right (hr.mono (by decide)) rfl T.g__law_told_right T.F__law_told_right.kp T.b__law_told_right .nil (fun σ => passAt (W := fun cls d _ H => E cls d H) (takes_of rfl rfl rfl rfl) σ) (pa_cons (pe_slice sl_U (pe_callSD G__law_pick (hr.mono (by decide)) rfl T.g__law_pick T.F__law_pick.kp T.b__law_pick .nil (fun σ => passAt (W := fun cls d _ H => E cls d H) (takes_of rfl rfl rfl rfl) σ) (pa_cons (pv 4) (pa_cons (pe_lst (pa_cons pe_str (pa_cons pe_str (pa_cons pe_str (pa_cons (pe_op op_addU (pe_callSD G__law_word (hr.mono (by decide)) rfl T.g__law_word T.F__law_word.kp T.b__law_word .nil (fun σ => passAt (W := fun cls d _ H => E cls d H) (takes_of rfl rfl rfl rfl) σ) (pa_cons (pv 4) pa_nil)) pe_str) pa_nil))))) pa_nil))) po_none (po_some pe_int)) pa_nil)) (by intro _; rfl))) (pss_one (ps_ret pe_bl)) pss_nil)))) (pss_one (ps_ret pe_bl)))), ?_⟩)
  · refine body_pure (fun ds Φ Θ hp => ?_) h
    dsimp only [L2.cxOf]
    obtain ⟨ns, rfl, hl, k⟩ := hp
    rw [show rho0 N_law.length [.scr ns] = [.dt (.scr ns), .un, .un, .un, .un] from rfl]
    refine r_seq (r_for (ei_list (ev_op (ev_call ?_))))
    repeat walk_at "ze"
    refine ⟨fun d => d = .lst (rowsL.map dueD), noT, ⟨rfl, rfl⟩, ?_, fun _ _ z => z.elim⟩
    rintro _ rfl
    refine ev_call ?_
    repeat walk_at "ze"
    refine ⟨fun d => d = .lst (moreL.map dueD), noT, ⟨rfl, rfl⟩, ?_, fun _ _ z => z.elim⟩
    rintro _ rfl
    refine o_addL (by rw [List.length_map, List.length_map]; decide +kernel) ?_
    rw [← List.map_append]
    refine ⟨_, rfl, fun n ρ => ∃ (s1 s2 s3 s4 : Slot), ρ = [.dt (.scr ns), s1, s2, s3, s4], ⟨.un, .un, .un, .un, rfl⟩, ?_, ?_⟩
    · rintro n d ρ hd ⟨s1, s2, s3, s4, rfl⟩
      obtain ⟨p, hp, rfl, hm⟩ := map_at hd
      obtain ⟨hf, hs⟩ := row_ok hm
      refine gg_tup rfl (gs_cons ?_)
      refine gg_name (gs_cons ?_)
      refine gg_name (gs_nil ?_)
      walk_at "zn"
      refine r_when ?_
      repeat walk_at "ze"
      refine ev_call ?_
      repeat walk_at "ze"
      refine ⟨fun d => d = .int (saidM p.1), noT, ⟨p.1, rfl, hf, rfl⟩, ?_, fun _ _ z => z.elim⟩
      rintro _ rfl
      repeat walk_at "ze"
      have e : (saidM p.1 != p.2) = false := by
        rw [hs]
        show (!(p.2 == p.2)) = false
        rw [beq_self_eq_true]
        rfl
      exact ⟨_, rfl, fun z => (by rw [e] at z; cases z), fun _ => ⟨.dt (.str p.1), .dt (.int p.2), s3, s4, rfl⟩⟩
    rintro ρ ⟨s1, s2, s3, s4, rfl⟩
    refine r_seq (r_for (ei_rng1 ?_))
    repeat walk_at "ze"
    have hm : ∃ m : Int, (if (if (ns.length : Int) < 4 then (ns.length : Int) else 4) > 1 then (if (ns.length : Int) < 4 then (ns.length : Int) else 4) else 1) = m ∧ 0 ≤ m ∧ m ≤ 4 := ⟨_, rfl, by split <;> split <;> omega, by split <;> split <;> omega⟩
    obtain ⟨m, em, hm0, hm4⟩ := hm
    rw [em]
    refine ⟨_, rfl, by omega, by omega, fun n ρ => ∃ (s1 s2 s3 s4 : Slot), ρ = [.dt (.scr ns), s1, s2, s3, s4], ⟨s1, s2, s3, s4, rfl⟩, ?_, ?_⟩
    · rintro n d ρ hd ⟨s1, s2, s3, s4, rfl⟩
      have hn : n < m.toNat := by
        have := (List.getElem?_eq_some_iff.mp hd).1
        rwa [List.length_map, List.length_range] at this
      rw [List.getElem?_map, List.getElem?_range hn] at hd
      cases hd
      refine gg_name ?_
      walk_at "zn"
      refine r_seq (r_setL (el_call ?_))
      repeat walk_at "ze"
      refine ⟨fun xs => Feed xs, ⟨ns, _, rfl, by omega, by omega, fun xs h => h⟩, fun xs hf q => ?_⟩
      walk_at "zn"
      refine r_when ?_
      refine et_not (et_truth (ev_call (Z.ea_cons (ev_slice (ev_callQ rfl ?_)))))
      repeat walk_at "ze"
      refine ev_callQ rfl ?_
      repeat walk_at "ze"
      refine ⟨_, rfl, fun d xs2 => ∃ z : Str, d = .str z ∧ 1 ≤ z.length ∧ z.length ≤ 8 ∧ isLow z = true ∧ Feed xs2, ⟨hf, rfl, fun z xs' h1 h2 h3 h4 => ⟨z, rfl, h1, h2, h3, h4⟩⟩, ?_⟩
      rintro _ xs2 ⟨z, rfl, z1, z2, z3, hf2⟩
      walk_at "zn"
      repeat walk_at "ze"
      have la : ("a" : Str).length = 1 := by decide +kernel
      refine o_addS (by rw [la]; omega) ?_
      repeat walk_at "ze"
      refine ⟨by show 4 ≤ 100000; decide, ?_⟩
      repeat walk_at "ze"
      refine ⟨_, rfl, fun d xs3 => d ∈ ([.str "a", .str "stay", .str "z", .str (z ++ ("a" : Str))] : List D) ∧ Feed xs3, ⟨hf2, _, rfl, by simp, by show 4 < 100000; decide, fun y xs' hy h => ⟨hy, h⟩⟩, ?_⟩
      rintro d xs3 ⟨hd, hf3⟩
      have ht : ∃ t : Str, d = .str t ∧ t.length ≤ 100000 ∧ NameOk (cutS t none (some 7)) := by
        simp only [List.mem_cons, List.not_mem_nil, or_false] at hd
        rcases hd with rfl | rfl | rfl | rfl
        · exact ⟨_, rfl, by decide +kernel, nmA⟩
        · exact ⟨_, rfl, by decide +kernel, nmS⟩
        · exact ⟨_, rfl, by decide +kernel, nmZ⟩
        · exact ⟨_, rfl, by rw [len_app, la]; omega, nmCut z1 z3⟩
      obtain ⟨t, rfl, tl, tn⟩ := ht
      refine ⟨fun z e => (by cases e; exact tl), ?_⟩
      repeat walk_at "ze"
      refine ⟨_, rfl, _, rfl, ?_⟩
      repeat walk_at "ze"
      refine ⟨fun d => d = .bl true, noT, ⟨_, rfl, tn, rfl⟩, ?_, fun _ _ z => z.elim⟩
      rintro _ rfl
      exact ⟨fun s e => (by cases e), _, rfl, fun z => (by cases z), fun _ => ⟨_, _, _, _, rfl⟩⟩
    · rintro ρ ⟨s1, s2, s3, s4, rfl⟩
      exact r_ret (ev_bl k)
end
end Lw

namespace Lw
open PySem PySem.Spec PyProof.Rows L2 Evl Z
open PySem.W in
theorem txt_mk {K : PySem.W.Frag} {h : Heap} {mg : Str → Option Value} (X : K.In h) (G : h.Ns mainGlobals mg)
    {C_WalkError C_InvalidText C_NoWay C_Site f_i_InvalidText f_i_NoWay f_init f_parse p_parse f_strm f_eqm f_turned f_with_limits f_is_name f__places_of f__place_of f__are_ways f__row_text f__ways_back f__law_feed f__law_take f__law_pick f__law_word f__law_said f__law_rows f__law_more_rows f__law_back f__law_told_right f_law ka_LIMIT_WORDS ka_STEP_WORDS : Addr} {od_i_InvalidText an_i_InvalidText od_i_NoWay an_i_NoWay od_init an_init od_parse an_parse od_strm an_strm od_eqm an_eqm od_turned an_turned od_with_limits an_with_limits od_is_name an_is_name od__places_of an__places_of od__place_of an__place_of od__are_ways an__are_ways od__row_text an__row_text od__ways_back an__ways_back od__law_feed an__law_feed od__law_take an__law_take od__law_pick an__law_pick od__law_word an__law_word od__law_said an__law_said od__law_rows an__law_rows od__law_more_rows an__law_more_rows od__law_back an__law_back od__law_told_right an__law_told_right od_law an_law kd_LIMIT_WORDS kd_STEP_WORDS : Option Addr} {sl_i_InvalidText sl_i_NoWay sl_init sl_parse sl_strm sl_eqm sl_turned sl_with_limits sl_is_name sl__places_of sl__place_of sl__are_ways sl__row_text sl__ways_back sl__law_feed sl__law_take sl__law_pick sl__law_word sl__law_said sl__law_rows sl__law_more_rows sl__law_back sl__law_told_right sl_law ks_LIMIT_WORDS ks_STEP_WORDS : Array (Option Value)} {oc_i_InvalidText kV_i_InvalidText dc_i_InvalidText pm_i_InvalidText cd_i_InvalidText ct_i_InvalidText oc_i_NoWay kV_i_NoWay dc_i_NoWay pm_i_NoWay cd_i_NoWay ct_i_NoWay oc_init kV_init dc_init pm_init cd_init ct_init oc_parse kV_parse dc_parse pm_parse cd_parse ct_parse oc_strm kV_strm dc_strm pm_strm cd_strm ct_strm oc_eqm kV_eqm dc_eqm pm_eqm cd_eqm ct_eqm oc_turned kV_turned dc_turned pm_turned cd_turned ct_turned oc_with_limits kV_with_limits dc_with_limits pm_with_limits cd_with_limits ct_with_limits oc_is_name kV_is_name dc_is_name pm_is_name cd_is_name ct_is_name oc__places_of kV__places_of dc__places_of pm__places_of cd__places_of ct__places_of oc__place_of kV__place_of dc__place_of pm__place_of cd__place_of ct__place_of oc__are_ways kV__are_ways dc__are_ways pm__are_ways cd__are_ways ct__are_ways oc__row_text kV__row_text dc__row_text pm__row_text cd__row_text ct__row_text oc__ways_back kV__ways_back dc__ways_back pm__ways_back cd__ways_back ct__ways_back oc__law_feed kV__law_feed dc__law_feed pm__law_feed cd__law_feed ct__law_feed oc__law_take kV__law_take dc__law_take pm__law_take cd__law_take ct__law_take oc__law_pick kV__law_pick dc__law_pick pm__law_pick cd__law_pick ct__law_pick oc__law_word kV__law_word dc__law_word pm__law_word cd__law_word ct__law_word oc__law_said kV__law_said dc__law_said pm__law_said cd__law_said ct__law_said oc__law_rows kV__law_rows dc__law_rows pm__law_rows cd__law_rows ct__law_rows oc__law_more_rows kV__law_more_rows dc__law_more_rows pm__law_more_rows cd__law_more_rows ct__law_more_rows oc__law_back kV__law_back dc__law_back pm__law_back cd__law_back ct__law_back oc__law_told_right kV__law_told_right dc__law_told_right pm__law_told_right cd__law_told_right ct__law_told_right oc_law kV_law dc_law pm_law cd_law ct_law : Value} {rs_parse : List Value} {t_MOST_PLACES t_LONGEST_NAME t0_LIMIT_WORDS t1_LIMIT_WORDS t2_LIMIT_WORDS t3_LIMIT_WORDS t4_LIMIT_WORDS t5_LIMIT_WORDS t6_LIMIT_WORDS t7_LIMIT_WORDS t8_LIMIT_WORDS t9_LIMIT_WORDS t0_STEP_WORDS t1_STEP_WORDS t2_STEP_WORDS : Tok} {kn_LIMIT_WORDS kn_STEP_WORDS : Nat}
    (z_abs : PySem.W.nsIn K mainGlobals "abs" = some none)
    (z_all : PySem.W.nsIn K mainGlobals "all" = some none)
    (z_enumerate : PySem.W.nsIn K mainGlobals "enumerate" = some none)
    (z_int : PySem.W.nsIn K mainGlobals "int" = some none)
    (z_isinstance : PySem.W.nsIn K mainGlobals "isinstance" = some none)
    (z_len : PySem.W.nsIn K mainGlobals "len" = some none)
    (z_list : PySem.W.nsIn K mainGlobals "list" = some none)
    (z_max : PySem.W.nsIn K mainGlobals "max" = some none)
    (z_min : PySem.W.nsIn K mainGlobals "min" = some none)
    (z_range : PySem.W.nsIn K mainGlobals "range" = some none)
    (z_sorted : PySem.W.nsIn K mainGlobals "sorted" = some none)
    (z_str : PySem.W.nsIn K mainGlobals "str" = some none)
    (z_tuple : PySem.W.nsIn K mainGlobals "tuple" = some none)
    (z_zip : PySem.W.nsIn K mainGlobals "zip" = some none)
    (gc_WalkError : PySem.W.nsIn K mainGlobals "WalkError" = some (some (.ref C_WalkError)))
    (gc_InvalidText : PySem.W.nsIn K mainGlobals "InvalidText" = some (some (.ref C_InvalidText)))
    (gc_NoWay : PySem.W.nsIn K mainGlobals "NoWay" = some (some (.ref C_NoWay)))
    (gc_Site : PySem.W.nsIn K mainGlobals "Site" = some (some (.ref C_Site)))
    (a_i_InvalidText : PySem.W.findIn K (.ref C_InvalidText) "__init__" = some (some (.ref f_i_InvalidText)))
    (l_i_InvalidText : K.lookup f_i_InvalidText = some ⟨oc_i_InvalidText, od_i_InvalidText, .func (PySem.W.fnOf "__init__" "InvalidText.__init__" (defArgs s_i_InvalidText) (defBody s_i_InvalidText) (defScope s_i_InvalidText) .none kV_i_InvalidText dc_i_InvalidText pm_i_InvalidText an_i_InvalidText cd_i_InvalidText ct_i_InvalidText), sl_i_InvalidText⟩)
    (c_i_InvalidText : PySem.W.codeIn K cd_i_InvalidText "InvalidText.__init__" = true)
    (k_i_InvalidText : PySem.W.keepIn K (.ref f_i_InvalidText) = true)
    (a_i_NoWay : PySem.W.findIn K (.ref C_NoWay) "__init__" = some (some (.ref f_i_NoWay)))
    (l_i_NoWay : K.lookup f_i_NoWay = some ⟨oc_i_NoWay, od_i_NoWay, .func (PySem.W.fnOf "__init__" "NoWay.__init__" (defArgs s_i_NoWay) (defBody s_i_NoWay) (defScope s_i_NoWay) .none kV_i_NoWay dc_i_NoWay pm_i_NoWay an_i_NoWay cd_i_NoWay ct_i_NoWay), sl_i_NoWay⟩)
    (c_i_NoWay : PySem.W.codeIn K cd_i_NoWay "NoWay.__init__" = true)
    (k_i_NoWay : PySem.W.keepIn K (.ref f_i_NoWay) = true)
    (a_init : PySem.W.findIn K (.ref C_Site) "__init__" = some (some (.ref f_init)))
    (l_init : K.lookup f_init = some ⟨oc_init, od_init, .func (PySem.W.fnOf "__init__" "Site.__init__" (defArgs s_init) (defBody s_init) (defScope s_init) .none kV_init dc_init pm_init an_init cd_init ct_init), sl_init⟩)
    (c_init : PySem.W.codeIn K cd_init "Site.__init__" = true)
    (k_init : PySem.W.keepIn K (.ref f_init) = true)
    (sf_parse : PySem.W.findCls K (.ref C_Site) (.type "type") "parse" = some (.get (.builtin "staticmethod.__get__") (.ref p_parse) .none (.ref C_Site)))
    (a_parse : PySem.W.recIn K p_parse "staticmethod" = some (.ref f_parse :: rs_parse))
    (sr_parse : PySem.W.readsIn K C_Site (.type "type") = true)
    (sg_parse : PySem.W.specialIn K (.ref C_Site) "__getattribute__" = some (some (.builtin "type.__getattribute__")))
    (l_parse : K.lookup f_parse = some ⟨oc_parse, od_parse, .func (PySem.W.fnOf "parse" "Site.parse" (defArgs s_parse) (defBody s_parse) (defScope s_parse) .none kV_parse dc_parse pm_parse an_parse cd_parse ct_parse), sl_parse⟩)
    (c_parse : PySem.W.codeIn K cd_parse "Site.parse" = true)
    (k_parse : PySem.W.keepIn K (.ref f_parse) = true)
    (a_strm : PySem.W.findIn K (.ref C_Site) "__str__" = some (some (.ref f_strm)))
    (l_strm : K.lookup f_strm = some ⟨oc_strm, od_strm, .func (PySem.W.fnOf "__str__" "Site.__str__" (defArgs s_strm) (defBody s_strm) (defScope s_strm) .none kV_strm dc_strm pm_strm an_strm cd_strm ct_strm), sl_strm⟩)
    (c_strm : PySem.W.codeIn K cd_strm "Site.__str__" = true)
    (k_strm : PySem.W.keepIn K (.ref f_strm) = true)
    (a_eqm : PySem.W.findIn K (.ref C_Site) "__eq__" = some (some (.ref f_eqm)))
    (l_eqm : K.lookup f_eqm = some ⟨oc_eqm, od_eqm, .func (PySem.W.fnOf "__eq__" "Site.__eq__" (defArgs s_eqm) (defBody s_eqm) (defScope s_eqm) .none kV_eqm dc_eqm pm_eqm an_eqm cd_eqm ct_eqm), sl_eqm⟩)
    (c_eqm : PySem.W.codeIn K cd_eqm "Site.__eq__" = true)
    (k_eqm : PySem.W.keepIn K (.ref f_eqm) = true)
    (a_turned : PySem.W.nsIn K mainGlobals "turned" = some (some (.ref f_turned)))
    (l_turned : K.lookup f_turned = some ⟨oc_turned, od_turned, .func (PySem.W.fnOf "turned" "turned" (defArgs s_turned) (defBody s_turned) (defScope s_turned) .none kV_turned dc_turned pm_turned an_turned cd_turned ct_turned), sl_turned⟩)
    (c_turned : PySem.W.codeIn K cd_turned "turned" = true)
    (k_turned : PySem.W.keepIn K (.ref f_turned) = true)
    (a_with_limits : PySem.W.nsIn K mainGlobals "with_limits" = some (some (.ref f_with_limits)))
    (l_with_limits : K.lookup f_with_limits = some ⟨oc_with_limits, od_with_limits, .func (PySem.W.fnOf "with_limits" "with_limits" (defArgs s_with_limits) (defBody s_with_limits) (defScope s_with_limits) .none kV_with_limits dc_with_limits pm_with_limits an_with_limits cd_with_limits ct_with_limits), sl_with_limits⟩)
    (c_with_limits : PySem.W.codeIn K cd_with_limits "with_limits" = true)
    (k_with_limits : PySem.W.keepIn K (.ref f_with_limits) = true)
    (a_is_name : PySem.W.nsIn K mainGlobals "is_name" = some (some (.ref f_is_name)))
    (l_is_name : K.lookup f_is_name = some ⟨oc_is_name, od_is_name, .func (PySem.W.fnOf "is_name" "is_name" (defArgs s_is_name) (defBody s_is_name) (defScope s_is_name) .none kV_is_name dc_is_name pm_is_name an_is_name cd_is_name ct_is_name), sl_is_name⟩)
    (c_is_name : PySem.W.codeIn K cd_is_name "is_name" = true)
    (k_is_name : PySem.W.keepIn K (.ref f_is_name) = true)
    (a__places_of : PySem.W.nsIn K mainGlobals "_places_of" = some (some (.ref f__places_of)))
    (l__places_of : K.lookup f__places_of = some ⟨oc__places_of, od__places_of, .func (PySem.W.fnOf "_places_of" "_places_of" (defArgs s__places_of) (defBody s__places_of) (defScope s__places_of) .none kV__places_of dc__places_of pm__places_of an__places_of cd__places_of ct__places_of), sl__places_of⟩)
    (c__places_of : PySem.W.codeIn K cd__places_of "_places_of" = true)
    (k__places_of : PySem.W.keepIn K (.ref f__places_of) = true)
    (a__place_of : PySem.W.nsIn K mainGlobals "_place_of" = some (some (.ref f__place_of)))
    (l__place_of : K.lookup f__place_of = some ⟨oc__place_of, od__place_of, .func (PySem.W.fnOf "_place_of" "_place_of" (defArgs s__place_of) (defBody s__place_of) (defScope s__place_of) .none kV__place_of dc__place_of pm__place_of an__place_of cd__place_of ct__place_of), sl__place_of⟩)
    (c__place_of : PySem.W.codeIn K cd__place_of "_place_of" = true)
    (k__place_of : PySem.W.keepIn K (.ref f__place_of) = true)
    (a__are_ways : PySem.W.nsIn K mainGlobals "_are_ways" = some (some (.ref f__are_ways)))
    (l__are_ways : K.lookup f__are_ways = some ⟨oc__are_ways, od__are_ways, .func (PySem.W.fnOf "_are_ways" "_are_ways" (defArgs s__are_ways) (defBody s__are_ways) (defScope s__are_ways) .none kV__are_ways dc__are_ways pm__are_ways an__are_ways cd__are_ways ct__are_ways), sl__are_ways⟩)
    (c__are_ways : PySem.W.codeIn K cd__are_ways "_are_ways" = true)
    (k__are_ways : PySem.W.keepIn K (.ref f__are_ways) = true)
    (a__row_text : PySem.W.nsIn K mainGlobals "_row_text" = some (some (.ref f__row_text)))
    (l__row_text : K.lookup f__row_text = some ⟨oc__row_text, od__row_text, .func (PySem.W.fnOf "_row_text" "_row_text" (defArgs s__row_text) (defBody s__row_text) (defScope s__row_text) .none kV__row_text dc__row_text pm__row_text an__row_text cd__row_text ct__row_text), sl__row_text⟩)
    (c__row_text : PySem.W.codeIn K cd__row_text "_row_text" = true)
    (k__row_text : PySem.W.keepIn K (.ref f__row_text) = true)
    (a__ways_back : PySem.W.nsIn K mainGlobals "_ways_back" = some (some (.ref f__ways_back)))
    (l__ways_back : K.lookup f__ways_back = some ⟨oc__ways_back, od__ways_back, .func (PySem.W.fnOf "_ways_back" "_ways_back" (defArgs s__ways_back) (defBody s__ways_back) (defScope s__ways_back) .none kV__ways_back dc__ways_back pm__ways_back an__ways_back cd__ways_back ct__ways_back), sl__ways_back⟩)
    (c__ways_back : PySem.W.codeIn K cd__ways_back "_ways_back" = true)
    (k__ways_back : PySem.W.keepIn K (.ref f__ways_back) = true)
    (a__law_feed : PySem.W.nsIn K mainGlobals "_law_feed" = some (some (.ref f__law_feed)))
    (l__law_feed : K.lookup f__law_feed = some ⟨oc__law_feed, od__law_feed, .func (PySem.W.fnOf "_law_feed" "_law_feed" (defArgs s__law_feed) (defBody s__law_feed) (defScope s__law_feed) .none kV__law_feed dc__law_feed pm__law_feed an__law_feed cd__law_feed ct__law_feed), sl__law_feed⟩)
    (c__law_feed : PySem.W.codeIn K cd__law_feed "_law_feed" = true)
    (k__law_feed : PySem.W.keepIn K (.ref f__law_feed) = true)
    (a__law_take : PySem.W.nsIn K mainGlobals "_law_take" = some (some (.ref f__law_take)))
    (l__law_take : K.lookup f__law_take = some ⟨oc__law_take, od__law_take, .func (PySem.W.fnOf "_law_take" "_law_take" (defArgs s__law_take) (defBody s__law_take) (defScope s__law_take) .none kV__law_take dc__law_take pm__law_take an__law_take cd__law_take ct__law_take), sl__law_take⟩)
    (c__law_take : PySem.W.codeIn K cd__law_take "_law_take" = true)
    (k__law_take : PySem.W.keepIn K (.ref f__law_take) = true)
    (a__law_pick : PySem.W.nsIn K mainGlobals "_law_pick" = some (some (.ref f__law_pick)))
    (l__law_pick : K.lookup f__law_pick = some ⟨oc__law_pick, od__law_pick, .func (PySem.W.fnOf "_law_pick" "_law_pick" (defArgs s__law_pick) (defBody s__law_pick) (defScope s__law_pick) .none kV__law_pick dc__law_pick pm__law_pick an__law_pick cd__law_pick ct__law_pick), sl__law_pick⟩)
    (c__law_pick : PySem.W.codeIn K cd__law_pick "_law_pick" = true)
    (k__law_pick : PySem.W.keepIn K (.ref f__law_pick) = true)
    (a__law_word : PySem.W.nsIn K mainGlobals "_law_word" = some (some (.ref f__law_word)))
    (l__law_word : K.lookup f__law_word = some ⟨oc__law_word, od__law_word, .func (PySem.W.fnOf "_law_word" "_law_word" (defArgs s__law_word) (defBody s__law_word) (defScope s__law_word) .none kV__law_word dc__law_word pm__law_word an__law_word cd__law_word ct__law_word), sl__law_word⟩)
    (c__law_word : PySem.W.codeIn K cd__law_word "_law_word" = true)
    (k__law_word : PySem.W.keepIn K (.ref f__law_word) = true)
    (a__law_said : PySem.W.nsIn K mainGlobals "_law_said" = some (some (.ref f__law_said)))
    (l__law_said : K.lookup f__law_said = some ⟨oc__law_said, od__law_said, .func (PySem.W.fnOf "_law_said" "_law_said" (defArgs s__law_said) (defBody s__law_said) (defScope s__law_said) .none kV__law_said dc__law_said pm__law_said an__law_said cd__law_said ct__law_said), sl__law_said⟩)
    (c__law_said : PySem.W.codeIn K cd__law_said "_law_said" = true)
    (k__law_said : PySem.W.keepIn K (.ref f__law_said) = true)
    (a__law_rows : PySem.W.nsIn K mainGlobals "_law_rows" = some (some (.ref f__law_rows)))
    (l__law_rows : K.lookup f__law_rows = some ⟨oc__law_rows, od__law_rows, .func (PySem.W.fnOf "_law_rows" "_law_rows" (defArgs s__law_rows) (defBody s__law_rows) (defScope s__law_rows) .none kV__law_rows dc__law_rows pm__law_rows an__law_rows cd__law_rows ct__law_rows), sl__law_rows⟩)
    (c__law_rows : PySem.W.codeIn K cd__law_rows "_law_rows" = true)
    (k__law_rows : PySem.W.keepIn K (.ref f__law_rows) = true)
    (a__law_more_rows : PySem.W.nsIn K mainGlobals "_law_more_rows" = some (some (.ref f__law_more_rows)))
    (l__law_more_rows : K.lookup f__law_more_rows = some ⟨oc__law_more_rows, od__law_more_rows, .func (PySem.W.fnOf "_law_more_rows" "_law_more_rows" (defArgs s__law_more_rows) (defBody s__law_more_rows) (defScope s__law_more_rows) .none kV__law_more_rows dc__law_more_rows pm__law_more_rows an__law_more_rows cd__law_more_rows ct__law_more_rows), sl__law_more_rows⟩)
    (c__law_more_rows : PySem.W.codeIn K cd__law_more_rows "_law_more_rows" = true)
    (k__law_more_rows : PySem.W.keepIn K (.ref f__law_more_rows) = true)
    (a__law_back : PySem.W.nsIn K mainGlobals "_law_back" = some (some (.ref f__law_back)))
    (l__law_back : K.lookup f__law_back = some ⟨oc__law_back, od__law_back, .func (PySem.W.fnOf "_law_back" "_law_back" (defArgs s__law_back) (defBody s__law_back) (defScope s__law_back) .none kV__law_back dc__law_back pm__law_back an__law_back cd__law_back ct__law_back), sl__law_back⟩)
    (c__law_back : PySem.W.codeIn K cd__law_back "_law_back" = true)
    (k__law_back : PySem.W.keepIn K (.ref f__law_back) = true)
    (a__law_told_right : PySem.W.nsIn K mainGlobals "_law_told_right" = some (some (.ref f__law_told_right)))
    (l__law_told_right : K.lookup f__law_told_right = some ⟨oc__law_told_right, od__law_told_right, .func (PySem.W.fnOf "_law_told_right" "_law_told_right" (defArgs s__law_told_right) (defBody s__law_told_right) (defScope s__law_told_right) .none kV__law_told_right dc__law_told_right pm__law_told_right an__law_told_right cd__law_told_right ct__law_told_right), sl__law_told_right⟩)
    (c__law_told_right : PySem.W.codeIn K cd__law_told_right "_law_told_right" = true)
    (k__law_told_right : PySem.W.keepIn K (.ref f__law_told_right) = true)
    (a_law : PySem.W.nsIn K mainGlobals "law" = some (some (.ref f_law)))
    (l_law : K.lookup f_law = some ⟨oc_law, od_law, .func (PySem.W.fnOf "law" "law" (defArgs s_law) (defBody s_law) (defScope s_law) .none kV_law dc_law pm_law an_law cd_law ct_law), sl_law⟩)
    (c_law : PySem.W.codeIn K cd_law "law" = true)
    (k_law : PySem.W.keepIn K (.ref f_law) = true)
    (n_MOST_PLACES : PySem.W.nsIn K mainGlobals "MOST_PLACES" = some (some (.int 6 t_MOST_PLACES)))
    (n_LONGEST_NAME : PySem.W.nsIn K mainGlobals "LONGEST_NAME" = some (some (.int 8 t_LONGEST_NAME)))
    (n_LIMIT_WORDS : PySem.W.nsIn K mainGlobals "LIMIT_WORDS" = some (some (.ref ka_LIMIT_WORDS)))
    (kl_LIMIT_WORDS : K.lookup ka_LIMIT_WORDS = some ⟨.type "tuple", kd_LIMIT_WORDS, .seq #[.str "0" t0_LIMIT_WORDS, .str "1" t1_LIMIT_WORDS, .str "2" t2_LIMIT_WORDS, .str "3" t3_LIMIT_WORDS, .str "4" t4_LIMIT_WORDS, .str "5" t5_LIMIT_WORDS, .str "6" t6_LIMIT_WORDS, .str "7" t7_LIMIT_WORDS, .str "8" t8_LIMIT_WORDS, .str "9" t9_LIMIT_WORDS] kn_LIMIT_WORDS, ks_LIMIT_WORDS⟩)
    (n_STEP_WORDS : PySem.W.nsIn K mainGlobals "STEP_WORDS" = some (some (.ref ka_STEP_WORDS)))
    (kl_STEP_WORDS : K.lookup ka_STEP_WORDS = some ⟨.type "tuple", kd_STEP_WORDS, .seq #[.str "1" t0_STEP_WORDS, .str "2" t1_STEP_WORDS, .str "3" t2_STEP_WORDS] kn_STEP_WORDS, ks_STEP_WORDS⟩)
    (ec_InvalidText : ∃ nm q N bs bm sn sub ab col dd k0 k1 k2 k3 k5, K.lookup C_InvalidText = some (excClassObj nm q C_InvalidText N bs bm true sn sub ab col dd k0 k1 k2 k3 k5 "ValueError.__new__") ∧ PySem.HandSPX.refsVE bm = true)
    (es_InvalidText : PySem.W.findIn K (.ref C_InvalidText) "__setattr__" = some (some (.builtin "object.__setattr__")))
    (eg_InvalidText : PySem.W.findIn K (.ref C_InvalidText) "__getattribute__" = some (some (.builtin "BaseException.__getattribute__")))
    (eh_InvalidText : PySem.W.findIn K (.ref C_InvalidText) "__getattr__" = some none)
    (ex_InvalidText : PySem.W.subIn K (.ref C_InvalidText) (.type "BaseException") = some true)
    (et_InvalidText : PySem.W.typeIn K (.ref C_InvalidText) = some (.type "type"))
    (ek_InvalidText : PySem.W.keepIn K (.ref C_InvalidText) = true)
    (ed_InvalidText : PySem.W.hasDictIn K C_InvalidText = true)
    (ef_InvalidText : PySem.W.findIn K (.ref C_InvalidText) "row" = some none)
    (ei_InvalidText : PySem.W.typeIn K (.ref f_i_InvalidText) = some (.type "function"))
    (ec_NoWay : ∃ nm q N bs bm sn sub ab col dd k0 k1 k2 k3 k5, K.lookup C_NoWay = some (excClassObj nm q C_NoWay N bs bm true sn sub ab col dd k0 k1 k2 k3 k5 "ValueError.__new__") ∧ PySem.HandSPX.refsVE bm = true)
    (es_NoWay : PySem.W.findIn K (.ref C_NoWay) "__setattr__" = some (some (.builtin "object.__setattr__")))
    (eg_NoWay : PySem.W.findIn K (.ref C_NoWay) "__getattribute__" = some (some (.builtin "BaseException.__getattribute__")))
    (eh_NoWay : PySem.W.findIn K (.ref C_NoWay) "__getattr__" = some none)
    (ex_NoWay : PySem.W.subIn K (.ref C_NoWay) (.type "BaseException") = some true)
    (et_NoWay : PySem.W.typeIn K (.ref C_NoWay) = some (.type "type"))
    (ek_NoWay : PySem.W.keepIn K (.ref C_NoWay) = true)
    (ed_NoWay : PySem.W.hasDictIn K C_NoWay = true)
    (ef_NoWay : PySem.W.findIn K (.ref C_NoWay) "place" = some none)
    (ei_NoWay : PySem.W.typeIn K (.ref f_i_NoWay) = some (.type "function"))
    (xs_InvalidText_InvalidText : PySem.W.subIn K (.ref C_InvalidText) (.ref C_InvalidText) = some true)
    (xs_InvalidText_NoWay : PySem.W.subIn K (.ref C_InvalidText) (.ref C_NoWay) = some false)
    (xs_NoWay_InvalidText : PySem.W.subIn K (.ref C_NoWay) (.ref C_InvalidText) = some false)
    (xs_NoWay_NoWay : PySem.W.subIn K (.ref C_NoWay) (.ref C_NoWay) = some true)
    (pg_Site : PySem.W.plainGet K C_Site Str.empty = true)
    (hd_Site : PySem.W.hasDictIn K C_Site = true)
    (po_Site : PySem.W.plainOver K C_Site = true)
    (sa_Site : PySem.W.findIn K (.ref C_Site) "__setattr__" = some (some (.builtin "object.__setattr__")))
    (mk_Site : PySem.W.makesIn K C_Site = true)
    (mf_Site : PySem.W.isFn K (.ref f_init) = true)
    (mp_Site : PySem.W.keepIn K (.ref C_Site) = true)
    (na_Site_names : PySem.W.findIn K (.ref C_Site) "names" = some none)
    (na_Site_limits : PySem.W.findIn K (.ref C_Site) "limits" = some none)
    (na_Site_stays : PySem.W.findIn K (.ref C_Site) "stays" = some none)
    (na_Site_ways : PySem.W.findIn K (.ref C_Site) "ways" = some none)
    (sm_Site : PySem.W.isFn K (.ref f_strm) = true) :
    Txt K mg { a_i_InvalidText := f_i_InvalidText, d_i_InvalidText := PySem.W.fnOf "__init__" "InvalidText.__init__" (defArgs s_i_InvalidText) (defBody s_i_InvalidText) (defScope s_i_InvalidText) .none kV_i_InvalidText dc_i_InvalidText pm_i_InvalidText an_i_InvalidText cd_i_InvalidText ct_i_InvalidText, a_i_NoWay := f_i_NoWay, d_i_NoWay := PySem.W.fnOf "__init__" "NoWay.__init__" (defArgs s_i_NoWay) (defBody s_i_NoWay) (defScope s_i_NoWay) .none kV_i_NoWay dc_i_NoWay pm_i_NoWay an_i_NoWay cd_i_NoWay ct_i_NoWay, a_init := f_init, d_init := PySem.W.fnOf "__init__" "Site.__init__" (defArgs s_init) (defBody s_init) (defScope s_init) .none kV_init dc_init pm_init an_init cd_init ct_init, a_parse := f_parse, d_parse := PySem.W.fnOf "parse" "Site.parse" (defArgs s_parse) (defBody s_parse) (defScope s_parse) .none kV_parse dc_parse pm_parse an_parse cd_parse ct_parse, a_strm := f_strm, d_strm := PySem.W.fnOf "__str__" "Site.__str__" (defArgs s_strm) (defBody s_strm) (defScope s_strm) .none kV_strm dc_strm pm_strm an_strm cd_strm ct_strm, a_eqm := f_eqm, d_eqm := PySem.W.fnOf "__eq__" "Site.__eq__" (defArgs s_eqm) (defBody s_eqm) (defScope s_eqm) .none kV_eqm dc_eqm pm_eqm an_eqm cd_eqm ct_eqm, a_turned := f_turned, d_turned := PySem.W.fnOf "turned" "turned" (defArgs s_turned) (defBody s_turned) (defScope s_turned) .none kV_turned dc_turned pm_turned an_turned cd_turned ct_turned, a_with_limits := f_with_limits, d_with_limits := PySem.W.fnOf "with_limits" "with_limits" (defArgs s_with_limits) (defBody s_with_limits) (defScope s_with_limits) .none kV_with_limits dc_with_limits pm_with_limits an_with_limits cd_with_limits ct_with_limits, a_is_name := f_is_name, d_is_name := PySem.W.fnOf "is_name" "is_name" (defArgs s_is_name) (defBody s_is_name) (defScope s_is_name) .none kV_is_name dc_is_name pm_is_name an_is_name cd_is_name ct_is_name, a__places_of := f__places_of, d__places_of := PySem.W.fnOf "_places_of" "_places_of" (defArgs s__places_of) (defBody s__places_of) (defScope s__places_of) .none kV__places_of dc__places_of pm__places_of an__places_of cd__places_of ct__places_of, a__place_of := f__place_of, d__place_of := PySem.W.fnOf "_place_of" "_place_of" (defArgs s__place_of) (defBody s__place_of) (defScope s__place_of) .none kV__place_of dc__place_of pm__place_of an__place_of cd__place_of ct__place_of, a__are_ways := f__are_ways, d__are_ways := PySem.W.fnOf "_are_ways" "_are_ways" (defArgs s__are_ways) (defBody s__are_ways) (defScope s__are_ways) .none kV__are_ways dc__are_ways pm__are_ways an__are_ways cd__are_ways ct__are_ways, a__row_text := f__row_text, d__row_text := PySem.W.fnOf "_row_text" "_row_text" (defArgs s__row_text) (defBody s__row_text) (defScope s__row_text) .none kV__row_text dc__row_text pm__row_text an__row_text cd__row_text ct__row_text, a__ways_back := f__ways_back, d__ways_back := PySem.W.fnOf "_ways_back" "_ways_back" (defArgs s__ways_back) (defBody s__ways_back) (defScope s__ways_back) .none kV__ways_back dc__ways_back pm__ways_back an__ways_back cd__ways_back ct__ways_back, a__law_feed := f__law_feed, d__law_feed := PySem.W.fnOf "_law_feed" "_law_feed" (defArgs s__law_feed) (defBody s__law_feed) (defScope s__law_feed) .none kV__law_feed dc__law_feed pm__law_feed an__law_feed cd__law_feed ct__law_feed, a__law_take := f__law_take, d__law_take := PySem.W.fnOf "_law_take" "_law_take" (defArgs s__law_take) (defBody s__law_take) (defScope s__law_take) .none kV__law_take dc__law_take pm__law_take an__law_take cd__law_take ct__law_take, a__law_pick := f__law_pick, d__law_pick := PySem.W.fnOf "_law_pick" "_law_pick" (defArgs s__law_pick) (defBody s__law_pick) (defScope s__law_pick) .none kV__law_pick dc__law_pick pm__law_pick an__law_pick cd__law_pick ct__law_pick, a__law_word := f__law_word, d__law_word := PySem.W.fnOf "_law_word" "_law_word" (defArgs s__law_word) (defBody s__law_word) (defScope s__law_word) .none kV__law_word dc__law_word pm__law_word an__law_word cd__law_word ct__law_word, a__law_said := f__law_said, d__law_said := PySem.W.fnOf "_law_said" "_law_said" (defArgs s__law_said) (defBody s__law_said) (defScope s__law_said) .none kV__law_said dc__law_said pm__law_said an__law_said cd__law_said ct__law_said, a__law_rows := f__law_rows, d__law_rows := PySem.W.fnOf "_law_rows" "_law_rows" (defArgs s__law_rows) (defBody s__law_rows) (defScope s__law_rows) .none kV__law_rows dc__law_rows pm__law_rows an__law_rows cd__law_rows ct__law_rows, a__law_more_rows := f__law_more_rows, d__law_more_rows := PySem.W.fnOf "_law_more_rows" "_law_more_rows" (defArgs s__law_more_rows) (defBody s__law_more_rows) (defScope s__law_more_rows) .none kV__law_more_rows dc__law_more_rows pm__law_more_rows an__law_more_rows cd__law_more_rows ct__law_more_rows, a__law_back := f__law_back, d__law_back := PySem.W.fnOf "_law_back" "_law_back" (defArgs s__law_back) (defBody s__law_back) (defScope s__law_back) .none kV__law_back dc__law_back pm__law_back an__law_back cd__law_back ct__law_back, a__law_told_right := f__law_told_right, d__law_told_right := PySem.W.fnOf "_law_told_right" "_law_told_right" (defArgs s__law_told_right) (defBody s__law_told_right) (defScope s__law_told_right) .none kV__law_told_right dc__law_told_right pm__law_told_right an__law_told_right cd__law_told_right ct__law_told_right, a_law := f_law, d_law := PySem.W.fnOf "law" "law" (defArgs s_law) (defBody s_law) (defScope s_law) .none kV_law dc_law pm_law an_law cd_law ct_law, k_LIMIT_WORDS := ka_LIMIT_WORDS, k_STEP_WORDS := ka_STEP_WORDS, c_WalkError := C_WalkError, c_InvalidText := C_InvalidText, c_NoWay := C_NoWay, c_Site := C_Site, p_parse := p_parse, mc_parse := .type "type" } :=
  { m_abs := PySem.W.mg_none_of X G z_abs,
    m_all := PySem.W.mg_none_of X G z_all,
    m_enumerate := PySem.W.mg_none_of X G z_enumerate,
    m_int := PySem.W.mg_none_of X G z_int,
    m_isinstance := PySem.W.mg_none_of X G z_isinstance,
    m_len := PySem.W.mg_none_of X G z_len,
    m_list := PySem.W.mg_none_of X G z_list,
    m_max := PySem.W.mg_none_of X G z_max,
    m_min := PySem.W.mg_none_of X G z_min,
    m_range := PySem.W.mg_none_of X G z_range,
    m_sorted := PySem.W.mg_none_of X G z_sorted,
    m_str := PySem.W.mg_none_of X G z_str,
    m_tuple := PySem.W.mg_none_of X G z_tuple,
    m_zip := PySem.W.mg_none_of X G z_zip,
    g_WalkError := PySem.W.mg_of X G gc_WalkError,
    g_InvalidText := PySem.W.mg_of X G gc_InvalidText,
    g_NoWay := PySem.W.mg_of X G gc_NoWay,
    g_Site := PySem.W.mg_of X G gc_Site,
    F_i_InvalidText := fun_mk (st := s_i_InvalidText) l_i_InvalidText c_i_InvalidText k_i_InvalidText,
    b_i_InvalidText := (fun_mk (st := s_i_InvalidText) l_i_InvalidText c_i_InvalidText k_i_InvalidText).binds (ps := ["self", "row"]) fun _ _ _ _ _ _ us hl => match us, hl with | [_, _], _ => rfl,
    F_i_NoWay := fun_mk (st := s_i_NoWay) l_i_NoWay c_i_NoWay k_i_NoWay,
    b_i_NoWay := (fun_mk (st := s_i_NoWay) l_i_NoWay c_i_NoWay k_i_NoWay).binds (ps := ["self", "place"]) fun _ _ _ _ _ _ us hl => match us, hl with | [_, _], _ => rfl,
    F_init := fun_mk (st := s_init) l_init c_init k_init,
    b_init := (fun_mk (st := s_init) l_init c_init k_init).binds (ps := ["self", "names", "limits", "stays", "ways"]) fun _ _ _ _ _ _ us hl => match us, hl with | [_, _, _, _, _], _ => rfl,
    F_parse := fun_mk (st := s_parse) l_parse c_parse k_parse,
    b_parse := (fun_mk (st := s_parse) l_parse c_parse k_parse).binds (ps := ["text"]) fun _ _ _ _ _ _ us hl => match us, hl with | [_], _ => rfl,
    F_strm := fun_mk (st := s_strm) l_strm c_strm k_strm,
    b_strm := (fun_mk (st := s_strm) l_strm c_strm k_strm).binds (ps := ["self"]) fun _ _ _ _ _ _ us hl => match us, hl with | [_], _ => rfl,
    F_eqm := fun_mk (st := s_eqm) l_eqm c_eqm k_eqm,
    b_eqm := (fun_mk (st := s_eqm) l_eqm c_eqm k_eqm).binds (ps := ["self", "other"]) fun _ _ _ _ _ _ us hl => match us, hl with | [_, _], _ => rfl,
    g_turned := PySem.W.mg_of X G a_turned,
    F_turned := fun_mk (st := s_turned) l_turned c_turned k_turned,
    b_turned := (fun_mk (st := s_turned) l_turned c_turned k_turned).binds (ps := ["site"]) fun _ _ _ _ _ _ us hl => match us, hl with | [_], _ => rfl,
    g_with_limits := PySem.W.mg_of X G a_with_limits,
    F_with_limits := fun_mk (st := s_with_limits) l_with_limits c_with_limits k_with_limits,
    b_with_limits := (fun_mk (st := s_with_limits) l_with_limits c_with_limits k_with_limits).binds (ps := ["site", "limits"]) fun _ _ _ _ _ _ us hl => match us, hl with | [_, _], _ => rfl,
    g_is_name := PySem.W.mg_of X G a_is_name,
    F_is_name := fun_mk (st := s_is_name) l_is_name c_is_name k_is_name,
    b_is_name := (fun_mk (st := s_is_name) l_is_name c_is_name k_is_name).binds (ps := ["word"]) fun _ _ _ _ _ _ us hl => match us, hl with | [_], _ => rfl,
    g__places_of := PySem.W.mg_of X G a__places_of,
    F__places_of := fun_mk (st := s__places_of) l__places_of c__places_of k__places_of,
    b__places_of := (fun_mk (st := s__places_of) l__places_of c__places_of k__places_of).binds (ps := ["rows"]) fun _ _ _ _ _ _ us hl => match us, hl with | [_], _ => rfl,
    g__place_of := PySem.W.mg_of X G a__place_of,
    F__place_of := fun_mk (st := s__place_of) l__place_of c__place_of k__place_of,
    b__place_of := (fun_mk (st := s__place_of) l__place_of c__place_of k__place_of).binds (ps := ["words", "firsts"]) fun _ _ _ _ _ _ us hl => match us, hl with | [_, _], _ => rfl,
    g__are_ways := PySem.W.mg_of X G a__are_ways,
    F__are_ways := fun_mk (st := s__are_ways) l__are_ways c__are_ways k__are_ways,
    b__are_ways := (fun_mk (st := s__are_ways) l__are_ways c__are_ways k__are_ways).binds (ps := ["name", "words", "firsts"]) fun _ _ _ _ _ _ us hl => match us, hl with | [_, _, _], _ => rfl,
    g__row_text := PySem.W.mg_of X G a__row_text,
    F__row_text := fun_mk (st := s__row_text) l__row_text c__row_text k__row_text,
    b__row_text := (fun_mk (st := s__row_text) l__row_text c__row_text k__row_text).binds (ps := ["site", "number"]) fun _ _ _ _ _ _ us hl => match us, hl with | [_, _], _ => rfl,
    g__ways_back := PySem.W.mg_of X G a__ways_back,
    F__ways_back := fun_mk (st := s__ways_back) l__ways_back c__ways_back k__ways_back,
    b__ways_back := (fun_mk (st := s__ways_back) l__ways_back c__ways_back k__ways_back).binds (ps := ["site", "name"]) fun _ _ _ _ _ _ us hl => match us, hl with | [_, _], _ => rfl,
    g__law_feed := PySem.W.mg_of X G a__law_feed,
    F__law_feed := fun_mk (st := s__law_feed) l__law_feed c__law_feed k__law_feed,
    b__law_feed := (fun_mk (st := s__law_feed) l__law_feed c__law_feed k__law_feed).binds (ps := ["script", "k"]) fun _ _ _ _ _ _ us hl => match us, hl with | [_, _], _ => rfl,
    g__law_take := PySem.W.mg_of X G a__law_take,
    F__law_take := fun_mk (st := s__law_take) l__law_take c__law_take k__law_take,
    b__law_take := (fun_mk (st := s__law_take) l__law_take c__law_take k__law_take).binds (ps := ["feed", "many"]) fun _ _ _ _ _ _ us hl => match us, hl with | [_, _], _ => rfl,
    g__law_pick := PySem.W.mg_of X G a__law_pick,
    F__law_pick := fun_mk (st := s__law_pick) l__law_pick c__law_pick k__law_pick,
    b__law_pick := (fun_mk (st := s__law_pick) l__law_pick c__law_pick k__law_pick).binds (ps := ["feed", "some"]) fun _ _ _ _ _ _ us hl => match us, hl with | [_, _], _ => rfl,
    g__law_word := PySem.W.mg_of X G a__law_word,
    F__law_word := fun_mk (st := s__law_word) l__law_word c__law_word k__law_word,
    b__law_word := (fun_mk (st := s__law_word) l__law_word c__law_word k__law_word).binds (ps := ["feed"]) fun _ _ _ _ _ _ us hl => match us, hl with | [_], _ => rfl,
    g__law_said := PySem.W.mg_of X G a__law_said,
    F__law_said := fun_mk (st := s__law_said) l__law_said c__law_said k__law_said,
    b__law_said := (fun_mk (st := s__law_said) l__law_said c__law_said k__law_said).binds (ps := ["text"]) fun _ _ _ _ _ _ us hl => match us, hl with | [_], _ => rfl,
    g__law_rows := PySem.W.mg_of X G a__law_rows,
    F__law_rows := fun_mk (st := s__law_rows) l__law_rows c__law_rows k__law_rows,
    b__law_rows := (fun_mk (st := s__law_rows) l__law_rows c__law_rows k__law_rows).binds (ps := []) fun _ _ _ _ _ _ us hl => match us, hl with | [], _ => rfl,
    g__law_more_rows := PySem.W.mg_of X G a__law_more_rows,
    F__law_more_rows := fun_mk (st := s__law_more_rows) l__law_more_rows c__law_more_rows k__law_more_rows,
    b__law_more_rows := (fun_mk (st := s__law_more_rows) l__law_more_rows c__law_more_rows k__law_more_rows).binds (ps := []) fun _ _ _ _ _ _ us hl => match us, hl with | [], _ => rfl,
    g__law_back := PySem.W.mg_of X G a__law_back,
    F__law_back := fun_mk (st := s__law_back) l__law_back c__law_back k__law_back,
    b__law_back := (fun_mk (st := s__law_back) l__law_back c__law_back k__law_back).binds (ps := ["site"]) fun _ _ _ _ _ _ us hl => match us, hl with | [_], _ => rfl,
    g__law_told_right := PySem.W.mg_of X G a__law_told_right,
    F__law_told_right := fun_mk (st := s__law_told_right) l__law_told_right c__law_told_right k__law_told_right,
    b__law_told_right := (fun_mk (st := s__law_told_right) l__law_told_right c__law_told_right k__law_told_right).binds (ps := ["name"]) fun _ _ _ _ _ _ us hl => match us, hl with | [_], _ => rfl,
    g_law := PySem.W.mg_of X G a_law,
    F_law := fun_mk (st := s_law) l_law c_law k_law,
    b_law := (fun_mk (st := s_law) l_law c_law k_law).binds (ps := ["script"]) fun _ _ _ _ _ _ us hl => match us, hl with | [_], _ => rfl,
    g_MOST_PLACES := ⟨_, PySem.W.mg_of X G n_MOST_PLACES⟩,
    g_LONGEST_NAME := ⟨_, PySem.W.mg_of X G n_LONGEST_NAME⟩,
    g_LIMIT_WORDS := PySem.W.mg_of X G n_LIMIT_WORDS,
    kt_LIMIT_WORDS := fun H => .inr ⟨_, _, _, kl_LIMIT_WORDS, rfl, rfl, (by show 10 ≤ sizeLine; decide), (.cons ⟨_, rfl⟩ (.cons ⟨_, rfl⟩ (.cons ⟨_, rfl⟩ (.cons ⟨_, rfl⟩ (.cons ⟨_, rfl⟩ (.cons ⟨_, rfl⟩ (.cons ⟨_, rfl⟩ (.cons ⟨_, rfl⟩ (.cons ⟨_, rfl⟩ (.cons ⟨_, rfl⟩ .nil))))))))))⟩,
    g_STEP_WORDS := PySem.W.mg_of X G n_STEP_WORDS,
    kt_STEP_WORDS := fun H => .inr ⟨_, _, _, kl_STEP_WORDS, rfl, rfl, (by show 3 ≤ sizeLine; decide), (.cons ⟨_, rfl⟩ (.cons ⟨_, rfl⟩ (.cons ⟨_, rfl⟩ .nil)))⟩,
    x_InvalidText := ⟨ec_InvalidText, es_InvalidText, ex_InvalidText, et_InvalidText, ek_InvalidText⟩,
    xi_InvalidText := a_i_InvalidText,
    xt_InvalidText := ei_InvalidText,
    xf_InvalidText := ⟨eg_InvalidText, eh_InvalidText, ex_InvalidText, ed_InvalidText⟩,
    xn_InvalidText := ef_InvalidText,
    x_NoWay := ⟨ec_NoWay, es_NoWay, ex_NoWay, et_NoWay, ek_NoWay⟩,
    xi_NoWay := a_i_NoWay,
    xt_NoWay := ei_NoWay,
    xf_NoWay := ⟨eg_NoWay, eh_NoWay, ex_NoWay, ed_NoWay⟩,
    xn_NoWay := ef_NoWay,
    xe_InvalidText_InvalidText := PySem.W.exm_ref ex_InvalidText ed_InvalidText et_InvalidText xs_InvalidText_InvalidText,
    xe_InvalidText_NoWay := PySem.W.exm_ref ex_NoWay ed_NoWay et_NoWay xs_InvalidText_NoWay,
    xe_NoWay_InvalidText := PySem.W.exm_ref ex_InvalidText ed_InvalidText et_InvalidText xs_NoWay_InvalidText,
    xe_NoWay_NoWay := PySem.W.exm_ref ex_NoWay ed_NoWay et_NoWay xs_NoWay_NoWay,
    cl_Site := ⟨pg_Site, hd_Site, po_Site, sa_Site⟩,
    mk_Site := ⟨mk_Site, a_init, mf_Site, mp_Site⟩,
    na_Site_names := na_Site_names,
    na_Site_limits := na_Site_limits,
    na_Site_stays := na_Site_stays,
    na_Site_ways := na_Site_ways,
    sm_Site := ⟨a_strm, sm_Site⟩,
    st_parse := ⟨sr_parse, sg_parse, sf_parse, ⟨_, a_parse⟩, k_parse⟩ }
end Lw

namespace Lw
open PySem PySem.Spec PyProof.Rows L2 Evl Z
theorem law_ok {P : Program} {w : World} {K : PySem.W.Frag} {mg : Str → Option Value} {base : Heap} {A : Ad} (T : Txt K mg A) : FnOk P w K mg base (L2.CX P w) 7 A.a_law A.d_law ["script"] (spP K PLaw) := by
  have G__law_rows := ok__law_rows (P := P) (w := w) (base := base) T
  have G__law_more_rows := ok__law_more_rows (P := P) (w := w) (base := base) T
  have G__law_feed := ok__law_feed (P := P) (w := w) (base := base) T
  have G_is_name := ok_is_name (P := P) (w := w) (base := base) T
  have G__are_ways := ok__are_ways (P := P) (w := w) (base := base) T G_is_name
  have G__place_of := ok__place_of (P := P) (w := w) (base := base) T G_is_name G__are_ways
  have G_InvalidText := ok_i_InvalidText (P := P) (w := w) (base := base) T
  have G__places_of := ok__places_of (P := P) (w := w) (base := base) T G__place_of G_InvalidText
  have G_Site := ok_init (P := P) (w := w) (base := base) T
  have G_parse := ok_parse (P := P) (w := w) (base := base) T G__places_of G_Site G_InvalidText
  have G__law_said := ok__law_said (P := P) (w := w) (base := base) T G_parse
  have G__row_text := ok__row_text (P := P) (w := w) (base := base) T
  have G_strm := ok_strm (P := P) (w := w) (base := base) T G__row_text
  have G__ways_back := ok__ways_back (P := P) (w := w) (base := base) T
  have G_NoWay := ok_i_NoWay (P := P) (w := w) (base := base) T
  have G_turned := ok_turned (P := P) (w := w) (base := base) T G_Site G__ways_back G_NoWay
  have G__law_back := ok__law_back (P := P) (w := w) (base := base) T G_turned
  have G_with_limits := ok_with_limits (P := P) (w := w) (base := base) T G_Site
  have G__law_told_right := ok__law_told_right (P := P) (w := w) (base := base) T G_parse G_strm G__law_back G_turned G_with_limits
  have G__law_take := ok__law_take (P := P) (w := w) (base := base) T
  have G__law_pick := ok__law_pick (P := P) (w := w) (base := base) T G__law_take
  have G__law_word := ok__law_word (P := P) (w := w) (base := base) T G__law_take G__law_pick
  have G_law := ok_law (P := P) (w := w) (base := base) T G__law_rows G__law_more_rows G__law_feed G__law_said G__law_told_right G__law_pick G__law_word
  exact G_law
theorem walk_mine {l : PySem.W.OpenLaw} {n k : Nat} {q : Program} {d : DefRec} {loose : List Str} {YP : World → Heap → Prop} {XP : (Str → Option Value) → Heap → Prop} {K : Params → PySem.W.Frag} {CX : World → CXT} {P : PP} {x : Str} (most : l.most = some n) (size : n ≤ sizeLine) (plain : d.params.defaults = []) (room : Room k callerA) (inn : ∀ (w : World) (h : Heap), YP w h → (K w.params).In h)
    (fn : ∀ (w : World) (mg : Str → Option Value) (fa : Addr) (h : Heap), (K w.params).In h → h.Ns mainGlobals mg → mg d.name = some (.ref fa) → ∃ fd : FuncData, (∀ (s : Shared) (u : Value), BindsTo s fd ⟨[u], []⟩ [(x, u)]) ∧ ∀ base : Heap, (K w.params).In base → base.Ns mainGlobals mg → FnOk l.prog w (K w.params) mg base (CX w) k fa fd [x] (spP (K w.params) P))
    (prom : ∀ ns : List Int, ns.length ≤ n → P [.scr ns] (fun d => d = .bl true) noT) (none_out : ∀ (w : World) (H : Hp) (s : Shared) (e : Value) (s2 : Shared), CX w [] H s (fun _ _ _ => False) e s2 → False) : PySem.W.WalkO q loose XP YP l.row.toRowW d [] (fun f vs => PySem.call f vs) :=
  L2.walk_of (K := K) (CX := CX) (sp := fun w => spP (K w.params) P) most size plain room inn fn (fun w H a ns h1 h2 h3 => ⟨[.scr ns], H, fun d => d = .bl true, noT, prom ns h1, Ex.refl H, DnL.cons (dn_scr.mpr ⟨a, rfl, h3⟩) DnL.nil, fun d v F' H' hd _ n => (by subst hd; exact dn_bl.mp n), fun _ _ _ _ _ z => z.elim⟩) none_out
open PySem.W in
theorem all_mk {l : PySem.W.OpenLaw} {w : World} {fa : Addr} {K : PySem.W.Frag} {h : Heap} {mg : Str → Option Value} (X : K.In h) (G : h.Ns mainGlobals mg) (hfa : mg "law" = some (.ref fa))
    {C_WalkError C_InvalidText C_NoWay C_Site f_i_InvalidText f_i_NoWay f_init f_parse p_parse f_strm f_eqm f_turned f_with_limits f_is_name f__places_of f__place_of f__are_ways f__row_text f__ways_back f__law_feed f__law_take f__law_pick f__law_word f__law_said f__law_rows f__law_more_rows f__law_back f__law_told_right f_law ka_LIMIT_WORDS ka_STEP_WORDS : Addr} {od_i_InvalidText an_i_InvalidText od_i_NoWay an_i_NoWay od_init an_init od_parse an_parse od_strm an_strm od_eqm an_eqm od_turned an_turned od_with_limits an_with_limits od_is_name an_is_name od__places_of an__places_of od__place_of an__place_of od__are_ways an__are_ways od__row_text an__row_text od__ways_back an__ways_back od__law_feed an__law_feed od__law_take an__law_take od__law_pick an__law_pick od__law_word an__law_word od__law_said an__law_said od__law_rows an__law_rows od__law_more_rows an__law_more_rows od__law_back an__law_back od__law_told_right an__law_told_right od_law an_law kd_LIMIT_WORDS kd_STEP_WORDS : Option Addr} {sl_i_InvalidText sl_i_NoWay sl_init sl_parse sl_strm sl_eqm sl_turned sl_with_limits sl_is_name sl__places_of sl__place_of sl__are_ways sl__row_text sl__ways_back sl__law_feed sl__law_take sl__law_pick sl__law_word sl__law_said sl__law_rows sl__law_more_rows sl__law_back sl__law_told_right sl_law ks_LIMIT_WORDS ks_STEP_WORDS : Array (Option Value)} {oc_i_InvalidText kV_i_InvalidText dc_i_InvalidText pm_i_InvalidText cd_i_InvalidText ct_i_InvalidText oc_i_NoWay kV_i_NoWay dc_i_NoWay pm_i_NoWay cd_i_NoWay ct_i_NoWay oc_init kV_init dc_init pm_init cd_init ct_init oc_parse kV_parse dc_parse pm_parse cd_parse ct_parse oc_strm kV_strm dc_strm pm_strm cd_strm ct_strm oc_eqm kV_eqm dc_eqm pm_eqm cd_eqm ct_eqm oc_turned kV_turned dc_turned pm_turned cd_turned ct_turned oc_with_limits kV_with_limits dc_with_limits pm_with_limits cd_with_limits ct_with_limits oc_is_name kV_is_name dc_is_name pm_is_name cd_is_name ct_is_name oc__places_of kV__places_of dc__places_of pm__places_of cd__places_of ct__places_of oc__place_of kV__place_of dc__place_of pm__place_of cd__place_of ct__place_of oc__are_ways kV__are_ways dc__are_ways pm__are_ways cd__are_ways ct__are_ways oc__row_text kV__row_text dc__row_text pm__row_text cd__row_text ct__row_text oc__ways_back kV__ways_back dc__ways_back pm__ways_back cd__ways_back ct__ways_back oc__law_feed kV__law_feed dc__law_feed pm__law_feed cd__law_feed ct__law_feed oc__law_take kV__law_take dc__law_take pm__law_take cd__law_take ct__law_take oc__law_pick kV__law_pick dc__law_pick pm__law_pick cd__law_pick ct__law_pick oc__law_word kV__law_word dc__law_word pm__law_word cd__law_word ct__law_word oc__law_said kV__law_said dc__law_said pm__law_said cd__law_said ct__law_said oc__law_rows kV__law_rows dc__law_rows pm__law_rows cd__law_rows ct__law_rows oc__law_more_rows kV__law_more_rows dc__law_more_rows pm__law_more_rows cd__law_more_rows ct__law_more_rows oc__law_back kV__law_back dc__law_back pm__law_back cd__law_back ct__law_back oc__law_told_right kV__law_told_right dc__law_told_right pm__law_told_right cd__law_told_right ct__law_told_right oc_law kV_law dc_law pm_law cd_law ct_law : Value} {rs_parse : List Value} {t_MOST_PLACES t_LONGEST_NAME t0_LIMIT_WORDS t1_LIMIT_WORDS t2_LIMIT_WORDS t3_LIMIT_WORDS t4_LIMIT_WORDS t5_LIMIT_WORDS t6_LIMIT_WORDS t7_LIMIT_WORDS t8_LIMIT_WORDS t9_LIMIT_WORDS t0_STEP_WORDS t1_STEP_WORDS t2_STEP_WORDS : Tok} {kn_LIMIT_WORDS kn_STEP_WORDS : Nat}
    (z_abs : PySem.W.nsIn K mainGlobals "abs" = some none)
    (z_all : PySem.W.nsIn K mainGlobals "all" = some none)
    (z_enumerate : PySem.W.nsIn K mainGlobals "enumerate" = some none)
    (z_int : PySem.W.nsIn K mainGlobals "int" = some none)
    (z_isinstance : PySem.W.nsIn K mainGlobals "isinstance" = some none)
    (z_len : PySem.W.nsIn K mainGlobals "len" = some none)
    (z_list : PySem.W.nsIn K mainGlobals "list" = some none)
    (z_max : PySem.W.nsIn K mainGlobals "max" = some none)
    (z_min : PySem.W.nsIn K mainGlobals "min" = some none)
    (z_range : PySem.W.nsIn K mainGlobals "range" = some none)
    (z_sorted : PySem.W.nsIn K mainGlobals "sorted" = some none)
    (z_str : PySem.W.nsIn K mainGlobals "str" = some none)
    (z_tuple : PySem.W.nsIn K mainGlobals "tuple" = some none)
    (z_zip : PySem.W.nsIn K mainGlobals "zip" = some none)
    (gc_WalkError : PySem.W.nsIn K mainGlobals "WalkError" = some (some (.ref C_WalkError)))
    (gc_InvalidText : PySem.W.nsIn K mainGlobals "InvalidText" = some (some (.ref C_InvalidText)))
    (gc_NoWay : PySem.W.nsIn K mainGlobals "NoWay" = some (some (.ref C_NoWay)))
    (gc_Site : PySem.W.nsIn K mainGlobals "Site" = some (some (.ref C_Site)))
    (a_i_InvalidText : PySem.W.findIn K (.ref C_InvalidText) "__init__" = some (some (.ref f_i_InvalidText)))
    (l_i_InvalidText : K.lookup f_i_InvalidText = some ⟨oc_i_InvalidText, od_i_InvalidText, .func (PySem.W.fnOf "__init__" "InvalidText.__init__" (defArgs s_i_InvalidText) (defBody s_i_InvalidText) (defScope s_i_InvalidText) .none kV_i_InvalidText dc_i_InvalidText pm_i_InvalidText an_i_InvalidText cd_i_InvalidText ct_i_InvalidText), sl_i_InvalidText⟩)
    (c_i_InvalidText : PySem.W.codeIn K cd_i_InvalidText "InvalidText.__init__" = true)
    (k_i_InvalidText : PySem.W.keepIn K (.ref f_i_InvalidText) = true)
    (a_i_NoWay : PySem.W.findIn K (.ref C_NoWay) "__init__" = some (some (.ref f_i_NoWay)))
    (l_i_NoWay : K.lookup f_i_NoWay = some ⟨oc_i_NoWay, od_i_NoWay, .func (PySem.W.fnOf "__init__" "NoWay.__init__" (defArgs s_i_NoWay) (defBody s_i_NoWay) (defScope s_i_NoWay) .none kV_i_NoWay dc_i_NoWay pm_i_NoWay an_i_NoWay cd_i_NoWay ct_i_NoWay), sl_i_NoWay⟩)
    (c_i_NoWay : PySem.W.codeIn K cd_i_NoWay "NoWay.__init__" = true)
    (k_i_NoWay : PySem.W.keepIn K (.ref f_i_NoWay) = true)
    (a_init : PySem.W.findIn K (.ref C_Site) "__init__" = some (some (.ref f_init)))
    (l_init : K.lookup f_init = some ⟨oc_init, od_init, .func (PySem.W.fnOf "__init__" "Site.__init__" (defArgs s_init) (defBody s_init) (defScope s_init) .none kV_init dc_init pm_init an_init cd_init ct_init), sl_init⟩)
    (c_init : PySem.W.codeIn K cd_init "Site.__init__" = true)
    (k_init : PySem.W.keepIn K (.ref f_init) = true)
    (sf_parse : PySem.W.findCls K (.ref C_Site) (.type "type") "parse" = some (.get (.builtin "staticmethod.__get__") (.ref p_parse) .none (.ref C_Site)))
    (a_parse : PySem.W.recIn K p_parse "staticmethod" = some (.ref f_parse :: rs_parse))
    (sr_parse : PySem.W.readsIn K C_Site (.type "type") = true)
    (sg_parse : PySem.W.specialIn K (.ref C_Site) "__getattribute__" = some (some (.builtin "type.__getattribute__")))
    (l_parse : K.lookup f_parse = some ⟨oc_parse, od_parse, .func (PySem.W.fnOf "parse" "Site.parse" (defArgs s_parse) (defBody s_parse) (defScope s_parse) .none kV_parse dc_parse pm_parse an_parse cd_parse ct_parse), sl_parse⟩)
    (c_parse : PySem.W.codeIn K cd_parse "Site.parse" = true)
    (k_parse : PySem.W.keepIn K (.ref f_parse) = true)
    (a_strm : PySem.W.findIn K (.ref C_Site) "__str__" = some (some (.ref f_strm)))
    (l_strm : K.lookup f_strm = some ⟨oc_strm, od_strm, .func (PySem.W.fnOf "__str__" "Site.__str__" (defArgs s_strm) (defBody s_strm) (defScope s_strm) .none kV_strm dc_strm pm_strm an_strm cd_strm ct_strm), sl_strm⟩)
    (c_strm : PySem.W.codeIn K cd_strm "Site.__str__" = true)
    (k_strm : PySem.W.keepIn K (.ref f_strm) = true)
    (a_eqm : PySem.W.findIn K (.ref C_Site) "__eq__" = some (some (.ref f_eqm)))
    (l_eqm : K.lookup f_eqm = some ⟨oc_eqm, od_eqm, .func (PySem.W.fnOf "__eq__" "Site.__eq__" (defArgs s_eqm) (defBody s_eqm) (defScope s_eqm) .none kV_eqm dc_eqm pm_eqm an_eqm cd_eqm ct_eqm), sl_eqm⟩)
    (c_eqm : PySem.W.codeIn K cd_eqm "Site.__eq__" = true)
    (k_eqm : PySem.W.keepIn K (.ref f_eqm) = true)
    (a_turned : PySem.W.nsIn K mainGlobals "turned" = some (some (.ref f_turned)))
    (l_turned : K.lookup f_turned = some ⟨oc_turned, od_turned, .func (PySem.W.fnOf "turned" "turned" (defArgs s_turned) (defBody s_turned) (defScope s_turned) .none kV_turned dc_turned pm_turned an_turned cd_turned ct_turned), sl_turned⟩)
    (c_turned : PySem.W.codeIn K cd_turned "turned" = true)
    (k_turned : PySem.W.keepIn K (.ref f_turned) = true)
    (a_with_limits : PySem.W.nsIn K mainGlobals "with_limits" = some (some (.ref f_with_limits)))
    (l_with_limits : K.lookup f_with_limits = some ⟨oc_with_limits, od_with_limits, .func (PySem.W.fnOf "with_limits" "with_limits" (defArgs s_with_limits) (defBody s_with_limits) (defScope s_with_limits) .none kV_with_limits dc_with_limits pm_with_limits an_with_limits cd_with_limits ct_with_limits), sl_with_limits⟩)
    (c_with_limits : PySem.W.codeIn K cd_with_limits "with_limits" = true)
    (k_with_limits : PySem.W.keepIn K (.ref f_with_limits) = true)
    (a_is_name : PySem.W.nsIn K mainGlobals "is_name" = some (some (.ref f_is_name)))
    (l_is_name : K.lookup f_is_name = some ⟨oc_is_name, od_is_name, .func (PySem.W.fnOf "is_name" "is_name" (defArgs s_is_name) (defBody s_is_name) (defScope s_is_name) .none kV_is_name dc_is_name pm_is_name an_is_name cd_is_name ct_is_name), sl_is_name⟩)
    (c_is_name : PySem.W.codeIn K cd_is_name "is_name" = true)
    (k_is_name : PySem.W.keepIn K (.ref f_is_name) = true)
    (a__places_of : PySem.W.nsIn K mainGlobals "_places_of" = some (some (.ref f__places_of)))
    (l__places_of : K.lookup f__places_of = some ⟨oc__places_of, od__places_of, .func (PySem.W.fnOf "_places_of" "_places_of" (defArgs s__places_of) (defBody s__places_of) (defScope s__places_of) .none kV__places_of dc__places_of pm__places_of an__places_of cd__places_of ct__places_of), sl__places_of⟩)
    (c__places_of : PySem.W.codeIn K cd__places_of "_places_of" = true)
    (k__places_of : PySem.W.keepIn K (.ref f__places_of) = true)
    (a__place_of : PySem.W.nsIn K mainGlobals "_place_of" = some (some (.ref f__place_of)))
    (l__place_of : K.lookup f__place_of = some ⟨oc__place_of, od__place_of, .func (PySem.W.fnOf "_place_of" "_place_of" (defArgs s__place_of) (defBody s__place_of) (defScope s__place_of) .none kV__place_of dc__place_of pm__place_of an__place_of cd__place_of ct__place_of), sl__place_of⟩)
    (c__place_of : PySem.W.codeIn K cd__place_of "_place_of" = true)
    (k__place_of : PySem.W.keepIn K (.ref f__place_of) = true)
    (a__are_ways : PySem.W.nsIn K mainGlobals "_are_ways" = some (some (.ref f__are_ways)))
    (l__are_ways : K.lookup f__are_ways = some ⟨oc__are_ways, od__are_ways, .func (PySem.W.fnOf "_are_ways" "_are_ways" (defArgs s__are_ways) (defBody s__are_ways) (defScope s__are_ways) .none kV__are_ways dc__are_ways pm__are_ways an__are_ways cd__are_ways ct__are_ways), sl__are_ways⟩)
    (c__are_ways : PySem.W.codeIn K cd__are_ways "_are_ways" = true)
    (k__are_ways : PySem.W.keepIn K (.ref f__are_ways) = true)
    (a__row_text : PySem.W.nsIn K mainGlobals "_row_text" = some (some (.ref f__row_text)))
    (l__row_text : K.lookup f__row_text = some ⟨oc__row_text, od__row_text, .func (PySem.W.fnOf "_row_text" "_row_text" (defArgs s__row_text) (defBody s__row_text) (defScope s__row_text) .none kV__row_text dc__row_text pm__row_text an__row_text cd__row_text ct__row_text), sl__row_text⟩)
    (c__row_text : PySem.W.codeIn K cd__row_text "_row_text" = true)
    (k__row_text : PySem.W.keepIn K (.ref f__row_text) = true)
    (a__ways_back : PySem.W.nsIn K mainGlobals "_ways_back" = some (some (.ref f__ways_back)))
    (l__ways_back : K.lookup f__ways_back = some ⟨oc__ways_back, od__ways_back, .func (PySem.W.fnOf "_ways_back" "_ways_back" (defArgs s__ways_back) (defBody s__ways_back) (defScope s__ways_back) .none kV__ways_back dc__ways_back pm__ways_back an__ways_back cd__ways_back ct__ways_back), sl__ways_back⟩)
    (c__ways_back : PySem.W.codeIn K cd__ways_back "_ways_back" = true)
    (k__ways_back : PySem.W.keepIn K (.ref f__ways_back) = true)
    (a__law_feed : PySem.W.nsIn K mainGlobals "_law_feed" = some (some (.ref f__law_feed)))
    (l__law_feed : K.lookup f__law_feed = some ⟨oc__law_feed, od__law_feed, .func (PySem.W.fnOf "_law_feed" "_law_feed" (defArgs s__law_feed) (defBody s__law_feed) (defScope s__law_feed) .none kV__law_feed dc__law_feed pm__law_feed an__law_feed cd__law_feed ct__law_feed), sl__law_feed⟩)
    (c__law_feed : PySem.W.codeIn K cd__law_feed "_law_feed" = true)
    (k__law_feed : PySem.W.keepIn K (.ref f__law_feed) = true)
    (a__law_take : PySem.W.nsIn K mainGlobals "_law_take" = some (some (.ref f__law_take)))
    (l__law_take : K.lookup f__law_take = some ⟨oc__law_take, od__law_take, .func (PySem.W.fnOf "_law_take" "_law_take" (defArgs s__law_take) (defBody s__law_take) (defScope s__law_take) .none kV__law_take dc__law_take pm__law_take an__law_take cd__law_take ct__law_take), sl__law_take⟩)
    (c__law_take : PySem.W.codeIn K cd__law_take "_law_take" = true)
    (k__law_take : PySem.W.keepIn K (.ref f__law_take) = true)
    (a__law_pick : PySem.W.nsIn K mainGlobals "_law_pick" = some (some (.ref f__law_pick)))
    (l__law_pick : K.lookup f__law_pick = some ⟨oc__law_pick, od__law_pick, .func (PySem.W.fnOf "_law_pick" "_law_pick" (defArgs s__law_pick) (defBody s__law_pick) (defScope s__law_pick) .none kV__law_pick dc__law_pick pm__law_pick an__law_pick cd__law_pick ct__law_pick), sl__law_pick⟩)
    (c__law_pick : PySem.W.codeIn K cd__law_pick "_law_pick" = true)
    (k__law_pick : PySem.W.keepIn K (.ref f__law_pick) = true)
    (a__law_word : PySem.W.nsIn K mainGlobals "_law_word" = some (some (.ref f__law_word)))
    (l__law_word : K.lookup f__law_word = some ⟨oc__law_word, od__law_word, .func (PySem.W.fnOf "_law_word" "_law_word" (defArgs s__law_word) (defBody s__law_word) (defScope s__law_word) .none kV__law_word dc__law_word pm__law_word an__law_word cd__law_word ct__law_word), sl__law_word⟩)
    (c__law_word : PySem.W.codeIn K cd__law_word "_law_word" = true)
    (k__law_word : PySem.W.keepIn K (.ref f__law_word) = true)
    (a__law_said : PySem.W.nsIn K mainGlobals "_law_said" = some (some (.ref f__law_said)))
    (l__law_said : K.lookup f__law_said = some ⟨oc__law_said, od__law_said, .func (PySem.W.fnOf "_law_said" "_law_said" (defArgs s__law_said) (defBody s__law_said) (defScope s__law_said) .none kV__law_said dc__law_said pm__law_said an__law_said cd__law_said ct__law_said), sl__law_said⟩)
    (c__law_said : PySem.W.codeIn K cd__law_said "_law_said" = true)
    (k__law_said : PySem.W.keepIn K (.ref f__law_said) = true)
    (a__law_rows : PySem.W.nsIn K mainGlobals "_law_rows" = some (some (.ref f__law_rows)))
    (l__law_rows : K.lookup f__law_rows = some ⟨oc__law_rows, od__law_rows, .func (PySem.W.fnOf "_law_rows" "_law_rows" (defArgs s__law_rows) (defBody s__law_rows) (defScope s__law_rows) .none kV__law_rows dc__law_rows pm__law_rows an__law_rows cd__law_rows ct__law_rows), sl__law_rows⟩)
    (c__law_rows : PySem.W.codeIn K cd__law_rows "_law_rows" = true)
    (k__law_rows : PySem.W.keepIn K (.ref f__law_rows) = true)
    (a__law_more_rows : PySem.W.nsIn K mainGlobals "_law_more_rows" = some (some (.ref f__law_more_rows)))
    (l__law_more_rows : K.lookup f__law_more_rows = some ⟨oc__law_more_rows, od__law_more_rows, .func (PySem.W.fnOf "_law_more_rows" "_law_more_rows" (defArgs s__law_more_rows) (defBody s__law_more_rows) (defScope s__law_more_rows) .none kV__law_more_rows dc__law_more_rows pm__law_more_rows an__law_more_rows cd__law_more_rows ct__law_more_rows), sl__law_more_rows⟩)
    (c__law_more_rows : PySem.W.codeIn K cd__law_more_rows "_law_more_rows" = true)
    (k__law_more_rows : PySem.W.keepIn K (.ref f__law_more_rows) = true)
    (a__law_back : PySem.W.nsIn K mainGlobals "_law_back" = some (some (.ref f__law_back)))
    (l__law_back : K.lookup f__law_back = some ⟨oc__law_back, od__law_back, .func (PySem.W.fnOf "_law_back" "_law_back" (defArgs s__law_back) (defBody s__law_back) (defScope s__law_back) .none kV__law_back dc__law_back pm__law_back an__law_back cd__law_back ct__law_back), sl__law_back⟩)
    (c__law_back : PySem.W.codeIn K cd__law_back "_law_back" = true)
    (k__law_back : PySem.W.keepIn K (.ref f__law_back) = true)
    (a__law_told_right : PySem.W.nsIn K mainGlobals "_law_told_right" = some (some (.ref f__law_told_right)))
    (l__law_told_right : K.lookup f__law_told_right = some ⟨oc__law_told_right, od__law_told_right, .func (PySem.W.fnOf "_law_told_right" "_law_told_right" (defArgs s__law_told_right) (defBody s__law_told_right) (defScope s__law_told_right) .none kV__law_told_right dc__law_told_right pm__law_told_right an__law_told_right cd__law_told_right ct__law_told_right), sl__law_told_right⟩)
    (c__law_told_right : PySem.W.codeIn K cd__law_told_right "_law_told_right" = true)
    (k__law_told_right : PySem.W.keepIn K (.ref f__law_told_right) = true)
    (a_law : PySem.W.nsIn K mainGlobals "law" = some (some (.ref f_law)))
    (l_law : K.lookup f_law = some ⟨oc_law, od_law, .func (PySem.W.fnOf "law" "law" (defArgs s_law) (defBody s_law) (defScope s_law) .none kV_law dc_law pm_law an_law cd_law ct_law), sl_law⟩)
    (c_law : PySem.W.codeIn K cd_law "law" = true)
    (k_law : PySem.W.keepIn K (.ref f_law) = true)
    (n_MOST_PLACES : PySem.W.nsIn K mainGlobals "MOST_PLACES" = some (some (.int 6 t_MOST_PLACES)))
    (n_LONGEST_NAME : PySem.W.nsIn K mainGlobals "LONGEST_NAME" = some (some (.int 8 t_LONGEST_NAME)))
    (n_LIMIT_WORDS : PySem.W.nsIn K mainGlobals "LIMIT_WORDS" = some (some (.ref ka_LIMIT_WORDS)))
    (kl_LIMIT_WORDS : K.lookup ka_LIMIT_WORDS = some ⟨.type "tuple", kd_LIMIT_WORDS, .seq #[.str "0" t0_LIMIT_WORDS, .str "1" t1_LIMIT_WORDS, .str "2" t2_LIMIT_WORDS, .str "3" t3_LIMIT_WORDS, .str "4" t4_LIMIT_WORDS, .str "5" t5_LIMIT_WORDS, .str "6" t6_LIMIT_WORDS, .str "7" t7_LIMIT_WORDS, .str "8" t8_LIMIT_WORDS, .str "9" t9_LIMIT_WORDS] kn_LIMIT_WORDS, ks_LIMIT_WORDS⟩)
    (n_STEP_WORDS : PySem.W.nsIn K mainGlobals "STEP_WORDS" = some (some (.ref ka_STEP_WORDS)))
    (kl_STEP_WORDS : K.lookup ka_STEP_WORDS = some ⟨.type "tuple", kd_STEP_WORDS, .seq #[.str "1" t0_STEP_WORDS, .str "2" t1_STEP_WORDS, .str "3" t2_STEP_WORDS] kn_STEP_WORDS, ks_STEP_WORDS⟩)
    (ec_InvalidText : ∃ nm q N bs bm sn sub ab col dd k0 k1 k2 k3 k5, K.lookup C_InvalidText = some (excClassObj nm q C_InvalidText N bs bm true sn sub ab col dd k0 k1 k2 k3 k5 "ValueError.__new__") ∧ PySem.HandSPX.refsVE bm = true)
    (es_InvalidText : PySem.W.findIn K (.ref C_InvalidText) "__setattr__" = some (some (.builtin "object.__setattr__")))
    (eg_InvalidText : PySem.W.findIn K (.ref C_InvalidText) "__getattribute__" = some (some (.builtin "BaseException.__getattribute__")))
    (eh_InvalidText : PySem.W.findIn K (.ref C_InvalidText) "__getattr__" = some none)
    (ex_InvalidText : PySem.W.subIn K (.ref C_InvalidText) (.type "BaseException") = some true)
    (et_InvalidText : PySem.W.typeIn K (.ref C_InvalidText) = some (.type "type"))
    (ek_InvalidText : PySem.W.keepIn K (.ref C_InvalidText) = true)
    (ed_InvalidText : PySem.W.hasDictIn K C_InvalidText = true)
    (ef_InvalidText : PySem.W.findIn K (.ref C_InvalidText) "row" = some none)
    (ei_InvalidText : PySem.W.typeIn K (.ref f_i_InvalidText) = some (.type "function"))
    (ec_NoWay : ∃ nm q N bs bm sn sub ab col dd k0 k1 k2 k3 k5, K.lookup C_NoWay = some (excClassObj nm q C_NoWay N bs bm true sn sub ab col dd k0 k1 k2 k3 k5 "ValueError.__new__") ∧ PySem.HandSPX.refsVE bm = true)
    (es_NoWay : PySem.W.findIn K (.ref C_NoWay) "__setattr__" = some (some (.builtin "object.__setattr__")))
    (eg_NoWay : PySem.W.findIn K (.ref C_NoWay) "__getattribute__" = some (some (.builtin "BaseException.__getattribute__")))
    (eh_NoWay : PySem.W.findIn K (.ref C_NoWay) "__getattr__" = some none)
    (ex_NoWay : PySem.W.subIn K (.ref C_NoWay) (.type "BaseException") = some true)
    (et_NoWay : PySem.W.typeIn K (.ref C_NoWay) = some (.type "type"))
    (ek_NoWay : PySem.W.keepIn K (.ref C_NoWay) = true)
    (ed_NoWay : PySem.W.hasDictIn K C_NoWay = true)
    (ef_NoWay : PySem.W.findIn K (.ref C_NoWay) "place" = some none)
    (ei_NoWay : PySem.W.typeIn K (.ref f_i_NoWay) = some (.type "function"))
    (xs_InvalidText_InvalidText : PySem.W.subIn K (.ref C_InvalidText) (.ref C_InvalidText) = some true)
    (xs_InvalidText_NoWay : PySem.W.subIn K (.ref C_InvalidText) (.ref C_NoWay) = some false)
    (xs_NoWay_InvalidText : PySem.W.subIn K (.ref C_NoWay) (.ref C_InvalidText) = some false)
    (xs_NoWay_NoWay : PySem.W.subIn K (.ref C_NoWay) (.ref C_NoWay) = some true)
    (pg_Site : PySem.W.plainGet K C_Site Str.empty = true)
    (hd_Site : PySem.W.hasDictIn K C_Site = true)
    (po_Site : PySem.W.plainOver K C_Site = true)
    (sa_Site : PySem.W.findIn K (.ref C_Site) "__setattr__" = some (some (.builtin "object.__setattr__")))
    (mk_Site : PySem.W.makesIn K C_Site = true)
    (mf_Site : PySem.W.isFn K (.ref f_init) = true)
    (mp_Site : PySem.W.keepIn K (.ref C_Site) = true)
    (na_Site_names : PySem.W.findIn K (.ref C_Site) "names" = some none)
    (na_Site_limits : PySem.W.findIn K (.ref C_Site) "limits" = some none)
    (na_Site_stays : PySem.W.findIn K (.ref C_Site) "stays" = some none)
    (na_Site_ways : PySem.W.findIn K (.ref C_Site) "ways" = some none)
    (sm_Site : PySem.W.isFn K (.ref f_strm) = true) :
    ∃ fd : FuncData, (∀ (s : Shared) (v : Value), BindsTo s fd ⟨[v], []⟩ [("script", v)]) ∧ ∀ base : Heap, K.In base → base.Ns mainGlobals mg → FnOk l.prog w K mg base (L2.CX l.prog w) 7 fa fd ["script"] (spP K PLaw) := by
  have e := hfa.symm.trans (PySem.W.mg_of X G a_law)
  cases e
  have T := txt_mk X G z_abs z_all z_enumerate z_int z_isinstance z_len z_list z_max z_min z_range z_sorted z_str z_tuple z_zip gc_WalkError gc_InvalidText gc_NoWay gc_Site a_i_InvalidText l_i_InvalidText c_i_InvalidText k_i_InvalidText a_i_NoWay l_i_NoWay c_i_NoWay k_i_NoWay a_init l_init c_init k_init sf_parse a_parse sr_parse sg_parse l_parse c_parse k_parse a_strm l_strm c_strm k_strm a_eqm l_eqm c_eqm k_eqm a_turned l_turned c_turned k_turned a_with_limits l_with_limits c_with_limits k_with_limits a_is_name l_is_name c_is_name k_is_name a__places_of l__places_of c__places_of k__places_of a__place_of l__place_of c__place_of k__place_of a__are_ways l__are_ways c__are_ways k__are_ways a__row_text l__row_text c__row_text k__row_text a__ways_back l__ways_back c__ways_back k__ways_back a__law_feed l__law_feed c__law_feed k__law_feed a__law_take l__law_take c__law_take k__law_take a__law_pick l__law_pick c__law_pick k__law_pick a__law_word l__law_word c__law_word k__law_word a__law_said l__law_said c__law_said k__law_said a__law_rows l__law_rows c__law_rows k__law_rows a__law_more_rows l__law_more_rows c__law_more_rows k__law_more_rows a__law_back l__law_back c__law_back k__law_back a__law_told_right l__law_told_right c__law_told_right k__law_told_right a_law l_law c_law k_law n_MOST_PLACES n_LONGEST_NAME n_LIMIT_WORDS kl_LIMIT_WORDS n_STEP_WORDS kl_STEP_WORDS ec_InvalidText es_InvalidText eg_InvalidText eh_InvalidText ex_InvalidText et_InvalidText ek_InvalidText ed_InvalidText ef_InvalidText ei_InvalidText ec_NoWay es_NoWay eg_NoWay eh_NoWay ex_NoWay et_NoWay ek_NoWay ed_NoWay ef_NoWay ei_NoWay xs_InvalidText_InvalidText xs_InvalidText_NoWay xs_NoWay_InvalidText xs_NoWay_NoWay pg_Site hd_Site po_Site sa_Site mk_Site mf_Site mp_Site na_Site_names na_Site_limits na_Site_stays na_Site_ways sm_Site
  exact ⟨_, fun s v => .of_eq rfl, fun base _ _ => law_ok T⟩
end Lw

open PySem PySem.W PyProof.Rows
set_option maxRecDepth 100000 in
set_option maxHeartbeats 0 in
theorem PySem.Challenge.cw_duewalk_k06_known_sites_holds : PySem.Challenge.rw_duewalk_k06_known_sites.Holds := by
  w_on; o_law; k_head; (case hw => w_witness2)
  k_fill
  refine Lw.walk_mine (l := PySem.Challenge.rw_duewalk_k06_known_sites) (n := 63) (k := 7) (x := "script") (CX := fun w => L2.CX PySem.Challenge.rw_duewalk_k06_known_sites.prog w) (P := Lw.PLaw) rfl (by decide) rfl ⟨rfl, by decide, by decide⟩ (fun w h Y => PySem.W.kIn_of Y) ?F (fun ns h => ⟨ns, rfl, h, rfl⟩) ?X
  case F =>
    intro w mg fa h KX G hmg
    refine' Lw.all_mk KX G hmg ?z_abs ?z_all ?z_enumerate ?z_int ?z_isinstance ?z_len ?z_list ?z_max ?z_min ?z_range ?z_sorted ?z_str ?z_tuple ?z_zip ?gc_WalkError ?gc_InvalidText ?gc_NoWay ?gc_Site ?a_i_InvalidText ?l_i_InvalidText ?c_i_InvalidText ?k_i_InvalidText ?a_i_NoWay ?l_i_NoWay ?c_i_NoWay ?k_i_NoWay ?a_init ?l_init ?c_init ?k_init ?sf_parse ?a_parse ?sr_parse ?sg_parse ?l_parse ?c_parse ?k_parse ?a_strm ?l_strm ?c_strm ?k_strm ?a_eqm ?l_eqm ?c_eqm ?k_eqm ?a_turned ?l_turned ?c_turned ?k_turned ?a_with_limits ?l_with_limits ?c_with_limits ?k_with_limits ?a_is_name ?l_is_name ?c_is_name ?k_is_name ?a__places_of ?l__places_of ?c__places_of ?k__places_of ?a__place_of ?l__place_of ?c__place_of ?k__place_of ?a__are_ways ?l__are_ways ?c__are_ways ?k__are_ways ?a__row_text ?l__row_text ?c__row_text ?k__row_text ?a__ways_back ?l__ways_back ?c__ways_back ?k__ways_back ?a__law_feed ?l__law_feed ?c__law_feed ?k__law_feed ?a__law_take ?l__law_take ?c__law_take ?k__law_take ?a__law_pick ?l__law_pick ?c__law_pick ?k__law_pick ?a__law_word ?l__law_word ?c__law_word ?k__law_word ?a__law_said ?l__law_said ?c__law_said ?k__law_said ?a__law_rows ?l__law_rows ?c__law_rows ?k__law_rows ?a__law_more_rows ?l__law_more_rows ?c__law_more_rows ?k__law_more_rows ?a__law_back ?l__law_back ?c__law_back ?k__law_back ?a__law_told_right ?l__law_told_right ?c__law_told_right ?k__law_told_right ?a_law ?l_law ?c_law ?k_law ?n_MOST_PLACES ?n_LONGEST_NAME ?n_LIMIT_WORDS ?kl_LIMIT_WORDS ?n_STEP_WORDS ?kl_STEP_WORDS ?ec_InvalidText ?es_InvalidText ?eg_InvalidText ?eh_InvalidText ?ex_InvalidText ?et_InvalidText ?ek_InvalidText ?ed_InvalidText ?ef_InvalidText ?ei_InvalidText ?ec_NoWay ?es_NoWay ?eg_NoWay ?eh_NoWay ?ex_NoWay ?et_NoWay ?ek_NoWay ?ed_NoWay ?ef_NoWay ?ei_NoWay ?xs_InvalidText_InvalidText ?xs_InvalidText_NoWay ?xs_NoWay_InvalidText ?xs_NoWay_NoWay ?pg_Site ?hd_Site ?po_Site ?sa_Site ?mk_Site ?mf_Site ?mp_Site ?na_Site_names ?na_Site_limits ?na_Site_stays ?na_Site_ways ?sm_Site
    (case z_abs => k_is)
    (case z_all => k_is)
    (case z_enumerate => k_is)
    (case z_int => k_is)
    (case z_isinstance => k_is)
    (case z_len => k_is)
    (case z_list => k_is)
    (case z_max => k_is)
    (case z_min => k_is)
    (case z_range => k_is)
    (case z_sorted => k_is)
    (case z_str => k_is)
    (case z_tuple => k_is)
    (case z_zip => k_is)
    (case gc_WalkError => k_is)
    (case gc_InvalidText => k_is)
    (case gc_NoWay => k_is)
    (case gc_Site => k_is)
    (case a_i_InvalidText => k_is)
    (case l_i_InvalidText => k_is)
    (case c_i_InvalidText => k_is)
    (case k_i_InvalidText => k_is)
    (case a_i_NoWay => k_is)
    (case l_i_NoWay => k_is)
    (case c_i_NoWay => k_is)
    (case k_i_NoWay => k_is)
    (case a_init => k_is)
    (case l_init => k_is)
    (case c_init => k_is)
    (case k_init => k_is)
    (case sf_parse => k_is)
    (case a_parse => k_is)
    (case sr_parse => k_is)
    (case sg_parse => k_is)
    (case l_parse => k_is)
    (case c_parse => k_is)
    (case k_parse => k_is)
    (case a_strm => k_is)
    (case l_strm => k_is)
    (case c_strm => k_is)
    (case k_strm => k_is)
    (case a_eqm => k_is)
    (case l_eqm => k_is)
    (case c_eqm => k_is)
    (case k_eqm => k_is)
    (case a_turned => k_is)
    (case l_turned => k_is)
    (case c_turned => k_is)
    (case k_turned => k_is)
    (case a_with_limits => k_is)
    (case l_with_limits => k_is)
    (case c_with_limits => k_is)
    (case k_with_limits => k_is)
    (case a_is_name => k_is)
    (case l_is_name => k_is)
    (case c_is_name => k_is)
    (case k_is_name => k_is)
    (case a__places_of => k_is)
    (case l__places_of => k_is)
    (case c__places_of => k_is)
    (case k__places_of => k_is)
    (case a__place_of => k_is)
    (case l__place_of => k_is)
    (case c__place_of => k_is)
    (case k__place_of => k_is)
    (case a__are_ways => k_is)
    (case l__are_ways => k_is)
    (case c__are_ways => k_is)
    (case k__are_ways => k_is)
    (case a__row_text => k_is)
    (case l__row_text => k_is)
    (case c__row_text => k_is)
    (case k__row_text => k_is)
    (case a__ways_back => k_is)
    (case l__ways_back => k_is)
    (case c__ways_back => k_is)
    (case k__ways_back => k_is)
    (case a__law_feed => k_is)
    (case l__law_feed => k_is)
    (case c__law_feed => k_is)
    (case k__law_feed => k_is)
    (case a__law_take => k_is)
    (case l__law_take => k_is)
    (case c__law_take => k_is)
    (case k__law_take => k_is)
    (case a__law_pick => k_is)
    (case l__law_pick => k_is)
    (case c__law_pick => k_is)
    (case k__law_pick => k_is)
    (case a__law_word => k_is)
    (case l__law_word => k_is)
    (case c__law_word => k_is)
    (case k__law_word => k_is)
    (case a__law_said => k_is)
    (case l__law_said => k_is)
    (case c__law_said => k_is)
    (case k__law_said => k_is)
    (case a__law_rows => k_is)
    (case l__law_rows => k_is)
    (case c__law_rows => k_is)
    (case k__law_rows => k_is)
    (case a__law_more_rows => k_is)
    (case l__law_more_rows => k_is)
    (case c__law_more_rows => k_is)
    (case k__law_more_rows => k_is)
    (case a__law_back => k_is)
    (case l__law_back => k_is)
    (case c__law_back => k_is)
    (case k__law_back => k_is)
    (case a__law_told_right => k_is)
    (case l__law_told_right => k_is)
    (case c__law_told_right => k_is)
    (case k__law_told_right => k_is)
    (case a_law => k_is)
    (case l_law => k_is)
    (case c_law => k_is)
    (case k_law => k_is)
    (case n_MOST_PLACES => k_is)
    (case n_LONGEST_NAME => k_is)
    (case n_LIMIT_WORDS => k_is)
    (case kl_LIMIT_WORDS => k_is)
    (case n_STEP_WORDS => k_is)
    (case kl_STEP_WORDS => k_is)
    (case ec_InvalidText => exact ⟨_, _, _, _, _, _, _, _, _, _, _, _, _, _, _, by k_is, by decide +kernel⟩)
    (case es_InvalidText => k_is)
    (case eg_InvalidText => k_is)
    (case eh_InvalidText => k_is)
    (case ex_InvalidText => k_is)
    (case et_InvalidText => k_is)
    (case ek_InvalidText => k_is)
    (case ed_InvalidText => k_is)
    (case ef_InvalidText => k_is)
    (case ei_InvalidText => k_is)
    (case ec_NoWay => exact ⟨_, _, _, _, _, _, _, _, _, _, _, _, _, _, _, by k_is, by decide +kernel⟩)
    (case es_NoWay => k_is)
    (case eg_NoWay => k_is)
    (case eh_NoWay => k_is)
    (case ex_NoWay => k_is)
    (case et_NoWay => k_is)
    (case ek_NoWay => k_is)
    (case ed_NoWay => k_is)
    (case ef_NoWay => k_is)
    (case ei_NoWay => k_is)
    (case xs_InvalidText_InvalidText => first | rfl | k_is)
    (case xs_InvalidText_NoWay => first | rfl | k_is)
    (case xs_NoWay_InvalidText => first | rfl | k_is)
    (case xs_NoWay_NoWay => first | rfl | k_is)
    (case pg_Site => k_is)
    (case hd_Site => k_is)
    (case po_Site => k_is)
    (case sa_Site => k_is)
    (case mk_Site => k_is)
    (case mf_Site => k_is)
    (case mp_Site => k_is)
    (case na_Site_names => k_is)
    (case na_Site_limits => k_is)
    (case na_Site_stays => k_is)
    (case na_Site_ways => k_is)
    (case sm_Site => k_is)
  case X =>
    intro w H s e s' h
    obtain ⟨_, _, _, _, _, _, _, _, _, _, _, _, z⟩ := h
    exact z.elim

