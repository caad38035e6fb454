import PyProof.Rows.All
import Wide.All
import OpenK.AllK
import Wide.FinOn
import HandS.Base
import HandS.Call
import HandS.List
import HandS.Comp
import HandS.Ends
import HandS.Dict
import HandS.Iter
import HandS.Text
import HandS.Words
import HandS.WordsList
import HandS.Evl
import HandS.TupMul
import HandS.Strs
import HandS.Gcd
import KE.KMathGC
import PyProof.P3In
import HandS.Zip
import HandS.Style
import HandS.Walk
import PyProof.Rows.MinMaxN
import KE.SortKeyHeap
import HandS.Lambda
import HandS.SortKw
import HandS.Conv
import HandS.EndTab
import KE.KNestM
import PySem.Challenge.RW_messageways_k10_sets_of_languages
set_option Elab.async false
set_option maxRecDepth 100000
namespace Mw
open PySem L2
def top (i : Nat) : Stmt := PySem.Challenge.pw_messageways_k10_sets_of_languages.main.body.getD i (.Pass ⟨0, 0, 0, 0⟩)
/-! ### trees of messages: a message is a chain of nodes, the cases of a choice a chain of cas -/
inductive T where
  | nil
  | text (s : Str) (r : T)
  | shw (n : Str) (r : T)
  | num (r : T)
  | cho (hd : List V) (cs o r : T)
  | cas (k : V) (m r : T)
/-- the values vs are the nodes (the cases) of the tree, as the heap has them -/
def Nodes (H : Hp) : T → List V → Prop
  | .nil, vs => vs = []
  | .text s r, vs => ∃ p ws, vs = .ref p :: ws ∧ H p = some (.tup [.str "text", .str s]) ∧ Nodes H r ws
  | .shw n r, vs => ∃ p ws, vs = .ref p :: ws ∧ H p = some (.tup [.str "show", .str n]) ∧ Nodes H r ws
  | .num r, vs => ∃ p ws, vs = .ref p :: ws ∧ H p = some (.tup [.str "number"]) ∧ Nodes H r ws
  | .cho hd cs o r, vs => ∃ p ws ca cvs oa ovs, vs = .ref p :: ws ∧ H p = some (.tup (hd ++ [.ref ca, .ref oa])) ∧ H ca = some (.lst cvs) ∧ Nodes H cs cvs ∧ H oa = some (.lst ovs) ∧ Nodes H o ovs ∧ Nodes H r ws
  | .cas k m r, vs => ∃ p ws ma mvs, vs = .ref p :: ws ∧ H p = some (.tup [k, .ref ma]) ∧ H ma = some (.lst mvs) ∧ Nodes H m mvs ∧ Nodes H r ws
/-- a list at a that is a message -/
def At (H : Hp) (a : Addr) (t : T) : Prop := ∃ vs, H a = some (.lst vs) ∧ Nodes H t vs
/-- all but the box stays; the box is a list of a ref and an int -/
def IsBox (vs : List V) : Prop := ∃ d i, vs = [.ref d, .int i]
def Ext (B : Addr) (H H' : Hp) : Prop := ∀ b o, b ≠ B → H b = some o → H' b = some o
theorem Ext.refl {B : Addr} (H : Hp) : Ext B H H := fun _ _ _ h => h
theorem Ext.trans {B : Addr} {H H1 H2 : Hp} (a : Ext B H H1) (b : Ext B H1 H2) : Ext B H H2 := fun c o n h => b c o n (a c o n h)
theorem Ext.of {B : Addr} {H H' : Hp} (s : Same H H') : Ext B H H' := fun b o _ h => s b o h
theorem same_new {H : Hp} {p : Addr} (h : H p = none) (o : HO) : Same H (upd H p o) := fun b u q => by
  rw [upd_ne (ne_of_none q h)]
  exact q
theorem same_mut {H H' : Hp} {p : Addr} (s : Same H H') (h : H p = none) (o : HO) : Same H (upd H' p o) := fun b u q => by
  rw [upd_ne (ne_of_none q h)]
  exact s b u q
theorem Nodes.refs {H : Hp} : ∀ {t : T} {vs : List V}, Nodes H t vs → ∀ v ∈ vs, ∃ a, v = .ref a
  | .nil, _, h, v, hv => by
    have h' : _ = [] := h
    subst h'
    cases hv
  | .text s r, _, h, v, hv => by
    obtain ⟨p, ws, rfl, _, hr⟩ := h
    rcases List.mem_cons.mp hv with rfl | hv
    · exact ⟨_, rfl⟩
    · exact Nodes.refs hr v hv
  | .shw n r, _, h, v, hv => by
    obtain ⟨p, ws, rfl, _, hr⟩ := h
    rcases List.mem_cons.mp hv with rfl | hv
    · exact ⟨_, rfl⟩
    · exact Nodes.refs hr v hv
  | .num r, _, h, v, hv => by
    obtain ⟨p, ws, rfl, _, hr⟩ := h
    rcases List.mem_cons.mp hv with rfl | hv
    · exact ⟨_, rfl⟩
    · exact Nodes.refs hr v hv
  | .cho hd cs o r, _, h, v, hv => by
    obtain ⟨p, ws, ca, cvs, oa, ovs, rfl, _, _, _, _, _, hr⟩ := h
    rcases List.mem_cons.mp hv with rfl | hv
    · exact ⟨_, rfl⟩
    · exact Nodes.refs hr v hv
  | .cas k m r, _, h, v, hv => by
    obtain ⟨p, ws, ma, mvs, rfl, _, _, _, hr⟩ := h
    rcases List.mem_cons.mp hv with rfl | hv
    · exact ⟨_, rfl⟩
    · exact Nodes.refs hr v hv
theorem Nodes.notBox {H : Hp} {t : T} {vs : List V} (h : Nodes H t vs) : ¬ IsBox vs := by
  rintro ⟨d, i, rfl⟩
  obtain ⟨a, e⟩ := h.refs (.int i) (by simp)
  cases e
theorem lst_ne {B a : Addr} {H : Hp} {bs vs : List V} (hb : H B = some (.lst bs)) (ib : IsBox bs) (ha : H a = some (.lst vs)) (nv : ¬ IsBox vs) : a ≠ B := by
  intro e
  subst e
  rw [hb] at ha
  cases ha
  exact nv ib
theorem tup_ne {B a : Addr} {H : Hp} {bs vs : List V} (hb : H B = some (.lst bs)) (ha : H a = some (.tup vs)) : a ≠ B := by
  intro e
  subst e
  rw [hb] at ha
  cases ha
/-- a tree stays where all but the box stays -/
theorem Nodes.ext {B : Addr} {H H' : Hp} {bs : List V} (hb : H B = some (.lst bs)) (ib : IsBox bs) (e : Ext B H H') : ∀ {t : T} {vs : List V}, Nodes H t vs → Nodes H' t vs
  | .nil, _, h => h
  | .text s r, _, h => by
    obtain ⟨p, ws, rfl, hp, hr⟩ := h
    exact ⟨p, ws, rfl, e _ _ (tup_ne hb hp) hp, Nodes.ext hb ib e hr⟩
  | .shw n r, _, h => by
    obtain ⟨p, ws, rfl, hp, hr⟩ := h
    exact ⟨p, ws, rfl, e _ _ (tup_ne hb hp) hp, Nodes.ext hb ib e hr⟩
  | .num r, _, h => by
    obtain ⟨p, ws, rfl, hp, hr⟩ := h
    exact ⟨p, ws, rfl, e _ _ (tup_ne hb hp) hp, Nodes.ext hb ib e hr⟩
  | .cho hd cs o r, _, h => by
    obtain ⟨p, ws, ca, cvs, oa, ovs, rfl, hp, hc, hcs, ho, hos, hr⟩ := h
    exact ⟨p, ws, ca, cvs, oa, ovs, rfl, e _ _ (tup_ne hb hp) hp, e _ _ (lst_ne hb ib hc hcs.notBox) hc, Nodes.ext hb ib e hcs, e _ _ (lst_ne hb ib ho hos.notBox) ho, Nodes.ext hb ib e hos, Nodes.ext hb ib e hr⟩
  | .cas k m r, _, h => by
    obtain ⟨p, ws, ma, mvs, rfl, hp, hm, hms, hr⟩ := h
    exact ⟨p, ws, ma, mvs, rfl, e _ _ (tup_ne hb hp) hp, e _ _ (lst_ne hb ib hm hms.notBox) hm, Nodes.ext hb ib e hms, Nodes.ext hb ib e hr⟩
theorem Nodes.same {H H' : Hp} (e : Same H H') : ∀ {t : T} {vs : List V}, Nodes H t vs → Nodes H' t vs
  | .nil, _, h => h
  | .text s r, _, h => by
    obtain ⟨p, ws, rfl, hp, hr⟩ := h
    exact ⟨p, ws, rfl, e _ _ hp, Nodes.same e hr⟩
  | .shw n r, _, h => by
    obtain ⟨p, ws, rfl, hp, hr⟩ := h
    exact ⟨p, ws, rfl, e _ _ hp, Nodes.same e hr⟩
  | .num r, _, h => by
    obtain ⟨p, ws, rfl, hp, hr⟩ := h
    exact ⟨p, ws, rfl, e _ _ hp, Nodes.same e hr⟩
  | .cho hd cs o r, _, h => by
    obtain ⟨p, ws, ca, cvs, oa, ovs, rfl, hp, hc, hcs, ho, hos, hr⟩ := h
    exact ⟨p, ws, ca, cvs, oa, ovs, rfl, e _ _ hp, e _ _ hc, Nodes.same e hcs, e _ _ ho, Nodes.same e hos, Nodes.same e hr⟩
  | .cas k m r, _, h => by
    obtain ⟨p, ws, ma, mvs, rfl, hp, hm, hms, hr⟩ := h
    exact ⟨p, ws, ma, mvs, rfl, e _ _ hp, e _ _ hm, Nodes.same e hms, Nodes.same e hr⟩
/-- two chains, one behind the other -/
def T.app : T → T → T
  | .nil, u => u
  | .text s r, u => .text s (r.app u)
  | .shw n r, u => .shw n (r.app u)
  | .num r, u => .num (r.app u)
  | .cho hd cs o r, u => .cho hd cs o (r.app u)
  | .cas k m r, u => .cas k m (r.app u)
theorem Nodes.app {H : Hp} {u : T} {us : List V} (hu : Nodes H u us) : ∀ {t : T} {vs : List V}, Nodes H t vs → Nodes H (t.app u) (vs ++ us)
  | .nil, _, h => by
    have h' : _ = [] := h
    subst h'
    exact hu
  | .text s r, _, h => by
    obtain ⟨p, ws, rfl, hp, hr⟩ := h
    exact ⟨p, ws ++ us, rfl, hp, Nodes.app hu hr⟩
  | .shw n r, _, h => by
    obtain ⟨p, ws, rfl, hp, hr⟩ := h
    exact ⟨p, ws ++ us, rfl, hp, Nodes.app hu hr⟩
  | .num r, _, h => by
    obtain ⟨p, ws, rfl, hp, hr⟩ := h
    exact ⟨p, ws ++ us, rfl, hp, Nodes.app hu hr⟩
  | .cho hd cs o r, _, h => by
    obtain ⟨p, ws, ca, cvs, oa, ovs, rfl, hp, hc, hcs, ho, hos, hr⟩ := h
    exact ⟨p, ws ++ us, ca, cvs, oa, ovs, rfl, hp, hc, hcs, ho, hos, Nodes.app hu hr⟩
  | .cas k m r, _, h => by
    obtain ⟨p, ws, ma, mvs, rfl, hp, hm, hms, hr⟩ := h
    exact ⟨p, ws ++ us, ma, mvs, rfl, hp, hm, hms, Nodes.app hu hr⟩
section
variable {P : Program} {w : World} {K : PySem.W.Frag} {mg : Str → Option Value} {base : Heap}
/-! ### _law_cell -/
abbrev sCell : Stmt := top 22
theorem scCell : FnScope ["script", "k"] ["script", "k"] (defScope sCell) := ⟨rfl, rfl, rfl, by decide +kernel, rfl, by decide +kernel, by decide +kernel⟩
def spCell (K : PySem.W.Frag) : Sp := fun vs H Q _ => ∃ (a : Addr) (ns : List Int) (k : Int), vs = [.ref a, .int k] ∧ SqL K H a (ns.map V.int) ∧ 0 ≤ k ∧ ∀ z, Q (.int z) H
theorem ok_cell {f : Addr} {fd : FuncData} (F : Fun K "_law_cell" "_law_cell" sCell f fd) (ml : mg "len" = none) : FnOk P w K mg base CX0 1 f fd ["script", "k"] (spCell K) := by
  refine F.ok scCell (fun vs H Q E h => ?_) (fun cdv A outer s H vs Q E hr h => ?_)
  · obtain ⟨a, ns, k, rfl, _⟩ := h
    rfl
  obtain ⟨a, ns, k, rfl, hS, h0, q⟩ := h
  refine ⟨_, pss_cons (ps_if (pt_cmpR op_lt (pv 1) (pe_callB call_len_seq (by rfl) ml PySem.boot_len (pa_cons (pv 0) pa_nil)) (nomark _)) (pss_one (ps_ret (pe_ix ix_list (pv 0) (pv 1) (fun _ _ => rfl)))) pss_nil)
    (pss_one (ps_ret pe_int)), ?_⟩
  refine ⟨_, rfl, _, rfl, a, _, rfl, .inl hS, _, _, rfl, rfl, _, rfl, ?_⟩
  refine ite2 (fun c => ?_) (fun c => ?_)
  · have c' := of_decide_eq_true c
    rw [List.length_map] at c'
    have hk : k.toNat < ns.length := by omega
    refine ⟨_, rfl, _, rfl, a, _, k, .int ns[k.toNat], rfl, rfl, hS, at_of (j := k.toNat) (by omega) (by rw [List.getElem?_map, List.getElem?_eq_getElem hk] <;> rfl), q _⟩
  · exact q _
end
end Mw

namespace Mw
open PySem L2
section
variable {P : Program} {w : World} {K : PySem.W.Frag} {mg : Str → Option Value} {base : Heap}
/-! ### _law_digits: a new list of ints -/
abbrev sDigits : Stmt := top 23
theorem scDigits : FnScope ["script", "first", "last", "digits", "k", "cell", "turn", "seed"] ["script", "first", "last"] (defScope sDigits) := ⟨rfl, rfl, rfl, by decide +kernel, rfl, by decide +kernel, by decide +kernel⟩
def spDigits (K : PySem.W.Frag) : Sp := fun vs H Q _ => ∃ (a : Addr) (ns : List Int), vs = [.ref a, .int 0, .int 63] ∧ SqL K H a (ns.map V.int) ∧ ∀ (d : Addr) (H' : Hp) (ds : List Int), H d = none → Same H H' → H' d = some (.lst (ds.map V.int)) → Q (.ref d) H'
theorem len_ints (ds : List Int) (z : Int) : ds.map V.int ++ [V.int z] = (ds ++ [z]).map V.int := by simp
theorem ok_digits {f fC : Addr} {fd fdC : FuncData} (F : Fun K "_law_digits" "_law_digits" sDigits f fd) (GC : FnOk P w K mg base CX0 1 fC fdC ["script", "k"] (spCell K)) (bC : Binds K fdC ["script", "k"] []) (kC : PySem.W.keepIn K (.ref fC) = true) (mC : mg "_law_cell" = some (.ref fC)) (mr : mg "range" = none) (mi : mg "int" = none) :
    FnOk P w K mg base CX0 2 f fd ["script", "first", "last"] (spDigits K) := by
  refine F.ok scDigits (fun vs H Q E h => ?_) (fun cdv A outer s H vs Q E hr h => ?_)
  · obtain ⟨a, ns, rfl, _⟩ := h
    rfl
  obtain ⟨a, ns, rfl, hS, q⟩ := h
  have nd := scDigits.nd
  refine ⟨_, pss_cons (ps_set (i := 3) nd rfl (.inl rfl) (pe_lst pa_nil))
    (pss_cons (ps_for PassesOwn.never rfl (pi_range2 rfl mr (pa_cons (pv 1) (pa_cons (pv 2) pa_nil))) (pg_name (i := 4) nd rfl (.inl rfl))
      (pss_cons (ps_set (i := 5) nd rfl (.inl rfl) (pe_call GC hr rfl mC kC bC .nil pass0 (pa_cons (pv 0) (pa_cons (pv 4) pa_nil))))
      (Evl.pss_cut (ps_if (pt_cmpR op_lt (pv 5) pe_int (nomark _)) (pss_one (ps_set (i := 5) nd rfl (.inl rfl) (pe_op op_sub pe_int (pe_op op_mul pe_int (pv 5))))) pss_nil)
      (pss_one (ps_if (pt_cmpR op_ge (pv 5) (pe_op op_pow pe_int pe_int) (nomark _))
        (pss_one (ps_for PassesOwn.never rfl (pi_range1 rfl mr (pa_cons pe_int pa_nil)) (pg_name (i := 6) nd rfl (.inl rfl))
          (pss_one (ps_if (pt_cmpR op_gt (pv 5) pe_int (nomark _))
            (pss_cons (ps_expr (pe_bm PySem.F.plainAttrs_list PySem.F.slot_list_append PySem.F.type_list_append mt_append (pv 3) (pa_cons (pe_op op_mod (pe_callTy call_int1 (by rfl) mi (by decide +kernel) (pa_cons (pv 5) pa_nil)) pe_int) pa_nil)))
            (pss_one (ps_set (i := 5) nd rfl (.inl rfl) (pe_op op_fdiv (pv 5) pe_int)))) pss_nil))))
        (pss_cons (ps_set (i := 7) nd rfl (.inl rfl) (pe_op op_mod (pe_callTy call_int1 (by rfl) mi (by decide +kernel) (pa_cons (pe_op op_add (pe_op op_add (pe_op op_mul (pv 5) pe_int) (pe_op op_mul (pv 4) pe_int)) pe_int) pa_nil)) pe_int))
        (pss_one (ps_for PassesOwn.never rfl (pi_range1 rfl mr (pa_cons pe_int pa_nil)) (pg_name (i := 6) nd rfl (.inl rfl))
          (pss_cons (ps_set (i := 7) nd rfl (.inl rfl) (pe_op op_mod (pe_callTy call_int1 (by rfl) mi (by decide +kernel) (pa_cons (pe_op op_add (pe_op op_add (pe_op op_mul (pv 7) pe_int) (pe_op op_mul pe_int (pv 6))) pe_int) pa_nil)) pe_int))
          (pss_one (ps_expr (pe_bm PySem.F.plainAttrs_list PySem.F.slot_list_append PySem.F.type_list_append mt_append (pv 3) (pa_cons (pe_op op_mod (pe_callTy call_int1 (by rfl) mi (by decide +kernel) (pa_cons (pe_op op_fdiv (pv 7) pe_int) pa_nil)) pe_int) pa_nil)))))))))))))
    (pss_one (ps_ret (pv 3)))), ?_⟩
  refine ⟨Nat.zero_le _, fun d nd0 => ?_⟩
  have s1 : Same H (upd H d (.lst [])) := same_new nd0 _
  refine ⟨_, rfl, _, rfl, 0, 63, rfl, by decide, for_range (lo := 0) (n := (63 - 0 : Int).toNat) (fun i σ H' => ∃ (ds : List Int) (o4 o5 o6 o7 : Option V), σ = [some (.ref a), some (.int 0), some (.int 63), some (.ref d), o4, o5, o6, o7] ∧ Same H H' ∧ H' d = some (.lst (ds.map V.int)) ∧ ds.length ≤ 60 * i)
    ⟨[], none, none, none, none, rfl, s1, upd_same, Nat.le_refl _⟩ ?_ ?_⟩
  · rintro i σ H2 hi ⟨ds, o4, o5, o6, o7, rfl, s2, hd, hl⟩
    refine ⟨_, rfl, _, rfl, a, ns, _, rfl, s2.seq hS, by omega, fun z => ?_⟩
    refine ⟨fun σ' H' => ∃ z' : Int, σ' = [some (.ref a), some (.int 0), some (.int 63), some (.ref d), some (.int (0 + i)), some (.int z'), o6, o7] ∧ H' = H2, ?_, ?_⟩
    · refine ⟨_, rfl, _, _, rfl, rfl, _, rfl, ?_⟩
      refine ite2 (fun _ => ?_) (fun _ => ?_)
      · exact ⟨_, rfl, _, _, rfl, rfl, .inl (by decide), _, _, rfl, rfl, _, rfl, rfl⟩
      · exact ⟨_, rfl, rfl⟩
    · rintro σ' H' ⟨z', rfl, rfl⟩
      refine ⟨_, rfl, _, _, rfl, rfl, (by unfold CPow; decide), _, _, rfl, rfl, _, rfl, ?_⟩
      refine ite2 (fun _ => ?_) (fun _ => ?_)
      · refine ⟨60, rfl, by decide, by decide, for_range (lo := 0) (n := 60) (fun j σ H' => ∃ (ds' : List Int) (z' : Int) (o6 : Option V), σ = [some (.ref a), some (.int 0), some (.int 63), some (.ref d), some (.int (0 + i)), some (.int z'), o6, o7] ∧ Same H H' ∧ H' d = some (.lst (ds'.map V.int)) ∧ ds'.length ≤ 60 * i + j)
          ⟨ds, z', o6, rfl, s2, hd, hl⟩ ?_ ?_⟩
        · rintro j σ H3 hj ⟨ds', z'', o6, rfl, s3, hd3, hl3⟩
          refine ⟨_, rfl, _, _, rfl, rfl, _, rfl, ?_⟩
          refine ite2 (fun _ => ?_) (fun _ => ?_)
          · refine ⟨_, rfl, .inl ⟨rfl, _, SqL.of hd3⟩, _, rfl, .inl ⟨_, rfl, _, _, rfl, rfl, (by show (0 : Int) < 1000; decide), d, _, _, rfl, rfl, hd3, ?_, ?_⟩⟩
            · rw [List.length_map]
              exact Nat.lt_of_lt_of_le (show ds'.length < 100000 by omega) (by decide)
            · refine ⟨_, rfl, _, _, rfl, rfl, ⟨by decide, by decide⟩, ds' ++ [z'' % 1000], _, _, rfl, same_mut s3 nd0 _, ?_, ?_⟩
              · rw [upd_same, len_ints]
              · rw [List.length_append, List.length_singleton]
                omega
          · exact ⟨ds', _, _, rfl, s3, hd3, by omega⟩
        · rintro σ H3 ⟨ds', z'', o6, rfl, s3, hd3, hl3⟩
          exact ⟨ds', _, _, _, _, rfl, s3, hd3, by omega⟩
      · refine ⟨_, rfl, _, _, rfl, rfl, .inr (by decide), _, rfl, _, _, rfl, rfl, .inr (by decide), _, _, rfl, rfl, _, _, rfl, rfl, .inl ⟨_, rfl, _, _, rfl, rfl, (by show (0 : Int) < 2147483647; decide), ?_⟩⟩
        refine ⟨12, rfl, by decide, by decide, for_range (lo := 0) (n := 12) (fun j σ H' => ∃ (ds' : List Int) (z7 : Int) (o6 : Option V), σ = [some (.ref a), some (.int 0), some (.int 63), some (.ref d), some (.int (0 + i)), some (.int z'), o6, some (.int z7)] ∧ Same H H' ∧ H' d = some (.lst (ds'.map V.int)) ∧ ds'.length ≤ 60 * i + j)
          ⟨ds, _, o6, rfl, s2, hd, hl⟩ ?_ ?_⟩
        · rintro j σ H3 hj ⟨ds', z7, o6, rfl, s3, hd3, hl3⟩
          refine ⟨_, rfl, _, _, rfl, rfl, .inr (by decide), _, rfl, _, _, rfl, rfl, .inl (by decide), _, _, rfl, rfl, _, _, rfl, rfl, .inl ⟨_, rfl, _, _, rfl, rfl, (by show (0 : Int) < 2147483647; decide), ?_⟩⟩
          refine ⟨_, rfl, .inl ⟨rfl, _, SqL.of hd3⟩, _, rfl, _, _, rfl, rfl, ⟨by decide, by decide⟩, .inl ⟨_, rfl, _, _, rfl, rfl, (by show (0 : Int) < 1000; decide), d, _, _, rfl, rfl, hd3, ?_, ?_⟩⟩
          · rw [List.length_map]
            exact Nat.lt_of_lt_of_le (show ds'.length < 100000 by omega) (by decide)
          · refine ⟨ds' ++ [((z7 * 16807 + 7 * (0 + (j : Int)) + 1) % 2147483647 / 997) % 1000], _, _, rfl, same_mut s3 nd0 _, ?_, ?_⟩
            · rw [upd_same, len_ints]
            · rw [List.length_append, List.length_singleton]
              omega
        · rintro σ H3 ⟨ds', z7, o6, rfl, s3, hd3, hl3⟩
          exact ⟨ds', _, _, _, _, rfl, s3, hd3, by omega⟩
  · rintro σ H2 ⟨ds, o4, o5, o6, o7, rfl, s2, hd, hl⟩
    exact ⟨_, rfl, q d H2 ds nd0 s2 hd⟩
end
end Mw

namespace Mw
open PySem L2
/-! ### how a heap goes on: all but the box stays, nothing is given up -/
structure Go (B : Addr) (H H' : Hp) : Prop where
  ext : ∀ b o, b ≠ B → H b = some o → H' b = some o
  dom : ∀ b, H' b = none → H b = none
theorem Go.refl (B : Addr) (H : Hp) : Go B H H := ⟨fun _ _ _ h => h, fun _ h => h⟩
theorem Go.trans {B : Addr} {H H1 H2 : Hp} (a : Go B H H1) (b : Go B H1 H2) : Go B H H2 := ⟨fun c o n h => b.ext c o n (a.ext c o n h), fun c h => a.dom c (b.dom c h)⟩
theorem upd_none {H : Hp} {p b : Addr} {o : HO} (h : upd H p o b = none) : H b = none := by
  unfold upd at h
  split at h
  · cases h
  · exact h
theorem Go.new {B : Addr} {H : Hp} {p : Addr} (h : H p = none) (o : HO) : Go B H (upd H p o) := ⟨fun b u _ q => same_new h o b u q, fun b q => upd_none q⟩
theorem Go.mut {B : Addr} {H H' : Hp} {p : Addr} (g : Go B H H') (h : H p = none) (o : HO) : Go B H (upd H' p o) :=
  ⟨fun b u n q => by
    rw [upd_ne (ne_of_none q h)]
    exact g.ext b u n q, fun b q => g.dom b (upd_none q)⟩
theorem Go.box (B : Addr) (H : Hp) (o : HO) : Go B H (upd H B o) := ⟨fun b u n q => by rw [upd_ne n]; exact q, fun b q => upd_none q⟩
theorem Go.same {B : Addr} {H H' : Hp} (s : Same H H') : Go B H H' := ⟨fun b o _ h => s b o h, fun b h => s.free h⟩
/-- what is new in H, seen from H0 -/
def fr (H0 H : Hp) : Hp := fun a => match H0 a with
  | none => H a
  | some _ => none
theorem fr_new {H0 H : Hp} {a : Addr} (h : H0 a = none) : fr H0 H a = H a := by
  unfold fr
  rw [h]
theorem fr_old {H0 H : Hp} {a : Addr} {o : HO} (h : H0 a = some o) : fr H0 H a = none := by
  unfold fr
  rw [h]
theorem fr_in {H0 H : Hp} {a : Addr} {o : HO} (h : fr H0 H a = some o) : H0 a = none ∧ H a = some o := by
  unfold fr at h
  split at h
  · exact ⟨by assumption, h⟩
  · cases h
theorem fr_go {B : Addr} {H0 H1 H2 : Hp} {ob : HO} (hb : H0 B = some ob) (g : Go B H1 H2) : Same (fr H0 H1) (fr H0 H2) := fun a o h => by
  obtain ⟨h0, h1⟩ := fr_in h
  rw [fr_new h0]
  exact g.ext a o (by rintro rfl; rw [hb] at h0; cases h0) h1
theorem fr_same {H0 H1 H2 : Hp} (g : Same H1 H2) : Same (fr H0 H1) (fr H0 H2) := fun a o h => by
  obtain ⟨h0, h1⟩ := fr_in h
  rw [fr_new h0]
  exact g a o h1
theorem fr_mut {H0 H1 : Hp} {l : Addr} {ol : HO} (hl : H0 l = some ol) (o : HO) : Same (fr H0 H1) (fr H0 (upd H1 l o)) := fun a u h => by
  obtain ⟨h0, h1⟩ := fr_in h
  rw [fr_new h0, upd_ne (by rintro rfl; rw [hl] at h0; cases h0)]
  exact h1
theorem fr_dom {H0 H1 H2 : Hp} (g : ∀ b, H1 b = none → H0 b = none) : Same (fr H1 H2) (fr H0 H2) := fun a u h => by
  obtain ⟨h0, h1⟩ := fr_in h
  rw [fr_new (g a h0)]
  exact h1
theorem fr_out {H0 H : Hp} : Same (fr H0 H) H := fun a o h => (fr_in h).2
/-- the box: digits and a place -/
def Box (H : Hp) (B d : Addr) : Prop := ∃ (ds : List Int) (i : Int), H B = some (.lst [.ref d, .int i]) ∧ H d = some (.lst (ds.map V.int)) ∧ 0 ≤ i
theorem Box.isB {H : Hp} {B d : Addr} (b : Box H B d) : ∃ o, H B = some o := by
  obtain ⟨ds, i, h, _⟩ := b
  exact ⟨_, h⟩
theorem Box.isD {H : Hp} {B d : Addr} (b : Box H B d) : ∃ o, H d = some o := by
  obtain ⟨ds, i, _, h, _⟩ := b
  exact ⟨_, h⟩
theorem Box.neB {H : Hp} {B d l : Addr} (b : Box H B d) (h : H l = none) : l ≠ B := by
  obtain ⟨o, hB⟩ := b.isB
  exact (ne_of_none hB h).symm
theorem Box.neD {H : Hp} {B d l : Addr} (b : Box H B d) (h : H l = none) : l ≠ d := by
  obtain ⟨o, hB⟩ := b.isD
  exact (ne_of_none hB h).symm
theorem Box.ne {H : Hp} {B d : Addr} {ds : List Int} {i : Int} (h : H B = some (.lst [.ref d, .int i])) (hd : H d = some (.lst (ds.map V.int))) : d ≠ B := by
  rintro rfl
  rw [h] at hd
  cases ds with
  | nil => cases hd
  | cons z r => cases hd
theorem Box.same {H H' : Hp} {B d : Addr} (s : Same H H') (b : Box H B d) : Box H' B d := by
  obtain ⟨ds, i, h, hd, hi⟩ := b
  exact ⟨ds, i, s _ _ h, s _ _ hd, hi⟩
theorem Box.mut {H : Hp} {B d l : Addr} (b : Box H B d) (hB : l ≠ B) (hd : l ≠ d) (o : HO) : Box (upd H l o) B d := by
  obtain ⟨ds, i, h, hd', hi⟩ := b
  exact ⟨ds, i, by rw [upd_ne hB.symm]; exact h, by rw [upd_ne hd.symm]; exact hd', hi⟩
theorem Box.new {H : Hp} {B d l : Addr} (b : Box H B d) (h : H l = none) (o : HO) : Box (upd H l o) B d := b.mut (b.neB h) (b.neD h) o
section
variable {P : Program} {w : World} {K : PySem.W.Frag} {mg : Str → Option Value} {base : Heap}
/-! ### _law_draw -/
abbrev sDraw : Stmt := top 24
theorem scDraw : FnScope ["box", "many", "at"] ["box", "many"] (defScope sDraw) := ⟨rfl, rfl, rfl, by decide +kernel, rfl, by decide +kernel, by decide +kernel⟩
def spDraw : Sp := fun vs H Q _ => ∃ (B d : Addr) (n : Int), vs = [.ref B, .int n] ∧ 0 < n ∧ Box H B d ∧ ∀ z H', 0 ≤ z → z < n → Go B H H' → Box H' B d → Q (.int z) H'
theorem ok_draw {f : Addr} {fd : FuncData} (F : Fun K "_law_draw" "_law_draw" sDraw f fd) (ml : mg "len" = none) (mi : mg "int" = none) : FnOk P w K mg base CX0 1 f fd ["box", "many"] spDraw := by
  refine F.ok scDraw (fun vs H Q E h => ?_) (fun cdv A outer s H vs Q E hr h => ?_)
  · obtain ⟨B, d, n, rfl, _⟩ := h
    rfl
  obtain ⟨B, d, n, rfl, h0, ⟨ds, i, hB, hd, hi⟩, q⟩ := h
  have nd := scDraw.nd
  refine ⟨_, pss_cons (ps_set (i := 2) nd rfl (.inl rfl) (pe_ix ix_list (pv 0) pe_int (fun _ _ => rfl)))
    (pss_cons (ps_asg (pe_op op_add (pv 2) pe_int) (pg_sub (pv 0) pe_int set_list))
    (pss_cons (ps_if (pt_cmpR op_lt (pv 2) (pe_callB call_len_seq (by rfl) ml PySem.boot_len (pa_cons (pe_ix ix_list (pv 0) pe_int (fun _ _ => rfl)) pa_nil)) (nomark _))
      (pss_one (ps_ret (pe_op op_mod (pe_callTy call_int1 (by rfl) mi (by decide +kernel) (pa_cons (pe_ix ix_list (pe_ix ix_list (pv 0) pe_int (fun _ _ => rfl)) (pv 2) (fun _ _ => rfl)) pa_nil)) (pv 1)))) pss_nil)
    (pss_one (ps_ret pe_int)))), ?_⟩
  have ne : d ≠ B := Box.ne hB hd
  refine ⟨_, rfl, B, _, 1, _, rfl, rfl, SqL.of hB, atI_nat (j := 1) rfl, ?_⟩
  refine ⟨_, rfl, _, _, rfl, rfl, _, rfl, B, _, 1, 1, rfl, rfl, hB, rfl, ?_⟩
  have hB' : upd H B (.lst [.ref d, .int (i + 1)]) B = some (.lst [.ref d, .int (i + 1)]) := upd_same
  have hd' : upd H B (.lst [.ref d, .int (i + 1)]) d = some (.lst (ds.map V.int)) := by rw [upd_ne ne]; exact hd
  have hb : Box (upd H B (.lst [.ref d, .int (i + 1)])) B d := ⟨ds, i + 1, hB', hd', by omega⟩
  refine ⟨_, rfl, _, rfl, B, _, 0, _, rfl, rfl, SqL.of hB', atI_nat (j := 0) rfl, d, _, rfl, .inl (SqL.of hd'), _, _, rfl, rfl, _, rfl, ?_⟩
  refine ite2 (fun c => ?_) (fun c => ?_)
  · have c' := of_decide_eq_true c
    rw [List.length_map] at c'
    have hk : i.toNat < ds.length := by omega
    refine ⟨_, rfl, B, _, 0, _, rfl, rfl, SqL.of hB', atI_nat (j := 0) rfl, _, rfl, d, _, i, .int ds[i.toNat], rfl, rfl, SqL.of hd', at_of (j := i.toNat) (by omega) (by rw [List.getElem?_map, List.getElem?_eq_getElem hk] <;> rfl), .inl ⟨_, rfl, _, rfl, _, _, rfl, rfl, h0, ?_⟩⟩
    exact q _ _ (Int.emod_nonneg _ (by omega)) (Int.emod_lt_of_pos _ h0) (Go.box B H _) hb
  · exact q 0 _ (by omega) h0 (Go.box B H _) hb
theorem pick {α : Type} {l : List α} {g : α → V} {z : Int} (h0 : 0 ≤ z) (h : z < (l.length : Int)) : ∃ x, x ∈ l ∧ atI (l.map g) z = some (g x) := by
  have hk : z.toNat < l.length := by omega
  exact ⟨l[z.toNat], List.getElem_mem hk, at_of (j := z.toNat) (by omega) (by rw [List.getElem?_map, List.getElem?_eq_getElem hk] <;> rfl)⟩
end
end Mw

/-! ### tuples: a slice that may be the whole, a sum whose left side may be empty, once a tuple -/
namespace Ts
open PySem L2 PyProof.Rows PySem.Spec
section
variable {s : Shared} {prog : Program} {w : World} {A : Around} {E : Value → Shared → Prop}
theorem whole {t sl : Addr} {items : Array Value} {vl vu : Value} {lo hi : Option Int} {Q : Value → Shared → Prop} (ht : IsTup s.heap t items) (hs : s.heap.IsSliceOf sl vl vu .none) (pl : IsPart vl lo) (pu : IsPart vu hi)
    (hl : HT.sIx items.size 0 lo = 0) (hh : HT.sIx items.size items.size hi = items.size) (h : Q (.ref t) s) : wpAny (model prog w) A (getItem (.ref t) (.ref sl)) Q E s := by
  obtain ⟨os, so1, so2, so3⟩ := id hs
  have tys : s.TypeIs (.ref sl) "slice" := ⟨os, so1, so2⟩
  unfold getItem
  try (with_reducible refine wpAny_holding ?_)
  try refine wpAny_bind (wpAny_pure ?_)
  refine wpAny_bind (wpAny_sequenceKey ht.typeIs (by decide) (wpAny_bind (wpAny_callSpecial?_slot (name := Str.ofString "__getitem__") ht.typeIs slot_tuple_getitem
    (wpAny_call_entry slot_tuple_getitem ht.typeIs entry_tuple_getitem ?_ (args_tuple_getitem _ _)))))
  (show wpAny _ _ (Builtin.Tuple.tupleItemsOf (.ref t) >>= _) _ _ s); refine wpAny_bind (tupleItemsOf_ ht (wpAny_bind (wpAny_typeOf tys ?_)))
  rw [if_pos (by decide)]
  refine wpAny_bind (HT.sliceApplied_gen hs pl pu ?_)
  have hyes : (((HT.sIx items.size 0 lo : Nat) : Int) == 0 && (1 : Int) == 1 && (HT.sIx items.size items.size hi - HT.sIx items.size 0 lo) == items.size) = true := by
    rw [hl, hh]
    simp
  show wpAny _ _ (if (((HT.sIx items.size 0 lo : Nat) : Int) == 0 && (1 : Int) == 1 && (HT.sIx items.size items.size hi - HT.sIx items.size 0 lo) == items.size) = true then _ else _) _ _ s
  rw [if_pos hyes]
  unfold Builtin.Tuple.tupleIsExact
  refine wpAny_bind (wpAny_bind (wpAny_typeOf ht.typeIs (wpAny_pure ?_)))
  rw [if_pos (by decide)]
  first
    | exact wpAny_bind (wpAny_pure (wpAny_pure ⟨_, rfl, wpAny_pure h⟩))
    | (wp_walk; exact ⟨_, rfl, wpAny_pure h⟩)
theorem rep1 (l : Addr) (items : Array Value) (n : Nat) (dd : Option Addr) (sl : Array (Option Value)) (u : Tok) :
    Meets (Builtin.«tuple.__mul__» ⟨[.ref l, .int 1 u], []⟩) (fun _ R s => s.heap.get? l = some { cls := .type "tuple", dict := dd, data := .seq items n, slots := sl } ∧ R (.ok (.ret (Value.ref l))) s) :=
  .of_wp fun _ _ _ R sh h => by
    obtain ⟨hp, g, d, tk, os⟩ := sh; obtain ⟨hl, h⟩ := h
    have f1 := AutoSeq1.idx_int
    have c0 : (decide ((1 : Int) < -(2 ^ 63)) || decide ((1 : Int) ≥ 2 ^ 63)) = false := by decide
    have c1 : (items.isEmpty || (1 : Int) == 1) = true := by simp
    wp_walk using wpAny_loadPart' hl; exact ⟨_, rfl, h⟩
end
/-- what a tuple's slice is, the whole or less -/
def rSl (K : PySem.W.Frag) : V → Option Int → Option Int → Hp → VK → Prop := fun x lo hi H Q => ∃ a xs, x = .ref a ∧ SqT K H a xs ∧ ∀ p H', Same H H' → SqT K H' p (cutV xs lo hi) → Q (.ref p) H'
section
variable {X : Cx}
theorem sl : SlR X (rSl X.K) := by
  intro pn s σ H x v vl vu lo hi sp Q Iv rx hs pl pu hh
  obtain ⟨a, xs, rfl, hxs, q⟩ := hh
  by_cases hw : (HT.sIx xs.length 0 lo = 0) ∧ (HT.sIx xs.length xs.length hi = xs.length)
  · cases rx
    obtain ⟨ws1, r, ht, hbd⟩ := Iv.tuple hxs
    have eln : ws1.toArray.size = xs.length := by rw [List.size_toArray]; exact r.length.symm
    refine ⟨"tuple", _, PyProof.Rows.slot_tuple_getitem.lookup, ht.typeIs, whole ht hs pl pu (by rw [eln]; exact hw.1) (by rw [eln]; exact hw.2) ⟨.ref a, H, Iv, rfl, q a H (fun _ _ h => h) ?_⟩⟩
    have e : cutV xs lo hi = xs := by
      unfold cutV
      rw [hw.1, hw.2]
      simp
    rw [e]
    exact hxs
  · exact sl_tup pn s σ H _ v vl vu lo hi sp Q Iv rx hs pl pu ⟨a, xs, rfl, hxs, hw, fun p hp => q p _ (fun b o h => by rw [upd_ne (ne_of_none h hp)]; exact h) (SqT.of upd_same)⟩
/-- a sum of tuples -/
def rCat (K : PySem.W.Frag) : R2 := fun x y H Q => ∃ a b xs ys, x = .ref a ∧ y = .ref b ∧ SqT K H a xs ∧ SqT K H b ys ∧ xs.length + ys.length ≤ sizeLine ∧ ∀ p H', Same H H' → SqT K H' p (xs ++ ys) → Q (.ref p) H'
theorem cat : OpR X (binaryOp .Add) (rCat X.K) := by
  intro pn s σ H x y v u Q Iv rx ry hh
  obtain ⟨a, b, xs, ys, rfl, rfl, hta, hb, hbd, q⟩ := hh
  by_cases hxs : xs = []
  · subst hxs
    cases rx
    cases ry
    obtain ⟨ws1, rv1, p1, _⟩ := Iv.tuple hta
    obtain ⟨ws2, rv2, p2, _⟩ := Iv.tuple hb
    cases rv1
    obtain ⟨⟨cls, dd, data, sl⟩, ho, hc, n, hdt⟩ := id p1
    obtain ⟨⟨cls2, dd2, data2, sl2⟩, ho2, hc2, n2, hd2⟩ := id p2
    simp only at hc hdt hc2 hd2
    subst hc hdt hc2 hd2
    exact concat_meets ⟨_, ho, rfl⟩ ⟨_, ho2, rfl⟩ noFill_tuple_add seq_tuple_add PySem.F.slot_tuple_add PySem.F.entry_tuple_add (PySem.F.args_tuple_add_2 _ _) (tuple_addW0 a b _ ws2.toArray n n2 dd dd2 sl sl2 (by simp)) ⟨ho, ho2, ⟨.ref b, H, Iv, rfl, q b H (fun _ _ h => h) hb⟩⟩
  · refine op_catT pn s σ H _ _ v u Q Iv rx ry ⟨a, b, xs, ys, rfl, rfl, hta, hb, hxs, hbd, fun e => q a H (fun _ _ h => h) (by rw [e, List.append_nil]; exact hta), fun _ p hp => q p _ (fun b o h => by rw [upd_ne (ne_of_none h hp)]; exact h) (SqT.of upd_same)⟩
/-- a tuple some times -/
def rRep (K : PySem.W.Frag) : R2 := fun x y H Q => ∃ l k xs, x = .ref l ∧ y = .int k ∧ SqT K H l xs ∧ xs ≠ [] ∧ 1 ≤ k ∧ k ≤ 1000 ∧ xs.length ≤ 1000 ∧ ∀ p H', Same H H' → SqT K H' p (List.replicate k.toNat xs).flatten → Q (.ref p) H'
theorem rep : OpR X (binaryOp .Mult) (rRep X.K) := by
  intro pn s σ H x y v u Q Iv rx ry hh
  obtain ⟨l, k, xs, rfl, rfl, hTu, hnn, h1, h2, hbd, q⟩ := hh
  by_cases hk : k = 1
  · subst hk
    cases rx
    obtain ⟨t, rfl⟩ := ry
    obtain ⟨ws1, r, ⟨⟨cls, dd, data, sl⟩, ho, hc, n, hdt⟩, hs⟩ := Iv.tuple hTu
    simp only at hc hdt
    subst hc hdt
    exact wpAny_binaryOp_repeat_ref (T := "tuple") (U := "int") (by decide) ⟨_, ho, rfl⟩ (fun s' => typeIs_int s' 1 t) noFill_tuple_mul F.fills_int_mul F.slot_int_rmul repeat_tuple F.slot_int_index.lookup (call_meets F.slot_int_rmul (typeIs_int s 1 t) F.entry_int_rmul (F.args_int_rmul_2 _ _) (int_rmul_tuple 1 t l ws1.toArray n dd sl)
      ⟨ho, rfl, ⟨_, ho, rfl⟩, call_meets F.slot_tuple_mul ⟨_, ho, rfl⟩ F.entry_tuple_mul (F.args_tuple_mul_2 _ _) (rep1 l ws1.toArray n dd sl t) ⟨ho, ⟨.ref l, H, Iv, rfl, q l H (fun _ _ h => h) (by simpa using hTu)⟩⟩⟩)
  · exact op_repT pn s σ H _ _ v u Q Iv rx ry ⟨l, k, xs, rfl, rfl, hTu, hnn, by omega, h2, hbd, fun p hp => q p _ (fun b o h => by rw [upd_ne (ne_of_none h hp)]; exact h) (SqT.of upd_same)⟩
/-- tuple(..) of a list or a tuple -/
def rTup (K : PySem.W.Frag) : List V → Hp → VK → Prop := fun xs H Q => ∃ a ys, xs = [.ref a] ∧ (SqL K H a ys ∨ SqT K H a ys) ∧ ∀ p H', Same H H' → SqT K H' p ys → Q (.ref p) H'
theorem tup : CallR X (.type "tuple") (rTup X.K) := by
  intro pn s σ H xs us Q Iv r hh
  obtain ⟨a, ys, rfl, hta, q⟩ := hh
  refine call_tuple_of pn s σ H _ us Q Iv r ⟨a, ys, rfl, ?_⟩
  rcases hta with hta | hta
  · exact .inl ⟨hta, fun l hl => q l _ (fun b o h => by rw [upd_ne (ne_of_none h hl)]; exact h) (SqT.of upd_same)⟩
  · exact .inr ⟨hta, q a H (fun _ _ h => h) hta⟩
end
theorem same {K : PySem.W.Frag} {H H' : Hp} {a : Addr} {xs : List V} (e : Same H H') (h : SqT K H a xs) : SqT K H' a xs := by
  rcases h with (h | ⟨fo, h⟩) | h
  · exact Or.inl (Or.inl (e _ _ h))
  · exact Or.inl (Or.inr ⟨fo, e _ _ h⟩)
  · exact Or.inr h
end Ts

set_option maxHeartbeats 4000000
namespace Ts
open PySem L2 PyProof.Rows PySem.Spec
/-! ### a tuple no times; the place of a bool; a tuple in a tuple; lcm -/
theorem rep0 (l : Addr) (items : Array Value) (n : Nat) (dd : Option Addr) (sl : Array (Option Value)) (u : Tok) (hi : items.isEmpty = false) :
    Meets (Builtin.«tuple.__mul__» ⟨[.ref l, .int 0 u], []⟩) (fun _ R s => s.heap.get? l = some { cls := .type "tuple", dict := dd, data := .seq items n, slots := sl } ∧
      R (.ok (.ret (Value.ref s.heap.objs.size))) { s with heap := s.heap.push { cls := Value.type "tuple", data := Data.seq #[] }, toks := s.toks }) :=
  .of_wp fun prog w A R s h => by
    obtain ⟨hp, g, d, tk, os⟩ := s
    obtain ⟨hl, h⟩ := h
    have f1 := AutoSeq1.idx_int
    have c0 : (decide ((0 : Int) < -(2 ^ 63)) || decide ((0 : Int) ≥ 2 ^ 63)) = false := by decide
    have c1 : (items.isEmpty || (0 : Int) == 1) = false := by rw [hi]; rfl
    have c2 : (decide ((0 : Int) ≤ 0) || items.isEmpty) = true := by simp
    wp_walk using wpAny_loadPart' hl
    repeat (first
      | (refine wpAny_ite_false (decide_eq_false (by rw [c1]; exact Bool.false_ne_true)) ?_; wp_walk using wpAny_loadPart' hl)
      | (refine wpAny_ite_true (decide_eq_true c2) ?_; wp_walk using wpAny_loadPart' hl))
    exact ⟨_, rfl, h⟩
/-- a tuple some times, or none -/
def rRep0 (K : PySem.W.Frag) : R2 := fun x y H Q => ∃ l k xs, x = .ref l ∧ y = .int k ∧ SqT K H l xs ∧ xs ≠ [] ∧ 0 ≤ k ∧ k ≤ 1000 ∧ xs.length ≤ 1000 ∧ ∀ p H', Same H H' → SqT K H' p (List.replicate k.toNat xs).flatten → Q (.ref p) H'
section
variable {X : Cx}
theorem repz : OpR X (binaryOp .Mult) (rRep0 X.K) := by
  intro pn s σ H x y v u Q Iv rx ry hh
  obtain ⟨l, k, xs, rfl, rfl, hTu, hnn, h1, h2, hbd, q⟩ := hh
  by_cases hk : k = 0
  · subst hk
    cases rx
    obtain ⟨t, rfl⟩ := ry
    obtain ⟨ws1, r, ⟨⟨cls, dd, data, sl⟩, ho, hc, n, hdt⟩, hs⟩ := Iv.tuple hTu
    simp only at hc hdt
    subst hc hdt
    have hi : ws1.toArray.isEmpty = false := by
      cases ws1 with
      | nil => cases r; exact absurd rfl hnn
      | cons a b => rfl
    refine wpAny_binaryOp_repeat_ref (T := "tuple") (U := "int") (by decide) ⟨_, ho, rfl⟩ (fun s' => typeIs_int s' 0 t) noFill_tuple_mul F.fills_int_mul F.slot_int_rmul repeat_tuple F.slot_int_index.lookup (call_meets F.slot_int_rmul (typeIs_int s 0 t) F.entry_int_rmul (F.args_int_rmul_2 _ _) (int_rmul_tuple 0 t l ws1.toArray n dd sl)
      ⟨ho, rfl, ⟨_, ho, rfl⟩, call_meets F.slot_tuple_mul ⟨_, ho, rfl⟩ F.entry_tuple_mul (F.args_tuple_mul_2 _ _) (rep0 l ws1.toArray n dd sl t hi) ⟨ho, ?_⟩⟩)
    refine ⟨.ref s.heap.objs.size, _, Iv.laid (t' := s.toks) (o := .tup []) (fun b ob q => Heap.get?_push_of_some _ q) (Nat.le_refl _) ?_, rfl, q _ _ (fun b o h => by rw [upd_ne (ne_of_none h (Iv.hok.fresh (Nat.le_refl _)))]; exact h) (SqT.of upd_same)⟩
    exact ⟨Nat.zero_le _, [], .nil, IsTup.new _ _⟩
  · exact rep pn s σ H _ _ v u Q Iv rx ry ⟨l, k, xs, rfl, rfl, hTu, hnn, by omega, h2, hbd, q⟩
/-- t.index(b), a tuple of bools -/
def rIdxB (K : PySem.W.Frag) : V → List V → Hp → VK → Prop := fun x xs H Q => ∃ (p : Addr) (ys : List Bool) (z : Bool) (j : Nat), x = .ref p ∧ xs = [.bl z] ∧ SqT K H p (ys.map V.bl) ∧ ys[j]? = some z ∧ (∀ m, m < j → ys[m]? ≠ some z) ∧ Q (.int (j : Nat)) H
theorem mt_idxB : MtR X "tuple.index" (rIdxB X.K) := by
  intro pins s σ H x xs v us Q I rx rs h
  obtain ⟨p, ys, z, j, rfl, rfl, hq, hy, hno, q⟩ := h
  cases rx
  obtain ⟨u, rfl, hu⟩ := vals1 rs
  have hu : u = .bool z := hu
  subst hu
  obtain ⟨its, r, pl, hz⟩ := I.tuple hq
  obtain ⟨⟨cls, dd, dt, sl⟩, ho, hc, n, hd⟩ := pl
  simp only at hc hd
  subst hc
  subst hd
  have hl : its.toArray.size = ys.length := by rw [List.size_toArray, ← r.length, List.length_map]
  have hj : j < its.toArray.size := by rw [hl]; exact (List.getElem?_eq_some_iff.mp hy).1
  have at' : ∀ (m : Nat) (hm : m < its.toArray.size), ∃ y, ys[m]? = some y ∧ its.toArray[m] = Value.bool y := fun m hm => by
    have hm' : m < ys.length := by rw [← hl]; exact hm
    obtain ⟨w, hw, hw'⟩ := r.get (i := m) (x := .bl ys[m]) (by simp [hm'])
    refine ⟨ys[m], List.getElem?_eq_getElem hm', ?_⟩
    have e := (List.getElem?_eq_some_iff.mp hw).2
    have hw' : w = .bool ys[m] := hw'
    rw [← hw', ← e]
    simp
  have fl : (ys.map V.bl).all flatV = true := by
    rw [List.all_map]
    exact List.all_eq_true.mpr fun _ _ => rfl
  refine call_meets PySem.F.slot_tuple_index ⟨_, ho, rfl⟩ PySem.F.entry_tuple_index (PySem.F.args_tuple_index_2 _ _) (TI.tuple_indexAt p its.toArray n dd sl (.bool z) (eqU (.bl z)) j hj ?_ ?_)
    ⟨ho, fun w hw => mem_eqAt (x := .bl z) rfl rfl r fl w (by simpa using hw), ⟨.int (j : Nat), H, I.tok _, ⟨_, rfl⟩, q⟩⟩
  · obtain ⟨y, h1, h2⟩ := at' j hj
    rw [hy] at h1
    cases h1
    rw [h2]
    show (z == z) = true
    exact beq_self_eq_true z
  · intro m hm hmj
    obtain ⟨y, h1, h2⟩ := at' m hm
    rw [h2]
    show (y == z) = false
    exact beq_eq_false_iff_ne.mpr fun e => hno m hmj (e ▸ h1)
/-- x in t, t a tuple of data -/
def rInT (K : PySem.W.Frag) : R2 := fun x y H Q => ∃ d ds, Dp K H x d ∧ Dp K H y (.tuple ds) ∧ SeqAt.shaped d = true ∧ SeqAt.shaped (.tuple ds) = true ∧ Q (.bl (ds.any fun z => PyData.eqv z d)) H
theorem op_inT (hu : X.A.units + 65 < cLine) : OpR X (compareOp .In) (rInT X.K) := by
  intro pins s σ H x y v u Q I rx ry h
  obtain ⟨d, ds, hd, he, sd, se, q⟩ := h
  obtain ⟨as, r1⟩ := Dp.reads I d x v hd rx
  obtain ⟨bs, r2⟩ := Dp.reads I (.tuple ds) y u he ry
  exact SeqAt.in_tuple_reads r2 r1 (SeqAt.canLay_of_shaped se) (SeqAt.canLay_of_shaped sd) (room_in_shaped sd hu) ⟨.bl _, H, I, rfl, q⟩
def rLcm : List V → Hp → VK → Prop := fun vs H Q => ∃ a b : Nat, vs = [.int (a : Int), .int (b : Int)] ∧ a < 2 ^ 64 ∧ b < 2 ^ 64 ∧ Q (.int ((Nat.lcm a b : Nat) : Int)) H
theorem cr_lcm : CallR X (.builtin "math.lcm") rLcm := by
  intro pins s σ H vs us Q I r h
  obtain ⟨a, b, rfl, ha, hb, q⟩ := h
  obtain ⟨t, u, rfl⟩ := Vals.int2 r
  exact PySem.W.mc_lcm (by simpa using ha) (by simpa using hb) fun _ => ⟨.int _, H, I.tok _, ⟨_, rfl⟩, q⟩
end
end Ts

set_option maxHeartbeats 4000000
/-! ### tuples whose object has no dict -/
namespace Tn
open PySem L2 PyProof.Rows PySem.Spec
def NT (K : PySem.W.Frag) (H : Hp) (p : Addr) (xs : List V) : Prop := SqT K H p xs ∧ ((∃ ob, H p = some (.frz ob (.tup xs)) ∧ ob.dict = none) ∨ ∃ o, K.lookup p = some o ∧ o.cls = .type "tuple" ∧ o.dict = none)
theorem same {K : PySem.W.Frag} {H H' : Hp} {p : Addr} {xs : List V} (s : Same H H') (h : NT K H p xs) : NT K H' p xs := by
  refine ⟨Ts.same s h.1, ?_⟩
  rcases h.2 with ⟨ob, h1, h2⟩ | h
  · exact .inl ⟨ob, s _ _ h1, h2⟩
  · exact .inr h
theorem of {K : PySem.W.Frag} {H : Hp} {p : Addr} {xs : List V} {ob : Obj} (e : H p = some (.frz ob (.tup xs))) (d : ob.dict = none) : NT K H p xs := ⟨.inl (.inr ⟨ob, e⟩), .inl ⟨ob, e, d⟩⟩
section
variable {X : Cx}
theorem land {pn : List (Addr × Obj)} {σ : L2.St} {H : Hp} {s : Shared} {xs : List V} {its : List Value} (Iv : Inv X pn σ H s) (r : Vals xs its) (hl : xs.length ≤ sizeLine) {Q : VK}
    (q : ∀ p H', Same H H' → NT X.K H' p xs → Q (.ref p) H') : EP X pn σ Q (.ref s.heap.objs.size) { s with heap := s.heap.push { cls := .type "tuple", data := .seq its.toArray } } := by
  refine ⟨.ref s.heap.objs.size, _, Iv.laid (t' := s.toks) (o := .frz { cls := .type "tuple", data := .seq its.toArray } (.tup xs)) (fun b ob q => Heap.get?_push_of_some _ q) (Nat.le_refl _) ?_, rfl, q _ _ (fun b o h => by rw [upd_ne (ne_of_none h (Iv.hok.fresh (Nat.le_refl _)))]; exact h) (of upd_same rfl)⟩
  exact ⟨Heap.get?_push_size _ rfl, hl, its, r, IsTup.new _ _⟩
def rSl (K : PySem.W.Frag) : V → Option Int → Option Int → Hp → VK → Prop := fun x lo hi H Q => ∃ a xs, x = .ref a ∧ NT K H a xs ∧ ∀ p H', Same H H' → NT K H' p (cutV xs lo hi) → Q (.ref p) H'
theorem sl : SlR X (rSl X.K) := by
  intro pn s σ H x v vl vu lo hi sp Q Iv rx hs pl pu hh
  obtain ⟨a, xs, rfl, hxs, q⟩ := hh
  cases rx
  obtain ⟨ws1, r, ht, hbd⟩ := Iv.tuple hxs.1
  have eln : ws1.toArray.size = xs.length := by rw [List.size_toArray]; exact r.length.symm
  by_cases hw : (HT.sIx xs.length 0 lo = 0) ∧ (HT.sIx xs.length xs.length hi = xs.length)
  · refine ⟨"tuple", _, PyProof.Rows.slot_tuple_getitem.lookup, ht.typeIs, Ts.whole ht hs pl pu (by rw [eln]; exact hw.1) (by rw [eln]; exact hw.2) ⟨.ref a, H, Iv, rfl, q a H (fun _ _ h => h) ?_⟩⟩
    have e : cutV xs lo hi = xs := by
      unfold cutV
      rw [hw.1, hw.2]
      simp
    rw [e]
    exact hxs
  · refine ⟨"tuple", _, PyProof.Rows.slot_tuple_getitem.lookup, ht.typeIs, ?_⟩
    refine HT.getItem_tuple_cut ht hs pl pu (by rw [eln]; exact hw) ?_ (by rw [eln]; exact hbd)
    rw [eln]
    exact land Iv ((r.drop (HT.sIx xs.length 0 lo)).take (HT.sIx xs.length xs.length hi - HT.sIx xs.length 0 lo)) (Nat.le_trans (cutV_length xs lo hi) hbd) q
def rCat (K : PySem.W.Frag) : R2 := fun x y H Q => ∃ a b xs ys, x = .ref a ∧ y = .ref b ∧ NT K H a xs ∧ NT K H b ys ∧ xs.length + ys.length ≤ sizeLine ∧ ∀ p H', Same H H' → NT K H' p (xs ++ ys) → Q (.ref p) H'
theorem cat : OpR X (binaryOp .Add) (rCat X.K) := by
  intro pn s σ H x y v u Q Iv rx ry hh
  obtain ⟨a, b, xs, ys, rfl, rfl, hta, hb, hbd, q⟩ := hh
  cases rx
  cases ry
  obtain ⟨ws1, rv1, p1, _⟩ := Iv.tuple hta.1
  obtain ⟨ws2, rv2, p2, _⟩ := Iv.tuple hb.1
  by_cases hxs : xs = []
  · subst hxs
    cases rv1
    obtain ⟨⟨cls, dd, data, sl⟩, ho, hc, n, hdt⟩ := id p1
    obtain ⟨⟨cls2, dd2, data2, sl2⟩, ho2, hc2, n2, hd2⟩ := id p2
    simp only at hc hdt hc2 hd2
    subst hc hdt hc2 hd2
    exact concat_meets ⟨_, ho, rfl⟩ ⟨_, ho2, rfl⟩ noFill_tuple_add seq_tuple_add PySem.F.slot_tuple_add PySem.F.entry_tuple_add (PySem.F.args_tuple_add_2 _ _) (tuple_addW0 a b _ ws2.toArray n n2 dd dd2 sl sl2 (by simp)) ⟨ho, ho2, ⟨.ref b, H, Iv, rfl, q b H (fun _ _ h => h) hb⟩⟩
  · refine HT.cat_tup p1 p2 (fun z => hxs (rv1.nil_iff.mp z)) (fun z => ⟨.ref a, H, Iv, rfl, q a H (fun _ _ h => h) (by rw [rv2.nil_iff.mp z, List.append_nil]; exact hta)⟩) (fun z => ?_) (by rw [← rv1.length, ← rv2.length]; exact hbd)
    exact land Iv (rv1.append rv2) (by rw [List.length_append]; exact hbd) q
def rRep (K : PySem.W.Frag) : R2 := fun x y H Q => ∃ l k xs, x = .ref l ∧ y = .int k ∧ NT K H l xs ∧ xs ≠ [] ∧ 0 ≤ k ∧ k ≤ 1000 ∧ xs.length ≤ 1000 ∧ ∀ p H', Same H H' → NT K H' p (List.replicate k.toNat xs).flatten → Q (.ref p) H'
theorem rep : OpR X (binaryOp .Mult) (rRep X.K) := by
  intro pn s σ H x y v u Q Iv rx ry hh
  obtain ⟨l, k, xs, rfl, rfl, hTu, hnn, h0, h2, hz, q⟩ := hh
  cases rx
  obtain ⟨t, rfl⟩ := ry
  obtain ⟨its, r, ⟨⟨cls, dd, data, sl⟩, ho, hc, n, hdt⟩, hs⟩ := Iv.tuple hTu.1
  simp only at hc hdt
  subst hc hdt
  have hle : its.length = xs.length := r.length.symm
  have hi : its.toArray.isEmpty = false := by
    cases its with
    | nil => cases r; exact absurd rfl hnn
    | cons a b => rfl
  rcases (show k = 0 ∨ k = 1 ∨ 2 ≤ k by omega) with hk | hk | h1
  · subst hk
    refine wpAny_binaryOp_repeat_ref (T := "tuple") (U := "int") (by decide) ⟨_, ho, rfl⟩ (fun s' => typeIs_int s' 0 t) noFill_tuple_mul F.fills_int_mul F.slot_int_rmul repeat_tuple F.slot_int_index.lookup (call_meets F.slot_int_rmul (typeIs_int s 0 t) F.entry_int_rmul (F.args_int_rmul_2 _ _) (int_rmul_tuple 0 t l its.toArray n dd sl)
      ⟨ho, rfl, ⟨_, ho, rfl⟩, call_meets F.slot_tuple_mul ⟨_, ho, rfl⟩ F.entry_tuple_mul (F.args_tuple_mul_2 _ _) (Ts.rep0 l its.toArray n dd sl t hi) ⟨ho, ?_⟩⟩)
    exact land (its := []) Iv .nil (Nat.zero_le _) q
  · subst hk
    exact wpAny_binaryOp_repeat_ref (T := "tuple") (U := "int") (by decide) ⟨_, ho, rfl⟩ (fun s' => typeIs_int s' 1 t) noFill_tuple_mul F.fills_int_mul F.slot_int_rmul repeat_tuple F.slot_int_index.lookup (call_meets F.slot_int_rmul (typeIs_int s 1 t) F.entry_int_rmul (F.args_int_rmul_2 _ _) (int_rmul_tuple 1 t l its.toArray n dd sl)
      ⟨ho, rfl, ⟨_, ho, rfl⟩, call_meets F.slot_tuple_mul ⟨_, ho, rfl⟩ F.entry_tuple_mul (F.args_tuple_mul_2 _ _) (Ts.rep1 l its.toArray n dd sl t) ⟨ho, ⟨.ref l, H, Iv, rfl, q l H (fun _ _ h => h) (by simpa using hTu)⟩⟩⟩)
  · have hsz0 : its.toArray.size = xs.length := by rw [List.size_toArray, hle]
    have hm : ((its.toArray.size : Nat) : Int) * k ≤ 1000000 := by
      rw [hsz0]
      have a1 : ((xs.length : Nat) : Int) * k ≤ 1000 * k := Int.mul_le_mul_of_nonneg_right (by omega) (by omega)
      omega
    have flen : (List.replicate k.toNat its).flatten.length ≤ sizeLine := by
      rw [PyProof.Rows.lm_len_rep_flat, hle, sizeLine_eq]
      have a1 : k.toNat * xs.length ≤ 1000 * 1000 := Nat.mul_le_mul (by omega) hz
      omega
    have c0 : (decide (k < -(2 ^ 63)) || decide (k ≥ 2 ^ 63)) = false := by
      rw [decide_eq_false (by omega), decide_eq_false (by omega)] <;> rfl
    have c1 : (its.toArray.isEmpty || k == 1) = false := by
      rw [hi, Bool.false_or]
      exact beq_eq_false_iff_ne.mpr (by omega)
    have c2 : (decide (k ≤ 0) || its.toArray.isEmpty) = false := by
      rw [hi, Bool.or_false]
      exact decide_eq_false (by omega)
    have c4 : Builtin.Tuple.tupleTooMany (((its.toArray.size : Nat) : Int) * k) = false := by
      unfold Builtin.Tuple.tupleTooMany
      rw [sizeLine_eq]
      exact decide_eq_false (by omega)
    refine wpAny_binaryOp_repeat_ref (T := "tuple") (U := "int") (by decide) ⟨_, ho, rfl⟩ (fun s' => typeIs_int s' k t) noFill_tuple_mul F.fills_int_mul F.slot_int_rmul repeat_tuple F.slot_int_index.lookup
      (call_meets F.slot_int_rmul (typeIs_int s k t) F.entry_int_rmul (F.args_int_rmul_2 _ _) (int_rmul_tuple k t l its.toArray n dd sl)
        ⟨ho, rfl, ⟨_, ho, rfl⟩, call_meets F.slot_tuple_mul ⟨_, ho, rfl⟩ F.entry_tuple_mul (F.args_tuple_mul_2 _ _) (tuple_mulW l its.toArray n dd sl k t c0 c1 c2 (by omega) c4 (by rw [size_rep, List.size_toArray]; exact flen)) ⟨ho, ?_⟩⟩)
    rw [size_rep]
    refine land Iv (r.rep k.toNat) ?_ q
    rw [PyProof.Rows.lm_len_rep_flat, sizeLine_eq]
    have a1 : k.toNat * xs.length ≤ 1000 * 1000 := Nat.mul_le_mul (by omega) hz
    omega
def rTup (K : PySem.W.Frag) : List V → Hp → VK → Prop := fun xs H Q => ∃ a ys, xs = [.ref a] ∧ (SqL K H a ys ∨ NT K H a ys) ∧ ∀ p H', Same H H' → NT K H' p ys → Q (.ref p) H'
theorem tup : CallR X (.type "tuple") (rTup X.K) := by
  intro pn s σ H xs us Q I r hh
  obtain ⟨p, ys, rfl, h, q⟩ := hh
  obtain ⟨u, rfl, rx⟩ := vals1 r
  cases rx
  rcases h with hq | hq
  · obtain ⟨its, r', pl, hz⟩ := I.list hq
    have hlen := r'.length
    refine call_tuple_list pl.isList (fun h' kp => ?_) (by simp only [List.size_toArray] <;> omega)
    have I1 : Inv X pn σ H { s with heap := h' } := I.kept (t' := s.toks) kp
    exact land I1 r' hz q
  · obtain ⟨its, r', pl, hz⟩ := I.tuple hq.1
    exact call_tuple_same pl ⟨.ref p, H, I, rfl, q p H (fun _ _ h => h) hq⟩
variable {e : Expr} {es : List Expr} {t : TA} {pos : Pos}
def tTupN (K : PySem.W.Frag) (t : TA) : TE := fun σ H Q => t σ H fun xs H1 => xs.length ≤ sizeLine ∧ ∀ p H', Same H1 H' → NT K H' p xs → Q (.ref p) H'
theorem pe_tupN {x1} (h : PA X es t) : PE X (.Tuple es x1 pos) (tTupN X.K t) := by
  refine ⟨fun pins s σ H Q I hq => ?_⟩
  refine wpAny_Tuple_spliced (thn (h.run pos pins s σ H _ I hq) fun us s1 ⟨xs, H1, I1, r, z, q⟩ => ⟨by rw [← r.length]; exact z, ?_⟩)
  exact land I1 r z q
variable {o : Expr} {to : TE} {name : Str} {apos cpos : Pos} {id : String} {r : V → List V → Hp → VK → Prop}
def tBMN (K : PySem.W.Frag) (r : V → List V → Hp → VK → Prop) (to : TE) (t : TA) : TE := fun σ H Q => to σ H fun x H1 => (∃ p xs, x = .ref p ∧ NT K H1 p xs) ∧ t σ H1 fun vs H2 => r x vs H2 Q
theorem pe_bmN (slot : Slot "tuple" name id) (hty : typeOf (.builtin id) = pure (.type "method_descriptor")) (hm : MtR X id r) (ho : PE X o to) (ha : PA X (e :: es) t)
    (hbase : attributeBase o name X.env (eval o X.env) = eval o X.env := by rfl)
    (hfew : ((backTo cpos (starEach (e :: es) X.env)).all (fun x => !x.1) && (backToKw cpos (keywordEach [] X.env)).all (fun x => x.1.isSome)
      && decide ((e :: es).length + ([] : List Keyword).length + (if ([] : List Keyword).isEmpty then 0 else 1) < 30)) = true := by rfl)
    (hline : (apos.endLine == cpos.line) = true := by rfl) (hs : starEach (e :: es) X.env = (false, eval e X.env) :: starEach es X.env := by rfl) (hplain : (backTo cpos (starEach es X.env)).any (·.1) = false := by rfl) :
    PE X (.Call (.Attribute o name apos) (e :: es) [] cpos) (tBMN X.K r to t) := by
  refine ⟨fun pins s σ H Q I h => ?_⟩
  refine wpAny_Call_method_late hbase hfew hline rfl (thn (ho.run pins s σ H _ I h) fun v s1 ⟨x, H1, I1, r1, ⟨p, xs, ep, ty⟩, q1⟩ => ?_)
  subst ep
  cases r1
  obtain ⟨its, rr, pl, hz⟩ := I1.tuple ty.1
  have h2 : ∀ a, Value.ref p = .ref a → ∃ ob, s1.heap.get? a = some ob ∧ ob.dict = none := by
    intro a ea
    cases ea
    rcases ty.2 with ⟨ob, e1, e2⟩ | ⟨ob, e1, _, e2⟩
    · have := I1.hok p _ e1
      exact ⟨ob, this.1, e2⟩
    · exact ⟨ob, I1.kIn p ob e1, e2⟩
  refine ⟨"tuple", id, PySem.F.plainAttrs_tuple, slot, hty, pl.typeIs, h2, ?_⟩
  have hA := ha.run cpos pins s1 σ H1 _ I1 q1
  rw [hs] at hA ⊢
  refine Calls.callWith_builtin (by show (false || (backTo cpos (starEach es X.env)).any (·.1)) = false; rw [hplain] <;> rfl) (Calls.evalArgs_plain ?_)
  exact thn hA fun us s2 ⟨vs, H2, I2, r2, q2⟩ => hm pins s2 σ H2 (.ref p) vs (.ref p) us Q I2 rfl r2 q2
end
end Tn

namespace Mw
abbrev BL := List Bool
/-- the item of a cycle at any place -/
def cv (c : BL) (i : Int) : Bool := c.getD (i % (c.length : Int)).toNat false
/-- a cycle from another place on -/
def rot (c : BL) (i : Int) : BL := (List.range c.length).map fun (k : Nat) => cv c ((k : Int) + i)
def sq (h c : BL) (n : Nat) : Bool := if n < h.length then h.getD n false else cv c ((n : Int) - (h.length : Int))
def pfF : Nat → Nat → Nat → List Nat
  | 0, _, _ => []
  | fu + 1, n, f => if f * f ≤ n then (if n % f = 0 then f :: pfF fu (n / f) f else pfF fu n (f + 1)) else if 1 < n then [n] else []
def pf (n : Nat) : List Nat := pfF (2 * n) n 2
def scF (c : BL) : List Nat → Nat → Nat
  | [], s => s
  | f :: fs, s => scF c fs (if (c.drop (s / f)).take (s - s / f) = c.take (s - s / f) then s / f else s)
def sc (c : BL) : BL := c.take (scF c (pf c.length) c.length)
/-- how many items at the head's end (backwards) the cycle has, too -/
def mny (c : BL) : BL → Nat → Nat
  | [], _ => 0
  | x :: xs, j => if x = cv c (-1 - (j : Int)) then mny c xs (j + 1) + 1 else 0
def mn (h c : BL) : Nat := mny c h.reverse 0
def stl (h c : BL) : BL × BL := (h.take (h.length - mn h (sc c)), rot (sc c) (-(mn h (sc c) : Int)))
theorem len_pos {c : BL} (h : c ≠ []) : 0 < c.length := List.length_pos_iff.mpr h
theorem cv_mod {c : BL} {i j : Int} (h : i % (c.length : Int) = j % (c.length : Int)) : cv c i = cv c j := by
  unfold cv
  rw [h]
theorem cv_nat {c : BL} {k : Nat} (h : k < c.length) : cv c (k : Int) = c.getD k false := by
  unfold cv
  rw [Int.emod_eq_of_lt (by omega) (by omega), Int.toNat_natCast]
/-! ### prime factors -/
def Pr (p : Nat) : Prop := 2 ≤ p ∧ ∀ d, d ∣ p → d = 1 ∨ d = p
def pro : List Nat → Nat
  | [] => 1
  | x :: xs => x * pro xs
theorem pfF_ok : ∀ (fu n f : Nat), 2 ≤ f → 1 ≤ n → (∀ d, 2 ≤ d → d < f → ¬ d ∣ n) → 2 * n < fu + f → (∀ p ∈ pfF fu n f, Pr p) ∧ pro (pfF fu n f) = n
  | 0, n, f, h2, h1, hd, hf => by
    have : n = 1 := by
      by_cases z : 2 ≤ n
      · exact absurd (Nat.dvd_refl n) (hd n z (by omega))
      · omega
    subst this
    exact ⟨fun p hp => (by cases hp), rfl⟩
  | fu + 1, n, f, h2, h1, hd, hf => by
    unfold pfF
    by_cases c : f * f ≤ n
    · rw [if_pos c]
      have hff : 2 * f ≤ f * f := Nat.mul_le_mul_right f h2
      by_cases c2 : n % f = 0
      · rw [if_pos c2]
        have hfn : f ∣ n := Nat.dvd_of_mod_eq_zero c2
        have e : f * (n / f) = n := Nat.mul_div_cancel' hfn
        have d2 : 2 * (n / f) ≤ f * (n / f) := Nat.mul_le_mul_right _ h2
        have d1 : 1 ≤ n / f := by
          rcases Nat.eq_zero_or_pos (n / f) with z | z
          · rw [z] at e; omega
          · exact z
        obtain ⟨a, b⟩ := pfF_ok fu (n / f) f h2 d1 (fun d h h' hdv => hd d h h' (Nat.dvd_trans hdv ⟨f, by rw [Nat.mul_comm]; exact e.symm⟩)) (by omega)
        refine ⟨fun p hp => ?_, ?_⟩
        · rcases List.mem_cons.mp hp with rfl | hp
          · refine ⟨h2, fun d hdp => ?_⟩
            by_cases z : d = 1
            · exact .inl z
            · have hle := Nat.le_of_dvd (by omega) hdp
              have h0 : d ≠ 0 := by
                rintro rfl
                have := Nat.eq_zero_of_zero_dvd hdp
                omega
              by_cases z2 : d < p
              · exact absurd (Nat.dvd_trans hdp hfn) (hd d (by omega) z2)
              · exact .inr (by omega)
          · exact a p hp
        · show f * pro _ = n
          rw [b, e]
      · rw [if_neg c2]
        refine pfF_ok fu n (f + 1) (by omega) h1 (fun d h h' hdv => ?_) (by omega)
        by_cases z : d = f
        · subst z
          exact c2 (Nat.mod_eq_zero_of_dvd hdv)
        · exact hd d h (by omega) hdv
    · rw [if_neg c]
      by_cases c2 : 1 < n
      · rw [if_pos c2]
        refine ⟨fun p hp => ?_, Nat.mul_one n⟩
        rw [List.mem_singleton.mp hp]
        refine ⟨c2, fun d hdp => ?_⟩
        obtain ⟨k, hk⟩ := hdp
        have h0 : d ≠ 0 := by rintro rfl; omega
        have k0 : k ≠ 0 := by rintro rfl; omega
        by_cases z : d = 1
        · exact .inl z
        · by_cases z2 : k = 1
          · exact .inr (by rw [hk, z2, Nat.mul_one])
          · exfalso
            have h3 : ¬ d < f := fun h => hd d (by omega) h ⟨k, hk⟩
            have h4 : ¬ k < f := fun h => hd k (by omega) h ⟨d, by rw [Nat.mul_comm]; exact hk⟩
            have : f * f ≤ d * k := Nat.mul_le_mul (by omega) (by omega)
            omega
      · rw [if_neg c2]
        exact ⟨fun p hp => (by cases hp), by show 1 = n; omega⟩
theorem pf_ok {n : Nat} (h : 1 ≤ n) : (∀ p ∈ pf n, Pr p) ∧ pro (pf n) = n := pfF_ok (2 * n) n 2 (by decide) h (fun d h1 h2 => by omega) (by omega)
theorem pro_pos : ∀ {fs : List Nat}, (∀ p ∈ fs, Pr p) → 1 ≤ pro fs
  | [], _ => Nat.le_refl _
  | p :: fs, h => by
    have h1 := (h p List.mem_cons_self).1
    have h2 := pro_pos fun x hx => h x (List.mem_cons_of_mem _ hx)
    exact Nat.mul_le_mul (show 1 ≤ p by omega) h2
theorem pro_dvd : ∀ {fs : List Nat} {p : Nat}, p ∈ fs → p ∣ pro fs
  | q :: fs, p, h => by
    rcases List.mem_cons.mp h with rfl | h
    · exact ⟨pro fs, rfl⟩
    · exact Nat.dvd_trans (pro_dvd h) ⟨q, Nat.mul_comm _ _⟩
theorem pf_pos {n f : Nat} (hn : 1 ≤ n) (h : f ∈ pf n) : 2 ≤ f ∧ f ≤ n := by
  obtain ⟨a, b⟩ := pf_ok hn
  refine ⟨(a f h).1, Nat.le_of_dvd hn ?_⟩
  have := pro_dvd h
  rw [b] at this
  exact this
/-! ### periods -/
def Per (c : BL) (d : Nat) : Prop := ∀ i : Int, cv c (i + (d : Int)) = cv c i
theorem per_len (c : BL) : Per c c.length := fun i => cv_mod (by rw [Int.add_emod_right])
theorem per_mul {c : BL} {d : Nat} (h : Per c d) : ∀ k : Nat, Per c (d * k)
  | 0 => fun i => by rw [Nat.mul_zero, Int.natCast_zero, Int.add_zero]
  | k + 1 => fun i => by
    have e : i + ((d * (k + 1) : Nat) : Int) = (i + ((d * k : Nat) : Int)) + (d : Int) := by
      rw [Nat.mul_add, Nat.mul_one, Int.natCast_add]
      omega
    rw [e, h, per_mul h k]
theorem per_sub {c : BL} {a b : Nat} (ha : Per c a) (hb : Per c b) (hl : b ≤ a) : Per c (a - b) := fun i => by
  rw [← hb (i + ((a - b : Nat) : Int))]
  rw [show i + ((a - b : Nat) : Int) + (b : Int) = i + (a : Int) by omega]
  exact ha i
theorem per_mod {c : BL} {a q : Nat} (hq : Per c q) (ha : Per c a) : Per c (a % q) := by
  have e : a % q = a - q * (a / q) := by
    have := Nat.div_add_mod a q
    omega
  rw [e]
  exact per_sub ha (per_mul hq _) (Nat.mul_div_le a q)
theorem per_emod {c : BL} {s : Nat} (h : Per c s) (hs : 0 < s) (i : Int) : cv c i = cv c (i % (s : Int)) := by
  have e := Int.emod_add_mul_ediv i (s : Int)
  rcases Int.le_total 0 (i / (s : Int)) with z | z
  · obtain ⟨k, hk⟩ := Int.eq_ofNat_of_zero_le z
    have := per_mul h k (i % (s : Int))
    rw [← this]
    congr 1
    rw [hk] at e
    rw [Int.natCast_mul]
    omega
  · obtain ⟨k, hk⟩ := Int.eq_ofNat_of_zero_le (show 0 ≤ -(i / (s : Int)) by omega)
    have := per_mul h k i
    rw [← this]
    congr 1
    rw [show i / (s : Int) = -(k : Int) by omega, Int.mul_neg] at e
    rw [Int.natCast_mul]
    omega
structure IsMin (c : BL) (q : Nat) : Prop where
  pos : 0 < q
  per : Per c q
  le : ∀ d, 0 < d → Per c d → q ≤ d
theorem least_of {P : Nat → Prop} : ∀ n, P n → ∃ m, P m ∧ ∀ k, P k → m ≤ k := by
  intro n
  induction n using Nat.strongRecOn with
  | ind n ih =>
    intro h
    by_cases z : ∃ k, k < n ∧ P k
    · obtain ⟨k, hk, hp⟩ := z
      exact ih k hk hp
    · exact ⟨n, h, fun k hk => Nat.le_of_not_lt fun hlt => z ⟨k, hlt, hk⟩⟩
theorem ex_min {c : BL} (hc : c ≠ []) : ∃ q, IsMin c q := by
  obtain ⟨q, ⟨h1, h2⟩, h3⟩ := least_of (P := fun d => 0 < d ∧ Per c d) c.length ⟨len_pos hc, per_len c⟩
  exact ⟨q, h1, h2, fun d a b => h3 d ⟨a, b⟩⟩
theorem IsMin.dvd {c : BL} {q d : Nat} (h : IsMin c q) (hd : Per c d) : q ∣ d := by
  refine Nat.dvd_of_mod_eq_zero ?_
  rcases Nat.eq_zero_or_pos (d % q) with z | z
  · exact z
  · have := h.le _ z (per_mod h.per hd)
    have := Nat.mod_lt d h.pos
    omega
theorem tst {c : BL} {s t : Nat} (hs : Per c s) (hl : s ≤ c.length) (ht : 0 < t) (hd : t ∣ s) (h0 : 0 < s) : ((c.drop t).take (s - t) = c.take (s - t)) ↔ Per c t := by
  have hts : t ≤ s := Nat.le_of_dvd h0 hd
  constructor
  · intro h
    have hj : ∀ j, j < s - t → c.getD (j + t) false = c.getD j false := fun j hj => by
      have := congrArg (fun l => l.getD j false) h
      simp only [List.getD_eq_getElem?_getD, List.getElem?_take_of_lt hj, List.getElem?_drop] at this
      rw [List.getD_eq_getElem?_getD, List.getD_eq_getElem?_getD, Nat.add_comm j t]
      exact this
    have hA : ∀ r, r < s → cv c ((r : Nat) : Int) = cv c ((r % t : Nat) : Int) := by
      intro r
      induction r using Nat.strongRecOn with
      | ind r ih =>
        intro hr
        by_cases z : r < t
        · rw [Nat.mod_eq_of_lt z]
        · have e1 := hj (r - t) (by omega)
          rw [show r - t + t = r by omega] at e1
          rw [cv_nat (by omega), e1, ← cv_nat (by omega), ih (r - t) (by omega) (by omega)]
          congr 2
          rw [← Nat.mod_eq_sub_mod (by omega)]
    have hB : ∀ i : Int, cv c i = cv c (i % (t : Int)) := fun i => by
      have a0 : 0 ≤ i % (s : Int) := Int.emod_nonneg _ (by omega)
      have a1 : i % (s : Int) < s := Int.emod_lt_of_pos _ (by omega)
      rw [per_emod hs h0 i]
      have := hA (i % (s : Int)).toNat (by omega)
      rw [Int.natCast_emod, Int.toNat_of_nonneg a0, Int.emod_emod_of_dvd _ (Int.natCast_dvd_natCast.mpr hd)] at this
      exact this
    intro i
    rw [hB (i + (t : Int)), hB i, Int.add_emod_right]
  · intro h
    refine List.ext_getElem (by simp; omega) fun j j1 j2 => ?_
    have hj : j < s - t := by
      rw [List.length_take] at j2
      omega
    rw [List.getElem_take, List.getElem_drop, List.getElem_take]
    have := h (j : Int)
    rw [show (j : Int) + (t : Int) = ((t + j : Nat) : Int) by omega, cv_nat (by omega), cv_nat (by omega)] at this
    rw [List.getD_eq_getElem?_getD, List.getD_eq_getElem?_getD, List.getElem?_eq_getElem (by omega), List.getElem?_eq_getElem (by omega)] at this
    exact this
theorem scF_min {c : BL} {q : Nat} (hq : IsMin c q) : ∀ (fs : List Nat) (s m : Nat), s = q * m → 0 < m → s ≤ c.length → (∀ p ∈ fs, Pr p) → m ∣ pro fs → pro fs ∣ s → scF c fs s = q
  | [], s, m, hs, hm, _, _, hd, _ => by
    have : m = 1 := Nat.dvd_one.mp hd
    rw [this, Nat.mul_one] at hs
    exact hs
  | p :: fs, s, m, hs, hm, hl, hp, hd, hd2 => by
    have pp := hp p List.mem_cons_self
    have hp' : ∀ x ∈ fs, Pr x := fun x hx => hp x (List.mem_cons_of_mem _ hx)
    have p0 : 0 < p := by have := pp.1; omega
    have hd : m ∣ p * pro fs := hd
    obtain ⟨k, hk⟩ : p * pro fs ∣ s := hd2
    have s0 : 0 < s := by rw [hs]; exact Nat.mul_pos hq.pos hm
    have hps : p ∣ s := ⟨pro fs * k, by rw [hk, Nat.mul_assoc]⟩
    have et : p * (s / p) = s := Nat.mul_div_cancel' hps
    have t0 : 0 < s / p := by
      rcases Nat.eq_zero_or_pos (s / p) with z | z
      · rw [z] at et; omega
      · exact z
    have hsper : Per c s := by rw [hs]; exact per_mul hq.per m
    have htd : s / p ∣ s := ⟨p, by rw [Nat.mul_comm]; exact et.symm⟩
    have key := tst hsper hl t0 htd s0
    have hft : pro fs ∣ s / p := by
      refine ⟨k, Nat.eq_of_mul_eq_mul_left p0 ?_⟩
      rw [et, hk, Nat.mul_assoc]
    show scF c fs (if (c.drop (s / p)).take (s - s / p) = c.take (s - s / p) then s / p else s) = q
    by_cases z : Per c (s / p)
    · rw [if_pos (key.mpr z)]
      obtain ⟨m', hm'⟩ := hq.dvd z
      have em : m = p * m' := by
        refine Nat.eq_of_mul_eq_mul_left hq.pos ?_
        rw [← hs, ← et, hm', ← Nat.mul_assoc, ← Nat.mul_assoc, Nat.mul_comm p q]
      have m0 : 0 < m' := by
        rcases Nat.eq_zero_or_pos m' with y | y
        · rw [em, y] at hm; omega
        · exact y
      refine scF_min hq fs (s / p) m' hm' m0 (Nat.le_trans (Nat.div_le_self _ _) hl) hp' ?_ hft
      rw [em] at hd
      exact Nat.dvd_of_mul_dvd_mul_left p0 hd
    · rw [if_neg (fun y => z (key.mp y))]
      refine scF_min hq fs s m hs hm hl hp' ?_ (Nat.dvd_trans hft htd)
      have cop : Nat.Coprime m p := by
        have hg := Nat.gcd_dvd_right m p
        rcases pp.2 _ hg with y | y
        · exact y
        · exfalso
          have hpm : p ∣ m := by rw [← y]; exact Nat.gcd_dvd_left m p
          obtain ⟨m'', hm''⟩ := hpm
          apply z
          have : s / p = q * m'' := by
            refine Nat.eq_of_mul_eq_mul_left p0 ?_
            rw [et, hs, hm'', ← Nat.mul_assoc, ← Nat.mul_assoc, Nat.mul_comm p q]
          rw [this]
          exact per_mul hq.per m''
      exact cop.dvd_of_dvd_mul_left hd
theorem sc_eq {c : BL} {q : Nat} (hc : c ≠ []) (h : IsMin c q) : sc c = c.take q ∧ q ≤ c.length := by
  have hp := len_pos hc
  obtain ⟨a, b⟩ := pf_ok hp
  obtain ⟨m, hm⟩ := h.dvd (per_len c)
  have m0 : 0 < m := by
    rcases Nat.eq_zero_or_pos m with z | z
    · rw [z] at hm; omega
    · exact z
  refine ⟨?_, h.le _ hp (per_len c)⟩
  unfold sc
  rw [scF_min h (pf c.length) c.length m hm m0 (Nat.le_refl _) a (by rw [b]; exact ⟨q, by rw [hm, Nat.mul_comm]⟩) (by rw [b]; exact Nat.dvd_refl _)]
end Mw

namespace Mw
theorem getD_map_range {n j : Nat} {f : Nat → Bool} (h : j < n) : ((List.range n).map f).getD j false = f j := by
  rw [List.getD_eq_getElem?_getD, List.getElem?_map, List.getElem?_range h]
  rfl
theorem rot_len (c : BL) (i : Int) : (rot c i).length = c.length := by simp [rot]
theorem rot_ne {c : BL} {i : Int} (h : c ≠ []) : rot c i ≠ [] := by
  intro e
  have := rot_len c i
  rw [e] at this
  exact h (List.eq_nil_of_length_eq_zero this.symm)
theorem cv_rot {c : BL} (hc : c ≠ []) (i k : Int) : cv (rot c i) k = cv c (k + i) := by
  have hp := len_pos hc
  have h0 : 0 ≤ k % (c.length : Int) := Int.emod_nonneg _ (by omega)
  have h1 : k % (c.length : Int) < c.length := Int.emod_lt_of_pos _ (by omega)
  show (rot c i).getD (k % ((rot c i).length : Int)).toNat false = _
  rw [rot_len]
  unfold rot
  rw [getD_map_range (by omega), Int.toNat_of_nonneg h0]
  exact cv_mod (by rw [Int.emod_add_emod])
theorem rot_rot {c : BL} (hc : c ≠ []) (i j : Int) : rot (rot c i) j = rot c (i + j) := by
  show (List.range (rot c i).length).map _ = _
  rw [rot_len]
  refine List.map_congr_left fun k _ => ?_
  rw [cv_rot hc]
  congr 1
  omega
theorem mny_le (c : BL) : ∀ (xs : BL) (j : Nat), mny c xs j ≤ xs.length
  | [], _ => Nat.le_refl _
  | x :: xs, j => by
    unfold mny
    have := mny_le c xs (j + 1)
    split <;> simp <;> omega
theorem mny_in (c : BL) : ∀ (xs : BL) (j k : Nat), k < mny c xs j → xs.getD k false = cv c (-1 - ((j + k : Nat) : Int))
  | [], _, k, h => by cases h
  | x :: xs, j, k, h => by
    unfold mny at h
    split at h
    · rename_i e
      cases k with
      | zero => exact e
      | succ k =>
        have := mny_in c xs (j + 1) k (by omega)
        rw [List.getD_cons_succ, this]
        congr 1
        omega
    · cases h
theorem mny_out (c : BL) : ∀ (xs : BL) (j : Nat), mny c xs j < xs.length → xs.getD (mny c xs j) false ≠ cv c (-1 - ((j + mny c xs j : Nat) : Int))
  | [], _, h => by cases h
  | x :: xs, j, h => by
    unfold mny at h ⊢
    split
    · rename_i e
      rw [if_pos e] at h
      have h' : mny c xs (j + 1) < xs.length := by simpa using h
      have := mny_out c xs (j + 1) h'
      rw [List.getD_cons_succ]
      intro z
      apply this
      rw [z]
      congr 1
      omega
    · rename_i e
      exact e
theorem getD_rev {h : BL} {k : Nat} (hk : k < h.length) : h.reverse.getD k false = h.getD (h.length - 1 - k) false := by
  rw [List.getD_eq_getElem?_getD, List.getD_eq_getElem?_getD, List.getElem?_reverse hk]
theorem getD_take {h : BL} {k s : Nat} (hk : k < s) : (h.take s).getD k false = h.getD k false := by
  rw [List.getD_eq_getElem?_getD, List.getD_eq_getElem?_getD, List.getElem?_take_of_lt hk]
structure Sh (c c' : BL) : Prop where
  nc : c ≠ []
  nc' : c' ≠ []
  le : c'.length ≤ c.length
  dv : (c'.length : Int) ∣ (c.length : Int)
  eq : ∀ i, cv c i = cv c' i
theorem sq_lo {h c : BL} {n : Nat} (hn : n < h.length) : sq h c n = h.getD n false := by
  unfold sq
  rw [if_pos hn]
theorem sq_hi {h c : BL} {n : Nat} (hn : h.length ≤ n) : sq h c n = cv c ((n : Int) - (h.length : Int)) := by
  unfold sq
  rw [if_neg (by omega)]
theorem mn_le (h c : BL) : mn h c ≤ h.length := by
  have := mny_le c h.reverse 0
  rw [List.length_reverse] at this
  exact this
theorem mn_in {h c : BL} {n : Nat} (h1 : h.length - mn h c ≤ n) (h2 : n < h.length) : h.getD n false = cv c ((n : Int) - (h.length : Int)) := by
  have hl := mn_le h c
  have := mny_in c h.reverse 0 (h.length - 1 - n) (by show _ < mn h c; omega)
  rw [getD_rev (by omega), show h.length - 1 - (h.length - 1 - n) = n by omega] at this
  rw [this]
  congr 1
  omega
theorem mn_out {h c : BL} (h1 : mn h c < h.length) : h.getD (h.length - 1 - mn h c) false ≠ cv c (-1 - (mn h c : Int)) := by
  have := mny_out c h.reverse 0 (by rw [List.length_reverse]; exact h1)
  rw [getD_rev (show mny c h.reverse 0 < h.length from h1)] at this
  rw [show ((0 + mny c h.reverse 0 : Nat) : Int) = (mn h c : Int) by unfold mn; omega] at this
  exact this
theorem sq_cut {h c c' : BL} (S : Sh c c') {s : Nat} (hs : s ≤ h.length) (n : Nat) : sq (h.take s) (rot c' ((s : Int) - (h.length : Int))) n = if n < s then h.getD n false else cv c ((n : Int) - (h.length : Int)) := by
  have hl : (h.take s).length = s := by rw [List.length_take]; omega
  by_cases hn : n < s
  · rw [if_pos hn, sq_lo (by rw [hl]; exact hn), getD_take hn]
  · rw [if_neg hn, sq_hi (by rw [hl]; omega), hl, cv_rot S.nc', S.eq]
    congr 1
    omega
theorem cut_ok {h c c' : BL} (S : Sh c c') (n : Nat) : sq (h.take (h.length - mn h c')) (rot c' (-(mn h c' : Int))) n = sq h c n := by
  have hl := mn_le h c'
  have e := sq_cut S (h := h) (s := h.length - mn h c') (by omega) n
  rw [show ((h.length - mn h c' : Nat) : Int) - (h.length : Int) = -(mn h c' : Int) by omega] at e
  rw [e]
  by_cases h1 : n < h.length - mn h c'
  · rw [if_pos h1, sq_lo (by omega)]
  · rw [if_neg h1]
    by_cases h2 : n < h.length
    · rw [sq_lo h2, mn_in (h := h) (c := c') (by omega) h2, S.eq]
    · rw [sq_hi (by omega)]
theorem cv_take {c : BL} {q : Nat} (h : IsMin c q) (hl : q ≤ c.length) (i : Int) : cv (c.take q) i = cv c i := by
  have e : (c.take q).length = q := by rw [List.length_take]; omega
  have a0 : 0 ≤ i % (q : Int) := Int.emod_nonneg _ (by have := h.pos; omega)
  have a1 : i % (q : Int) < q := Int.emod_lt_of_pos _ (by have := h.pos; omega)
  rw [per_emod h.per h.pos i]
  have := cv_nat (c := c) (k := (i % (q : Int)).toNat) (by omega)
  rw [Int.toNat_of_nonneg a0] at this
  rw [this]
  unfold cv
  rw [e, getD_take (by omega)]
theorem per_cv {c c' : BL} (h : ∀ i, cv c i = cv c' i) (d : Nat) : Per c d ↔ Per c' d := by
  constructor
  · intro z i
    rw [← h, ← h]
    exact z i
  · intro z i
    rw [h, h]
    exact z i
theorem IsMin.iff {c c' : BL} (h : ∀ d, Per c d ↔ Per c' d) {q : Nat} (m : IsMin c q) : IsMin c' q := ⟨m.pos, (h q).mp m.per, fun d a b => m.le d a ((h d).mpr b)⟩
theorem sc_full {c : BL} (hc : c ≠ []) (m : IsMin c c.length) : sc c = c := by
  rw [(sc_eq hc m).1, List.take_length]
/-- the shortest cycle -/
theorem sh_gen {c : BL} (hc : c ≠ []) : Sh c (sc c) ∧ IsMin c (sc c).length ∧ IsMin (sc c) (sc c).length := by
  obtain ⟨q, m⟩ := ex_min hc
  obtain ⟨e, hl⟩ := sc_eq hc m
  have el : (sc c).length = q := by rw [e, List.length_take]; omega
  have ecv : ∀ i, cv c i = cv (sc c) i := fun i => by rw [e, cv_take m hl]
  rw [el]
  refine ⟨⟨hc, ?_, by rw [el]; exact hl, ?_, ecv⟩, m, m.iff (per_cv ecv)⟩
  · intro z
    rw [z] at el
    have := m.pos
    simp at el
    omega
  · rw [el]
    exact Int.natCast_dvd_natCast.mpr (m.dvd (per_len c))
theorem sc_ne {c : BL} (hc : c ≠ []) : sc c ≠ [] := (sh_gen hc).1.nc'
theorem per_rot {c : BL} (hc : c ≠ []) (k : Int) (d : Nat) : Per c d ↔ Per (rot c k) d := by
  constructor
  · intro z i
    rw [cv_rot hc, cv_rot hc, show i + (d : Int) + k = (i + k) + (d : Int) by omega]
    exact z _
  · intro z i
    have := z (i - k)
    rw [cv_rot hc, cv_rot hc, show i - k + (d : Int) + k = i + (d : Int) by omega, show i - k + k = i by omega] at this
    exact this
theorem rot_zero {c : BL} : rot c 0 = c := by
  refine List.ext_getElem (rot_len _ _) fun k k1 k2 => ?_
  simp only [rot, List.getElem_map, List.getElem_range]
  rw [Int.add_zero, cv_nat k2, List.getD_eq_getElem?_getD, List.getElem?_eq_getElem k2]
  rfl
/-- in settled form -/
structure Stl (h c : BL) : Prop where
  nc : c ≠ []
  mi : IsMin c c.length
  mz : mn h c = 0
theorem Stl.sc {h c : BL} (s : Stl h c) : sc c = c := sc_full s.nc s.mi
theorem stl_fix {h c : BL} (s : Stl h c) : stl h c = (h, c) := by
  unfold stl
  rw [s.sc, s.mz]
  refine Prod.ext ?_ ?_
  · show h.take (h.length - 0) = h
    rw [Nat.sub_zero, List.take_length]
  · show rot c (-((0 : Nat) : Int)) = c
    rw [show -((0 : Nat) : Int) = 0 by rfl]
    exact rot_zero
theorem stl_Stl {h c : BL} (hc : c ≠ []) : Stl (stl h c).1 (stl h c).2 := by
  obtain ⟨S, m1, m2⟩ := sh_gen hc
  refine ⟨rot_ne S.nc', ?_, ?_⟩
  · show IsMin (rot (Mw.sc c) _) (rot (Mw.sc c) _).length
    rw [rot_len]
    exact m2.iff (per_rot S.nc' _)
  · have hl := mn_le h (Mw.sc c)
    show mny (rot (Mw.sc c) (-(mn h (Mw.sc c) : Int))) (h.take (h.length - mn h (Mw.sc c))).reverse 0 = 0
    by_cases z : mn h (Mw.sc c) < h.length
    · have ho := mn_out z
      have el : (h.take (h.length - mn h (Mw.sc c))).length = h.length - mn h (Mw.sc c) := by rw [List.length_take]; omega
      have e1 : (h.take (h.length - mn h (Mw.sc c))).reverse.getD 0 false = h.getD (h.length - 1 - mn h (Mw.sc c)) false := by
        rw [getD_rev (by rw [el]; omega), el, getD_take (by omega)]
        congr 1
        omega
      generalize hr : (h.take (h.length - mn h (Mw.sc c))).reverse = l at e1
      cases l with
      | nil => rfl
      | cons x xs =>
        have e1 : x = h.getD (h.length - 1 - mn h (Mw.sc c)) false := e1
        unfold mny
        rw [if_neg]
        rw [e1, cv_rot S.nc']
        intro y
        apply ho
        rw [y]
        congr 1
        try omega
    · rw [show h.length - mn h (Mw.sc c) = 0 by omega]
      rfl
theorem sq_stl {h c : BL} (hc : c ≠ []) (n : Nat) : sq (stl h c).1 (stl h c).2 n = sq h c n := cut_ok (sh_gen hc).1 n
theorem stl_len {h c : BL} (hc : c ≠ []) : (stl h c).1.length ≤ h.length ∧ (stl h c).2.length ≤ c.length := by
  refine ⟨?_, ?_⟩
  · show (h.take _).length ≤ _
    rw [List.length_take]
    omega
  · have := (sh_gen hc).1.le
    show (rot (sc c) _).length ≤ c.length
    rw [rot_len]
    exact this
/-! ### the complement -/
def neg (b : BL) : BL := b.map not
theorem neg_len (b : BL) : (neg b).length = b.length := List.length_map ..
theorem neg_getD {b : BL} {k : Nat} (h : k < b.length) : (neg b).getD k false = !b.getD k false := by
  unfold neg
  rw [List.getD_eq_getElem?_getD, List.getElem?_map, List.getD_eq_getElem?_getD, List.getElem?_eq_getElem h]
  rfl
theorem neg_ne {b : BL} (h : b ≠ []) : neg b ≠ [] := by
  intro z
  exact h (List.map_eq_nil_iff.mp z)
theorem cv_neg {c : BL} (hc : c ≠ []) (i : Int) : cv (neg c) i = !cv c i := by
  have hp := len_pos hc
  have a0 : 0 ≤ i % (c.length : Int) := Int.emod_nonneg _ (by omega)
  have a1 : i % (c.length : Int) < c.length := Int.emod_lt_of_pos _ (by omega)
  unfold cv
  rw [neg_len, neg_getD (by omega)]
theorem sq_neg {h c : BL} (hc : c ≠ []) (n : Nat) : sq (neg h) (neg c) n = !sq h c n := by
  by_cases z : n < h.length
  · rw [sq_lo (by rw [neg_len]; exact z), sq_lo z, neg_getD z]
  · rw [sq_hi (by rw [neg_len]; omega), sq_hi (by omega), neg_len, cv_neg hc]
theorem mny_neg {c : BL} (hc : c ≠ []) : ∀ (xs : BL) (j : Nat), mny (neg c) (neg xs) j = mny c xs j
  | [], _ => rfl
  | x :: xs, j => by
    show (if (!x) = cv (neg c) (-1 - (j : Int)) then mny (neg c) (neg xs) (j + 1) + 1 else 0) = (if x = cv c (-1 - (j : Int)) then mny c xs (j + 1) + 1 else 0)
    rw [cv_neg hc, mny_neg hc xs (j + 1)]
    have : ((!x) = !cv c (-1 - (j : Int))) ↔ x = cv c (-1 - (j : Int)) := by
      cases x <;> cases cv c (-1 - (j : Int)) <;> simp
    simp only [this]
theorem Stl.neg {h c : BL} (s : Stl h c) : Stl (neg h) (neg c) := by
  refine ⟨neg_ne s.nc, ?_, ?_⟩
  · rw [neg_len]
    refine s.mi.iff fun d => ?_
    constructor
    · intro z i
      rw [cv_neg s.nc, cv_neg s.nc, z]
    · intro z i
      have := z i
      rw [cv_neg s.nc, cv_neg s.nc] at this
      revert this
      cases cv c (i + (d : Int)) <;> cases cv c i <;> simp
  · show mny (Mw.neg c) (Mw.neg h).reverse 0 = 0
    have e : (Mw.neg h).reverse = Mw.neg h.reverse := (List.map_reverse ..).symm
    rw [e, mny_neg s.nc]
    exact s.mz
/-- no number -/
theorem Stl.none {h c : BL} (s : Stl h c) (hn : ∀ n, sq h c n = false) : h = [] ∧ c = [false] := by
  have hp := len_pos s.nc
  have hc0 : ∀ i, cv c i = false := fun i => by
    have a0 : 0 ≤ i % (c.length : Int) := Int.emod_nonneg _ (by omega)
    have e : cv c i = cv c (i % (c.length : Int)) := cv_mod (by rw [Int.emod_emod])
    have := hn (h.length + (i % (c.length : Int)).toNat)
    rw [sq_hi (by omega)] at this
    rw [e, ← this]
    congr 1
    omega
  have hl : c.length = 1 := by
    have := s.mi.le 1 (by decide) (fun i => by rw [hc0, hc0])
    omega
  have hcf : c = [false] := by
    match c, hl, hc0 with
    | [b], _, hc0 =>
      have := hc0 0
      have e : cv [b] 0 = b := rfl
      rw [e] at this
      rw [this]
  refine ⟨?_, hcf⟩
  cases hh : h.reverse with
  | nil => exact List.reverse_eq_nil_iff.mp hh
  | cons x xs =>
    exfalso
    have hm := s.mz
    unfold mn at hm
    rw [hh] at hm
    have hm : (if x = cv c (-1 - ((0 : Nat) : Int)) then mny c xs (0 + 1) + 1 else 0) = 0 := hm
    by_cases z : x = cv c (-1 - ((0 : Nat) : Int))
    · rw [if_pos z] at hm
      omega
    · rw [hc0] at z
      have hpos : 0 < h.length := by
        have := congrArg List.length hh
        simp at this
        omega
      have e : h.getD (h.length - 1) false = x := by
        have := getD_rev (h := h) (k := 0) hpos
        rw [hh] at this
        rw [show h.length - 1 - 0 = h.length - 1 by omega] at this
        exact this.symm
      have := hn (h.length - 1)
      rw [sq_lo (by omega), e] at this
      exact z this
/-! ### two sets in step -/
/-- the items of a set, stretched -/
def str (h c : BL) (n : Nat) : BL := (List.range n).map fun k => sq h c k
theorem str_len (h c : BL) (n : Nat) : (str h c n).length = n := by simp [str]
theorem str_get {h c : BL} {n k : Nat} (hk : k < n) : (str h c n).getD k false = sq h c k := getD_map_range hk
theorem sq_per {h c : BL} {n m : Nat} (hn : h.length ≤ n) (hd : c.length ∣ m) : sq h c (n + m) = sq h c n := by
  rw [sq_hi (by omega), sq_hi hn]
  refine cv_mod ?_
  obtain ⟨k, hk⟩ := hd
  rw [show ((n + m : Nat) : Int) - (h.length : Int) = ((n : Int) - (h.length : Int)) + (c.length : Int) * (k : Int) by rw [hk, Int.natCast_add, Int.natCast_mul]; omega, Int.add_mul_emod_self_left]
def andL (a b : BL) : BL := (List.zip a b).map fun x => x.1 && x.2
theorem andL_str (h1 c1 h2 c2 : BL) (n : Nat) : andL (str h1 c1 n) (str h2 c2 n) = (List.range n).map fun k => sq h1 c1 k && sq h2 c2 k := by
  unfold andL str
  rw [List.zip_map', List.map_map]
  rfl
/-- the common part: a head so long as both, a cycle in step with both (or behind which there is nothing) -/
theorem com_sq {h1 c1 h2 c2 : BL} {hs cs : Nat} (l1 : h1.length ≤ hs) (l2 : h2.length ≤ hs) (hc : 0 < cs) (d : (c1.length ∣ cs ∧ c2.length ∣ cs) ∨ c1 = [false] ∨ c2 = [false]) (n : Nat) :
    sq ((andL (str h1 c1 (hs + cs)) (str h2 c2 (hs + cs))).take hs) ((andL (str h1 c1 (hs + cs)) (str h2 c2 (hs + cs))).drop hs) n = (sq h1 c1 n && sq h2 c2 n) := by
  rw [andL_str]
  generalize hI : ((List.range (hs + cs)).map fun k => sq h1 c1 k && sq h2 c2 k) = I
  have il : I.length = hs + cs := by rw [← hI]; simp
  have ig : ∀ k, k < hs + cs → I.getD k false = (sq h1 c1 k && sq h2 c2 k) := fun k hk => by rw [← hI, getD_map_range hk]
  have tl : (I.take hs).length = hs := by rw [List.length_take]; omega
  have dl : (I.drop hs).length = cs := by rw [List.length_drop]; omega
  by_cases z : n < hs
  · rw [sq_lo (by rw [tl]; exact z), getD_take z, ig n (by omega)]
  · rw [sq_hi (by rw [tl]; omega), tl]
    have a0 : 0 ≤ ((n : Int) - (hs : Int)) % (cs : Int) := Int.emod_nonneg _ (by omega)
    have a1 : ((n : Int) - (hs : Int)) % (cs : Int) < cs := Int.emod_lt_of_pos _ (by omega)
    obtain ⟨m, hm⟩ : ∃ m : Nat, (((n : Int) - (hs : Int)) % (cs : Int)).toNat = m := ⟨_, rfl⟩
    have e1 : cv (I.drop hs) ((n : Int) - (hs : Int)) = (sq h1 c1 (hs + m) && sq h2 c2 (hs + m)) := by
      unfold cv
      rw [dl, hm, List.getD_eq_getElem?_getD, List.getElem?_drop, ← List.getD_eq_getElem?_getD, ig _ (by omega)]
    rw [e1]
    rcases d with ⟨d1, d2⟩ | d | d
    · have en : n = hs + m + cs * ((n - hs) / cs) := by
        have := Nat.div_add_mod (n - hs) cs
        have h3 : (n - hs) % cs = m := by
          rw [← hm, show (n : Int) - (hs : Int) = ((n - hs : Nat) : Int) by omega, ← Int.natCast_emod, Int.toNat_natCast]
        omega
      rw [en, sq_per (h := h1) (by omega) (Nat.dvd_trans d1 ⟨_, rfl⟩), sq_per (h := h2) (by omega) (Nat.dvd_trans d2 ⟨_, rfl⟩)]
    · have : ∀ k, h1.length ≤ k → sq h1 c1 k = false := fun k hk => by
        rw [sq_hi hk, d]
        unfold cv
        have : (((k : Int) - (h1.length : Int)) % (([false] : BL).length : Int)).toNat = 0 := by
          show (((k : Int) - (h1.length : Int)) % 1).toNat = 0
          rw [Int.emod_one]
          rfl
        rw [this]
        rfl
      rw [this _ (by omega), this _ (by omega)]
      rfl
    · have : ∀ k, h2.length ≤ k → sq h2 c2 k = false := fun k hk => by
        rw [sq_hi hk, d]
        unfold cv
        have : (((k : Int) - (h2.length : Int)) % (([false] : BL).length : Int)).toNat = 0 := by
          show (((k : Int) - (h2.length : Int)) % 1).toNat = 0
          rw [Int.emod_one]
          rfl
        rw [this]
        rfl
      rw [this _ (by omega), this _ (by omega), Bool.and_false, Bool.and_false]
end Mw

namespace Mw
open PySem L2
theorem sz_line {n : Nat} (h : n < 10000000) : n < sizeLine := Nat.lt_of_lt_of_le h (by decide)
theorem le_line {n : Nat} (h : n < 10000000) : n ≤ sizeLine := Nat.le_of_lt (sz_line h)
/-! ### tuples of True and False -/
def TA (K : PySem.W.Frag) (H : Hp) (v : V) (bs : BL) : Prop := ∃ p, v = .ref p ∧ Tn.NT K H p (bs.map V.bl)
theorem TA.same {K : PySem.W.Frag} {H H' : Hp} {v : V} {bs : BL} (s : Same H H') (h : TA K H v bs) : TA K H' v bs := by
  obtain ⟨p, e, h1⟩ := h
  exact ⟨p, e, Tn.same s h1⟩
/-- the pair of a head and a cycle -/
def PA (K : PySem.W.Frag) (H : Hp) (v : V) (x : BL × BL) : Prop := ∃ p a b, v = .ref p ∧ SqT K H p [a, b] ∧ TA K H a x.1 ∧ TA K H b x.2
theorem PA.same {K : PySem.W.Frag} {H H' : Hp} {v : V} {x : BL × BL} (s : Same H H') (h : PA K H v x) : PA K H' v x := by
  obtain ⟨p, a, b, e, h1, h2, h3⟩ := h
  exact ⟨p, a, b, e, Ts.same s h1, h2.same s, h3.same s⟩
def bsD (bs : BL) : PyData := .tuple (bs.map .bool)
theorem dpl {K : PySem.W.Frag} {H : Hp} : ∀ bs : BL, DpAll K H (bs.map V.bl) (bs.map .bool)
  | [] => .nil
  | b :: bs => .cons (.bl b) (dpl bs)
theorem TA.dp {K : PySem.W.Frag} {H : Hp} {v : V} {bs : BL} (h : TA K H v bs) : Dp K H v (bsD bs) := by
  obtain ⟨p, rfl, h1⟩ := h
  exact .tup h1.1 (dpl bs)
theorem PA.dp {K : PySem.W.Frag} {H : Hp} {v : V} {x : BL × BL} (h : PA K H v x) : Dp K H v (.tuple [bsD x.1, bsD x.2]) := by
  obtain ⟨p, a, b, rfl, h1, h2, h3⟩ := h
  exact .tup h1 (.cons h2.dp (.cons h3.dp .nil))
theorem eqv_all : ∀ a b : BL, PyData.eqvAll (a.map .bool) (b.map .bool) = decide (a = b)
  | [], [] => rfl
  | [], _ :: _ => rfl
  | _ :: _, [] => rfl
  | x :: a, y :: b => by
    show ((x == y) && PyData.eqvAll (a.map .bool) (b.map .bool)) = _
    rw [eqv_all a b, Bool.eq_iff_iff]
    simp
theorem eqv_bs (a b : BL) : PyData.eqv (bsD a) (bsD b) = decide (a = b) := eqv_all a b
theorem can_all : ∀ a : BL, PyData.canLayAll0 (a.map .bool) = true
  | [] => rfl
  | _ :: a => can_all a
theorem dep_all : ∀ a : BL, PyData.depthAll (a.map .bool) = 0
  | [] => rfl
  | b :: a => by
    show max (PyData.depth (.bool b)) (PyData.depthAll (a.map .bool)) = 0
    rw [dep_all a]
    rfl
theorem shp (a : BL) : SeqAt.shaped (bsD a) = true := by
  unfold SeqAt.shaped
  rw [Bool.and_eq_true]
  refine ⟨can_all a, decide_eq_true ?_⟩
  show PyData.depthAll (a.map .bool) + 1 ≤ 64
  rw [dep_all]
  decide
theorem shp2 (a b : BL) : SeqAt.shaped (.tuple [bsD a, bsD b]) = true := by
  unfold SeqAt.shaped
  rw [Bool.and_eq_true]
  refine ⟨?_, decide_eq_true ?_⟩
  · show (PyData.canLayAll0 (a.map .bool) && (PyData.canLayAll0 (b.map .bool) && true)) = true
    rw [can_all, can_all]
    rfl
  · show max (PyData.depthAll (a.map .bool) + 1) (max (PyData.depthAll (b.map .bool) + 1) 0) + 1 ≤ 64
    rw [dep_all, dep_all]
    decide
section
variable {P : Program} {w : World} {K : PySem.W.Frag} {mg : Str → Option Value} {base : Heap}
/-! ### prime_factors -/
abbrev sPf : Stmt := top 4
abbrev nPf : List Str := ["number", "factors", "factor"]
theorem scPf : FnScope nPf ["number"] (defScope sPf) := ⟨rfl, rfl, rfl, by decide +kernel, rfl, by decide +kernel, by decide +kernel⟩
def nV (n : Nat) : V := .int (n : Int)
def spPf : Sp := fun vs H Q _ => ∃ n : Nat, vs = [nV n] ∧ 1 ≤ n ∧ n < 1000 ∧ ∀ l H', Same H H' → H' l = some (.lst ((pf n).map nV)) → Q (.ref l) H'
theorem ok_pf {f : Addr} {fd : FuncData} (F : Fun K "prime_factors" "prime_factors" sPf f fd) : FnOk P w K mg base CX0 1 f fd ["number"] spPf := by
  refine F.ok scPf (fun vs H Q E h => ?_) (fun cdv A outer s H vs Q E hr h => ?_)
  · obtain ⟨n, rfl, _⟩ := h
    rfl
  obtain ⟨n, rfl, h0, h1, q⟩ := h
  have nd := scPf.nd
  refine ⟨_, pss_cons (ps_set (i := 1) nd rfl (.inl rfl) (pe_lst pa_nil))
    (pss_cons (ps_set (i := 2) nd rfl (.inl rfl) pe_int)
    (pss_cons (ps_while PassesOwn.never (pt_cmpR op_le (pe_op op_mul (pv 2) (pv 2)) (pv 0) (nomark _))
      (pss_one (ps_if (pt_cmpR op_eq (pe_op op_mod (pv 0) (pv 2)) pe_int (nomark _))
        (pss_cons (ps_expr (pe_bm PySem.F.plainAttrs_list PySem.F.slot_list_append PySem.F.type_list_append mt_append (pv 1) (pa_cons (pv 2) pa_nil)))
          (pss_one (ps_set (i := 0) nd rfl (.inl rfl) (pe_op op_fdiv (pv 0) (pv 2)))))
        (pss_one (ps_aug (i := 2) nd rfl (.inl rfl) pe_int ip_add)))))
    (pss_one (ps_ret (pe_ifExp (pt_cmpR op_gt (pv 0) pe_int (nomark _)) (pe_op op_cat (pv 1) (pe_lst (pa_cons (pv 0) pa_nil))) (pv 1)))))), ?_⟩
  refine ⟨Nat.zero_le _, fun l hl => ?_⟩
  have s1 : Same H (upd H l (.lst [])) := same_new hl _
  let J : Nat → L2.St → Hp → Prop := fun fu σ H' => ∃ (m g : Nat) (acc : List Nat), σ = [some (nV m), some (.ref l), some (nV g)] ∧ Same H H' ∧ H' l = some (.lst (acc.map nV)) ∧ pf n = acc ++ pfF fu m g ∧ 2 * m < fu + g ∧ 1 ≤ fu ∧ 2 ≤ g ∧ 1 ≤ m ∧ g + fu ≤ 2 * n + 2 ∧ acc.length + fu ≤ 2 * n
  refine ⟨J, ⟨2 * n, n, 2, [], rfl, s1, upd_same, rfl, by omega, by omega, by omega, h0, by omega, by simp⟩, ?_⟩
  rintro fu σ H' ⟨m, g, acc, rfl, s', hl', hpf, i1, i2, i3, i4, i6, i7⟩
  refine ⟨_, rfl, _, rfl, _, _, rfl, rfl, .inl ⟨by omega, by omega⟩, ?_⟩
  refine ⟨_, rfl, _, _, rfl, rfl, _, rfl, ?_⟩
  obtain ⟨fu', rfl⟩ : ∃ fu', fu = fu' + 1 := ⟨fu - 1, by omega⟩
  have e1 : pfF (fu' + 1) m g = if g * g ≤ m then (if m % g = 0 then g :: pfF fu' (m / g) g else pfF fu' m (g + 1)) else if 1 < m then [m] else [] := rfl
  have hgg : (g : Int) * (g : Int) = ((g * g : Nat) : Int) := by simp
  refine ite2 (fun c => ?_) (fun c => ?_)
  · have c' : g * g ≤ m := by
      have := of_decide_eq_true c
      rw [hgg] at this
      omega
    rw [e1, if_pos c'] at hpf
    have g2 : 2 * g ≤ g * g := Nat.mul_le_mul_right g i3
    refine ⟨J fu', fun σ' H' h => ⟨fu', by omega, h⟩, ?_⟩
    refine ⟨_, rfl, _, rfl, _, _, rfl, rfl, by show (0 : Int) < (g : Int); omega, rfl, _, rfl, ?_⟩
    have hmod : (m : Int) % (g : Int) = ((m % g : Nat) : Int) := by simp
    refine ite2 (fun c2 => ?_) (fun c2 => ?_)
    · have c3 : m % g = 0 := by
        have : (V.int ((m : Int) % (g : Int))) = V.int 0 := of_decide_eq_true c2
        injection this with this
        rw [hmod] at this
        omega
      rw [if_pos c3] at hpf
      refine ⟨_, rfl, .inl ⟨rfl, _, SqL.of hl'⟩, _, rfl, l, _, _, rfl, rfl, hl', sz_line (by rw [List.length_map]; omega), ?_⟩
      refine ⟨_, rfl, _, rfl, _, _, rfl, rfl, ⟨by omega, by omega⟩, ?_⟩
      have hdiv : (m : Int) / (g : Int) = ((m / g : Nat) : Int) := by simp
      have d1 : m / g * g ≤ m := Nat.div_mul_le_self m g
      have d2 : m / g * 2 ≤ m / g * g := Nat.mul_le_mul_left _ i3
      have d3 : 1 ≤ m / g := (Nat.le_div_iff_mul_le (by omega)).mpr (by omega)
      refine ⟨m / g, g, acc ++ [g], ?_, same_mut s' hl _, ?_, ?_, by omega, by omega, i3, d3, by omega, by rw [List.length_append, List.length_singleton]; omega⟩
      · show _ = [some (V.int ((m / g : Nat) : Int)), _, _]
        rw [← hdiv]
        rfl
      · rw [upd_same, List.map_append]
        rfl
      · rw [hpf, List.append_assoc]
        rfl
    · have c3 : ¬ m % g = 0 := fun z => c2 (by
        show decide (V.int ((m : Int) % (g : Int)) = V.int 0) = true
        rw [hmod, z]
        rfl)
      rw [if_neg c3] at hpf
      refine ⟨_, rfl, _, _, rfl, rfl, m, g + 1, acc, ?_, s', hl', hpf, by omega, by omega, by omega, i4, by omega, by omega⟩
      show _ = [_, _, some (V.int ((g + 1 : Nat) : Int))]
      rw [show ((g + 1 : Nat) : Int) = (g : Int) + 1 by omega]
      rfl
  · have c' : ¬ g * g ≤ m := fun z => c (by
      show decide ((g : Int) * (g : Int) ≤ (m : Int)) = true
      rw [hgg]
      exact decide_eq_true (by omega))
    rw [e1, if_neg c'] at hpf
    refine ⟨_, rfl, _, _, rfl, rfl, _, rfl, ?_⟩
    refine ite2 (fun c2 => ?_) (fun c2 => ?_)
    · have c3 : 1 < m := by
        have := of_decide_eq_true c2
        omega
      rw [if_pos c3] at hpf
      refine ⟨_, rfl, _, rfl, by show 1 ≤ sizeLine; decide, fun l2 hl2 => ?_⟩
      have t1 : Same H' (upd H' l2 (.lst [nV m])) := same_new hl2 _
      refine ⟨l, l2, _, _, rfl, rfl, t1 _ _ hl', upd_same, le_line (by rw [List.length_map]; show acc.length + 1 < 10000000; omega), fun l3 hl3 => ?_⟩
      refine q l3 _ ((s'.trans t1).trans (same_new hl3 _)) ?_
      rw [upd_same, hpf, List.map_append]
      rfl
    · have c3 : ¬ 1 < m := by
        have := of_decide_eq_false (Bool.eq_false_iff.mpr c2)
        omega
      rw [if_neg c3, List.append_nil] at hpf
      rw [← hpf] at hl'
      exact ⟨_, rfl, q l H' s' hl'⟩
end
end Mw

namespace Mw
open PySem L2
theorem cut_map (bs : BL) (lo hi : Option Int) : cutV (bs.map V.bl) lo hi = ((bs.drop (HT.sIx bs.length 0 lo)).take (HT.sIx bs.length bs.length hi - HT.sIx bs.length 0 lo)).map V.bl := by
  unfold cutV
  rw [List.length_map, List.map_take, List.map_drop]
theorem cut_to {bs : BL} {k : Nat} (hk : k ≤ bs.length) : cutV (bs.map V.bl) none (some (k : Int)) = (bs.take k).map V.bl := by
  rw [cut_map, HT.sIx_none, HT.sIx_nat, Nat.min_eq_left hk, List.drop_zero, Nat.sub_zero]
theorem cut_from {bs : BL} {k : Nat} (hk : k ≤ bs.length) : cutV (bs.map V.bl) (some (k : Int)) none = (bs.drop k).map V.bl := by
  rw [cut_map, HT.sIx_none, HT.sIx_nat, Nat.min_eq_left hk, List.take_of_length_le (by rw [List.length_drop]; omega)]
theorem cut_mid {bs : BL} {j k : Nat} (hj : j ≤ bs.length) (hk : k ≤ bs.length) : cutV (bs.map V.bl) (some (j : Int)) (some (k : Int)) = ((bs.drop j).take (k - j)).map V.bl := by
  rw [cut_map, HT.sIx_nat, HT.sIx_nat, Nat.min_eq_left hk, Nat.min_eq_left hj]
theorem at_bl {bs : BL} {k : Nat} (hk : k < bs.length) : atI (bs.map V.bl) (k : Int) = some (.bl (bs.getD k false)) :=
  atI_nat (by rw [List.getElem?_map, List.getElem?_eq_getElem hk, List.getD_eq_getElem?_getD, List.getElem?_eq_getElem hk]; rfl)
theorem at_back {bs : BL} {k : Nat} (hk : k < bs.length) : atI (bs.map V.bl) (-1 - (k : Int)) = some (.bl (bs.getD (bs.length - 1 - k) false)) := by
  have e : ixN (bs.map V.bl).length (-1 - (k : Int)) = some (bs.length - 1 - k) := by
    unfold ixN
    rw [List.length_map, if_neg (by omega), if_pos (by omega)]
    congr 1
    omega
  unfold atI
  rw [e]
  · show (bs.map V.bl)[bs.length - 1 - k]? = _
    rw [List.getElem?_map, List.getElem?_eq_getElem (by omega), List.getD_eq_getElem?_getD, List.getElem?_eq_getElem (by omega)]
    rfl
theorem back_mod {p : Nat} (hp : 0 < p) (j : Nat) : ((-1 - (j : Int)) % (p : Int)).toNat = p - 1 - j % p := by
  have hm := Nat.mod_lt j hp
  have hd := Nat.div_add_mod j p
  have e : -1 - (j : Int) = ((p - 1 - j % p : Nat) : Int) + (p : Int) * (-((j / p : Nat) : Int) - 1) := by
    have : (j : Int) = (p : Int) * ((j / p : Nat) : Int) + ((j % p : Nat) : Int) := by
      rw [← Int.natCast_mul, ← Int.natCast_add, hd]
    rw [Int.mul_sub, Int.mul_neg, Int.mul_one]
    omega
  rw [e, Int.add_mul_emod_self_left, Int.emod_eq_of_lt (by omega) (by omega)]
  omega
theorem cv_back {c : BL} (hc : c ≠ []) (j : Nat) : cv c (-1 - (j : Int)) = c.getD (c.length - 1 - j % c.length) false := by
  unfold cv
  rw [back_mod (len_pos hc)]
theorem rot_split {c : BL} {t : Nat} (ht : t ≤ c.length) : c.drop t ++ c.take t = rot c (t : Int) := by
  refine List.ext_getElem (by rw [rot_len]; simp; omega) fun k k1 k2 => ?_
  rw [rot_len] at k2
  simp only [rot, List.getElem_map, List.getElem_range]
  unfold cv
  rw [List.getElem_append]
  split
  · rename_i h
    rw [List.length_drop] at h
    rw [show (((k : Int) + (t : Int)) % (c.length : Int)).toNat = t + k by rw [Int.emod_eq_of_lt (by omega) (by omega)]; omega, List.getD_eq_getElem?_getD, List.getElem?_eq_getElem (by omega), List.getElem_drop]
    rfl
  · rename_i h
    rw [List.length_drop] at h
    have e : ((k : Int) + (t : Int)) % (c.length : Int) = ((k + t - c.length : Nat) : Int) := by
      rw [show (k : Int) + (t : Int) = ((k + t - c.length : Nat) : Int) + (c.length : Int) * 1 by omega, Int.add_mul_emod_self_left, Int.emod_eq_of_lt (by omega) (by omega)]
    rw [e, Int.toNat_natCast, List.getD_eq_getElem?_getD, List.getElem?_eq_getElem (by omega), List.getElem_take]
    simp only [List.length_drop, Option.getD_some]
    congr 1
    omega
theorem rot_turn {c : BL} (hc : c ≠ []) (m : Nat) : rot c ((c.length - m % c.length : Nat) : Int) = rot c (-(m : Int)) := by
  unfold rot
  refine List.map_congr_left fun k _ => cv_mod ?_
  have hp := len_pos hc
  have hm := Nat.mod_lt m hp
  have hd := Nat.div_add_mod m c.length
  have e : (k : Int) + ((c.length - m % c.length : Nat) : Int) = ((k : Int) + (-(m : Int))) + (c.length : Int) * (1 + ((m / c.length : Nat) : Int)) := by
    have : (m : Int) = (c.length : Int) * ((m / c.length : Nat) : Int) + ((m % c.length : Nat) : Int) := by
      rw [← Int.natCast_mul, ← Int.natCast_add, hd]
    rw [Int.mul_add, Int.mul_one]
    omega
  rw [e, Int.add_mul_emod_self_left]
section
variable {P : Program} {w : World} {K : PySem.W.Frag} {mg : Str → Option Value} {base : Heap}
/-! ### shortest_cycle -/
abbrev sSc : Stmt := top 5
abbrev nSc : List Str := ["cycle", "size", "factor", "shorter"]
theorem scSc : FnScope nSc ["cycle"] (defScope sSc) := ⟨rfl, rfl, rfl, by decide +kernel, rfl, by decide +kernel, by decide +kernel⟩
def spSc (K : PySem.W.Frag) : Sp := fun vs H Q _ => ∃ (v : V) (c : BL), vs = [v] ∧ TA K H v c ∧ c ≠ [] ∧ c.length < 1000 ∧ ∀ v' H', Same H H' → TA K H' v' (sc c) → Q v' H'
theorem scF_drop {c : BL} {fs : List Nat} {i f s : Nat} (h : fs[i]? = some f) : scF c (fs.drop i) s = scF c (fs.drop (i + 1)) (if (c.drop (s / f)).take (s - s / f) = c.take (s - s / f) then s / f else s) := by
  have e : fs.drop i = f :: fs.drop (i + 1) := by
    obtain ⟨h1, h2⟩ := List.getElem?_eq_some_iff.mp h
    rw [List.drop_eq_getElem_cons h1, h2]
  rw [e]
  rfl
theorem ok_sc {f fP : Addr} {fd fdP : FuncData} (F : Fun K "shortest_cycle" "shortest_cycle" sSc f fd)
    (GP : FnOk P w K mg base CX0 1 fP fdP ["number"] spPf) (bP : Binds K fdP ["number"] []) (kP : PySem.W.keepIn K (.ref fP) = true) (mP : mg "prime_factors" = some (.ref fP)) (ml : mg "len" = none) :
    FnOk P w K mg base CX0 2 f fd ["cycle"] (spSc K) := by
  refine F.ok scSc (fun vs H Q E h => ?_) (fun cdv A outer s H vs Q E hr h => ?_)
  · obtain ⟨v, c, rfl, _⟩ := h
    rfl
  obtain ⟨v, c, rfl, ⟨p, rfl, hp⟩, hc, h1k, q⟩ := h
  have nd := scSc.nd
  refine ⟨_, pss_cons (ps_set (i := 1) nd rfl (.inl rfl) (pe_callB call_len_seq (by rfl) ml PySem.boot_len (pa_cons (pv 0) pa_nil)))
    (pss_cons (ps_for PassesOwn.never rfl (pi_list (pe_call GP hr rfl mP kP bP .nil pass0 (pa_cons (pv 1) pa_nil))) (pg_name (i := 2) nd rfl (.inl rfl))
      (pss_cons (ps_set (i := 3) nd rfl (.inl rfl) (pe_op op_fdiv (pv 1) (pv 2)))
      (pss_one (ps_if (pt_cmpR (op_eqD hr.units) (pe_slice Tn.sl (pv 0) (po_some (pv 3)) (po_some (pv 1))) (pe_slice Tn.sl (pv 0) po_none (po_some (pe_op op_sub (pv 1) (pv 3)))) (nomark _))
        (pss_one (ps_set (i := 1) nd rfl (.inl rfl) (pv 3))) pss_nil))))
    (pss_one (ps_ret (pe_slice Tn.sl (pv 0) po_none (po_some (pv 1)))))), ?_⟩
  have hpos := len_pos hc
  refine ⟨_, rfl, p, _, rfl, .inr hp.1, ?_⟩
  rw [List.length_map]
  refine ⟨_, rfl, c.length, rfl, by omega, by omega, fun l H1 s1 hl => ⟨l, rfl, ⟨_, SqL.of hl⟩, ?_⟩⟩
  refine for_list (xs := (pf c.length).map nV) (fun i σ H' => ∃ (z : Nat) (o2 o3 : Option V), σ = [some (.ref p), some (nV z), o2, o3] ∧ Same H1 H' ∧ z ≤ c.length ∧ scF c ((pf c.length).drop i) z = scF c (pf c.length) c.length) ⟨c.length, _, _, rfl, Same.refl _, Nat.le_refl _, rfl⟩ (fun i σ H' _ ⟨_, _, _, _, s', _⟩ => SqL.of (s' _ _ hl)) ?_ ?_
  · rintro i x σ H' hx ⟨z, o2, o3, rfl, s', hz, hsc⟩
    rw [List.getElem?_map] at hx
    obtain ⟨g, hg, rfl⟩ := Option.map_eq_some_iff.mp hx
    have g2 := pf_pos hpos (List.mem_of_getElem? hg)
    rw [scF_drop hg] at hsc
    have hp1 : Tn.NT K H1 p (c.map V.bl) := Tn.same s1 hp
    have hd : (fun i j : Int => V.int (i / j)) (z : Int) (g : Int) = V.int ((z / g : Nat) : Int) := by
      show V.int ((z : Int) / (g : Int)) = _
      rw [← Int.natCast_ediv]
    have hdz : z / g ≤ z := Nat.div_le_self z g
    generalize z / g = t at hd hdz hsc
    refine ⟨_, rfl, _, rfl, _, _, rfl, rfl, ⟨by omega, by omega⟩, ?_⟩
    rw [hd]
    refine ⟨_, rfl, _, rfl, _, rfl, _, rfl, _, rfl, p, _, rfl, Tn.same s' hp1, fun p1 H2 s2 ht1 => ?_⟩
    rw [cut_mid (by omega) hz] at ht1
    refine ⟨_, rfl, _, rfl, _, rfl, _, _, rfl, rfl, _, rfl, p, _, rfl, Tn.same (s'.trans s2) hp1, fun p2 H3 s3 ht2 => ?_⟩
    rw [show ((z : Nat) : Int) - ((t : Nat) : Int) = ((z - t : Nat) : Int) by omega, cut_to (by omega)] at ht2
    refine ⟨_, _, TA.dp ⟨p1, rfl, Tn.same s3 ht1⟩, TA.dp ⟨p2, rfl, ht2⟩, shp _, shp _, ?_⟩
    rw [eqv_bs]
    refine ⟨_, rfl, ?_⟩
    refine ite2 (fun e => ?_) (fun e => ?_)
    · rw [if_pos (of_decide_eq_true e)] at hsc
      exact ⟨_, rfl, t, _, _, rfl, (s'.trans s2).trans s3, by omega, hsc⟩
    · rw [if_neg (of_decide_eq_false (Bool.eq_false_iff.mpr e))] at hsc
      exact ⟨z, _, _, rfl, (s'.trans s2).trans s3, hz, hsc⟩
  · rintro σ H' ⟨z, o2, o3, rfl, s', hz, hsc⟩
    rw [List.length_map, List.drop_length] at hsc
    have hz2 : scF c (pf c.length) c.length = z := hsc.symm
    refine ⟨_, rfl, _, rfl, _, rfl, p, _, rfl, Tn.same (s1.trans s') hp, fun p1 H2 s2 ht1 => ?_⟩
    rw [cut_to hz] at ht1
    refine q (.ref p1) H2 ((s1.trans s').trans s2) ⟨p1, rfl, ?_⟩
    unfold sc
    rw [hz2]
    exact ht1
end
end Mw

namespace Mw
open PySem L2
section
variable {P : Program} {w : World} {K : PySem.W.Frag} {mg : Str → Option Value} {base : Heap}
/-! ### turned_back -/
abbrev sTb : Stmt := top 6
abbrev nTb : List Str := ["head", "cycle", "many", "turn"]
theorem scTb : FnScope nTb ["head", "cycle", "many"] (defScope sTb) := ⟨rfl, rfl, rfl, by decide +kernel, rfl, by decide +kernel, by decide +kernel⟩
def spTb (K : PySem.W.Frag) : Sp := fun vs H Q _ => ∃ (v1 v2 : V) (h c : BL) (m : Nat), vs = [v1, v2, nV m] ∧ TA K H v1 h ∧ TA K H v2 c ∧ c ≠ [] ∧ c.length < 100000 ∧ h.length < 100000 ∧ m ≤ h.length ∧ ∀ v' H', Same H H' → PA K H' v' (h.take (h.length - m), rot c (-(m : Int))) → Q v' H'
theorem ok_tb {f : Addr} {fd : FuncData} (F : Fun K "turned_back" "turned_back" sTb f fd) (ml : mg "len" = none) : FnOk P w K mg base CX0 1 f fd ["head", "cycle", "many"] (spTb K) := by
  refine F.ok scTb (fun vs H Q E h => ?_) (fun cdv A outer s H vs Q E hr h => ?_)
  · obtain ⟨v1, v2, h, c, m, rfl, _⟩ := h
    rfl
  obtain ⟨v1, v2, h, c, m, rfl, ⟨p, rfl, hp⟩, ⟨r, rfl, hr1⟩, hc, hl1, hl2, hm, q⟩ := h
  have nd := scTb.nd
  refine ⟨_, pss_cons (ps_set (i := 3) nd rfl (.inl rfl) (pe_op op_sub (pe_callB call_len_seq (by rfl) ml PySem.boot_len (pa_cons (pv 1) pa_nil)) (pe_op op_mod (pv 2) (pe_callB call_len_seq (by rfl) ml PySem.boot_len (pa_cons (pv 1) pa_nil)))))
    (pss_one (ps_ret (pe_tup (pa_cons (pe_slice Tn.sl (pv 0) po_none (po_some (pe_op op_sub (pe_callB call_len_seq (by rfl) ml PySem.boot_len (pa_cons (pv 0) pa_nil)) (pv 2))))
      (pa_cons (pe_op Tn.cat (pe_slice Tn.sl (pv 1) (po_some (pv 3)) po_none) (pe_slice Tn.sl (pv 1) po_none (po_some (pv 3)))) pa_nil))))), ?_⟩
  have hpos := len_pos hc
  have hmm := Nat.mod_lt m hpos
  refine ⟨_, rfl, r, _, rfl, .inr hr1.1, ?_⟩
  rw [List.length_map]
  refine ⟨_, rfl, _, rfl, r, _, rfl, .inr hr1.1, ?_⟩
  rw [List.length_map]
  refine ⟨_, _, rfl, rfl, by show (0 : Int) < (c.length : Int); omega, _, _, rfl, rfl, ?_⟩
  have e1 : (fun i j : Int => V.int (i - j)) (c.length : Int) ((m : Int) % (c.length : Int)) = V.int ((c.length - m % c.length : Nat) : Int) := by
    show V.int ((c.length : Int) - (m : Int) % (c.length : Int)) = _
    rw [← Int.natCast_emod]
    congr 1
    omega
  rw [e1]
  have ht : c.length - m % c.length ≤ c.length := by omega
  have hrt := rot_split (c := c) ht
  rw [rot_turn hc] at hrt
  generalize c.length - m % c.length = t at ht hrt
  refine ⟨_, rfl, _, rfl, p, _, rfl, .inr hp.1, ?_⟩
  rw [List.length_map]
  refine ⟨_, rfl, _, _, rfl, rfl, _, rfl, p, _, rfl, hp, fun p1 H1 s1 t1 => ?_⟩
  rw [show ((h.length : Nat) : Int) - ((m : Nat) : Int) = ((h.length - m : Nat) : Int) by omega, cut_to (by omega)] at t1
  refine ⟨_, rfl, _, rfl, _, rfl, r, _, rfl, Tn.same s1 hr1, fun p2 H2 s2 t2 => ?_⟩
  rw [cut_from ht] at t2
  refine ⟨_, rfl, _, rfl, _, rfl, r, _, rfl, Tn.same (s1.trans s2) hr1, fun p3 H3 s3 t3 => ?_⟩
  rw [cut_to ht] at t3
  refine ⟨p2, p3, _, _, rfl, rfl, Tn.same s3 t2, t3, le_line (by rw [List.length_map, List.length_map, List.length_drop, List.length_take]; omega), fun p4 H4 s4 t4 => ?_⟩
  rw [← List.map_append, hrt] at t4
  refine ⟨by show 2 ≤ sizeLine; decide, fun u hu => ?_⟩
  have s5 : Same H4 (upd H4 u (.tup [.ref p1, .ref p4])) := same_new hu _
  exact q (.ref u) _ ((((s1.trans s2).trans s3).trans s4).trans s5) ⟨u, .ref p1, .ref p4, rfl, SqT.of upd_same, ⟨p1, rfl, Tn.same (((s2.trans s3).trans s4).trans s5) t1⟩, ⟨p4, rfl, Tn.same s5 t4⟩⟩
/-! ### settled -/
abbrev sSe : Stmt := top 7
abbrev nSe : List Str := ["head", "cycle", "many"]
theorem scSe : FnScope nSe ["head", "cycle"] (defScope sSe) := ⟨rfl, rfl, rfl, by decide +kernel, rfl, by decide +kernel, by decide +kernel⟩
def spSe (K : PySem.W.Frag) : Sp := fun vs H Q _ => ∃ (a b : Addr) (h c : BL), vs = [.ref a, .ref b] ∧ (SqL K H a (h.map V.bl) ∨ Tn.NT K H a (h.map V.bl)) ∧ (SqL K H b (c.map V.bl) ∨ Tn.NT K H b (c.map V.bl)) ∧ c ≠ [] ∧ c.length < 1000 ∧ sc c ≠ [] ∧ h.length < 100000 ∧
  ∀ v' H', Same H H' → PA K H' v' (stl h c) → Q v' H'
theorem seq_same {H H' : Hp} {a : Addr} {xs : List V} (s : Same H H') (h : SqL K H a xs ∨ Tn.NT K H a xs) : SqL K H' a xs ∨ Tn.NT K H' a xs := h.elim (fun h => .inl (s.seq h)) fun h => .inr (Tn.same s h)
theorem ok_se {f fS fT : Addr} {fd fdS fdT : FuncData} (F : Fun K "settled" "settled" sSe f fd)
    (GS : FnOk P w K mg base CX0 2 fS fdS ["cycle"] (spSc K)) (bS : Binds K fdS ["cycle"] []) (kS : PySem.W.keepIn K (.ref fS) = true) (mS : mg "shortest_cycle" = some (.ref fS))
    (GT : FnOk P w K mg base CX0 1 fT fdT ["head", "cycle", "many"] (spTb K)) (bT : Binds K fdT ["head", "cycle", "many"] []) (kT : PySem.W.keepIn K (.ref fT) = true) (mT : mg "turned_back" = some (.ref fT))
    (ml : mg "len" = none) (mt : mg "tuple" = none) : FnOk P w K mg base CX0 3 f fd ["head", "cycle"] (spSe K) := by
  refine F.ok scSe (fun vs H Q E h => ?_) (fun cdv A outer s H vs Q E hr h => ?_)
  · obtain ⟨a, b, h, c, rfl, _⟩ := h
    rfl
  obtain ⟨a, b, h, c, rfl, ha, hb, hc, h1k, hsc, hl, q⟩ := h
  have nd := scSe.nd
  refine ⟨_, pss_cons (ps_set (i := 0) nd rfl (.inl rfl) (pe_callTy Tn.tup (by rfl) mt (by decide +kernel) (pa_cons (pv 0) pa_nil)))
    (pss_cons (ps_set (i := 1) nd rfl (.inl rfl) (pe_call GS hr rfl mS kS bS .nil pass0 (pa_cons (pe_callTy Tn.tup (by rfl) mt (by decide +kernel) (pa_cons (pv 1) pa_nil)) pa_nil)))
    (pss_cons (ps_set (i := 2) nd rfl (.inl rfl) pe_int)
    (pss_cons (ps_while PassesOwn.never (PW.pt (pw_and (pt_cmpR op_lt (pv 2) (pe_callB call_len_seq (by rfl) ml PySem.boot_len (pa_cons (pv 0) pa_nil)) (nomark _))
        (pw_and1 (pt_cmpR op_eq (pe_ix ix_tup (pv 0) (pe_op op_sub (pe_un un_neg pe_int) (pv 2)) (fun _ _ => rfl))
          (pe_ix ix_tup (pv 1) (pe_op op_sub (pe_un un_neg pe_int) (pe_op op_mod (pv 2) (pe_callB call_len_seq (by rfl) ml PySem.boot_len (pa_cons (pv 1) pa_nil)))) (fun _ _ => rfl)) (nomark _)))))
      (pss_one (ps_aug (i := 2) nd rfl (.inl rfl) pe_int ip_add)))
    (pss_one (ps_ret (pe_call GT (hr.mono (by decide)) rfl mT kT bT .nil pass0 (pa_cons (pv 0) (pa_cons (pv 1) (pa_cons (pv 2) pa_nil))))))))), ?_⟩
  refine ⟨_, rfl, a, _, rfl, ha, fun p H1 s1 hp => ?_⟩
  refine ⟨_, rfl, b, _, rfl, seq_same s1 hb, fun p2 H2 s2 hp2 => ?_⟩
  refine ⟨.ref p2, c, rfl, ⟨p2, rfl, hp2⟩, hc, h1k, fun v3 H3 s3 ⟨r, er, hr3⟩ => ?_⟩
  subst er
  have s13 := s2.trans s3
  have hp3 := Tn.same s13 hp
  have hpos := len_pos hsc
  have hml := mn_le h (sc c)
  refine ⟨fun m σ H' => ∃ j, j ≤ h.length ∧ m = h.length - j ∧ σ = [some (.ref p), some (.ref r), some (nV j)] ∧ H' = H3 ∧ mn h (sc c) = j + mny (sc c) (h.reverse.drop j) j, ⟨h.length, 0, by omega, rfl, rfl, rfl, by unfold mn; simp⟩, ?_⟩
  rintro m σ H' ⟨j, hj, rfl, rfl, rfl, hmn⟩
  refine ⟨_, rfl, _, rfl, p, _, rfl, .inr hp3.1, ?_⟩
  rw [List.length_map]
  refine ⟨_, _, rfl, rfl, _, rfl, ?_⟩
  have fin : mn h (sc c) = j → tRet (tCall (spTb K) [] E0 (tCons (tVar 0) (tCons (tVar 1) (tCons (tVar 2) tNil)))) { nx := fun _ H' => Q V.non H', rt := Q } [some (.ref p), some (.ref r), some (nV j)] H' := fun e => by
    refine ⟨_, rfl, _, rfl, _, rfl, .ref p, .ref r, h, sc c, j, rfl, ⟨p, rfl, hp3⟩, ⟨r, rfl, hr3⟩, hsc, ?_, hl, hj, fun v4 H4 s4 h4 => ?_⟩
    · have : (sc c).length ≤ c.length := by
        unfold sc
        rw [List.length_take]
        omega
      omega
    · rw [← e] at h4
      exact q v4 H4 ((s1.trans s13).trans s4) h4
  by_cases hlt : j < h.length
  · rw [show decide ((j : Int) < (h.length : Int)) = true from decide_eq_true (by omega)]
    have ed : h.reverse.drop j = h.getD (h.length - 1 - j) false :: h.reverse.drop (j + 1) := by
      rw [List.drop_eq_getElem_cons (by rw [List.length_reverse]; exact hlt)]
      congr 1
      rw [← getD_rev hlt, List.getD_eq_getElem?_getD, List.getElem?_eq_getElem (by rw [List.length_reverse]; exact hlt)]
      rfl
    rw [ed] at hmn
    have hmn' : mn h (sc c) = j + (if h.getD (h.length - 1 - j) false = cv (sc c) (-1 - (j : Int)) then mny (sc c) (h.reverse.drop (j + 1)) (j + 1) + 1 else 0) := hmn
    refine ⟨_, rfl, 1, rfl, _, rfl, _, _, rfl, rfl, p, _, _, _, rfl, rfl, hp3.1, at_back hlt, ?_⟩
    refine ⟨_, rfl, 1, rfl, _, rfl, _, rfl, r, _, rfl, .inr hr3.1, ?_⟩
    rw [List.length_map]
    refine ⟨_, _, rfl, rfl, by show (0 : Int) < ((sc c).length : Int); omega, _, _, rfl, rfl, ?_⟩
    have hmm := Nat.mod_lt j hpos
    refine ⟨r, _, -1 - ((j % (sc c).length : Nat) : Int), _, rfl, ?_, hr3.1, at_back hmm, rfl, _, rfl, ?_⟩
    · rw [Int.natCast_emod]
    rw [← cv_back hsc j, dec_bl]
    by_cases e : h.getD (h.length - 1 - j) false = cv (sc c) (-1 - (j : Int))
    · rw [if_pos e] at hmn'
      rw [show (h.getD (h.length - 1 - j) false == cv (sc c) (-1 - (j : Int))) = true by rw [e]; simp]
      refine ⟨fun σ H2 => σ = [some (.ref p), some (.ref r), some (nV (j + 1))] ∧ H2 = H', fun σ' H2 ⟨e1, e2⟩ => ⟨h.length - (j + 1), by omega, j + 1, by omega, rfl, e1, e2, by omega⟩, ?_⟩
      refine ⟨_, rfl, _, _, rfl, rfl, ?_, rfl⟩
      show _ = [_, _, some (V.int ((j + 1 : Nat) : Int))]
      rw [show ((j + 1 : Nat) : Int) = (j : Int) + 1 by omega]
      rfl
    · rw [if_neg e] at hmn'
      rw [show (h.getD (h.length - 1 - j) false == cv (sc c) (-1 - (j : Int))) = false by simpa using e]
      exact fin hmn'
  · rw [show decide ((j : Int) < (h.length : Int)) = false from decide_eq_false (by omega)]
    refine fin ?_
    have : j = h.length := by omega
    rw [this, List.drop_of_length_le (by simp)] at hmn
    rw [this]
    exact hmn
end
end Mw

namespace Mw
open PySem L2
theorem SqT.go {K : PySem.W.Frag} {B p : Addr} {H H' : Hp} {bs xs : List V} (hB : H B = some (.lst bs)) (g : Go B H H') (h : SqT K H p xs) : SqT K H' p xs := by
  rcases h with (h | ⟨o, h⟩) | h
  · exact Or.inl (Or.inl (g.ext _ _ (by rintro rfl; rw [hB] at h; cases h) h))
  · exact Or.inl (Or.inr ⟨o, g.ext _ _ (by rintro rfl; rw [hB] at h; cases h) h⟩)
  · exact Or.inr h
theorem TA.go {K : PySem.W.Frag} {B d : Addr} {H H' : Hp} {v : V} {bs : BL} (b : Box H B d) (g : Go B H H') (h : TA K H v bs) : TA K H' v bs := by
  obtain ⟨p, e, h1⟩ := h
  obtain ⟨ds, i, hB, _⟩ := b
  exact ⟨p, e, ⟨SqT.go hB g h1.1, h1.2.elim (fun ⟨ob, e1, e2⟩ => .inl ⟨ob, g.ext _ _ (by rintro rfl; rw [hB] at e1; cases e1) e1, e2⟩) .inr⟩⟩
theorem PA.go {K : PySem.W.Frag} {B d : Addr} {H H' : Hp} {v : V} {x : BL × BL} (b : Box H B d) (g : Go B H H') (h : PA K H v x) : PA K H' v x := by
  obtain ⟨p, a1, a2, e, h1, h2, h3⟩ := h
  obtain ⟨ds, i, hB, _⟩ := id b
  exact ⟨p, a1, a2, e, SqT.go hB g h1, h2.go b g, h3.go b g⟩
section
variable {P : Program} {w : World} {K : PySem.W.Frag} {mg : Str → Option Value} {base : Heap}
/-! ### contains, _law_in -/
abbrev sCn : Stmt := top 9
abbrev nCn : List Str := ["one", "number", "head", "cycle"]
theorem scCn : FnScope nCn ["one", "number"] (defScope sCn) := ⟨rfl, rfl, rfl, by decide +kernel, rfl, by decide +kernel, by decide +kernel⟩
def spCn (K : PySem.W.Frag) : Sp := fun vs H Q _ => ∃ (v : V) (h c : BL) (n : Nat), vs = [v, nV n] ∧ PA K H v (h, c) ∧ c ≠ [] ∧ h.length < 100000 ∧ c.length < 100000 ∧ Q (.bl (sq h c n)) H
theorem at_cv {c : BL} (hc : c ≠ []) (i : Int) : atI (c.map V.bl) (i % (c.length : Int)) = some (.bl (cv c i)) := by
  have hp := len_pos hc
  have h0 : 0 ≤ i % (c.length : Int) := Int.emod_nonneg _ (by omega)
  have h1 : i % (c.length : Int) < c.length := Int.emod_lt_of_pos _ (by omega)
  have := at_bl (bs := c) (k := (i % (c.length : Int)).toNat) (by omega)
  rw [Int.toNat_of_nonneg h0] at this
  exact this
theorem ok_cn {f : Addr} {fd : FuncData} (F : Fun K "contains" "contains" sCn f fd) (ml : mg "len" = none) : FnOk P w K mg base CX0 1 f fd ["one", "number"] (spCn K) := by
  refine F.ok scCn (fun vs H Q E h => ?_) (fun cdv A outer s H vs Q E hr h => ?_)
  · obtain ⟨v, h, c, n, rfl, _⟩ := h
    rfl
  obtain ⟨v, h, c, n, rfl, ⟨u, a1, a2, rfl, hu, ⟨p, ep, hp⟩, ⟨r, er, hr1⟩⟩, hc, hl1, hl2, q⟩ := h
  subst ep er
  have nd := scCn.nd
  refine ⟨_, pss_cons (ps_asg (pv 0) (pg_tup rfl (pgs_cons (pg_name (i := 2) nd rfl (.inl rfl)) (pgs_cons (pg_name (i := 3) nd rfl (.inl rfl)) pgs_nil))))
    (pss_cons (ps_if (pt_cmpR op_lt (pv 1) pe_int (nomark _)) (pss_one (ps_ret pe_bl)) pss_nil)
    (pss_cons (ps_if (pt_cmpR op_lt (pv 1) (pe_callB call_len_seq (by rfl) ml PySem.boot_len (pa_cons (pv 2) pa_nil)) (nomark _)) (pss_one (ps_ret (pe_ix ix_tup (pv 2) (pv 1) (fun _ _ => rfl)))) pss_nil)
    (pss_one (ps_ret (pe_ix ix_tup (pv 3) (pe_op op_mod (pe_op op_sub (pv 1) (pe_callB call_len_seq (by rfl) ml PySem.boot_len (pa_cons (pv 2) pa_nil))) (pe_callB call_len_seq (by rfl) ml PySem.boot_len (pa_cons (pv 3) pa_nil))) (fun _ _ => rfl)))))), ?_⟩
  refine ⟨_, rfl, u, _, rfl, hu, rfl, .ref p, _, rfl, .ref r, [], rfl, rfl, ?_⟩
  refine ⟨_, rfl, _, _, rfl, rfl, _, rfl, ?_⟩
  rw [show decide ((n : Int) < 0) = false from decide_eq_false (by omega)]
  refine ⟨_, rfl, _, rfl, p, _, rfl, .inr hp.1, ?_⟩
  rw [List.length_map]
  refine ⟨_, _, rfl, rfl, _, rfl, ?_⟩
  have hpos := len_pos hc
  by_cases hn : n < h.length
  · rw [show decide ((n : Int) < (h.length : Int)) = true from decide_eq_true (by omega)]
    rw [sq_lo hn] at q
    exact ⟨_, rfl, _, rfl, p, _, _, _, rfl, rfl, hp.1, at_bl hn, q⟩
  · rw [show decide ((n : Int) < (h.length : Int)) = false from decide_eq_false (by omega)]
    rw [sq_hi (by omega)] at q
    refine ⟨_, rfl, _, rfl, _, rfl, p, _, rfl, .inr hp.1, ?_⟩
    rw [List.length_map]
    refine ⟨_, _, rfl, rfl, _, rfl, r, _, rfl, .inr hr1.1, ?_⟩
    rw [List.length_map]
    exact ⟨_, _, rfl, rfl, by show (0 : Int) < (c.length : Int); omega, r, _, _, _, rfl, rfl, hr1.1, at_cv hc _, q⟩
end
end Mw

namespace Mw
open PySem L2
def rLn (K : PySem.W.Frag) : List V → Hp → VK → Prop := fun xs H Q => ∃ p ys, xs = [.ref p] ∧ (SqL K H p ys ∨ SqT K H p ys) ∧ Q (.int ys.length) H
def tAdd (ta tb : TE) : TE := tOp (rI0 fun i j => V.int (i + j)) ta tb
theorem take_row {h c : BL} {s : Nat} (hs : s ≤ h.length) : ((List.range s).map fun (k : Nat) => sq h c k) = h.take s := by
  refine List.ext_getElem (by simp; omega) fun k k1 k2 => ?_
  have k3 : k < s := by simpa using k1
  simp only [List.getElem_map, List.getElem_range, List.getElem_take]
  rw [sq_lo (by omega), List.getD_eq_getElem?_getD, List.getElem?_eq_getElem (by omega)]
  rfl
theorem row_cv {h c : BL} (n : Nat) : ((List.range n).map fun (k : Nat) => sq h c (h.length + k)) = (List.range n).map fun (k : Nat) => cv c (k : Int) :=
  List.map_congr_left fun k _ => by
    rw [sq_hi (by omega)]
    congr 1
    omega
theorem range_snoc (n : Nat) (g : Nat → V) : (List.range (n + 1)).map g = (List.range n).map g ++ [g n] := by
  rw [List.range_succ, List.map_append]
  rfl
section
variable {P : Program} {w : World} {K : PySem.W.Frag} {mg : Str → Option Value} {base : Heap}
/-! ### _law_row -/
/-! ### _law_far -/
abbrev sFar : Stmt := top 32
theorem scFar : FnScope ["box"] ["box"] (defScope sFar) := ⟨rfl, rfl, rfl, by decide +kernel, rfl, by decide +kernel, by decide +kernel⟩
def spFar : Sp := fun vs H Q _ => ∃ (B d : Addr), vs = [.ref B] ∧ Box H B d ∧ ∀ (z : Nat) H', Go B H H' → Box H' B d → Q (nV z) H'
theorem ok_far {f fD : Addr} {fd fdD : FuncData} (F : Fun K "_law_far" "_law_far" sFar f fd)
    (GD : FnOk P w K mg base CX0 1 fD fdD ["box", "many"] spDraw) (bD : Binds K fdD ["box", "many"] []) (kD : PySem.W.keepIn K (.ref fD) = true) (mD : mg "_law_draw" = some (.ref fD)) :
    FnOk P w K mg base CX0 2 f fd ["box"] spFar := by
  refine F.ok scFar (fun vs H Q E h => ?_) (fun cdv A outer s H vs Q E hr h => ?_)
  · obtain ⟨B, d, rfl, _⟩ := h
    rfl
  obtain ⟨B, d, rfl, hb, q⟩ := h
  refine ⟨_, pss_one (ps_ret (pe_ix ix_list (pe_lst (pa_cons (pe_call GD hr rfl mD kD bD .nil pass0 (pa_cons (pv 0) (pa_cons pe_int pa_nil)))
    (pa_cons (pe_call GD hr rfl mD kD bD .nil pass0 (pa_cons (pv 0) (pa_cons pe_int pa_nil)))
    (pa_cons (pe_op op_add (pe_op op_mul (pe_call GD hr rfl mD kD bD .nil pass0 (pa_cons (pv 0) (pa_cons pe_int pa_nil))) pe_int) (pe_call GD hr rfl mD kD bD .nil pass0 (pa_cons (pv 0) (pa_cons pe_int pa_nil)))) pa_nil))))
    (pe_call GD hr rfl mD kD bD .nil pass0 (pa_cons (pv 0) (pa_cons pe_int pa_nil))) (fun _ _ => rfl))), ?_⟩
  refine ⟨_, rfl, B, d, 40, rfl, by decide, hb, fun a H1 a0 a1 g1 b1 => ?_⟩
  refine ⟨_, rfl, B, d, 1000, rfl, by decide, b1, fun b H2 b0 b1' g2 b2 => ?_⟩
  refine ⟨_, rfl, B, d, 1000, rfl, by decide, b2, fun c H3 c0 c1 g3 b3 => ?_⟩
  refine ⟨_, _, rfl, rfl, .inr (by decide), ?_⟩
  refine ⟨_, rfl, B, d, 1000, rfl, by decide, b3, fun e H4 e0 e1 g4 b4 => ?_⟩
  refine ⟨_, _, rfl, rfl, ?_⟩
  refine ⟨by show 3 ≤ sizeLine; decide, fun l hl => ?_⟩
  have nB := b4.neB hl
  refine ⟨_, rfl, B, d, 3, rfl, by decide, b4.new hl _, fun z H5 z0 z1 g5 b5 => ?_⟩
  obtain ⟨x, hx, hat⟩ := pick (l := ([a, b, c * 1000000007 + e] : List Int)) (g := V.int) (z := z) z0 (by show z < ((3 : Nat) : Int); omega)
  refine ⟨l, _, z, .int x, rfl, rfl, SqL.of (g5.ext _ _ nB upd_same), hat, ?_⟩
  have h3 : 0 ≤ c * 1000000007 + e := by omega
  have hx0 : 0 ≤ x := by
    simp only [List.mem_cons, List.not_mem_nil, or_false] at hx
    rcases hx with rfl | rfl | rfl
    · exact a0
    · exact b0
    · exact h3
  have := q x.toNat H5 (((((g1.trans g2).trans g3).trans g4).trans (Go.new hl _)).trans g5) b5
  unfold nV at this
  rw [Int.toNat_of_nonneg hx0] at this
  exact this
end
end Mw

namespace Mw
open PySem L2
theorem fr_get {c : BL} (hc : c ≠ []) : ∀ (k j : Nat), j < k * c.length → (List.replicate k c).flatten.getD j false = c.getD (j % c.length) false
  | 0, j, h => by omega
  | k + 1, j, h => by
    have hp := len_pos hc
    rw [List.replicate_succ, List.flatten_cons]
    by_cases z : j < c.length
    · rw [List.getD_eq_getElem?_getD, List.getElem?_append_left z, Nat.mod_eq_of_lt z, List.getD_eq_getElem?_getD]
    · have h2 : j - c.length < k * c.length := by
        rw [Nat.add_mul] at h
        omega
      rw [List.getD_eq_getElem?_getD, List.getElem?_append_right (by omega), ← List.getD_eq_getElem?_getD, fr_get hc k _ h2]
      congr 1
      rw [← Nat.mod_eq_sub_mod (by omega)]
theorem fr_len (c : BL) : ∀ k : Nat, (List.replicate k c).flatten.length = k * c.length
  | 0 => by simp
  | k + 1 => by rw [List.replicate_succ, List.flatten_cons, List.length_append, fr_len c k, Nat.add_mul]; omega
theorem str_of {h c : BL} (hc : c ≠ []) {m : Nat} : h ++ ((List.replicate (m / c.length + 1) c).flatten.take m) = str h c (h.length + m) := by
  have hp := len_pos hc
  have hm : m < (m / c.length + 1) * c.length := by
    have := Nat.div_add_mod m c.length
    have := Nat.mod_lt m hp
    rw [Nat.add_mul, Nat.one_mul, Nat.mul_comm]
    omega
  have hl : ((List.replicate (m / c.length + 1) c).flatten.take m).length = m := by
    rw [List.length_take, fr_len]
    omega
  refine List.ext_getElem (by rw [List.length_append, hl, str_len]) fun k k1 k2 => ?_
  rw [str_len] at k2
  simp only [str, List.getElem_map, List.getElem_range]
  by_cases z : k < h.length
  · rw [List.getElem_append_left z, sq_lo z, List.getD_eq_getElem?_getD, List.getElem?_eq_getElem z]
    rfl
  · have e : (h ++ (List.replicate (m / c.length + 1) c).flatten.take m).getD k false = cv c ((k : Int) - (h.length : Int)) := by
      rw [List.getD_eq_getElem?_getD, List.getElem?_append_right (by omega), List.getElem?_take_of_lt (by omega), ← List.getD_eq_getElem?_getD, fr_get hc _ _ (by omega)]
      unfold cv
      rw [show (k : Int) - (h.length : Int) = ((k - h.length : Nat) : Int) by omega, ← Int.natCast_emod, Int.toNat_natCast]
    rw [sq_hi (by omega), ← e, List.getD_eq_getElem?_getD, List.getElem?_eq_getElem k1]
    rfl
theorem lc_zipT {K : PySem.W.Frag} {a b : Addr} {xs ys : List V} {g : TG} {tt : TT} {te : TE} {vs : List Nat} {σ : L2.St} {H1 : Hp} {D : Addr} {Qd : Hp → Prop} (Pv : Nat → Hp → Prop) (hn : xs.length = ys.length) (h0 : Pv 0 (upd H1 D (.lst []))) (hl : ∀ i H, Pv i H → SqT K H a xs ∧ SqT K H b ys)
    (hs : ∀ i x y T H, xs[i]? = some x → ys[i]? = some y → H T = none → Pv i H → g (.ref T) (wipe σ vs) (upd H T (.tup [x, y])) fun σ2 H2 => wipe σ2 vs = wipe σ vs ∧ tt σ2 H2 fun b H3 =>
      if b = true then te σ2 H3 fun y H4 => ∃ acc, H4 D = some (.lst acc) ∧ acc.length < sizeLine ∧ Pv (i + 1) (upd H4 D (.lst (acc ++ [y]))) else Pv (i + 1) H3) (hd : ∀ H, Pv xs.length H → Qd H) :
    ∃ W : Nat → Nat → Hp → Prop, (∃ m, W 0 m (upd H1 D (.lst []))) ∧ ∀ i m H, W i m H →
      ((RZ.ItzT K a b).stop i H ∧ Qd H) ∨ ((RZ.ItzT K a b).go i H ∧ ∃ Nx : Hp → Prop, (∀ H', Nx H' → ∃ m', m' < m ∧ W (i + 1) m' H') ∧ ∀ x H', (RZ.ItzT K a b).yld i H x H' → g x (wipe σ vs) H' fun σ2 H2 => wipe σ2 vs = wipe σ vs ∧ tt σ2 H2 fun b H3 =>
        if b = true then te σ2 H3 fun y H4 => ∃ acc, H4 D = some (.lst acc) ∧ acc.length < sizeLine ∧ Nx (upd H4 D (.lst (acc ++ [y]))) else Nx H3) := by
  refine ⟨fun i m H => m = xs.length - i ∧ i ≤ xs.length ∧ Pv i H, ⟨xs.length, by simp, Nat.zero_le _, h0⟩, ?_⟩
  rintro i m H ⟨rfl, hi, p⟩
  obtain ⟨q1, q2⟩ := hl i H p
  by_cases hlt : i < xs.length
  · have hlt2 : i < ys.length := by omega
    refine .inr ⟨⟨xs, ys, xs[i], ys[i], q1, q2, by simp [hlt], by simp [hlt2]⟩, Pv (i + 1), fun H' p' => ⟨xs.length - (i + 1), by omega, rfl, hlt, p'⟩, fun v H' yl => ?_⟩
    obtain ⟨T, x, y, rfl, hT, rfl, e1, e2⟩ := yl
    exact hs i x y T H (e1 xs q1) (e2 ys q2) hT p
  · have : i = xs.length := by omega
    subst this
    exact .inl ⟨⟨xs, ys, q1, q2, .inl (Nat.le_refl _)⟩, hd H p⟩
section
variable {P : Program} {w : World} {K : PySem.W.Frag} {mg : Str → Option Value} {base : Heap}
/-! ### stretched -/
abbrev sSt : Stmt := top 8
abbrev nSt : List Str := ["one", "head_size", "cycle_size", "head", "cycle", "missing"]
theorem scSt : FnScope nSt ["one", "head_size", "cycle_size"] (defScope sSt) := ⟨rfl, rfl, rfl, by decide +kernel, rfl, by decide +kernel, by decide +kernel⟩
def spSt (K : PySem.W.Frag) : Sp := fun vs H Q _ => ∃ (v : V) (h c : BL) (a b : Nat), vs = [v, nV a, nV b] ∧ PA K H v (h, c) ∧ c ≠ [] ∧ h.length ≤ a ∧ a + b ≤ 900 ∧ c.length ≤ 900 ∧ ∀ v' H', Same H H' → TA K H' v' (str h c (a + b)) → Q v' H'
theorem ok_st {f : Addr} {fd : FuncData} (F : Fun K "stretched" "stretched" sSt f fd) (ml : mg "len" = none) : FnOk P w K mg base CX0 1 f fd ["one", "head_size", "cycle_size"] (spSt K) := by
  refine F.ok scSt (fun vs H Q E h => ?_) (fun cdv A outer s H vs Q E hr h => ?_)
  · obtain ⟨v, h, c, a, b, rfl, _⟩ := h
    rfl
  obtain ⟨v, h, c, a, b, rfl, ⟨u, a1, a2, rfl, hu, ⟨p, ep, hp⟩, ⟨r, er, hr1⟩⟩, hc, hl, hab, hcl, q⟩ := h
  subst ep er
  have hp : Tn.NT K H p (h.map V.bl) := hp
  have hr1 : Tn.NT K H r (c.map V.bl) := hr1
  have nd := scSt.nd
  have hpos := len_pos hc
  refine ⟨_, pss_cons (ps_asg (pv 0) (pg_tup rfl (pgs_cons (pg_name (i := 3) nd rfl (.inl rfl)) (pgs_cons (pg_name (i := 4) nd rfl (.inl rfl)) pgs_nil))))
    (pss_cons (ps_set (i := 5) nd rfl (.inl rfl) (pe_op op_sub (pe_op op_add (pv 1) (pv 2)) (pe_callB call_len_seq (by rfl) ml PySem.boot_len (pa_cons (pv 3) pa_nil))))
    (pss_one (ps_ret (pe_op Tn.cat (pv 3) (pe_slice Tn.sl (pe_op Tn.rep (pv 4) (pe_op op_add (pe_op op_fdiv (pv 5) (pe_callB call_len_seq (by rfl) ml PySem.boot_len (pa_cons (pv 4) pa_nil))) pe_int)) po_none (po_some (pv 5))))))), ?_⟩
  refine ⟨_, rfl, u, _, rfl, hu, rfl, .ref p, _, rfl, .ref r, [], rfl, rfl, ?_⟩
  refine ⟨_, rfl, _, rfl, _, _, rfl, rfl, _, rfl, p, _, rfl, .inr hp.1, ?_⟩
  rw [List.length_map]
  refine ⟨_, _, rfl, rfl, ?_⟩
  have e1 : (a : Int) + (b : Int) - (h.length : Int) = ((a + b - h.length : Nat) : Int) := by omega
  rw [show (fun i j : Int => V.int (i - j)) ((a : Int) + (b : Int)) (h.length : Int) = V.int ((a + b - h.length : Nat) : Int) from congrArg V.int e1]
  generalize hm : a + b - h.length = m
  have hdl : m / c.length ≤ m := Nat.div_le_self _ _
  refine ⟨_, rfl, _, rfl, _, rfl, _, rfl, r, _, rfl, .inr hr1.1, ?_⟩
  rw [List.length_map]
  refine ⟨_, _, rfl, rfl, ⟨by omega, by omega⟩, _, _, rfl, rfl, ?_⟩
  have e2 : (m : Int) / (c.length : Int) + 1 = ((m / c.length + 1 : Nat) : Int) := by
    rw [Int.natCast_add, Int.natCast_ediv]
    rfl
  have hk9 : ((m / c.length + 1 : Nat) : Int) ≤ 1000 := by omega
  have hk1 : (1 : Int) ≤ ((m / c.length + 1 : Nat) : Int) := Int.ofNat_le.mpr (Nat.le_add_left 1 (m / c.length))
  rw [show (fun i j : Int => V.int (i + j)) ((m : Int) / (c.length : Int)) 1 = V.int ((m / c.length + 1 : Nat) : Int) from congrArg V.int e2]
  refine ⟨r, _, _, rfl, rfl, hr1, by simpa using hc, by omega, hk9, by rw [List.length_map]; omega, fun p2 H2 s2 t2 => ?_⟩
  rw [Int.toNat_natCast] at t2
  have t2' : Tn.NT K H2 p2 (((List.replicate (m / c.length + 1) c).flatten).map V.bl) := by
    rw [List.map_flatten, List.map_replicate]
    exact t2
  have hlen : m ≤ ((List.replicate (m / c.length + 1) c).flatten).length := by
    rw [fr_len, Nat.add_mul, Nat.one_mul, Nat.mul_comm]
    have := Nat.div_add_mod m c.length
    have := Nat.mod_lt m hpos
    omega
  refine ⟨_, rfl, _, rfl, p2, _, rfl, t2', fun p3 H3 s3 t3 => ?_⟩
  rw [cut_to hlen] at t3
  refine ⟨p, p3, _, _, rfl, rfl, Tn.same (s2.trans s3) hp, t3, le_line (by rw [List.length_map, List.length_map, List.length_take]; omega), fun p4 H4 s4 t4 => ?_⟩
  rw [← List.map_append, str_of hc, show h.length + m = a + b by omega] at t4
  exact q (.ref p4) H4 ((s2.trans s3).trans s4) ⟨p4, rfl, t4⟩
end
end Mw

namespace Mw
open PySem L2
theorem take_neg {bs : BL} {i : Nat} {b : Bool} (h : bs[i]? = some b) : neg (bs.take (i + 1)) = neg (bs.take i) ++ [!b] := by
  unfold neg
  rw [List.take_succ, h, List.map_append]
  rfl
theorem get_bl {bs : BL} {i : Nat} {x : V} (h : (bs.map V.bl)[i]? = some x) : ∃ b, bs[i]? = some b ∧ x = .bl b := by
  rw [List.getElem?_map] at h
  obtain ⟨b, h1, h2⟩ := Option.map_eq_some_iff.mp h
  exact ⟨b, h1, h2.symm⟩
section
variable {P : Program} {w : World} {K : PySem.W.Frag} {mg : Str → Option Value} {base : Heap}
/-! ### complement -/
abbrev sCp : Stmt := top 10
abbrev nCp : List Str := ["one", "head", "cycle", "inside"]
theorem scCp : FnScope nCp ["one"] (defScope sCp) := ⟨rfl, rfl, rfl, by decide +kernel, rfl, by decide +kernel, by decide +kernel⟩
def spCp (K : PySem.W.Frag) : Sp := fun vs H Q _ => ∃ (v : V) (x : BL × BL), vs = [v] ∧ PA K H v x ∧ x.1.length < 100000 ∧ x.2.length < 100000 ∧ ∀ v' H', Same H H' → PA K H' v' (neg x.1, neg x.2) → Q v' H'
theorem ok_cp {f : Addr} {fd : FuncData} (F : Fun K "complement" "complement" sCp f fd) (mt : mg "tuple" = none) : FnOk P w K mg base CX0 1 f fd ["one"] (spCp K) := by
  refine F.ok scCp (fun vs H Q E h => ?_) (fun cdv A outer s H vs Q E hr h => ?_)
  · obtain ⟨v, x, rfl, _⟩ := h
    rfl
  obtain ⟨v, ⟨h, c⟩, rfl, ⟨u, a1, a2, rfl, hu, ⟨p, ep, hp⟩, ⟨r, er, hr1⟩⟩, l1, l2, q⟩ := h
  subst ep er
  have hp : Tn.NT K H p (h.map V.bl) := hp
  have hr1 : Tn.NT K H r (c.map V.bl) := hr1
  have l1 : h.length < 100000 := l1
  have l2 : c.length < 100000 := l2
  have nd := scCp.nd
  refine ⟨_, pss_cons (ps_asg (pv 0) (pg_tup rfl (pgs_cons (pg_name (i := 1) nd rfl (.inl rfl)) (pgs_cons (pg_name (i := 2) nd rfl (.inl rfl)) pgs_nil))))
    (pss_one (ps_ret (pe_tup (pa_cons (pe_callTy Tn.tup (by rfl) mt (by decide +kernel) (pa_cons
        (pe_lc (own := [("inside", 3)]) (g := gName 3) (tt := tYes) (te := tNotV (tVar 3)) rfl nd (pi_tup (pv 1)) (blkOk_by (N := nCp) (sc := defScope sCp) (by decide +kernel))
          (fun _ _ _ _ _ => pg_name (i := 3) nd rfl (.inl rfl)) (fun _ _ _ _ _ => pts_nil) (fun _ _ _ _ _ => pe_not (pv 3))) pa_nil))
      (pa_cons (pe_callTy Tn.tup (by rfl) mt (by decide +kernel) (pa_cons
        (pe_lc (own := [("inside", 3)]) (g := gName 3) (tt := tYes) (te := tNotV (tVar 3)) rfl nd (pi_tup (pv 2)) (blkOk_by (N := nCp) (sc := defScope sCp) (by decide +kernel))
          (fun _ _ _ _ _ => pg_name (i := 3) nd rfl (.inl rfl)) (fun _ _ _ _ _ => pts_nil) (fun _ _ _ _ _ => pe_not (pv 3))) pa_nil)) pa_nil))))), ?_⟩
  refine ⟨_, rfl, u, _, rfl, hu, rfl, .ref p, _, rfl, .ref r, [], rfl, rfl, ?_⟩
  refine ⟨_, rfl, p, rfl, ⟨_, hp.1⟩, fun D hD => ?_⟩
  have s1 : Same H (upd H D (.lst [])) := same_new hD _
  refine lc_tup (xs := h.map V.bl) (fun i H' => Same H H' ∧ H' D = some (.lst ((neg (h.take i)).map V.bl))) ⟨s1, upd_same⟩ (fun i H' _ ⟨s', _⟩ => Ts.same s' hp.1) ?_ ?_
  · rintro i x H' hx ⟨s', hD'⟩
    obtain ⟨b, hb, rfl⟩ := get_bl hx
    have hi := (List.getElem?_eq_some_iff.mp hb).1
    refine ⟨rfl, _, rfl, b, rfl, _, hD', sz_line (by rw [List.length_map, neg_len, List.length_take]; omega), same_mut s' hD _, ?_⟩
    rw [upd_same, take_neg hb, List.map_append]
    rfl
  rintro H1 ⟨s1', hD1⟩
  rw [List.length_map, List.take_length] at hD1
  refine ⟨D, _, rfl, .inl (SqL.of hD1), fun p1 H2 s2 t2 => ?_⟩
  refine ⟨_, rfl, r, rfl, ⟨_, Ts.same (s1'.trans s2) hr1.1⟩, fun D2 hD2 => ?_⟩
  have s3 : Same H2 (upd H2 D2 (.lst [])) := same_new hD2 _
  refine lc_tup (xs := c.map V.bl) (fun i H' => Same H2 H' ∧ H' D2 = some (.lst ((neg (c.take i)).map V.bl))) ⟨s3, upd_same⟩ (fun i H' _ ⟨s', _⟩ => Ts.same ((s1'.trans s2).trans s') hr1.1) ?_ ?_
  · rintro i x H' hx ⟨s', hD'⟩
    obtain ⟨b, hb, rfl⟩ := get_bl hx
    have hi := (List.getElem?_eq_some_iff.mp hb).1
    refine ⟨rfl, _, rfl, b, rfl, _, hD', sz_line (by rw [List.length_map, neg_len, List.length_take]; omega), same_mut s' hD2 _, ?_⟩
    rw [upd_same, take_neg hb, List.map_append]
    rfl
  rintro H4 ⟨s4, hD4⟩
  rw [List.length_map, List.take_length] at hD4
  refine ⟨D2, _, rfl, .inl (SqL.of hD4), fun p3 H5 s5 t5 => ⟨by show 2 ≤ sizeLine; decide, fun z hz => ?_⟩⟩
  have s6 : Same H5 (upd H5 z (.tup [.ref p1, .ref p3])) := same_new hz _
  exact q (.ref z) _ (((((s1'.trans s2).trans s4).trans s5)).trans s6) ⟨z, .ref p1, .ref p3, rfl, SqT.of upd_same, ⟨p1, rfl, Tn.same ((s4.trans s5).trans s6) t2⟩, ⟨p3, rfl, Tn.same s6 t5⟩⟩
/-! ### is_empty -/
/-- what the row says of a set that stands in the module -/
def KP (K : PySem.W.Frag) (mg : Str → Option Value) (nm : Str) (x : BL × BL) : Prop := ∃ n : Addr, mg nm = some (.ref n) ∧ ∀ H, PA K H (.ref n) x
end
end Mw

namespace Mw
open PySem L2
/-- what stands in settled form, and which numbers are in it -/
def Gs (y : BL × BL) (f : Nat → Bool) : Prop := Stl y.1 y.2 ∧ ∀ n, sq y.1 y.2 n = f n
def hsz (x y : BL × BL) : Nat := max x.1.length y.1.length
theorem u65 {k : Nat} {A : Around} (r : Room k A) : A.units + 65 < cLine := by
  have := r.un
  omega
theorem andL_take {a b : BL} {i : Nat} {x y : Bool} (hx : a[i]? = some x) (hy : b[i]? = some y) : andL (a.take (i + 1)) (b.take (i + 1)) = andL (a.take i) (b.take i) ++ [x && y] := by
  have h1 := (List.getElem?_eq_some_iff.mp hx).1
  have h2 := (List.getElem?_eq_some_iff.mp hy).1
  unfold andL
  rw [List.take_succ, List.take_succ, hx, hy]
  show ((List.zip (a.take i ++ [x]) (b.take i ++ [y])).map fun x => x.1 && x.2) = _
  rw [List.zip_append (by rw [List.length_take, List.length_take]; omega), List.map_append]
  rfl
theorem andL_len {a b : BL} (h : a.length = b.length) : (andL a b).length = a.length := by
  unfold andL
  rw [List.length_map, List.length_zip]
  omega
theorem cutL_to {bs : BL} {k : Nat} (hk : k ≤ bs.length) : cutV (bs.map V.bl) none (some (k : Int)) = (bs.take k).map V.bl := cut_to hk
theorem stl_dvd {h c : BL} (hc : c ≠ []) : (stl h c).2.length ∣ c.length := by
  obtain ⟨q, hq⟩ := ex_min hc
  have e := sc_eq hc hq
  have h1 : (stl h c).2.length = q := by
    unfold stl
    rw [rot_len, e.1, List.length_take, Nat.min_eq_left e.2]
  rw [h1]
  exact hq.dvd (per_len c)
section
variable {P : Program} {w : World} {K : PySem.W.Frag} {mg : Str → Option Value} {base : Heap}
/-! ### common -/
abbrev sCm : Stmt := top 11
abbrev nCm : List Str := ["one", "other", "head_size", "cycle_size", "first", "second", "inside", "in_one", "in_other"]
theorem scCm : FnScope nCm ["one", "other"] (defScope sCm) := ⟨rfl, rfl, rfl, by decide +kernel, rfl, by decide +kernel, by decide +kernel⟩
def spCm (K : PySem.W.Frag) (g : Bool → Bool → Bool) : Sp := fun vs H Q _ => ∃ (v1 v2 : V) (x y : BL × BL), vs = [v1, v2] ∧ PA K H v1 x ∧ PA K H v2 y ∧ x.2 ≠ [] ∧ y.2 ≠ [] ∧ hsz x y + Nat.lcm x.2.length y.2.length ≤ 900 ∧ x.2.length ≤ 900 ∧ y.2.length ≤ 900 ∧
  ∀ v' H' z, Same H H' → PA K H' v' z → Gs z (fun n => g (sq x.1 x.2 n) (sq y.1 y.2 n)) → z.1.length ≤ hsz x y → z.2.length ∣ Nat.lcm x.2.length y.2.length → Q v' H'
theorem ok_cm {f fS fT : Addr} {fd fdS fdT : FuncData} (F : Fun K "common" "common" sCm f fd)
    (GS : FnOk P w K mg base CX0 3 fS fdS ["head", "cycle"] (spSe K)) (bS : Binds K fdS ["head", "cycle"] []) (kS : PySem.W.keepIn K (.ref fS) = true) (mS : mg "settled" = some (.ref fS))
    (GT : FnOk P w K mg base CX0 1 fT fdT ["one", "head_size", "cycle_size"] (spSt K)) (bT : Binds K fdT ["one", "head_size", "cycle_size"] []) (kT : PySem.W.keepIn K (.ref fT) = true) (mT : mg "stretched" = some (.ref fT))
    (ml : mg "len" = none) (mx : mg "max" = none) (mz : mg "zip" = none) (mc : mg "lcm" = some (.builtin "math.lcm")) :
    FnOk P w K mg base CX0 4 f fd ["one", "other"] (spCm K fun a b => a && b) := by
  refine F.ok scCm (fun vs H Q E h => ?_) (fun cdv A outer s H vs Q E hr h => ?_)
  · obtain ⟨v1, v2, x, y, rfl, _⟩ := h
    rfl
  obtain ⟨v1, v2, ⟨h1, c1⟩, ⟨h2, c2⟩, rfl, hv1, hv2, n1, n2, hb, lb1, lb2, q⟩ := h
  have n1 : c1 ≠ [] := n1
  have n2 : c2 ≠ [] := n2
  have hb : max h1.length h2.length + Nat.lcm c1.length c2.length ≤ 900 := hb
  obtain ⟨u1, a1, a2, rfl, hu1, ⟨p1, ep1, hp1⟩, ⟨r1, er1, hr1⟩⟩ := id hv1
  obtain ⟨u2, b1, b2, rfl, hu2, ⟨p2, ep2, hp2⟩, ⟨r2, er2, hr2⟩⟩ := id hv2
  subst ep1 er1 ep2 er2
  have hp1 : Tn.NT K H p1 (h1.map V.bl) := hp1
  have hr1 : Tn.NT K H r1 (c1.map V.bl) := hr1
  have hp2 : Tn.NT K H p2 (h2.map V.bl) := hp2
  have hr2 : Tn.NT K H r2 (c2.map V.bl) := hr2
  have q1 := len_pos n1
  have q2 := len_pos n2
  have nd := scCm.nd
  refine ⟨_, pss_cons (ps_set (i := 2) nd rfl (.inl rfl) (pe_callB (call_max2 rfl) (by rfl) mx (by decide +kernel) (pa_cons (pe_callB call_len_seq (by rfl) ml PySem.boot_len (pa_cons (pe_ix ix_tup (pv 0) pe_int (fun _ _ => rfl)) pa_nil)) (pa_cons (pe_callB call_len_seq (by rfl) ml PySem.boot_len (pa_cons (pe_ix ix_tup (pv 1) pe_int (fun _ _ => rfl)) pa_nil)) pa_nil))))
    (pss_cons (ps_set (i := 3) nd rfl (.inl rfl) (pe_callBfun Ts.cr_lcm (by rfl) mc (pa_cons (pe_callB call_len_seq (by rfl) ml PySem.boot_len (pa_cons (pe_ix ix_tup (pv 0) pe_int (fun _ _ => rfl)) pa_nil)) (pa_cons (pe_callB call_len_seq (by rfl) ml PySem.boot_len (pa_cons (pe_ix ix_tup (pv 1) pe_int (fun _ _ => rfl)) pa_nil)) pa_nil))))
    (Evl.pss_cut (ps_if (pt_cmpR (Ts.op_inT (u65 hr)) (pe_tup (pa_cons pe_bl pa_nil)) (pe_tup (pa_cons (pe_ix ix_tup (pv 0) pe_int (fun _ _ => rfl)) (pa_cons (pe_ix ix_tup (pv 1) pe_int (fun _ _ => rfl)) pa_nil))) (by rfl)) (pss_one (ps_set (i := 3) nd rfl (.inl rfl) pe_int)) pss_nil)
    (pss_cons (ps_set (i := 4) nd rfl (.inl rfl) (pe_call GT (hr.mono (by decide)) rfl mT kT bT .nil pass0 (pa_cons (pv 0) (pa_cons (pv 2) (pa_cons (pv 3) pa_nil)))))
    (pss_cons (ps_set (i := 5) nd rfl (.inl rfl) (pe_call GT (hr.mono (by decide)) rfl mT kT bT .nil pass0 (pa_cons (pv 1) (pa_cons (pv 2) (pa_cons (pv 3) pa_nil)))))
    (pss_cons (ps_setLc (i := 6) (own := [("in_one", 7), ("in_other", 8)]) (g := gTup K 2 (gCons (gName 7) (gCons (gName 8) gNil))) (tt := tYes) (te := tAndV (tVar 7) (tVar 8)) rfl nd rfl rfl (sw_true rfl rfl rfl (by decide +kernel)) (RZ.pi_zipA rfl mz (pa_cons (pv 4) (pa_cons (pv 5) pa_nil))) (blkOk_by (N := nCm) (sc := defScope sCm) (by decide +kernel))
      (fun _ _ _ _ _ => pg_tup rfl (pgs_cons (pg_name (i := 7) nd rfl (.inl rfl)) (pgs_cons (pg_name (i := 8) nd rfl (.inl rfl)) pgs_nil))) (fun _ _ _ _ _ => pts_nil) (fun _ _ _ _ _ => pe_and (pv 7) (pe_one (pv 8))))
    (pss_one (ps_ret (pe_call GS hr rfl mS kS bS .nil pass0 (pa_cons (pe_slice sl_list (pv 6) po_none (po_some (pv 2))) (pa_cons (pe_slice sl_list (pv 6) (po_some (pv 2)) po_none) pa_nil)))))))))), ?_⟩
  refine ⟨_, rfl, u1, _, 0, .ref p1, rfl, rfl, hu1, atI_nat (j := 0) rfl, p1, _, rfl, .inr hp1.1, ?_⟩
  rw [List.length_map]
  refine ⟨_, rfl, u2, _, 0, .ref p2, rfl, rfl, hu2, atI_nat (j := 0) rfl, p2, _, rfl, .inr hp2.1, ?_⟩
  rw [List.length_map]
  refine ⟨_, _, rfl, ?_⟩
  have emax : (if ((h2.length : Nat) : Int) > ((h1.length : Nat) : Int) then ((h2.length : Nat) : Int) else ((h1.length : Nat) : Int)) = ((max h1.length h2.length : Nat) : Int) := by
    split <;> omega
  rw [emax]
  have m1 : h1.length ≤ max h1.length h2.length := Nat.le_max_left _ _
  have m2 : h2.length ≤ max h1.length h2.length := Nat.le_max_right _ _
  have qz : ∀ v' H' z, Same H H' → PA K H' v' z → Gs z (fun n => sq h1 c1 n && sq h2 c2 n) → z.1.length ≤ max h1.length h2.length → z.2.length ∣ Nat.lcm c1.length c2.length → Q v' H' := q
  generalize max h1.length h2.length = hs at hb m1 m2 qz
  refine ⟨_, rfl, u1, _, 1, .ref r1, rfl, rfl, hu1, atI_nat (j := 1) rfl, r1, _, rfl, .inr hr1.1, ?_⟩
  rw [List.length_map]
  refine ⟨_, rfl, u2, _, 1, .ref r2, rfl, rfl, hu2, atI_nat (j := 1) rfl, r2, _, rfl, .inr hr2.1, ?_⟩
  rw [List.length_map]
  have lb1 : c1.length ≤ 900 := lb1
  have lb2 : c2.length ≤ 900 := lb2
  refine ⟨c1.length, c2.length, rfl, by omega, by omega, ?_⟩
  have lcp : 0 < Nat.lcm c1.length c2.length := Nat.lcm_pos q1 q2
  have lc1 : c1.length ∣ Nat.lcm c1.length c2.length := Nat.dvd_lcm_left _ _
  have lc2 : c2.length ∣ Nat.lcm c1.length c2.length := Nat.dvd_lcm_right _ _
  generalize Nat.lcm c1.length c2.length = lc at lcp lc1 lc2 hb qz
  refine ⟨fun σ H' => ∃ cs : Nat, σ = [some (.ref u1), some (.ref u2), some (nV hs), some (nV cs), none, none, none, none, none] ∧ Same H H' ∧ 0 < cs ∧ cs ∣ lc ∧ ((c1.length ∣ cs ∧ c2.length ∣ cs) ∨ c1 = [false] ∨ c2 = [false]), ?_, ?_⟩
  · refine ⟨by show 1 ≤ sizeLine; decide, fun t1 ht1 => ?_⟩
    have s1 : Same H (upd H t1 (.tup [.bl false])) := same_new ht1 _
    refine ⟨_, rfl, u1, _, 1, .ref r1, rfl, rfl, Ts.same s1 hu1, atI_nat (j := 1) rfl, _, rfl, u2, _, 1, .ref r2, rfl, rfl, Ts.same s1 hu2, atI_nat (j := 1) rfl, by show 2 ≤ sizeLine; decide, fun t2 ht2 => ?_⟩
    have s2 : Same (upd H t1 (.tup [.bl false])) (upd (upd H t1 (.tup [.bl false])) t2 (.tup [.ref r1, .ref r2])) := same_new ht2 _
    have dT : Dp K (upd (upd H t1 (.tup [.bl false])) t2 (.tup [.ref r1, .ref r2])) (.ref t1) (bsD [false]) := .tup (Ts.same s2 (SqT.of upd_same)) (dpl [false])
    have d1 : TA K (upd (upd H t1 (.tup [.bl false])) t2 (.tup [.ref r1, .ref r2])) (.ref r1) c1 := ⟨r1, rfl, Tn.same (s1.trans s2) hr1⟩
    have d2 : TA K (upd (upd H t1 (.tup [.bl false])) t2 (.tup [.ref r1, .ref r2])) (.ref r2) c2 := ⟨r2, rfl, Tn.same (s1.trans s2) hr2⟩
    refine ⟨_, [bsD c1, bsD c2], dT, .tup (SqT.of upd_same) (.cons d1.dp (.cons d2.dp .nil)), shp _, shp2 _ _, _, rfl, ?_⟩
    have e : ([bsD c1, bsD c2].any fun z => PyData.eqv z (bsD [false])) = (decide (c1 = [false]) || (decide (c2 = [false]) || false)) := by
      show (PyData.eqv (bsD c1) (bsD [false]) || (PyData.eqv (bsD c2) (bsD [false]) || false)) = _
      rw [eqv_bs, eqv_bs]
    rw [e]
    refine ite2 (fun c => ?_) (fun c => ⟨lc, rfl, s1.trans s2, lcp, Nat.dvd_refl _, .inl ⟨lc1, lc2⟩⟩)
    have c' : c1 = [false] ∨ c2 = [false] := by simpa using c
    exact ⟨1, rfl, s1.trans s2, by decide, Nat.one_dvd _, .inr c'⟩
  rintro σ H1 ⟨cs, rfl, s1, cp, cdv, hd⟩
  have cl : cs ≤ lc := Nat.le_of_dvd lcp cdv
  refine ⟨_, rfl, _, rfl, _, rfl, .ref u1, h1, c1, hs, cs, rfl, hv1.same s1, n1, m1, by omega, lb1, fun w1 H2 s2 ⟨x1, ex1, hx1⟩ => ?_⟩
  subst ex1
  refine ⟨_, rfl, _, rfl, _, rfl, .ref u2, h2, c2, hs, cs, rfl, hv2.same (s1.trans s2), n2, m2, by omega, lb2, fun w2 H3 s3 ⟨x2, ex2, hx2⟩ => ?_⟩
  subst ex2
  have hx1' : Tn.NT K H3 x1 ((str h1 c1 (hs + cs)).map V.bl) := Tn.same s3 hx1
  generalize hA : str h1 c1 (hs + cs) = Aa at hx1'
  generalize hB : str h2 c2 (hs + cs) = Bb at hx2
  have la : Aa.length = hs + cs := by rw [← hA, str_len]
  have lb : Bb.length = hs + cs := by rw [← hB, str_len]
  refine ⟨_, rfl, _, rfl, x1, x2, _, _, rfl, .inr ⟨hx1'.1, hx2.1, fun D hD => ?_⟩⟩
  have s4 : Same H3 (upd H3 D (.lst [])) := same_new hD _
  refine lc_zipT (xs := Aa.map V.bl) (ys := Bb.map V.bl) (fun i H' => Same H3 H' ∧ H' D = some (.lst ((andL (Aa.take i) (Bb.take i)).map V.bl))) (by rw [List.length_map, List.length_map, la, lb]) ⟨s4, upd_same⟩ (fun i H' ⟨s', _⟩ => ⟨Ts.same s' hx1'.1, Ts.same s' hx2.1⟩) ?_ ?_
  · rintro i x y T H' hx hy hT ⟨s', hD'⟩
    obtain ⟨bx, hbx, rfl⟩ := get_bl hx
    obtain ⟨bz, hby, rfl⟩ := get_bl hy
    have hi := (List.getElem?_eq_some_iff.mp hbx).1
    have hi2 := (List.getElem?_eq_some_iff.mp hby).1
    have sT : Same H' (upd H' T (.tup [.bl bx, .bl bz])) := same_new hT _
    have hDT := sT _ _ hD'
    refine ⟨T, _, rfl, .inl (.inl upd_same), rfl, .bl bx, _, rfl, .bl bz, [], rfl, rfl, rfl, ?_⟩
    have fin : ∀ b : Bool, b = (bx && bz) → ∃ acc, upd H' T (.tup [.bl bx, .bl bz]) D = some (.lst acc) ∧ acc.length < sizeLine ∧ (Same H3 (upd (upd H' T (.tup [.bl bx, .bl bz])) D (.lst (acc ++ [.bl b]))) ∧ upd (upd H' T (.tup [.bl bx, .bl bz])) D (.lst (acc ++ [.bl b])) D = some (.lst ((andL (Aa.take (i + 1)) (Bb.take (i + 1))).map V.bl))) := by
      intro b hb'
      refine ⟨_, hDT, sz_line (by rw [List.length_map, andL_len (by rw [List.length_take, List.length_take]; omega), List.length_take]; omega), same_mut (s'.trans sT) hD _, ?_⟩
      rw [upd_same, andL_take hbx hby, List.map_append, hb']
      rfl
    refine ⟨_, rfl, bx, rfl, ?_⟩
    cases bx with
    | true => exact ⟨_, rfl, fin bz (by simp)⟩
    | false => exact fin false (by simp)
  · rintro H4 ⟨s4', hD4⟩
    rw [List.length_map, List.take_length, show Bb.take Aa.length = Bb by rw [la, ← lb, List.take_length]] at hD4
    generalize hI : andL Aa Bb = I at hD4
    have li : I.length = hs + cs := by rw [← hI, andL_len (by rw [la, lb]), la]
    refine ⟨_, rfl, _, rfl, _, rfl, D, _, rfl, SqL.of hD4, fun f1 hf1 => ?_⟩
    rw [cut_to (by omega)]
    have s5 : Same H4 (upd H4 f1 (.lst ((I.take hs).map V.bl))) := same_new hf1 _
    refine ⟨_, rfl, _, rfl, _, rfl, D, _, rfl, SqL.of (s5 _ _ hD4), fun f2 hf2 => ?_⟩
    rw [cut_from (by omega)]
    have s6 : Same (upd H4 f1 (.lst ((I.take hs).map V.bl))) (upd (upd H4 f1 (.lst ((I.take hs).map V.bl))) f2 (.lst ((I.drop hs).map V.bl))) := same_new hf2 _
    have dl : (I.drop hs).length = cs := by rw [List.length_drop]; omega
    have tl : (I.take hs).length = hs := by rw [List.length_take]; omega
    have dn : I.drop hs ≠ [] := fun e => by
      rw [e] at dl
      simp at dl
      omega
    refine ⟨f1, f2, I.take hs, I.drop hs, rfl, .inl (SqL.of (s6 _ _ upd_same)), .inl (SqL.of upd_same), dn, by omega, sc_ne dn, by omega, fun v' H5 s7 hv => ?_⟩
    have sl := stl_len (h := I.take hs) dn
    refine qz v' H5 _ ((((((s1.trans s2).trans s3).trans s4').trans s5).trans s6).trans s7) hv ⟨stl_Stl dn, fun n => ?_⟩ (by omega) (Nat.dvd_trans (stl_dvd dn) (by rw [dl]; exact cdv))
    rw [sq_stl dn, ← hI, ← hA, ← hB]
    exact com_sq m1 m2 cp hd n
end
end Mw

namespace Mw
open PySem L2
theorem hsz_neg (x y : BL × BL) : hsz (neg x.1, neg x.2) (neg y.1, neg y.2) = hsz x y := by
  unfold hsz
  rw [neg_len, neg_len]
theorem hsz_negr (x y : BL × BL) : hsz x (neg y.1, neg y.2) = hsz x y := by
  unfold hsz
  rw [neg_len]
section
variable {P : Program} {w : World} {K : PySem.W.Frag} {mg : Str → Option Value} {base : Heap}
/-! ### union, difference, is_within -/
abbrev sUn : Stmt := top 12
abbrev sDf : Stmt := top 13
theorem scUn : FnScope ["one", "other"] ["one", "other"] (defScope sUn) := ⟨rfl, rfl, rfl, by decide +kernel, rfl, by decide +kernel, by decide +kernel⟩
theorem scDf : FnScope ["one", "other"] ["one", "other"] (defScope sDf) := ⟨rfl, rfl, rfl, by decide +kernel, rfl, by decide +kernel, by decide +kernel⟩
theorem ok_un {f fM fP : Addr} {fd fdM fdP : FuncData} (F : Fun K "union" "union" sUn f fd)
    (GM : FnOk P w K mg base CX0 4 fM fdM ["one", "other"] (spCm K fun a b => a && b)) (bM : Binds K fdM ["one", "other"] []) (kM : PySem.W.keepIn K (.ref fM) = true) (mM : mg "common" = some (.ref fM))
    (GP : FnOk P w K mg base CX0 1 fP fdP ["one"] (spCp K)) (bP : Binds K fdP ["one"] []) (kP : PySem.W.keepIn K (.ref fP) = true) (mP : mg "complement" = some (.ref fP)) :
    FnOk P w K mg base CX0 5 f fd ["one", "other"] (spCm K fun a b => a || b) := by
  refine F.ok scUn (fun vs H Q E h => ?_) (fun cdv A outer s H vs Q E hr h => ?_)
  · obtain ⟨v1, v2, x, y, rfl, _⟩ := h
    rfl
  obtain ⟨v1, v2, x, y, rfl, hv1, hv2, n1, n2, hb, lb1, lb2, q⟩ := h
  have nd := scUn.nd
  have hmx : x.1.length ≤ hsz x y := Nat.le_max_left _ _
  have hmy : y.1.length ≤ hsz x y := Nat.le_max_right _ _
  refine ⟨_, pss_one (ps_ret (pe_call GP (hr.mono (by decide)) rfl mP kP bP .nil pass0 (pa_cons (pe_call GM hr rfl mM kM bM .nil pass0 (pa_cons (pe_call GP (hr.mono (by decide)) rfl mP kP bP .nil pass0 (pa_cons (pv 0) pa_nil)) (pa_cons (pe_call GP (hr.mono (by decide)) rfl mP kP bP .nil pass0 (pa_cons (pv 1) pa_nil)) pa_nil))) pa_nil))), ?_⟩
  refine ⟨_, rfl, v1, x, rfl, hv1, by omega, by omega, fun w1 H1 s1 h1 => ?_⟩
  refine ⟨_, rfl, v2, y, rfl, hv2.same s1, by omega, by omega, fun w2 H2 s2 h2 => ?_⟩
  refine ⟨w1, w2, _, _, rfl, h1.same s2, h2, neg_ne n1, neg_ne n2, ?_, ?_, ?_, fun w3 H3 z s3 h3 hg l1 l2 => ?_⟩
  · rw [hsz_neg]
    show hsz x y + Nat.lcm (neg x.2).length (neg y.2).length ≤ 900
    rw [neg_len, neg_len]
    exact hb
  · show (neg x.2).length ≤ 900
    rw [neg_len]
    exact lb1
  · show (neg y.2).length ≤ 900
    rw [neg_len]
    exact lb2
  rw [hsz_neg] at l1
  have l2 : z.2.length ∣ Nat.lcm (neg x.2).length (neg y.2).length := l2
  rw [neg_len, neg_len] at l2
  have l3 : z.2.length ≤ Nat.lcm x.2.length y.2.length := Nat.le_of_dvd (Nat.lcm_pos (len_pos n1) (len_pos n2)) l2
  refine ⟨w3, z, rfl, h3, by omega, by omega, fun w4 H4 s4 h4 => ?_⟩
  refine q w4 H4 _ (((s1.trans s2).trans s3).trans s4) h4 ⟨hg.1.neg, fun n => ?_⟩ ?_ ?_
  · show sq (neg z.1) (neg z.2) n = _
    rw [sq_neg hg.1.nc, hg.2 n]
    show (!(sq (neg x.1) (neg x.2) n && sq (neg y.1) (neg y.2) n)) = (sq x.1 x.2 n || sq y.1 y.2 n)
    rw [sq_neg n1, sq_neg n2]
    cases sq x.1 x.2 n <;> cases sq y.1 y.2 n <;> rfl
  · show (neg z.1).length ≤ _
    rw [neg_len]
    exact l1
  · show (neg z.2).length ∣ _
    rw [neg_len]
    exact l2
theorem ok_df {f fM fP : Addr} {fd fdM fdP : FuncData} (F : Fun K "difference" "difference" sDf f fd)
    (GM : FnOk P w K mg base CX0 4 fM fdM ["one", "other"] (spCm K fun a b => a && b)) (bM : Binds K fdM ["one", "other"] []) (kM : PySem.W.keepIn K (.ref fM) = true) (mM : mg "common" = some (.ref fM))
    (GP : FnOk P w K mg base CX0 1 fP fdP ["one"] (spCp K)) (bP : Binds K fdP ["one"] []) (kP : PySem.W.keepIn K (.ref fP) = true) (mP : mg "complement" = some (.ref fP)) :
    FnOk P w K mg base CX0 5 f fd ["one", "other"] (spCm K fun a b => a && !b) := by
  refine F.ok scDf (fun vs H Q E h => ?_) (fun cdv A outer s H vs Q E hr h => ?_)
  · obtain ⟨v1, v2, x, y, rfl, _⟩ := h
    rfl
  obtain ⟨v1, v2, x, y, rfl, hv1, hv2, n1, n2, hb, lb1, lb2, q⟩ := h
  have nd := scDf.nd
  have hmy : y.1.length ≤ hsz x y := Nat.le_max_right _ _
  refine ⟨_, pss_one (ps_ret (pe_call GM hr rfl mM kM bM .nil pass0 (pa_cons (pv 0) (pa_cons (pe_call GP (hr.mono (by decide)) rfl mP kP bP .nil pass0 (pa_cons (pv 1) pa_nil)) pa_nil)))), ?_⟩
  refine ⟨_, rfl, _, rfl, v2, y, rfl, hv2, by omega, by omega, fun w2 H2 s2 h2 => ?_⟩
  refine ⟨v1, w2, x, _, rfl, hv1.same s2, h2, n1, neg_ne n2, ?_, lb1, ?_, fun w3 H3 z s3 h3 hg l1 l2 => ?_⟩
  · rw [hsz_negr]
    show hsz x y + Nat.lcm x.2.length (neg y.2).length ≤ 900
    rw [neg_len]
    exact hb
  · show (neg y.2).length ≤ 900
    rw [neg_len]
    exact lb2
  rw [hsz_negr] at l1
  have l2 : z.2.length ∣ Nat.lcm x.2.length (neg y.2).length := l2
  rw [neg_len] at l2
  refine q w3 H3 z (s2.trans s3) h3 ⟨hg.1, fun n => ?_⟩ l1 l2
  rw [hg.2 n]
  show (sq x.1 x.2 n && sq (neg y.1) (neg y.2) n) = _
  rw [sq_neg n2]
end
end Mw

namespace Mw
open PySem L2
theorem kp_of {K : PySem.W.Frag} {mg : Str → Option Value} {nm : Str} {n h c : Addr} {b : Bool} {d : Option Addr} {k kh kc : Nat} {s sh sc : Array (Option Value)} (g : mg nm = some (.ref n)) (x : K.lookup n = some ⟨.type "tuple", d, .seq #[.ref h, .ref c] k, s⟩)
    (xh : K.lookup h = some ⟨.type "tuple", none, .seq #[] kh, sh⟩) (xc : K.lookup c = some ⟨.type "tuple", none, .seq #[.bool b] kc, sc⟩) : KP K mg nm ([], [b]) := by
  refine ⟨n, g, fun H => ⟨n, .ref h, .ref c, rfl, .inr ⟨_, _, _, x, rfl, rfl, by show 2 ≤ sizeLine; decide, .cons rfl (.cons rfl .nil)⟩, ⟨h, rfl, ?_⟩, ⟨c, rfl, ?_⟩⟩⟩
  · exact ⟨.inr ⟨_, _, _, xh, rfl, rfl, Nat.zero_le _, .nil⟩, .inr ⟨_, xh, rfl, rfl⟩⟩
  · exact ⟨.inr ⟨_, _, _, xc, rfl, rfl, by show 1 ≤ sizeLine; decide, .cons rfl .nil⟩, .inr ⟨_, xc, rfl, rfl⟩⟩
end Mw

namespace Mw
open PySem L2
/-! ### lists of the heap beside lists -/
def A2 {α : Type} (R : α → V → Prop) : List α → List V → Prop
  | [], vs => vs = []
  | x :: xs, vs => ∃ v ws, vs = v :: ws ∧ R x v ∧ A2 R xs ws
theorem A2.mono {α : Type} {R S : α → V → Prop} (h : ∀ x v, R x v → S x v) : ∀ {xs : List α} {vs : List V}, A2 R xs vs → A2 S xs vs
  | [], _, e => e
  | x :: xs, _, e => by
    obtain ⟨v, ws, rfl, h1, h2⟩ := e
    exact ⟨v, ws, rfl, h _ _ h1, A2.mono h h2⟩
theorem A2.length {α : Type} {R : α → V → Prop} : ∀ {xs : List α} {vs : List V}, A2 R xs vs → vs.length = xs.length
  | [], _, e => by rw [show _ = [] from e]; rfl
  | x :: xs, _, e => by
    obtain ⟨v, ws, rfl, _, h2⟩ := e
    exact congrArg (· + 1) h2.length
theorem A2.get {α : Type} {R : α → V → Prop} : ∀ {xs : List α} {vs : List V} {i : Nat} {v : V}, A2 R xs vs → vs[i]? = some v → ∃ x, xs[i]? = some x ∧ R x v
  | [], _, i, v, h, e => by
    rw [show _ = [] from h] at e
    simp at e
  | x :: xs, _, 0, v, h, e => by
    obtain ⟨y, ws, rfl, h1, h2⟩ := h
    have : y = v := by simpa using e
    subst this
    exact ⟨x, rfl, h1⟩
  | x :: xs, _, i + 1, v, h, e => by
    obtain ⟨y, ws, rfl, h1, h2⟩ := h
    obtain ⟨x', e1, e2⟩ := A2.get (i := i) h2 (by simpa using e)
    exact ⟨x', by simpa using e1, e2⟩
theorem A2.app {α : Type} {R : α → V → Prop} {ys : List α} {us : List V} (h' : A2 R ys us) : ∀ {xs : List α} {vs : List V}, A2 R xs vs → A2 R (xs ++ ys) (vs ++ us)
  | [], _, e => by rw [show _ = [] from e]; exact h'
  | x :: xs, _, e => by
    obtain ⟨v, ws, rfl, h1, h2⟩ := e
    exact ⟨v, ws ++ us, rfl, h1, A2.app h' h2⟩
theorem A2.one {α : Type} {R : α → V → Prop} {x : α} {v : V} (h : R x v) : A2 R [x] [v] := ⟨v, [], rfl, h, rfl⟩
theorem A2.snoc {α : Type} {R : α → V → Prop} {xs : List α} {vs : List V} {x : α} {v : V} (h' : A2 R xs vs) (h : R x v) : A2 R (xs ++ [x]) (vs ++ [v]) := A2.app (A2.one h) h'
/-- a list at v, its items beside xs -/
def Ls {α : Type} (R : Hp → α → V → Prop) (H : Hp) (xs : List α) (v : V) : Prop := ∃ r vs, v = .ref r ∧ H r = some (.lst vs) ∧ A2 (R H) xs vs ∧ vs.length < 100000
theorem Ls.same {α : Type} {R : Hp → α → V → Prop} (m : ∀ {H H' : Hp}, Same H H' → ∀ x v, R H x v → R H' x v) {H H' : Hp} (s : Same H H') {xs : List α} {v : V} (h : Ls R H xs v) : Ls R H' xs v := by
  obtain ⟨r, vs, e, h1, h2, h3⟩ := h
  exact ⟨r, vs, e, s _ _ h1, h2.mono (m s), h3⟩
abbrev Rg := Int × Int
abbrev Rel := Int × Bool × List Rg
def RgAt (H : Hp) (x : Rg) (v : V) : Prop := ∃ p, v = .ref p ∧ H p = some (.tup [.int x.1, .int x.2])
def RelAt (H : Hp) (x : Rel) (v : V) : Prop := ∃ p q, v = .ref p ∧ H p = some (.tup [.int x.1, .bl x.2.1, q]) ∧ Ls RgAt H x.2.2 q ∧ 0 ≤ x.1
theorem RgAt.same {H H' : Hp} (s : Same H H') (x : Rg) (v : V) (h : RgAt H x v) : RgAt H' x v := by
  obtain ⟨p, e, h1⟩ := h
  exact ⟨p, e, s _ _ h1⟩
theorem RelAt.same {H H' : Hp} (s : Same H H') (x : Rel) (v : V) (h : RelAt H x v) : RelAt H' x v := by
  obtain ⟨p, q, e, h1, h2, h3⟩ := h
  exact ⟨p, q, e, s _ _ h1, h2.same RgAt.same s, h3⟩
abbrev RowAt (H : Hp) (x : List Rel) (v : V) : Prop := Ls RelAt H x v
theorem RowAt.same {H H' : Hp} (s : Same H H') (x : List Rel) (v : V) (h : RowAt H x v) : RowAt H' x v := Ls.same RelAt.same s h
abbrev ConAt (H : Hp) (x : List (List Rel)) (v : V) : Prop := Ls RowAt H x v
theorem ConAt.same {H H' : Hp} (s : Same H H') (x : List (List Rel)) (v : V) (h : ConAt H x v) : ConAt H' x v := Ls.same RowAt.same s h
abbrev Rule := Str × List (List Rel)
def RuAt (H : Hp) (x : Rule) (v : V) : Prop := ∃ p q, v = .ref p ∧ H p = some (.tup [.str x.1, q]) ∧ ConAt H x.2 q
theorem RuAt.same {H H' : Hp} (s : Same H H') (x : Rule) (v : V) (h : RuAt H x v) : RuAt H' x v := by
  obtain ⟨p, q, e, h1, h2⟩ := h
  exact ⟨p, q, e, s _ _ h1, h2.same s⟩
abbrev RusAt (H : Hp) (x : List Rule) (v : V) : Prop := Ls RuAt H x v
theorem RusAt.same {H H' : Hp} (s : Same H H') (x : List Rule) (v : V) (h : RusAt H x v) : RusAt H' x v := Ls.same RuAt.same s h
/-! ### what the law's languages are -/
def RgOk (r : Rg) : Prop := 0 ≤ r.1 ∧ r.1 ≤ r.2 ∧ r.2 ≤ 20
def RelOk (x : Rel) : Prop := (x.1 = 0 ∨ (2 ≤ x.1 ∧ x.1 ≤ 100 ∧ x.1 ∣ 300)) ∧ x.2.2 ≠ [] ∧ x.2.2.length ≤ 3 ∧ ∀ r ∈ x.2.2, RgOk r
def ConOk (c : List (List Rel)) : Prop := c ≠ [] ∧ c.length ≤ 2 ∧ ∀ r ∈ c, r ≠ [] ∧ r.length ≤ 2 ∧ ∀ x ∈ r, RelOk x
def cats : List Str := ["zero", "one", "two", "few", "many"]
def LanOk (rs : List Rule) : Prop := (rs.map (·.1)).Sublist cats ∧ ∀ r ∈ rs, ConOk r.2
/-! ### what holds for a number -/
def rgB (n : Int) (r : Rg) : Bool := decide (r.1 ≤ n) && decide (n ≤ r.2)
def lookN (m n : Int) : Int := if m = 0 then n else n % m
def relB (n : Int) (x : Rel) : Bool := x.2.1 == x.2.2.any (rgB (lookN x.1 n))
def conB (n : Int) (c : List (List Rel)) : Bool := c.any fun row => row.all (relB n)
def catB (n : Int) : List Rule → Str
  | [] => "other"
  | r :: rs => if conB n r.2 then r.1 else catB n rs
def catN (rs : List Rule) (n : Int) : Str := if n < 0 then "other" else catB n rs
theorem take_map {α β : Type} {xs : List α} {i : Nat} {x : α} (g : α → β) (h : xs[i]? = some x) : (xs.take (i + 1)).map g = (xs.take i).map g ++ [g x] := by
  rw [List.take_succ, h, List.map_append]
  rfl
theorem get_lt {α : Type} {xs : List α} {i : Nat} {x : α} (h : xs[i]? = some x) : i < xs.length := (List.getElem?_eq_some_iff.mp h).1
end Mw

namespace Mw
open PySem L2
/-- what the row says of the class Language -/
structure LC (K : PySem.W.Frag) (C : Addr) : Prop where
  c : Cls K C
  nr : NoAttr K C "rules"
/-- a language at v -/
def LanAt (C : Addr) (H : Hp) (rs : List Rule) (v : V) : Prop := ∃ o dx q, v = .ref o ∧ H o = some (.ins C dx [("rules", q)]) ∧ RusAt H rs q
theorem LanAt.same {C : Addr} {H H' : Hp} (s : Same H H') {rs : List Rule} {v : V} (h : LanAt C H rs v) : LanAt C H' rs v := by
  obtain ⟨o, dx, q, e, h1, h2⟩ := h
  exact ⟨o, dx, q, e, s _ _ h1, h2.same s⟩
end Mw

namespace Mw
open PySem L2
theorem fr_new_obj {H0 H : Hp} {p : Addr} {o : HO} (h0 : H0 p = none) (h : H p = some o) : fr H0 H p = some o := by rw [fr_new h0]; exact h
section
variable {P : Program} {w : World} {K : PySem.W.Frag} {mg : Str → Option Value} {base : Heap} {C : Addr}
/-! ### _law_relation -/
abbrev sLr : Stmt := top 25
abbrev nLr : List Str := ["box", "modulus", "ranges", "turn", "low"]
theorem scLr : FnScope nLr ["box"] (defScope sLr) := ⟨rfl, rfl, rfl, by decide +kernel, rfl, by decide +kernel, by decide +kernel⟩
def spLr : Sp := fun vs H Q _ => ∃ (B d : Addr), vs = [.ref B] ∧ Box H B d ∧ ∀ v x H', Go B H H' → Box H' B d → RelAt (fr H H') x v → RelOk x → Q v H'
theorem ok_lr {f fD : Addr} {fd fdD : FuncData} (F : Fun K "_law_relation" "_law_relation" sLr f fd)
    (GD : FnOk P w K mg base CX0 1 fD fdD ["box", "many"] spDraw) (bD : Binds K fdD ["box", "many"] []) (kD : PySem.W.keepIn K (.ref fD) = true) (mD : mg "_law_draw" = some (.ref fD))
    (mr : mg "range" = none) (mi : mg "int" = none) :
    FnOk P w K mg base CX0 2 f fd ["box"] spLr := by
  refine F.ok scLr (fun vs H Q E h => ?_) (fun cdv A outer s H vs Q E hr h => ?_)
  · obtain ⟨B, d, rfl, _⟩ := h
    rfl
  obtain ⟨B, d, rfl, hb, q⟩ := h
  have nd := scLr.nd
  refine ⟨_, pss_cons (ps_set (i := 1) nd rfl (.inl rfl) (pe_ix ix_list (pe_lst (pa_cons pe_int (pa_cons pe_int (pa_cons pe_int (pa_cons pe_int (pa_cons pe_int (pa_cons pe_int (pa_cons pe_int pa_nil))))))))
      (pe_call GD hr rfl mD kD bD .nil pass0 (pa_cons (pv 0) (pa_cons pe_int pa_nil))) (fun _ _ => rfl)))
    (pss_cons (ps_set (i := 2) nd rfl (.inl rfl) (pe_lst pa_nil))
    (pss_cons (ps_for PassesOwn.never rfl (pi_range1 rfl mr (pa_cons (pe_op op_add pe_int (pe_call GD hr rfl mD kD bD .nil pass0 (pa_cons (pv 0) (pa_cons pe_int pa_nil)))) pa_nil)) (pg_name (i := 3) nd rfl (.inl rfl))
      (pss_cons (ps_set (i := 4) nd rfl (.inl rfl) (pe_call GD hr rfl mD kD bD .nil pass0 (pa_cons (pv 0) (pa_cons
          (pe_ix ix_list (pe_lst (pa_cons pe_int (pa_cons pe_int pa_nil))) (pe_callTy call_int1 (by rfl) mi (by decide +kernel) (pa_cons (pe_cmpR op_in_seq (pv 1) (pe_tup (pa_cons pe_int (pa_cons pe_int (pa_cons pe_int pa_nil)))) (by rfl)) pa_nil)) (fun _ _ => rfl)) pa_nil))))
      (pss_one (ps_expr (pe_bm PySem.F.plainAttrs_list PySem.F.slot_list_append PySem.F.type_list_append mt_append (pv 2) (pa_cons
          (pe_tup (pa_cons (pv 4) (pa_cons (pe_op op_add (pv 4) (pe_ix ix_list (pe_lst (pa_cons pe_int (pa_cons pe_int (pa_cons pe_int (pa_cons pe_int pa_nil))))) (pe_call GD hr rfl mD kD bD .nil pass0 (pa_cons (pv 0) (pa_cons pe_int pa_nil))) (fun _ _ => rfl))) pa_nil))) pa_nil))))))
    (pss_one (ps_ret (pe_tup (pa_cons (pv 1) (pa_cons (pe_cmpR op_gt (pe_call GD hr rfl mD kD bD .nil pass0 (pa_cons (pv 0) (pa_cons pe_int pa_nil))) pe_int (nomark _)) (pa_cons (pv 2) pa_nil)))))))), ?_⟩
  refine ⟨by show 7 ≤ sizeLine; decide, fun l hl => ?_⟩
  have lB := hb.neB hl
  refine ⟨_, rfl, B, d, 7, rfl, by decide, hb.new hl _, fun z H2 z0 z1 g2 b2 => ?_⟩
  obtain ⟨m, hm, hat⟩ := pick (l := ([0, 0, 2, 3, 4, 10, 100] : List Int)) (g := V.int) (z := z) z0 (by show z < ((7 : Nat) : Int); omega)
  have hm0 : 0 ≤ m := (by decide : ∀ m ∈ ([0, 0, 2, 3, 4, 10, 100] : List Int), 0 ≤ m) m hm
  have hmk : m = 0 ∨ (2 ≤ m ∧ m ≤ 100 ∧ m ∣ 300) := (by decide : ∀ m ∈ ([0, 0, 2, 3, 4, 10, 100] : List Int), m = 0 ∨ (2 ≤ m ∧ m ≤ 100 ∧ m ∣ 300)) m hm
  refine ⟨l, _, z, .int m, rfl, rfl, SqL.of (g2.ext _ _ lB upd_same), hat, ?_⟩
  have G02 : Go B H H2 := (Go.new hl _).trans g2
  refine ⟨Nat.zero_le _, fun rl hrl => ?_⟩
  have rB := b2.neB hrl
  have hrl0 : H rl = none := G02.dom rl hrl
  generalize hH3 : upd H2 rl (.lst []) = H3
  have hrl3 : H3 rl = some (.lst []) := by rw [← hH3]; exact upd_same
  have b3 : Box H3 B d := by rw [← hH3]; exact b2.new hrl _
  have G03 : Go B H H3 := by rw [← hH3]; exact G02.trans (Go.new hrl _)
  obtain ⟨ob3, hB3⟩ := b3.isB
  refine ⟨_, rfl, B, d, 3, rfl, by decide, b3, fun y H4 y0 y3 g4 b4 => ⟨_, _, rfl, rfl, ?_⟩⟩
  refine ⟨1 + y, rfl, by omega, by omega, for_range (lo := 0) (n := (1 + y).toNat) (fun i σ H' => ∃ (rs : List Rg) (vs : List V) (o3 o4 : Option V), σ = [some (.ref B), some (.int m), some (.ref rl), o3, o4] ∧ Go B H H' ∧ (∀ b, H' b = none → H3 b = none) ∧ Box H' B d ∧ H' rl = some (.lst vs) ∧ A2 (RgAt (fr H3 H')) rs vs ∧ vs.length = i ∧ ∀ r ∈ rs, RgOk r)
    ⟨[], [], _, _, rfl, G03.trans g4, g4.dom, b4, g4.ext _ _ rB hrl3, rfl, rfl, fun r h => by cases h⟩ ?_ ?_⟩
  · rintro i σ H5 hi ⟨rs, vs, o3, o4, rfl, g5, dm, b5, hrl5, ha5, hlen, hok⟩
    refine ⟨_, rfl, by show 2 ≤ sizeLine; decide, fun l2 hl2 => ?_⟩
    have l2B := b5.neB hl2
    have b6 := b5.new hl2 (.lst [.int 12, .int 4])
    have e6 := Go.new (B := B) hl2 (.lst [.int 12, .int 4])
    refine ⟨_, rfl, by show 3 ≤ sizeLine; decide, fun t2 ht2 => ?_⟩
    have b7 := b6.new ht2 (.tup [.int 2, .int 3, .int 4])
    have e7 := Go.new (B := B) ht2 (.tup [.int 2, .int 3, .int 4])
    refine ⟨t2, _, rfl, .inr (.inl (.inl upd_same)), rfl, rfl, .inr ⟨_, rfl, ?_⟩⟩
    have pickb : ∀ k : Bool, ∃ y, y ∈ ([12, 4] : List Int) ∧ atI (([12, 4] : List Int).map V.int) (if k then 1 else 0) = some (.int y) := fun k => by
      cases k
      · exact ⟨12, by decide, rfl⟩
      · exact ⟨4, by decide, rfl⟩
    obtain ⟨y2, hy2, hat2⟩ := pickb (inV (V.int m) [.int 2, .int 3, .int 4])
    have hy20 : 0 < y2 := (by decide : ∀ m ∈ ([12, 4] : List Int), 0 < m) y2 hy2
    have hy21 : y2 ≤ 12 := (by decide : ∀ m ∈ ([12, 4] : List Int), m ≤ 12) y2 hy2
    refine ⟨l2, _, _, .int y2, rfl, rfl, SqL.of (e7.ext _ _ l2B upd_same), hat2, ?_⟩
    refine ⟨B, d, y2, rfl, hy20, b7, fun lo H8 lo0 lo1 g8 b8 => ?_⟩
    have G58 := (e6.trans e7).trans g8
    have hrl8 := G58.ext _ _ rB hrl5
    refine ⟨_, rfl, .inl ⟨rfl, _, SqL.of hrl8⟩, _, rfl, _, rfl, by show 4 ≤ sizeLine; decide, fun l4 hl4 => ?_⟩
    have l4B := b8.neB hl4
    have b9 := b8.new hl4 (.lst [.int 0, .int 0, .int 1, .int 3])
    have e9 := Go.new (B := B) hl4 (.lst [.int 0, .int 0, .int 1, .int 3])
    refine ⟨_, rfl, B, d, 4, rfl, by decide, b9, fun u HA u0 u1 gA bA => ?_⟩
    obtain ⟨x4, hx4, hat4⟩ := pick (l := ([0, 0, 1, 3] : List Int)) (g := V.int) (z := u) u0 (by show u < ((4 : Nat) : Int); omega)
    have hx5 : 0 ≤ x4 ∧ x4 ≤ 3 := (by decide : ∀ m ∈ ([0, 0, 1, 3] : List Int), 0 ≤ m ∧ m ≤ 3) x4 hx4
    refine ⟨l4, _, u, .int x4, rfl, rfl, SqL.of (gA.ext _ _ l4B upd_same), hat4, _, _, rfl, rfl, by show 2 ≤ sizeLine; decide, fun p hp => ?_⟩
    have G5A := (G58.trans e9).trans gA
    have eB := Go.new (B := B) hp (.tup [.int lo, .int (lo + x4)])
    have G5B := G5A.trans eB
    have hrlB := G5B.ext _ _ rB hrl5
    have bB := bA.new hp (.tup [.int lo, .int (lo + x4)])
    have hrd : rl ≠ d := b2.neD hrl
    have h3p : H3 p = none := dm p (G5A.dom p hp)
    have prl : p ≠ rl := by rintro rfl; rw [hrl3] at h3p; cases h3p
    refine ⟨rl, vs, _, rfl, rfl, hrlB, sz_line (by omega), rs ++ [(lo, lo + x4)], _, _, _, rfl, (g5.trans G5B).mut hrl0 _, fun b hb => dm b (G5B.dom b (upd_none hb)), bB.mut rB hrd _, upd_same, ?_, by rw [List.length_append, hlen]; rfl, fun r hr => (List.mem_append.mp hr).elim (hok r) fun h => List.mem_singleton.mp h ▸ ⟨lo0, by show lo ≤ lo + x4; omega, by show lo + x4 ≤ 20; omega⟩⟩
    refine A2.snoc (ha5.mono fun x v h => ?_) ⟨p, rfl, fr_new_obj h3p (by rw [upd_ne prl]; exact upd_same)⟩
    exact RgAt.same ((fr_go hB3 G5B).trans (fr_mut hrl3 _)) x v h
  · rintro σ H5 ⟨rs, vs, o3, o4, rfl, g5, dm, b5, hrl5, ha5, hlen, hok⟩
    have G0e := g5
    obtain ⟨ob, hB0⟩ := hb.isB
    refine ⟨_, rfl, _, rfl, B, d, 3, rfl, by decide, b5, fun u H6 u0 u3 g6 b6 => ⟨_, _, rfl, rfl, _, rfl, by show 3 ≤ sizeLine; decide, fun p hp => ?_⟩⟩
    have G6 := g6.trans (Go.new (B := B) hp (.tup [.int m, .bl (decide (0 < u)), .ref rl]))
    refine q (.ref p) (m, decide (0 < u), rs) _ (G0e.trans G6) (b6.new hp _) ⟨p, .ref rl, rfl, fr_new_obj ((G0e.trans g6).dom p hp) upd_same, ⟨rl, vs, rfl, fr_new_obj hrl0 (G6.ext _ _ rB hrl5), ha5.mono fun x v h => ?_, by omega⟩, hm0⟩ ⟨hmk, fun e => ?_, ?_, hok⟩
    · exact RgAt.same ((fr_dom G03.dom).trans (fr_go (B := B) hB0 G6)) x v h
    · have h1 := ha5.length
      have e : rs = [] := e
      rw [e, hlen] at h1
      simp at h1
      omega
    · have h1 := ha5.length
      show rs.length ≤ 3
      omega
end
end Mw

namespace Mw
open PySem L2
section
variable {P : Program} {w : World} {K : PySem.W.Frag} {mg : Str → Option Value} {base : Heap} {C : Addr}
/-! ### _law_condition -/
abbrev sLn : Stmt := top 26
abbrev nLn : List Str := ["box", "rows", "turn", "k"]
theorem scLn : FnScope nLn ["box"] (defScope sLn) := ⟨rfl, rfl, rfl, by decide +kernel, rfl, by decide +kernel, by decide +kernel⟩
def spLn : Sp := fun vs H Q _ => ∃ (B d : Addr), vs = [.ref B] ∧ Box H B d ∧ ∀ v x H', Go B H H' → Box H' B d → ConAt (fr H H') x v → ConOk x → Q v H'
theorem ok_ln {f fD fR : Addr} {fd fdD fdR : FuncData} (F : Fun K "_law_condition" "_law_condition" sLn f fd)
    (GD : FnOk P w K mg base CX0 1 fD fdD ["box", "many"] spDraw) (bD : Binds K fdD ["box", "many"] []) (kD : PySem.W.keepIn K (.ref fD) = true) (mD : mg "_law_draw" = some (.ref fD))
    (GR : FnOk P w K mg base CX0 2 fR fdR ["box"] spLr) (bR : Binds K fdR ["box"] []) (kR : PySem.W.keepIn K (.ref fR) = true) (mR : mg "_law_relation" = some (.ref fR))
    (mr : mg "range" = none) :
    FnOk P w K mg base CX0 3 f fd ["box"] spLn := by
  refine F.ok scLn (fun vs H Q E h => ?_) (fun cdv A outer s H vs Q E hr h => ?_)
  · obtain ⟨B, d, rfl, _⟩ := h
    rfl
  obtain ⟨B, d, rfl, hb, q⟩ := h
  have nd := scLn.nd
  refine ⟨_, pss_cons (ps_set (i := 1) nd rfl (.inl rfl) (pe_lst pa_nil))
    (pss_cons (ps_for PassesOwn.never rfl (pi_range1 rfl mr (pa_cons (pe_op op_add pe_int (pe_call GD (hr.mono (by decide)) rfl mD kD bD .nil pass0 (pa_cons (pv 0) (pa_cons pe_int pa_nil)))) pa_nil)) (pg_name (i := 2) nd rfl (.inl rfl))
      (pss_one (ps_expr (pe_bm PySem.F.plainAttrs_list PySem.F.slot_list_append PySem.F.type_list_append mt_append (pv 1) (pa_cons
          (pe_lc (own := [("k", 3)]) (g := gName 3) (tt := tYes) (te := tCall spLr [] E0 (tCons (tVar 0) tNil)) rfl nd (pi_range1 rfl mr (pa_cons (pe_op op_add pe_int (pe_call GD (hr.mono (by decide)) rfl mD kD bD .nil pass0 (pa_cons (pv 0) (pa_cons pe_int pa_nil)))) pa_nil)) (blkOk_by (N := nLn) (sc := defScope sLn) (by decide +kernel))
            (fun _ _ _ _ _ => pg_name (i := 3) nd rfl (.inl rfl)) (fun _ _ _ _ _ => pts_nil)
            (fun _ _ _ _ _ => pe_call GR hr rfl mR kR bR .nil pass0 (pa_cons (pv 0) pa_nil))) pa_nil)))))
    (pss_one (ps_ret (pv 1)))), ?_⟩
  refine ⟨Nat.zero_le _, fun rl hrl => ?_⟩
  have rB := hb.neB hrl
  have rd := hb.neD hrl
  generalize hH3 : upd H rl (.lst []) = H3
  have hrl3 : H3 rl = some (.lst []) := by rw [← hH3]; exact upd_same
  have b3 : Box H3 B d := by rw [← hH3]; exact hb.new hrl _
  have G03 : Go B H H3 := by rw [← hH3]; exact Go.new hrl _
  obtain ⟨ob3, hB3⟩ := b3.isB
  obtain ⟨ob, hB0⟩ := hb.isB
  refine ⟨_, rfl, B, d, 2, rfl, by decide, b3, fun y H4 y0 y3 g4 b4 => ⟨_, _, rfl, rfl, ?_⟩⟩
  refine ⟨1 + y, rfl, by omega, by omega, for_range (lo := 0) (n := (1 + y).toNat) (fun i σ H' => ∃ (x : List (List Rel)) (vs : List V) (o2 o3 : Option V), σ = [some (.ref B), some (.ref rl), o2, o3] ∧ Go B H H' ∧ (∀ b, H' b = none → H3 b = none) ∧ Box H' B d ∧ H' rl = some (.lst vs) ∧ A2 (RowAt (fr H3 H')) x vs ∧ vs.length = i ∧ ∀ r ∈ x, r ≠ [] ∧ r.length ≤ 2 ∧ ∀ z ∈ r, RelOk z)
    ⟨[], [], _, _, rfl, G03.trans g4, g4.dom, b4, g4.ext _ _ rB hrl3, rfl, rfl, fun r h => by cases h⟩ ?_ ?_⟩
  · rintro i σ H5 hi ⟨x, vs, o2, o3, rfl, g5, dm, b5, hrl5, ha5, hlen, hne⟩
    refine ⟨_, rfl, .inl ⟨rfl, _, SqL.of hrl5⟩, ?_⟩
    refine ⟨_, rfl, B, d, 2, rfl, by decide, b5, fun u H6 u0 u2 g6 b6 => ⟨_, _, rfl, rfl, ?_⟩⟩
    refine ⟨1 + u, rfl, by omega, by omega, fun D hD => ?_⟩
    have DB := b6.neB hD
    have Dd := b6.neD hD
    have DH3 : H3 D = none := dm D (g6.dom D hD)
    have hrl6 := g6.ext _ _ rB hrl5
    have Drl : D ≠ rl := (ne_of_none hrl6 hD).symm
    generalize hH7 : upd H6 D (.lst []) = H7
    have hD7 : H7 D = some (.lst []) := by rw [← hH7]; exact upd_same
    have b7 : Box H7 B d := by rw [← hH7]; exact b6.new hD _
    have G67 : Go B H6 H7 := by rw [← hH7]; exact Go.new hD _
    have h7none : ∀ b, H7 b = none → H3 b = none := fun b hb => dm b (g6.dom b (G67.dom b hb))
    rw [← hH7]
    refine lc_range (lo := 0) (n := (1 + u).toNat) (fun j H' => ∃ (r : List Rel) (ws : List V), Go B H6 H' ∧ (∀ b, H' b = none → H7 b = none) ∧ Box H' B d ∧ H' D = some (.lst ws) ∧ A2 (RelAt (fr H7 H')) r ws ∧ ws.length = j ∧ ∀ z ∈ r, RelOk z) ⟨[], [], by rw [hH7]; exact G67, by rw [hH7]; exact fun _ h => h, by rw [hH7]; exact b7, by rw [hH7]; exact hD7, rfl, rfl, fun z h => by cases h⟩ ?_ ?_
    · rintro j H8 hj ⟨r, ws, g8, dm8, b8, hD8, ha8, hl8, hz8⟩
      refine ⟨rfl, _, rfl, B, d, rfl, b8, fun v z H9 g9 b9 hz hzo => ?_⟩
      have hD9 := g9.ext _ _ DB hD8
      obtain ⟨ob7, hB7⟩ := b7.isB
      refine ⟨ws, hD9, sz_line (by omega), r ++ [z], ws ++ [v], (g8.trans g9).mut hD _, fun b hb => dm8 b (g9.dom b (upd_none hb)), b9.mut DB Dd _, upd_same, ?_, by rw [List.length_append, hl8]; rfl, fun z' hz' => (List.mem_append.mp hz').elim (hz8 z') fun h => List.mem_singleton.mp h ▸ hzo⟩
      refine A2.snoc (ha8.mono fun x v h => RelAt.same ((fr_go hB7 g9).trans (fr_mut hD7 _)) x v h) ?_
      exact RelAt.same ((fr_dom dm8).trans (fr_mut hD7 _)) z v hz
    · rintro H8 ⟨r, ws, g8, dm8, b8, hD8, ha8, hl8, hz8⟩
      have G58 := g6.trans g8
      have hrl8 := G58.ext _ _ rB hrl5
      refine ⟨rl, vs, _, rfl, rfl, hrl8, sz_line (by omega), x ++ [r], vs ++ [.ref D], _, _, rfl, (g5.trans G58).mut hrl _, fun b hb => dm b (G58.dom b (upd_none hb)), b8.mut rB rd _, upd_same, ?_, by rw [List.length_append, hlen]; rfl, ?_⟩
      · refine A2.snoc (ha5.mono fun x v h => RowAt.same ((fr_go hB3 G58).trans (fr_mut hrl3 _)) x v h) ?_
        refine ⟨D, ws, rfl, fr_new_obj DH3 (by rw [upd_ne Drl]; exact hD8), ha8.mono fun x v h => ?_, by omega⟩
        exact RelAt.same ((fr_dom h7none).trans (fr_mut hrl3 _)) x v h
      · intro r' hr'
        rcases List.mem_append.mp hr' with h | h
        · exact hne r' h
        · rw [List.mem_singleton] at h
          subst h
          have h1 := ha8.length
          refine ⟨fun e => ?_, by omega, hz8⟩
          rw [e, hl8] at h1
          simp at h1
          omega
  · rintro σ H5 ⟨x, vs, o2, o3, rfl, g5, dm, b5, hrl5, ha5, hlen, hne⟩
    refine ⟨_, rfl, q (.ref rl) x H5 g5 b5 ⟨rl, vs, rfl, fr_new_obj hrl hrl5, ha5.mono fun x v h => RowAt.same (fr_dom G03.dom) x v h, by omega⟩ ⟨fun e => ?_, ?_, hne⟩⟩
    · have h1 := ha5.length
      rw [e, hlen] at h1
      simp at h1
      omega
    · have h1 := ha5.length
      omega
end
end Mw

namespace Mw
open PySem L2
section
variable {P : Program} {w : World} {K : PySem.W.Frag} {mg : Str → Option Value} {base : Heap} {C : Addr}
/-! ### _law_rules -/
abbrev sLu : Stmt := top 27
abbrev nLu : List Str := ["box", "rules", "category"]
theorem scLu : FnScope nLu ["box"] (defScope sLu) := ⟨rfl, rfl, rfl, by decide +kernel, rfl, by decide +kernel, by decide +kernel⟩
def spLu : Sp := fun vs H Q _ => ∃ (B d : Addr), vs = [.ref B] ∧ Box H B d ∧ ∀ v x H', Go B H H' → Box H' B d → RusAt (fr H H') x v → LanOk x → Q v H'
theorem ok_lu {f fD fR : Addr} {fd fdD fdR : FuncData} (F : Fun K "_law_rules" "_law_rules" sLu f fd)
    (GD : FnOk P w K mg base CX0 1 fD fdD ["box", "many"] spDraw) (bD : Binds K fdD ["box", "many"] []) (kD : PySem.W.keepIn K (.ref fD) = true) (mD : mg "_law_draw" = some (.ref fD))
    (GR : FnOk P w K mg base CX0 3 fR fdR ["box"] spLn) (bR : Binds K fdR ["box"] []) (kR : PySem.W.keepIn K (.ref fR) = true) (mR : mg "_law_condition" = some (.ref fR)) :
    FnOk P w K mg base CX0 4 f fd ["box"] spLu := by
  refine F.ok scLu (fun vs H Q E h => ?_) (fun cdv A outer s H vs Q E hr h => ?_)
  · obtain ⟨B, d, rfl, _⟩ := h
    rfl
  obtain ⟨B, d, rfl, hb, q⟩ := h
  have nd := scLu.nd
  refine ⟨_, pss_cons (ps_set (i := 1) nd rfl (.inl rfl) (pe_lst pa_nil))
    (pss_cons (ps_for PassesOwn.never rfl (pi_list (pe_lst (pa_cons pe_str (pa_cons pe_str (pa_cons pe_str (pa_cons pe_str (pa_cons pe_str pa_nil))))))) (pg_name (i := 2) nd rfl (.inl rfl))
      (pss_one (ps_if (pt_cmpR op_eq (pe_call GD (hr.mono (by decide)) rfl mD kD bD .nil pass0 (pa_cons (pv 0) (pa_cons pe_int pa_nil))) pe_int (nomark _))
        (pss_one (ps_expr (pe_bm PySem.F.plainAttrs_list PySem.F.slot_list_append PySem.F.type_list_append mt_append (pv 1) (pa_cons
          (pe_tup (pa_cons (pv 2) (pa_cons (pe_call GR hr rfl mR kR bR .nil pass0 (pa_cons (pv 0) pa_nil)) pa_nil))) pa_nil)))) pss_nil)))
    (pss_one (ps_ret (pv 1)))), ?_⟩
  refine ⟨Nat.zero_le _, fun rl hrl => ?_⟩
  have rB := hb.neB hrl
  have rd := hb.neD hrl
  generalize hH3 : upd H rl (.lst []) = H3
  have hrl3 : H3 rl = some (.lst []) := by rw [← hH3]; exact upd_same
  have b3 : Box H3 B d := by rw [← hH3]; exact hb.new hrl _
  have G03 : Go B H H3 := by rw [← hH3]; exact Go.new hrl _
  obtain ⟨ob3, hB3⟩ := b3.isB
  refine ⟨by show 5 ≤ sizeLine; decide, fun l hl => ?_⟩
  have lB := b3.neB hl
  have lrl : l ≠ rl := (ne_of_none hrl3 hl).symm
  refine ⟨l, rfl, ⟨_, SqL.of upd_same⟩, ?_⟩
  have G3 := Go.new (B := B) hl (.lst [.str "zero", .str "one", .str "two", .str "few", .str "many"])
  refine for_list (xs := [.str "zero", .str "one", .str "two", .str "few", .str "many"]) (fun i σ H' => ∃ (x : List Rule) (vs : List V) (o2 : Option V), σ = [some (.ref B), some (.ref rl), o2] ∧ Go B H H' ∧ (∀ b, H' b = none → H3 b = none) ∧ Box H' B d ∧ H' rl = some (.lst vs) ∧ A2 (RuAt (fr H3 H')) x vs ∧ vs.length ≤ i ∧ H' l = some (.lst [.str "zero", .str "one", .str "two", .str "few", .str "many"]) ∧ (x.map (·.1)).Sublist (cats.take i) ∧ ∀ r ∈ x, ConOk r.2)
    ⟨[], [], _, rfl, G03.trans G3, G3.dom, b3.new hl _, G3.ext _ _ rB hrl3, rfl, Nat.le_refl _, upd_same, List.nil_sublist _, fun r h => by cases h⟩ (fun i σ H' _ ⟨x, vs, o2, _, _, _, _, _, _, _, e, _⟩ => SqL.of e) ?_ ?_
  · rintro i y σ H5 hx ⟨x, vs, o2, rfl, g5, dm, b5, hrl5, ha5, hlen, hl5, hsub, hco⟩
    have hi : i < 5 := get_lt hx
    have hy : ∃ c, y = V.str c ∧ cats[i]? = some c := by
      have h5 : ([.str "zero", .str "one", .str "two", .str "few", .str "many"] : List V) = cats.map V.str := rfl
      rw [h5, List.getElem?_map] at hx
      cases hc : cats[i]? with
      | none => rw [hc] at hx; cases hx
      | some c => rw [hc] at hx; cases hx; exact ⟨c, rfl, rfl⟩
    obtain ⟨c, rfl, hci⟩ := hy
    have htk : cats.take (i + 1) = cats.take i ++ [c] := by rw [List.take_succ, hci]; rfl
    refine ⟨_, rfl, B, d, 3, rfl, by decide, b5, fun u H6 u0 u2 g6 b6 => ⟨rfl, _, rfl, ?_⟩⟩
    have hrl6 := g6.ext _ _ rB hrl5
    have hl6 := g6.ext _ _ lB hl5
    refine ite2 (fun cc => ?_) (fun cc => ?_)
    · refine ⟨_, rfl, .inl ⟨rfl, _, SqL.of hrl6⟩, _, rfl, _, rfl, B, d, rfl, b6, fun v z H7 g7 b7 hz hzo => ⟨by show 2 ≤ sizeLine; decide, fun p hp => ?_⟩⟩
      have G57 := g6.trans g7
      have eB := Go.new (B := B) hp (.tup [.str c, v])
      have G5 := G57.trans eB
      have h3p : H3 p = none := dm p (G57.dom p hp)
      have prl : p ≠ rl := by rintro rfl; rw [hrl3] at h3p; cases h3p
      obtain ⟨ob6, hB6⟩ := b6.isB
      refine ⟨rl, vs, _, rfl, rfl, G5.ext _ _ rB hrl5, sz_line (by omega), x ++ [(c, z)], _, _, rfl, (g5.trans G5).mut hrl _, fun b hb => dm b (G5.dom b (upd_none hb)), (b7.new hp _).mut rB rd _, upd_same, ?_, by rw [List.length_append]; show vs.length + 1 ≤ i + 1; omega, by rw [upd_ne lrl]; exact G5.ext _ _ lB hl5, by rw [List.map_append, htk]; exact hsub.append (List.Sublist.refl _), fun r hr => (List.mem_append.mp hr).elim (hco r) fun h => List.mem_singleton.mp h ▸ hzo⟩
      refine A2.snoc (ha5.mono fun x v h => RuAt.same ((fr_go hB3 G5).trans (fr_mut hrl3 _)) x v h) ⟨p, v, rfl, fr_new_obj h3p (by rw [upd_ne prl]; exact upd_same), ?_⟩
      exact ConAt.same ((fr_dom fun b hb => dm b (g6.dom b hb)).trans ((fr_go hB3 eB).trans (fr_mut hrl3 _))) z v hz
    · exact ⟨x, vs, _, rfl, g5.trans g6, fun b hb => dm b (g6.dom b hb), b6, hrl6, ha5.mono fun x v h => RuAt.same (fr_go hB3 g6) x v h, by omega, hl6, by rw [htk]; exact hsub.trans (List.sublist_append_left _ _), hco⟩
  · rintro σ H5 ⟨x, vs, o2, rfl, g5, dm, b5, hrl5, ha5, hlen, hl5, hsub, hco⟩
    refine ⟨_, rfl, q (.ref rl) x H5 g5 b5 ⟨rl, vs, rfl, fr_new_obj hrl hrl5, ha5.mono fun x v h => RuAt.same (fr_dom G03.dom) x v h, ?_⟩ ⟨hsub, hco⟩⟩
    have h5 : vs.length ≤ 5 := hlen
    omega
end
end Mw

namespace Mw
open PySem L2
/-! ### a heap without some addresses -/
def hids (L : List Addr) (H : Hp) : Hp := fun a => if a ∈ L then none else H a
theorem hids_ne {L : List Addr} {a : Addr} {H : Hp} (h : a ∉ L) : hids L H a = H a := by
  unfold hids
  rw [if_neg h]
theorem hids_in {L : List Addr} {a : Addr} {H : Hp} {o : HO} (h : hids L H a = some o) : a ∉ L ∧ H a = some o := by
  unfold hids at h
  split at h
  · cases h
  · exact ⟨by assumption, h⟩
theorem hids_same {L : List Addr} {H H1 : Hp} (s : Same H H1) : Same (hids L H) (hids L H1) := fun a o h => by
  obtain ⟨h1, h2⟩ := hids_in h
  rw [hids_ne h1]
  exact s _ _ h2
theorem hids_add {L : List Addr} {l : Addr} {H H1 : Hp} (hl : H l = none) (s : Same H H1) : Same (hids L H) (hids (l :: L) H1) := fun a o h => by
  obtain ⟨h1, h2⟩ := hids_in h
  have ne : a ≠ l := by rintro rfl; rw [hl] at h2; cases h2
  rw [hids_ne (by simp [ne, h1])]
  exact s _ _ h2
theorem hids_mut {L : List Addr} {l : Addr} {H : Hp} (hl : l ∈ L) (o : HO) : Same (hids L H) (hids L (upd H l o)) := fun a u h => by
  obtain ⟨h1, h2⟩ := hids_in h
  have ne : a ≠ l := by rintro rfl; exact h1 hl
  rw [hids_ne h1, upd_ne ne]
  exact h2
theorem hids_drop {L : List Addr} {l : Addr} {H : Hp} : Same (hids (l :: L) H) (hids L H) := fun a u h => by
  obtain ⟨h1, h2⟩ := hids_in h
  rw [hids_ne fun z => h1 (List.mem_cons_of_mem _ z)]
  exact h2
theorem hids_sub {L L' : List Addr} {H : Hp} (h : ∀ a ∈ L', a ∈ L) : Same (hids L H) (hids L' H) := fun a u e => by
  obtain ⟨h1, h2⟩ := hids_in e
  rw [hids_ne fun z => h1 (h a z)]
  exact h2
/-- all of L stand in H -/
def In (L : List Addr) (H : Hp) : Prop := ∀ b ∈ L, ∃ o, H b = some o
theorem In.same {L : List Addr} {H H' : Hp} (s : Same H H') (i : In L H) : In L H' := fun b hb => by
  obtain ⟨o, h⟩ := i b hb
  exact ⟨o, s _ _ h⟩
theorem In.new {L : List Addr} {H : Hp} {p : Addr} (i : In L H) (h : H p = none) : p ∉ L := fun hp => by
  obtain ⟨o, e⟩ := i p hp
  rw [h] at e
  cases e
theorem In.cons {L : List Addr} {H : Hp} {l : Addr} {o : HO} (i : In L H) (h : H l = some o) : In (l :: L) H := fun b hb => by
  rcases List.mem_cons.mp hb with rfl | hb
  · exact ⟨o, h⟩
  · exact i b hb
def rLo (K : PySem.W.Frag) : List V → Hp → VK → Prop := fun xs H Q => ∃ p ys, xs = [.ref p] ∧ (SqL K H p ys ∨ SqT K H p ys) ∧ ∀ l, H l = none → Q (.ref l) (upd H l (.lst ys))
section
variable {P : Program} {w : World} {K : PySem.W.Frag} {mg : Str → Option Value} {base : Heap} {C : Addr}
/-! ### copied -/
abbrev sCd : Stmt := top 20
abbrev nCd : List Str := ["condition", "row", "modulus", "inside", "ranges"]
theorem scCd : FnScope nCd ["condition"] (defScope sCd) := ⟨rfl, rfl, rfl, by decide +kernel, rfl, by decide +kernel, by decide +kernel⟩
def spCd : Sp := fun vs H Q _ => ∃ (v : V) (x : List (List Rel)) (L : List Addr), vs = [v] ∧ In L H ∧ ConAt (hids L H) x v ∧ ∀ v' H', Same H H' → ConAt (hids L H') x v' → Q v' H'
theorem ok_cd {f : Addr} {fd : FuncData} (F : Fun K "copied" "copied" sCd f fd) (ml : mg "list" = none) : FnOk P w K mg base CX0 1 f fd ["condition"] spCd := by
  refine F.ok scCd (fun vs H Q E h => ?_) (fun cdv A outer s H vs Q E hr h => ?_)
  · obtain ⟨v, x, L, rfl, _⟩ := h
    rfl
  obtain ⟨v, x, L, rfl, iL, ⟨r, cvs, rfl, hr1, ha, hl⟩, q⟩ := h
  have nd := scCd.nd
  refine ⟨_, pss_one (ps_ret (pe_lc (own := [("row", 1)]) (g := gName 1) (tt := tYes)
      (te := tLc (iList K (tVar 1)) (gTup K 3 (gCons (gName 2) (gCons (gName 3) (gCons (gName 4) gNil)))) tYes (tTup (tCons (tVar 2) (tCons (tVar 3) (tCons (tCB (rLo K) (tCons (tVar 4) tNil)) tNil)))) [2, 3, 4])
      rfl nd (pi_list (pv 0)) (blkOk_by (N := nCd) (sc := defScope sCd) (by decide +kernel)) (fun _ _ _ _ _ => pg_name (i := 1) nd rfl (.inl rfl)) (fun _ _ _ _ _ => pts_nil)
      (fun _ _ _ _ _ => by
        refine pe_lc (own := [("modulus", 2), ("inside", 3), ("ranges", 4)]) rfl nd (pi_list (pv 1)) ?_ (fun _ _ _ _ _ => ?_) (fun _ _ _ _ _ => pts_nil) (fun _ _ _ _ _ => ?_)
        · exact blkOk_by (N := nCd) (sc := { kind := .function, names := [(".0", .local), ("row", .local)], isGenerator := false, isCoroutine := false }) (by decide +kernel)
        · exact pg_tup rfl (pgs_cons (pg_name (i := 2) nd rfl (.inl rfl)) (pgs_cons (pg_name (i := 3) nd rfl (.inl rfl)) (pgs_cons (pg_name (i := 4) nd rfl (.inl rfl)) pgs_nil)))
        · exact pe_tup (pa_cons (pv 2) (pa_cons (pv 3) (pa_cons (pe_callTy call_list_of (by rfl) ml (by decide +kernel) (pa_cons (pv 4) pa_nil)) pa_nil)))))), ?_⟩
  have hr1' := (hids_in hr1).2
  refine ⟨_, rfl, r, rfl, ⟨_, SqL.of hr1'⟩, fun D hD => ?_⟩
  have s1 : Same H (upd H D (.lst [])) := same_new hD _
  have hlen := ha.length
  refine lc_list (xs := cvs) (fun j H' => ∃ vs, Same H H' ∧ H' D = some (.lst vs) ∧ A2 (RowAt (hids (D :: L) H')) (x.take j) vs) ⟨[], s1, upd_same, rfl⟩ (fun j H' _ ⟨_, s', _⟩ => SqL.of (s' _ _ hr1')) ?_ ?_
  · rintro j y H' hx ⟨vs, s', hD', ha'⟩
    obtain ⟨row, hz, rr, rvs, rfl, hrr, har, hlr⟩ := A2.get ha hx
    have hrr' := s' _ _ (hids_in hrr).2
    have hlt := get_lt hx
    have hlen2 := har.length
    have hvl := ha'.length
    rw [List.length_take] at hvl
    refine ⟨rfl, _, rfl, rr, rfl, ⟨_, SqL.of hrr'⟩, fun D2 hD2 => ?_⟩
    have s2 : Same H' (upd H' D2 (.lst [])) := same_new hD2 _
    have hne : D ≠ D2 := ne_of_none hD' hD2
    refine lc_list (xs := rvs) (fun k H2 => ∃ ws, Same H' H2 ∧ H2 D2 = some (.lst ws) ∧ A2 (RelAt (hids (D2 :: D :: L) H2)) (row.take k) ws) ⟨[], s2, upd_same, rfl⟩ (fun k H2 _ ⟨_, s3, _⟩ => SqL.of (s3 _ _ hrr')) ?_ ?_
    · rintro k y2 H2 hx2 ⟨ws, s3, hD22, ha2⟩
      obtain ⟨⟨m, ins, rs⟩, hz2, p, qv, rfl, hp, ⟨ra, gvs, rfl, hra, hag, hlg⟩, hm⟩ := A2.get har hx2
      have s02 := s'.trans s3
      have hlt2 := get_lt hx2
      have hwl := ha2.length
      rw [List.length_take] at hwl
      refine ⟨p, _, rfl, .inl (.inl (s02 _ _ (hids_in hp).2)), rfl, .int m, _, rfl, .bl ins, _, rfl, .ref ra, [], rfl, rfl, rfl, ?_⟩
      refine ⟨_, rfl, _, rfl, _, rfl, ra, gvs, rfl, .inl (SqL.of (s02 _ _ (hids_in hra).2)), fun l hl => ⟨by show 3 ≤ sizeLine; decide, fun t ht => ?_⟩⟩
      have e1 : Same H2 (upd H2 l (.lst gvs)) := same_new hl _
      have e2 : Same (upd H2 l (.lst gvs)) (upd (upd H2 l (.lst gvs)) t (.tup [.int m, .bl ins, .ref l])) := same_new ht _
      have s4 := s3.trans (e1.trans e2)
      have hl2 : l ≠ D2 := (ne_of_none hD22 hl).symm
      have ht2 : t ≠ D2 := (ne_of_none (e1 _ _ hD22) ht).symm
      have i2 : In (D2 :: D :: L) H2 := ((iL.same s02).cons (s3 _ _ hD')).cons hD22
      have nl := i2.new hl
      have nt := (i2.same e1).new ht
      refine ⟨ws, (e1.trans e2) _ _ hD22, sz_line (by omega), ws ++ [.ref t], same_mut s4 hD2 _, upd_same, ?_⟩
      rw [List.take_succ, hz2]
      refine A2.snoc (ha2.mono fun x v h => RelAt.same ((hids_same (e1.trans e2)).trans (hids_mut (List.mem_cons_self) _)) x v h) ?_
      refine ⟨t, .ref l, rfl, by rw [hids_ne nt, upd_ne ht2]; exact upd_same, ⟨l, gvs, rfl, ?_, ?_, hlg⟩, hm⟩
      · rw [hids_ne nl, upd_ne hl2]
        exact e2 _ _ upd_same
      · refine hag.mono fun x v h => RgAt.same ?_ x v h
        have z1 : Same (hids L H) (hids (D :: L) H') := hids_add hD s'
        have z2 : Same (hids (D :: L) H') (hids (D2 :: D :: L) (upd (upd H2 l (.lst gvs)) t (.tup [.int m, .bl ins, .ref l]))) := hids_add hD2 s4
        exact (z1.trans z2).trans (hids_mut List.mem_cons_self _)
    · rintro H2 ⟨ws, s3, hD22, ha2⟩
      rw [show row.take rvs.length = row by rw [hlen2, List.take_length]] at ha2
      have hD3 := s3 _ _ hD'
      refine ⟨vs, hD3, sz_line (by omega), vs ++ [.ref D2], same_mut (s'.trans s3) hD _, upd_same, ?_⟩
      rw [List.take_succ, hz]
      have nD2 : D2 ∉ (D :: L) := ((iL.same s').cons hD').new hD2
      refine A2.snoc (ha'.mono fun x v h => RowAt.same ((hids_same s3).trans (hids_mut List.mem_cons_self _)) x v h) ⟨D2, ws, rfl, by rw [hids_ne nD2, upd_ne hne.symm]; exact hD22, ha2.mono fun x v h => RelAt.same (hids_drop.trans (hids_mut List.mem_cons_self _)) x v h, ?_⟩
      have := ha2.length
      omega
  · rintro H' ⟨vs, s', hD', ha'⟩
    rw [show x.take cvs.length = x by rw [hlen, List.take_length]] at ha'
    have nD : D ∉ L := iL.new hD
    refine q (.ref D) H' s' ⟨D, vs, rfl, by rw [hids_ne nD]; exact hD', ha'.mono fun x v h => RowAt.same hids_drop x v h, ?_⟩
    have := ha'.length
    omega
end
end Mw

namespace Mw
open PySem L2
def mth (s : Stmt) (i : Nat) : Stmt := match s with
  | .ClassDef _ _ _ b _ _ _ _ _ _ _ => b.getD i (.Pass ⟨0, 0, 0, 0⟩)
  | s => s
section
variable {P : Program} {w : World} {K : PySem.W.Frag} {mg : Str → Option Value} {base : Heap} {C : Addr}
/-! ### Language.__init__ -/
abbrev sLi : Stmt := mth (top 19) 0
abbrev nLi : List Str := ["self", "rules", "category", "condition"]
theorem scLi : FnScope nLi ["self", "rules"] (defScope sLi) := ⟨rfl, rfl, rfl, by decide +kernel, rfl, by decide +kernel, by decide +kernel⟩
def spLi (C : Addr) : Sp := fun vs H Q _ => ∃ (o dx : Addr) (v : V) (x : List Rule) (L : List Addr), vs = [.ref o, v] ∧ H o = some (.ins C dx []) ∧ In L H ∧ RusAt (hids (o :: L) H) x v ∧
  ∀ q H', (∀ a u, H a = some u → a ≠ o → H' a = some u) → H' o = some (.ins C dx [("rules", q)]) → RusAt (hids (o :: L) H') x q → Q .non H'
theorem ok_li {f fR : Addr} {fd fdR : FuncData} (F : Fun K "__init__" "Language.__init__" sLi f fd) (Lc : LC K C)
    (GR : FnOk P w K mg base CX0 1 fR fdR ["condition"] spCd) (bR : Binds K fdR ["condition"] []) (kR : PySem.W.keepIn K (.ref fR) = true) (mR : mg "copied" = some (.ref fR)) :
    FnOk P w K mg base CX0 2 f fd ["self", "rules"] (spLi C) := by
  refine F.ok scLi (fun vs H Q E h => ?_) (fun cdv A outer s H vs Q E hr h => ?_)
  · obtain ⟨o, dx, v, x, L, rfl, _⟩ := h
    rfl
  obtain ⟨o, dx, v, x, L, rfl, ho, iL, ⟨r, rvs, rfl, hr1, ha, hl⟩, q⟩ := h
  have nd := scLi.nd
  refine ⟨_, pss_one (ps_fld (pv 0) (pe_lc (own := [("category", 2), ("condition", 3)]) (g := gTup K 2 (gCons (gName 2) (gCons (gName 3) gNil))) (tt := tYes)
      (te := tTup (tCons (tVar 2) (tCons (tCall spCd [] E0 (tCons (tVar 3) tNil)) tNil))) rfl nd (pi_list (pv 1)) (blkOk_by (N := nLi) (sc := defScope sLi) (by decide +kernel))
      (fun _ _ _ _ _ => pg_tup rfl (pgs_cons (pg_name (i := 2) nd rfl (.inl rfl)) (pgs_cons (pg_name (i := 3) nd rfl (.inl rfl)) pgs_nil))) (fun _ _ _ _ _ => pts_nil)
      (fun _ _ _ _ _ => pe_tup (pa_cons (pv 2) (pa_cons (pe_call GR hr rfl mR kR bR .nil pass0 (pa_cons (pv 3) pa_nil)) pa_nil)))) rfl), ?_⟩
  have hr1' := (hids_in hr1).2
  have iO : In (o :: L) H := iL.cons ho
  refine ⟨_, rfl, r, rfl, ⟨_, SqL.of hr1'⟩, fun D hD => ?_⟩
  have s1 : Same H (upd H D (.lst [])) := same_new hD _
  have hlen := ha.length
  refine lc_list (xs := rvs) (fun j H' => ∃ vs, Same H H' ∧ H' D = some (.lst vs) ∧ A2 (RuAt (hids (D :: o :: L) H')) (x.take j) vs) ⟨[], s1, upd_same, rfl⟩ (fun j H' _ ⟨_, s', _⟩ => SqL.of (s' _ _ hr1')) ?_ ?_
  · rintro j y H' hx ⟨vs, s', hD', ha'⟩
    obtain ⟨⟨c, z⟩, hz, p, cv, rfl, hp, hcon⟩ := A2.get ha hx
    have hlt := get_lt hx
    have hvl := ha'.length
    rw [List.length_take] at hvl
    have iD : In (D :: o :: L) H' := (iO.same s').cons hD'
    refine ⟨p, _, rfl, .inl (.inl (s' _ _ (hids_in hp).2)), rfl, .str c, _, rfl, cv, [], rfl, rfl, rfl, ?_⟩
    refine ⟨_, rfl, _, rfl, cv, z, D :: o :: L, rfl, iD, hcon.same (hids_add hD s'), fun v' H2 s2 hv' => ⟨by show 2 ≤ sizeLine; decide, fun t ht => ?_⟩⟩
    have e2 : Same H2 (upd H2 t (.tup [.str c, v'])) := same_new ht _
    have hD2 := s2 _ _ hD'
    have nt := (iD.same s2).new ht
    have tD : t ≠ D := fun e => nt (by rw [e]; exact List.mem_cons_self)
    refine ⟨vs, e2 _ _ hD2, sz_line (by omega), vs ++ [.ref t], same_mut ((s'.trans s2).trans e2) hD _, upd_same, ?_⟩
    rw [List.take_succ, hz]
    refine A2.snoc (ha'.mono fun x v h => RuAt.same ((hids_same (s2.trans e2)).trans (hids_mut List.mem_cons_self _)) x v h) ⟨t, v', rfl, by rw [hids_ne nt, upd_ne tD]; exact upd_same, hv'.same ((hids_same e2).trans (hids_mut List.mem_cons_self _))⟩
  · rintro H' ⟨vs, s', hD', ha'⟩
    rw [show x.take rvs.length = x by rw [hlen, List.take_length]] at ha'
    have nD : D ∉ (o :: L) := iO.new hD
    have Do : D ≠ o := fun e => nD (by rw [e]; exact List.mem_cons_self)
    refine ⟨_, rfl, o, C, dx, _, rfl, s' _ _ ho, Lc.c, Lc.nr, by show 0 < 1000; decide, ?_⟩
    refine q (.ref D) _ (fun a u h ne => by rw [upd_ne ne]; exact s' _ _ h) upd_same ⟨D, vs, rfl, by rw [hids_ne nD, upd_ne Do]; exact hD', ha'.mono fun x v h => RuAt.same (hids_drop.trans (hids_mut List.mem_cons_self _)) x v h, ?_⟩
    have := ha'.length
    omega
end
end Mw

namespace Mw
open PySem L2
def spCh : Sp := fun vs H Q _ => ∃ (v : V) (x : List (List Rel)) (n : Int), vs = [v, .int n] ∧ ConAt H x v ∧ ∀ H', Same H H' → Q (.bl (conB n x)) H'
theorem conB_drop {n : Int} {x : List (List Rel)} {i : Nat} {r : List Rel} (h : x[i]? = some r) : conB n (x.drop i) = (r.all (relB n) || conB n (x.drop (i + 1))) := by
  have e : x.drop i = r :: x.drop (i + 1) := by
    rw [List.drop_eq_getElem_cons (get_lt h)]
    obtain ⟨_, h2⟩ := List.getElem?_eq_some_iff.mp h
    rw [h2]
  rw [e]
  rfl
theorem all_take {α : Type} {x : List α} {i : Nat} {r : α} (g : α → Bool) (h : x[i]? = some r) : (x.take (i + 1)).all g = ((x.take i).all g && g r) := by
  rw [List.take_succ, h, List.all_append]
  simp
theorem any_take {α : Type} {x : List α} {i : Nat} {r : α} (g : α → Bool) (h : x[i]? = some r) : (x.take (i + 1)).any g = ((x.take i).any g || g r) := by
  rw [List.take_succ, h, List.any_append]
  simp
section
variable {P : Program} {w : World} {K : PySem.W.Frag} {mg : Str → Option Value} {base : Heap} {C : Addr}
/-! ### _law_holds -/
abbrev sLh : Stmt := top 28
abbrev nLh : List Str := ["condition", "number", "row", "good", "modulus", "inside", "ranges", "value", "within", "low", "high"]
theorem scLh : FnScope nLh ["condition", "number"] (defScope sLh) := ⟨rfl, rfl, rfl, by decide +kernel, rfl, by decide +kernel, by decide +kernel⟩
theorem ok_lh {f : Addr} {fd : FuncData} (F : Fun K "_law_holds" "_law_holds" sLh f fd) (mi : mg "int" = none) : FnOk P w K mg base CX0 1 f fd ["condition", "number"] spCh := by
  refine F.ok scLh (fun vs H Q E h => ?_) (fun cdv A outer s H vs Q E hr h => ?_)
  · obtain ⟨v, x, n, rfl, _⟩ := h
    rfl
  obtain ⟨v, x, n, rfl, ⟨r, cvs, rfl, hr1, ha, hl⟩, q⟩ := h
  have nd := scLh.nd
  refine ⟨_, pss_cons (ps_for PassesOwn.never rfl (pi_list (pv 0)) (pg_name (i := 2) nd rfl (.inl rfl))
      (pss_cons (ps_set (i := 3) nd rfl (.inl rfl) pe_bl)
      (pss_cons (ps_for PassesOwn.never rfl (pi_list (pv 2)) (pg_tup rfl (pgs_cons (pg_name (i := 4) nd rfl (.inl rfl)) (pgs_cons (pg_name (i := 5) nd rfl (.inl rfl)) (pgs_cons (pg_name (i := 6) nd rfl (.inl rfl)) pgs_nil))))
        (pss_cons (ps_set (i := 7) nd rfl (.inl rfl) (pv 1))
        (Evl.pss_cut (ps_if (pt_cmpR op_gt (pv 4) pe_int (nomark _)) (pss_one (ps_set (i := 7) nd rfl (.inl rfl) (pe_op op_mod (pe_callTy call_int1 (by rfl) mi (by decide +kernel) (pa_cons (pv 1) pa_nil)) (pv 4)))) pss_nil)
        (pss_cons (ps_set (i := 8) nd rfl (.inl rfl) pe_bl)
        (pss_cons (ps_for PassesOwn.never rfl (pi_list (pv 6)) (pg_tup rfl (pgs_cons (pg_name (i := 9) nd rfl (.inl rfl)) (pgs_cons (pg_name (i := 10) nd rfl (.inl rfl)) pgs_nil)))
          (pss_one (ps_if (pt_chain op_le op_le (pv 9) (pv 7) (pv 10)) (pss_one (ps_set (i := 8) nd rfl (.inl rfl) pe_bl)) pss_nil)))
        (pss_one (ps_if (pt_cmpR op_ne (pv 8) (pv 5) (nomark _)) (pss_one (ps_set (i := 3) nd rfl (.inl rfl) pe_bl)) pss_nil)))))))
      (pss_one (ps_if (pt_val (pv 3)) (pss_one (ps_ret pe_bl)) pss_nil)))))
    (pss_one (ps_ret pe_bl)), ?_⟩
  refine ⟨_, rfl, r, rfl, ⟨_, SqL.of hr1⟩, ?_⟩
  refine for_list (xs := cvs) (fun i σ H' => H' = H ∧ (∃ o2 o3 o4 o5 o6 o7 o8 o9 o10, σ = [some (.ref r), some (.int n), o2, o3, o4, o5, o6, o7, o8, o9, o10]) ∧ conB n x = conB n (x.drop i)) ⟨rfl, ⟨_, _, _, _, _, _, _, _, _, rfl⟩, rfl⟩ (fun i σ H' _ ⟨e, _⟩ => by rw [e]; exact SqL.of hr1) ?_ ?_
  · rintro i y σ H' hx ⟨rfl, ⟨o2, o3, o4, o5, o6, o7, o8, o9, o10, rfl⟩, hcon⟩
    obtain ⟨row, hz, rr, rvs, rfl, hrr, har, hlr⟩ := A2.get ha hx
    rw [conB_drop hz] at hcon
    refine ⟨_, rfl, rr, rfl, ⟨_, SqL.of hrr⟩, ?_⟩
    refine for_list (xs := rvs) (fun j σ H2 => H2 = H' ∧ (∃ g o4 o5 o6 o7 o8 o9 o10, g = (row.take j).all (relB n) ∧ σ = [some (.ref r), some (.int n), some (.ref rr), some (.bl g), o4, o5, o6, o7, o8, o9, o10])) ⟨rfl, ⟨_, _, _, _, _, _, _, _, rfl, rfl⟩⟩ (fun i σ H2 _ ⟨e, _⟩ => by rw [e]; exact SqL.of hrr) ?_ ?_
    · rintro j y2 σ H2 hx2 ⟨rfl, ⟨g, o4, o5, o6, o7, o8, o9, o10, eg, rfl⟩⟩
      obtain ⟨⟨m, ins, rs⟩, hz2, p, qv, rfl, hp, ⟨ra, gvs, rfl, hra, hag, hlg⟩, hm⟩ := A2.get har hx2
      have hm' : 0 ≤ m := hm
      refine ⟨p, _, rfl, .inl (.inl hp), rfl, .int m, _, rfl, .bl ins, _, rfl, .ref ra, [], rfl, rfl, ?_⟩
      refine ⟨_, rfl, fun σ' H3 => H3 = H2 ∧ σ' = [some (.ref r), some (.int n), some (.ref rr), some (.bl g), some (.int m), some (.bl ins), some (.ref ra), some (.int (lookN m n)), o8, o9, o10], ?_, ?_⟩
      · refine ⟨_, rfl, _, _, rfl, rfl, _, rfl, ?_⟩
        refine ite2 (fun c => ?_) (fun c => ?_)
        · have c' := of_decide_eq_true c
          have e : lookN m n = n % m := by unfold lookN; rw [if_neg (by omega)]
          refine ⟨_, rfl, .inl ⟨n, rfl, _, rfl, _, _, rfl, rfl, c', ?_⟩⟩
          rw [e]
          exact ⟨rfl, rfl⟩
        · have c' := of_decide_eq_false (Bool.eq_false_iff.mpr c)
          have e : lookN m n = n := by unfold lookN; rw [if_pos (by omega)]
          rw [e]
          exact ⟨rfl, rfl⟩
      rintro σ' H3 ⟨rfl, rfl⟩
      refine ⟨_, rfl, ra, rfl, ⟨_, SqL.of hra⟩, ?_⟩
      refine for_list (xs := gvs) (fun k σ H4 => H4 = H3 ∧ (∃ b o9 o10, b = (rs.take k).any (rgB (lookN m n)) ∧ σ = [some (.ref r), some (.int n), some (.ref rr), some (.bl g), some (.int m), some (.bl ins), some (.ref ra), some (.int (lookN m n)), some (.bl b), o9, o10])) ⟨rfl, ⟨_, _, _, rfl, rfl⟩⟩ (fun i σ H4 _ ⟨e, _⟩ => by rw [e]; exact SqL.of hra) ?_ ?_
      · rintro k y3 σ H4 hx3 ⟨rfl, ⟨b, o9, o10, eb, rfl⟩⟩
        obtain ⟨⟨lo, hi⟩, hz3, t, rfl, ht⟩ := A2.get hag hx3
        have e := any_take (rgB (lookN m n)) hz3
        refine ⟨t, _, rfl, .inl (.inl ht), rfl, .int lo, _, rfl, .int hi, [], rfl, rfl, ?_⟩
        refine ⟨_, rfl, _, rfl, _, _, rfl, rfl, _, rfl, ?_⟩
        have put : ∀ b' : Bool, rgB (lookN m n) (lo, hi) = b' → (b || b') = (rs.take (k + 1)).any (rgB (lookN m n)) := fun b' hb => by rw [e, hb, eb]
        refine ite2 (fun c => ?_) (fun c => ?_)
        · refine ⟨_, rfl, _, _, rfl, rfl, _, rfl, ?_⟩
          refine ite2 (fun c2 => ?_) (fun c2 => ?_)
          · have h1 : rgB (lookN m n) (lo, hi) = true := by
              unfold rgB
              rw [show decide (lo ≤ lookN m n) = true from c, show decide (lookN m n ≤ hi) = true from c2]
              rfl
            exact ⟨rfl, ⟨_, _, _, by rw [← put true h1, Bool.or_true], rfl⟩⟩
          · have h1 : rgB (lookN m n) (lo, hi) = false := by
              unfold rgB
              rw [show decide (lookN m n ≤ hi) = false from Bool.eq_false_iff.mpr c2, Bool.and_false]
            exact ⟨rfl, ⟨_, _, _, by rw [← put false h1, Bool.or_false], rfl⟩⟩
        · have h1 : rgB (lookN m n) (lo, hi) = false := by
            unfold rgB
            rw [show decide (lo ≤ lookN m n) = false from Bool.eq_false_iff.mpr c, Bool.false_and]
          refine ⟨_, rfl, ?_⟩
          exact ⟨rfl, ⟨_, _, _, by rw [← put false h1, Bool.or_false], rfl⟩⟩
      · rintro σ H4 ⟨rfl, ⟨b, o9, o10, eb, rfl⟩⟩
        have e1 : rs.length = gvs.length := hag.length.symm
        rw [← e1, List.take_length] at eb
        have e := all_take (relB n) hz2
        have e2 : relB n (m, ins, rs) = (ins == b) := by rw [eb]; rfl
        rw [e2, ← eg] at e
        refine ⟨_, rfl, _, rfl, rfl, _, rfl, ?_⟩
        cases b <;> cases ins
        · exact ⟨rfl, ⟨_, _, _, _, _, _, _, _, by rw [e]; simp, rfl⟩⟩
        · exact ⟨rfl, ⟨_, _, _, _, _, _, _, _, by rw [e]; simp, rfl⟩⟩
        · exact ⟨rfl, ⟨_, _, _, _, _, _, _, _, by rw [e]; simp, rfl⟩⟩
        · exact ⟨rfl, ⟨_, _, _, _, _, _, _, _, by rw [e]; simp, rfl⟩⟩
    · rintro σ H2 ⟨rfl, ⟨g, o4, o5, o6, o7, o8, o9, o10, eg, rfl⟩⟩
      have e1 : row.length = rvs.length := har.length.symm
      rw [← e1, List.take_length] at eg
      subst eg
      refine ⟨_, rfl, _, rfl, ?_⟩
      cases hb : row.all (relB n) with
      | true =>
        rw [hb, Bool.true_or] at hcon
        have q' := q H2 fun _ _ h => h
        rw [hcon] at q'
        exact q'
      | false =>
        rw [hb, Bool.false_or] at hcon
        exact ⟨rfl, ⟨_, _, _, _, _, _, _, _, _, rfl⟩, hcon⟩
  · rintro σ H' ⟨rfl, ⟨o2, o3, o4, o5, o6, o7, o8, o9, o10, rfl⟩, hcon⟩
    rw [show x.drop cvs.length = [] from List.drop_eq_nil_of_le (Nat.le_of_eq ha.length.symm)] at hcon
    have q' := q H' fun _ _ h => h
    rw [hcon] at q'
    exact q'
end
end Mw

namespace Mw
open PySem L2
theorem catB_drop {n : Int} {rs : List Rule} {i : Nat} {r : Rule} (h : rs[i]? = some r) : catB n (rs.drop i) = if conB n r.2 then r.1 else catB n (rs.drop (i + 1)) := by
  have e : rs.drop i = r :: rs.drop (i + 1) := by
    rw [List.drop_eq_getElem_cons (get_lt h)]
    have := List.getElem?_eq_some_iff.mp h
    obtain ⟨_, h2⟩ := this
    rw [h2]
  rw [e]
  rfl
section
variable {P : Program} {w : World} {K : PySem.W.Frag} {mg : Str → Option Value} {base : Heap} {C : Addr}
/-! ### _law_category -/
abbrev sLc : Stmt := top 29
theorem scLc : FnScope ["rules", "number", "category", "condition"] ["rules", "number"] (defScope sLc) := ⟨rfl, rfl, rfl, by decide +kernel, rfl, by decide +kernel, by decide +kernel⟩
def spLc : Sp := fun vs H Q _ => ∃ (v : V) (rs : List Rule) (n : Int), vs = [v, .int n] ∧ RusAt H rs v ∧ ∀ H', Same H H' → Q (.str (catN rs n)) H'
theorem ok_lcat {f fR : Addr} {fd fdR : FuncData} (F : Fun K "_law_category" "_law_category" sLc f fd)
    (GR : FnOk P w K mg base CX0 1 fR fdR ["condition", "number"] spCh) (bR : Binds K fdR ["condition", "number"] []) (kR : PySem.W.keepIn K (.ref fR) = true) (mR : mg "_law_holds" = some (.ref fR)) :
    FnOk P w K mg base CX0 2 f fd ["rules", "number"] spLc := by
  refine F.ok scLc (fun vs H Q E h => ?_) (fun cdv A outer s H vs Q E hr h => ?_)
  · obtain ⟨v, x, n, rfl, _⟩ := h
    rfl
  obtain ⟨v, rs, n, rfl, ⟨r, rvs, rfl, hr1, ha, hl⟩, q⟩ := h
  have nd := scLc.nd
  refine ⟨_, pss_cons (ps_if (pt_cmpR op_ge (pv 1) pe_int (nomark _))
      (pss_one (ps_for PassesOwn.never rfl (pi_list (pv 0)) (pg_tup rfl (pgs_cons (pg_name (i := 2) nd rfl (.inl rfl)) (pgs_cons (pg_name (i := 3) nd rfl (.inl rfl)) pgs_nil)))
        (pss_one (ps_if (pt_val (pe_call GR hr rfl mR kR bR .nil pass0 (pa_cons (pv 3) (pa_cons (pv 1) pa_nil)))) (pss_one (ps_ret (pv 2))) pss_nil)))) pss_nil)
    (pss_one (ps_ret pe_str)), ?_⟩
  refine ⟨_, rfl, _, _, rfl, rfl, _, rfl, ?_⟩
  refine ite2 (fun c => ?_) (fun c => ?_)
  · have c' : ¬ n < 0 := by
      have := of_decide_eq_true c
      omega
    have e : catN rs n = catB n rs := by unfold catN; rw [if_neg c']
    rw [e] at q
    refine ⟨_, rfl, r, rfl, ⟨_, SqL.of hr1⟩, ?_⟩
    refine for_list (xs := rvs) (fun i σ H' => Same H H' ∧ (∃ o2 o3, σ = [some (.ref r), some (.int n), o2, o3]) ∧ catB n rs = catB n (rs.drop i)) ⟨fun _ _ h => h, ⟨_, _, rfl⟩, rfl⟩ (fun i σ H' _ ⟨s', _⟩ => SqL.of (s' _ _ hr1)) ?_ ?_
    · rintro i x σ H' hx ⟨s', ⟨o2, o3, rfl⟩, hcat⟩
      obtain ⟨⟨ct, con⟩, hz, p, cv, rfl, hp, hcon⟩ := A2.get ha hx
      rw [catB_drop hz] at hcat
      refine ⟨p, _, rfl, .inl (.inl (s' _ _ hp)), rfl, .str ct, _, rfl, cv, [], rfl, rfl, ?_⟩
      refine ⟨_, rfl, _, rfl, cv, con, n, rfl, hcon.same s', fun H2 s2 => ⟨_, rfl, ?_⟩⟩
      cases hb : conB n con with
      | true =>
        rw [if_pos (show conB n (ct, con).2 = true from hb)] at hcat
        refine ⟨_, rfl, ?_⟩
        have q' := q H2 (s'.trans s2)
        rw [hcat] at q'
        exact q'
      | false =>
        rw [if_neg (show ¬ conB n (ct, con).2 = true by rw [show conB n (ct, con).2 = false from hb]; exact Bool.false_ne_true)] at hcat
        exact ⟨s'.trans s2, ⟨_, _, rfl⟩, hcat⟩
    · rintro σ H' ⟨s', ⟨o2, o3, rfl⟩, hcat⟩
      rw [show rs.drop rvs.length = [] from List.drop_eq_nil_of_le (Nat.le_of_eq ha.length.symm)] at hcat
      have q' := q H' s'
      rw [hcat] at q'
      exact q'
  · have c' : n < 0 := by
      have := of_decide_eq_false (Bool.eq_false_iff.mpr c)
      omega
    have e : catN rs n = "other" := by unfold catN; rw [if_pos c']
    rw [e] at q
    exact q H fun _ _ h => h
/-! ### _law_far -/
end
end Mw

namespace Sla
open PySem L2 PySem.Spec PyProof.Rows
section
variable {X : Cx}
/-- max(xs), xs a list of ints that is not empty -/
def rMaxL (K : PySem.W.Frag) : List V → Hp → VK → Prop := fun vs H Q => ∃ (p : Addr) (ns : List Int), vs = [.ref p] ∧ SqL K H p (ns.map V.int) ∧ ns ≠ [] ∧ ∀ M, M ∈ ns → (∀ a ∈ ns, a ≤ M) → Q (.int M) H
theorem call_maxL (hc : X.calm = true) : CallR X (.builtin "max") (rMaxL X.K) := by
  intro pins s σ H vs us Q I r h
  obtain ⟨p, ns, rfl, hs, hne, q⟩ := h
  obtain ⟨its, rv, hl, _⟩ := I.list hs
  rw [Vals.ref1 r]
  have hi := Vals.ints rv
  have hl' : s.heap.IsList p its.toArray := hl.isList
  obtain ⟨xs, e⟩ := hi.allInts.items
  have hns : ns = xs.toList.map (·.1) := by
    rw [← hi.numsOf, ← nums_intItems, ← e]
  have hsz : 0 < xs.size := by
    have h3 := List.length_pos_iff.mpr hne
    rw [hns, List.length_map, Array.length_toList] at h3
    exact h3
  rw [e] at hl'
  refine max_intList (I.ok.hd hc) hl' hsz fun v h' tk hv k => ?_
  obtain ⟨t, rfl⟩ := intItems_at hv
  obtain ⟨h1, h2⟩ := argBest_gt (numAt xs) (xs.size - 1)
  refine ⟨.int _, H, I.kept k, ⟨t, rfl⟩, q _ ?_ fun a ha => ?_⟩
  · rw [hns, numAt_eq]
    exact PySem.getD_mem (by rw [List.length_map, Array.length_toList]; omega)
  · rw [hns] at ha
    obtain ⟨j, hj, rfl⟩ := PySem.mem_getD ha
    rw [List.length_map, Array.length_toList] at hj
    rw [← numAt_eq]
    exact h2 j (by omega)
end
section
variable {prog : Program} {w : World} {A : Around} {E : Value → Shared → Prop} {s : Shared}
/-- a list's items from lo to hi are set to another list's, wherever lo and hi lie -/
theorem setSl {l b sl : Addr} {items new : Array Value} {n n2 a c : Nat} {vl vu : Value} {lo hi : Option Int} {Q : Unit → Shared → Prop}
    (e : s.heap.get? l = some { cls := .type "list", data := .seq items n }) (e2 : s.heap.get? b = some { cls := .type "list", data := .seq new n2 }) (hne : l ≠ b)
    (hs : s.heap.IsSliceOf sl vl vu .none) (pl : IsPart vl lo) (pu : IsPart vu hi) (ea : HT.sIx items.size 0 lo = a) (ec : max a (HT.sIx items.size items.size hi) = c) (hc : c ≤ items.size)
    (hsz : items.size + new.size ≤ sizeLine) (h : Q () { s with heap := s.heap.update l (Obj.mapSeq fun xs => xs.extract 0 a ++ new ++ xs.extract c xs.size) }) :
    wpAny (model prog w) A (setItem (.ref l) (.ref sl) (.ref b)) Q E s := by
  have hl : s.heap.IsList l items := PySem.IsL.isList e
  have hb : s.heap.IsList b new := PySem.IsL.isList e2
  obtain ⟨os, hos, hcs, hds⟩ := id hs
  have hTs : s.TypeIs (.ref sl) "slice" := ⟨os, hos, hcs⟩
  have hsame : Builtin.List.listSameRef (.ref l) (.ref b) = false := by
    unfold Builtin.List.listSameRef
    exact beq_eq_false_iff_ne.mpr hne
  obtain ⟨b1, b2, b3⟩ := slice_bounds lo hi items.size
  have hbd : sliceBounds lo hi none items.size = ((a : Int), ((HT.sIx items.size items.size hi : Nat) : Int), 1) := by
    rw [← ea]
    exact Prod.ext b1 (Prod.ext b2 b3)
  have hmax : (max (a : Int) ((HT.sIx items.size items.size hi : Nat) : Int)).toNat = c := by omega
  have hac : a ≤ c := by omega
  have hz' : ((fun xs : Array Value => xs.extract 0 a ++ new ++ xs.extract c xs.size) items).size ≤ sizeLine + 1 := by
    simp only [Array.size_append, Array.size_extract]
    omega
  unfold setItem
  try with_reducible refine wpAny_holding ?_
  first | refine wpAny_bind (wpAny_pure ?_) | skip
  refine wpAny_bind (wpAny_sequenceKey hl.typeIs (by decide) ?_)
  refine wpAny_bind (wpAny_callSpecial?_slot (name := Str.ofString "__setitem__") hl.typeIs slot_list_setitem
    (wpAny_call_entry slot_list_setitem hl.typeIs entry_list_setitem ?_ (args_list_setitem _ _ _)))
  show wpAny _ _ (Builtin.List.listSubscript? (.ref sl) >>= _) _ _ s
  refine wpAny_bind ?_
  unfold Builtin.List.listSubscript?
  refine wpAny_bind (wpAny_specialOf hTs slice_no_index ?_)
  simp only [Option.isNone_none, if_true]
  refine wpAny_pure ?_
  show wpAny _ _ (typeOf (.ref sl) >>= _) _ _ s
  refine wpAny_bind (wpAny_typeOf hTs ?_)
  first
    | rw [if_neg (by decide)]
    | refine PySem.W.KFB.if_not (by decide) ?_
  rw [listSliceParts_eq]
  have hstep : ¬ ((rawPart none == rawInt 0) = true) := Bool.false_ne_true
  refine wpAny_bind (wpAny_bind (wpAny_field hos hds (x := .none) rfl (wpAny_bind (wpAny_listPart .none ?_))))
  rw [if_neg hstep]
  refine wpAny_bind (wpAny_field hos hds (x := vl) rfl (wpAny_bind (wpAny_listPart pl ?_)))
  refine wpAny_bind (wpAny_field hos hds (x := vu) rfl (wpAny_bind (wpAny_listPart pu (wpAny_pure ?_))))
  first
    | simp only [hsame, Bool.false_eq_true, if_false]
    | refine PySem.W.KFB.if_not hsame ?_
    | (dsimp only
       rw [if_neg (by rw [hsame]; exact Bool.false_ne_true)])
  refine wpAny_bind (m := Builtin.List.listAllItems (.ref b) "must assign iterable to extended slice") ?_
  unfold Builtin.List.listAllItems
  refine wpAny_bind (wpAny_typeOf hb.typeIs ?_)
  first
    | refine PySem.W.KFB.if_so (by decide) ?_
    | rw [if_pos (by decide)]
    | simp only [beq_self_eq_true, Bool.true_or, if_true]
  unfold Builtin.List.listItems
  refine wpAny_bind (wpAny_seqItems e2 rfl (wpAny_pure ?_))
  refine wpAny_bind (wpAny_bind (wpAny_seqItems e rfl (wpAny_pure ?_)))
  refine wpAny_bind (wpAny_of_eq ((sliceIndices_raw lo hi none items.size (by simp)).trans (congrArg (pure : Int × Int × Int → Sem (Int × Int × Int)) hbd)) ?_)
  show wpAny _ _ (if ((1 : Int) == 1) = true then _ else _) _ _ s
  rw [if_pos (by decide)]
  refine wpAny_bind (wpAny_rule ?_)
  first
    | simp only [notLongL hsz, Bool.false_eq_true, if_false]
    | refine PySem.W.KFB.if_not (notLongL hsz) ?_
  first | refine wpAny_bind (wpAny_pure ?_) | skip
  show wpAny _ _ (updateSeq l (fun xs => xs.extract 0 ((a : Int)).toNat ++ new ++ xs.extract (max (a : Int) ((HT.sIx items.size items.size hi : Nat) : Int)).toNat xs.size) >>= _) _ _ s
  rw [hmax, Int.toNat_natCast]
  refine wpAny_bind (wpAny_updateSeq (hz := Nat.le_trans (Nat.le_add_right _ _) hsz) (_hz' := hz') e rfl ?_)
  refine wpAny_bind (wpAny_letGo ?_)
  first
    | exact wpAny_bind (wpAny_pure (wpAny_pure ⟨.none, rfl, wpAny_pure h⟩))
    | exact wpAny_pure ⟨.none, rfl, wpAny_pure h⟩
end
section
variable {X : Cx} {o : Expr} {lo hi : Option Expr} {p2 pos : Pos} {to : TE} {tl th : TO}
def putS (xs ys : List V) (a c : Option Int) : List V := xs.take (HT.sIx xs.length 0 a) ++ ys ++ xs.drop (max (HT.sIx xs.length 0 a) (HT.sIx xs.length xs.length c))
/-- o[lo:hi] = a list -/
def gSl (to : TE) (tl th : TO) : TG := fun v σ H Q => to σ H fun x H1 => tl σ H1 fun a H2 => th σ H2 fun c H3 => ∃ (l b : Addr) (xs ys : List V), x = .ref l ∧ v = .ref b ∧ H3 l = some (.lst xs) ∧ H3 b = some (.lst ys) ∧ l ≠ b ∧ xs.length + ys.length ≤ sizeLine ∧
  Q σ (upd H3 l (.lst (putS xs ys a c)))
theorem pg_slice (ho : PE X o to) (hl : PO X lo tl) (hu : PO X hi th)
    (ha : ∀ v, assign (.Subscript o (.Slice lo hi none p2) pos) X.env v = (do
      let ov ← holding [v] (eval o X.env)
      let iv ← holding [v, ov] (eval (.Slice lo hi none p2) X.env)
      standAt pos
      holding [v, ov, iv] (setItem ov iv v)
      release [iv, v, ov] []) := by intro _; rfl) : PG X (.Subscript o (.Slice lo hi none p2) pos) (gSl to tl th) := by
  refine ⟨fun pins s σ H v u Q I r h => ?_⟩
  rw [ha]
  refine wpAny_bind (wpAny_holding (thn (ho.run pins s σ H _ I h) fun ov s1 ⟨x, H1, I1, r1, q1⟩ => ?_))
  refine wpAny_bind (wpAny_holding (wpAny_Slice (thn (hl.run pins s1 σ H1 _ I1 q1) fun vl s2 ⟨a, H2, I2, pl, q2⟩ => thn (hu.run pins s2 σ H2 _ I2 q2) fun vu s3 ⟨c, H3, I3, pu, q3⟩ => ?_)))
  rw [evalPart_none]
  refine wpAny_pure ?_
  obtain ⟨l, b, xs, ys, rfl, rfl, hlx, hby, hne, hz, q⟩ := q3
  cases r1
  cases r
  have I4 : Inv X pins σ H3 { s3 with heap := s3.heap.push { cls := .type "slice", data := .fields #[vl, vu, .none] } } := I3.kept (t' := s3.toks) fun b ob q => Heap.get?_push_of_some _ q
  refine wpAny_bind (wpAny_standAt (wpAny_bind (wpAny_holding ?_)))
  obtain ⟨z, its, n, r, hlen, e⟩ := I4.lstM hlx
  obtain ⟨z2, its2, n2, r2, hlen2, e2⟩ := I4.lstM hby
  have s0 : HT.sIx xs.length 0 a ≤ xs.length := HT.sIx_le _ _ (Nat.zero_le _) _
  have s1 : HT.sIx xs.length xs.length c ≤ xs.length := HT.sIx_le _ _ (Nat.le_refl _) _
  refine setSl (a := HT.sIx xs.length 0 a) (c := max (HT.sIx xs.length 0 a) (HT.sIx xs.length xs.length c)) e e2 hne (Heap.IsSliceOf.new ..) pl pu (by rw [List.size_toArray, hlen]) (by rw [List.size_toArray, hlen]) (by rw [List.size_toArray, ← hlen]; omega) (by rw [List.size_toArray, List.size_toArray]; omega) ?_
  refine wpAny_release ⟨σ, _, I4.lset (its' := its.take (HT.sIx xs.length 0 a) ++ its2 ++ its.drop (max (HT.sIx xs.length 0 a) (HT.sIx xs.length xs.length c))) (t' := s3.toks) hlx e ?_ (Vals.append (Vals.append (r.take _) r2) (r.drop _)) ?_, q⟩
  · exact splice_eq its its2 _ _
  · rw [List.length_append, List.length_append, List.length_take, List.length_drop]
    omega
end
end Sla

namespace Mw
open PySem L2
/-! ### sets as numbers are in them, with bounds -/
def Sd (z : BL × BL) (f : Nat → Bool) : Prop := Gs z f ∧ z.1.length ≤ 21 ∧ z.2.length ∣ 300
/-- v is a set of the numbers of which f is true -/
def Sa (K : PySem.W.Frag) (H : Hp) (v : V) (f : Nat → Bool) : Prop := ∃ z, PA K H v z ∧ Sd z f
theorem Sa.same {K : PySem.W.Frag} {H H' : Hp} {v : V} {f : Nat → Bool} (s : Same H H') (h : Sa K H v f) : Sa K H' v f := by
  obtain ⟨z, h1, h2⟩ := h
  exact ⟨z, h1.same s, h2⟩
theorem Sd.ne {z : BL × BL} {f : Nat → Bool} (h : Sd z f) : z.2 ≠ [] := h.1.1.nc
theorem Sd.le {z : BL × BL} {f : Nat → Bool} (h : Sd z f) : z.2.length ≤ 300 := Nat.le_of_dvd (by decide) h.2.2
theorem Sd.lcm {x y : BL × BL} {f g : Nat → Bool} (h : Sd x f) (h' : Sd y g) : Nat.lcm x.2.length y.2.length ∣ 300 := Nat.lcm_dvd h.2.2 h'.2.2
/-- what the making of one set out of two asks for -/
theorem Sd.two {x y : BL × BL} {f g : Nat → Bool} (h : Sd x f) (h' : Sd y g) : hsz x y + Nat.lcm x.2.length y.2.length ≤ 900 ∧ x.2.length ≤ 900 ∧ y.2.length ≤ 900 := by
  have h1 : Nat.lcm x.2.length y.2.length ≤ 300 := Nat.le_of_dvd (by decide) (h.lcm h')
  have h2 : hsz x y ≤ 21 := Nat.max_le.mpr ⟨h.2.1, h'.2.1⟩
  have h3 := h.le
  have h4 := h'.le
  omega
/-! ### the marks -/
def mkL (n : Nat) (ins : Bool) (rs : List Rg) : BL := (List.range n).map fun (k : Nat) => if rs.any (rgB (k : Int)) = true then ins else !ins
theorem mkL_len (n : Nat) (ins : Bool) (rs : List Rg) : (mkL n ins rs).length = n := by simp [mkL]
theorem mkL_get {n k : Nat} {ins : Bool} {rs : List Rg} (h : k < n) : (mkL n ins rs).getD k false = if rs.any (rgB (k : Int)) = true then ins else !ins := getD_map_range h
theorem mkL_nil (n : Nat) (ins : Bool) : mkL n ins [] = List.replicate n (!ins) := by
  refine List.ext_getElem (by rw [mkL_len, List.length_replicate]) fun k h1 h2 => ?_
  simp [mkL]
theorem mkL_step {n a c : Nat} {ins : Bool} {rs : List Rg} {r : Rg} (hac : a ≤ c) (hc : c ≤ n) (h : ∀ k, k < n → (rgB (k : Int) r = true ↔ a ≤ k ∧ k < c)) :
    (mkL n ins rs).take a ++ List.replicate (c - a) ins ++ (mkL n ins rs).drop c = mkL n ins (rs ++ [r]) := by
  have hl := mkL_len n ins rs
  refine List.ext_getElem (by rw [List.length_append, List.length_append, List.length_take, List.length_drop, List.length_replicate, hl, mkL_len]; omega) fun k h1 h2 => ?_
  rw [mkL_len] at h2
  have e2 : (mkL n ins (rs ++ [r]))[k] = if (rs ++ [r]).any (rgB (k : Int)) = true then ins else !ins := by simp only [mkL, List.getElem_map, List.getElem_range]
  have e1 : ∀ h : k < (mkL n ins rs).length, (mkL n ins rs)[k] = if rs.any (rgB (k : Int)) = true then ins else !ins := fun h => by simp only [mkL, List.getElem_map, List.getElem_range]
  have ea : (rs ++ [r]).any (rgB (k : Int)) = (rs.any (rgB (k : Int)) || rgB (k : Int) r) := by simp [List.any_append]
  rw [e2, ea]
  by_cases z1 : k < a
  · rw [List.getElem_append_left (by rw [List.length_append, List.length_take, List.length_replicate]; omega), List.getElem_append_left (by rw [List.length_take]; omega), List.getElem_take, e1 (by omega)]
    have : rgB (k : Int) r = false := Bool.eq_false_iff.mpr fun z => by
      have := (h k h2).mp z
      omega
    rw [this, Bool.or_false]
  · by_cases z2 : k < c
    · rw [List.getElem_append_left (by rw [List.length_append, List.length_take, List.length_replicate]; omega), List.getElem_append_right (by rw [List.length_take]; omega), List.getElem_replicate, (h k h2).mpr ⟨by omega, z2⟩, Bool.or_true, if_pos rfl]
    · have hL : ((mkL n ins rs).take a ++ List.replicate (c - a) ins).length = c := by
        rw [List.length_append, List.length_take, List.length_replicate]
        omega
      rw [List.getElem_append_right (by omega), List.getElem_drop]
      have : rgB (k : Int) r = false := Bool.eq_false_iff.mpr fun z => by
        have := (h k h2).mp z
        omega
      rw [this, Bool.or_false, ← e1 (by omega)]
      congr 1
      omega
theorem mk_put {n : Nat} {ins : Bool} {rs : List Rg} {lo hi : Int} {sp : Int} (h0 : 0 ≤ lo) (h1 : lo ≤ hi) (hs : sp = min (hi + 1) (n : Int)) :
    Sla.putS ((mkL n ins rs).map V.bl) ((List.replicate (sp - lo).toNat ins).map V.bl) (some lo) (some sp) = (mkL n ins (rs ++ [(lo, hi)])).map V.bl := by
  have hl := mkL_len n ins rs
  obtain ⟨l, rfl⟩ := Int.eq_ofNat_of_zero_le h0
  obtain ⟨p, rfl⟩ := Int.eq_ofNat_of_zero_le (show 0 ≤ sp by omega)
  unfold Sla.putS
  rw [List.length_map, hl, HT.sIx_nat, HT.sIx_nat, ← List.map_take, ← List.map_drop, ← List.map_append, ← List.map_append]
  congr 1
  have e : (((p : Nat) : Int) - ((l : Nat) : Int)).toNat = max (min l n) (min p n) - min l n := by omega
  rw [e]
  refine mkL_step (by omega) (by omega) fun k hk => ?_
  unfold rgB
  rw [Bool.and_eq_true, decide_eq_true_eq, decide_eq_true_eq]
  show ((l : Nat) : Int) ≤ (k : Int) ∧ (k : Int) ≤ hi ↔ _
  omega
theorem rel_of {m : Int} {ins b : Bool} {rs : List Rg} {n : Int} (h : rs.any (rgB (lookN m n)) = b) : relB n (m, ins, rs) = if b = true then ins else !ins := by
  show (ins == rs.any (rgB (lookN m n))) = _
  rw [h]
  cases ins <;> cases b <;> rfl
/-- with a modulus: the marks are the cycle -/
theorem rel_cyc {m : Nat} {ins : Bool} {rs : List Rg} (hm : 2 ≤ m) (n : Nat) : sq [] (mkL m ins rs) n = relB (n : Int) ((m : Int), ins, rs) := by
  have hlt : n % m < m := Nat.mod_lt n (by omega)
  rw [sq_hi (Nat.zero_le _)]
  unfold cv
  have e : (((n : Int) - (([] : BL).length : Int)) % ((mkL m ins rs).length : Int)).toNat = n % m := by
    rw [mkL_len]
    show (((n : Int) - 0) % (m : Int)).toNat = n % m
    rw [Int.sub_zero, ← Int.natCast_emod, Int.toNat_natCast]
  rw [e, mkL_get hlt, rel_of (b := rs.any (rgB ((n % m : Nat) : Int)))]
  unfold lookN
  rw [if_neg (by omega), Int.natCast_emod]
/-- without: they are the head -/
theorem rel_head {k : Nat} {ins : Bool} {rs : List Rg} (hk : ∀ r ∈ rs, r.2 + 1 ≤ (k : Int)) (n : Nat) : sq (mkL k ins rs) [!ins] n = relB (n : Int) (0, ins, rs) := by
  rw [rel_of (m := 0) (n := (n : Int)) (b := rs.any (rgB (n : Int))) (by unfold lookN; rw [if_pos rfl])]
  by_cases h : n < k
  · rw [sq_lo (by rw [mkL_len]; exact h), mkL_get h]
  · have h2 : rs.any (rgB (n : Int)) = false := by
      rw [List.any_eq_false]
      intro r hr z
      unfold rgB at z
      rw [Bool.and_eq_true, decide_eq_true_eq, decide_eq_true_eq] at z
      have := hk r hr
      omega
    rw [h2, sq_hi (by rw [mkL_len]; omega)]
    unfold cv
    have e : (((n : Int) - ((mkL k ins rs).length : Int)) % (([!ins] : BL).length : Int)).toNat = 0 := by
      show (((n : Int) - ((mkL k ins rs).length : Int)) % 1).toNat = 0
      rw [Int.emod_one]
      rfl
    rw [e]
    rfl
theorem rep_bl (n : Nat) (b : Bool) : (List.replicate n [V.bl b]).flatten = (List.replicate n b).map V.bl := by
  induction n with
  | zero => rfl
  | succ n ih => rw [List.replicate_succ, List.flatten_cons, ih, List.replicate_succ]; rfl
section
variable {P : Program} {w : World} {K : PySem.W.Frag} {mg : Str → Option Value} {base : Heap}
/-! ### relation_set -/
abbrev sRe : Stmt := top 14
abbrev nRe : List Str := ["relation", "modulus", "inside", "ranges", "_", "high", "size", "marks", "low", "stop"]
theorem scRe : FnScope nRe ["relation"] (defScope sRe) := ⟨rfl, rfl, rfl, by decide +kernel, rfl, by decide +kernel, by decide +kernel⟩
def spRe (K : PySem.W.Frag) : Sp := fun vs H Q _ => ∃ (v : V) (x : Rel), vs = [v] ∧ RelAt H x v ∧ RelOk x ∧ ∀ v' H', Same H H' → Sa K H' v' (fun n => relB (n : Int) x) → Q v' H'
theorem ok_re {f fS : Addr} {fd fdS : FuncData} (F : Fun K "relation_set" "relation_set" sRe f fd)
    (GS : FnOk P w K mg base CX0 3 fS fdS ["head", "cycle"] (spSe K)) (bS : Binds K fdS ["head", "cycle"] []) (kS : PySem.W.keepIn K (.ref fS) = true) (mS : mg "settled" = some (.ref fS))
    (mx : mg "max" = none) (mn : mg "min" = none) :
    FnOk P w K mg base CX0 4 f fd ["relation"] (spRe K) := by
  refine F.ok scRe (fun vs H Q E h => ?_) (fun cdv A outer s H vs Q E hr h => ?_)
  · obtain ⟨v, x, rfl, _⟩ := h
    rfl
  obtain ⟨v, ⟨m, ins, rs⟩, rfl, ⟨p, qv, rfl, hp, ⟨ra, gvs, rfl, hra, hag, hlg⟩, hm0⟩, ⟨hm, hne, hl3, hrg⟩, q⟩ := h
  have hm0 : 0 ≤ m := hm0
  have hm : m = 0 ∨ (2 ≤ m ∧ m ≤ 100 ∧ m ∣ 300) := hm
  have hne : rs ≠ [] := hne
  have hrg : ∀ r ∈ rs, RgOk r := hrg
  have hl3 : rs.length ≤ 3 := hl3
  have hgl : gvs.length = rs.length := hag.length
  have nd := scRe.nd
  refine ⟨_, pss_cons (ps_asg (pv 0) (pg_tup rfl (pgs_cons (pg_name (i := 1) nd rfl (.inl rfl)) (pgs_cons (pg_name (i := 2) nd rfl (.inl rfl)) (pgs_cons (pg_name (i := 3) nd rfl (.inl rfl)) pgs_nil)))))
    (Evl.pss_cut (ps_set (i := 6) nd rfl (.inl rfl) (pe_ifExp (pt_truth (pv 1) (by intro _; rfl)) (pv 1) (pe_callB (Sla.call_maxL rfl) (by rfl) mx (by decide +kernel) (pa_cons
        (pe_lc (own := [("_", 4), ("high", 5)]) (g := gTup K 2 (gCons (gName 4) (gCons (gName 5) gNil))) (tt := tYes) (te := tAdd (tVar 5) (tC (.int 1))) rfl nd (pi_list (pv 3)) (blkOk_by (N := nRe) (sc := defScope sRe) (by decide +kernel))
          (fun _ _ _ _ _ => pg_tup rfl (pgs_cons (pg_name (i := 4) nd rfl (.inl rfl)) (pgs_cons (pg_name (i := 5) nd rfl (.inl rfl)) pgs_nil))) (fun _ _ _ _ _ => pts_nil) (fun _ _ _ _ _ => pe_op op_add (pv 5) pe_int)) pa_nil))))
    (pss_cons (ps_set (i := 7) nd rfl (.inl rfl) (pe_op op_rep (pe_lst (pa_cons (pe_not (pv 2)) pa_nil)) (pv 6)))
    (pss_cons (ps_for PassesOwn.never rfl (pi_list (pv 3)) (pg_tup rfl (pgs_cons (pg_name (i := 8) nd rfl (.inl rfl)) (pgs_cons (pg_name (i := 5) nd rfl (.inl rfl)) pgs_nil)))
      (pss_cons (ps_set (i := 9) nd rfl (.inl rfl) (pe_callB (call_min2 rfl) (by rfl) mn (by decide +kernel) (pa_cons (pe_op op_add (pv 5) pe_int) (pa_cons (pv 6) pa_nil))))
      (pss_one (ps_asg (pe_op op_rep (pe_lst (pa_cons (pv 2) pa_nil)) (pe_op op_sub (pv 9) (pv 8))) (Sla.pg_slice (pv 7) (po_some (pv 8)) (po_some (pv 9)))))))
    (pss_one (ps_ret (pe_ifExp (pt_truth (pv 1) (by intro _; rfl)) (pe_call GS hr rfl mS kS bS .nil pass0 (pa_cons (pe_lst pa_nil) (pa_cons (pv 7) pa_nil))) (pe_call GS hr rfl mS kS bS .nil pass0 (pa_cons (pv 7) (pa_cons (pe_lst (pa_cons (pe_not (pv 2)) pa_nil)) pa_nil))))))))), ?_⟩
  refine ⟨_, rfl, p, _, rfl, .inl (.inl hp), rfl, .int m, _, rfl, .bl ins, _, rfl, .ref ra, [], rfl, rfl, ?_⟩
  refine ⟨fun σ H' => ∃ k : Nat, σ = [some (.ref p), some (.int m), some (.bl ins), some (.ref ra), none, none, some (.int (k : Nat)), none, none, none] ∧ Same H H' ∧ k ≤ 300 ∧ (m = 0 → k ≤ 21 ∧ ∀ r ∈ rs, r.2 + 1 ≤ (k : Int)) ∧ (m ≠ 0 → (k : Int) = m), ?_, ?_⟩
  · refine ⟨_, rfl, (m != 0), rfl, ?_⟩
    by_cases hz : m = 0
    · subst hz
      refine iteF ?_
      refine ⟨_, rfl, ra, rfl, ⟨_, SqL.of hra⟩, fun D hD => ?_⟩
      have s1 : Same H (upd H D (.lst [])) := same_new hD _
      refine lc_list (xs := gvs) (fun i H' => Same H H' ∧ H' D = some (.lst (((rs.take i).map fun r => r.2 + 1).map V.int))) ⟨s1, upd_same⟩ (fun i H' _ ⟨s', _⟩ => SqL.of (s' _ _ hra)) ?_ ?_
      · rintro i y H' hy ⟨s', hD'⟩
        obtain ⟨⟨lo, hi⟩, hz, t, rfl, ht⟩ := A2.get hag hy
        have hi1 := get_lt hz
        refine ⟨t, _, rfl, .inl (.inl (s' _ _ ht)), rfl, .int lo, _, rfl, .int hi, [], rfl, rfl, rfl, ?_⟩
        refine ⟨_, rfl, _, _, rfl, rfl, _, hD', sz_line (by rw [List.length_map, List.length_map, List.length_take]; omega), same_mut s' hD _, ?_⟩
        rw [upd_same, take_map (fun r : Rg => r.2 + 1) hz, List.map_append]
        rfl
      · rintro H1 ⟨s1', hD1⟩
        rw [hgl, List.take_length] at hD1
        refine ⟨D, rs.map fun r => r.2 + 1, rfl, SqL.of hD1, by simpa using hne, fun M hM hle => ?_⟩
        obtain ⟨r0, hr0, e0⟩ := List.mem_map.mp hM
        have b0 := hrg r0 hr0
        unfold RgOk at b0
        have eM : M = ((M.toNat : Nat) : Int) := by omega
        refine ⟨M.toNat, by rw [← eM]; rfl, s1', by omega, fun _ => ⟨by omega, fun r hr => ?_⟩, fun z => absurd rfl z⟩
        have := hle (r.2 + 1) (List.mem_map.mpr ⟨r, hr, rfl⟩)
        omega
    · have e : (m != 0) = true := bne_iff_ne.mpr hz
      rw [e]
      refine iteT ⟨_, rfl, m.toNat, ?_, Same.refl _, by omega, fun z => absurd z hz, fun _ => by omega⟩
      rw [show ((m.toNat : Nat) : Int) = m by omega]
      rfl
  rintro σ H1 ⟨n, rfl, s1, hn, hd0, hd1⟩
  refine ⟨_, rfl, ins, rfl, by show 1 ≤ sizeLine; decide, fun l1 h1 => ?_⟩
  have t1 : Same H1 (upd H1 l1 (.lst [.bl (!ins)])) := same_new h1 _
  refine ⟨_, rfl, l1, _, _, rfl, rfl, upd_same, by omega, by omega, le_line (by show 1 * (n : Int).toNat < 10000000; omega), fun l2 h2 => ?_⟩
  have t2 := same_new h2 (.lst (List.replicate (n : Int).toNat [V.bl (!ins)]).flatten)
  have h2' : H l2 = none := s1.free (upd_none h2)
  have e2 : upd (upd H1 l1 (.lst [.bl (!ins)])) l2 (.lst (List.replicate (n : Int).toNat [V.bl (!ins)]).flatten) l2 = some (.lst ((mkL n ins []).map V.bl)) := by
    rw [upd_same, Int.toNat_natCast, rep_bl, mkL_nil]
  have t12 := s1.trans (t1.trans t2)
  generalize upd (upd H1 l1 (.lst [.bl (!ins)])) l2 (.lst (List.replicate (n : Int).toNat [V.bl (!ins)]).flatten) = H2 at t12 e2
  clear t2
  refine ⟨_, rfl, ra, rfl, ⟨_, SqL.of (t12 _ _ hra)⟩, ?_⟩
  refine for_list (xs := gvs) (fun i σ H' => ∃ o5 o8 o9, σ = [some (.ref p), some (.int m), some (.bl ins), some (.ref ra), none, o5, some (.int (n : Nat)), some (.ref l2), o8, o9] ∧ Same H H' ∧ H' l2 = some (.lst ((mkL n ins (rs.take i)).map V.bl)))
    ⟨_, _, _, rfl, t12, e2⟩ (fun i σ H' _ ⟨_, _, _, _, s', _⟩ => SqL.of (s' _ _ hra)) ?_ ?_
  · rintro i y σ H' hy ⟨o5, o8, o9, rfl, s', hl'⟩
    obtain ⟨⟨lo, hi⟩, hz, t, rfl, ht⟩ := A2.get hag hy
    have bz := hrg _ (List.mem_of_getElem? hz)
    have b0 : 0 ≤ lo := bz.1
    have b1 : lo ≤ hi := bz.2.1
    have b2 : hi ≤ 20 := bz.2.2
    refine ⟨t, _, rfl, .inl (.inl (s' _ _ ht)), rfl, .int lo, _, rfl, .int hi, [], rfl, rfl, ?_⟩
    refine ⟨_, rfl, _, _, rfl, rfl, _, rfl, _, _, rfl, ?_⟩
    generalize hsp : (if ((n : Nat) : Int) < hi + 1 then ((n : Nat) : Int) else hi + 1) = sp
    have hsp' : sp = min (hi + 1) (n : Int) := by
      rw [← hsp]
      split <;> omega
    refine ⟨_, rfl, by show 1 ≤ sizeLine; decide, fun l3 h3 => ?_⟩
    have t3 : Same H' (upd H' l3 (.lst [.bl ins])) := same_new h3 _
    refine ⟨_, rfl, _, rfl, _, _, rfl, rfl, l3, _, _, rfl, rfl, upd_same, by omega, by omega, le_line (by show 1 * (sp - lo).toNat < 10000000; omega), fun l4 h4 => ?_⟩
    have t4 := same_new h4 (.lst (List.replicate (sp - lo).toNat [V.bl ins]).flatten)
    have hl4 := t4 _ _ (t3 _ _ hl')
    refine ⟨_, rfl, _, rfl, _, rfl, _, rfl, _, rfl, l2, l4, _, _, rfl, rfl, hl4, upd_same, ne_of_none (t3 _ _ hl') h4, le_line ?_, _, _, _, rfl, same_mut (s'.trans (t3.trans t4)) h2' _, ?_⟩
    · rw [rep_bl, List.length_map, List.length_map, mkL_len, List.length_replicate]
      omega
    · rw [upd_same, rep_bl, mk_put b0 b1 hsp', List.take_succ, hz]
      rfl
  rintro σ H3 ⟨o5, o8, o9, rfl, s3, hl2⟩
  rw [hgl, List.take_length] at hl2
  refine ⟨_, rfl, (m != 0), rfl, ?_⟩
  by_cases hz : m = 0
  · subst hz
    refine iteF ?_
    obtain ⟨k1, k2⟩ := hd0 rfl
    have dn : ([!ins] : BL) ≠ [] := by simp
    refine ⟨_, rfl, _, rfl, ins, rfl, by show 1 ≤ sizeLine; decide, fun l5 h5 => ?_⟩
    have t5 : Same H3 (upd H3 l5 (.lst [.bl (!ins)])) := same_new h5 _
    refine ⟨l2, l5, mkL n ins rs, [!ins], rfl, .inl (SqL.of (t5 _ _ hl2)), .inl (SqL.of upd_same), dn, by show 1 < 1000; decide, sc_ne dn, by rw [mkL_len]; omega, fun v' H7 s7 hv => ?_⟩
    have sl := stl_len (h := mkL n ins rs) dn
    rw [mkL_len] at sl
    refine q v' H7 (s3.trans (t5.trans s7)) ⟨_, hv, ⟨stl_Stl dn, fun j => ?_⟩, by omega, ?_⟩
    · rw [sq_stl dn]
      exact rel_head k2 j
    · exact Nat.dvd_trans (stl_dvd dn) (by show 1 ∣ 300; decide)
  · have e : (m != 0) = true := bne_iff_ne.mpr hz
    rw [e]
    refine iteT ?_
    have hn2 := hd1 hz
    have hm2 : 2 ≤ m ∧ m ≤ 100 ∧ m ∣ 300 := hm.resolve_left hz
    have hn300 : n ∣ 300 := by
      have := hm2.2.2
      rw [← hn2] at this
      exact Int.natCast_dvd_natCast.mp this
    have dn : mkL n ins rs ≠ [] := fun e => by
      have := mkL_len n ins rs
      rw [e] at this
      simp at this
      omega
    refine ⟨Nat.zero_le _, fun l5 h5 => ?_⟩
    have t5 : Same H3 (upd H3 l5 (.lst [])) := same_new h5 _
    refine ⟨_, rfl, l5, l2, [], mkL n ins rs, rfl, .inl (SqL.of upd_same), .inl (SqL.of (t5 _ _ hl2)), dn, by rw [mkL_len]; omega, sc_ne dn, by show 0 < 100000; decide, fun v' H7 s7 hv => ?_⟩
    have sl := stl_len (h := ([] : BL)) dn
    refine q v' H7 (s3.trans (t5.trans s7)) ⟨_, hv, ⟨stl_Stl dn, fun j => ?_⟩, Nat.le_trans sl.1 (by decide), ?_⟩
    · rw [sq_stl dn, ← hn2]
      exact rel_cyc (by omega) j
    · refine Nat.dvd_trans (stl_dvd dn) ?_
      rw [mkL_len]
      exact hn300
end
end Mw

set_option maxHeartbeats 1000000
namespace Lk
open PySem L2 PySem.Spec PyProof.Rows PySem.W
section
variable {prog : Program} {w : World} {A : Around} {s : Shared}
/-- one[0], one the lambda's parameter, an int at the head of a tuple -/
theorem key_call {f t c' : Addr} {items : Array Value} {m : Int} {u : Tok} {qual x : Str} {params : Arguments} {scope : Scope} {cl : List (Str × Addr)} {pm ctv : Value} {j : Nat} {p1 p2 p3 : Pos} (hroom : A.depth < recursionLimit)
    (of : s.heap.get? f = some (PySem.W.kla_obj "<lambda>" qual params (.Subscript (.Name x p1) (.Constant (.int 0) j p2) p3) scope cl pm c' ctv)) (hc : s.heap.CodeRec (.ref c') qual) (lim : s.heap.NoLimit)
    (hb : ∀ v, bindArgs (PySem.W.kla_fn "<lambda>" qual params (.Subscript (.Name x p1) (.Constant (.int 0) j p2) p3) scope cl pm (.ref c') ctv) ⟨[v], []⟩ = pure [(x, v)])
    (ht : IsTup s.heap t items) (h0 : items[0]? = some (.int m u)) (hk : scope.kind = .function) (hco : scope.isCoroutine = false) (hgen : scope.isGenerator = false) (hcell : ∀ y ∈ scope.names, y.2 ≠ .cell) (hl : scope.names.lookup x = some .local)
    (hd : (x == ("__debug__" : Str)) = false) :
    wpAny (model prog w) A (call (.ref f) [.ref t]) (PySem.W.KeyPure (.int m) s) (fun _ _ => False) s := by
  refine wpAny_call (PySem.W.kla_callFunE hroom of rfl hco hgen rfl hc ?_)
  rw [hb]
  refine wpAny_pure (wpAny_newFunctionEnv hcell (fun y hy => ?_) (fun h₁ hns hsb => ⟨lim.fresh _ hsb, ?_⟩) hk)
  · rcases List.mem_singleton.mp hy with rfl
    exact hl
  have kp : ∀ b o, s.heap.get? b = some o → h₁.get? b = some o := fun b o e => hsb.extBut b o (Nat.ne_of_lt (Heap.lt_size e)) (Heap.get?_push_of_some _ e)
  refine PySem.W.kla_codeExpr ?_
  refine Subscript_ (wpAny_Name (wpAny_loadName_local (v := .ref t) hk hl hns (by simp) ?_) hd)
  refine wpAny_Constant_int ?_
  have ht1 : IsTup h₁ t items := ht.keeps kp
  have hsz : 0 < items.size := by
    by_cases z : 0 < items.size
    · exact z
    · rw [Array.getElem?_eq_none (by omega)] at h0
      cases h0
  refine subscriptTail_builtinR (x := .int m u) ht1.typeIs slot_tuple_getitem.lookup (getItem_tuple (j := 0) ht1 (by omega) (by omega) ?_ h0 ⟨rfl, ?_⟩)
  · unfold seqIndex?
    simp [hsz]
  · exact ⟨h₁, _, rfl, kp, .int m u⟩
end
section
variable {X : Cx} {x y : Str} {p kpos lpos pos p1 p2 p3 : Pos} {e : Expr} {te : TE} {T : List (Addr × Str)} {c P : Addr} {params : Arguments} {scope : Scope} {j : Nat}
/-- a tuple whose first item is an int -/
def Key (K : PySem.W.Frag) (H : Hp) (v : V) (m : Int) : Prop := ∃ (p : Addr) (r : List V), v = .ref p ∧ SqT K H p (.int m :: r)
def tSortK (K : PySem.W.Frag) (T : List (Addr × Str)) (te : TE) : TE := fun σ H Q => te σ H fun v H1 => ∃ (a : Addr) (xs : List V), v = .ref a ∧ SqL K H1 a xs ∧ (∀ x ∈ xs, ∃ m, Key K H1 x m) ∧ LamX.Tabs T H1 ∧
  ∀ H2, LamX.ExtN H1 H2 → LamX.Tabs T H2 → ∀ D ys, H2 D = none → ys.Perm xs → Q (.ref D) (upd H2 D (.lst ys))
theorem seqL_ext {K : PySem.W.Frag} {H H' : Hp} {a : Addr} {xs : List V} (s : LamX.ExtN H H') (h : SqL K H a xs) : SqL K H' a xs := by
  rcases h with (h | ⟨o, h⟩) | h
  · exact .inl (.inl (s _ _ h (fun ps z => by cases z)))
  · exact .inl (.inr ⟨o, s _ _ h (fun ps z => by cases z)⟩)
  · exact .inr h
theorem seqT_ext {K : PySem.W.Frag} {H H' : Hp} {a : Addr} {xs : List V} (s : LamX.ExtN H H') (h : SqT K H a xs) : SqT K H' a xs := by
  rcases h with (h | ⟨o, h⟩) | h
  · exact .inl (.inl (s _ _ h (fun ps z => by cases z)))
  · exact .inl (.inr ⟨o, s _ _ h (fun ps z => by cases z)⟩)
  · exact .inr h
theorem keys_of {K : PySem.W.Frag} {H : Hp} : ∀ {xs : List V}, (∀ x ∈ xs, ∃ m, Key K H x m) → ∃ bs : List (V × Int), bs.map (·.1) = xs ∧ ∀ b ∈ bs, Key K H b.1 b.2
  | [], _ => ⟨[], rfl, fun b h => by cases h⟩
  | x :: xs, h => by
    obtain ⟨m, hm⟩ := h x List.mem_cons_self
    obtain ⟨bs, e, hb⟩ := keys_of (xs := xs) fun z hz => h z (List.mem_cons_of_mem _ hz)
    refine ⟨(x, m) :: bs, by rw [List.map_cons, e], fun b hb' => ?_⟩
    rcases List.mem_cons.mp hb' with rfl | hb'
    · exact hm
    · exact hb b hb'
def RK (h : Heap) (v : Value) (b : V × Int) : Prop := RelV b.1 v ∧ ∃ (t : Addr) (its : Array Value) (u : Tok), v = .ref t ∧ IsTup h t its ∧ its[0]? = some (.int b.2 u)
theorem each_of {pins : List (Addr × Obj)} {s : Shared} {σ : L2.St} {H : Hp} (I : Inv X pins σ H s) : ∀ {bs : List (V × Int)} {its : List Value}, (∀ b ∈ bs, Key X.K H b.1 b.2) → Vals (bs.map (·.1)) its → EachIs (RK s.heap) its bs
  | [], its, _, r => by
    rw [List.map_nil] at r
    cases r
    exact .nil
  | b :: bs, its, h, r => by
    rw [List.map_cons] at r
    cases r with
    | cons r1 r2 =>
      refine .cons ⟨r1, ?_⟩ (each_of I (fun z hz => h z (List.mem_cons_of_mem _ hz)) r2)
      obtain ⟨p, r, e, hT⟩ := h b List.mem_cons_self
      obtain ⟨its', rv, ht, _⟩ := I.tuple hT
      rw [e] at r1
      cases rv with
      | cons q1 q2 =>
        obtain ⟨u, rfl⟩ := q1
        exact ⟨p, _, u, r1, ht, rfl⟩
theorem vals_of {h : Heap} : ∀ {bs : List (V × Int)} {out : List Value}, EachIs (RK h) out bs → Vals (bs.map (·.1)) out
  | [], _, e => by
    cases e
    exact .nil
  | b :: bs, _, e => by
    cases e with
    | cons e1 e2 => exact .cons e1.1 (vals_of e2)
/-- sorted(e, key=lambda x: x[0]) -/
theorem pe_sortK {k : Nat} (hr : Room (k + 1) X.A) (hg : Gl X "sorted") (hm : X.mg "sorted" = none) (haa : PA X [e] (tCons te tNil)) (TB : LamX.TabB X.base X.mg c P) (hcode : X.env.code = .ref c) (hmT : (P, X.env.qual ++ "<lambda>") ∈ T) (hu : ∀ p ∈ T, p.1 = P → p.2 = X.env.qual ++ "<lambda>")
    (hdef : defaultsOf params X.env = ([], [])) (hk : scope.kind = .function) (hco : scope.isCoroutine = false) (hgen : scope.isGenerator = false) (hcell : ∀ y ∈ scope.names, y.2 = .local) (hl : scope.names.lookup x = some .local)
    (hbind : ∀ (q : Str) (cl : List (Str × Addr)) (pm cv ctv v : Value), bindArgs (PySem.W.kla_fn "<lambda>" q params (.Subscript (.Name x p1) (.Constant (.int 0) j p2) p3) scope cl pm cv ctv) ⟨[v], []⟩ = pure [(x, v)])
    (hd : (x == ("__debug__" : Str)) = false := by decide)
    (he : backTo pos (starEach [e] X.env) = (false, eval e X.env) :: backTo pos (starEach [] X.env) := by rfl) (hpl : (backTo pos (starEach [e] X.env)).any (·.1) = false := by rfl) :
    PE X (.Call (.Name "sorted" p) [e] [⟨some "key", .Lambda params (.Subscript (.Name x p1) (.Constant (.int 0) j p2) p3) scope lpos, kpos⟩] pos) (tSortK X.K T te) := by
  refine ⟨fun pins s σ H Q I h => ?_⟩
  refine wpAny_Call_Name_kw (ld_blt I hg hm rfl ?_)
  let F : V → Hp → Prop := fun v H1 => ∃ (a : Addr) (xs : List V), v = .ref a ∧ SqL X.K H1 a xs ∧ (∀ x ∈ xs, ∃ m, Key X.K H1 x m) ∧ LamX.Tabs T H1 ∧
    ∀ H2, LamX.ExtN H1 H2 → LamX.Tabs T H2 → ∀ D ys, H2 D = none → ys.Perm xs → Q (.ref D) (upd H2 D (.lst ys))
  refine PyProof.Rows.callWith_kw (thn (haa.run pos pins s σ H (fun xs H1 => match xs with | [v] => F v H1 | _ => False) I h) fun us s1 ⟨vs, H1, I1, r1, q1⟩ => ?_) he hpl rfl rfl
  obtain ⟨v, rfl, q1⟩ : ∃ v, vs = [v] ∧ F v H1 := by
    match vs, q1 with
    | [v], q1 => exact ⟨v, rfl, q1⟩
  obtain ⟨a, xs, rfl, hL, hK, hT, q⟩ := q1
  have eus : us = [.ref a] := Vals.ref1 r1
  subst eus
  show wpAny _ _ (evalAll ((do let v ← eval (.Lambda params (.Subscript (.Name x p1) (.Constant (.int 0) j p2) p3) scope lpos) X.env; standAt pos; pure v) :: [])) _ _ s1
  refine wpAny_evalAll_cons (wpAny_bind (LamX.lam_make2 I1 TB hcode hmT hu hT hdef (fun y hy e => ?_) fun f c' pm ctv H2 s2 I2 eN T2 hf hfn hfr hco' => ?_))
  · rw [hcell y hy] at e
    cases e
  refine wpAny_bind (wpAny_standAt (wpAny_pure (wpAny_evalAll_nil ?_)))
  show wpAny _ _ (call (.builtin "sorted") [.ref a] [(Str.ofString "key", .ref f)]) _ _ s2
  have hL2 := seqL_ext eN hL
  obtain ⟨its, rv, hpl2, hz⟩ := I2.list hL2
  obtain ⟨bs, ebs, hbs⟩ := keys_of hK
  have hbs2 : ∀ b ∈ bs, Key X.K H2 b.1 b.2 := fun b hb => by
    obtain ⟨p, r, e1, e2⟩ := hbs b hb
    exact ⟨p, r, e1, seqT_ext eN e2⟩
  rw [← ebs] at rv
  have hE := each_of I2 hbs2 rv
  obtain ⟨⟨oc, vs, t, hoc, hdc, hvc⟩, _, _⟩ := I2.hok c' _ hco'
  have hlen : bs.length ≤ sizeLine := by
    rw [← List.length_map (f := (·.1)) (as := bs), ebs]
    exact hz
  refine PySem.W.sorted_key_data (bs := bs) (R := RK s2.heap) (fun b => .int b.2) hpl2.isList hE (AllAlike.of fun _ _ => rfl) (Sortable.others fun _ => ⟨fun z => by (cases z), fun _ z => by (cases z)⟩) hlen (fun b _ => ?_) (ksk_s1 _ _) (fun _ => ksk_l1 _ _) (fun _ => ksk_t1 _ _) (fun v b hR hb h tk kp => ?_) (fun out cc h' tk kp fr hD hol hEo => ?_)
  · have := hr.un
    show X.A.units + 2 + 0 < cLine
    omega
  · obtain ⟨_, t', its', u, rfl, ht, h0⟩ := hR
    exact key_call (s := { s2 with heap := h, toks := tk }) hr.depth (kp _ _ hf) ⟨c', oc, vs, t, rfl, kp _ _ hoc, hdc, hvc⟩ (I2.nolimit.keeps kp) (fun v => hbind _ _ _ _ _ v) (ht.keeps kp) h0 hk hco hgen (fun y hy e => by rw [hcell y hy] at e; cases e) hl hd
  · have hp : (bs.mergeSort (dataLe false fun b => .int b.2)).Perm bs := List.mergeSort_perm bs _
    have hp2 := hp.map (·.1)
    rw [ebs] at hp2
    refine ⟨.ref _, _, I2.laid (t' := tk) (o := .lst ((bs.mergeSort (dataLe false fun b => .int b.2)).map (·.1))) kp (Nat.le_succ _) ?_, rfl, q H2 eN T2 _ _ (I2.hok.fresh (Nat.le_succ _)) hp2⟩
    refine ⟨by rw [hp2.length_eq]; exact hz, out, cc, vals_of hEo, hD⟩
end
end Lk

namespace Mw
open PySem L2
/-! ### what stays when all but the tables of code stays -/
abbrev ExtN := LamX.ExtN
abbrev Tabs := LamX.Tabs
theorem Same.extN {H H' : Hp} (s : Same H H') : ExtN H H' := fun b o h _ => s b o h
theorem Tabs.same {T : List (Addr × Str)} {H H' : Hp} (t : Tabs T H) (s : Same H H') : Tabs T H' := LamX.Tabs.ext t s
theorem TA.ext {K : PySem.W.Frag} {H H' : Hp} {v : V} {bs : BL} (s : ExtN H H') (h : TA K H v bs) : TA K H' v bs := by
  obtain ⟨p, e, h1, h2⟩ := h
  exact ⟨p, e, Lk.seqT_ext s h1, h2.elim (fun ⟨ob, e1, e2⟩ => .inl ⟨ob, s _ _ e1 (fun ps z => by cases z), e2⟩) .inr⟩
theorem PA.ext {K : PySem.W.Frag} {H H' : Hp} {v : V} {x : BL × BL} (s : ExtN H H') (h : PA K H v x) : PA K H' v x := by
  obtain ⟨p, a, b, e, h1, h2, h3⟩ := h
  exact ⟨p, a, b, e, Lk.seqT_ext s h1, h2.ext s, h3.ext s⟩
theorem Sa.ext {K : PySem.W.Frag} {H H' : Hp} {v : V} {f : Nat → Bool} (s : ExtN H H') (h : Sa K H v f) : Sa K H' v f := by
  obtain ⟨z, h1, h2⟩ := h
  exact ⟨z, h1.ext s, h2⟩
theorem Ls.ext {α : Type} {R : Hp → α → V → Prop} (m : ∀ {H H' : Hp}, ExtN H H' → ∀ x v, R H x v → R H' x v) {H H' : Hp} (s : ExtN H H') {xs : List α} {v : V} (h : Ls R H xs v) : Ls R H' xs v := by
  obtain ⟨r, vs, e, h1, h2, h3⟩ := h
  exact ⟨r, vs, e, s _ _ h1 (fun ps z => by cases z), h2.mono (m s), h3⟩
theorem RgAt.ext {H H' : Hp} (s : ExtN H H') (x : Rg) (v : V) (h : RgAt H x v) : RgAt H' x v := by
  obtain ⟨p, e, h1⟩ := h
  exact ⟨p, e, s _ _ h1 (fun ps z => by cases z)⟩
theorem RelAt.ext {H H' : Hp} (s : ExtN H H') (x : Rel) (v : V) (h : RelAt H x v) : RelAt H' x v := by
  obtain ⟨p, q, e, h1, h2, h3⟩ := h
  exact ⟨p, q, e, s _ _ h1 (fun ps z => by cases z), h2.ext RgAt.ext s, h3⟩
theorem RowAt.ext {H H' : Hp} (s : ExtN H H') (x : List Rel) (v : V) (h : RowAt H x v) : RowAt H' x v := Ls.ext RelAt.ext s h
theorem ConAt.ext {H H' : Hp} (s : ExtN H H') (x : List (List Rel)) (v : V) (h : ConAt H x v) : ConAt H' x v := Ls.ext RowAt.ext s h
theorem RuAt.ext {H H' : Hp} (s : ExtN H H') (x : Rule) (v : V) (h : RuAt H x v) : RuAt H' x v := by
  obtain ⟨p, q, e, h1, h2⟩ := h
  exact ⟨p, q, e, s _ _ h1 (fun ps z => by cases z), h2.ext s⟩
theorem RusAt.ext {H H' : Hp} (s : ExtN H H') (x : List Rule) (v : V) (h : RusAt H x v) : RusAt H' x v := Ls.ext RuAt.ext s h
theorem A2.perm {α : Type} {R : α → V → Prop} {ws vs : List V} (h : ws.Perm vs) : ∀ {xs : List α}, A2 R xs vs → ∃ zs, zs.Perm xs ∧ A2 R zs ws := by
  induction h with
  | nil => exact fun {xs} a => ⟨xs, List.Perm.refl _, a⟩
  | cons x _ ih =>
    intro xs a
    cases xs with
    | nil => cases (show _ = [] from a)
    | cons y ys =>
      obtain ⟨v, us, e, h1, h2⟩ := a
      cases e
      obtain ⟨zs, p, a'⟩ := ih h2
      exact ⟨y :: zs, p.cons y, _, _, rfl, h1, a'⟩
  | swap x y l =>
    intro xs a
    cases xs with
    | nil => cases (show _ = [] from a)
    | cons a1 r =>
      obtain ⟨v, us, e, h1, h2⟩ := a
      cases e
      cases r with
      | nil => cases (show _ = [] from h2)
      | cons a2 r =>
        obtain ⟨v, us, e, h3, h4⟩ := h2
        cases e
        exact ⟨a2 :: a1 :: r, List.Perm.swap _ _ _, _, _, rfl, h3, _, _, rfl, h1, h4⟩
  | trans _ _ ih1 ih2 =>
    intro xs a
    obtain ⟨zs, p, a'⟩ := ih2 a
    obtain ⟨zs', p', a''⟩ := ih1 a'
    exact ⟨zs', p'.trans p, a''⟩
/-! ### a def whose code object is told -/
structure FunC (K : PySem.W.Frag) (x qual : Str) (st : Stmt) (f : Addr) (fd : FuncData) (c : Addr) : Prop where
  ex : ∃ (oc : Value) (od : Option Addr) (kV doc pm : Value) (an : Option Addr) (ct : Value) (osl : Array (Option Value)),
    fd = PySem.W.fnOf x qual (defArgs st) (defBody st) (defScope st) .none kV doc pm an (.ref c) ct ∧ K.lookup f = some ⟨oc, od, .func fd, osl⟩ ∧ PySem.W.codeIn K (.ref c) qual = true
  kp : PySem.W.keepIn K (.ref f) = true
theorem FunC.fn {K : PySem.W.Frag} {x qual : Str} {st : Stmt} {f : Addr} {fd : FuncData} {c : Addr} (F : FunC K x qual st f fd c) : Fun K x qual st f fd := by
  obtain ⟨oc, od, kV, doc, pm, an, ct, osl, h⟩ := F.ex
  exact ⟨⟨oc, od, kV, doc, pm, an, _, ct, osl, h⟩, F.kp⟩
theorem FunC.ok {P : Program} {w : World} {K : PySem.W.Frag} {mg : Str → Option Value} {base : Heap} {x qual : Str} {st : Stmt} {f c : Addr} {fd : FuncData} {N ps : List Str} {k : Nat} {sp : Sp} (F : FunC K x qual st f fd c) (S : FnScope N ps (defScope st)) (len : ∀ vs H Q E, sp vs H Q E → vs.length = ps.length)
    (hbody : ∀ (A : Around) (outer : List Env) (s : Shared) (H : Hp) (vs : List V) (Q : VK) (E : XK), Room k (A.deeper (PyProof.Rows.envOfC qual (defScope st) s.heap.objs.size f (.ref c))) → sp vs H Q E →
      ∃ t, PSs (cxOf CX0 P w K mg base N qual (defScope st) f (.ref c) A outer s H E).nox (defBody st) t ∧ t { nx := fun _ H' => Q .non H', rt := Q } (start N vs) H) : FnOk P w K mg base CX0 (k + 1) f fd ps sp := by
  obtain ⟨oc, od, kV, doc, pm, an, ct, osl, rfl, lk, hcd⟩ := F.ex
  refine fn_of lk hcd S len fun A outer s H vs Q E hr hsp => ?_
  obtain ⟨t, h, q⟩ := hbody A outer s H vs Q E hr hsp
  exact ⟨t, h.nox, q⟩
/-! ### all numbers, none -/
theorem sa_all {K : PySem.W.Frag} {H : Hp} {v : V} (h : PA K H v ([], [true])) : Sa K H v fun _ => true := by
  have e : stl [] [true] = ([], [true]) := by decide
  have s := stl_Stl (h := []) (c := [true]) (by simp)
  rw [e] at s
  refine ⟨_, h, ⟨s, fun n => ?_⟩, by decide, by decide⟩
  rw [sq_hi (Nat.zero_le _)]
  unfold cv
  have : (((n : Int) - (([] : BL).length : Int)) % (([true] : BL).length : Int)).toNat = 0 := by
    show (((n : Int) - (([] : BL).length : Int)) % 1).toNat = 0
    rw [Int.emod_one]
    rfl
  rw [this]
  rfl
theorem sa_none {K : PySem.W.Frag} {H : Hp} {v : V} (h : PA K H v ([], [false])) : Sa K H v fun _ => false := by
  have e : stl [] [false] = ([], [false]) := by decide
  have s := stl_Stl (h := []) (c := [false]) (by simp)
  rw [e] at s
  refine ⟨_, h, ⟨s, fun n => ?_⟩, by decide, by decide⟩
  rw [sq_hi (Nat.zero_le _)]
  unfold cv
  have : (((n : Int) - (([] : BL).length : Int)) % (([false] : BL).length : Int)).toNat = 0 := by
    show (((n : Int) - (([] : BL).length : Int)) % 1).toNat = 0
    rw [Int.emod_one]
    rfl
  rw [this]
  rfl
/-- one set out of two -/
theorem cm_of {K : PySem.W.Frag} {op : Bool → Bool → Bool} {v1 v2 : V} {f g : Nat → Bool} {H : Hp} {Q : VK} {E : XK} (h1 : Sa K H v1 f) (h2 : Sa K H v2 g) (q : ∀ v' H', Same H H' → Sa K H' v' (fun n => op (f n) (g n)) → Q v' H') : spCm K op [v1, v2] H Q E := by
  obtain ⟨x, hx, dx⟩ := h1
  obtain ⟨y, hy, dy⟩ := h2
  obtain ⟨b1, b2, b3⟩ := dx.two dy
  refine ⟨v1, v2, x, y, rfl, hx, hy, dx.ne, dy.ne, b1, b2, b3, fun v' H' z s hz hg l1 l2 => q v' H' s ⟨z, hz, ⟨hg.1, fun n => ?_⟩, Nat.le_trans l1 (Nat.max_le.mpr ⟨dx.2.1, dy.2.1⟩), Nat.dvd_trans l2 (dx.lcm dy)⟩⟩
  rw [hg.2 n]
  show op (sq x.1 x.2 n) (sq y.1 y.2 n) = op (f n) (g n)
  rw [dx.1.2 n, dy.1.2 n]
section
variable {P : Program} {w : World} {K : PySem.W.Frag} {mg : Str → Option Value} {base : Heap}
/-! ### row_set -/
abbrev sRw : Stmt := top 15
abbrev nRw : List Str := ["row", "found", "relation"]
theorem scRw : FnScope nRw ["row"] (defScope sRw) := ⟨rfl, rfl, rfl, by decide +kernel, rfl, by decide +kernel, by decide +kernel⟩
abbrev qL : Str := (("row_set" : Str) ++ (".<locals>." : Str)) ++ ("<lambda>" : Str)
abbrev tbs (tp : Addr) : List (Addr × Str) := [(tp, qL)]
def RowOk (x : List Rel) : Prop := x ≠ [] ∧ x.length ≤ 2 ∧ ∀ r ∈ x, RelOk r
def spRw (K : PySem.W.Frag) (tp : Addr) : Sp := fun vs H Q _ => ∃ (v : V) (x : List Rel), vs = [v] ∧ RowAt H x v ∧ RowOk x ∧ Tabs (tbs tp) H ∧ ∀ v' H', ExtN H H' → Tabs (tbs tp) H' → Sa K H' v' (fun n => x.all (relB (n : Int))) → Q v' H'
theorem ok_rw {f fM fR c tp : Addr} {fd fdM fdR : FuncData} (F : FunC K "row_set" "row_set" sRw f fd c) (TB : LamX.TabB base mg c tp)
    (GM : FnOk P w K mg base CX0 4 fM fdM ["one", "other"] (spCm K fun a b => a && b)) (bM : Binds K fdM ["one", "other"] []) (kM : PySem.W.keepIn K (.ref fM) = true) (mM : mg "common" = some (.ref fM))
    (GR : FnOk P w K mg base CX0 4 fR fdR ["relation"] (spRe K)) (bR : Binds K fdR ["relation"] []) (kR : PySem.W.keepIn K (.ref fR) = true) (mR : mg "relation_set" = some (.ref fR))
    (hA : KP K mg "ALL" ([], [true])) (ms : mg "sorted" = none) :
    FnOk P w K mg base CX0 5 f fd ["row"] (spRw K tp) := by
  refine F.ok scRw (fun vs H Q E h => ?_) (fun A outer s H vs Q E hr h => ?_)
  · obtain ⟨v, x, rfl, _⟩ := h
    rfl
  obtain ⟨v, x, rfl, ⟨r, rvs, rfl, hr1, ha, hlr⟩, ⟨hne, hl2, hrk⟩, hT, q⟩ := h
  obtain ⟨an, mA, hA'⟩ := hA
  have nd := scRw.nd
  refine ⟨_, pss_cons (ps_set (i := 1) nd rfl (.inl rfl) (pe_glob rfl mA (v := .ref an) rfl))
    (pss_cons (ps_for PassesOwn.never rfl (pi_list (Lk.pe_sortK (T := tbs tp) (hr.mono (by decide : 3 + 1 ≤ 4)) rfl ms (pa_cons (pv 0) pa_nil) TB rfl (List.mem_singleton.mpr rfl) (fun p hp _ => by rw [List.mem_singleton.mp hp]; rfl) rfl rfl rfl rfl (by decide) rfl (fun _ _ _ _ _ _ => rfl))) (pg_name (i := 2) nd rfl (.inl rfl))
      (pss_one (ps_set (i := 1) nd rfl (.inl rfl) (pe_call GM hr rfl mM kM bM .nil pass0 (pa_cons (pv 1) (pa_cons (pe_call GR hr rfl mR kR bR .nil pass0 (pa_cons (pv 2) pa_nil)) pa_nil))))))
    (pss_one (ps_ret (pv 1)))), ?_⟩
  refine ⟨_, rfl, r, rvs, rfl, SqL.of hr1, fun y hy => ?_, hT, fun H1 e1 T1 D ys hD hp => ?_⟩
  · obtain ⟨i, hi⟩ := List.getElem?_of_mem hy
    obtain ⟨rel, _, p, qv, rfl, hp, _⟩ := A2.get ha hi
    exact ⟨rel.1, p, _, rfl, SqT.of hp⟩
  obtain ⟨zs, pz, az⟩ := A2.perm hp (ha.mono (RelAt.ext e1))
  have sD : Same H1 (upd H1 D (.lst ys)) := same_new hD _
  have az' := az.mono (RelAt.same sD)
  have hDD : upd H1 D (.lst ys) D = some (.lst ys) := upd_same
  generalize upd H1 D (.lst ys) = H2 at sD az' hDD
  refine ⟨D, rfl, ⟨_, SqL.of hDD⟩, ?_⟩
  refine for_list (xs := ys) (fun i σ H' => ∃ v o2, σ = [some (.ref r), some v, o2] ∧ Same H2 H' ∧ Sa K H' v (fun n => (zs.take i).all (relB (n : Int)))) ⟨_, _, rfl, Same.refl _, sa_all (hA' H2)⟩ (fun i σ H' _ ⟨_, _, _, s', _⟩ => SqL.of (s' _ _ hDD)) ?_ ?_
  · rintro i y σ H' hy ⟨v1, o2, rfl, s', hv⟩
    obtain ⟨rel, hz, hrel⟩ := A2.get az' hy
    refine ⟨_, rfl, _, rfl, y, rel, rfl, hrel.same s', hrk rel (pz.mem_iff.mp (List.mem_of_getElem? hz)), fun w2 H3 s3 hw => ?_⟩
    refine cm_of (E := E0) (hv.same s3) hw fun w4 H4 s4 h4 => ⟨_, _, rfl, (s'.trans s3).trans s4, ?_⟩
    have e : (fun n : Nat => (zs.take (i + 1)).all (relB (n : Int))) = fun n : Nat => (zs.take i).all (relB (n : Int)) && relB (n : Int) rel := funext fun n => all_take _ hz
    rw [e]
    exact h4
  · rintro σ H' ⟨v1, o2, rfl, s', hv⟩
    have e : (fun n : Nat => (zs.take ys.length).all (relB (n : Int))) = fun n : Nat => x.all (relB (n : Int)) := funext fun n => by
      rw [az.length, List.take_length]
      exact pz.all_eq
    rw [e] at hv
    exact ⟨_, rfl, q v1 H' (LamX.ExtN.trans e1 (Same.extN (sD.trans s'))) (Tabs.same T1 (sD.trans s')) hv⟩
/-! ### condition_set -/
abbrev sCo : Stmt := top 16
abbrev nCo : List Str := ["condition", "found", "row"]
theorem scCo : FnScope nCo ["condition"] (defScope sCo) := ⟨rfl, rfl, rfl, by decide +kernel, rfl, by decide +kernel, by decide +kernel⟩
def spCo (K : PySem.W.Frag) (tp : Addr) : Sp := fun vs H Q _ => ∃ (v : V) (x : List (List Rel)), vs = [v] ∧ ConAt H x v ∧ ConOk x ∧ Tabs (tbs tp) H ∧ ∀ v' H', ExtN H H' → Tabs (tbs tp) H' → Sa K H' v' (fun n => conB (n : Int) x) → Q v' H'
theorem ok_co {f fU fR tp : Addr} {fd fdU fdR : FuncData} (F : Fun K "condition_set" "condition_set" sCo f fd)
    (GU : FnOk P w K mg base CX0 5 fU fdU ["one", "other"] (spCm K fun a b => a || b)) (bU : Binds K fdU ["one", "other"] []) (kU : PySem.W.keepIn K (.ref fU) = true) (mU : mg "union" = some (.ref fU))
    (GR : FnOk P w K mg base CX0 5 fR fdR ["row"] (spRw K tp)) (bR : Binds K fdR ["row"] []) (kR : PySem.W.keepIn K (.ref fR) = true) (mR : mg "row_set" = some (.ref fR))
    (hN : KP K mg "NONE" ([], [false])) :
    FnOk P w K mg base CX0 6 f fd ["condition"] (spCo K tp) := by
  refine F.ok scCo (fun vs H Q E h => ?_) (fun cdv A outer s H vs Q E hr h => ?_)
  · obtain ⟨v, x, rfl, _⟩ := h
    rfl
  obtain ⟨v, x, rfl, ⟨r, cvs, rfl, hr1, ha, hlr⟩, ⟨hne, hl2, hrk⟩, hT, q⟩ := h
  obtain ⟨an, mA, hA'⟩ := hN
  have nd := scCo.nd
  refine ⟨_, pss_cons (ps_set (i := 1) nd rfl (.inl rfl) (pe_glob rfl mA (v := .ref an) rfl))
    (pss_cons (ps_for PassesOwn.never rfl (pi_list (pv 0)) (pg_name (i := 2) nd rfl (.inl rfl))
      (pss_one (ps_set (i := 1) nd rfl (.inl rfl) (pe_call GU hr rfl mU kU bU .nil pass0 (pa_cons (pv 1) (pa_cons (pe_call GR hr rfl mR kR bR .nil pass0 (pa_cons (pv 2) pa_nil)) pa_nil))))))
    (pss_one (ps_ret (pv 1)))), ?_⟩
  refine ⟨_, rfl, r, rfl, ⟨_, SqL.of hr1⟩, ?_⟩
  refine for_list (xs := cvs) (fun i σ H' => ∃ v o2, σ = [some (.ref r), some v, o2] ∧ ExtN H H' ∧ Tabs (tbs tp) H' ∧ Sa K H' v (fun n => conB (n : Int) (x.take i))) ⟨_, _, rfl, LamX.ExtN.refl _, hT, sa_none (hA' H)⟩ (fun i σ H' _ ⟨_, _, _, s', _⟩ => SqL.of (s' _ _ hr1 fun ps z => by cases z)) ?_ ?_
  · rintro i y σ H' hy ⟨v1, o2, rfl, s', T', hv⟩
    obtain ⟨row, hz, hrow⟩ := A2.get ha hy
    refine ⟨_, rfl, _, rfl, y, row, rfl, RowAt.ext s' _ _ hrow, hrk row (List.mem_of_getElem? hz), T', fun w2 H3 s3 T3 hw => ?_⟩
    refine cm_of (E := E0) (hv.ext s3) hw fun w4 H4 s4 h4 => ⟨_, _, rfl, LamX.ExtN.trans (LamX.ExtN.trans s' s3) (Same.extN s4), Tabs.same T3 s4, ?_⟩
    have e : (fun n : Nat => conB (n : Int) (x.take (i + 1))) = fun n : Nat => conB (n : Int) (x.take i) || row.all (relB (n : Int)) := funext fun n => any_take _ hz
    rw [e]
    exact h4
  · rintro σ H' ⟨v1, o2, rfl, s', T', hv⟩
    rw [show x.take cvs.length = x by rw [ha.length, List.take_length]] at hv
    exact ⟨_, rfl, q v1 H' s' T' hv⟩
end
end Mw

namespace Mw
open PySem L2
abbrev Fn := Nat → Bool
abbrev Ens := List (Str × Fn)
/-- the sets of the categories of the rules, where just the numbers in rest are left -/
def sE : List Rule → Fn → Ens
  | [], _ => []
  | r :: rs, rest => (r.1, fun n => rest n && conB (n : Int) r.2) :: sE rs fun n => rest n && !conB (n : Int) r.2
/-- what is left behind them -/
def sR : List Rule → Fn → Fn
  | [], rest => rest
  | r :: rs, rest => sR rs fun n => rest n && !conB (n : Int) r.2
theorem sR_snoc (r : Rule) : ∀ (rs : List Rule) (rest : Fn), sR (rs ++ [r]) rest = fun n => sR rs rest n && !conB (n : Int) r.2
  | [], _ => rfl
  | x :: rs, rest => sR_snoc r rs _
theorem sE_snoc (r : Rule) : ∀ (rs : List Rule) (rest : Fn), sE (rs ++ [r]) rest = sE rs rest ++ [(r.1, fun n => sR rs rest n && conB (n : Int) r.2)]
  | [], _ => rfl
  | x :: rs, rest => congrArg (List.cons _) (sE_snoc r rs _)
theorem sE_keys : ∀ (rs : List Rule) (rest : Fn), (sE rs rest).map (·.1) = rs.map (·.1)
  | [], _ => rfl
  | x :: rs, rest => congrArg (List.cons _) (sE_keys rs _)
theorem catB_cons (n : Int) (r : Rule) (rs : List Rule) : catB n (r :: rs) = if conB n r.2 = true then r.1 else catB n rs := rfl
theorem catB_in (n : Int) : ∀ rs : List Rule, catB n rs = "other" ∨ catB n rs ∈ rs.map (·.1)
  | [] => .inl rfl
  | r :: rs => by
    unfold catB
    split
    · exact .inr List.mem_cons_self
    · exact (catB_in n rs).imp id (List.mem_cons_of_mem _)
theorem sR_ok (n : Nat) : ∀ (rs : List Rule) (rest : Fn), (∀ r ∈ rs, r.1 ≠ "other") → sR rs rest n = (rest n && decide (catB (n : Int) rs = "other"))
  | [], rest, _ => by
    show rest n = _
    rw [show catB (n : Int) [] = "other" from rfl, decide_eq_true rfl, Bool.and_true]
  | r :: rs, rest, h => by
    show sR rs _ n = _
    rw [sR_ok n rs _ fun x hx => h x (List.mem_cons_of_mem _ hx)]
    rw [catB_cons]
    cases hc : conB (n : Int) r.2 with
    | true =>
      rw [if_pos rfl, decide_eq_false (h r List.mem_cons_self)]
      simp
    | false =>
      rw [if_neg Bool.false_ne_true]
      simp
theorem sE_ok (n : Nat) : ∀ (rs : List Rule) (rest : Fn), (rs.map (·.1)).Nodup → (∀ r ∈ rs, r.1 ≠ "other") → ∀ p ∈ sE rs rest, p.2 n = (rest n && decide (catB (n : Int) rs = p.1))
  | [], _, _, _, p, hp => by cases hp
  | r :: rs, rest, nd, h, p, hp => by
    rw [List.map_cons, List.nodup_cons] at nd
    have ho := h r List.mem_cons_self
    rcases List.mem_cons.mp hp with rfl | hp
    · show (rest n && conB (n : Int) r.2) = _
      rw [catB_cons]
      cases hc : conB (n : Int) r.2 with
      | true => rw [if_pos rfl, decide_eq_true rfl]
      | false =>
        rw [if_neg Bool.false_ne_true]
        have : catB (n : Int) rs ≠ r.1 := fun e => by
          rcases catB_in (n : Int) rs with z | z
          · exact ho (e.symm.trans z)
          · exact nd.1 (e ▸ z)
        rw [decide_eq_false this]
    · rw [sE_ok n rs _ nd.2 (fun x hx => h x (List.mem_cons_of_mem _ hx)) p hp]
      have hk : p.1 ∈ rs.map (·.1) := by
        rw [← sE_keys rs]
        exact List.mem_map.mpr ⟨p, hp, rfl⟩
      have hne : r.1 ≠ p.1 := fun e => nd.1 (e ▸ hk)
      show ((rest n && !conB (n : Int) r.2) && _) = _
      rw [catB_cons]
      cases hc : conB (n : Int) r.2 with
      | true =>
        rw [if_pos rfl, decide_eq_false hne]
        simp
      | false =>
        rw [if_neg Bool.false_ne_true]
        simp
/-! ### a dict of sets -/
def EntS (K : PySem.W.Frag) (H : Hp) : Ens → List (L2.Key × V) → Prop
  | [], kvs => kvs = []
  | p :: es, kvs => ∃ v r, kvs = (Sum.inr p.1, v) :: r ∧ Sa K H v p.2 ∧ EntS K H es r
theorem EntS.mono {K : PySem.W.Frag} {H H' : Hp} (h : ∀ v f, Sa K H v f → Sa K H' v f) : ∀ {es : Ens} {kvs : List (L2.Key × V)}, EntS K H es kvs → EntS K H' es kvs
  | [], _, e => e
  | _ :: _, _, ⟨v, r, e, x, y⟩ => ⟨v, r, e, h _ _ x, EntS.mono h y⟩
theorem EntS.keys {K : PySem.W.Frag} {H : Hp} : ∀ {es : Ens} {kvs : List (L2.Key × V)}, EntS K H es kvs → kvs.map (·.1) = (es.map (·.1)).map Sum.inr
  | [], _, e => by rw [show _ = [] from e]; rfl
  | _ :: _, _, ⟨v, r, e, x, y⟩ => by rw [e, List.map_cons, EntS.keys y]; rfl
theorem EntS.snoc {K : PySem.W.Frag} {H : Hp} {k : Str} {v : V} {f : Fn} (hv : Sa K H v f) : ∀ {es : Ens} {kvs : List (L2.Key × V)}, EntS K H es kvs → EntS K H (es ++ [(k, f)]) (kvs ++ [(Sum.inr k, v)])
  | [], _, e => by
    rw [show _ = [] from e]
    exact ⟨v, [], rfl, hv, rfl⟩
  | _ :: _, _, ⟨w, r, e, x, y⟩ => ⟨w, r ++ [(Sum.inr k, v)], by rw [e]; rfl, x, EntS.snoc hv y⟩
theorem EntS.get {K : PySem.W.Frag} {H : Hp} {k : Str} : ∀ {es : Ens} {kvs : List (L2.Key × V)}, EntS K H es kvs → k ∈ es.map (·.1) → ∃ v f, valV kvs (Sum.inr k) = some v ∧ Sa K H v f ∧ (k, f) ∈ es
  | [], _, _, h => by cases h
  | p :: es, _, ⟨v, r, e, x, y⟩, h => by
    subst e
    by_cases c : p.1 = k
    · subst c
      exact ⟨v, p.2, valV_pos (p := ((Sum.inr p.1 : L2.Key), v)) rfl, x, List.mem_cons_self⟩
    · have hk : k ∈ es.map (·.1) := by
        rcases List.mem_cons.mp h with z | z
        · exact absurd z.symm c
        · exact z
      obtain ⟨b, f, g1, g2, g3⟩ := EntS.get y hk
      exact ⟨b, f, by rw [valV_neg (p := ((Sum.inr p.1 : L2.Key), v)) (fun z => c (Sum.inr.inj z))]; exact g1, g2, List.mem_cons_of_mem _ g3⟩
theorem put_new {kvs : List (L2.Key × V)} {ks : List Str} {n : Str} (v : V) (h : kvs.map (·.1) = ks.map Sum.inr) (hn : n ∉ ks) : putK kvs (Sum.inr n) v = kvs ++ [(Sum.inr n, v)] := by
  have a : (kvs.any fun kv => decide (kv.1 = Sum.inr n)) = false := by
    rw [List.any_eq_false]
    intro p hp z
    have z := of_decide_eq_true z
    have : p.1 ∈ ks.map (Sum.inr : Str → L2.Key) := by
      rw [← h]
      exact List.mem_map.mpr ⟨p, hp, rfl⟩
    obtain ⟨m, hm, e⟩ := List.mem_map.mp this
    rw [z] at e
    exact hn (Sum.inr.inj e ▸ hm)
  unfold putK
  rw [a, if_neg Bool.false_ne_true]
/-- tuples stay -/
def TupK (H H' : Hp) : Prop := ∀ b, (∀ xs, H b = some (.tup xs) → H' b = some (.tup xs)) ∧ ∀ ob c, H b = some (.frz ob c) → H' b = some (.frz ob c)
theorem TupK.same {H H' : Hp} (s : Same H H') : TupK H H' := fun b => ⟨fun _ h => s _ _ h, fun _ _ h => s _ _ h⟩
theorem TupK.trans {H H1 H2 : Hp} (a : TupK H H1) (b : TupK H1 H2) : TupK H H2 := fun p => ⟨fun _ h => (b p).1 _ ((a p).1 _ h), fun _ _ h => (b p).2 _ _ ((a p).2 _ _ h)⟩
theorem TupK.put {H : Hp} {d : Addr} {kvs : List (L2.Key × V)} (h : H d = some (.dK kvs)) (o : HO) : TupK H (upd H d o) := fun b => by
  refine ⟨fun xs e => ?_, fun ob c e => ?_⟩ <;> (rw [upd_ne (by rintro rfl; rw [h] at e; cases e)]; exact e)
theorem TupK.go {B d : Addr} {H H' : Hp} (b : Box H B d) (g : Go B H H') : TupK H H' := fun p => by
  obtain ⟨ds, i, hB, _⟩ := b
  exact ⟨fun xs e => g.ext _ _ (by rintro rfl; rw [hB] at e; cases e) e, fun ob c e => g.ext _ _ (by
    rintro rfl
    rw [hB] at e
    cases e) e⟩
theorem Sa.tk {K : PySem.W.Frag} {H H' : Hp} {v : V} {f : Fn} (k : TupK H H') (h : Sa K H v f) : Sa K H' v f := by
  have hS : ∀ {p : Addr} {xs : List V}, SqT K H p xs → SqT K H' p xs := fun {p xs} h => by
    rcases h with (h | ⟨o, h⟩) | h
    · exact .inl (.inl ((k p).1 _ h))
    · exact .inl (.inr ⟨o, (k p).2 _ _ h⟩)
    · exact .inr h
  have hT : ∀ {v : V} {bs : BL}, TA K H v bs → TA K H' v bs := fun {v bs} h => by
    obtain ⟨p, e, h1, h2⟩ := h
    exact ⟨p, e, hS h1, h2.elim (fun ⟨ob, e1, e2⟩ => .inl ⟨ob, (k p).2 _ _ e1, e2⟩) .inr⟩
  obtain ⟨z, ⟨p, a, b, e, h1, h2, h3⟩, hd⟩ := h
  exact ⟨z, ⟨p, a, b, e, hS h1, hT h2, hT h3⟩, hd⟩
theorem ExtN.mut {H H' : Hp} {d : Addr} (s : ExtN H H') (h : H d = none) (o : HO) : ExtN H (upd H' d o) := fun b u q n => by
  rw [upd_ne (ne_of_none q h)]
  exact s b u q n
theorem Tabs.mut {T : List (Addr × Str)} {H : Hp} {d : Addr} (t : Tabs T H) {kvs kvs' : List (L2.Key × V)} (h : H d = some (.dK kvs)) : Tabs T (upd H d (.dK kvs')) := fun p hp => by
  obtain ⟨ps, h1, h2, h3⟩ := t p hp
  refine ⟨ps, ?_, h2, fun pos cv hc => ?_⟩
  · rw [upd_ne (by rintro rfl; rw [h] at h1; cases h1)]
    exact h1
  · obtain ⟨c, e1, e2⟩ := h3 pos cv hc
    refine ⟨c, e1, ?_⟩
    rw [upd_ne (by
      rintro rfl
      rw [h] at e2
      unfold LamX.CodeO at e2
      cases e2)]
    exact e2
/-- the dict that tells the set of each category -/
def Told (K : PySem.W.Frag) (H : Hp) (d : Addr) (es : Ens) : Prop := ∃ kvs, H d = some (.dK kvs) ∧ EntS K H es kvs
def allE (rs : List Rule) : Ens := sE rs (fun _ => true) ++ [((("other" : Str), sR rs fun _ => true) : Str × Fn)]
theorem names_ok {rs : List Rule} (h : LanOk rs) : (rs.map (·.1)).Nodup ∧ ∀ r ∈ rs, r.1 ≠ "other" := by
  refine ⟨h.1.nodup (by decide), fun r hr e => ?_⟩
  have : r.1 ∈ cats := h.1.subset (List.mem_map.mpr ⟨r, hr, rfl⟩)
  rw [e] at this
  exact absurd this (by decide)
theorem allE_ok {rs : List Rule} (h : LanOk rs) (n : Nat) : ∀ p ∈ allE rs, p.2 n = decide (catN rs (n : Int) = p.1) := fun p hp => by
  obtain ⟨h1, h2⟩ := names_ok h
  have e : catN rs (n : Int) = catB (n : Int) rs := by
    unfold catN
    rw [if_neg (by omega)]
  rw [e]
  rcases List.mem_append.mp hp with hp | hp
  · rw [sE_ok n rs _ h1 h2 p hp, Bool.true_and]
  · rw [List.mem_singleton.mp hp]
    show sR rs _ n = _
    rw [sR_ok n rs _ h2, Bool.true_and]
section
variable {P : Program} {w : World} {K : PySem.W.Frag} {mg : Str → Option Value} {base : Heap} {C : Addr}
/-! ### category_sets -/
abbrev sCs : Stmt := top 17
abbrev nCs : List Str := ["language", "found", "rest", "category", "condition", "holds"]
theorem scCs : FnScope nCs ["language"] (defScope sCs) := ⟨rfl, rfl, rfl, by decide +kernel, rfl, by decide +kernel, by decide +kernel⟩
def spCs (K : PySem.W.Frag) (C tp : Addr) : Sp := fun vs H Q _ => ∃ (v : V) (rs : List Rule), vs = [v] ∧ LanAt C H rs v ∧ LanOk rs ∧ Tabs (tbs tp) H ∧ ∀ d H', H d = none → ExtN H H' → Tabs (tbs tp) H' → Told K H' d (allE rs) → Q (.ref d) H'
theorem ok_cs {f fM fD fO tp : Addr} {fd fdM fdD fdO : FuncData} (F : Fun K "category_sets" "category_sets" sCs f fd) (L : LC K C)
    (GM : FnOk P w K mg base CX0 4 fM fdM ["one", "other"] (spCm K fun a b => a && b)) (bM : Binds K fdM ["one", "other"] []) (kM : PySem.W.keepIn K (.ref fM) = true) (mM : mg "common" = some (.ref fM))
    (GD : FnOk P w K mg base CX0 5 fD fdD ["one", "other"] (spCm K fun a b => a && !b)) (bD : Binds K fdD ["one", "other"] []) (kD : PySem.W.keepIn K (.ref fD) = true) (mD : mg "difference" = some (.ref fD))
    (GO : FnOk P w K mg base CX0 6 fO fdO ["condition"] (spCo K tp)) (bO : Binds K fdO ["condition"] []) (kO : PySem.W.keepIn K (.ref fO) = true) (mO : mg "condition_set" = some (.ref fO))
    (hA : KP K mg "ALL" ([], [true])) :
    FnOk P w K mg base CX0 7 f fd ["language"] (spCs K C tp) := by
  refine F.ok scCs (fun vs H Q E h => ?_) (fun cdv A outer s H vs Q E hr h => ?_)
  · obtain ⟨v, rs, rfl, _⟩ := h
    rfl
  obtain ⟨v, rs, rfl, ⟨o, dx, qv, rfl, ho, ⟨r, rvs, rfl, hr1, ha, hl⟩⟩, hok, hT, q⟩ := h
  obtain ⟨an, mA, hA'⟩ := hA
  have nd := scCs.nd
  have hu : (cxOf CX0 P w K mg base nCs "category_sets" (defScope sCs) f cdv A outer s H E).nox.A.units + 1 < cLine := by
    have := hr.un
    show (A.deeper _).units + 1 < cLine
    omega
  refine ⟨_, pss_cons (ps_set (i := 1) nd rfl (.inl rfl) pe_dnewK)
    (pss_cons (ps_set (i := 2) nd rfl (.inl rfl) (pe_glob rfl mA (v := .ref an) rfl))
    (pss_cons (ps_for PassesOwn.never rfl (pi_list (pe_fld (pv 0) rfl)) (pg_tup rfl (pgs_cons (pg_name (i := 3) nd rfl (.inl rfl)) (pgs_cons (pg_name (i := 4) nd rfl (.inl rfl)) pgs_nil)))
      (pss_cons (ps_set (i := 5) nd rfl (.inl rfl) (pe_call GO hr rfl mO kO bO .nil pass0 (pa_cons (pv 4) pa_nil)))
      (pss_cons (ps_dput hu (pv 1) (pv 3) (pe_call GM (hr.mono (by decide)) rfl mM kM bM .nil pass0 (pa_cons (pv 2) (pa_cons (pv 5) pa_nil))) rfl)
      (pss_one (ps_set (i := 2) nd rfl (.inl rfl) (pe_call GD (hr.mono (by decide)) rfl mD kD bD .nil pass0 (pa_cons (pv 2) (pa_cons (pv 5) pa_nil))))))))
    (pss_cons (ps_dput hu (pv 1) pe_str (pv 2) rfl)
    (pss_one (ps_ret (pv 1)))))), ?_⟩
  refine fun d hd => ?_
  have s1 : Same H (upd H d (.dK [])) := same_new hd _
  obtain ⟨nN, nO⟩ := names_ok hok
  refine ⟨_, rfl, o, C, dx, _, .ref r, rfl, s1 _ _ ho, L.c, L.nr, rfl, r, rfl, ⟨_, SqL.of (s1 _ _ hr1)⟩, ?_⟩
  refine for_list (xs := rvs) (fun i σ H' => ∃ v kvs o3 o4 o5, σ = [some (.ref o), some (.ref d), some v, o3, o4, o5] ∧ ExtN H H' ∧ Tabs (tbs tp) H' ∧ H' d = some (.dK kvs) ∧ EntS K H' (sE (rs.take i) fun _ => true) kvs ∧ Sa K H' v (sR (rs.take i) fun _ => true))
    ⟨_, [], _, _, _, rfl, Same.extN s1, Tabs.same hT s1, upd_same, rfl, sa_all (hA' _)⟩ (fun i σ H' _ ⟨_, _, _, _, _, _, s', _⟩ => SqL.of (s' _ _ hr1 fun ps z => by cases z)) ?_ ?_
  · rintro i y σ H' hy ⟨v1, kvs, o3, o4, o5, rfl, s', T', hd', he, hv⟩
    obtain ⟨⟨ct, con⟩, hz, p, cv, rfl, hp, hcon⟩ := A2.get ha hy
    have hi := get_lt hz
    have hts : rs.take (i + 1) = rs.take i ++ [(ct, con)] := by
      rw [List.take_succ, hz]
      rfl
    refine ⟨p, _, rfl, .inl (.inl (s' _ _ hp fun ps z => by cases z)), rfl, .str ct, _, rfl, cv, [], rfl, rfl, ?_⟩
    refine ⟨_, rfl, cv, con, rfl, ConAt.ext s' _ _ hcon, hok.2 _ (List.mem_of_getElem? hz), T', fun w2 H3 s3 T3 hw => ?_⟩
    refine ⟨_, rfl, _, rfl, cm_of (E := E0) (hv.ext s3) hw fun w4 H4 s4 h4 => ?_⟩
    have s34 : ExtN H' H4 := LamX.ExtN.trans s3 (Same.extN s4)
    have hd4 : H4 d = some (.dK kvs) := s34 _ _ hd' fun ps z => by cases z
    have hks := he.keys
    rw [sE_keys] at hks
    have hnew : ct ∉ (rs.take i).map (·.1) := fun hm => by
      have n2 : ((rs.take (i + 1)).map (·.1)).Nodup := nN.sublist ((List.take_sublist _ _).map _)
      rw [hts, List.map_append, List.nodup_append] at n2
      exact n2.2.2 ct hm ct (by simp) rfl
    have hput := put_new (n := ct) w4 hks hnew
    have hkl : kvs.length = (rs.take i).length := by
      have := congrArg List.length hks
      simpa using this
    have hrl := ha.length
    refine ⟨_, rfl, _, rfl, d, _, rfl, DPut.k (k := Sum.inr ct) hd4 (sz_line (by rw [hkl, List.length_take]; omega)), ?_⟩
    rw [hput]
    have k4 : TupK H4 (upd H4 d (.dK (kvs ++ [(Sum.inr ct, w4)]))) := TupK.put hd4 _
    have T4 : Tabs (tbs tp) (upd H4 d (.dK (kvs ++ [(Sum.inr ct, w4)]))) := Tabs.mut (Tabs.same T3 s4) hd4
    have x4 : ExtN H (upd H4 d (.dK (kvs ++ [(Sum.inr ct, w4)]))) := ExtN.mut (LamX.ExtN.trans s' s34) hd _
    have g4 : upd H4 d (.dK (kvs ++ [(Sum.inr ct, w4)])) d = some (.dK (kvs ++ [(Sum.inr ct, w4)])) := upd_same
    have he4 : EntS K (upd H4 d (.dK (kvs ++ [(Sum.inr ct, w4)]))) (sE (rs.take (i + 1)) fun _ => true) (kvs ++ [(Sum.inr ct, w4)]) := by
      rw [hts, sE_snoc]
      exact EntS.snoc (h4.tk k4) (he.mono fun _ _ h => (h.ext s34).tk k4)
    have hv4 := (hv.ext s34).tk k4
    have hw4 := (hw.same s4).tk k4
    generalize upd H4 d (.dK (kvs ++ [(Sum.inr ct, w4)])) = H5 at T4 x4 g4 he4 hv4 hw4
    refine ⟨_, rfl, _, rfl, ?_⟩
    refine cm_of (E := E0) (op := fun a b => a && !b) hv4 hw4 fun w6 H6 s6 h6 => ⟨_, _, _, _, _, rfl, LamX.ExtN.trans x4 (Same.extN s6), Tabs.same T4 s6, s6 _ _ g4, he4.mono fun _ _ h => h.same s6, ?_⟩
    rw [hts, sR_snoc]
    exact h6
  · rintro σ H' ⟨v1, kvs, o3, o4, o5, rfl, s', T', hd', he, hv⟩
    rw [show rs.take rvs.length = rs by rw [ha.length, List.take_length]] at he hv
    have hks := he.keys
    rw [sE_keys] at hks
    have hnew : ("other" : Str) ∉ rs.map (·.1) := fun hm => by
      obtain ⟨x, hx, e⟩ := List.mem_map.mp hm
      exact nO x hx e
    have hput := put_new (n := "other") v1 hks hnew
    have hkl : kvs.length = rs.length := by
      have := congrArg List.length hks
      simpa using this
    have hrl := ha.length
    refine ⟨_, rfl, _, rfl, d, _, rfl, DPut.k (k := Sum.inr "other") hd' (sz_line (by omega)), ?_⟩
    rw [hput]
    have k4 : TupK H' (upd H' d (.dK (kvs ++ [((Sum.inr ("other" : Str) : L2.Key), v1)]))) := TupK.put hd' _
    exact ⟨_, rfl, q d _ hd (ExtN.mut s' hd _) (Tabs.mut T' hd') ⟨_, upd_same, EntS.snoc (hv.tk k4) (he.mono fun _ _ h => h.tk k4)⟩⟩
end
end Mw

set_option maxHeartbeats 1000000
namespace Mw
open PySem L2
theorem hids_out {L : List Addr} {H : Hp} : Same (hids L H) H := fun _ _ h => (hids_in h).2
theorem hids_go {B : Addr} {H H1 : Hp} (g : Go B H H1) : Same (hids [B] H) (hids [B] H1) := fun a o h => by
  obtain ⟨h1, h2⟩ := hids_in h
  rw [hids_ne h1]
  exact g.ext a o (by simpa using h1) h2
theorem hids_ext {L : List Addr} {H H1 : Hp} (s : ExtN H H1) : ExtN (hids L H) (hids L H1) := fun a o h n => by
  obtain ⟨h1, h2⟩ := hids_in h
  rw [hids_ne h1]
  exact s a o h2 n
theorem fr_hids {B : Addr} {H0 H : Hp} {ob : HO} (hB : H0 B = some ob) : Same (fr H0 H) (hids [B] H) := fun a o h => by
  obtain ⟨h0, h1⟩ := fr_in h
  rw [hids_ne (by simp; rintro rfl; rw [hB] at h0; cases h0)]
  exact h1
theorem Box.ext {H H' : Hp} {B d : Addr} (s : ExtN H H') (b : Box H B d) : Box H' B d := by
  obtain ⟨ds, i, h, hd, hi⟩ := b
  exact ⟨ds, i, s _ _ h (fun ps z => by cases z), s _ _ hd (fun ps z => by cases z), hi⟩
theorem Tabs.go {T : List (Addr × Str)} {B d : Addr} {H H' : Hp} (t : Tabs T H) (b : Box H B d) (g : Go B H H') : Tabs T H' := fun p hp => by
  obtain ⟨ds, i, hB, _⟩ := b
  obtain ⟨ps, h1, h2, h3⟩ := t p hp
  refine ⟨ps, g.ext _ _ (by rintro e; rw [e, hB] at h1; cases h1) h1, h2, fun pos cv hc => ?_⟩
  obtain ⟨c, e1, e2⟩ := h3 pos cv hc
  exact ⟨c, e1, g.ext _ _ (by rintro rfl; rw [hB] at e2; unfold LamX.CodeO at e2; cases e2) e2⟩
/-! ### lists of texts as data -/
theorem eqv_strs : ∀ a : List Str, PyData.eqvAll (a.map .str) (a.map .str) = true
  | [] => rfl
  | x :: a => by
    show ((x == x) && PyData.eqvAll (a.map .str) (a.map .str)) = true
    rw [eqv_strs a]
    simp
theorem can_strs : ∀ a : List Str, (∀ s ∈ a, (PyData.str s).canLay0 = true) → PyData.canLayAll0 (a.map .str) = true
  | [], _ => rfl
  | x :: a, h => by
    show ((PyData.str x).canLay0 && PyData.canLayAll0 (a.map .str)) = true
    rw [h x List.mem_cons_self, can_strs a fun s hs => h s (List.mem_cons_of_mem _ hs)]
    rfl
theorem dep_strs : ∀ a : List Str, PyData.depthAll (a.map .str) = 0
  | [] => rfl
  | b :: a => by
    show max (PyData.depth (.str b)) (PyData.depthAll (a.map .str)) = 0
    rw [dep_strs a]
    rfl
theorem shp_strs {a : List Str} (h : ∀ s ∈ a, (PyData.str s).canLay0 = true) : SeqAt.shaped (.list (a.map .str)) = true := by
  unfold SeqAt.shaped
  rw [Bool.and_eq_true]
  refine ⟨can_strs a h, decide_eq_true ?_⟩
  show PyData.depthAll (a.map .str) + 1 ≤ 64
  rw [dep_strs]
  decide
theorem dp_strs {K : PySem.W.Frag} {H : Hp} : ∀ a : List Str, DpAll K H (a.map V.str) (a.map .str)
  | [] => .nil
  | _ :: a => .cons (.str _) (dp_strs a)
theorem keys_strs {kvs : List (L2.Key × V)} {ks : List Str} (h : kvs.map (·.1) = ks.map Sum.inr) : (kvs.map fun kv => kV kv.1) = ks.map V.str := by
  have : (kvs.map fun kv => kV kv.1) = (kvs.map (·.1)).map kV := by rw [List.map_map]; rfl
  rw [this, h, List.map_map]
  rfl
theorem allE_keys (rs : List Rule) : (allE rs).map (·.1) = rs.map (·.1) ++ [("other" : Str)] := by
  unfold allE
  rw [List.map_append, sE_keys]
  rfl
theorem names_lay {rs : List Rule} (h : LanOk rs) : ∀ s ∈ rs.map (·.1) ++ [("other" : Str)], (PyData.str s).canLay0 = true := fun s hs => by
  rcases List.mem_append.mp hs with hs | hs
  · exact (by decide +kernel : ∀ s ∈ cats, (PyData.str s).canLay0 = true) s (h.1.subset hs)
  · rw [List.mem_singleton.mp hs]
    decide +kernel
/-- one of the sets asked for a number -/
theorem cn_get {K : PySem.W.Frag} {H : Hp} {v : V} {f : Fn} (h : Sa K H v f) : ∃ a c : BL, PA K H v (a, c) ∧ c ≠ [] ∧ a.length < 100000 ∧ c.length < 100000 ∧ ∀ n, sq a c n = f n := by
  obtain ⟨z, hz, hd⟩ := h
  have := hd.le
  have := hd.2.1
  exact ⟨z.1, z.2, hz, hd.ne, by omega, by omega, hd.1.2⟩
theorem upd_two {H : Hp} {p : Addr} {o o' : HO} : upd (upd H p o) p o' = upd H p o' := funext fun b => by
  by_cases h : b = p
  · subst h
    rw [upd_same, upd_same]
  · rw [upd_ne h, upd_ne h, upd_ne h]
theorem upd_id {H : Hp} {p : Addr} {o : HO} (h : H p = some o) : upd H p o = H := funext fun b => by
  by_cases e : b = p
  · subst e
    rw [upd_same, h]
  · rw [upd_ne e]
section
variable {P : Program} {w : World} {K : PySem.W.Frag} {mg : Str → Option Value} {base : Heap} {C : Addr}
abbrev sLaw : Stmt := top 33
abbrev nLaw : List Str := ["script", "box", "rules", "told", "condition", "whole", "part", "number", "category", "name", "rule", "k"]
theorem scLaw : FnScope nLaw ["script"] (defScope sLaw) := ⟨rfl, rfl, rfl, by decide +kernel, rfl, by decide +kernel, by decide +kernel⟩
def spLaw (K : PySem.W.Frag) (tp : Addr) : Sp := fun vs H Q _ => ∃ (a : Addr) (ns : List Int), vs = [.ref a] ∧ SqL K H a (ns.map V.int) ∧ H tp = some (.tbl #[]) ∧ ∀ H', Q (.bl true) H'
/-- what the law asks of the sets, through all the numbers -/
structure Al (K : PySem.W.Frag) (td nl : Addr) (kvs : List (L2.Key × V)) (rs : List Rule) (x : List (List Rel)) (rel : Rel) (vr vc vw vp : V) (nums : List Nat) (H : Hp) : Prop where
  r : RusAt H rs vr
  c : ConAt H x vc
  w : Sa K H vw fun n => conB (n : Int) x
  p : Sa K H vp fun n => relB (n : Int) rel
  t : H td = some (.dK kvs)
  e : EntS K H (allE rs) kvs
  n : H nl = some (.lst (nums.map nV))
theorem Al.same {td nl : Addr} {kvs : List (L2.Key × V)} {rs : List Rule} {x : List (List Rel)} {rel : Rel} {vr vc vw vp : V} {nums : List Nat} {H H' : Hp} (s : Same H H') (h : Al K td nl kvs rs x rel vr vc vw vp nums H) : Al K td nl kvs rs x rel vr vc vw vp nums H' :=
  ⟨h.r.same s, h.c.same s, h.w.same s, h.p.same s, s _ _ h.t, h.e.mono fun _ _ z => z.same s, s _ _ h.n⟩
theorem ok_law {f fG fU fI fS fN fO fR fA fL fH fC tp : Addr} {fd fdG fdU fdI fdS fdN fdO fdR fdA fdL fdH fdC : FuncData} (F : Fun K "law" "law" sLaw f fd)
    (gG : FnOk P w K mg base CX0 2 fG fdG ["script", "first", "last"] (spDigits K)) (bG : Binds K fdG ["script", "first", "last"] []) (kG : PySem.W.keepIn K (.ref fG) = true) (mG : mg "_law_digits" = some (.ref fG))
    (gU : FnOk P w K mg base CX0 4 fU fdU ["box"] spLu) (bU : Binds K fdU ["box"] []) (kU : PySem.W.keepIn K (.ref fU) = true) (mU : mg "_law_rules" = some (.ref fU))
    (M : Mk K C fI) (mC : mg "Language" = some (.ref C)) (gI : FnOk P w K mg base CX0 2 fI fdI ["self", "rules"] (spLi C)) (bI : Binds K fdI ["self", "rules"] [])
    (gS : FnOk P w K mg base CX0 7 fS fdS ["language"] (spCs K C tp)) (bS : Binds K fdS ["language"] []) (kS : PySem.W.keepIn K (.ref fS) = true) (mS : mg "category_sets" = some (.ref fS))
    (gN : FnOk P w K mg base CX0 3 fN fdN ["box"] spLn) (bN : Binds K fdN ["box"] []) (kN : PySem.W.keepIn K (.ref fN) = true) (mN : mg "_law_condition" = some (.ref fN))
    (gO : FnOk P w K mg base CX0 6 fO fdO ["condition"] (spCo K tp)) (bO : Binds K fdO ["condition"] []) (kO : PySem.W.keepIn K (.ref fO) = true) (mO : mg "condition_set" = some (.ref fO))
    (gR : FnOk P w K mg base CX0 4 fR fdR ["relation"] (spRe K)) (bR : Binds K fdR ["relation"] []) (kR : PySem.W.keepIn K (.ref fR) = true) (mR : mg "relation_set" = some (.ref fR))
    (gA : FnOk P w K mg base CX0 2 fA fdA ["box"] spFar) (bA : Binds K fdA ["box"] []) (kA : PySem.W.keepIn K (.ref fA) = true) (mA : mg "_law_far" = some (.ref fA))
    (gL : FnOk P w K mg base CX0 2 fL fdL ["rules", "number"] spLc) (bL : Binds K fdL ["rules", "number"] []) (kL : PySem.W.keepIn K (.ref fL) = true) (mL : mg "_law_category" = some (.ref fL))
    (gH : FnOk P w K mg base CX0 1 fH fdH ["condition", "number"] spCh) (bH : Binds K fdH ["condition", "number"] []) (kH : PySem.W.keepIn K (.ref fH) = true) (mH : mg "_law_holds" = some (.ref fH))
    (gC : FnOk P w K mg base CX0 1 fC fdC ["one", "number"] (spCn K)) (bC : Binds K fdC ["one", "number"] []) (kC : PySem.W.keepIn K (.ref fC) = true) (mCn : mg "contains" = some (.ref fC))
    (mr : mg "range" = none) (ml : mg "list" = none) :
    FnOk P w K mg base CX0 8 f fd ["script"] (spLaw K tp) := by
  refine F.ok scLaw (fun vs H Q E h => ?_) (fun cdv A outer s H vs Q E hr h => ?_)
  · obtain ⟨a, ns, rfl, _⟩ := h
    rfl
  obtain ⟨a, ns, rfl, hS, hTb, q⟩ := h
  have nd := scLaw.nd
  have hu : (cxOf CX0 P w K mg base nLaw "law" (defScope sLaw) f cdv A outer s H E).nox.A.units + 1 < cLine := by
    have := hr.un
    show (A.deeper _).units + 1 < cLine
    omega
  refine ⟨_, pss_cons (ps_set (i := 1) nd rfl (.inr rfl) (pe_lst (pa_cons (pe_call gG (hr.mono (by decide)) rfl mG kG bG .nil pass0 (pa_cons (pv 0) (pa_cons pe_int (pa_cons pe_int pa_nil)))) (pa_cons pe_int pa_nil))))
    (pss_cons (ps_set (i := 2) nd rfl (.inl rfl) (pe_call gU (hr.mono (by decide)) rfl mU kU bU .nil pass0 (pa_cons (pv 1) pa_nil)))
    (pss_cons (ps_set (i := 3) nd rfl (.inl rfl) (pe_call gS hr rfl mS kS bS .nil pass0 (pa_cons (pe_make M gI (hr.mono (by decide)) rfl mC bI .nil pass0 (pa_cons (pv 2) pa_nil)) pa_nil)))
    (pss_cons (ps_if (pt_cmpR (op_neD hr.units) (pe_callTy (call_list_dK rfl) (by rfl) ml (by decide +kernel) (pa_cons (pv 3) pa_nil))
        (pe_op op_cat (pe_lc (own := [("rule", 10)]) (g := gName 10) (tt := tYes) (te := tOp (rIxT K) (tVar 10) (tC (.int 0))) rfl nd (pi_list (pv 2)) (blkOk_by (N := nLaw) (sc := defScope sLaw) (by decide +kernel)) (fun _ _ _ _ _ => pg_name (i := 10) nd rfl (.inl rfl)) (fun _ _ _ _ _ => pts_nil) (fun _ _ _ _ _ => pe_ix ix_tup (pv 10) pe_int (fun _ _ => rfl)))
          (pe_lst (pa_cons pe_str pa_nil))) (nomark _)) (pss_one (ps_ret pe_bl)) pss_nil)
    (pss_cons (ps_set (i := 4) nd rfl (.inl rfl) (pe_call gN (hr.mono (by decide)) rfl mN kN bN .nil pass0 (pa_cons (pv 1) pa_nil)))
    (pss_cons (ps_set (i := 5) nd rfl (.inl rfl) (pe_call gO (hr.mono (by decide)) rfl mO kO bO .nil pass0 (pa_cons (pv 4) pa_nil)))
    (pss_cons (ps_set (i := 6) nd rfl (.inl rfl) (pe_call gR (hr.mono (by decide)) rfl mR kR bR .nil pass0 (pa_cons (pe_ix ix_list (pe_ix ix_list (pv 4) pe_int (fun _ _ => rfl)) pe_int (fun _ _ => rfl)) pa_nil)))
    (pss_cons (ps_for PassesOwn.never rfl (pi_list (pe_op op_cat
        (pe_lc (own := [("k", 11)]) (g := gName 11) (tt := tYes) (te := tVar 11) rfl nd (pi_range1 rfl mr (pa_cons pe_int pa_nil)) (blkOk_by (N := nLaw) (sc := defScope sLaw) (by decide +kernel)) (fun _ _ _ _ _ => pg_name (i := 11) nd rfl (.inl rfl)) (fun _ _ _ _ _ => pts_nil) (fun _ _ _ _ _ => pv 11))
        (pe_lc (own := [("k", 11)]) (g := gName 11) (tt := tYes) (te := tCall spFar [] E0 (tCons (tVar 1) tNil)) rfl nd (pi_range1 rfl mr (pa_cons pe_int pa_nil)) (blkOk_by (N := nLaw) (sc := defScope sLaw) (by decide +kernel)) (fun _ _ _ _ _ => pg_name (i := 11) nd rfl (.inl rfl)) (fun _ _ _ _ _ => pts_nil) (fun _ _ _ _ _ => pe_call gA (hr.mono (by decide)) rfl mA kA bA .nil pass0 (pa_cons (pv 1) pa_nil))))) (pg_name (i := 7) nd rfl (.inl rfl))
      (pss_cons (ps_set (i := 8) nd rfl (.inl rfl) (pe_call gL (hr.mono (by decide)) rfl mL kL bL .nil pass0 (pa_cons (pv 2) (pa_cons (pv 7) pa_nil))))
      (pss_cons (ps_lock (ps_for PassesOwn.never rfl (pi_keys (pv 3)) (pg_name (i := 9) nd rfl (.inl rfl))
        (pss_one (ps_if (pt_cmpR op_ne (pe_call gC (hr.mono (by decide)) rfl mCn kC bC .nil pass0 (pa_cons (pe_dget hu (pv 3) (pv 9) (fun _ _ => rfl)) (pa_cons (pv 7) pa_nil))) (pe_cmpR op_eq (pv 9) (pv 8) (nomark _)) (nomark _)) (pss_one (ps_ret pe_bl)) pss_nil))))
      (pss_one (ps_if (PW.pt (pw_or (pt_cmpR op_ne (pe_call gC (hr.mono (by decide)) rfl mCn kC bC .nil pass0 (pa_cons (pv 5) (pa_cons (pv 7) pa_nil))) (pe_call gH (hr.mono (by decide)) rfl mH kH bH .nil pass0 (pa_cons (pv 4) (pa_cons (pv 7) pa_nil))) (nomark _))
          (pw_or1 (pt_cmpR op_ne (pe_call gC (hr.mono (by decide)) rfl mCn kC bC .nil pass0 (pa_cons (pv 6) (pa_cons (pv 7) pa_nil)))
            (pe_call gH (hr.mono (by decide)) rfl mH kH bH .nil pass0 (pa_cons (pe_lst (pa_cons (pe_lst (pa_cons (pe_ix ix_list (pe_ix ix_list (pv 4) pe_int (fun _ _ => rfl)) pe_int (fun _ _ => rfl)) pa_nil)) pa_nil)) (pa_cons (pv 7) pa_nil))) (nomark _))))) (pss_one (ps_ret pe_bl)) pss_nil)))))
    (pss_one (ps_ret pe_bl))))))))), ?_⟩
  refine ⟨_, rfl, a, ns, rfl, hS, fun d H1 ds hd0 s1 hd => ⟨by show 2 ≤ sizeLine; decide, fun B hB => ?_⟩⟩
  have ndB : d ≠ B := ne_of_none hd hB
  have s01 : Same H (upd H1 B (.lst [.ref d, .int 0])) := s1.trans (same_new hB _)
  generalize hH0 : upd H1 B (.lst [.ref d, .int 0]) = H0 at s01
  have hB0 : H0 B = some (.lst [.ref d, .int 0]) := by rw [← hH0]; exact upd_same
  have hbox : Box H0 B d := ⟨ds, 0, hB0, by rw [← hH0, upd_ne ndB]; exact hd, Int.le_refl 0⟩
  have T0 : Tabs (tbs tp) H0 := fun p hp => by
    rw [List.mem_singleton.mp hp]
    exact LamX.TabS.nil (s01 _ _ hTb)
  refine ⟨_, rfl, B, d, rfl, hbox, fun vr rs H2 g2 b2 hrs hlan => ?_⟩
  have T2 := Tabs.go T0 hbox g2
  have hrs2 : RusAt (hids [B] H2) rs vr := hrs.same (fr_hids hB0)
  refine ⟨_, rfl, fun o dx ho hdx ne => ?_⟩
  have S2 : Same H2 (upd (upd H2 dx (.own o)) o (.ins C dx [])) := same_mut (same_new hdx _) ho _
  have i2 : In [B] (upd (upd H2 dx (.own o)) o (.ins C dx [])) := fun b hb => by
    rw [List.mem_singleton] at hb
    subst hb
    exact (b2.same S2).isB
  refine ⟨o, dx, vr, rs, [B], rfl, upd_same, i2, hrs2.same (hids_add ho S2), fun q3 H3 k3 ho3 hq3 => ?_⟩
  have S3 : Same H2 H3 := fun b u h => k3 b u (S2 b u h) (by rintro rfl; rw [ho] at h; cases h)
  refine ⟨rfl, .ref o, rs, rfl, ⟨o, dx, q3, rfl, ho3, hq3.same hids_out⟩, hlan, Tabs.same T2 S3, fun td H4 htd e4 T4 told => ?_⟩
  have b4 : Box H4 B d := (b2.same S3).ext e4
  have r4 : RusAt (hids [B] H4) rs vr := RusAt.ext (hids_ext e4) _ _ (hrs2.same (hids_same S3))
  have tdB : td ≠ B := (b2.same S3).neB htd
  obtain ⟨kvs, hkvs, hE⟩ := told
  have hks := hE.keys
  rw [allE_keys] at hks
  have hkv := keys_strs hks
  refine ⟨_, rfl, td, kvs, rfl, hkvs, fun l1 hl1 => ?_⟩
  rw [hkv]
  have s5 : Same H4 (upd H4 l1 (.lst ((rs.map (·.1) ++ [("other" : Str)]).map V.str))) := same_new hl1 _
  have hl1' : upd H4 l1 (.lst ((rs.map (·.1) ++ [("other" : Str)]).map V.str)) l1 = some (.lst ((rs.map (·.1) ++ [("other" : Str)]).map V.str)) := upd_same
  generalize upd H4 l1 (.lst ((rs.map (·.1) ++ [("other" : Str)]).map V.str)) = H5 at s5 hl1'
  obtain ⟨rr0, rvs0, ervs, hrr0, har0, hlr0⟩ := RusAt.same (s5) _ _ (r4.same hids_out)
  subst ervs
  have hrl : rvs0.length = rs.length := har0.length
  refine ⟨_, rfl, rr0, rfl, ⟨_, SqL.of hrr0⟩, fun D hD => ?_⟩
  refine lc_list (xs := rvs0) (fun i H' => Same H5 H' ∧ H' D = some (.lst (((rs.take i).map (·.1)).map V.str))) ⟨same_new hD _, upd_same⟩ (fun i H' _ ⟨s', _⟩ => SqL.of (s' _ _ hrr0)) ?_ ?_
  · rintro i y H' hy ⟨s', hD'⟩
    obtain ⟨⟨ct, con⟩, hz, p, cv, rfl, hp, _⟩ := A2.get har0 hy
    have hi := get_lt hz
    refine ⟨rfl, _, rfl, p, _, 0, .str ct, rfl, rfl, SqT.of (s' _ _ hp), atI_nat (j := 0) rfl, ?_⟩
    refine ⟨_, hD', sz_line (by rw [List.length_map, List.length_map, List.length_take]; omega), same_mut s' hD _, ?_⟩
    rw [upd_same, take_map (fun r : Rule => r.1) hz, List.map_append]
    rfl
  rintro H6 ⟨s6, hD6⟩
  rw [hrl, List.take_length] at hD6
  refine ⟨by show 1 ≤ sizeLine; decide, fun l2 hl2 => ?_⟩
  have s7 : Same H6 (upd H6 l2 (.lst [.str "other"])) := same_new hl2 _
  refine ⟨D, l2, _, _, rfl, rfl, s7 _ _ hD6, upd_same, le_line ?_, fun l3 hl3 => ?_⟩
  · rw [List.length_map, List.length_map]
    show rs.length + 1 < 10000000
    omega
  have e3 : (rs.map (·.1)).map V.str ++ [V.str "other"] = (rs.map (·.1) ++ [("other" : Str)]).map V.str := by
    rw [List.map_append]
    rfl
  rw [e3]
  have s8 := same_new hl3 (.lst ((rs.map (·.1) ++ [("other" : Str)]).map V.str))
  have s58 := (s6.trans s7).trans s8
  have dl1 : Dp K (upd (upd H6 l2 (.lst [.str "other"])) l3 (.lst ((rs.map (·.1) ++ [("other" : Str)]).map V.str))) (.ref l1) (.list ((rs.map (·.1) ++ [("other" : Str)]).map .str)) := .lst (SqL.of (s58 _ _ hl1')) (dp_strs _)
  have dl3 : Dp K (upd (upd H6 l2 (.lst [.str "other"])) l3 (.lst ((rs.map (·.1) ++ [("other" : Str)]).map V.str))) (.ref l3) (.list ((rs.map (·.1) ++ [("other" : Str)]).map .str)) := .lst (SqL.of upd_same) (dp_strs _)
  have s48 := s5.trans s58
  generalize upd (upd H6 l2 (.lst [.str "other"])) l3 (.lst ((rs.map (·.1) ++ [("other" : Str)]).map V.str)) = H8 at dl1 dl3 s48
  refine ⟨_, _, dl1, dl3, shp_strs (names_lay hlan), shp_strs (names_lay hlan), _, rfl, ?_⟩
  rw [show PyData.eqv (.list ((rs.map (·.1) ++ [("other" : Str)]).map .str)) (.list ((rs.map (·.1) ++ [("other" : Str)]).map .str)) = true from eqv_strs _]
  have b8 := b4.same s48
  have r8 : RusAt (hids [B] H8) rs (.ref rr0) := r4.same (hids_same s48)
  have E8 : EntS K H8 (allE rs) kvs := hE.mono fun _ _ h => h.same s48
  have t8 := s48 _ _ hkvs
  have T8 := Tabs.same T4 s48
  clear dl1 dl3 s58 s8 s7 s6 s5 hD6 hrr0 har0 hD hl1' hl3 hl2 hl1
  -- the condition
  refine ⟨_, rfl, B, d, rfl, b8, fun cv x H9 g9 b9 hx full => ?_⟩
  obtain ⟨ob8, hB8⟩ := b8.isB
  have c9 : ConAt (hids [B] H9) x cv := hx.same (fr_hids hB8)
  have r9 := r8.same (hids_go g9)
  have k9 := TupK.go b8 g9
  have E9 : EntS K H9 (allE rs) kvs := E8.mono fun _ _ h => h.tk k9
  have t9 := g9.ext _ _ tdB t8
  have T9 := Tabs.go T8 b8 g9
  refine ⟨_, rfl, cv, x, rfl, c9.same hids_out, full, T9, fun vw HA eA TA' hw => ?_⟩
  have bA := b9.ext eA
  have cA : ConAt (hids [B] HA) x cv := ConAt.ext (hids_ext eA) _ _ c9
  have rA : RusAt (hids [B] HA) rs (.ref rr0) := RusAt.ext (hids_ext eA) _ _ r9
  have EA : EntS K HA (allE rs) kvs := E9.mono fun _ _ h => h.ext eA
  have tA := eA _ _ t9 fun ps z => by cases z
  cases x with
  | nil => exact absurd rfl full.1
  | cons row rest =>
  cases row with
  | nil => exact absurd rfl (full.2.2 [] List.mem_cons_self).1
  | cons rel more =>
  have hrel0 : RelOk rel := (full.2.2 _ List.mem_cons_self).2.2 rel List.mem_cons_self
  have first : ∀ {H' : Hp}, ConAt H' ((rel :: more) :: rest) cv → ∃ (r rr : Addr) (cvs rvs : List V) (u : V), cv = .ref r ∧ H' r = some (.lst (.ref rr :: cvs)) ∧ H' rr = some (.lst (u :: rvs)) ∧ RelAt H' rel u := fun {H'} hc => by
    obtain ⟨r, cvs, rfl, hr1, ⟨v0, ws, rfl, ⟨rr, rvs, rfl, hrr, ⟨u0, us, rfl, hrel, har⟩, hlr⟩, ha⟩, hl⟩ := hc
    exact ⟨r, rr, ws, us, u0, rfl, hr1, hrr, hrel⟩
  obtain ⟨r0, q0, cvs0, rvs0', u0, rfl, hr0, hq0, hu0⟩ := first (cA.same hids_out)
  refine ⟨_, rfl, r0, _, 0, .ref q0, rfl, rfl, SqL.of hr0, atI_nat (j := 0) rfl, q0, _, 0, u0, rfl, rfl, SqL.of hq0, atI_nat (j := 0) rfl, u0, rel, rfl, hu0, hrel0, fun vp HB sB hp => ?_⟩
  have bB := bA.same sB
  have cB := cA.same (hids_same sB)
  have rB := rA.same (hids_same sB)
  have EB : EntS K HB (allE rs) kvs := EA.mono fun _ _ h => h.same sB
  have tB := sB _ _ tA
  have wB := hw.same sB
  clear sB hu0 hq0 hr0 EA E9 E8 hE cA c9 rA r9 r8 r4 tA t9 t8 hkvs bA b8 b4 T9 T8 T4 T2 T0 hw
  -- the numbers
  refine ⟨130, rfl, by decide, by decide, fun D hD => lc_range (lo := 0) (n := 130) (fun j H' => Same HB H' ∧ H' D = some (.lst ((List.range j).map nV))) ⟨same_new hD _, upd_same⟩ ?_ ?_⟩
  · rintro j H' hj ⟨s', hD'⟩
    refine ⟨rfl, _, rfl, _, hD', sz_line (by rw [List.length_map, List.length_range]; omega), same_mut s' hD _, ?_⟩
    rw [upd_same, List.range_succ, List.map_append, Int.zero_add]
    rfl
  rintro HC ⟨sC, hDC⟩
  have bC' := bB.same sC
  have DB := bB.neB hD
  refine ⟨12, rfl, by decide, by decide, fun D2 hD2 => lc_range (lo := 0) (n := 12) (fun j H' => ∃ fs : List Nat, Go B HC H' ∧ Box H' B d ∧ H' D2 = some (.lst (fs.map nV)) ∧ fs.length = j) ⟨[], Go.new hD2 _, bC'.new hD2 _, upd_same, rfl⟩ ?_ ?_⟩
  · rintro j H' hj ⟨fs, g', b', hD', hl⟩
    refine ⟨rfl, _, rfl, B, d, rfl, b', fun z H'' g'' b'' => ?_⟩
    have D2B := bC'.neB hD2
    refine ⟨_, g''.ext _ _ D2B hD', sz_line (by rw [List.length_map]; omega), fs ++ [z], (g'.trans g'').mut hD2 _, b''.mut D2B (bC'.neD hD2) _, ?_, by rw [List.length_append, hl]; rfl⟩
    rw [upd_same, List.map_append]
    rfl
  rintro HD' ⟨fars, gD, bD', hDD, hfl⟩
  have hDC' := gD.ext _ _ DB hDC
  refine ⟨D, D2, _, _, rfl, rfl, hDC', hDD, le_line (by rw [List.length_map, List.length_map, List.length_range]; omega), fun nl hnl => ⟨nl, rfl, ⟨_, SqL.of upd_same⟩, ?_⟩⟩
  rw [← List.map_append]
  generalize List.range 130 ++ fars = nums
  have sE := same_new hnl (.lst (nums.map nV))
  have kE : TupK HB (upd HD' nl (.lst (nums.map nV))) := ((TupK.same sC).trans (TupK.go bC' gD)).trans (TupK.same sE)
  have al : Al K td nl kvs rs ((rel :: more) :: rest) rel (.ref rr0) (.ref r0) vw vp nums (upd HD' nl (.lst (nums.map nV))) :=
    ⟨RusAt.same sE _ _ ((rB.same (hids_same sC)).same (hids_go gD) |>.same hids_out), ConAt.same sE _ _ ((cB.same (hids_same sC)).same (hids_go gD) |>.same hids_out), wB.tk kE, hp.tk kE, sE _ _ (gD.ext _ _ tdB (sC _ _ tB)), EB.mono fun _ _ h => h.tk kE, upd_same⟩
  generalize upd HD' nl (.lst (nums.map nV)) = HE at al
  clear kE sE
  refine for_list (xs := nums.map nV) (fun i σ H' => (∃ o7 o8 o9, σ = [some (.ref a), some (.ref B), some (.ref rr0), some (.ref td), some (.ref r0), some vw, some vp, o7, o8, o9, none, none]) ∧ Al K td nl kvs rs ((rel :: more) :: rest) rel (.ref rr0) (.ref r0) vw vp nums H')
    ⟨⟨_, _, _, rfl⟩, al⟩ (fun i σ H' _ ⟨_, z⟩ => SqL.of z.n) ?_ (fun σ H' _ => q H')
  rintro i y σ H' hy ⟨⟨o7, o8, o9, rfl⟩, al'⟩
  rw [List.getElem?_map] at hy
  obtain ⟨n, hn, rfl⟩ := Option.map_eq_some_iff.mp hy
  refine ⟨_, rfl, _, rfl, .ref rr0, rs, (n : Int), rfl, al'.r, fun H2 s2 => ?_⟩
  have a2 := al'.same s2
  refine ⟨td, .dK kvs, a2.t, trivial, fun od => ⟨_, rfl, td, od, rfl, .inl ⟨kvs, upd_same, for_it walk_keys (fun j σ H3 => (∃ o9', σ = [some (.ref a), some (.ref B), some (.ref rr0), some (.ref td), some (.ref r0), some vw, some vp, some (nV n), some (.str (catN rs (n : Int))), o9', none, none]) ∧ H3 = upd H2 td (.frz od (.dK kvs)))
    ⟨⟨_, rfl⟩, rfl⟩ ?_ ?_ ?_⟩⟩⟩
  · rintro j σ H3 _ ⟨_, rfl⟩
    exact upd_same
  · rintro j y σ H3 H4 hj ⟨⟨o9', rfl⟩, rfl⟩ ⟨rfl, k, u, hk, rfl⟩
    obtain ⟨ky, hky, rfl⟩ : ∃ ky, ky ∈ (allE rs).map (·.1) ∧ k = Sum.inr ky := by
      have hm : k ∈ kvs.map (·.1) := List.mem_map.mpr ⟨(k, u), List.mem_of_getElem? hk, rfl⟩
      rw [a2.e.keys] at hm
      obtain ⟨ky, h1, h2⟩ := List.mem_map.mp hm
      exact ⟨ky, h1, h2.symm⟩
    obtain ⟨v, g, hv, hsv, hg⟩ := a2.e.get hky
    have hgn := allE_ok hlan n _ hg
    have hgn : g n = decide (catN rs (n : Int) = ky) := hgn
    refine ⟨_, rfl, _, rfl, td, v, rfl, .inl ⟨kvs, .inr ky, .inr ⟨od, upd_same⟩, rfl, hv.symm⟩, _, rfl, ?_⟩
    obtain ⟨ha1, ca1, p1, p2, p3, p4, p5⟩ := cn_get (hsv.tk (TupK.put a2.t (.frz od (.dK kvs))))
    refine ⟨v, ha1, ca1, n, rfl, p1, p2, p3, p4, ?_⟩
    rw [p5 n]
    refine ⟨_, rfl, _, rfl, rfl, rfl, _, rfl, ?_⟩
    have e : decide (V.str ky = V.str (catN rs (n : Int))) = g n := by
      rw [hgn]
      simp [eq_comm]
    rw [show (kV (Sum.inr ky : L2.Key)) = V.str ky from rfl, e, show (!decide (V.bl (g n) = V.bl (g n))) = false by simp]
    exact ⟨⟨_, rfl⟩, rfl⟩
  · rintro σ H3 ⟨⟨o9', rfl⟩, rfl⟩
    refine ⟨upd_same, ?_⟩
    rw [upd_two, upd_id a2.t]
    refine ⟨_, rfl, _, rfl, ?_⟩
    obtain ⟨ha1, ca1, p1, p2, p3, p4, p5⟩ := cn_get a2.w
    refine ⟨vw, ha1, ca1, n, rfl, p1, p2, p3, p4, ?_⟩
    rw [p5 n]
    refine ⟨_, rfl, _, rfl, .ref r0, _, (n : Int), rfl, a2.c, fun H3 s3 => ⟨rfl, _, rfl, ?_⟩⟩
    rw [show (!decide (V.bl (conB (n : Int) ((rel :: more) :: rest)) = V.bl (conB (n : Int) ((rel :: more) :: rest)))) = false by simp]
    have a3 := a2.same s3
    refine ⟨_, rfl, _, rfl, ?_⟩
    obtain ⟨ha2, ca2, w1, w2, w3, w4, w5⟩ := cn_get a3.p
    refine ⟨vp, ha2, ca2, n, rfl, w1, w2, w3, w4, ?_⟩
    rw [w5 n]
    obtain ⟨r1, q1, cvs1, rvs1, u1, e1, hr1, hq1, hu1⟩ := first a3.c
    cases e1
    refine ⟨_, rfl, r0, _, 0, .ref q1, rfl, rfl, SqL.of hr1, atI_nat (j := 0) rfl, q1, _, 0, u1, rfl, rfl, SqL.of hq1, atI_nat (j := 0) rfl, by show 1 ≤ sizeLine; decide, fun m1 hm1 => ⟨by show 1 ≤ sizeLine; decide, fun m2 hm2 => ?_⟩⟩
    have t1 : Same H3 (upd H3 m1 (.lst [u1])) := same_new hm1 _
    have t2 : Same (upd H3 m1 (.lst [u1])) (upd (upd H3 m1 (.lst [u1])) m2 (.lst [.ref m1])) := same_new hm2 _
    have a4 := a3.same (t1.trans t2)
    have hu4 := RelAt.same (t1.trans t2) _ _ hu1
    refine ⟨_, rfl, .ref m2, [[rel]], (n : Int), rfl, ⟨m2, _, rfl, upd_same, ⟨_, [], rfl, ⟨m1, _, rfl, t2 _ _ upd_same, ⟨u1, [], rfl, hu4, rfl⟩, by show 1 < 100000; decide⟩, rfl⟩, by show 1 < 100000; decide⟩, fun H5 s5 => ⟨rfl, _, rfl, ?_⟩⟩
    have e : conB (n : Int) [[rel]] = relB (n : Int) rel := by
      show ((relB (n : Int) rel && true) || false) = relB (n : Int) rel
      simp
    rw [e, show (!decide (V.bl (relB (n : Int) rel) = V.bl (relB (n : Int) rel))) = false by simp]
    exact ⟨⟨_, _, _, rfl⟩, a4.same s5⟩
end
end Mw

namespace Mw
open PySem L2
theorem all_mk {l : PySem.W.OpenLaw} {w : World} {K : PySem.W.Frag} {h : Heap} {mg : Str → Option Value} {fa f1 f2 f3 f4 f5 f6 f7 f8 f9 f10 f11 f12 f13 f14 f15 f16 f17 f18 f19 f20 f21 f22 f23 f24 f25 C fI nN hN cN nA hA cA cR tp : Addr} (X : K.In h) (G : h.Ns mainGlobals mg) (hfa : mg "law" = some (.ref fa))
    {kN khN kcN kA khA kcA : Nat} {dN dA : Option Addr} {sN shN scN sA shA scA : Array (Option Value)}
    {od1 an1 od2 an2 od3 an3 od4 an4 od5 an5 od6 an6 od7 an7 od8 an8 od9 an9 od10 an10 od11 an11 od12 an12 od13 an13 od14 an14 od15 an15 od16 an16 od17 an17 od18 an18 od19 an19 od20 an20 od21 an21 od22 an22 od23 an23 od24 an24 od25 an25 odI anI : Option Addr} {sl1 sl2 sl3 sl4 sl5 sl6 sl7 sl8 sl9 sl10 sl11 sl12 sl13 sl14 sl15 sl16 sl17 sl18 sl19 sl20 sl21 sl22 sl23 sl24 sl25 slI : Array (Option Value)} {oc1 kV1 dc1 pm1 ct1 cd1 oc2 kV2 dc2 pm2 ct2 cd2 oc3 kV3 dc3 pm3 ct3 cd3 oc4 kV4 dc4 pm4 ct4 cd4 oc5 kV5 dc5 pm5 ct5 cd5 oc6 kV6 dc6 pm6 ct6 cd6 oc7 kV7 dc7 pm7 ct7 cd7 oc8 kV8 dc8 pm8 ct8 cd8 oc9 kV9 dc9 pm9 ct9 cd9 oc10 kV10 dc10 pm10 ct10 cd10 oc11 kV11 dc11 pm11 ct11 cd11 oc12 kV12 dc12 pm12 ct12 oc13 kV13 dc13 pm13 ct13 cd13 oc14 kV14 dc14 pm14 ct14 cd14 oc15 kV15 dc15 pm15 ct15 cd15 oc16 kV16 dc16 pm16 ct16 cd16 oc17 kV17 dc17 pm17 ct17 cd17 oc18 kV18 dc18 pm18 ct18 cd18 oc19 kV19 dc19 pm19 ct19 cd19 oc20 kV20 dc20 pm20 ct20 cd20 oc21 kV21 dc21 pm21 ct21 cd21 oc22 kV22 dc22 pm22 ct22 cd22 oc23 kV23 dc23 pm23 ct23 cd23 oc24 kV24 dc24 pm24 ct24 cd24 oc25 kV25 dc25 pm25 ct25 cd25 ocI kVI dcI pmI cdI ctI : Value}
    (a1 : PySem.W.nsIn K mainGlobals "prime_factors" = some (some (.ref f1))) (l1 : K.lookup f1 = some ⟨oc1, od1, .func (PySem.W.fnOf "prime_factors" "prime_factors" (defArgs sPf) (defBody sPf) (defScope sPf) .none kV1 dc1 pm1 an1 cd1 ct1), sl1⟩) (c1 : PySem.W.codeIn K cd1 "prime_factors" = true) (k1 : PySem.W.keepIn K (.ref f1) = true)
    (a2 : PySem.W.nsIn K mainGlobals "shortest_cycle" = some (some (.ref f2))) (l2 : K.lookup f2 = some ⟨oc2, od2, .func (PySem.W.fnOf "shortest_cycle" "shortest_cycle" (defArgs sSc) (defBody sSc) (defScope sSc) .none kV2 dc2 pm2 an2 cd2 ct2), sl2⟩) (c2 : PySem.W.codeIn K cd2 "shortest_cycle" = true) (k2 : PySem.W.keepIn K (.ref f2) = true)
    (a3 : PySem.W.nsIn K mainGlobals "turned_back" = some (some (.ref f3))) (l3 : K.lookup f3 = some ⟨oc3, od3, .func (PySem.W.fnOf "turned_back" "turned_back" (defArgs sTb) (defBody sTb) (defScope sTb) .none kV3 dc3 pm3 an3 cd3 ct3), sl3⟩) (c3 : PySem.W.codeIn K cd3 "turned_back" = true) (k3 : PySem.W.keepIn K (.ref f3) = true)
    (a4 : PySem.W.nsIn K mainGlobals "settled" = some (some (.ref f4))) (l4 : K.lookup f4 = some ⟨oc4, od4, .func (PySem.W.fnOf "settled" "settled" (defArgs sSe) (defBody sSe) (defScope sSe) .none kV4 dc4 pm4 an4 cd4 ct4), sl4⟩) (c4 : PySem.W.codeIn K cd4 "settled" = true) (k4 : PySem.W.keepIn K (.ref f4) = true)
    (a5 : PySem.W.nsIn K mainGlobals "stretched" = some (some (.ref f5))) (l5 : K.lookup f5 = some ⟨oc5, od5, .func (PySem.W.fnOf "stretched" "stretched" (defArgs sSt) (defBody sSt) (defScope sSt) .none kV5 dc5 pm5 an5 cd5 ct5), sl5⟩) (c5 : PySem.W.codeIn K cd5 "stretched" = true) (k5 : PySem.W.keepIn K (.ref f5) = true)
    (a6 : PySem.W.nsIn K mainGlobals "contains" = some (some (.ref f6))) (l6 : K.lookup f6 = some ⟨oc6, od6, .func (PySem.W.fnOf "contains" "contains" (defArgs sCn) (defBody sCn) (defScope sCn) .none kV6 dc6 pm6 an6 cd6 ct6), sl6⟩) (c6 : PySem.W.codeIn K cd6 "contains" = true) (k6 : PySem.W.keepIn K (.ref f6) = true)
    (a7 : PySem.W.nsIn K mainGlobals "complement" = some (some (.ref f7))) (l7 : K.lookup f7 = some ⟨oc7, od7, .func (PySem.W.fnOf "complement" "complement" (defArgs sCp) (defBody sCp) (defScope sCp) .none kV7 dc7 pm7 an7 cd7 ct7), sl7⟩) (c7 : PySem.W.codeIn K cd7 "complement" = true) (k7 : PySem.W.keepIn K (.ref f7) = true)
    (a8 : PySem.W.nsIn K mainGlobals "common" = some (some (.ref f8))) (l8 : K.lookup f8 = some ⟨oc8, od8, .func (PySem.W.fnOf "common" "common" (defArgs sCm) (defBody sCm) (defScope sCm) .none kV8 dc8 pm8 an8 cd8 ct8), sl8⟩) (c8 : PySem.W.codeIn K cd8 "common" = true) (k8 : PySem.W.keepIn K (.ref f8) = true)
    (a9 : PySem.W.nsIn K mainGlobals "union" = some (some (.ref f9))) (l9 : K.lookup f9 = some ⟨oc9, od9, .func (PySem.W.fnOf "union" "union" (defArgs sUn) (defBody sUn) (defScope sUn) .none kV9 dc9 pm9 an9 cd9 ct9), sl9⟩) (c9 : PySem.W.codeIn K cd9 "union" = true) (k9 : PySem.W.keepIn K (.ref f9) = true)
    (a10 : PySem.W.nsIn K mainGlobals "difference" = some (some (.ref f10))) (l10 : K.lookup f10 = some ⟨oc10, od10, .func (PySem.W.fnOf "difference" "difference" (defArgs sDf) (defBody sDf) (defScope sDf) .none kV10 dc10 pm10 an10 cd10 ct10), sl10⟩) (c10 : PySem.W.codeIn K cd10 "difference" = true) (k10 : PySem.W.keepIn K (.ref f10) = true)
    (a11 : PySem.W.nsIn K mainGlobals "relation_set" = some (some (.ref f11))) (l11 : K.lookup f11 = some ⟨oc11, od11, .func (PySem.W.fnOf "relation_set" "relation_set" (defArgs sRe) (defBody sRe) (defScope sRe) .none kV11 dc11 pm11 an11 cd11 ct11), sl11⟩) (c11 : PySem.W.codeIn K cd11 "relation_set" = true) (k11 : PySem.W.keepIn K (.ref f11) = true)
    (a12 : PySem.W.nsIn K mainGlobals "row_set" = some (some (.ref f12))) (l12 : K.lookup f12 = some ⟨oc12, od12, .func (PySem.W.fnOf "row_set" "row_set" (defArgs sRw) (defBody sRw) (defScope sRw) .none kV12 dc12 pm12 an12 (.ref cR) ct12), sl12⟩) (c12 : PySem.W.codeIn K (.ref cR) "row_set" = true) (k12 : PySem.W.keepIn K (.ref f12) = true)
    (a13 : PySem.W.nsIn K mainGlobals "condition_set" = some (some (.ref f13))) (l13 : K.lookup f13 = some ⟨oc13, od13, .func (PySem.W.fnOf "condition_set" "condition_set" (defArgs sCo) (defBody sCo) (defScope sCo) .none kV13 dc13 pm13 an13 cd13 ct13), sl13⟩) (c13 : PySem.W.codeIn K cd13 "condition_set" = true) (k13 : PySem.W.keepIn K (.ref f13) = true)
    (a14 : PySem.W.nsIn K mainGlobals "category_sets" = some (some (.ref f14))) (l14 : K.lookup f14 = some ⟨oc14, od14, .func (PySem.W.fnOf "category_sets" "category_sets" (defArgs sCs) (defBody sCs) (defScope sCs) .none kV14 dc14 pm14 an14 cd14 ct14), sl14⟩) (c14 : PySem.W.codeIn K cd14 "category_sets" = true) (k14 : PySem.W.keepIn K (.ref f14) = true)
    (a15 : PySem.W.nsIn K mainGlobals "copied" = some (some (.ref f15))) (l15 : K.lookup f15 = some ⟨oc15, od15, .func (PySem.W.fnOf "copied" "copied" (defArgs sCd) (defBody sCd) (defScope sCd) .none kV15 dc15 pm15 an15 cd15 ct15), sl15⟩) (c15 : PySem.W.codeIn K cd15 "copied" = true) (k15 : PySem.W.keepIn K (.ref f15) = true)
    (a16 : PySem.W.nsIn K mainGlobals "_law_cell" = some (some (.ref f16))) (l16 : K.lookup f16 = some ⟨oc16, od16, .func (PySem.W.fnOf "_law_cell" "_law_cell" (defArgs sCell) (defBody sCell) (defScope sCell) .none kV16 dc16 pm16 an16 cd16 ct16), sl16⟩) (c16 : PySem.W.codeIn K cd16 "_law_cell" = true) (k16 : PySem.W.keepIn K (.ref f16) = true)
    (a17 : PySem.W.nsIn K mainGlobals "_law_digits" = some (some (.ref f17))) (l17 : K.lookup f17 = some ⟨oc17, od17, .func (PySem.W.fnOf "_law_digits" "_law_digits" (defArgs sDigits) (defBody sDigits) (defScope sDigits) .none kV17 dc17 pm17 an17 cd17 ct17), sl17⟩) (c17 : PySem.W.codeIn K cd17 "_law_digits" = true) (k17 : PySem.W.keepIn K (.ref f17) = true)
    (a18 : PySem.W.nsIn K mainGlobals "_law_draw" = some (some (.ref f18))) (l18 : K.lookup f18 = some ⟨oc18, od18, .func (PySem.W.fnOf "_law_draw" "_law_draw" (defArgs sDraw) (defBody sDraw) (defScope sDraw) .none kV18 dc18 pm18 an18 cd18 ct18), sl18⟩) (c18 : PySem.W.codeIn K cd18 "_law_draw" = true) (k18 : PySem.W.keepIn K (.ref f18) = true)
    (a19 : PySem.W.nsIn K mainGlobals "_law_relation" = some (some (.ref f19))) (l19 : K.lookup f19 = some ⟨oc19, od19, .func (PySem.W.fnOf "_law_relation" "_law_relation" (defArgs sLr) (defBody sLr) (defScope sLr) .none kV19 dc19 pm19 an19 cd19 ct19), sl19⟩) (c19 : PySem.W.codeIn K cd19 "_law_relation" = true) (k19 : PySem.W.keepIn K (.ref f19) = true)
    (a20 : PySem.W.nsIn K mainGlobals "_law_condition" = some (some (.ref f20))) (l20 : K.lookup f20 = some ⟨oc20, od20, .func (PySem.W.fnOf "_law_condition" "_law_condition" (defArgs sLn) (defBody sLn) (defScope sLn) .none kV20 dc20 pm20 an20 cd20 ct20), sl20⟩) (c20 : PySem.W.codeIn K cd20 "_law_condition" = true) (k20 : PySem.W.keepIn K (.ref f20) = true)
    (a21 : PySem.W.nsIn K mainGlobals "_law_rules" = some (some (.ref f21))) (l21 : K.lookup f21 = some ⟨oc21, od21, .func (PySem.W.fnOf "_law_rules" "_law_rules" (defArgs sLu) (defBody sLu) (defScope sLu) .none kV21 dc21 pm21 an21 cd21 ct21), sl21⟩) (c21 : PySem.W.codeIn K cd21 "_law_rules" = true) (k21 : PySem.W.keepIn K (.ref f21) = true)
    (a22 : PySem.W.nsIn K mainGlobals "_law_holds" = some (some (.ref f22))) (l22 : K.lookup f22 = some ⟨oc22, od22, .func (PySem.W.fnOf "_law_holds" "_law_holds" (defArgs sLh) (defBody sLh) (defScope sLh) .none kV22 dc22 pm22 an22 cd22 ct22), sl22⟩) (c22 : PySem.W.codeIn K cd22 "_law_holds" = true) (k22 : PySem.W.keepIn K (.ref f22) = true)
    (a23 : PySem.W.nsIn K mainGlobals "_law_category" = some (some (.ref f23))) (l23 : K.lookup f23 = some ⟨oc23, od23, .func (PySem.W.fnOf "_law_category" "_law_category" (defArgs sLc) (defBody sLc) (defScope sLc) .none kV23 dc23 pm23 an23 cd23 ct23), sl23⟩) (c23 : PySem.W.codeIn K cd23 "_law_category" = true) (k23 : PySem.W.keepIn K (.ref f23) = true)
    (a24 : PySem.W.nsIn K mainGlobals "_law_far" = some (some (.ref f24))) (l24 : K.lookup f24 = some ⟨oc24, od24, .func (PySem.W.fnOf "_law_far" "_law_far" (defArgs sFar) (defBody sFar) (defScope sFar) .none kV24 dc24 pm24 an24 cd24 ct24), sl24⟩) (c24 : PySem.W.codeIn K cd24 "_law_far" = true) (k24 : PySem.W.keepIn K (.ref f24) = true)
    (a25 : PySem.W.nsIn K mainGlobals "law" = some (some (.ref f25))) (l25 : K.lookup f25 = some ⟨oc25, od25, .func (PySem.W.fnOf "law" "law" (defArgs sLaw) (defBody sLaw) (defScope sLaw) .none kV25 dc25 pm25 an25 cd25 ct25), sl25⟩) (c25 : PySem.W.codeIn K cd25 "law" = true) (k25 : PySem.W.keepIn K (.ref f25) = true)
    (aC : PySem.W.nsIn K mainGlobals "Language" = some (some (.ref C)))
    (mk1 : PySem.W.makesIn K C = true)
    (mk2 : PySem.W.findIn K (.ref C) "__init__" = some (some (.ref fI)))
    (mk3 : PySem.W.isFn K (.ref fI) = true)
    (mk4 : PySem.W.keepIn K (.ref C) = true)
    (lI : K.lookup fI = some ⟨ocI, odI, .func (PySem.W.fnOf "__init__" "Language.__init__" (defArgs sLi) (defBody sLi) (defScope sLi) .none kVI dcI pmI anI cdI ctI), slI⟩)
    (cI : PySem.W.codeIn K cdI "Language.__init__" = true)
    (kI : PySem.W.keepIn K (.ref fI) = true)
    (pg : PySem.W.plainGet K C Str.empty = true)
    (hd : PySem.W.hasDictIn K C = true)
    (po : PySem.W.plainOver K C = true)
    (sa : PySem.W.findIn K (.ref C) "__setattr__" = some (some (.builtin "object.__setattr__")))
    (nr : PySem.W.findIn K (.ref C) "rules" = some none)
    (aLc : PySem.W.nsIn K mainGlobals "lcm" = some (some (.builtin "math.lcm")))
    (aN : PySem.W.nsIn K mainGlobals "NONE" = some (some (.ref nN)))
    (xN : K.lookup nN = some ⟨.type "tuple", dN, .seq #[.ref hN, .ref cN] kN, sN⟩)
    (yNh : K.lookup hN = some ⟨.type "tuple", none, .seq #[] khN, shN⟩)
    (yNc : K.lookup cN = some ⟨.type "tuple", none, .seq #[.bool false] kcN, scN⟩)
    (aA : PySem.W.nsIn K mainGlobals "ALL" = some (some (.ref nA)))
    (xA : K.lookup nA = some ⟨.type "tuple", dA, .seq #[.ref hA, .ref cA] kA, sA⟩)
    (yAh : K.lookup hA = some ⟨.type "tuple", none, .seq #[] khA, shA⟩)
    (yAc : K.lookup cA = some ⟨.type "tuple", none, .seq #[.bool true] kcA, scA⟩)
    (cc : PySem.W.codeHdIn K cR tp = true)
    (nl : K.lookup tp = none)
    (hP : h.get? tp = some { cls := .none, data := .fields #[] })
    (z1 : PySem.W.nsIn K mainGlobals "len" = some none) (z2 : PySem.W.nsIn K mainGlobals "list" = some none) (z3 : PySem.W.nsIn K mainGlobals "range" = some none) (z4 : PySem.W.nsIn K mainGlobals "int" = some none) (z5 : PySem.W.nsIn K mainGlobals "tuple" = some none) (z6 : PySem.W.nsIn K mainGlobals "max" = some none) (z7 : PySem.W.nsIn K mainGlobals "min" = some none) (z8 : PySem.W.nsIn K mainGlobals "zip" = some none) (z9 : PySem.W.nsIn K mainGlobals "sorted" = some none) :
    LamX.LawAtS l w K CX0 8 63 "script" mg fa h := by
  have e := hfa.symm.trans (PySem.W.mg_of X G a25)
  cases e
  have F1 := fun_mk (st := sPf) l1 c1 k1
  have F2 := fun_mk (st := sSc) l2 c2 k2
  have F3 := fun_mk (st := sTb) l3 c3 k3
  have F4 := fun_mk (st := sSe) l4 c4 k4
  have F5 := fun_mk (st := sSt) l5 c5 k5
  have F6 := fun_mk (st := sCn) l6 c6 k6
  have F7 := fun_mk (st := sCp) l7 c7 k7
  have F8 := fun_mk (st := sCm) l8 c8 k8
  have F9 := fun_mk (st := sUn) l9 c9 k9
  have F10 := fun_mk (st := sDf) l10 c10 k10
  have F11 := fun_mk (st := sRe) l11 c11 k11
  have F12 := fun_mk (st := sRw) l12 c12 k12
  have F13 := fun_mk (st := sCo) l13 c13 k13
  have F14 := fun_mk (st := sCs) l14 c14 k14
  have F15 := fun_mk (st := sCd) l15 c15 k15
  have F16 := fun_mk (st := sCell) l16 c16 k16
  have F17 := fun_mk (st := sDigits) l17 c17 k17
  have F18 := fun_mk (st := sDraw) l18 c18 k18
  have F19 := fun_mk (st := sLr) l19 c19 k19
  have F20 := fun_mk (st := sLn) l20 c20 k20
  have F21 := fun_mk (st := sLu) l21 c21 k21
  have F22 := fun_mk (st := sLh) l22 c22 k22
  have F23 := fun_mk (st := sLc) l23 c23 k23
  have F24 := fun_mk (st := sFar) l24 c24 k24
  have F25 := fun_mk (st := sLaw) l25 c25 k25
  have FR : FunC K "row_set" "row_set" sRw f12 _ cR := ⟨⟨_, _, _, _, _, _, _, _, rfl, l12, c12⟩, k12⟩
  have FI := fun_mk (st := sLi) lI cI kI
  have b1 := F1.binds (ps := ["number"]) fun _ _ _ _ _ _ us hl => match us, hl with | [_], _ => rfl
  have b2 := F2.binds (ps := ["cycle"]) fun _ _ _ _ _ _ us hl => match us, hl with | [_], _ => rfl
  have b3 := F3.binds (ps := ["head", "cycle", "many"]) fun _ _ _ _ _ _ us hl => match us, hl with | [_, _, _], _ => rfl
  have b4 := F4.binds (ps := ["head", "cycle"]) fun _ _ _ _ _ _ us hl => match us, hl with | [_, _], _ => rfl
  have b5 := F5.binds (ps := ["one", "head_size", "cycle_size"]) fun _ _ _ _ _ _ us hl => match us, hl with | [_, _, _], _ => rfl
  have b6 := F6.binds (ps := ["one", "number"]) fun _ _ _ _ _ _ us hl => match us, hl with | [_, _], _ => rfl
  have b7 := F7.binds (ps := ["one"]) fun _ _ _ _ _ _ us hl => match us, hl with | [_], _ => rfl
  have b8 := F8.binds (ps := ["one", "other"]) fun _ _ _ _ _ _ us hl => match us, hl with | [_, _], _ => rfl
  have b9 := F9.binds (ps := ["one", "other"]) fun _ _ _ _ _ _ us hl => match us, hl with | [_, _], _ => rfl
  have b10 := F10.binds (ps := ["one", "other"]) fun _ _ _ _ _ _ us hl => match us, hl with | [_, _], _ => rfl
  have b11 := F11.binds (ps := ["relation"]) fun _ _ _ _ _ _ us hl => match us, hl with | [_], _ => rfl
  have b12 := F12.binds (ps := ["row"]) fun _ _ _ _ _ _ us hl => match us, hl with | [_], _ => rfl
  have b13 := F13.binds (ps := ["condition"]) fun _ _ _ _ _ _ us hl => match us, hl with | [_], _ => rfl
  have b14 := F14.binds (ps := ["language"]) fun _ _ _ _ _ _ us hl => match us, hl with | [_], _ => rfl
  have b15 := F15.binds (ps := ["condition"]) fun _ _ _ _ _ _ us hl => match us, hl with | [_], _ => rfl
  have b16 := F16.binds (ps := ["script", "k"]) fun _ _ _ _ _ _ us hl => match us, hl with | [_, _], _ => rfl
  have b17 := F17.binds (ps := ["script", "first", "last"]) fun _ _ _ _ _ _ us hl => match us, hl with | [_, _, _], _ => rfl
  have b18 := F18.binds (ps := ["box", "many"]) fun _ _ _ _ _ _ us hl => match us, hl with | [_, _], _ => rfl
  have b19 := F19.binds (ps := ["box"]) fun _ _ _ _ _ _ us hl => match us, hl with | [_], _ => rfl
  have b20 := F20.binds (ps := ["box"]) fun _ _ _ _ _ _ us hl => match us, hl with | [_], _ => rfl
  have b21 := F21.binds (ps := ["box"]) fun _ _ _ _ _ _ us hl => match us, hl with | [_], _ => rfl
  have b22 := F22.binds (ps := ["condition", "number"]) fun _ _ _ _ _ _ us hl => match us, hl with | [_, _], _ => rfl
  have b23 := F23.binds (ps := ["rules", "number"]) fun _ _ _ _ _ _ us hl => match us, hl with | [_, _], _ => rfl
  have b24 := F24.binds (ps := ["box"]) fun _ _ _ _ _ _ us hl => match us, hl with | [_], _ => rfl
  have b25 := F25.binds (ps := ["script"]) fun _ _ _ _ _ _ us hl => match us, hl with | [_], _ => rfl
  have bI := FI.binds (ps := ["self", "rules"]) fun _ _ _ _ _ _ us hl => match us, hl with | [_, _], _ => rfl
  have g1 := PySem.W.mg_of X G a1
  have g2 := PySem.W.mg_of X G a2
  have g3 := PySem.W.mg_of X G a3
  have g4 := PySem.W.mg_of X G a4
  have g5 := PySem.W.mg_of X G a5
  have g6 := PySem.W.mg_of X G a6
  have g7 := PySem.W.mg_of X G a7
  have g8 := PySem.W.mg_of X G a8
  have g9 := PySem.W.mg_of X G a9
  have g10 := PySem.W.mg_of X G a10
  have g11 := PySem.W.mg_of X G a11
  have g12 := PySem.W.mg_of X G a12
  have g13 := PySem.W.mg_of X G a13
  have g14 := PySem.W.mg_of X G a14
  have g15 := PySem.W.mg_of X G a15
  have g16 := PySem.W.mg_of X G a16
  have g17 := PySem.W.mg_of X G a17
  have g18 := PySem.W.mg_of X G a18
  have g19 := PySem.W.mg_of X G a19
  have g20 := PySem.W.mg_of X G a20
  have g21 := PySem.W.mg_of X G a21
  have g22 := PySem.W.mg_of X G a22
  have g23 := PySem.W.mg_of X G a23
  have g24 := PySem.W.mg_of X G a24
  have g25 := PySem.W.mg_of X G a25
  have y1 := PySem.W.mg_none_of X G z1
  have y2 := PySem.W.mg_none_of X G z2
  have y3 := PySem.W.mg_none_of X G z3
  have y4 := PySem.W.mg_none_of X G z4
  have y5 := PySem.W.mg_none_of X G z5
  have y6 := PySem.W.mg_none_of X G z6
  have y7 := PySem.W.mg_none_of X G z7
  have y8 := PySem.W.mg_none_of X G z8
  have y9 := PySem.W.mg_none_of X G z9
  have gC := PySem.W.mg_of X G aC
  have Lc : LC K C := ⟨⟨pg, hd, po, sa⟩, nr⟩
  have MM : Mk K C fI := ⟨mk1, mk2, mk3, mk4⟩
  have gLm := PySem.W.mg_of X G aLc
  have NN := kp_of (PySem.W.mg_of X G aN) xN yNh yNc
  have NA := kp_of (PySem.W.mg_of X G aA) xA yAh yAc
  refine ⟨PySem.W.fnOf "law" "law" (defArgs sLaw) (defBody sLaw) (defScope sLaw) .none kV25 dc25 pm25 an25 cd25 ct25, [(cR, tp)], spLaw K tp, fun p hp => ?_, fun p hp => ?_, fun p hp => ?_, fun s v => .of_eq rfl, fun H a ns _ _ hH hS => ⟨a, ns, rfl, hS, hH (cR, tp) (List.mem_singleton.mpr rfl), fun _ => rfl⟩, fun base _ _ hTB => ?_⟩
  · rw [List.mem_singleton.mp hp]
    exact hP
  · rw [List.mem_singleton.mp hp]
    exact nl
  · rw [List.mem_singleton.mp hp]
    exact PySem.W.codeHd_of_K X cc
  have TB : LamX.TabB base mg cR tp := hTB (cR, tp) (List.mem_singleton.mpr rfl)
  have gPf := ok_pf (P := l.prog) (w := w) (mg := mg) (base := base) F1
  have gSc := ok_sc F2 gPf b1 k1 g1 y1
  have gTb := ok_tb (P := l.prog) (w := w) (mg := mg) (base := base) F3 y1
  have gSe := ok_se F4 gSc b2 k2 g2 gTb b3 k3 g3 y1 y5
  have gSt := ok_st (P := l.prog) (w := w) (mg := mg) (base := base) F5 y1
  have gCn := ok_cn (P := l.prog) (w := w) (mg := mg) (base := base) F6 y1
  have gCp := ok_cp (P := l.prog) (w := w) (mg := mg) (base := base) F7 y5
  have gCm := ok_cm F8 gSe b4 k4 g4 gSt b5 k5 g5 y1 y6 y8 gLm
  have gUn := ok_un F9 gCm b8 k8 g8 gCp b7 k7 g7
  have gDf := ok_df F10 gCm b8 k8 g8 gCp b7 k7 g7
  have gRe := ok_re F11 gSe b4 k4 g4 y6 y7
  have gRw := ok_rw FR TB gCm b8 k8 g8 gRe b11 k11 g11 NA y9
  have gCo := ok_co F13 gUn b9 k9 g9 gRw b12 k12 g12 NN
  have gCs := ok_cs F14 Lc gCm b8 k8 g8 gDf b10 k10 g10 gCo b13 k13 g13 NA
  have gCd := ok_cd (P := l.prog) (w := w) (mg := mg) (base := base) F15 y2
  have gLi := ok_li FI Lc gCd b15 k15 g15
  have gCe := ok_cell (P := l.prog) (w := w) (mg := mg) (base := base) F16 y1
  have gDg := ok_digits F17 gCe b16 k16 g16 y3 y4
  have gDr := ok_draw (P := l.prog) (w := w) (mg := mg) (base := base) F18 y1 y4
  have gLr := ok_lr F19 gDr b18 k18 g18 y3 y4
  have gLn := ok_ln F20 gDr b18 k18 g18 gLr b19 k19 g19 y3
  have gLu := ok_lu F21 gDr b18 k18 g18 gLn b20 k20 g20
  have gLh := ok_lh (P := l.prog) (w := w) (mg := mg) (base := base) F22 y4
  have gLc := ok_lcat F23 gLh b22 k22 g22
  have gFa := ok_far F24 gDr b18 k18 g18
  exact ok_law F25 gDg b17 k17 g17 gLu b21 k21 g21 MM gC gLi bI gCs b14 k14 g14 gLn b20 k20 g20 gCo b13 k13 g13 gRe b11 k11 g11 gFa b24 k24 g24 gLc b23 k23 g23 gLh b22 k22 g22 gCn b6 k6 g6 y3 y2
end Mw
open PySem PySem.W PyProof.Rows
set_option maxRecDepth 100000 in
set_option maxHeartbeats 0 in
theorem PySem.Challenge.cw_messageways_k10_sets_of_languages_holds : PySem.Challenge.rw_messageways_k10_sets_of_languages.Holds := by
  w_on; o_law; k_head; (case hw => w_witness2)
  k_fill
  refine LamX.walk_ofTs (l := PySem.Challenge.rw_messageways_k10_sets_of_languages) (n := 63) (k := 8) (x := "script") (CX := fun _ => L2.CX0) rfl (by decide) rfl ⟨rfl, by decide, by decide⟩ (fun w h Y => PySem.W.km_in_of Y) ?F (fun _ _ _ _ _ z => z)
  case F =>
    intro w mg fa h Y KX G hmg
    have hT8 := PySem.W.km_tabs_of Y
    refine' Mw.all_mk KX G hmg ?a1 ?l1 ?c1 ?k1 ?a2 ?l2 ?c2 ?k2 ?a3 ?l3 ?c3 ?k3 ?a4 ?l4 ?c4 ?k4 ?a5 ?l5 ?c5 ?k5 ?a6 ?l6 ?c6 ?k6 ?a7 ?l7 ?c7 ?k7 ?a8 ?l8 ?c8 ?k8 ?a9 ?l9 ?c9 ?k9 ?a10 ?l10 ?c10 ?k10 ?a11 ?l11 ?c11 ?k11 ?a12 ?l12 ?c12 ?k12 ?a13 ?l13 ?c13 ?k13 ?a14 ?l14 ?c14 ?k14 ?a15 ?l15 ?c15 ?k15 ?a16 ?l16 ?c16 ?k16 ?a17 ?l17 ?c17 ?k17 ?a18 ?l18 ?c18 ?k18 ?a19 ?l19 ?c19 ?k19 ?a20 ?l20 ?c20 ?k20 ?a21 ?l21 ?c21 ?k21 ?a22 ?l22 ?c22 ?k22 ?a23 ?l23 ?c23 ?k23 ?a24 ?l24 ?c24 ?k24 ?a25 ?l25 ?c25 ?k25 ?aC ?mk1 ?mk2 ?mk3 ?mk4 ?lI ?cI ?kI ?pg ?hd ?po ?sa ?nr ?aLc ?aN ?xN ?yNh ?yNc ?aA ?xA ?yAh ?yAc ?cc ?nl ?hP ?z1 ?z2 ?z3 ?z4 ?z5 ?z6 ?z7 ?z8 ?z9
    (case a1 => k_is); (case l1 => k_is); (case c1 => k_is); (case k1 => k_is)
    (case a2 => k_is); (case l2 => k_is); (case c2 => k_is); (case k2 => k_is)
    (case a3 => k_is); (case l3 => k_is); (case c3 => k_is); (case k3 => k_is)
    (case a4 => k_is); (case l4 => k_is); (case c4 => k_is); (case k4 => k_is)
    (case a5 => k_is); (case l5 => k_is); (case c5 => k_is); (case k5 => k_is)
    (case a6 => k_is); (case l6 => k_is); (case c6 => k_is); (case k6 => k_is)
    (case a7 => k_is); (case l7 => k_is); (case c7 => k_is); (case k7 => k_is)
    (case a8 => k_is); (case l8 => k_is); (case c8 => k_is); (case k8 => k_is)
    (case a9 => k_is); (case l9 => k_is); (case c9 => k_is); (case k9 => k_is)
    (case a10 => k_is); (case l10 => k_is); (case c10 => k_is); (case k10 => k_is)
    (case a11 => k_is); (case l11 => k_is); (case c11 => k_is); (case k11 => k_is)
    (case a12 => k_is); (case l12 => k_is); (case c12 => k_is); (case k12 => k_is)
    (case a13 => k_is); (case l13 => k_is); (case c13 => k_is); (case k13 => k_is)
    (case a14 => k_is); (case l14 => k_is); (case c14 => k_is); (case k14 => k_is)
    (case a15 => k_is); (case l15 => k_is); (case c15 => k_is); (case k15 => k_is)
    (case a16 => k_is); (case l16 => k_is); (case c16 => k_is); (case k16 => k_is)
    (case a17 => k_is); (case l17 => k_is); (case c17 => k_is); (case k17 => k_is)
    (case a18 => k_is); (case l18 => k_is); (case c18 => k_is); (case k18 => k_is)
    (case a19 => k_is); (case l19 => k_is); (case c19 => k_is); (case k19 => k_is)
    (case a20 => k_is); (case l20 => k_is); (case c20 => k_is); (case k20 => k_is)
    (case a21 => k_is); (case l21 => k_is); (case c21 => k_is); (case k21 => k_is)
    (case a22 => k_is); (case l22 => k_is); (case c22 => k_is); (case k22 => k_is)
    (case a23 => k_is); (case l23 => k_is); (case c23 => k_is); (case k23 => k_is)
    (case a24 => k_is); (case l24 => k_is); (case c24 => k_is); (case k24 => k_is)
    (case a25 => k_is); (case l25 => k_is); (case c25 => k_is); (case k25 => k_is)
    (case hP => exact hT8 _ List.mem_cons_self)
    (case aC => k_is)
    (case mk1 => k_is)
    (case mk2 => k_is)
    (case mk3 => k_is)
    (case mk4 => k_is)
    (case lI => k_is)
    (case cI => k_is)
    (case kI => k_is)
    (case pg => k_is)
    (case hd => k_is)
    (case po => k_is)
    (case sa => k_is)
    (case nr => k_is)
    (case aLc => k_is)
    (case aN => k_is)
    (case xN => k_is)
    (case yNh => k_is)
    (case yNc => k_is)
    (case aA => k_is)
    (case xA => k_is)
    (case yAh => k_is)
    (case yAc => k_is)
    (case cc => first | kernel_rfl | decide +kernel | k_is)
    (case nl => first | kernel_rfl | decide +kernel | k_is)
    (case z1 => k_is)
    (case z2 => k_is)
    (case z3 => k_is)
    (case z4 => k_is)
    (case z5 => k_is)
    (case z6 => k_is)
    (case z7 => k_is)
    (case z8 => k_is)
    (case z9 => k_is)

