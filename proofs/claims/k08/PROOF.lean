import PyProof.Rows.All
import Wide.All
import OpenK.AllK
import Wide.FinOn
import HandS.Base
import HandS.Call
import HandS.List
import HandS.Comp
import HandS.Ends
import HandS.Dict
import HandS.Iter
import HandS.Text
import HandS.Words
import HandS.WordsList
import HandS.Evl
import HandS.TupMul
import HandS.IsInst
import PySem.Challenge.RW_messageways_k08_sets_in_one_form
set_option Elab.async false
set_option maxRecDepth 100000
namespace Mw
open PySem L2
def top (i : Nat) : Stmt := PySem.Challenge.pw_messageways_k08_sets_in_one_form.main.body.getD i (.Pass ⟨0, 0, 0, 0⟩)
/-! ### trees of messages: a message is a chain of nodes, the cases of a choice a chain of cas -/
inductive T where
  | nil
  | text (s : Str) (r : T)
  | shw (n : Str) (r : T)
  | num (r : T)
  | cho (hd : List V) (cs o r : T)
  | cas (k : V) (m r : T)
/-- the values vs are the nodes (the cases) of the tree, as the heap has them -/
def Nodes (H : Hp) : T → List V → Prop
  | .nil, vs => vs = []
  | .text s r, vs => ∃ p ws, vs = .ref p :: ws ∧ H p = some (.tup [.str "text", .str s]) ∧ Nodes H r ws
  | .shw n r, vs => ∃ p ws, vs = .ref p :: ws ∧ H p = some (.tup [.str "show", .str n]) ∧ Nodes H r ws
  | .num r, vs => ∃ p ws, vs = .ref p :: ws ∧ H p = some (.tup [.str "number"]) ∧ Nodes H r ws
  | .cho hd cs o r, vs => ∃ p ws ca cvs oa ovs, vs = .ref p :: ws ∧ H p = some (.tup (hd ++ [.ref ca, .ref oa])) ∧ H ca = some (.lst cvs) ∧ Nodes H cs cvs ∧ H oa = some (.lst ovs) ∧ Nodes H o ovs ∧ Nodes H r ws
  | .cas k m r, vs => ∃ p ws ma mvs, vs = .ref p :: ws ∧ H p = some (.tup [k, .ref ma]) ∧ H ma = some (.lst mvs) ∧ Nodes H m mvs ∧ Nodes H r ws
/-- a list at a that is a message -/
def At (H : Hp) (a : Addr) (t : T) : Prop := ∃ vs, H a = some (.lst vs) ∧ Nodes H t vs
/-- all but the box stays; the box is a list of a ref and an int -/
def IsBox (vs : List V) : Prop := ∃ d i, vs = [.ref d, .int i]
def Ext (B : Addr) (H H' : Hp) : Prop := ∀ b o, b ≠ B → H b = some o → H' b = some o
theorem Ext.refl {B : Addr} (H : Hp) : Ext B H H := fun _ _ _ h => h
theorem Ext.trans {B : Addr} {H H1 H2 : Hp} (a : Ext B H H1) (b : Ext B H1 H2) : Ext B H H2 := fun c o n h => b c o n (a c o n h)
theorem Ext.of {B : Addr} {H H' : Hp} (s : Same H H') : Ext B H H' := fun b o _ h => s b o h
theorem same_new {H : Hp} {p : Addr} (h : H p = none) (o : HO) : Same H (upd H p o) := fun b u q => by
  rw [upd_ne (ne_of_none q h)]
  exact q
theorem same_mut {H H' : Hp} {p : Addr} (s : Same H H') (h : H p = none) (o : HO) : Same H (upd H' p o) := fun b u q => by
  rw [upd_ne (ne_of_none q h)]
  exact s b u q
theorem Nodes.refs {H : Hp} : ∀ {t : T} {vs : List V}, Nodes H t vs → ∀ v ∈ vs, ∃ a, v = .ref a
  | .nil, _, h, v, hv => by
    have h' : _ = [] := h
    subst h'
    cases hv
  | .text s r, _, h, v, hv => by
    obtain ⟨p, ws, rfl, _, hr⟩ := h
    rcases List.mem_cons.mp hv with rfl | hv
    · exact ⟨_, rfl⟩
    · exact Nodes.refs hr v hv
  | .shw n r, _, h, v, hv => by
    obtain ⟨p, ws, rfl, _, hr⟩ := h
    rcases List.mem_cons.mp hv with rfl | hv
    · exact ⟨_, rfl⟩
    · exact Nodes.refs hr v hv
  | .num r, _, h, v, hv => by
    obtain ⟨p, ws, rfl, _, hr⟩ := h
    rcases List.mem_cons.mp hv with rfl | hv
    · exact ⟨_, rfl⟩
    · exact Nodes.refs hr v hv
  | .cho hd cs o r, _, h, v, hv => by
    obtain ⟨p, ws, ca, cvs, oa, ovs, rfl, _, _, _, _, _, hr⟩ := h
    rcases List.mem_cons.mp hv with rfl | hv
    · exact ⟨_, rfl⟩
    · exact Nodes.refs hr v hv
  | .cas k m r, _, h, v, hv => by
    obtain ⟨p, ws, ma, mvs, rfl, _, _, _, hr⟩ := h
    rcases List.mem_cons.mp hv with rfl | hv
    · exact ⟨_, rfl⟩
    · exact Nodes.refs hr v hv
theorem Nodes.notBox {H : Hp} {t : T} {vs : List V} (h : Nodes H t vs) : ¬ IsBox vs := by
  rintro ⟨d, i, rfl⟩
  obtain ⟨a, e⟩ := h.refs (.int i) (by simp)
  cases e
theorem lst_ne {B a : Addr} {H : Hp} {bs vs : List V} (hb : H B = some (.lst bs)) (ib : IsBox bs) (ha : H a = some (.lst vs)) (nv : ¬ IsBox vs) : a ≠ B := by
  intro e
  subst e
  rw [hb] at ha
  cases ha
  exact nv ib
theorem tup_ne {B a : Addr} {H : Hp} {bs vs : List V} (hb : H B = some (.lst bs)) (ha : H a = some (.tup vs)) : a ≠ B := by
  intro e
  subst e
  rw [hb] at ha
  cases ha
/-- a tree stays where all but the box stays -/
theorem Nodes.ext {B : Addr} {H H' : Hp} {bs : List V} (hb : H B = some (.lst bs)) (ib : IsBox bs) (e : Ext B H H') : ∀ {t : T} {vs : List V}, Nodes H t vs → Nodes H' t vs
  | .nil, _, h => h
  | .text s r, _, h => by
    obtain ⟨p, ws, rfl, hp, hr⟩ := h
    exact ⟨p, ws, rfl, e _ _ (tup_ne hb hp) hp, Nodes.ext hb ib e hr⟩
  | .shw n r, _, h => by
    obtain ⟨p, ws, rfl, hp, hr⟩ := h
    exact ⟨p, ws, rfl, e _ _ (tup_ne hb hp) hp, Nodes.ext hb ib e hr⟩
  | .num r, _, h => by
    obtain ⟨p, ws, rfl, hp, hr⟩ := h
    exact ⟨p, ws, rfl, e _ _ (tup_ne hb hp) hp, Nodes.ext hb ib e hr⟩
  | .cho hd cs o r, _, h => by
    obtain ⟨p, ws, ca, cvs, oa, ovs, rfl, hp, hc, hcs, ho, hos, hr⟩ := h
    exact ⟨p, ws, ca, cvs, oa, ovs, rfl, e _ _ (tup_ne hb hp) hp, e _ _ (lst_ne hb ib hc hcs.notBox) hc, Nodes.ext hb ib e hcs, e _ _ (lst_ne hb ib ho hos.notBox) ho, Nodes.ext hb ib e hos, Nodes.ext hb ib e hr⟩
  | .cas k m r, _, h => by
    obtain ⟨p, ws, ma, mvs, rfl, hp, hm, hms, hr⟩ := h
    exact ⟨p, ws, ma, mvs, rfl, e _ _ (tup_ne hb hp) hp, e _ _ (lst_ne hb ib hm hms.notBox) hm, Nodes.ext hb ib e hms, Nodes.ext hb ib e hr⟩
theorem Nodes.same {H H' : Hp} (e : Same H H') : ∀ {t : T} {vs : List V}, Nodes H t vs → Nodes H' t vs
  | .nil, _, h => h
  | .text s r, _, h => by
    obtain ⟨p, ws, rfl, hp, hr⟩ := h
    exact ⟨p, ws, rfl, e _ _ hp, Nodes.same e hr⟩
  | .shw n r, _, h => by
    obtain ⟨p, ws, rfl, hp, hr⟩ := h
    exact ⟨p, ws, rfl, e _ _ hp, Nodes.same e hr⟩
  | .num r, _, h => by
    obtain ⟨p, ws, rfl, hp, hr⟩ := h
    exact ⟨p, ws, rfl, e _ _ hp, Nodes.same e hr⟩
  | .cho hd cs o r, _, h => by
    obtain ⟨p, ws, ca, cvs, oa, ovs, rfl, hp, hc, hcs, ho, hos, hr⟩ := h
    exact ⟨p, ws, ca, cvs, oa, ovs, rfl, e _ _ hp, e _ _ hc, Nodes.same e hcs, e _ _ ho, Nodes.same e hos, Nodes.same e hr⟩
  | .cas k m r, _, h => by
    obtain ⟨p, ws, ma, mvs, rfl, hp, hm, hms, hr⟩ := h
    exact ⟨p, ws, ma, mvs, rfl, e _ _ hp, e _ _ hm, Nodes.same e hms, Nodes.same e hr⟩
/-- two chains, one behind the other -/
def T.app : T → T → T
  | .nil, u => u
  | .text s r, u => .text s (r.app u)
  | .shw n r, u => .shw n (r.app u)
  | .num r, u => .num (r.app u)
  | .cho hd cs o r, u => .cho hd cs o (r.app u)
  | .cas k m r, u => .cas k m (r.app u)
theorem Nodes.app {H : Hp} {u : T} {us : List V} (hu : Nodes H u us) : ∀ {t : T} {vs : List V}, Nodes H t vs → Nodes H (t.app u) (vs ++ us)
  | .nil, _, h => by
    have h' : _ = [] := h
    subst h'
    exact hu
  | .text s r, _, h => by
    obtain ⟨p, ws, rfl, hp, hr⟩ := h
    exact ⟨p, ws ++ us, rfl, hp, Nodes.app hu hr⟩
  | .shw n r, _, h => by
    obtain ⟨p, ws, rfl, hp, hr⟩ := h
    exact ⟨p, ws ++ us, rfl, hp, Nodes.app hu hr⟩
  | .num r, _, h => by
    obtain ⟨p, ws, rfl, hp, hr⟩ := h
    exact ⟨p, ws ++ us, rfl, hp, Nodes.app hu hr⟩
  | .cho hd cs o r, _, h => by
    obtain ⟨p, ws, ca, cvs, oa, ovs, rfl, hp, hc, hcs, ho, hos, hr⟩ := h
    exact ⟨p, ws ++ us, ca, cvs, oa, ovs, rfl, hp, hc, hcs, ho, hos, Nodes.app hu hr⟩
  | .cas k m r, _, h => by
    obtain ⟨p, ws, ma, mvs, rfl, hp, hm, hms, hr⟩ := h
    exact ⟨p, ws ++ us, ma, mvs, rfl, hp, hm, hms, Nodes.app hu hr⟩
section
variable {P : Program} {w : World} {K : PySem.W.Frag} {mg : Str → Option Value} {base : Heap}
/-! ### _law_cell -/
abbrev sCell : Stmt := top 7
theorem scCell : FnScope ["script", "k"] ["script", "k"] (defScope sCell) := ⟨rfl, rfl, rfl, by decide +kernel, rfl, by decide +kernel, by decide +kernel⟩
def spCell (K : PySem.W.Frag) : Sp := fun vs H Q _ => ∃ (a : Addr) (ns : List Int) (k : Int), vs = [.ref a, .int k] ∧ SqL K H a (ns.map V.int) ∧ 0 ≤ k ∧ ∀ z, Q (.int z) H
theorem ok_cell {f : Addr} {fd : FuncData} (F : Fun K "_law_cell" "_law_cell" sCell f fd) (ml : mg "len" = none) : FnOk P w K mg base CX0 1 f fd ["script", "k"] (spCell K) := by
  refine F.ok scCell (fun vs H Q E h => ?_) (fun cdv A outer s H vs Q E hr h => ?_)
  · obtain ⟨a, ns, k, rfl, _⟩ := h
    rfl
  obtain ⟨a, ns, k, rfl, hS, h0, q⟩ := h
  refine ⟨_, pss_cons (ps_if (pt_cmpR op_lt (pv 1) (pe_callB call_len_seq (by rfl) ml PySem.boot_len (pa_cons (pv 0) pa_nil)) (nomark _)) (pss_one (ps_ret (pe_ix ix_list (pv 0) (pv 1) (fun _ _ => rfl)))) pss_nil)
    (pss_one (ps_ret pe_int)), ?_⟩
  refine ⟨_, rfl, _, rfl, a, _, rfl, .inl hS, _, _, rfl, rfl, _, rfl, ?_⟩
  refine ite2 (fun c => ?_) (fun c => ?_)
  · have c' := of_decide_eq_true c
    rw [List.length_map] at c'
    have hk : k.toNat < ns.length := by omega
    refine ⟨_, rfl, _, rfl, a, _, k, .int ns[k.toNat], rfl, rfl, hS, at_of (j := k.toNat) (by omega) (by rw [List.getElem?_map, List.getElem?_eq_getElem hk] <;> rfl), q _⟩
  · exact q _
end
end Mw

namespace Mw
open PySem L2
section
variable {P : Program} {w : World} {K : PySem.W.Frag} {mg : Str → Option Value} {base : Heap}
/-! ### _law_digits: a new list of ints -/
abbrev sDigits : Stmt := top 8
theorem scDigits : FnScope ["script", "first", "last", "digits", "k", "cell", "turn", "seed"] ["script", "first", "last"] (defScope sDigits) := ⟨rfl, rfl, rfl, by decide +kernel, rfl, by decide +kernel, by decide +kernel⟩
def spDigits (K : PySem.W.Frag) : Sp := fun vs H Q _ => ∃ (a : Addr) (ns : List Int), vs = [.ref a, .int 0, .int 63] ∧ SqL K H a (ns.map V.int) ∧ ∀ (d : Addr) (H' : Hp) (ds : List Int), H d = none → Same H H' → H' d = some (.lst (ds.map V.int)) → Q (.ref d) H'
theorem len_ints (ds : List Int) (z : Int) : ds.map V.int ++ [V.int z] = (ds ++ [z]).map V.int := by simp
theorem ok_digits {f fC : Addr} {fd fdC : FuncData} (F : Fun K "_law_digits" "_law_digits" sDigits f fd) (GC : FnOk P w K mg base CX0 1 fC fdC ["script", "k"] (spCell K)) (bC : Binds K fdC ["script", "k"] []) (kC : PySem.W.keepIn K (.ref fC) = true) (mC : mg "_law_cell" = some (.ref fC)) (mr : mg "range" = none) (mi : mg "int" = none) :
    FnOk P w K mg base CX0 2 f fd ["script", "first", "last"] (spDigits K) := by
  refine F.ok scDigits (fun vs H Q E h => ?_) (fun cdv A outer s H vs Q E hr h => ?_)
  · obtain ⟨a, ns, rfl, _⟩ := h
    rfl
  obtain ⟨a, ns, rfl, hS, q⟩ := h
  have nd := scDigits.nd
  refine ⟨_, pss_cons (ps_set (i := 3) nd rfl (.inl rfl) (pe_lst pa_nil))
    (pss_cons (ps_for PassesOwn.never rfl (pi_range2 rfl mr (pa_cons (pv 1) (pa_cons (pv 2) pa_nil))) (pg_name (i := 4) nd rfl (.inl rfl))
      (pss_cons (ps_set (i := 5) nd rfl (.inl rfl) (pe_call GC hr rfl mC kC bC .nil pass0 (pa_cons (pv 0) (pa_cons (pv 4) pa_nil))))
      (Evl.pss_cut (ps_if (pt_cmpR op_lt (pv 5) pe_int (nomark _)) (pss_one (ps_set (i := 5) nd rfl (.inl rfl) (pe_op op_sub pe_int (pe_op op_mul pe_int (pv 5))))) pss_nil)
      (pss_one (ps_if (pt_cmpR op_ge (pv 5) (pe_op op_pow pe_int pe_int) (nomark _))
        (pss_one (ps_for PassesOwn.never rfl (pi_range1 rfl mr (pa_cons pe_int pa_nil)) (pg_name (i := 6) nd rfl (.inl rfl))
          (pss_one (ps_if (pt_cmpR op_gt (pv 5) pe_int (nomark _))
            (pss_cons (ps_expr (pe_bm PySem.F.plainAttrs_list PySem.F.slot_list_append PySem.F.type_list_append mt_append (pv 3) (pa_cons (pe_op op_mod (pe_callTy call_int1 (by rfl) mi (by decide +kernel) (pa_cons (pv 5) pa_nil)) pe_int) pa_nil)))
            (pss_one (ps_set (i := 5) nd rfl (.inl rfl) (pe_op op_fdiv (pv 5) pe_int)))) pss_nil))))
        (pss_cons (ps_set (i := 7) nd rfl (.inl rfl) (pe_op op_mod (pe_callTy call_int1 (by rfl) mi (by decide +kernel) (pa_cons (pe_op op_add (pe_op op_add (pe_op op_mul (pv 5) pe_int) (pe_op op_mul (pv 4) pe_int)) pe_int) pa_nil)) pe_int))
        (pss_one (ps_for PassesOwn.never rfl (pi_range1 rfl mr (pa_cons pe_int pa_nil)) (pg_name (i := 6) nd rfl (.inl rfl))
          (pss_cons (ps_set (i := 7) nd rfl (.inl rfl) (pe_op op_mod (pe_callTy call_int1 (by rfl) mi (by decide +kernel) (pa_cons (pe_op op_add (pe_op op_add (pe_op op_mul (pv 7) pe_int) (pe_op op_mul pe_int (pv 6))) pe_int) pa_nil)) pe_int))
          (pss_one (ps_expr (pe_bm PySem.F.plainAttrs_list PySem.F.slot_list_append PySem.F.type_list_append mt_append (pv 3) (pa_cons (pe_op op_mod (pe_callTy call_int1 (by rfl) mi (by decide +kernel) (pa_cons (pe_op op_fdiv (pv 7) pe_int) pa_nil)) pe_int) pa_nil)))))))))))))
    (pss_one (ps_ret (pv 3)))), ?_⟩
  refine ⟨Nat.zero_le _, fun d nd0 => ?_⟩
  have s1 : Same H (upd H d (.lst [])) := same_new nd0 _
  refine ⟨_, rfl, _, rfl, 0, 63, rfl, by decide, for_range (lo := 0) (n := (63 - 0 : Int).toNat) (fun i σ H' => ∃ (ds : List Int) (o4 o5 o6 o7 : Option V), σ = [some (.ref a), some (.int 0), some (.int 63), some (.ref d), o4, o5, o6, o7] ∧ Same H H' ∧ H' d = some (.lst (ds.map V.int)) ∧ ds.length ≤ 60 * i)
    ⟨[], none, none, none, none, rfl, s1, upd_same, Nat.le_refl _⟩ ?_ ?_⟩
  · rintro i σ H2 hi ⟨ds, o4, o5, o6, o7, rfl, s2, hd, hl⟩
    refine ⟨_, rfl, _, rfl, a, ns, _, rfl, s2.seq hS, by omega, fun z => ?_⟩
    refine ⟨fun σ' H' => ∃ z' : Int, σ' = [some (.ref a), some (.int 0), some (.int 63), some (.ref d), some (.int (0 + i)), some (.int z'), o6, o7] ∧ H' = H2, ?_, ?_⟩
    · refine ⟨_, rfl, _, _, rfl, rfl, _, rfl, ?_⟩
      refine ite2 (fun _ => ?_) (fun _ => ?_)
      · exact ⟨_, rfl, _, _, rfl, rfl, .inl (by decide), _, _, rfl, rfl, _, rfl, rfl⟩
      · exact ⟨_, rfl, rfl⟩
    · rintro σ' H' ⟨z', rfl, rfl⟩
      refine ⟨_, rfl, _, _, rfl, rfl, (by unfold CPow; decide), _, _, rfl, rfl, _, rfl, ?_⟩
      refine ite2 (fun _ => ?_) (fun _ => ?_)
      · refine ⟨60, rfl, by decide, by decide, for_range (lo := 0) (n := 60) (fun j σ H' => ∃ (ds' : List Int) (z' : Int) (o6 : Option V), σ = [some (.ref a), some (.int 0), some (.int 63), some (.ref d), some (.int (0 + i)), some (.int z'), o6, o7] ∧ Same H H' ∧ H' d = some (.lst (ds'.map V.int)) ∧ ds'.length ≤ 60 * i + j)
          ⟨ds, z', o6, rfl, s2, hd, hl⟩ ?_ ?_⟩
        · rintro j σ H3 hj ⟨ds', z'', o6, rfl, s3, hd3, hl3⟩
          refine ⟨_, rfl, _, _, rfl, rfl, _, rfl, ?_⟩
          refine ite2 (fun _ => ?_) (fun _ => ?_)
          · refine ⟨_, rfl, .inl ⟨rfl, _, SqL.of hd3⟩, _, rfl, .inl ⟨_, rfl, _, _, rfl, rfl, (by show (0 : Int) < 1000; decide), d, _, _, rfl, rfl, hd3, ?_, ?_⟩⟩
            · rw [List.length_map]
              exact Nat.lt_of_lt_of_le (show ds'.length < 100000 by omega) (by decide)
            · refine ⟨_, rfl, _, _, rfl, rfl, ⟨by decide, by decide⟩, ds' ++ [z'' % 1000], _, _, rfl, same_mut s3 nd0 _, ?_, ?_⟩
              · rw [upd_same, len_ints]
              · rw [List.length_append, List.length_singleton]
                omega
          · exact ⟨ds', _, _, rfl, s3, hd3, by omega⟩
        · rintro σ H3 ⟨ds', z'', o6, rfl, s3, hd3, hl3⟩
          exact ⟨ds', _, _, _, _, rfl, s3, hd3, by omega⟩
      · refine ⟨_, rfl, _, _, rfl, rfl, .inr (by decide), _, rfl, _, _, rfl, rfl, .inr (by decide), _, _, rfl, rfl, _, _, rfl, rfl, .inl ⟨_, rfl, _, _, rfl, rfl, (by show (0 : Int) < 2147483647; decide), ?_⟩⟩
        refine ⟨12, rfl, by decide, by decide, for_range (lo := 0) (n := 12) (fun j σ H' => ∃ (ds' : List Int) (z7 : Int) (o6 : Option V), σ = [some (.ref a), some (.int 0), some (.int 63), some (.ref d), some (.int (0 + i)), some (.int z'), o6, some (.int z7)] ∧ Same H H' ∧ H' d = some (.lst (ds'.map V.int)) ∧ ds'.length ≤ 60 * i + j)
          ⟨ds, _, o6, rfl, s2, hd, hl⟩ ?_ ?_⟩
        · rintro j σ H3 hj ⟨ds', z7, o6, rfl, s3, hd3, hl3⟩
          refine ⟨_, rfl, _, _, rfl, rfl, .inr (by decide), _, rfl, _, _, rfl, rfl, .inl (by decide), _, _, rfl, rfl, _, _, rfl, rfl, .inl ⟨_, rfl, _, _, rfl, rfl, (by show (0 : Int) < 2147483647; decide), ?_⟩⟩
          refine ⟨_, rfl, .inl ⟨rfl, _, SqL.of hd3⟩, _, rfl, _, _, rfl, rfl, ⟨by decide, by decide⟩, .inl ⟨_, rfl, _, _, rfl, rfl, (by show (0 : Int) < 1000; decide), d, _, _, rfl, rfl, hd3, ?_, ?_⟩⟩
          · rw [List.length_map]
            exact Nat.lt_of_lt_of_le (show ds'.length < 100000 by omega) (by decide)
          · refine ⟨ds' ++ [((z7 * 16807 + 7 * (0 + (j : Int)) + 1) % 2147483647 / 997) % 1000], _, _, rfl, same_mut s3 nd0 _, ?_, ?_⟩
            · rw [upd_same, len_ints]
            · rw [List.length_append, List.length_singleton]
              omega
        · rintro σ H3 ⟨ds', z7, o6, rfl, s3, hd3, hl3⟩
          exact ⟨ds', _, _, _, _, rfl, s3, hd3, by omega⟩
  · rintro σ H2 ⟨ds, o4, o5, o6, o7, rfl, s2, hd, hl⟩
    exact ⟨_, rfl, q d H2 ds nd0 s2 hd⟩
end
end Mw

namespace Mw
open PySem L2
/-! ### how a heap goes on: all but the box stays, nothing is given up -/
structure Go (B : Addr) (H H' : Hp) : Prop where
  ext : ∀ b o, b ≠ B → H b = some o → H' b = some o
  dom : ∀ b, H' b = none → H b = none
theorem Go.refl (B : Addr) (H : Hp) : Go B H H := ⟨fun _ _ _ h => h, fun _ h => h⟩
theorem Go.trans {B : Addr} {H H1 H2 : Hp} (a : Go B H H1) (b : Go B H1 H2) : Go B H H2 := ⟨fun c o n h => b.ext c o n (a.ext c o n h), fun c h => a.dom c (b.dom c h)⟩
theorem upd_none {H : Hp} {p b : Addr} {o : HO} (h : upd H p o b = none) : H b = none := by
  unfold upd at h
  split at h
  · cases h
  · exact h
theorem Go.new {B : Addr} {H : Hp} {p : Addr} (h : H p = none) (o : HO) : Go B H (upd H p o) := ⟨fun b u _ q => same_new h o b u q, fun b q => upd_none q⟩
theorem Go.mut {B : Addr} {H H' : Hp} {p : Addr} (g : Go B H H') (h : H p = none) (o : HO) : Go B H (upd H' p o) :=
  ⟨fun b u n q => by
    rw [upd_ne (ne_of_none q h)]
    exact g.ext b u n q, fun b q => g.dom b (upd_none q)⟩
theorem Go.box (B : Addr) (H : Hp) (o : HO) : Go B H (upd H B o) := ⟨fun b u n q => by rw [upd_ne n]; exact q, fun b q => upd_none q⟩
theorem Go.same {B : Addr} {H H' : Hp} (s : Same H H') : Go B H H' := ⟨fun b o _ h => s b o h, fun b h => s.free h⟩
/-- what is new in H, seen from H0 -/
def fr (H0 H : Hp) : Hp := fun a => match H0 a with
  | none => H a
  | some _ => none
theorem fr_new {H0 H : Hp} {a : Addr} (h : H0 a = none) : fr H0 H a = H a := by
  unfold fr
  rw [h]
theorem fr_old {H0 H : Hp} {a : Addr} {o : HO} (h : H0 a = some o) : fr H0 H a = none := by
  unfold fr
  rw [h]
theorem fr_in {H0 H : Hp} {a : Addr} {o : HO} (h : fr H0 H a = some o) : H0 a = none ∧ H a = some o := by
  unfold fr at h
  split at h
  · exact ⟨by assumption, h⟩
  · cases h
theorem fr_go {B : Addr} {H0 H1 H2 : Hp} {ob : HO} (hb : H0 B = some ob) (g : Go B H1 H2) : Same (fr H0 H1) (fr H0 H2) := fun a o h => by
  obtain ⟨h0, h1⟩ := fr_in h
  rw [fr_new h0]
  exact g.ext a o (by rintro rfl; rw [hb] at h0; cases h0) h1
theorem fr_same {H0 H1 H2 : Hp} (g : Same H1 H2) : Same (fr H0 H1) (fr H0 H2) := fun a o h => by
  obtain ⟨h0, h1⟩ := fr_in h
  rw [fr_new h0]
  exact g a o h1
theorem fr_mut {H0 H1 : Hp} {l : Addr} {ol : HO} (hl : H0 l = some ol) (o : HO) : Same (fr H0 H1) (fr H0 (upd H1 l o)) := fun a u h => by
  obtain ⟨h0, h1⟩ := fr_in h
  rw [fr_new h0, upd_ne (by rintro rfl; rw [hl] at h0; cases h0)]
  exact h1
theorem fr_dom {H0 H1 H2 : Hp} (g : ∀ b, H1 b = none → H0 b = none) : Same (fr H1 H2) (fr H0 H2) := fun a u h => by
  obtain ⟨h0, h1⟩ := fr_in h
  rw [fr_new (g a h0)]
  exact h1
theorem fr_out {H0 H : Hp} : Same (fr H0 H) H := fun a o h => (fr_in h).2
/-- the box: digits and a place -/
def Box (H : Hp) (B d : Addr) : Prop := ∃ (ds : List Int) (i : Int), H B = some (.lst [.ref d, .int i]) ∧ H d = some (.lst (ds.map V.int)) ∧ 0 ≤ i
theorem Box.isB {H : Hp} {B d : Addr} (b : Box H B d) : ∃ o, H B = some o := by
  obtain ⟨ds, i, h, _⟩ := b
  exact ⟨_, h⟩
theorem Box.isD {H : Hp} {B d : Addr} (b : Box H B d) : ∃ o, H d = some o := by
  obtain ⟨ds, i, _, h, _⟩ := b
  exact ⟨_, h⟩
theorem Box.neB {H : Hp} {B d l : Addr} (b : Box H B d) (h : H l = none) : l ≠ B := by
  obtain ⟨o, hB⟩ := b.isB
  exact (ne_of_none hB h).symm
theorem Box.neD {H : Hp} {B d l : Addr} (b : Box H B d) (h : H l = none) : l ≠ d := by
  obtain ⟨o, hB⟩ := b.isD
  exact (ne_of_none hB h).symm
theorem Box.ne {H : Hp} {B d : Addr} {ds : List Int} {i : Int} (h : H B = some (.lst [.ref d, .int i])) (hd : H d = some (.lst (ds.map V.int))) : d ≠ B := by
  rintro rfl
  rw [h] at hd
  cases ds with
  | nil => cases hd
  | cons z r => cases hd
theorem Box.same {H H' : Hp} {B d : Addr} (s : Same H H') (b : Box H B d) : Box H' B d := by
  obtain ⟨ds, i, h, hd, hi⟩ := b
  exact ⟨ds, i, s _ _ h, s _ _ hd, hi⟩
theorem Box.mut {H : Hp} {B d l : Addr} (b : Box H B d) (hB : l ≠ B) (hd : l ≠ d) (o : HO) : Box (upd H l o) B d := by
  obtain ⟨ds, i, h, hd', hi⟩ := b
  exact ⟨ds, i, by rw [upd_ne hB.symm]; exact h, by rw [upd_ne hd.symm]; exact hd', hi⟩
theorem Box.new {H : Hp} {B d l : Addr} (b : Box H B d) (h : H l = none) (o : HO) : Box (upd H l o) B d := b.mut (b.neB h) (b.neD h) o
section
variable {P : Program} {w : World} {K : PySem.W.Frag} {mg : Str → Option Value} {base : Heap}
/-! ### _law_draw -/
abbrev sDraw : Stmt := top 9
theorem scDraw : FnScope ["box", "many", "at"] ["box", "many"] (defScope sDraw) := ⟨rfl, rfl, rfl, by decide +kernel, rfl, by decide +kernel, by decide +kernel⟩
def spDraw : Sp := fun vs H Q _ => ∃ (B d : Addr) (n : Int), vs = [.ref B, .int n] ∧ 0 < n ∧ Box H B d ∧ ∀ z H', 0 ≤ z → z < n → Go B H H' → Box H' B d → Q (.int z) H'
theorem ok_draw {f : Addr} {fd : FuncData} (F : Fun K "_law_draw" "_law_draw" sDraw f fd) (ml : mg "len" = none) (mi : mg "int" = none) : FnOk P w K mg base CX0 1 f fd ["box", "many"] spDraw := by
  refine F.ok scDraw (fun vs H Q E h => ?_) (fun cdv A outer s H vs Q E hr h => ?_)
  · obtain ⟨B, d, n, rfl, _⟩ := h
    rfl
  obtain ⟨B, d, n, rfl, h0, ⟨ds, i, hB, hd, hi⟩, q⟩ := h
  have nd := scDraw.nd
  refine ⟨_, pss_cons (ps_set (i := 2) nd rfl (.inl rfl) (pe_ix ix_list (pv 0) pe_int (fun _ _ => rfl)))
    (pss_cons (ps_asg (pe_op op_add (pv 2) pe_int) (pg_sub (pv 0) pe_int set_list))
    (pss_cons (ps_if (pt_cmpR op_lt (pv 2) (pe_callB call_len_seq (by rfl) ml PySem.boot_len (pa_cons (pe_ix ix_list (pv 0) pe_int (fun _ _ => rfl)) pa_nil)) (nomark _))
      (pss_one (ps_ret (pe_op op_mod (pe_callTy call_int1 (by rfl) mi (by decide +kernel) (pa_cons (pe_ix ix_list (pe_ix ix_list (pv 0) pe_int (fun _ _ => rfl)) (pv 2) (fun _ _ => rfl)) pa_nil)) (pv 1)))) pss_nil)
    (pss_one (ps_ret pe_int)))), ?_⟩
  have ne : d ≠ B := Box.ne hB hd
  refine ⟨_, rfl, B, _, 1, _, rfl, rfl, SqL.of hB, atI_nat (j := 1) rfl, ?_⟩
  refine ⟨_, rfl, _, _, rfl, rfl, _, rfl, B, _, 1, 1, rfl, rfl, hB, rfl, ?_⟩
  have hB' : upd H B (.lst [.ref d, .int (i + 1)]) B = some (.lst [.ref d, .int (i + 1)]) := upd_same
  have hd' : upd H B (.lst [.ref d, .int (i + 1)]) d = some (.lst (ds.map V.int)) := by rw [upd_ne ne]; exact hd
  have hb : Box (upd H B (.lst [.ref d, .int (i + 1)])) B d := ⟨ds, i + 1, hB', hd', by omega⟩
  refine ⟨_, rfl, _, rfl, B, _, 0, _, rfl, rfl, SqL.of hB', atI_nat (j := 0) rfl, d, _, rfl, .inl (SqL.of hd'), _, _, rfl, rfl, _, rfl, ?_⟩
  refine ite2 (fun c => ?_) (fun c => ?_)
  · have c' := of_decide_eq_true c
    rw [List.length_map] at c'
    have hk : i.toNat < ds.length := by omega
    refine ⟨_, rfl, B, _, 0, _, rfl, rfl, SqL.of hB', atI_nat (j := 0) rfl, _, rfl, d, _, i, .int ds[i.toNat], rfl, rfl, SqL.of hd', at_of (j := i.toNat) (by omega) (by rw [List.getElem?_map, List.getElem?_eq_getElem hk] <;> rfl), .inl ⟨_, rfl, _, rfl, _, _, rfl, rfl, h0, ?_⟩⟩
    exact q _ _ (Int.emod_nonneg _ (by omega)) (Int.emod_lt_of_pos _ h0) (Go.box B H _) hb
  · exact q 0 _ (by omega) h0 (Go.box B H _) hb
theorem pick {α : Type} {l : List α} {g : α → V} {z : Int} (h0 : 0 ≤ z) (h : z < (l.length : Int)) : ∃ x, x ∈ l ∧ atI (l.map g) z = some (g x) := by
  have hk : z.toNat < l.length := by omega
  exact ⟨l[z.toNat], List.getElem_mem hk, at_of (j := z.toNat) (by omega) (by rw [List.getElem?_map, List.getElem?_eq_getElem hk] <;> rfl)⟩
end
end Mw

/-! ### tuples: a slice that may be the whole, a sum whose left side may be empty, once a tuple -/
namespace Ts
open PySem L2 PyProof.Rows PySem.Spec
section
variable {s : Shared} {prog : Program} {w : World} {A : Around} {E : Value → Shared → Prop}
theorem whole {t sl : Addr} {items : Array Value} {vl vu : Value} {lo hi : Option Int} {Q : Value → Shared → Prop} (ht : IsTup s.heap t items) (hs : s.heap.IsSliceOf sl vl vu .none) (pl : IsPart vl lo) (pu : IsPart vu hi)
    (hl : HT.sIx items.size 0 lo = 0) (hh : HT.sIx items.size items.size hi = items.size) (h : Q (.ref t) s) : wpAny (model prog w) A (getItem (.ref t) (.ref sl)) Q E s := by
  obtain ⟨os, so1, so2, so3⟩ := id hs
  have tys : s.TypeIs (.ref sl) "slice" := ⟨os, so1, so2⟩
  unfold getItem
  try (with_reducible refine wpAny_holding ?_)
  try refine wpAny_bind (wpAny_pure ?_)
  refine wpAny_bind (wpAny_sequenceKey ht.typeIs (by decide) (wpAny_bind (wpAny_callSpecial?_slot (name := Str.ofString "__getitem__") ht.typeIs slot_tuple_getitem
    (wpAny_call_entry slot_tuple_getitem ht.typeIs entry_tuple_getitem ?_ (args_tuple_getitem _ _)))))
  (show wpAny _ _ (Builtin.Tuple.tupleItemsOf (.ref t) >>= _) _ _ s); refine wpAny_bind (tupleItemsOf_ ht (wpAny_bind (wpAny_typeOf tys ?_)))
  rw [if_pos (by decide)]
  refine wpAny_bind (HT.sliceApplied_gen hs pl pu ?_)
  have hyes : (((HT.sIx items.size 0 lo : Nat) : Int) == 0 && (1 : Int) == 1 && (HT.sIx items.size items.size hi - HT.sIx items.size 0 lo) == items.size) = true := by
    rw [hl, hh]
    simp
  show wpAny _ _ (if (((HT.sIx items.size 0 lo : Nat) : Int) == 0 && (1 : Int) == 1 && (HT.sIx items.size items.size hi - HT.sIx items.size 0 lo) == items.size) = true then _ else _) _ _ s
  rw [if_pos hyes]
  unfold Builtin.Tuple.tupleIsExact
  refine wpAny_bind (wpAny_bind (wpAny_typeOf ht.typeIs (wpAny_pure ?_)))
  rw [if_pos (by decide)]
  first
    | exact wpAny_bind (wpAny_pure (wpAny_pure ⟨_, rfl, wpAny_pure h⟩))
    | (wp_walk; exact ⟨_, rfl, wpAny_pure h⟩)
theorem rep1 (l : Addr) (items : Array Value) (n : Nat) (dd : Option Addr) (sl : Array (Option Value)) (u : Tok) :
    Meets (Builtin.«tuple.__mul__» ⟨[.ref l, .int 1 u], []⟩) (fun _ R s => s.heap.get? l = some { cls := .type "tuple", dict := dd, data := .seq items n, slots := sl } ∧ R (.ok (.ret (Value.ref l))) s) :=
  .of_wp fun _ _ _ R sh h => by
    obtain ⟨hp, g, d, tk, os⟩ := sh; obtain ⟨hl, h⟩ := h
    have f1 := AutoSeq1.idx_int
    have c0 : (decide ((1 : Int) < -(2 ^ 63)) || decide ((1 : Int) ≥ 2 ^ 63)) = false := by decide
    have c1 : (items.isEmpty || (1 : Int) == 1) = true := by simp
    wp_walk using wpAny_loadPart' hl; exact ⟨_, rfl, h⟩
end
/-- what a tuple's slice is, the whole or less -/
def rSl (K : PySem.W.Frag) : V → Option Int → Option Int → Hp → VK → Prop := fun x lo hi H Q => ∃ a xs, x = .ref a ∧ SqT K H a xs ∧ ∀ p H', Same H H' → SqT K H' p (cutV xs lo hi) → Q (.ref p) H'
section
variable {X : Cx}
theorem sl : SlR X (rSl X.K) := by
  intro pn s σ H x v vl vu lo hi sp Q Iv rx hs pl pu hh
  obtain ⟨a, xs, rfl, hxs, q⟩ := hh
  by_cases hw : (HT.sIx xs.length 0 lo = 0) ∧ (HT.sIx xs.length xs.length hi = xs.length)
  · cases rx
    obtain ⟨ws1, r, ht, hbd⟩ := Iv.tuple hxs
    have eln : ws1.toArray.size = xs.length := by rw [List.size_toArray]; exact r.length.symm
    refine ⟨"tuple", _, PyProof.Rows.slot_tuple_getitem.lookup, ht.typeIs, whole ht hs pl pu (by rw [eln]; exact hw.1) (by rw [eln]; exact hw.2) ⟨.ref a, H, Iv, rfl, q a H (fun _ _ h => h) ?_⟩⟩
    have e : cutV xs lo hi = xs := by
      unfold cutV
      rw [hw.1, hw.2]
      simp
    rw [e]
    exact hxs
  · exact sl_tup pn s σ H _ v vl vu lo hi sp Q Iv rx hs pl pu ⟨a, xs, rfl, hxs, hw, fun p hp => q p _ (fun b o h => by rw [upd_ne (ne_of_none h hp)]; exact h) (SqT.of upd_same)⟩
/-- a sum of tuples -/
def rCat (K : PySem.W.Frag) : R2 := fun x y H Q => ∃ a b xs ys, x = .ref a ∧ y = .ref b ∧ SqT K H a xs ∧ SqT K H b ys ∧ xs.length + ys.length ≤ sizeLine ∧ ∀ p H', Same H H' → SqT K H' p (xs ++ ys) → Q (.ref p) H'
theorem cat : OpR X (binaryOp .Add) (rCat X.K) := by
  intro pn s σ H x y v u Q Iv rx ry hh
  obtain ⟨a, b, xs, ys, rfl, rfl, hta, hb, hbd, q⟩ := hh
  by_cases hxs : xs = []
  · subst hxs
    cases rx
    cases ry
    obtain ⟨ws1, rv1, p1, _⟩ := Iv.tuple hta
    obtain ⟨ws2, rv2, p2, _⟩ := Iv.tuple hb
    cases rv1
    obtain ⟨⟨cls, dd, data, sl⟩, ho, hc, n, hdt⟩ := id p1
    obtain ⟨⟨cls2, dd2, data2, sl2⟩, ho2, hc2, n2, hd2⟩ := id p2
    simp only at hc hdt hc2 hd2
    subst hc hdt hc2 hd2
    exact concat_meets ⟨_, ho, rfl⟩ ⟨_, ho2, rfl⟩ noFill_tuple_add seq_tuple_add PySem.F.slot_tuple_add PySem.F.entry_tuple_add (PySem.F.args_tuple_add_2 _ _) (tuple_addW0 a b _ ws2.toArray n n2 dd dd2 sl sl2 (by simp)) ⟨ho, ho2, ⟨.ref b, H, Iv, rfl, q b H (fun _ _ h => h) hb⟩⟩
  · refine op_catT pn s σ H _ _ v u Q Iv rx ry ⟨a, b, xs, ys, rfl, rfl, hta, hb, hxs, hbd, fun e => q a H (fun _ _ h => h) (by rw [e, List.append_nil]; exact hta), fun _ p hp => q p _ (fun b o h => by rw [upd_ne (ne_of_none h hp)]; exact h) (SqT.of upd_same)⟩
/-- a tuple some times -/
def rRep (K : PySem.W.Frag) : R2 := fun x y H Q => ∃ l k xs, x = .ref l ∧ y = .int k ∧ SqT K H l xs ∧ xs ≠ [] ∧ 1 ≤ k ∧ k ≤ 1000 ∧ xs.length ≤ 1000 ∧ ∀ p H', Same H H' → SqT K H' p (List.replicate k.toNat xs).flatten → Q (.ref p) H'
theorem rep : OpR X (binaryOp .Mult) (rRep X.K) := by
  intro pn s σ H x y v u Q Iv rx ry hh
  obtain ⟨l, k, xs, rfl, rfl, hTu, hnn, h1, h2, hbd, q⟩ := hh
  by_cases hk : k = 1
  · subst hk
    cases rx
    obtain ⟨t, rfl⟩ := ry
    obtain ⟨ws1, r, ⟨⟨cls, dd, data, sl⟩, ho, hc, n, hdt⟩, hs⟩ := Iv.tuple hTu
    simp only at hc hdt
    subst hc hdt
    exact wpAny_binaryOp_repeat_ref (T := "tuple") (U := "int") (by decide) ⟨_, ho, rfl⟩ (fun s' => typeIs_int s' 1 t) noFill_tuple_mul F.fills_int_mul F.slot_int_rmul repeat_tuple F.slot_int_index.lookup (call_meets F.slot_int_rmul (typeIs_int s 1 t) F.entry_int_rmul (F.args_int_rmul_2 _ _) (int_rmul_tuple 1 t l ws1.toArray n dd sl)
      ⟨ho, rfl, ⟨_, ho, rfl⟩, call_meets F.slot_tuple_mul ⟨_, ho, rfl⟩ F.entry_tuple_mul (F.args_tuple_mul_2 _ _) (rep1 l ws1.toArray n dd sl t) ⟨ho, ⟨.ref l, H, Iv, rfl, q l H (fun _ _ h => h) (by simpa using hTu)⟩⟩⟩)
  · exact op_repT pn s σ H _ _ v u Q Iv rx ry ⟨l, k, xs, rfl, rfl, hTu, hnn, by omega, h2, hbd, fun p hp => q p _ (fun b o h => by rw [upd_ne (ne_of_none h hp)]; exact h) (SqT.of upd_same)⟩
/-- tuple(..) of a list or a tuple -/
def rTup (K : PySem.W.Frag) : List V → Hp → VK → Prop := fun xs H Q => ∃ a ys, xs = [.ref a] ∧ (SqL K H a ys ∨ SqT K H a ys) ∧ ∀ p H', Same H H' → SqT K H' p ys → Q (.ref p) H'
theorem tup : CallR X (.type "tuple") (rTup X.K) := by
  intro pn s σ H xs us Q Iv r hh
  obtain ⟨a, ys, rfl, hta, q⟩ := hh
  refine call_tuple_of pn s σ H _ us Q Iv r ⟨a, ys, rfl, ?_⟩
  rcases hta with hta | hta
  · exact .inl ⟨hta, fun l hl => q l _ (fun b o h => by rw [upd_ne (ne_of_none h hl)]; exact h) (SqT.of upd_same)⟩
  · exact .inr ⟨hta, q a H (fun _ _ h => h) hta⟩
end
theorem same {K : PySem.W.Frag} {H H' : Hp} {a : Addr} {xs : List V} (e : Same H H') (h : SqT K H a xs) : SqT K H' a xs := by
  rcases h with (h | ⟨fo, h⟩) | h
  · exact Or.inl (Or.inl (e _ _ h))
  · exact Or.inl (Or.inr ⟨fo, e _ _ h⟩)
  · exact Or.inr h
end Ts

namespace Mw
abbrev BL := List Bool
/-- the item of a cycle at any place -/
def cv (c : BL) (i : Int) : Bool := c.getD (i % (c.length : Int)).toNat false
/-- a cycle from another place on -/
def rot (c : BL) (i : Int) : BL := (List.range c.length).map fun (k : Nat) => cv c ((k : Int) + i)
def sq (h c : BL) (n : Nat) : Bool := if n < h.length then h.getD n false else cv c ((n : Int) - (h.length : Int))
def pfF : Nat → Nat → Nat → List Nat
  | 0, _, _ => []
  | fu + 1, n, f => if f * f ≤ n then (if n % f = 0 then f :: pfF fu (n / f) f else pfF fu n (f + 1)) else if 1 < n then [n] else []
def pf (n : Nat) : List Nat := pfF (2 * n) n 2
def scF (c : BL) : List Nat → Nat → Nat
  | [], s => s
  | f :: fs, s => scF c fs (if (c.drop (s / f)).take (s - s / f) = c.take (s - s / f) then s / f else s)
def sc (c : BL) : BL := c.take (scF c (pf c.length) c.length)
/-- how many items at the head's end (backwards) the cycle has, too -/
def mny (c : BL) : BL → Nat → Nat
  | [], _ => 0
  | x :: xs, j => if x = cv c (-1 - (j : Int)) then mny c xs (j + 1) + 1 else 0
def mn (h c : BL) : Nat := mny c h.reverse 0
def stl (h c : BL) : BL × BL := (h.take (h.length - mn h (sc c)), rot (sc c) (-(mn h (sc c) : Int)))
def rep (m : Nat) (c : BL) : BL := (List.replicate m c).flatten
def smB (h c o t : BL) : Bool := (List.range 60).all fun n => sq h c n == sq o t n
def allB : Nat → List BL
  | 0 => [[]]
  | n + 1 => [] :: (allB n).flatMap fun l => [true :: l, false :: l]
theorem mem_allB : ∀ {n : Nat} {l : BL}, l.length ≤ n → l ∈ allB n
  | 0, l, h => by
    have : l = [] := List.eq_nil_of_length_eq_zero (by omega)
    subst this
    exact List.mem_cons_self
  | n + 1, [], _ => List.mem_cons_self
  | n + 1, b :: l, h => by
    refine List.mem_cons_of_mem _ (List.mem_flatMap.mpr ⟨l, mem_allB (by simpa using h), ?_⟩)
    cases b <;> simp
/-- the cycles of the law -/
def Cy (c : BL) : Prop := c ≠ [] ∧ c.length ≤ 5
def cyc : List BL := (allB 4).flatMap fun l => [true :: l, false :: l]
theorem Cy.mem {c : BL} (h : Cy c) : c ∈ cyc := by
  cases c with
  | nil => exact absurd rfl h.1
  | cons b l =>
    refine List.mem_flatMap.mpr ⟨l, mem_allB (by have := h.2; simp at this; omega), ?_⟩
    cases b <;> simp
def factA (c : BL) : Bool := decide (1 ≤ (sc c).length ∧ (sc c).length ≤ c.length) && decide (c.length % (sc c).length = 0) && ((List.range c.length).all fun j => c.getD j false == (sc c).getD (j % (sc c).length) false) &&
  ((List.range (sc c).length).all fun n => n == 0 || !smB [] c [] (rep c.length ((List.range n).map fun (k : Nat) => cv c (k : Int)))) && smB [] c [] (rep c.length ((List.range (sc c).length).map fun (k : Nat) => cv c (k : Int)))
def factB (c : BL) : Bool := (List.range 9).all fun e => (List.range 3).all fun m => sc (rep (m + 1) (rot c (e : Int))) == rot (sc c) (e : Int)
theorem allA : (cyc.all factA) = true := by decide +kernel
theorem allBB : (cyc.all factB) = true := by decide +kernel
theorem pf_lt : ∀ n, n < 16 → (pf n).all (fun f => decide (2 ≤ f ∧ f < 100)) = true := by decide +kernel
end Mw

namespace Mw
theorem getD_map_range {n j : Nat} {f : Nat → Bool} (h : j < n) : ((List.range n).map f).getD j false = f j := by
  rw [List.getD_eq_getElem?_getD, List.getElem?_map, List.getElem?_range h]
  rfl
theorem rot_len (c : BL) (i : Int) : (rot c i).length = c.length := by simp [rot]
theorem len_pos {c : BL} (h : c ≠ []) : 0 < c.length := List.length_pos_iff.mpr h
theorem rot_ne {c : BL} {i : Int} (h : c ≠ []) : rot c i ≠ [] := by
  intro e
  have := rot_len c i
  rw [e] at this
  exact h (List.eq_nil_of_length_eq_zero this.symm)
theorem cv_mod {c : BL} {i j : Int} (h : i % (c.length : Int) = j % (c.length : Int)) : cv c i = cv c j := by
  unfold cv
  rw [h]
theorem cv_rot {c : BL} (hc : c ≠ []) (i k : Int) : cv (rot c i) k = cv c (k + i) := by
  have hp := len_pos hc
  have h0 : 0 ≤ k % (c.length : Int) := Int.emod_nonneg _ (by omega)
  have h1 : k % (c.length : Int) < c.length := Int.emod_lt_of_pos _ (by omega)
  show (rot c i).getD (k % ((rot c i).length : Int)).toNat false = _
  rw [rot_len]
  unfold rot
  rw [getD_map_range (by omega), Int.toNat_of_nonneg h0]
  exact cv_mod (by rw [Int.emod_add_emod])
theorem rot_rot {c : BL} (hc : c ≠ []) (i j : Int) : rot (rot c i) j = rot c (i + j) := by
  show (List.range (rot c i).length).map _ = _
  rw [rot_len]
  refine List.map_congr_left fun k _ => ?_
  rw [cv_rot hc]
  congr 1
  omega
theorem mny_shift {c : BL} (hc : c ≠ []) (i : Int) : ∀ (xs : BL) (j : Nat), mny (rot c (i + 1)) xs (j + 1) = mny (rot c i) xs j
  | [], _ => rfl
  | x :: xs, j => by
    have e : cv (rot c (i + 1)) (-1 - ((j + 1 : Nat) : Int)) = cv (rot c i) (-1 - (j : Int)) := by
      rw [cv_rot hc, cv_rot hc]
      congr 1
      omega
    unfold mny
    rw [e, mny_shift hc i xs (j + 1)]
theorem mny_le (c : BL) : ∀ (xs : BL) (j : Nat), mny c xs j ≤ xs.length
  | [], _ => Nat.le_refl _
  | x :: xs, j => by
    unfold mny
    have := mny_le c xs (j + 1)
    split <;> simp <;> omega
theorem mny_in (c : BL) : ∀ (xs : BL) (j k : Nat), k < mny c xs j → xs.getD k false = cv c (-1 - ((j + k : Nat) : Int))
  | [], _, k, h => by cases h
  | x :: xs, j, k, h => by
    unfold mny at h
    split at h
    · rename_i e
      cases k with
      | zero => exact e
      | succ k =>
        have := mny_in c xs (j + 1) k (by omega)
        rw [List.getD_cons_succ, this]
        congr 1
        omega
    · cases h
theorem mny_out (c : BL) : ∀ (xs : BL) (j : Nat), mny c xs j < xs.length → xs.getD (mny c xs j) false ≠ cv c (-1 - ((j + mny c xs j : Nat) : Int))
  | [], _, h => by cases h
  | x :: xs, j, h => by
    unfold mny at h ⊢
    split
    · rename_i e
      rw [if_pos e] at h
      have h' : mny c xs (j + 1) < xs.length := by simpa using h
      have := mny_out c xs (j + 1) h'
      rw [List.getD_cons_succ]
      intro z
      apply this
      rw [z]
      congr 1
      omega
    · rename_i e
      exact e
theorem getD_rev {h : BL} {k : Nat} (hk : k < h.length) : h.reverse.getD k false = h.getD (h.length - 1 - k) false := by
  rw [List.getD_eq_getElem?_getD, List.getD_eq_getElem?_getD, List.getElem?_reverse hk]
theorem getD_take {h : BL} {k s : Nat} (hk : k < s) : (h.take s).getD k false = h.getD k false := by
  rw [List.getD_eq_getElem?_getD, List.getD_eq_getElem?_getD, List.getElem?_take_of_lt hk]
/-- what holds of a cycle and its shortest one -/
structure Sh (c c' : BL) : Prop where
  nc : c ≠ []
  nc' : c' ≠ []
  le : c'.length ≤ c.length
  dv : (c'.length : Int) ∣ (c.length : Int)
  eq : ∀ i, cv c i = cv c' i
theorem sh_of {c : BL} (h : Cy c) : Sh c (sc c) ∧ (∀ n, 1 ≤ n → n < (sc c).length → smB [] c [] (rep c.length ((List.range n).map fun (k : Nat) => cv c (k : Int))) = false) ∧ smB [] c [] (rep c.length ((List.range (sc c).length).map fun (k : Nat) => cv c (k : Int))) = true := by
  have hf := List.all_eq_true.mp allA c h.mem
  unfold factA at hf
  simp only [Bool.and_eq_true, decide_eq_true_eq, List.all_eq_true, List.mem_range, Bool.or_eq_true, Bool.not_eq_true', beq_iff_eq] at hf
  obtain ⟨⟨⟨⟨⟨h1, h2⟩, h3⟩, h4⟩, h5⟩, h6⟩ := hf
  have dv : ((sc c).length : Int) ∣ (c.length : Int) := Int.natCast_dvd_natCast.mpr (Nat.dvd_of_mod_eq_zero h3)
  refine ⟨⟨h.1, (fun e => by rw [e] at h1; cases h1), h2, dv, fun i => ?_⟩, fun n n1 n2 => ?_, h6⟩
  · have hp := len_pos h.1
    have z0 : 0 ≤ i % (c.length : Int) := Int.emod_nonneg _ (by omega)
    have z1 : i % (c.length : Int) < c.length := Int.emod_lt_of_pos _ (by omega)
    have e := h4 (i % (c.length : Int)).toNat (by omega)
    unfold cv
    rw [e]
    congr 1
    rw [← Int.toNat_natCast ((i % (c.length : Int)).toNat % (sc c).length), Int.natCast_emod, Int.toNat_of_nonneg z0, Int.emod_emod_of_dvd _ dv]
  · rcases h5 n n2 with e | e
    · omega
    · exact e
theorem sq_lo {h c : BL} {n : Nat} (hn : n < h.length) : sq h c n = h.getD n false := by
  unfold sq
  rw [if_pos hn]
theorem sq_hi {h c : BL} {n : Nat} (hn : h.length ≤ n) : sq h c n = cv c ((n : Int) - (h.length : Int)) := by
  unfold sq
  rw [if_neg (by omega)]
theorem mn_le (h c : BL) : mn h c ≤ h.length := by
  have := mny_le c h.reverse 0
  rw [List.length_reverse] at this
  exact this
/-- the items that a head takes back -/
theorem mn_in {h c : BL} {n : Nat} (h1 : h.length - mn h c ≤ n) (h2 : n < h.length) : h.getD n false = cv c ((n : Int) - (h.length : Int)) := by
  have hl := mn_le h c
  have := mny_in c h.reverse 0 (h.length - 1 - n) (by show _ < mn h c; omega)
  rw [getD_rev (by omega), show h.length - 1 - (h.length - 1 - n) = n by omega] at this
  rw [this]
  congr 1
  omega
theorem mn_out {h c : BL} (h1 : mn h c < h.length) : h.getD (h.length - 1 - mn h c) false ≠ cv c (-1 - (mn h c : Int)) := by
  have := mny_out c h.reverse 0 (by rw [List.length_reverse]; exact h1)
  rw [getD_rev (show mny c h.reverse 0 < h.length from h1)] at this
  rw [show ((0 + mny c h.reverse 0 : Nat) : Int) = (mn h c : Int) by unfold mn; omega] at this
  exact this
/-- a head and a cycle that are taken back by t are the same numbers if all that is left out is as the cycle has it -/
theorem sq_cut {h c c' : BL} (S : Sh c c') {s : Nat} (hs : s ≤ h.length) (n : Nat) : sq (h.take s) (rot c' ((s : Int) - (h.length : Int))) n = if n < s then h.getD n false else cv c ((n : Int) - (h.length : Int)) := by
  have hl : (h.take s).length = s := by rw [List.length_take]; omega
  by_cases hn : n < s
  · rw [if_pos hn, sq_lo (by rw [hl]; exact hn), getD_take hn]
  · rw [if_neg hn, sq_hi (by rw [hl]; omega), hl, cv_rot S.nc', S.eq]
    congr 1
    omega
theorem cut_ok {h c c' : BL} (S : Sh c c') (n : Nat) : sq (h.take (h.length - mn h c')) (rot c' (-(mn h c' : Int))) n = sq h c n := by
  have hl := mn_le h c'
  have e := sq_cut S (h := h) (s := h.length - mn h c') (by omega) n
  rw [show ((h.length - mn h c' : Nat) : Int) - (h.length : Int) = -(mn h c' : Int) by omega] at e
  rw [e]
  by_cases h1 : n < h.length - mn h c'
  · rw [if_pos h1, sq_lo (by omega)]
  · rw [if_neg h1]
    by_cases h2 : n < h.length
    · rw [sq_lo h2, mn_in (h := h) (c := c') (by omega) h2, S.eq]
    · rw [sq_hi (by omega)]
theorem sq_stl {h c : BL} (hc : Cy c) (n : Nat) : sq (stl h c).1 (stl h c).2 n = sq h c n := cut_ok (sh_of hc).1 n
/-- what the law's search finds -/
theorem find_no {h c c' : BL} (S : Sh c c') (hh : h.length ≤ 60) {s : Nat} (hs : s < h.length - mn h c') : smB h c (h.take s) (rot c' ((s : Int) - (h.length : Int))) = false := by
  rw [Bool.eq_false_iff]
  intro e
  have := List.all_eq_true.mp e (h.length - 1 - mn h c') (List.mem_range.mpr (by omega))
  have hlt : mn h c' < h.length := by omega
  rw [beq_iff_eq, sq_cut S (by omega), if_neg (by omega), sq_lo (by omega), S.eq] at this
  apply mn_out hlt
  rw [this]
  congr 1
  omega
theorem find_yes {h c c' : BL} (S : Sh c c') : smB h c (h.take (h.length - mn h c')) (rot c' (-(mn h c' : Int))) = true :=
  List.all_eq_true.mpr fun n _ => by rw [beq_iff_eq, cut_ok S]
/-- the search's turned cycle -/
theorem turned_eq {h c c' : BL} (S : Sh c c') {s : Nat} (hh : h.length ≤ 20) : ((List.range c'.length).map fun (k : Nat) => sq h c (s + c'.length * 20 + k)) = rot c' ((s : Int) - (h.length : Int)) := by
  unfold rot
  refine List.map_congr_left fun k _ => ?_
  have hp := len_pos S.nc'
  rw [sq_hi (by omega), S.eq]
  refine cv_mod ?_
  rw [show ((s + c'.length * 20 + k : Nat) : Int) - (h.length : Int) = ((k : Int) + ((s : Int) - (h.length : Int))) + (c'.length : Int) * 20 by simp; omega, Int.add_mul_emod_self_left]
/-- a head prolonged by the cycle -/
def ext (h c : BL) (e : Nat) : BL := (List.range e).map fun (k : Nat) => sq h c (h.length + k)
theorem ext_len (h c : BL) (e : Nat) : (ext h c e).length = e := by simp [ext]
theorem mny_ext {h c c' : BL} (S : Sh c c') : ∀ e : Nat, mny (rot c' (e : Int)) (h ++ ext h c e).reverse 0 = e + mny c' h.reverse 0
  | 0 => by
    have : rot c' ((0 : Nat) : Int) = c' := by
      refine List.ext_getElem (rot_len _ _) fun k k1 k2 => ?_
      simp only [rot, List.getElem_map, List.getElem_range]
      unfold cv
      rw [show (((k : Int) + ((0 : Nat) : Int)) % (c'.length : Int)).toNat = k by rw [Int.emod_eq_of_lt (by omega) (by omega)]; omega, List.getD_eq_getElem?_getD, List.getElem?_eq_getElem k2]
      rfl
    rw [this]
    simp [ext]
  | e + 1 => by
    have e1 : ext h c (e + 1) = ext h c e ++ [cv c' (e : Int)] := by
      unfold ext
      rw [List.range_succ, List.map_append, List.map_cons, List.map_nil, sq_hi (by omega), S.eq]
      congr 3
      omega
    rw [e1, ← List.append_assoc, List.reverse_append, List.reverse_singleton, List.singleton_append]
    show (if cv c' (e : Int) = cv (rot c' ((e + 1 : Nat) : Int)) (-1 - ((0 : Nat) : Int)) then mny (rot c' ((e + 1 : Nat) : Int)) (h ++ ext h c e).reverse (0 + 1) + 1 else 0) = _
    rw [if_pos (by rw [cv_rot S.nc']; congr 1; omega)]
    have := mny_shift S.nc' (e : Int) (h ++ ext h c e).reverse 0
    rw [show ((e + 1 : Nat) : Int) = (e : Int) + 1 by omega, this, mny_ext S e]
    omega
theorem stl_ext {h c : BL} (hc : Cy c) {e m : Nat} (he : e < 9) (hm : m < 3) : stl (h ++ ext h c e) (rep (m + 1) ((List.range c.length).map fun (k : Nat) => sq h c ((h ++ ext h c e).length + k))) = stl h c := by
  have S := (sh_of hc).1
  have hf := List.all_eq_true.mp allBB c hc.mem
  have hf2 := List.all_eq_true.mp (List.all_eq_true.mp hf e (List.mem_range.mpr he)) m (List.mem_range.mpr hm)
  rw [beq_iff_eq] at hf2
  have e1 : ((List.range c.length).map fun (k : Nat) => sq h c ((h ++ ext h c e).length + k)) = rot c (e : Int) := by
    unfold rot
    refine List.map_congr_left fun k _ => ?_
    rw [List.length_append, ext_len, sq_hi (by omega)]
    congr 1
    omega
  rw [e1]
  have em : mn (h ++ ext h c e) (rot (sc c) (e : Int)) = e + mn h (sc c) := mny_ext S e
  have hl := mn_le h (sc c)
  unfold stl
  rw [hf2, em]
  refine Prod.ext ?_ ?_
  · show (h ++ ext h c e).take ((h ++ ext h c e).length - (e + mn h (sc c))) = h.take (h.length - mn h (sc c))
    rw [List.length_append, ext_len, show h.length + e - (e + mn h (sc c)) = h.length - mn h (sc c) by omega, List.take_append_of_le_length (by omega)]
  · show rot (rot (sc c) (e : Int)) (-((e + mn h (sc c) : Nat) : Int)) = rot (sc c) (-(mn h (sc c) : Int))
    rw [rot_rot S.nc']
    congr 1
    omega
end Mw

namespace Mw
open PySem L2
theorem sz_line {n : Nat} (h : n < 10000000) : n < sizeLine := Nat.lt_of_lt_of_le h (by decide)
theorem le_line {n : Nat} (h : n < 10000000) : n ≤ sizeLine := Nat.le_of_lt (sz_line h)
/-! ### tuples of True and False -/
def TA (K : PySem.W.Frag) (H : Hp) (v : V) (bs : BL) : Prop := ∃ p, v = .ref p ∧ SqT K H p (bs.map V.bl)
theorem TA.same {K : PySem.W.Frag} {H H' : Hp} {v : V} {bs : BL} (s : Same H H') (h : TA K H v bs) : TA K H' v bs := by
  obtain ⟨p, e, h1⟩ := h
  exact ⟨p, e, Ts.same s h1⟩
/-- the pair of a head and a cycle -/
def PA (K : PySem.W.Frag) (H : Hp) (v : V) (x : BL × BL) : Prop := ∃ p a b, v = .ref p ∧ H p = some (.tup [a, b]) ∧ TA K H a x.1 ∧ TA K H b x.2
theorem PA.same {K : PySem.W.Frag} {H H' : Hp} {v : V} {x : BL × BL} (s : Same H H') (h : PA K H v x) : PA K H' v x := by
  obtain ⟨p, a, b, e, h1, h2, h3⟩ := h
  exact ⟨p, a, b, e, s _ _ h1, h2.same s, h3.same s⟩
def bsD (bs : BL) : PyData := .tuple (bs.map .bool)
theorem dpl {K : PySem.W.Frag} {H : Hp} : ∀ bs : BL, DpAll K H (bs.map V.bl) (bs.map .bool)
  | [] => .nil
  | b :: bs => .cons (.bl b) (dpl bs)
theorem TA.dp {K : PySem.W.Frag} {H : Hp} {v : V} {bs : BL} (h : TA K H v bs) : Dp K H v (bsD bs) := by
  obtain ⟨p, rfl, h1⟩ := h
  exact .tup h1 (dpl bs)
theorem PA.dp {K : PySem.W.Frag} {H : Hp} {v : V} {x : BL × BL} (h : PA K H v x) : Dp K H v (.tuple [bsD x.1, bsD x.2]) := by
  obtain ⟨p, a, b, rfl, h1, h2, h3⟩ := h
  exact .tup (SqT.of h1) (.cons h2.dp (.cons h3.dp .nil))
theorem eqv_all : ∀ a b : BL, PyData.eqvAll (a.map .bool) (b.map .bool) = decide (a = b)
  | [], [] => rfl
  | [], _ :: _ => rfl
  | _ :: _, [] => rfl
  | x :: a, y :: b => by
    show ((x == y) && PyData.eqvAll (a.map .bool) (b.map .bool)) = _
    rw [eqv_all a b, Bool.eq_iff_iff]
    simp
theorem eqv_bs (a b : BL) : PyData.eqv (bsD a) (bsD b) = decide (a = b) := eqv_all a b
theorem can_all : ∀ a : BL, PyData.canLayAll0 (a.map .bool) = true
  | [] => rfl
  | _ :: a => can_all a
theorem dep_all : ∀ a : BL, PyData.depthAll (a.map .bool) = 0
  | [] => rfl
  | b :: a => by
    show max (PyData.depth (.bool b)) (PyData.depthAll (a.map .bool)) = 0
    rw [dep_all a]
    rfl
theorem shp (a : BL) : SeqAt.shaped (bsD a) = true := by
  unfold SeqAt.shaped
  rw [Bool.and_eq_true]
  refine ⟨can_all a, decide_eq_true ?_⟩
  show PyData.depthAll (a.map .bool) + 1 ≤ 64
  rw [dep_all]
  decide
theorem shp2 (a b : BL) : SeqAt.shaped (.tuple [bsD a, bsD b]) = true := by
  unfold SeqAt.shaped
  rw [Bool.and_eq_true]
  refine ⟨?_, decide_eq_true ?_⟩
  · show (PyData.canLayAll0 (a.map .bool) && (PyData.canLayAll0 (b.map .bool) && true)) = true
    rw [can_all, can_all]
    rfl
  · show max (PyData.depthAll (a.map .bool) + 1) (max (PyData.depthAll (b.map .bool) + 1) 0) + 1 ≤ 64
    rw [dep_all, dep_all]
    decide
section
variable {P : Program} {w : World} {K : PySem.W.Frag} {mg : Str → Option Value} {base : Heap}
/-! ### prime_factors -/
abbrev sPf : Stmt := top 1
abbrev nPf : List Str := ["number", "factors", "factor"]
theorem scPf : FnScope nPf ["number"] (defScope sPf) := ⟨rfl, rfl, rfl, by decide +kernel, rfl, by decide +kernel, by decide +kernel⟩
def nV (n : Nat) : V := .int (n : Int)
def spPf : Sp := fun vs H Q _ => ∃ n : Nat, vs = [nV n] ∧ 1 ≤ n ∧ n < 1000 ∧ ∀ l H', Same H H' → H' l = some (.lst ((pf n).map nV)) → Q (.ref l) H'
theorem ok_pf {f : Addr} {fd : FuncData} (F : Fun K "prime_factors" "prime_factors" sPf f fd) : FnOk P w K mg base CX0 1 f fd ["number"] spPf := by
  refine F.ok scPf (fun vs H Q E h => ?_) (fun cdv A outer s H vs Q E hr h => ?_)
  · obtain ⟨n, rfl, _⟩ := h
    rfl
  obtain ⟨n, rfl, h0, h1, q⟩ := h
  have nd := scPf.nd
  refine ⟨_, pss_cons (ps_set (i := 1) nd rfl (.inl rfl) (pe_lst pa_nil))
    (pss_cons (ps_set (i := 2) nd rfl (.inl rfl) pe_int)
    (pss_cons (ps_while PassesOwn.never (pt_cmpR op_le (pe_op op_mul (pv 2) (pv 2)) (pv 0) (nomark _))
      (pss_one (ps_if (pt_cmpR op_eq (pe_op op_mod (pv 0) (pv 2)) pe_int (nomark _))
        (pss_cons (ps_expr (pe_bm PySem.F.plainAttrs_list PySem.F.slot_list_append PySem.F.type_list_append mt_append (pv 1) (pa_cons (pv 2) pa_nil)))
          (pss_one (ps_set (i := 0) nd rfl (.inl rfl) (pe_op op_fdiv (pv 0) (pv 2)))))
        (pss_one (ps_aug (i := 2) nd rfl (.inl rfl) pe_int ip_add)))))
    (pss_one (ps_ret (pe_ifExp (pt_cmpR op_gt (pv 0) pe_int (nomark _)) (pe_op op_cat (pv 1) (pe_lst (pa_cons (pv 0) pa_nil))) (pv 1)))))), ?_⟩
  refine ⟨Nat.zero_le _, fun l hl => ?_⟩
  have s1 : Same H (upd H l (.lst [])) := same_new hl _
  let J : Nat → L2.St → Hp → Prop := fun fu σ H' => ∃ (m g : Nat) (acc : List Nat), σ = [some (nV m), some (.ref l), some (nV g)] ∧ Same H H' ∧ H' l = some (.lst (acc.map nV)) ∧ pf n = acc ++ pfF fu m g ∧ 2 * m < fu + g ∧ 1 ≤ fu ∧ 2 ≤ g ∧ 1 ≤ m ∧ g + fu ≤ 2 * n + 2 ∧ acc.length + fu ≤ 2 * n
  refine ⟨J, ⟨2 * n, n, 2, [], rfl, s1, upd_same, rfl, by omega, by omega, by omega, h0, by omega, by simp⟩, ?_⟩
  rintro fu σ H' ⟨m, g, acc, rfl, s', hl', hpf, i1, i2, i3, i4, i6, i7⟩
  refine ⟨_, rfl, _, rfl, _, _, rfl, rfl, .inl ⟨by omega, by omega⟩, ?_⟩
  refine ⟨_, rfl, _, _, rfl, rfl, _, rfl, ?_⟩
  obtain ⟨fu', rfl⟩ : ∃ fu', fu = fu' + 1 := ⟨fu - 1, by omega⟩
  have e1 : pfF (fu' + 1) m g = if g * g ≤ m then (if m % g = 0 then g :: pfF fu' (m / g) g else pfF fu' m (g + 1)) else if 1 < m then [m] else [] := rfl
  have hgg : (g : Int) * (g : Int) = ((g * g : Nat) : Int) := by simp
  refine ite2 (fun c => ?_) (fun c => ?_)
  · have c' : g * g ≤ m := by
      have := of_decide_eq_true c
      rw [hgg] at this
      omega
    rw [e1, if_pos c'] at hpf
    have g2 : 2 * g ≤ g * g := Nat.mul_le_mul_right g i3
    refine ⟨J fu', fun σ' H' h => ⟨fu', by omega, h⟩, ?_⟩
    refine ⟨_, rfl, _, rfl, _, _, rfl, rfl, by show (0 : Int) < (g : Int); omega, rfl, _, rfl, ?_⟩
    have hmod : (m : Int) % (g : Int) = ((m % g : Nat) : Int) := by simp
    refine ite2 (fun c2 => ?_) (fun c2 => ?_)
    · have c3 : m % g = 0 := by
        have : (V.int ((m : Int) % (g : Int))) = V.int 0 := of_decide_eq_true c2
        injection this with this
        rw [hmod] at this
        omega
      rw [if_pos c3] at hpf
      refine ⟨_, rfl, .inl ⟨rfl, _, SqL.of hl'⟩, _, rfl, l, _, _, rfl, rfl, hl', sz_line (by rw [List.length_map]; omega), ?_⟩
      refine ⟨_, rfl, _, rfl, _, _, rfl, rfl, ⟨by omega, by omega⟩, ?_⟩
      have hdiv : (m : Int) / (g : Int) = ((m / g : Nat) : Int) := by simp
      have d1 : m / g * g ≤ m := Nat.div_mul_le_self m g
      have d2 : m / g * 2 ≤ m / g * g := Nat.mul_le_mul_left _ i3
      have d3 : 1 ≤ m / g := (Nat.le_div_iff_mul_le (by omega)).mpr (by omega)
      refine ⟨m / g, g, acc ++ [g], ?_, same_mut s' hl _, ?_, ?_, by omega, by omega, i3, d3, by omega, by rw [List.length_append, List.length_singleton]; omega⟩
      · show _ = [some (V.int ((m / g : Nat) : Int)), _, _]
        rw [← hdiv]
        rfl
      · rw [upd_same, List.map_append]
        rfl
      · rw [hpf, List.append_assoc]
        rfl
    · have c3 : ¬ m % g = 0 := fun z => c2 (by
        show decide (V.int ((m : Int) % (g : Int)) = V.int 0) = true
        rw [hmod, z]
        rfl)
      rw [if_neg c3] at hpf
      refine ⟨_, rfl, _, _, rfl, rfl, m, g + 1, acc, ?_, s', hl', hpf, by omega, by omega, by omega, i4, by omega, by omega⟩
      show _ = [_, _, some (V.int ((g + 1 : Nat) : Int))]
      rw [show ((g + 1 : Nat) : Int) = (g : Int) + 1 by omega]
      rfl
  · have c' : ¬ g * g ≤ m := fun z => c (by
      show decide ((g : Int) * (g : Int) ≤ (m : Int)) = true
      rw [hgg]
      exact decide_eq_true (by omega))
    rw [e1, if_neg c'] at hpf
    refine ⟨_, rfl, _, _, rfl, rfl, _, rfl, ?_⟩
    refine ite2 (fun c2 => ?_) (fun c2 => ?_)
    · have c3 : 1 < m := by
        have := of_decide_eq_true c2
        omega
      rw [if_pos c3] at hpf
      refine ⟨_, rfl, _, rfl, by show 1 ≤ sizeLine; decide, fun l2 hl2 => ?_⟩
      have t1 : Same H' (upd H' l2 (.lst [nV m])) := same_new hl2 _
      refine ⟨l, l2, _, _, rfl, rfl, t1 _ _ hl', upd_same, le_line (by rw [List.length_map]; show acc.length + 1 < 10000000; omega), fun l3 hl3 => ?_⟩
      refine q l3 _ ((s'.trans t1).trans (same_new hl3 _)) ?_
      rw [upd_same, hpf, List.map_append]
      rfl
    · have c3 : ¬ 1 < m := by
        have := of_decide_eq_false (Bool.eq_false_iff.mpr c2)
        omega
      rw [if_neg c3, List.append_nil] at hpf
      rw [← hpf] at hl'
      exact ⟨_, rfl, q l H' s' hl'⟩
end
end Mw

namespace Mw
open PySem L2
theorem cut_map (bs : BL) (lo hi : Option Int) : cutV (bs.map V.bl) lo hi = ((bs.drop (HT.sIx bs.length 0 lo)).take (HT.sIx bs.length bs.length hi - HT.sIx bs.length 0 lo)).map V.bl := by
  unfold cutV
  rw [List.length_map, List.map_take, List.map_drop]
theorem cut_to {bs : BL} {k : Nat} (hk : k ≤ bs.length) : cutV (bs.map V.bl) none (some (k : Int)) = (bs.take k).map V.bl := by
  rw [cut_map, HT.sIx_none, HT.sIx_nat, Nat.min_eq_left hk, List.drop_zero, Nat.sub_zero]
theorem cut_from {bs : BL} {k : Nat} (hk : k ≤ bs.length) : cutV (bs.map V.bl) (some (k : Int)) none = (bs.drop k).map V.bl := by
  rw [cut_map, HT.sIx_none, HT.sIx_nat, Nat.min_eq_left hk, List.take_of_length_le (by rw [List.length_drop]; omega)]
theorem cut_mid {bs : BL} {j k : Nat} (hj : j ≤ bs.length) (hk : k ≤ bs.length) : cutV (bs.map V.bl) (some (j : Int)) (some (k : Int)) = ((bs.drop j).take (k - j)).map V.bl := by
  rw [cut_map, HT.sIx_nat, HT.sIx_nat, Nat.min_eq_left hk, Nat.min_eq_left hj]
theorem at_bl {bs : BL} {k : Nat} (hk : k < bs.length) : atI (bs.map V.bl) (k : Int) = some (.bl (bs.getD k false)) :=
  atI_nat (by rw [List.getElem?_map, List.getElem?_eq_getElem hk, List.getD_eq_getElem?_getD, List.getElem?_eq_getElem hk]; rfl)
theorem at_back {bs : BL} {k : Nat} (hk : k < bs.length) : atI (bs.map V.bl) (-1 - (k : Int)) = some (.bl (bs.getD (bs.length - 1 - k) false)) := by
  have e : ixN (bs.map V.bl).length (-1 - (k : Int)) = some (bs.length - 1 - k) := by
    unfold ixN
    rw [List.length_map, if_neg (by omega), if_pos (by omega)]
    congr 1
    omega
  unfold atI
  rw [e]
  · show (bs.map V.bl)[bs.length - 1 - k]? = _
    rw [List.getElem?_map, List.getElem?_eq_getElem (by omega), List.getD_eq_getElem?_getD, List.getElem?_eq_getElem (by omega)]
    rfl
theorem back_mod {p : Nat} (hp : 0 < p) (j : Nat) : ((-1 - (j : Int)) % (p : Int)).toNat = p - 1 - j % p := by
  have hm := Nat.mod_lt j hp
  have hd := Nat.div_add_mod j p
  have e : -1 - (j : Int) = ((p - 1 - j % p : Nat) : Int) + (p : Int) * (-((j / p : Nat) : Int) - 1) := by
    have : (j : Int) = (p : Int) * ((j / p : Nat) : Int) + ((j % p : Nat) : Int) := by
      rw [← Int.natCast_mul, ← Int.natCast_add, hd]
    rw [Int.mul_sub, Int.mul_neg, Int.mul_one]
    omega
  rw [e, Int.add_mul_emod_self_left, Int.emod_eq_of_lt (by omega) (by omega)]
  omega
theorem cv_back {c : BL} (hc : c ≠ []) (j : Nat) : cv c (-1 - (j : Int)) = c.getD (c.length - 1 - j % c.length) false := by
  unfold cv
  rw [back_mod (len_pos hc)]
theorem rot_split {c : BL} {t : Nat} (ht : t ≤ c.length) : c.drop t ++ c.take t = rot c (t : Int) := by
  refine List.ext_getElem (by rw [rot_len]; simp; omega) fun k k1 k2 => ?_
  rw [rot_len] at k2
  simp only [rot, List.getElem_map, List.getElem_range]
  unfold cv
  rw [List.getElem_append]
  split
  · rename_i h
    rw [List.length_drop] at h
    rw [show (((k : Int) + (t : Int)) % (c.length : Int)).toNat = t + k by rw [Int.emod_eq_of_lt (by omega) (by omega)]; omega, List.getD_eq_getElem?_getD, List.getElem?_eq_getElem (by omega), List.getElem_drop]
    rfl
  · rename_i h
    rw [List.length_drop] at h
    have e : ((k : Int) + (t : Int)) % (c.length : Int) = ((k + t - c.length : Nat) : Int) := by
      rw [show (k : Int) + (t : Int) = ((k + t - c.length : Nat) : Int) + (c.length : Int) * 1 by omega, Int.add_mul_emod_self_left, Int.emod_eq_of_lt (by omega) (by omega)]
    rw [e, Int.toNat_natCast, List.getD_eq_getElem?_getD, List.getElem?_eq_getElem (by omega), List.getElem_take]
    simp only [List.length_drop, Option.getD_some]
    congr 1
    omega
theorem rot_turn {c : BL} (hc : c ≠ []) (m : Nat) : rot c ((c.length - m % c.length : Nat) : Int) = rot c (-(m : Int)) := by
  unfold rot
  refine List.map_congr_left fun k _ => cv_mod ?_
  have hp := len_pos hc
  have hm := Nat.mod_lt m hp
  have hd := Nat.div_add_mod m c.length
  have e : (k : Int) + ((c.length - m % c.length : Nat) : Int) = ((k : Int) + (-(m : Int))) + (c.length : Int) * (1 + ((m / c.length : Nat) : Int)) := by
    have : (m : Int) = (c.length : Int) * ((m / c.length : Nat) : Int) + ((m % c.length : Nat) : Int) := by
      rw [← Int.natCast_mul, ← Int.natCast_add, hd]
    rw [Int.mul_add, Int.mul_one]
    omega
  rw [e, Int.add_mul_emod_self_left]
theorem pf_pos {n f : Nat} (hn : n < 16) (h : f ∈ pf n) : 2 ≤ f ∧ f < 100 := of_decide_eq_true (List.all_eq_true.mp (pf_lt n hn) f h)
section
variable {P : Program} {w : World} {K : PySem.W.Frag} {mg : Str → Option Value} {base : Heap}
/-! ### shortest_cycle -/
abbrev sSc : Stmt := top 2
abbrev nSc : List Str := ["cycle", "size", "factor", "shorter"]
theorem scSc : FnScope nSc ["cycle"] (defScope sSc) := ⟨rfl, rfl, rfl, by decide +kernel, rfl, by decide +kernel, by decide +kernel⟩
def spSc (K : PySem.W.Frag) : Sp := fun vs H Q _ => ∃ (v : V) (c : BL), vs = [v] ∧ TA K H v c ∧ c ≠ [] ∧ c.length < 16 ∧ ∀ v' H', Same H H' → TA K H' v' (sc c) → Q v' H'
theorem scF_drop {c : BL} {fs : List Nat} {i f s : Nat} (h : fs[i]? = some f) : scF c (fs.drop i) s = scF c (fs.drop (i + 1)) (if (c.drop (s / f)).take (s - s / f) = c.take (s - s / f) then s / f else s) := by
  have e : fs.drop i = f :: fs.drop (i + 1) := by
    obtain ⟨h1, h2⟩ := List.getElem?_eq_some_iff.mp h
    rw [List.drop_eq_getElem_cons h1, h2]
  rw [e]
  rfl
theorem ok_sc {f fP : Addr} {fd fdP : FuncData} (F : Fun K "shortest_cycle" "shortest_cycle" sSc f fd)
    (GP : FnOk P w K mg base CX0 1 fP fdP ["number"] spPf) (bP : Binds K fdP ["number"] []) (kP : PySem.W.keepIn K (.ref fP) = true) (mP : mg "prime_factors" = some (.ref fP)) (ml : mg "len" = none) :
    FnOk P w K mg base CX0 2 f fd ["cycle"] (spSc K) := by
  refine F.ok scSc (fun vs H Q E h => ?_) (fun cdv A outer s H vs Q E hr h => ?_)
  · obtain ⟨v, c, rfl, _⟩ := h
    rfl
  obtain ⟨v, c, rfl, ⟨p, rfl, hp⟩, hc, h16, q⟩ := h
  have nd := scSc.nd
  refine ⟨_, pss_cons (ps_set (i := 1) nd rfl (.inl rfl) (pe_callB call_len_seq (by rfl) ml PySem.boot_len (pa_cons (pv 0) pa_nil)))
    (pss_cons (ps_for PassesOwn.never rfl (pi_list (pe_call GP hr rfl mP kP bP .nil pass0 (pa_cons (pv 1) pa_nil))) (pg_name (i := 2) nd rfl (.inl rfl))
      (pss_cons (ps_set (i := 3) nd rfl (.inl rfl) (pe_op op_fdiv (pv 1) (pv 2)))
      (pss_one (ps_if (pt_cmpR (op_eqD hr.units) (pe_slice Ts.sl (pv 0) (po_some (pv 3)) (po_some (pv 1))) (pe_slice Ts.sl (pv 0) po_none (po_some (pe_op op_sub (pv 1) (pv 3)))) (nomark _))
        (pss_one (ps_set (i := 1) nd rfl (.inl rfl) (pv 3))) pss_nil))))
    (pss_one (ps_ret (pe_slice Ts.sl (pv 0) po_none (po_some (pv 1)))))), ?_⟩
  have hpos := len_pos hc
  refine ⟨_, rfl, p, _, rfl, .inr hp, ?_⟩
  rw [List.length_map]
  refine ⟨_, rfl, c.length, rfl, by omega, by omega, fun l H1 s1 hl => ⟨l, rfl, ⟨_, SqL.of hl⟩, ?_⟩⟩
  refine for_list (xs := (pf c.length).map nV) (fun i σ H' => ∃ (z : Nat) (o2 o3 : Option V), σ = [some (.ref p), some (nV z), o2, o3] ∧ Same H1 H' ∧ z ≤ c.length ∧ scF c ((pf c.length).drop i) z = scF c (pf c.length) c.length) ⟨c.length, _, _, rfl, Same.refl _, Nat.le_refl _, rfl⟩ (fun i σ H' _ ⟨_, _, _, _, s', _⟩ => SqL.of (s' _ _ hl)) ?_ ?_
  · rintro i x σ H' hx ⟨z, o2, o3, rfl, s', hz, hsc⟩
    rw [List.getElem?_map] at hx
    obtain ⟨g, hg, rfl⟩ := Option.map_eq_some_iff.mp hx
    have g2 := pf_pos h16 (List.mem_of_getElem? hg)
    rw [scF_drop hg] at hsc
    have hp1 : SqT K H1 p (c.map V.bl) := Ts.same s1 hp
    have hd : (fun i j : Int => V.int (i / j)) (z : Int) (g : Int) = V.int ((z / g : Nat) : Int) := by
      show V.int ((z : Int) / (g : Int)) = _
      rw [← Int.natCast_ediv]
    have hdz : z / g ≤ z := Nat.div_le_self z g
    generalize z / g = t at hd hdz hsc
    refine ⟨_, rfl, _, rfl, _, _, rfl, rfl, ⟨by omega, by omega⟩, ?_⟩
    rw [hd]
    refine ⟨_, rfl, _, rfl, _, rfl, _, rfl, _, rfl, p, _, rfl, Ts.same s' hp1, fun p1 H2 s2 ht1 => ?_⟩
    rw [cut_mid (by omega) hz] at ht1
    refine ⟨_, rfl, _, rfl, _, rfl, _, _, rfl, rfl, _, rfl, p, _, rfl, Ts.same (s'.trans s2) hp1, fun p2 H3 s3 ht2 => ?_⟩
    rw [show ((z : Nat) : Int) - ((t : Nat) : Int) = ((z - t : Nat) : Int) by omega, cut_to (by omega)] at ht2
    refine ⟨_, _, TA.dp ⟨p1, rfl, Ts.same s3 ht1⟩, TA.dp ⟨p2, rfl, ht2⟩, shp _, shp _, ?_⟩
    rw [eqv_bs]
    refine ⟨_, rfl, ?_⟩
    refine ite2 (fun e => ?_) (fun e => ?_)
    · rw [if_pos (of_decide_eq_true e)] at hsc
      exact ⟨_, rfl, t, _, _, rfl, (s'.trans s2).trans s3, by omega, hsc⟩
    · rw [if_neg (of_decide_eq_false (Bool.eq_false_iff.mpr e))] at hsc
      exact ⟨z, _, _, rfl, (s'.trans s2).trans s3, hz, hsc⟩
  · rintro σ H' ⟨z, o2, o3, rfl, s', hz, hsc⟩
    rw [List.length_map, List.drop_length] at hsc
    have hz2 : scF c (pf c.length) c.length = z := hsc.symm
    refine ⟨_, rfl, _, rfl, _, rfl, p, _, rfl, Ts.same (s1.trans s') hp, fun p1 H2 s2 ht1 => ?_⟩
    rw [cut_to hz] at ht1
    refine q (.ref p1) H2 ((s1.trans s').trans s2) ⟨p1, rfl, ?_⟩
    unfold sc
    rw [hz2]
    exact ht1
end
end Mw

namespace Mw
open PySem L2
section
variable {P : Program} {w : World} {K : PySem.W.Frag} {mg : Str → Option Value} {base : Heap}
/-! ### turned_back -/
abbrev sTb : Stmt := top 3
abbrev nTb : List Str := ["head", "cycle", "many", "turn"]
theorem scTb : FnScope nTb ["head", "cycle", "many"] (defScope sTb) := ⟨rfl, rfl, rfl, by decide +kernel, rfl, by decide +kernel, by decide +kernel⟩
def spTb (K : PySem.W.Frag) : Sp := fun vs H Q _ => ∃ (v1 v2 : V) (h c : BL) (m : Nat), vs = [v1, v2, nV m] ∧ TA K H v1 h ∧ TA K H v2 c ∧ c ≠ [] ∧ c.length < 100000 ∧ h.length < 100000 ∧ m ≤ h.length ∧ ∀ v' H', Same H H' → PA K H' v' (h.take (h.length - m), rot c (-(m : Int))) → Q v' H'
theorem ok_tb {f : Addr} {fd : FuncData} (F : Fun K "turned_back" "turned_back" sTb f fd) (ml : mg "len" = none) : FnOk P w K mg base CX0 1 f fd ["head", "cycle", "many"] (spTb K) := by
  refine F.ok scTb (fun vs H Q E h => ?_) (fun cdv A outer s H vs Q E hr h => ?_)
  · obtain ⟨v1, v2, h, c, m, rfl, _⟩ := h
    rfl
  obtain ⟨v1, v2, h, c, m, rfl, ⟨p, rfl, hp⟩, ⟨r, rfl, hr1⟩, hc, hl1, hl2, hm, q⟩ := h
  have nd := scTb.nd
  refine ⟨_, pss_cons (ps_set (i := 3) nd rfl (.inl rfl) (pe_op op_sub (pe_callB call_len_seq (by rfl) ml PySem.boot_len (pa_cons (pv 1) pa_nil)) (pe_op op_mod (pv 2) (pe_callB call_len_seq (by rfl) ml PySem.boot_len (pa_cons (pv 1) pa_nil)))))
    (pss_one (ps_ret (pe_tup (pa_cons (pe_slice Ts.sl (pv 0) po_none (po_some (pe_op op_sub (pe_callB call_len_seq (by rfl) ml PySem.boot_len (pa_cons (pv 0) pa_nil)) (pv 2))))
      (pa_cons (pe_op Ts.cat (pe_slice Ts.sl (pv 1) (po_some (pv 3)) po_none) (pe_slice Ts.sl (pv 1) po_none (po_some (pv 3)))) pa_nil))))), ?_⟩
  have hpos := len_pos hc
  have hmm := Nat.mod_lt m hpos
  refine ⟨_, rfl, r, _, rfl, .inr hr1, ?_⟩
  rw [List.length_map]
  refine ⟨_, rfl, _, rfl, r, _, rfl, .inr hr1, ?_⟩
  rw [List.length_map]
  refine ⟨_, _, rfl, rfl, by show (0 : Int) < (c.length : Int); omega, _, _, rfl, rfl, ?_⟩
  have e1 : (fun i j : Int => V.int (i - j)) (c.length : Int) ((m : Int) % (c.length : Int)) = V.int ((c.length - m % c.length : Nat) : Int) := by
    show V.int ((c.length : Int) - (m : Int) % (c.length : Int)) = _
    rw [← Int.natCast_emod]
    congr 1
    omega
  rw [e1]
  have ht : c.length - m % c.length ≤ c.length := by omega
  have hrt := rot_split (c := c) ht
  rw [rot_turn hc] at hrt
  generalize c.length - m % c.length = t at ht hrt
  refine ⟨_, rfl, _, rfl, p, _, rfl, .inr hp, ?_⟩
  rw [List.length_map]
  refine ⟨_, rfl, _, _, rfl, rfl, _, rfl, p, _, rfl, hp, fun p1 H1 s1 t1 => ?_⟩
  rw [show ((h.length : Nat) : Int) - ((m : Nat) : Int) = ((h.length - m : Nat) : Int) by omega, cut_to (by omega)] at t1
  refine ⟨_, rfl, _, rfl, _, rfl, r, _, rfl, Ts.same s1 hr1, fun p2 H2 s2 t2 => ?_⟩
  rw [cut_from ht] at t2
  refine ⟨_, rfl, _, rfl, _, rfl, r, _, rfl, Ts.same (s1.trans s2) hr1, fun p3 H3 s3 t3 => ?_⟩
  rw [cut_to ht] at t3
  refine ⟨p2, p3, _, _, rfl, rfl, Ts.same s3 t2, t3, le_line (by rw [List.length_map, List.length_map, List.length_drop, List.length_take]; omega), fun p4 H4 s4 t4 => ?_⟩
  rw [← List.map_append, hrt] at t4
  refine ⟨by show 2 ≤ sizeLine; decide, fun u hu => ?_⟩
  have s5 : Same H4 (upd H4 u (.tup [.ref p1, .ref p4])) := same_new hu _
  exact q (.ref u) _ ((((s1.trans s2).trans s3).trans s4).trans s5) ⟨u, .ref p1, .ref p4, rfl, upd_same, ⟨p1, rfl, Ts.same (((s2.trans s3).trans s4).trans s5) t1⟩, ⟨p4, rfl, Ts.same s5 t4⟩⟩
/-! ### settled -/
abbrev sSe : Stmt := top 4
abbrev nSe : List Str := ["head", "cycle", "many"]
theorem scSe : FnScope nSe ["head", "cycle"] (defScope sSe) := ⟨rfl, rfl, rfl, by decide +kernel, rfl, by decide +kernel, by decide +kernel⟩
def spSe (K : PySem.W.Frag) : Sp := fun vs H Q _ => ∃ (a b : Addr) (h c : BL), vs = [.ref a, .ref b] ∧ (SqL K H a (h.map V.bl) ∨ SqT K H a (h.map V.bl)) ∧ (SqL K H b (c.map V.bl) ∨ SqT K H b (c.map V.bl)) ∧ c ≠ [] ∧ c.length < 16 ∧ sc c ≠ [] ∧ h.length < 100000 ∧
  ∀ v' H', Same H H' → PA K H' v' (stl h c) → Q v' H'
theorem seq_same {H H' : Hp} {a : Addr} {xs : List V} (s : Same H H') (h : SqL K H a xs ∨ SqT K H a xs) : SqL K H' a xs ∨ SqT K H' a xs := h.elim (fun h => .inl (s.seq h)) fun h => .inr (Ts.same s h)
theorem ok_se {f fS fT : Addr} {fd fdS fdT : FuncData} (F : Fun K "settled" "settled" sSe f fd)
    (GS : FnOk P w K mg base CX0 2 fS fdS ["cycle"] (spSc K)) (bS : Binds K fdS ["cycle"] []) (kS : PySem.W.keepIn K (.ref fS) = true) (mS : mg "shortest_cycle" = some (.ref fS))
    (GT : FnOk P w K mg base CX0 1 fT fdT ["head", "cycle", "many"] (spTb K)) (bT : Binds K fdT ["head", "cycle", "many"] []) (kT : PySem.W.keepIn K (.ref fT) = true) (mT : mg "turned_back" = some (.ref fT))
    (ml : mg "len" = none) (mt : mg "tuple" = none) : FnOk P w K mg base CX0 3 f fd ["head", "cycle"] (spSe K) := by
  refine F.ok scSe (fun vs H Q E h => ?_) (fun cdv A outer s H vs Q E hr h => ?_)
  · obtain ⟨a, b, h, c, rfl, _⟩ := h
    rfl
  obtain ⟨a, b, h, c, rfl, ha, hb, hc, h16, hsc, hl, q⟩ := h
  have nd := scSe.nd
  refine ⟨_, pss_cons (ps_set (i := 0) nd rfl (.inl rfl) (pe_callTy Ts.tup (by rfl) mt (by decide +kernel) (pa_cons (pv 0) pa_nil)))
    (pss_cons (ps_set (i := 1) nd rfl (.inl rfl) (pe_call GS hr rfl mS kS bS .nil pass0 (pa_cons (pe_callTy Ts.tup (by rfl) mt (by decide +kernel) (pa_cons (pv 1) pa_nil)) pa_nil)))
    (pss_cons (ps_set (i := 2) nd rfl (.inl rfl) pe_int)
    (pss_cons (ps_while PassesOwn.never (PW.pt (pw_and (pt_cmpR op_lt (pv 2) (pe_callB call_len_seq (by rfl) ml PySem.boot_len (pa_cons (pv 0) pa_nil)) (nomark _))
        (pw_and1 (pt_cmpR op_eq (pe_ix ix_tup (pv 0) (pe_op op_sub (pe_un un_neg pe_int) (pv 2)) (fun _ _ => rfl))
          (pe_ix ix_tup (pv 1) (pe_op op_sub (pe_un un_neg pe_int) (pe_op op_mod (pv 2) (pe_callB call_len_seq (by rfl) ml PySem.boot_len (pa_cons (pv 1) pa_nil)))) (fun _ _ => rfl)) (nomark _)))))
      (pss_one (ps_aug (i := 2) nd rfl (.inl rfl) pe_int ip_add)))
    (pss_one (ps_ret (pe_call GT (hr.mono (by decide)) rfl mT kT bT .nil pass0 (pa_cons (pv 0) (pa_cons (pv 1) (pa_cons (pv 2) pa_nil))))))))), ?_⟩
  refine ⟨_, rfl, a, _, rfl, ha, fun p H1 s1 hp => ?_⟩
  refine ⟨_, rfl, b, _, rfl, seq_same s1 hb, fun p2 H2 s2 hp2 => ?_⟩
  refine ⟨.ref p2, c, rfl, ⟨p2, rfl, hp2⟩, hc, h16, fun v3 H3 s3 ⟨r, er, hr3⟩ => ?_⟩
  subst er
  have s13 := s2.trans s3
  have hp3 := Ts.same s13 hp
  have hpos := len_pos hsc
  have hml := mn_le h (sc c)
  refine ⟨fun m σ H' => ∃ j, j ≤ h.length ∧ m = h.length - j ∧ σ = [some (.ref p), some (.ref r), some (nV j)] ∧ H' = H3 ∧ mn h (sc c) = j + mny (sc c) (h.reverse.drop j) j, ⟨h.length, 0, by omega, rfl, rfl, rfl, by unfold mn; simp⟩, ?_⟩
  rintro m σ H' ⟨j, hj, rfl, rfl, rfl, hmn⟩
  refine ⟨_, rfl, _, rfl, p, _, rfl, .inr hp3, ?_⟩
  rw [List.length_map]
  refine ⟨_, _, rfl, rfl, _, rfl, ?_⟩
  have fin : mn h (sc c) = j → tRet (tCall (spTb K) [] E0 (tCons (tVar 0) (tCons (tVar 1) (tCons (tVar 2) tNil)))) { nx := fun _ H' => Q V.non H', rt := Q } [some (.ref p), some (.ref r), some (nV j)] H' := fun e => by
    refine ⟨_, rfl, _, rfl, _, rfl, .ref p, .ref r, h, sc c, j, rfl, ⟨p, rfl, hp3⟩, ⟨r, rfl, hr3⟩, hsc, ?_, hl, hj, fun v4 H4 s4 h4 => ?_⟩
    · have : (sc c).length ≤ c.length := by
        unfold sc
        rw [List.length_take]
        omega
      omega
    · rw [← e] at h4
      exact q v4 H4 ((s1.trans s13).trans s4) h4
  by_cases hlt : j < h.length
  · rw [show decide ((j : Int) < (h.length : Int)) = true from decide_eq_true (by omega)]
    have ed : h.reverse.drop j = h.getD (h.length - 1 - j) false :: h.reverse.drop (j + 1) := by
      rw [List.drop_eq_getElem_cons (by rw [List.length_reverse]; exact hlt)]
      congr 1
      rw [← getD_rev hlt, List.getD_eq_getElem?_getD, List.getElem?_eq_getElem (by rw [List.length_reverse]; exact hlt)]
      rfl
    rw [ed] at hmn
    have hmn' : mn h (sc c) = j + (if h.getD (h.length - 1 - j) false = cv (sc c) (-1 - (j : Int)) then mny (sc c) (h.reverse.drop (j + 1)) (j + 1) + 1 else 0) := hmn
    refine ⟨_, rfl, 1, rfl, _, rfl, _, _, rfl, rfl, p, _, _, _, rfl, rfl, hp3, at_back hlt, ?_⟩
    refine ⟨_, rfl, 1, rfl, _, rfl, _, rfl, r, _, rfl, .inr hr3, ?_⟩
    rw [List.length_map]
    refine ⟨_, _, rfl, rfl, by show (0 : Int) < ((sc c).length : Int); omega, _, _, rfl, rfl, ?_⟩
    have hmm := Nat.mod_lt j hpos
    refine ⟨r, _, -1 - ((j % (sc c).length : Nat) : Int), _, rfl, ?_, hr3, at_back hmm, rfl, _, rfl, ?_⟩
    · rw [Int.natCast_emod]
    rw [← cv_back hsc j, dec_bl]
    by_cases e : h.getD (h.length - 1 - j) false = cv (sc c) (-1 - (j : Int))
    · rw [if_pos e] at hmn'
      rw [show (h.getD (h.length - 1 - j) false == cv (sc c) (-1 - (j : Int))) = true by rw [e]; simp]
      refine ⟨fun σ H2 => σ = [some (.ref p), some (.ref r), some (nV (j + 1))] ∧ H2 = H', fun σ' H2 ⟨e1, e2⟩ => ⟨h.length - (j + 1), by omega, j + 1, by omega, rfl, e1, e2, by omega⟩, ?_⟩
      refine ⟨_, rfl, _, _, rfl, rfl, ?_, rfl⟩
      show _ = [_, _, some (V.int ((j + 1 : Nat) : Int))]
      rw [show ((j + 1 : Nat) : Int) = (j : Int) + 1 by omega]
      rfl
    · rw [if_neg e] at hmn'
      rw [show (h.getD (h.length - 1 - j) false == cv (sc c) (-1 - (j : Int))) = false by simpa using e]
      exact fin hmn'
  · rw [show decide ((j : Int) < (h.length : Int)) = false from decide_eq_false (by omega)]
    refine fin ?_
    have : j = h.length := by omega
    rw [this, List.drop_of_length_le (by simp)] at hmn
    rw [this]
    exact hmn
end
end Mw

namespace Mw
open PySem L2
theorem SqT.go {K : PySem.W.Frag} {B p : Addr} {H H' : Hp} {bs xs : List V} (hB : H B = some (.lst bs)) (g : Go B H H') (h : SqT K H p xs) : SqT K H' p xs := by
  rcases h with (h | ⟨o, h⟩) | h
  · exact Or.inl (Or.inl (g.ext _ _ (by rintro rfl; rw [hB] at h; cases h) h))
  · exact Or.inl (Or.inr ⟨o, g.ext _ _ (by rintro rfl; rw [hB] at h; cases h) h⟩)
  · exact Or.inr h
theorem TA.go {K : PySem.W.Frag} {B d : Addr} {H H' : Hp} {v : V} {bs : BL} (b : Box H B d) (g : Go B H H') (h : TA K H v bs) : TA K H' v bs := by
  obtain ⟨p, e, h1⟩ := h
  obtain ⟨ds, i, hB, _⟩ := b
  exact ⟨p, e, SqT.go hB g h1⟩
theorem PA.go {K : PySem.W.Frag} {B d : Addr} {H H' : Hp} {v : V} {x : BL × BL} (b : Box H B d) (g : Go B H H') (h : PA K H v x) : PA K H' v x := by
  obtain ⟨p, a1, a2, e, h1, h2, h3⟩ := h
  obtain ⟨ds, i, hB, _⟩ := id b
  exact ⟨p, a1, a2, e, g.ext _ _ (by rintro rfl; rw [hB] at h1; cases h1) h1, h2.go b g, h3.go b g⟩
section
variable {P : Program} {w : World} {K : PySem.W.Frag} {mg : Str → Option Value} {base : Heap}
/-! ### contains, _law_in -/
abbrev sCn : Stmt := top 5
abbrev nCn : List Str := ["one", "number", "head", "cycle"]
theorem scCn : FnScope nCn ["one", "number"] (defScope sCn) := ⟨rfl, rfl, rfl, by decide +kernel, rfl, by decide +kernel, by decide +kernel⟩
def spCn (K : PySem.W.Frag) : Sp := fun vs H Q _ => ∃ (v : V) (h c : BL) (n : Nat), vs = [v, nV n] ∧ PA K H v (h, c) ∧ c ≠ [] ∧ h.length < 100000 ∧ c.length < 100000 ∧ Q (.bl (sq h c n)) H
theorem at_cv {c : BL} (hc : c ≠ []) (i : Int) : atI (c.map V.bl) (i % (c.length : Int)) = some (.bl (cv c i)) := by
  have hp := len_pos hc
  have h0 : 0 ≤ i % (c.length : Int) := Int.emod_nonneg _ (by omega)
  have h1 : i % (c.length : Int) < c.length := Int.emod_lt_of_pos _ (by omega)
  have := at_bl (bs := c) (k := (i % (c.length : Int)).toNat) (by omega)
  rw [Int.toNat_of_nonneg h0] at this
  exact this
theorem ok_cn {f : Addr} {fd : FuncData} (F : Fun K "contains" "contains" sCn f fd) (ml : mg "len" = none) : FnOk P w K mg base CX0 1 f fd ["one", "number"] (spCn K) := by
  refine F.ok scCn (fun vs H Q E h => ?_) (fun cdv A outer s H vs Q E hr h => ?_)
  · obtain ⟨v, h, c, n, rfl, _⟩ := h
    rfl
  obtain ⟨v, h, c, n, rfl, ⟨u, a1, a2, rfl, hu, ⟨p, ep, hp⟩, ⟨r, er, hr1⟩⟩, hc, hl1, hl2, q⟩ := h
  subst ep er
  have nd := scCn.nd
  refine ⟨_, pss_cons (ps_asg (pv 0) (pg_tup rfl (pgs_cons (pg_name (i := 2) nd rfl (.inl rfl)) (pgs_cons (pg_name (i := 3) nd rfl (.inl rfl)) pgs_nil))))
    (pss_cons (ps_if (pt_cmpR op_lt (pv 1) pe_int (nomark _)) (pss_one (ps_ret pe_bl)) pss_nil)
    (pss_cons (ps_if (pt_cmpR op_lt (pv 1) (pe_callB call_len_seq (by rfl) ml PySem.boot_len (pa_cons (pv 2) pa_nil)) (nomark _)) (pss_one (ps_ret (pe_ix ix_tup (pv 2) (pv 1) (fun _ _ => rfl)))) pss_nil)
    (pss_one (ps_ret (pe_ix ix_tup (pv 3) (pe_op op_mod (pe_op op_sub (pv 1) (pe_callB call_len_seq (by rfl) ml PySem.boot_len (pa_cons (pv 2) pa_nil))) (pe_callB call_len_seq (by rfl) ml PySem.boot_len (pa_cons (pv 3) pa_nil))) (fun _ _ => rfl)))))), ?_⟩
  refine ⟨_, rfl, u, _, rfl, .inl (.inl hu), rfl, .ref p, _, rfl, .ref r, [], rfl, rfl, ?_⟩
  refine ⟨_, rfl, _, _, rfl, rfl, _, rfl, ?_⟩
  rw [show decide ((n : Int) < 0) = false from decide_eq_false (by omega)]
  refine ⟨_, rfl, _, rfl, p, _, rfl, .inr hp, ?_⟩
  rw [List.length_map]
  refine ⟨_, _, rfl, rfl, _, rfl, ?_⟩
  have hpos := len_pos hc
  by_cases hn : n < h.length
  · rw [show decide ((n : Int) < (h.length : Int)) = true from decide_eq_true (by omega)]
    rw [sq_lo hn] at q
    exact ⟨_, rfl, _, rfl, p, _, _, _, rfl, rfl, hp, at_bl hn, q⟩
  · rw [show decide ((n : Int) < (h.length : Int)) = false from decide_eq_false (by omega)]
    rw [sq_hi (by omega)] at q
    refine ⟨_, rfl, _, rfl, _, rfl, p, _, rfl, .inr hp, ?_⟩
    rw [List.length_map]
    refine ⟨_, _, rfl, rfl, _, rfl, r, _, rfl, .inr hr1, ?_⟩
    rw [List.length_map]
    exact ⟨_, _, rfl, rfl, by show (0 : Int) < (c.length : Int); omega, r, _, _, _, rfl, rfl, hr1, at_cv hc _, q⟩
abbrev sIn : Stmt := top 11
abbrev nIn : List Str := ["head", "cycle", "number"]
theorem scIn : FnScope nIn ["head", "cycle", "number"] (defScope sIn) := ⟨rfl, rfl, rfl, by decide +kernel, rfl, by decide +kernel, by decide +kernel⟩
def spIn (K : PySem.W.Frag) : Sp := fun vs H Q _ => ∃ (v1 v2 : V) (h c : BL) (n : Nat), vs = [v1, v2, nV n] ∧ TA K H v1 h ∧ TA K H v2 c ∧ c ≠ [] ∧ h.length < 100000 ∧ c.length < 100000 ∧ Q (.bl (sq h c n)) H
theorem ok_in {f : Addr} {fd : FuncData} (F : Fun K "_law_in" "_law_in" sIn f fd) (ml : mg "len" = none) (mi : mg "int" = none) : FnOk P w K mg base CX0 1 f fd ["head", "cycle", "number"] (spIn K) := by
  refine F.ok scIn (fun vs H Q E h => ?_) (fun cdv A outer s H vs Q E hr h => ?_)
  · obtain ⟨v, v2, h, c, n, rfl, _⟩ := h
    rfl
  obtain ⟨v, v2, h, c, n, rfl, ⟨p, rfl, hp⟩, ⟨r, rfl, hr1⟩, hc, hl1, hl2, q⟩ := h
  refine ⟨_, pss_cons (ps_if (pt_cmpR op_lt (pv 2) (pe_callB call_len_seq (by rfl) ml PySem.boot_len (pa_cons (pv 0) pa_nil)) (nomark _)) (pss_one (ps_ret (pe_ix ix_tup (pv 0) (pv 2) (fun _ _ => rfl)))) pss_nil)
    (pss_one (ps_ret (pe_ix ix_tup (pv 1) (pe_op op_mod (pe_callTy call_int1 (by rfl) mi (by decide +kernel) (pa_cons (pe_op op_sub (pv 2) (pe_callB call_len_seq (by rfl) ml PySem.boot_len (pa_cons (pv 0) pa_nil))) pa_nil)) (pe_callB call_len_seq (by rfl) ml PySem.boot_len (pa_cons (pv 1) pa_nil))) (fun _ _ => rfl)))), ?_⟩
  have hpos := len_pos hc
  refine ⟨_, rfl, _, rfl, p, _, rfl, .inr hp, ?_⟩
  rw [List.length_map]
  refine ⟨_, _, rfl, rfl, _, rfl, ?_⟩
  by_cases hn : n < h.length
  · rw [show decide ((n : Int) < (h.length : Int)) = true from decide_eq_true (by omega)]
    rw [sq_lo hn] at q
    exact ⟨_, rfl, _, rfl, p, _, _, _, rfl, rfl, hp, at_bl hn, q⟩
  · rw [show decide ((n : Int) < (h.length : Int)) = false from decide_eq_false (by omega)]
    rw [sq_hi (by omega)] at q
    refine ⟨_, rfl, _, rfl, _, rfl, p, _, rfl, .inr hp, ?_⟩
    rw [List.length_map]
    refine ⟨_, _, rfl, rfl, .inl ⟨_, rfl, _, rfl, r, _, rfl, .inr hr1, ?_⟩⟩
    rw [List.length_map]
    exact ⟨_, _, rfl, rfl, by show (0 : Int) < (c.length : Int); omega, r, _, _, _, rfl, rfl, hr1, at_cv hc _, q⟩
/-! ### _law_same -/
abbrev sSm : Stmt := top 13
abbrev nSm : List Str := ["head", "cycle", "one", "two", "number"]
theorem scSm : FnScope nSm ["head", "cycle", "one", "two"] (defScope sSm) := ⟨rfl, rfl, rfl, by decide +kernel, rfl, by decide +kernel, by decide +kernel⟩
def spSm (K : PySem.W.Frag) : Sp := fun vs H Q _ => ∃ (v1 v2 v3 v4 : V) (h c o t : BL), vs = [v1, v2, v3, v4] ∧ TA K H v1 h ∧ TA K H v2 c ∧ TA K H v3 o ∧ TA K H v4 t ∧ c ≠ [] ∧ t ≠ [] ∧ h.length < 100000 ∧ c.length < 100000 ∧ o.length < 100000 ∧ t.length < 100000 ∧ Q (.bl (smB h c o t)) H
theorem ok_sm {f fI : Addr} {fd fdI : FuncData} (F : Fun K "_law_same" "_law_same" sSm f fd)
    (GI : FnOk P w K mg base CX0 1 fI fdI ["head", "cycle", "number"] (spIn K)) (bI : Binds K fdI ["head", "cycle", "number"] []) (kI : PySem.W.keepIn K (.ref fI) = true) (mI : mg "_law_in" = some (.ref fI)) (mr : mg "range" = none) :
    FnOk P w K mg base CX0 2 f fd ["head", "cycle", "one", "two"] (spSm K) := by
  refine F.ok scSm (fun vs H Q E h => ?_) (fun cdv A outer s H vs Q E hr h => ?_)
  · obtain ⟨v1, v2, v3, v4, h, c, o, t, rfl, _⟩ := h
    rfl
  obtain ⟨v1, v2, v3, v4, h, c, o, t, rfl, h1, h2, h3, h4, hc, ht, l1, l2, l3, l4, q⟩ := h
  have nd := scSm.nd
  refine ⟨_, pss_cons (ps_for PassesOwn.never rfl (pi_range1 rfl mr (pa_cons pe_int pa_nil)) (pg_name (i := 4) nd rfl (.inl rfl))
      (pss_one (ps_if (pt_cmpR op_ne (pe_call GI hr rfl mI kI bI .nil pass0 (pa_cons (pv 0) (pa_cons (pv 1) (pa_cons (pv 4) pa_nil)))) (pe_call GI hr rfl mI kI bI .nil pass0 (pa_cons (pv 2) (pa_cons (pv 3) (pa_cons (pv 4) pa_nil)))) (nomark _))
        (pss_one (ps_ret pe_bl)) pss_nil)))
    (pss_one (ps_ret pe_bl)), ?_⟩
  refine ⟨60, rfl, by decide, by decide, for_range (lo := 0) (n := 60) (fun i σ H' => H' = H ∧ (∃ o4, σ = [some v1, some v2, some v3, some v4, o4]) ∧ ∀ k, k < i → sq h c k = sq o t k) ⟨rfl, ⟨_, rfl⟩, fun k hk => by omega⟩ ?_ ?_⟩
  · rintro i σ H' hi ⟨rfl, ⟨o4, rfl⟩, hk⟩
    refine ⟨_, rfl, _, rfl, _, rfl, v1, v2, h, c, i, by rw [Int.zero_add]; rfl, h1, h2, hc, l1, l2, ?_⟩
    refine ⟨_, rfl, _, rfl, _, rfl, v3, v4, o, t, i, by rw [Int.zero_add]; rfl, h3, h4, ht, l3, l4, rfl, _, rfl, ?_⟩
    rw [dec_bl]
    by_cases e : sq h c i = sq o t i
    · rw [show (!(sq h c i == sq o t i)) = false by rw [e]; simp]
      refine ⟨rfl, ⟨_, rfl⟩, fun k hk' => ?_⟩
      by_cases z : k = i
      · rw [z]; exact e
      · exact hk k (by omega)
    · rw [show (!(sq h c i == sq o t i)) = true by simpa using e]
      have : smB h c o t = false := by
        rw [Bool.eq_false_iff]
        intro z
        have := List.all_eq_true.mp z i (List.mem_range.mpr (by omega))
        exact e (by simpa using this)
      rw [this] at q
      exact q
  · rintro σ H' ⟨rfl, ⟨o4, rfl⟩, hk⟩
    have : smB h c o t = true := List.all_eq_true.mpr fun k hk' => by simpa using hk k (List.mem_range.mp hk')
    rw [this] at q
    exact q
end
end Mw

namespace Mw
open PySem L2
def rLn (K : PySem.W.Frag) : List V → Hp → VK → Prop := fun xs H Q => ∃ p ys, xs = [.ref p] ∧ (SqL K H p ys ∨ SqT K H p ys) ∧ Q (.int ys.length) H
def tAdd (ta tb : TE) : TE := tOp (rI0 fun i j => V.int (i + j)) ta tb
theorem take_row {h c : BL} {s : Nat} (hs : s ≤ h.length) : ((List.range s).map fun (k : Nat) => sq h c k) = h.take s := by
  refine List.ext_getElem (by simp; omega) fun k k1 k2 => ?_
  have k3 : k < s := by simpa using k1
  simp only [List.getElem_map, List.getElem_range, List.getElem_take]
  rw [sq_lo (by omega), List.getD_eq_getElem?_getD, List.getElem?_eq_getElem (by omega)]
  rfl
theorem row_cv {h c : BL} (n : Nat) : ((List.range n).map fun (k : Nat) => sq h c (h.length + k)) = (List.range n).map fun (k : Nat) => cv c (k : Int) :=
  List.map_congr_left fun k _ => by
    rw [sq_hi (by omega)]
    congr 1
    omega
theorem range_snoc (n : Nat) (g : Nat → V) : (List.range (n + 1)).map g = (List.range n).map g ++ [g n] := by
  rw [List.range_succ, List.map_append]
  rfl
section
variable {P : Program} {w : World} {K : PySem.W.Frag} {mg : Str → Option Value} {base : Heap}
/-! ### _law_row -/
abbrev sRow : Stmt := top 10
abbrev nRow : List Str := ["box", "most", "k"]
theorem scRow : FnScope nRow ["box", "most"] (defScope sRow) := ⟨rfl, rfl, rfl, by decide +kernel, rfl, by decide +kernel, by decide +kernel⟩
def spRow (K : PySem.W.Frag) : Sp := fun vs H Q _ => ∃ (B d : Addr) (n : Int), vs = [.ref B, .int n] ∧ 0 < n ∧ n < 1000 ∧ Box H B d ∧ ∀ v bs H', Go B H H' → Box H' B d → (bs.length : Int) < n → TA K H' v bs → Q v H'
theorem ok_row {f fD : Addr} {fd fdD : FuncData} (F : Fun K "_law_row" "_law_row" sRow f fd)
    (GD : FnOk P w K mg base CX0 1 fD fdD ["box", "many"] spDraw) (bD : Binds K fdD ["box", "many"] []) (kD : PySem.W.keepIn K (.ref fD) = true) (mD : mg "_law_draw" = some (.ref fD)) (mr : mg "range" = none) (mt : mg "tuple" = none) :
    FnOk P w K mg base CX0 2 f fd ["box", "most"] (spRow K) := by
  refine F.ok scRow (fun vs H Q E h => ?_) (fun cdv A outer s H vs Q E hr h => ?_)
  · obtain ⟨B, d, n, rfl, _⟩ := h
    rfl
  obtain ⟨B, d, n, rfl, h0, h1, hb, q⟩ := h
  have nd := scRow.nd
  refine ⟨_, pss_one (ps_ret (pe_callTy Ts.tup (by rfl) mt (by decide +kernel) (pa_cons
      (pe_lc (own := [("k", 2)]) (g := gName 2) (tt := tYes) (te := tOp rEq (tCall spDraw [] E0 (tCons (tVar 0) (tCons (tC (.int 2)) tNil))) (tC (.int 0))) rfl nd (pi_range1 rfl mr (pa_cons (pe_call GD hr rfl mD kD bD .nil pass0 (pa_cons (pv 0) (pa_cons (pv 1) pa_nil))) pa_nil)) (blkOk_by (N := nRow) (sc := defScope sRow) (by decide +kernel))
        (fun _ _ _ _ _ => pg_name (i := 2) nd rfl (.inl rfl)) (fun _ _ _ _ _ => pts_nil)
        (fun _ _ _ _ _ => pe_cmpR op_eq (pe_call GD hr rfl mD kD bD .nil pass0 (pa_cons (pv 0) (pa_cons pe_int pa_nil))) pe_int (nomark _))) pa_nil))), ?_⟩
  refine ⟨_, rfl, _, rfl, B, d, n, rfl, h0, hb, fun z H1 z0 z1 g1 b1 => ⟨z, rfl, by omega, by omega, fun D hD => ?_⟩⟩
  have DB := b1.neB hD
  have Dd := b1.neD hD
  refine lc_range (lo := 0) (n := z.toNat) (fun j H' => ∃ bs : BL, Go B H1 H' ∧ Box H' B d ∧ H' D = some (.lst (bs.map V.bl)) ∧ bs.length = j) ⟨[], Go.new hD _, b1.new hD _, upd_same, rfl⟩ ?_ ?_
  · rintro j H2 hj ⟨bs, g2, b2, hD2, hl⟩
    refine ⟨rfl, _, rfl, B, d, 2, rfl, by decide, b2, fun y H3 y0 y1 g3 b3 => ⟨rfl, ?_⟩⟩
    refine ⟨_, g3.ext _ _ DB hD2, sz_line (by rw [List.length_map]; omega), bs ++ [decide (V.int y = V.int 0)], (g2.trans g3).mut hD _, b3.mut DB Dd _, ?_, by rw [List.length_append, hl]; rfl⟩
    rw [upd_same, List.map_append]
    rfl
  · rintro H2 ⟨bs, g2, b2, hD2, hl⟩
    refine ⟨D, _, rfl, .inl (SqL.of hD2), fun p H3 s3 hp => ?_⟩
    exact q (.ref p) bs H3 ((g1.trans g2).trans (Go.same s3)) (b2.same s3) (by omega) ⟨p, rfl, hp⟩
/-! ### _law_far -/
abbrev sFar : Stmt := top 12
theorem scFar : FnScope ["box"] ["box"] (defScope sFar) := ⟨rfl, rfl, rfl, by decide +kernel, rfl, by decide +kernel, by decide +kernel⟩
def spFar : Sp := fun vs H Q _ => ∃ (B d : Addr), vs = [.ref B] ∧ Box H B d ∧ ∀ (z : Nat) H', Go B H H' → Box H' B d → Q (nV z) H'
theorem ok_far {f fD : Addr} {fd fdD : FuncData} (F : Fun K "_law_far" "_law_far" sFar f fd)
    (GD : FnOk P w K mg base CX0 1 fD fdD ["box", "many"] spDraw) (bD : Binds K fdD ["box", "many"] []) (kD : PySem.W.keepIn K (.ref fD) = true) (mD : mg "_law_draw" = some (.ref fD)) :
    FnOk P w K mg base CX0 2 f fd ["box"] spFar := by
  refine F.ok scFar (fun vs H Q E h => ?_) (fun cdv A outer s H vs Q E hr h => ?_)
  · obtain ⟨B, d, rfl, _⟩ := h
    rfl
  obtain ⟨B, d, rfl, hb, q⟩ := h
  refine ⟨_, pss_one (ps_ret (pe_ix ix_list (pe_lst (pa_cons (pe_call GD hr rfl mD kD bD .nil pass0 (pa_cons (pv 0) (pa_cons pe_int pa_nil)))
    (pa_cons (pe_call GD hr rfl mD kD bD .nil pass0 (pa_cons (pv 0) (pa_cons pe_int pa_nil)))
    (pa_cons (pe_op op_add (pe_op op_mul (pe_call GD hr rfl mD kD bD .nil pass0 (pa_cons (pv 0) (pa_cons pe_int pa_nil))) pe_int) (pe_call GD hr rfl mD kD bD .nil pass0 (pa_cons (pv 0) (pa_cons pe_int pa_nil)))) pa_nil))))
    (pe_call GD hr rfl mD kD bD .nil pass0 (pa_cons (pv 0) (pa_cons pe_int pa_nil))) (fun _ _ => rfl))), ?_⟩
  refine ⟨_, rfl, B, d, 40, rfl, by decide, hb, fun a H1 a0 a1 g1 b1 => ?_⟩
  refine ⟨_, rfl, B, d, 1000, rfl, by decide, b1, fun b H2 b0 b1' g2 b2 => ?_⟩
  refine ⟨_, rfl, B, d, 1000, rfl, by decide, b2, fun c H3 c0 c1 g3 b3 => ?_⟩
  refine ⟨_, _, rfl, rfl, .inr (by decide), ?_⟩
  refine ⟨_, rfl, B, d, 1000, rfl, by decide, b3, fun e H4 e0 e1 g4 b4 => ?_⟩
  refine ⟨_, _, rfl, rfl, ?_⟩
  refine ⟨by show 3 ≤ sizeLine; decide, fun l hl => ?_⟩
  have nB := b4.neB hl
  refine ⟨_, rfl, B, d, 3, rfl, by decide, b4.new hl _, fun z H5 z0 z1 g5 b5 => ?_⟩
  obtain ⟨x, hx, hat⟩ := pick (l := ([a, b, c * 1000000007 + e] : List Int)) (g := V.int) (z := z) z0 (by show z < ((3 : Nat) : Int); omega)
  refine ⟨l, _, z, .int x, rfl, rfl, SqL.of (g5.ext _ _ nB upd_same), hat, ?_⟩
  have h3 : 0 ≤ c * 1000000007 + e := by omega
  have hx0 : 0 ≤ x := by
    simp only [List.mem_cons, List.not_mem_nil, or_false] at hx
    rcases hx with rfl | rfl | rfl
    · exact a0
    · exact b0
    · exact h3
  have := q x.toNat H5 (((((g1.trans g2).trans g3).trans g4).trans (Go.new hl _)).trans g5) b5
  unfold nV at this
  rw [Int.toNat_of_nonneg hx0] at this
  exact this
/-! ### _law_shortest -/
abbrev sSh : Stmt := top 14
abbrev nSh : List Str := ["head", "cycle", "length", "row", "size", "other", "turned", "k"]
theorem scSh : FnScope nSh ["head", "cycle"] (defScope sSh) := ⟨rfl, rfl, rfl, by decide +kernel, rfl, by decide +kernel, by decide +kernel⟩
def spSh (K : PySem.W.Frag) : Sp := fun vs H Q _ => ∃ (v1 v2 : V) (h c : BL), vs = [v1, v2] ∧ TA K H v1 h ∧ TA K H v2 c ∧ Cy c ∧ h.length ≤ 6 ∧ ∀ v' H', Same H H' → PA K H' v' (stl h c) → Q v' H'
theorem ok_sh {f fI fS : Addr} {fd fdI fdS : FuncData} (F : Fun K "_law_shortest" "_law_shortest" sSh f fd)
    (GI : FnOk P w K mg base CX0 1 fI fdI ["head", "cycle", "number"] (spIn K)) (bI : Binds K fdI ["head", "cycle", "number"] []) (kI : PySem.W.keepIn K (.ref fI) = true) (mI : mg "_law_in" = some (.ref fI))
    (GS : FnOk P w K mg base CX0 2 fS fdS ["head", "cycle", "one", "two"] (spSm K)) (bS : Binds K fdS ["head", "cycle", "one", "two"] []) (kS : PySem.W.keepIn K (.ref fS) = true) (mS : mg "_law_same" = some (.ref fS))
    (mr : mg "range" = none) (mt : mg "tuple" = none) (ml : mg "len" = none) :
    FnOk P w K mg base CX0 3 f fd ["head", "cycle"] (spSh K) := by
  refine F.ok scSh (fun vs H Q E h => ?_) (fun cdv A outer s H vs Q E hr h => ?_)
  · obtain ⟨v1, v2, h, c, rfl, _⟩ := h
    rfl
  obtain ⟨v1, v2, h, c, rfl, ⟨p, rfl, hp⟩, ⟨r, rfl, hr1⟩, hc, h6, q⟩ := h
  have nd := scSh.nd
  refine ⟨_, pss_cons (ps_for PassesOwn.never rfl (pi_range2 rfl mr (pa_cons pe_int (pa_cons (pe_op op_add (pe_callB call_len_seq (by rfl) ml PySem.boot_len (pa_cons (pv 1) pa_nil)) pe_int) pa_nil))) (pg_name (i := 2) nd rfl (.inr rfl))
      (pss_cons (ps_set (i := 3) nd rfl (.inl rfl) (pe_callTy Ts.tup (by rfl) mt (by decide +kernel) (pa_cons
          (pe_lc (own := [("k", 7)]) (g := gName 7) (tt := tYes) (te := tCall (spIn K) [] E0 (tCons (tVar 0) (tCons (tVar 1) (tCons (tAdd (tCB (rLn K) (tCons (tVar 0) tNil)) (tVar 7)) tNil)))) rfl nd (pi_range1 rfl mr (pa_cons (pv 2) pa_nil)) (blkOk_by (N := nSh) (sc := defScope sSh) (by decide +kernel))
            (fun _ _ _ _ _ => pg_name (i := 7) nd rfl (.inl rfl)) (fun _ _ _ _ _ => pts_nil)
            (fun _ _ _ _ _ => pe_call GI (hr.mono (by decide)) rfl mI kI bI .nil pass0 (pa_cons (pv 0) (pa_cons (pv 1) (pa_cons (pe_op op_add (pe_callB call_len_seq (by rfl) ml PySem.boot_len (pa_cons (pv 0) pa_nil)) (pv 7)) pa_nil))))) pa_nil)))
      (pss_one (ps_if (pt_val (pe_call GS hr rfl mS kS bS .nil pass0 (pa_cons (pe_tup pa_nil) (pa_cons (pv 1) (pa_cons (pe_tup pa_nil) (pa_cons (pe_op Ts.rep (pv 3) (pe_callB call_len_seq (by rfl) ml PySem.boot_len (pa_cons (pv 1) pa_nil))) pa_nil))))))
        (pss_one (ps_for PassesOwn.never rfl (pi_range1 rfl mr (pa_cons (pe_op op_add (pe_callB call_len_seq (by rfl) ml PySem.boot_len (pa_cons (pv 0) pa_nil)) pe_int) pa_nil)) (pg_name (i := 4) nd rfl (.inr rfl))
          (pss_cons (ps_set (i := 5) nd rfl (.inl rfl) (pe_callTy Ts.tup (by rfl) mt (by decide +kernel) (pa_cons
              (pe_lc (own := [("k", 7)]) (g := gName 7) (tt := tYes) (te := tCall (spIn K) [] E0 (tCons (tVar 0) (tCons (tVar 1) (tCons (tVar 7) tNil)))) rfl nd (pi_range1 rfl mr (pa_cons (pv 4) pa_nil)) (blkOk_by (N := nSh) (sc := defScope sSh) (by decide +kernel))
                (fun _ _ _ _ _ => pg_name (i := 7) nd rfl (.inl rfl)) (fun _ _ _ _ _ => pts_nil)
                (fun _ _ _ _ _ => pe_call GI (hr.mono (by decide)) rfl mI kI bI .nil pass0 (pa_cons (pv 0) (pa_cons (pv 1) (pa_cons (pv 7) pa_nil))))) pa_nil)))
          (pss_cons (ps_set (i := 6) nd rfl (.inl rfl) (pe_callTy Ts.tup (by rfl) mt (by decide +kernel) (pa_cons
              (pe_lc (own := [("k", 7)]) (g := gName 7) (tt := tYes) (te := tCall (spIn K) [] E0 (tCons (tVar 0) (tCons (tVar 1) (tCons (tAdd (tAdd (tVar 4) (tOp (rI CMul fun i j => V.int (i * j)) (tVar 2) (tC (.int 20)))) (tVar 7)) tNil)))) rfl nd (pi_range1 rfl mr (pa_cons (pv 2) pa_nil)) (blkOk_by (N := nSh) (sc := defScope sSh) (by decide +kernel))
                (fun _ _ _ _ _ => pg_name (i := 7) nd rfl (.inl rfl)) (fun _ _ _ _ _ => pts_nil)
                (fun _ _ _ _ _ => pe_call GI (hr.mono (by decide)) rfl mI kI bI .nil pass0 (pa_cons (pv 0) (pa_cons (pv 1) (pa_cons (pe_op op_add (pe_op op_add (pv 4) (pe_op op_mul (pv 2) pe_int)) (pv 7)) pa_nil))))) pa_nil)))
          (pss_one (ps_if (pt_val (pe_call GS hr rfl mS kS bS .nil pass0 (pa_cons (pv 0) (pa_cons (pv 1) (pa_cons (pv 5) (pa_cons (pv 6) pa_nil)))))) (pss_one (ps_ret (pe_tup (pa_cons (pv 5) (pa_cons (pv 6) pa_nil))))) pss_nil)))))) pss_nil))))
    (pss_one (ps_ret pe_non)), ?_⟩
  obtain ⟨S, hno, hyes⟩ := sh_of hc
  have hpos := len_pos hc.1
  have hpos' := len_pos S.nc'
  have hle := S.le
  have h5 := hc.2
  refine ⟨_, rfl, r, _, rfl, .inr hr1, ?_⟩
  rw [List.length_map]
  refine ⟨_, _, rfl, rfl, 1, _, rfl, ⟨by decide, by decide, by omega, by omega⟩, ?_⟩
  rw [show ((c.length : Int) + 1 - 1).toNat = c.length by omega]
  refine for_range (lo := 1) (n := c.length) (fun i σ H' => Same H H' ∧ i < (sc c).length ∧ ∃ o2 o3 o4 o5 o6 o7, σ = [some (.ref p), some (.ref r), o2, o3, o4, o5, o6, o7]) ⟨Same.refl _, hpos', ⟨_, _, _, _, _, _, rfl⟩⟩ ?_ (fun σ H' ⟨_, hlt, _⟩ => by omega)
  rintro i σ H1 hi ⟨s1, hlt, o2, o3, o4, o5, o6, o7, rfl⟩
  have e1i : (1 : Int) + (i : Int) = ((i + 1 : Nat) : Int) := by omega
  rw [e1i]
  have hp1 := Ts.same s1 hp
  have hr2 := Ts.same s1 hr1
  -- the row
  refine ⟨_, rfl, ((i + 1 : Nat) : Int), rfl, by omega, by omega, fun D hD => ?_⟩
  rw [Int.toNat_natCast]
  refine lc_range (lo := 0) (n := i + 1) (fun j H' => Same H1 H' ∧ H' D = some (.lst ((List.range j).map fun k => V.bl (sq h c (h.length + k))))) ⟨same_new hD _, upd_same⟩ ?_ ?_
  · rintro j H2 hj ⟨s2, hD2⟩
    refine ⟨rfl, _, rfl, _, rfl, _, rfl, p, _, rfl, .inr (Ts.same s2 hp1), ?_⟩
    rw [List.length_map]
    refine ⟨_, rfl, _, _, rfl, rfl, ?_⟩
    refine ⟨.ref p, .ref r, h, c, h.length + j, ?_, ⟨p, rfl, Ts.same s2 hp1⟩, ⟨r, rfl, Ts.same s2 hr2⟩, hc.1, by omega, by omega, ?_⟩
    · show [V.ref p, V.ref r, V.int ((h.length : Int) + (0 + (j : Int)))] = [V.ref p, V.ref r, V.int ((h.length + j : Nat) : Int)]
      rw [Int.zero_add, Int.natCast_add]
    refine ⟨_, hD2, sz_line (by rw [List.length_map, List.length_range]; omega), same_mut s2 hD _, ?_⟩
    rw [upd_same, range_snoc]
  rintro H2 ⟨s2, hD2⟩
  refine ⟨D, _, rfl, .inl (SqL.of hD2), fun p3 H3 s3 hrow => ?_⟩
  have s13 := s2.trans s3
  have e3 : ((List.range (i + 1)).map fun k => V.bl (sq h c (h.length + k))) = ((List.range (i + 1)).map fun (k : Nat) => cv c (k : Int)).map V.bl := by
    rw [← row_cv (h := h), List.map_map]
    rfl
  rw [e3] at hrow
  have hp3 := Ts.same s13 hp1
  have hr3 := Ts.same s13 hr2
  -- is it long enough
  refine ⟨Nat.zero_le _, fun u1 hu1 => ?_⟩
  have t1 : Same H3 (upd H3 u1 (.tup [])) := same_new hu1 _
  refine ⟨_, rfl, Nat.zero_le _, fun u2 hu2 => ?_⟩
  have t2 : Same (upd H3 u1 (.tup [])) (upd (upd H3 u1 (.tup [])) u2 (.tup [])) := same_new hu2 _
  refine ⟨_, rfl, _, rfl, r, _, rfl, .inr (Ts.same (t1.trans t2) hr3), ?_⟩
  rw [List.length_map]
  refine ⟨p3, _, _, rfl, rfl, Ts.same (t1.trans t2) hrow, by simp, by omega, by omega, by rw [List.length_map, List.length_map, List.length_range]; omega, fun p4 H4 s4 hrep => ?_⟩
  have hrep' : SqT K H4 p4 ((rep c.length ((List.range (i + 1)).map fun (k : Nat) => cv c (k : Int))).map V.bl) := by
    unfold rep
    rw [List.map_flatten, List.map_replicate]
    rw [Int.toNat_natCast] at hrep
    exact hrep
  have hrl : (rep c.length ((List.range (i + 1)).map fun (k : Nat) => cv c (k : Int))).length = c.length * (i + 1) := by
    unfold rep
    rw [List.length_flatten]
    simp
  have hrl2 : c.length * (i + 1) ≤ 5 * 5 := Nat.mul_le_mul h5 (by omega)
  have hrl3 : 1 ≤ c.length * (i + 1) := Nat.mul_le_mul hpos (by omega : 1 ≤ i + 1)
  have s34 := (t1.trans t2).trans s4
  refine ⟨.ref u1, .ref r, .ref u2, .ref p4, [], c, [], _, rfl, ⟨u1, rfl, SqT.of (s4 _ _ (t2 _ _ upd_same))⟩, ⟨r, rfl, Ts.same s34 hr3⟩, ⟨u2, rfl, SqT.of (s4 _ _ upd_same)⟩, ⟨p4, rfl, hrep'⟩, hc.1, (fun z => by rw [z] at hrl; simp at hrl; omega), by simp, by omega, by simp, by omega, _, rfl, ?_⟩
  have sH4 := (s1.trans s13).trans s34
  by_cases hip : i + 1 < (sc c).length
  · rw [hno (i + 1) (by omega) hip]
    exact ⟨sH4, hip, ⟨_, _, _, _, _, _, rfl⟩⟩
  have hpi : (sc c).length = i + 1 := by omega
  rw [hpi] at hyes
  rw [hyes]
  have hp4 := Ts.same s34 hp3
  have hr4 := Ts.same s34 hr3
  have hml := mn_le h (sc c)
  refine ⟨_, rfl, p, _, rfl, .inr hp4, ?_⟩
  rw [List.length_map]
  refine ⟨_, _, rfl, rfl, (h.length : Int) + 1, rfl, by omega, by omega, ?_⟩
  rw [show ((h.length : Int) + 1).toNat = h.length + 1 by omega]
  refine for_range (lo := 0) (n := h.length + 1) (fun z σ H' => Same H4 H' ∧ z ≤ h.length - mn h (sc c) ∧ ∃ o4 o5 o6 o7, σ = [some (.ref p), some (.ref r), some (nV (i + 1)), some (.ref p3), o4, o5, o6, o7]) ⟨Same.refl _, Nat.zero_le _, ⟨_, _, _, _, rfl⟩⟩ ?_ (fun σ H' ⟨_, hlt, _⟩ => by omega)
  rintro z σ H5 hz ⟨s5, hzl, y4, y5, y6, y7, rfl⟩
  rw [Int.zero_add]
  have hp5 := Ts.same s5 hp4
  have hr5 := Ts.same s5 hr4
  -- other
  refine ⟨_, rfl, (z : Int), rfl, by omega, by omega, fun D6 hD6 => ?_⟩
  rw [Int.toNat_natCast]
  refine lc_range (lo := 0) (n := z) (fun j H' => Same H5 H' ∧ H' D6 = some (.lst ((List.range j).map fun k => V.bl (sq h c k)))) ⟨same_new hD6 _, upd_same⟩ ?_ ?_
  · rintro j H6 hj ⟨s6, hD6'⟩
    refine ⟨rfl, _, rfl, _, rfl, _, rfl, .ref p, .ref r, h, c, j, ?_, ⟨p, rfl, Ts.same s6 hp5⟩, ⟨r, rfl, Ts.same s6 hr5⟩, hc.1, by omega, by omega, ?_⟩
    · show [V.ref p, V.ref r, V.int (0 + (j : Int))] = [V.ref p, V.ref r, V.int ((j : Nat) : Int)]
      rw [Int.zero_add]
    refine ⟨_, hD6', sz_line (by rw [List.length_map, List.length_range]; omega), same_mut s6 hD6 _, ?_⟩
    rw [upd_same, range_snoc]
  rintro H6 ⟨s6, hD6'⟩
  refine ⟨D6, _, rfl, .inl (SqL.of hD6'), fun p7 H7 s7 hoth => ?_⟩
  have e7 : ((List.range z).map fun k => V.bl (sq h c k)) = (h.take z).map V.bl := by
    rw [← take_row (c := c) (by omega), List.map_map]
    rfl
  rw [e7] at hoth
  have s57 := s6.trans s7
  have hp7 := Ts.same s57 hp5
  have hr7 := Ts.same s57 hr5
  -- turned
  refine ⟨_, rfl, ((i + 1 : Nat) : Int), rfl, by omega, by omega, fun D8 hD8 => ?_⟩
  rw [Int.toNat_natCast]
  refine lc_range (lo := 0) (n := i + 1) (fun j H' => Same H7 H' ∧ H' D8 = some (.lst ((List.range j).map fun k => V.bl (sq h c (z + (i + 1) * 20 + k))))) ⟨same_new hD8 _, upd_same⟩ ?_ ?_
  · rintro j H8 hj ⟨s8, hD8'⟩
    refine ⟨rfl, _, rfl, _, rfl, _, rfl, _, rfl, _, _, rfl, rfl, .inr (by decide), _, _, rfl, rfl, _, rfl, _, _, rfl, rfl, ?_⟩
    refine ⟨.ref p, .ref r, h, c, z + (i + 1) * 20 + j, ?_, ⟨p, rfl, Ts.same s8 hp7⟩, ⟨r, rfl, Ts.same s8 hr7⟩, hc.1, by omega, by omega, ?_⟩
    · show [V.ref p, V.ref r, V.int ((z : Int) + ((i + 1 : Nat) : Int) * 20 + (0 + (j : Int)))] = [V.ref p, V.ref r, V.int ((z + (i + 1) * 20 + j : Nat) : Int)]
      rw [show (z : Int) + ((i + 1 : Nat) : Int) * 20 + (0 + (j : Int)) = ((z + (i + 1) * 20 + j : Nat) : Int) by omega]
    refine ⟨_, hD8', sz_line (by rw [List.length_map, List.length_range]; omega), same_mut s8 hD8 _, ?_⟩
    rw [upd_same, range_snoc]
  rintro H8 ⟨s8, hD8'⟩
  refine ⟨D8, _, rfl, .inl (SqL.of hD8'), fun p9 H9 s9 htur => ?_⟩
  have e9 : ((List.range (i + 1)).map fun k => V.bl (sq h c (z + (i + 1) * 20 + k))) = (rot (sc c) ((z : Int) - (h.length : Int))).map V.bl := by
    rw [← turned_eq S (by omega), List.map_map, hpi]
    rfl
  rw [e9] at htur
  have s79 := s8.trans s9
  have hoth9 := Ts.same s79 hoth
  refine ⟨_, rfl, _, rfl, _, rfl, _, rfl, .ref p, .ref r, .ref p7, .ref p9, h, c, h.take z, rot (sc c) ((z : Int) - (h.length : Int)), rfl, ⟨p, rfl, Ts.same s79 hp7⟩, ⟨r, rfl, Ts.same s79 hr7⟩, ⟨p7, rfl, hoth9⟩, ⟨p9, rfl, htur⟩, hc.1, rot_ne S.nc', by omega, by omega, by rw [List.length_take]; omega, by rw [rot_len]; omega, _, rfl, ?_⟩
  by_cases hzz : z < h.length - mn h (sc c)
  · rw [find_no S (by omega) hzz]
    exact ⟨(s5.trans s57).trans s79, by omega, ⟨_, _, _, _, rfl⟩⟩
  have hze : z = h.length - mn h (sc c) := by omega
  have hzi : (z : Int) - (h.length : Int) = -(mn h (sc c) : Int) := by omega
  rw [hzi] at htur ⊢
  have hy := find_yes S (h := h)
  rw [← hze] at hy
  rw [hy]
  refine ⟨_, rfl, _, rfl, by show 2 ≤ sizeLine; decide, fun u hu => ?_⟩
  have sz9 : Same H9 (upd H9 u (.tup [.ref p7, .ref p9])) := same_new hu _
  refine q (.ref u) _ ((sH4.trans ((s5.trans s57).trans s79)).trans sz9) ⟨u, .ref p7, .ref p9, rfl, upd_same, ⟨p7, rfl, ?_⟩, ⟨p9, rfl, Ts.same sz9 htur⟩⟩
  have := Ts.same sz9 hoth9
  rw [hze] at this
  exact this
end
end Mw

namespace Mw
open PySem L2
theorem stl_ne {h c : BL} (hc : Cy c) : (stl h c).2 ≠ [] := rot_ne (sh_of hc).1.nc'
theorem row_rot {h c : BL} (e : Nat) : ((List.range c.length).map fun (k : Nat) => sq h c ((h ++ ext h c e).length + k)) = rot c (e : Int) := by
  unfold rot
  refine List.map_congr_left fun k _ => ?_
  rw [List.length_append, ext_len, sq_hi (by omega)]
  congr 1
  omega
theorem sc_row_ne {h c : BL} (hc : Cy c) {e m : Nat} (he : e < 9) (hm : m < 3) : sc (rep (m + 1) ((List.range c.length).map fun (k : Nat) => sq h c ((h ++ ext h c e).length + k))) ≠ [] := by
  have hf := List.all_eq_true.mp (List.all_eq_true.mp (List.all_eq_true.mp allBB c hc.mem) e (List.mem_range.mpr he)) m (List.mem_range.mpr hm)
  rw [beq_iff_eq] at hf
  rw [row_rot, hf]
  exact rot_ne (sh_of hc).1.nc'
theorem rep_len (m : Nat) (l : BL) : (rep m l).length = m * l.length := by
  unfold rep
  rw [List.length_flatten]
  simp
section
variable {P : Program} {w : World} {K : PySem.W.Frag} {mg : Str → Option Value} {base : Heap}
abbrev sLaw : Stmt := top 15
abbrev nLaw : List Str := ["script", "box", "turn", "head", "cycle", "told", "longer", "row", "number", "k"]
theorem scLaw : FnScope nLaw ["script"] (defScope sLaw) := ⟨rfl, rfl, rfl, by decide +kernel, rfl, by decide +kernel, by decide +kernel⟩
def spLaw (K : PySem.W.Frag) : Sp := fun vs H Q _ => ∃ (a : Addr) (ns : List Int), vs = [.ref a] ∧ SqL K H a (ns.map V.int) ∧ ∀ H', Q (.bl true) H'
theorem ok_law {f fG fW fD fE fS fI fF fC : Addr} {fd fdG fdW fdD fdE fdS fdI fdF fdC : FuncData} (F : Fun K "law" "law" sLaw f fd)
    (gG : FnOk P w K mg base CX0 2 fG fdG ["script", "first", "last"] (spDigits K)) (bG : Binds K fdG ["script", "first", "last"] []) (kG : PySem.W.keepIn K (.ref fG) = true) (mG : mg "_law_digits" = some (.ref fG))
    (gW : FnOk P w K mg base CX0 2 fW fdW ["box", "most"] (spRow K)) (bW : Binds K fdW ["box", "most"] []) (kW : PySem.W.keepIn K (.ref fW) = true) (mW : mg "_law_row" = some (.ref fW))
    (gD : FnOk P w K mg base CX0 1 fD fdD ["box", "many"] spDraw) (bD : Binds K fdD ["box", "many"] []) (kD : PySem.W.keepIn K (.ref fD) = true) (mD : mg "_law_draw" = some (.ref fD))
    (gE : FnOk P w K mg base CX0 3 fE fdE ["head", "cycle"] (spSe K)) (bE : Binds K fdE ["head", "cycle"] []) (kE : PySem.W.keepIn K (.ref fE) = true) (mE : mg "settled" = some (.ref fE))
    (gS : FnOk P w K mg base CX0 3 fS fdS ["head", "cycle"] (spSh K)) (bS : Binds K fdS ["head", "cycle"] []) (kS : PySem.W.keepIn K (.ref fS) = true) (mS : mg "_law_shortest" = some (.ref fS))
    (gI : FnOk P w K mg base CX0 1 fI fdI ["head", "cycle", "number"] (spIn K)) (bI : Binds K fdI ["head", "cycle", "number"] []) (kI : PySem.W.keepIn K (.ref fI) = true) (mI : mg "_law_in" = some (.ref fI))
    (gF : FnOk P w K mg base CX0 2 fF fdF ["box"] spFar) (bF : Binds K fdF ["box"] []) (kF : PySem.W.keepIn K (.ref fF) = true) (mF : mg "_law_far" = some (.ref fF))
    (gC : FnOk P w K mg base CX0 1 fC fdC ["one", "number"] (spCn K)) (bC : Binds K fdC ["one", "number"] []) (kC : PySem.W.keepIn K (.ref fC) = true) (mC : mg "contains" = some (.ref fC))
    (mr : mg "range" = none) (mt : mg "tuple" = none) (ml : mg "len" = none) (mi : mg "isinstance" = none) (mL : mg "list" = none) :
    FnOk P w K mg base CX0 8 f fd ["script"] (spLaw K) := by
  refine F.ok scLaw (fun vs H Q E h => ?_) (fun cdv A outer s H vs Q E hr h => ?_)
  · obtain ⟨a, ns, rfl, _⟩ := h
    rfl
  obtain ⟨a, ns, rfl, hS, q⟩ := h
  have nd := scLaw.nd
  refine ⟨_, pss_cons (ps_set (i := 1) nd rfl (.inl rfl) (pe_lst (pa_cons (pe_call gG (hr.mono (by decide)) rfl mG kG bG .nil pass0 (pa_cons (pv 0) (pa_cons pe_int (pa_cons pe_int pa_nil)))) (pa_cons pe_int pa_nil))))
    (pss_cons (ps_for PassesOwn.never rfl (pi_range1 rfl mr (pa_cons pe_int pa_nil)) (pg_name (i := 2) nd rfl (.inl rfl))
      (pss_cons (ps_set (i := 3) nd rfl (.inr rfl) (pe_call gW (hr.mono (by decide)) rfl mW kW bW .nil pass0 (pa_cons (pv 1) (pa_cons pe_int pa_nil))))
      (pss_cons (ps_set (i := 4) nd rfl (.inr rfl) (pe_op Ts.cat (pe_tup (pa_cons (pe_cmpR op_eq (pe_call gD (hr.mono (by decide)) rfl mD kD bD .nil pass0 (pa_cons (pv 1) (pa_cons pe_int pa_nil))) pe_int (nomark _)) pa_nil)) (pe_call gW (hr.mono (by decide)) rfl mW kW bW .nil pass0 (pa_cons (pv 1) (pa_cons pe_int pa_nil)))))
      (pss_cons (ps_set (i := 5) nd rfl (.inl rfl) (pe_call gE (hr.mono (by decide)) rfl mE kE bE .nil pass0 (pa_cons (pv 3) (pa_cons (pv 4) pa_nil))))
      (pss_cons (ps_if (PW.pt (pw_or (pt_not (pt_val (pe_callB call_isi (by rfl) mi (by decide +kernel) (pa_cons (pv 5) (pa_cons (pe_bltn (v := .ty "tuple") (by rfl) mt (by decide +kernel) rfl) pa_nil)))))
          (pw_or1 (pt_cmpR (op_neD hr.units) (pv 5) (pe_call gS (hr.mono (by decide)) rfl mS kS bS .nil pass0 (pa_cons (pv 3) (pa_cons (pv 4) pa_nil))) (nomark _)))))
        (pss_one (ps_ret pe_bl)) pss_nil)
      (pss_cons (ps_set (i := 6) nd rfl (.inr rfl) (pe_op Ts.cat (pv 3) (pe_callTy Ts.tup (by rfl) mt (by decide +kernel) (pa_cons
          (pe_lc (own := [("k", 9)]) (g := gName 9) (tt := tYes) (te := tCall (spIn K) [] E0 (tCons (tVar 3) (tCons (tVar 4) (tCons (tAdd (tCB (rLn K) (tCons (tVar 3) tNil)) (tVar 9)) tNil)))) rfl nd (pi_range1 rfl mr (pa_cons (pe_call gD (hr.mono (by decide)) rfl mD kD bD .nil pass0 (pa_cons (pv 1) (pa_cons pe_int pa_nil))) pa_nil)) (blkOk_by (N := nLaw) (sc := defScope sLaw) (by decide +kernel))
            (fun _ _ _ _ _ => pg_name (i := 9) nd rfl (.inl rfl)) (fun _ _ _ _ _ => pts_nil)
            (fun _ _ _ _ _ => pe_call gI (hr.mono (by decide)) rfl mI kI bI .nil pass0 (pa_cons (pv 3) (pa_cons (pv 4) (pa_cons (pe_op op_add (pe_callB call_len_seq (by rfl) ml PySem.boot_len (pa_cons (pv 3) pa_nil)) (pv 9)) pa_nil))))) pa_nil))))
      (pss_cons (ps_set (i := 7) nd rfl (.inl rfl) (pe_op Ts.rep (pe_callTy Ts.tup (by rfl) mt (by decide +kernel) (pa_cons
          (pe_lc (own := [("k", 9)]) (g := gName 9) (tt := tYes) (te := tCall (spIn K) [] E0 (tCons (tVar 3) (tCons (tVar 4) (tCons (tAdd (tCB (rLn K) (tCons (tVar 6) tNil)) (tVar 9)) tNil)))) rfl nd (pi_range1 rfl mr (pa_cons (pe_callB call_len_seq (by rfl) ml PySem.boot_len (pa_cons (pv 4) pa_nil)) pa_nil)) (blkOk_by (N := nLaw) (sc := defScope sLaw) (by decide +kernel))
            (fun _ _ _ _ _ => pg_name (i := 9) nd rfl (.inl rfl)) (fun _ _ _ _ _ => pts_nil)
            (fun _ _ _ _ _ => pe_call gI (hr.mono (by decide)) rfl mI kI bI .nil pass0 (pa_cons (pv 3) (pa_cons (pv 4) (pa_cons (pe_op op_add (pe_callB call_len_seq (by rfl) ml PySem.boot_len (pa_cons (pv 6) pa_nil)) (pv 9)) pa_nil))))) pa_nil))
          (pe_op op_add pe_int (pe_call gD (hr.mono (by decide)) rfl mD kD bD .nil pass0 (pa_cons (pv 1) (pa_cons pe_int pa_nil))))))
      (pss_cons (ps_if (pt_cmpR (op_neD hr.units) (pe_call gE (hr.mono (by decide)) rfl mE kE bE .nil pass0 (pa_cons (pe_callTy call_list_of (by rfl) mL (by decide +kernel) (pa_cons (pv 6) pa_nil)) (pa_cons (pe_callTy call_list_of (by rfl) mL (by decide +kernel) (pa_cons (pv 7) pa_nil)) pa_nil))) (pv 5) (nomark _))
        (pss_one (ps_ret pe_bl)) pss_nil)
      (pss_cons (ps_set (i := 8) nd rfl (.inl rfl) (pe_call gF (hr.mono (by decide)) rfl mF kF bF .nil pass0 (pa_cons (pv 1) pa_nil)))
      (pss_one (ps_if (pt_cmpR op_ne (pe_call gC (hr.mono (by decide)) rfl mC kC bC .nil pass0 (pa_cons (pv 5) (pa_cons (pv 8) pa_nil))) (pe_call gI (hr.mono (by decide)) rfl mI kI bI .nil pass0 (pa_cons (pv 3) (pa_cons (pv 4) (pa_cons (pv 8) pa_nil)))) (nomark _))
        (pss_one (ps_ret pe_bl)) pss_nil)))))))))))
    (pss_one (ps_ret pe_bl))), ?_⟩
  refine ⟨_, rfl, a, ns, rfl, hS, fun d H1 ds hd0 s1 hd => ⟨by show 2 ≤ sizeLine; decide, fun B hB => ?_⟩⟩
  have ndB : d ≠ B := ne_of_none hd hB
  generalize hH0 : upd H1 B (.lst [.ref d, .int 0]) = H0
  have hB0 : H0 B = some (.lst [.ref d, .int 0]) := by rw [← hH0]; exact upd_same
  have hbox : Box H0 B d := ⟨ds, 0, hB0, by rw [← hH0, upd_ne ndB]; exact hd, Int.le_refl 0⟩
  refine ⟨3, rfl, by decide, by decide, for_range (lo := 0) (n := 3) (fun i σ H' => (∃ o2 o3 o4 o5 o6 o7 o8 o9, σ = [some (.ref a), some (.ref B), o2, o3, o4, o5, o6, o7, o8, o9]) ∧ Box H' B d) ⟨⟨_, _, _, _, _, _, _, _, rfl⟩, hbox⟩ ?_ (fun σ H' _ => q H')⟩
  rintro i σ H2 hi ⟨⟨o2, o3, o4, o5, o6, o7, o8, o9, rfl⟩, b2⟩
  refine ⟨_, rfl, B, d, 7, rfl, by decide, by decide, b2, fun vh h H3 g3 b3 hh7 hh => ?_⟩
  refine ⟨_, rfl, B, d, 2, rfl, by decide, b3, fun y H4 y0 y1 g4 b4 => ⟨rfl, by show 1 ≤ sizeLine; decide, fun u hu => ?_⟩⟩
  have b5 := b4.new hu (.tup [.bl (decide (V.int y = V.int 0))])
  have g45 := Go.new (B := B) hu (.tup [.bl (decide (V.int y = V.int 0))])
  generalize decide (V.int y = V.int 0) = b0 at b5 g45 ⊢
  refine ⟨_, rfl, B, d, 5, rfl, by decide, by decide, b5, fun vr r H6 g6 b6 hr5 ⟨pr, er, hpr⟩ => ?_⟩
  subst er
  have uB := b4.neB hu
  refine ⟨u, pr, [.bl b0], _, rfl, rfl, SqT.of (g6.ext _ _ uB upd_same), hpr, le_line (by rw [List.length_map]; show 1 + r.length < 10000000; omega), fun pc H7 s7 hc7 => ?_⟩
  obtain ⟨c, ec⟩ : ∃ c, c = b0 :: r := ⟨_, rfl⟩
  have hc7 : SqT K H7 pc (c.map V.bl) := by rw [ec]; exact hc7
  have hcy : Cy c := ⟨by rw [ec]; exact List.cons_ne_nil _ _, by rw [ec, List.length_cons]; omega⟩
  have S := (sh_of hcy).1
  have hpos := len_pos hcy.1
  have hc5 := hcy.2
  have b7 := b6.same s7
  have g37 := ((g4.trans g45).trans g6).trans (Go.same s7)
  obtain ⟨ph, eh, hph⟩ := hh.go b3 g37
  subst eh
  -- told
  refine ⟨_, rfl, _, rfl, ph, pc, h, c, rfl, .inr hph, .inr hc7, hcy.1, by omega, S.nc', by omega, fun vt H8 s8 ht => ?_⟩
  obtain ⟨pt, ta, tb', et, hpt, hta, htb⟩ := id ht
  subst et
  refine ⟨_, rfl, .ref pt, .ty "tuple", .type "tuple", .type "tuple", true, rfl, .ty "tuple", .base (.tup hpt), kit_ty (by decide +kernel), true, rfl, ?_⟩
  refine ⟨_, rfl, _, rfl, _, rfl, .ref ph, .ref pc, h, c, rfl, ⟨ph, rfl, Ts.same s8 hph⟩, ⟨pc, rfl, Ts.same s8 hc7⟩, hcy, by omega, fun vz H9 s9 hz => ?_⟩
  refine ⟨_, _, (ht.same s9).dp, hz.dp, shp2 _ _, shp2 _ _, ?_⟩
  rw [SeqAt.eqv_refl _ (SeqAt.canLay_of_shaped (shp2 _ _))]
  refine ⟨_, rfl, ?_⟩
  have s79 := s8.trans s9
  have b9 := b7.same s79
  have ht9 := ht.same s9
  have hph9 := Ts.same s79 hph
  have hpc9 := Ts.same s79 hc7
  -- longer
  refine ⟨_, rfl, _, rfl, B, d, 9, rfl, by decide, b9, fun e HA e0 e9 gA bA => ⟨e, rfl, by omega, by omega, fun D hD => ?_⟩⟩
  obtain ⟨dsb, ib, hB9, _⟩ := id b9
  have hphA := SqT.go hB9 gA hph9
  have hpcA := SqT.go hB9 gA hpc9
  have htA := ht9.go b9 gA
  refine lc_range (lo := 0) (n := e.toNat) (fun j H' => Same HA H' ∧ H' D = some (.lst ((List.range j).map fun k => V.bl (sq h c (h.length + k))))) ⟨same_new hD _, upd_same⟩ ?_ ?_
  · rintro j HB hj ⟨s2, hD2⟩
    refine ⟨rfl, _, rfl, _, rfl, _, rfl, ph, _, rfl, .inr (Ts.same s2 hphA), ?_⟩
    rw [List.length_map]
    refine ⟨_, rfl, _, _, rfl, rfl, ?_⟩
    refine ⟨.ref ph, .ref pc, h, c, h.length + j, ?_, ⟨ph, rfl, Ts.same s2 hphA⟩, ⟨pc, rfl, Ts.same s2 hpcA⟩, hcy.1, by omega, by omega, ?_⟩
    · show [V.ref ph, V.ref pc, V.int ((h.length : Int) + (0 + (j : Int)))] = [V.ref ph, V.ref pc, V.int ((h.length + j : Nat) : Int)]
      rw [Int.zero_add, Int.natCast_add]
    refine ⟨_, hD2, sz_line (by rw [List.length_map, List.length_range]; omega), same_mut s2 hD _, ?_⟩
    rw [upd_same, range_snoc]
  rintro HB ⟨sB, hDB⟩
  refine ⟨D, _, rfl, .inl (SqL.of hDB), fun px HC sC hpx => ?_⟩
  have ex : ((List.range e.toNat).map fun k => V.bl (sq h c (h.length + k))) = (ext h c e.toNat).map V.bl := by
    unfold ext
    rw [List.map_map]
    rfl
  rw [ex] at hpx
  have sAC := sB.trans sC
  refine ⟨ph, px, _, _, rfl, rfl, Ts.same sAC hphA, hpx, le_line (by rw [List.length_map, List.length_map, ext_len]; omega), fun pl HD sD hpl => ?_⟩
  rw [← List.map_append] at hpl
  have sAD := sAC.trans sD
  have hpcD := Ts.same sAD hpcA
  have bD' := bA.same sAD
  have hll : (h ++ ext h c e.toNat).length = h.length + e.toNat := by rw [List.length_append, ext_len]
  -- row
  refine ⟨_, rfl, pc, _, rfl, .inr hpcD, ?_⟩
  rw [List.length_map]
  refine ⟨(c.length : Int), rfl, by omega, by omega, fun D2 hD2 => ?_⟩
  rw [Int.toNat_natCast]
  refine lc_range (lo := 0) (n := c.length) (fun j H' => Same HD H' ∧ H' D2 = some (.lst ((List.range j).map fun k => V.bl (sq h c ((h ++ ext h c e.toNat).length + k))))) ⟨same_new hD2 _, upd_same⟩ ?_ ?_
  · rintro j HE hj ⟨s2, hD2'⟩
    refine ⟨rfl, _, rfl, _, rfl, _, rfl, pl, _, rfl, .inr (Ts.same s2 hpl), ?_⟩
    rw [List.length_map]
    refine ⟨_, rfl, _, _, rfl, rfl, ?_⟩
    refine ⟨.ref ph, .ref pc, h, c, (h ++ ext h c e.toNat).length + j, ?_, ⟨ph, rfl, Ts.same (sAD.trans s2) hphA⟩, ⟨pc, rfl, Ts.same s2 hpcD⟩, hcy.1, by omega, by omega, ?_⟩
    · show [V.ref ph, V.ref pc, V.int (((h ++ ext h c e.toNat).length : Int) + (0 + (j : Int)))] = [V.ref ph, V.ref pc, V.int (((h ++ ext h c e.toNat).length + j : Nat) : Int)]
      rw [Int.zero_add, Int.natCast_add]
    refine ⟨_, hD2', sz_line (by rw [List.length_map, List.length_range]; omega), same_mut s2 hD2 _, ?_⟩
    rw [upd_same, range_snoc]
  rintro HE ⟨sE, hDE⟩
  refine ⟨D2, _, rfl, .inl (SqL.of hDE), fun py HF sF hpy => ?_⟩
  have ey : ((List.range c.length).map fun k => V.bl (sq h c ((h ++ ext h c e.toNat).length + k))) = ((List.range c.length).map fun (k : Nat) => sq h c ((h ++ ext h c e.toNat).length + k)).map V.bl := by
    rw [List.map_map]
    rfl
  rw [ey] at hpy
  have sDF := sE.trans sF
  have bF' := bD'.same sDF
  refine ⟨_, rfl, B, d, 3, rfl, by decide, bF', fun m HG m0 m3 gG' bG' => ⟨_, _, rfl, rfl, ?_⟩⟩
  obtain ⟨dsf, jf, hBF, _⟩ := id bF'
  have hpyG := SqT.go hBF gG' hpy
  have hplG := SqT.go hBF gG' (Ts.same sDF hpl)
  have hphG := SqT.go hBF gG' (Ts.same (sAD.trans sDF) hphA)
  have hpcG := SqT.go hBF gG' (Ts.same sDF hpcD)
  have htG := (htA.same (sAD.trans sDF)).go bF' gG'
  refine ⟨py, 1 + m, _, rfl, rfl, hpyG, (fun z => hcy.1 (by simpa using z)), by omega, by omega, by rw [List.length_map, List.length_map, List.length_range]; omega, fun pw HH sH hpw => ?_⟩
  obtain ⟨m', hm', em⟩ : ∃ m' : Nat, m' < 3 ∧ (1 + m).toNat = m' + 1 := ⟨m.toNat, by omega, by omega⟩
  rw [em, ← List.map_replicate, ← List.map_flatten] at hpw
  have hpw : SqT K HH pw ((rep (m' + 1) ((List.range c.length).map fun (k : Nat) => sq h c ((h ++ ext h c e.toNat).length + k))).map V.bl) := hpw
  have hst := stl_ext (h := h) hcy (e := e.toNat) (m := m') (by omega) hm'
  have hne := sc_row_ne (h := h) hcy (e := e.toNat) (m := m') (by omega) hm'
  have hrl : (rep (m' + 1) ((List.range c.length).map fun (k : Nat) => sq h c ((h ++ ext h c e.toNat).length + k))).length = (m' + 1) * c.length := by
    rw [rep_len, List.length_map, List.length_range]
  generalize rep (m' + 1) ((List.range c.length).map fun (k : Nat) => sq h c ((h ++ ext h c e.toNat).length + k)) = rw' at hpw hst hne hrl
  have hr1 : (m' + 1) * c.length ≤ 3 * 5 := Nat.mul_le_mul (by omega) hc5
  have hr2 : 1 ≤ (m' + 1) * c.length := Nat.mul_le_mul (by omega : 1 ≤ m' + 1) hpos
  -- settled again
  refine ⟨_, rfl, pl, _, rfl, .inr (Ts.same sH hplG), fun l1 hl1 => ?_⟩
  have t1 : Same HH (upd HH l1 (.lst ((h ++ ext h c e.toNat).map V.bl))) := same_new hl1 _
  refine ⟨_, rfl, pw, _, rfl, .inr (Ts.same t1 hpw), fun l2 hl2 => ?_⟩
  have t2 : Same (upd HH l1 (.lst ((h ++ ext h c e.toNat).map V.bl))) (upd (upd HH l1 (.lst ((h ++ ext h c e.toNat).map V.bl))) l2 (.lst (rw'.map V.bl))) := same_new hl2 _
  refine ⟨l1, l2, h ++ ext h c e.toNat, rw', rfl, .inl (SqL.of (t2 _ _ upd_same)), .inl (SqL.of upd_same), (fun z => by rw [z] at hrl; simp at hrl; omega), by omega, hne, by omega, fun vq HI sI hq => ?_⟩
  rw [hst] at hq
  have sGI := (sH.trans (t1.trans t2)).trans sI
  have htI := htG.same sGI
  refine ⟨_, rfl, _, _, hq.dp, htI.dp, shp2 _ _, shp2 _ _, ?_⟩
  rw [SeqAt.eqv_refl _ (SeqAt.canLay_of_shaped (shp2 _ _))]
  refine ⟨_, rfl, ?_⟩
  have bI' := bG'.same sGI
  refine ⟨_, rfl, B, d, rfl, bI', fun n HJ gJ bJ => ?_⟩
  obtain ⟨dsi, ji, hBI, _⟩ := id bI'
  have htJ := htI.go bI' gJ
  have hl0 : (stl h c).1.length ≤ h.length := by
    unfold stl
    rw [List.length_take]
    omega
  have hl1' : (stl h c).2.length ≤ c.length := by
    unfold stl
    rw [rot_len]
    exact S.le
  refine ⟨_, rfl, _, rfl, .ref pt, (stl h c).1, (stl h c).2, n, rfl, htJ, stl_ne hcy, by omega, by omega, ?_⟩
  refine ⟨_, rfl, _, rfl, _, rfl, .ref ph, .ref pc, h, c, n, rfl, ⟨ph, rfl, SqT.go hBI gJ (Ts.same sGI hphG)⟩, ⟨pc, rfl, SqT.go hBI gJ (Ts.same sGI hpcG)⟩, hcy.1, by omega, by omega, rfl, _, rfl, ?_⟩
  rw [sq_stl hcy, show (!decide (V.bl (sq h c n) = V.bl (sq h c n))) = false by simp]
  exact ⟨⟨_, _, _, _, _, _, _, _, rfl⟩, bJ⟩
end
end Mw

namespace Mw
open PySem L2
theorem all_mk {l : PySem.W.OpenLaw} {w : World} {K : PySem.W.Frag} {h : Heap} {mg : Str → Option Value} {fa f1 f2 f3 f4 f5 f6 f7 f8 f9 f10 f11 f12 f13 f14 : Addr} (X : K.In h) (G : h.Ns mainGlobals mg) (hfa : mg "law" = some (.ref fa))
    {od1 an1 od2 an2 od3 an3 od4 an4 od5 an5 od6 an6 od7 an7 od8 an8 od9 an9 od10 an10 od11 an11 od12 an12 od13 an13 od14 an14 : Option Addr} {sl1 sl2 sl3 sl4 sl5 sl6 sl7 sl8 sl9 sl10 sl11 sl12 sl13 sl14 : Array (Option Value)} {oc1 kV1 dc1 pm1 cd1 ct1 oc2 kV2 dc2 pm2 cd2 ct2 oc3 kV3 dc3 pm3 cd3 ct3 oc4 kV4 dc4 pm4 cd4 ct4 oc5 kV5 dc5 pm5 cd5 ct5 oc6 kV6 dc6 pm6 cd6 ct6 oc7 kV7 dc7 pm7 cd7 ct7 oc8 kV8 dc8 pm8 cd8 ct8 oc9 kV9 dc9 pm9 cd9 ct9 oc10 kV10 dc10 pm10 cd10 ct10 oc11 kV11 dc11 pm11 cd11 ct11 oc12 kV12 dc12 pm12 cd12 ct12 oc13 kV13 dc13 pm13 cd13 ct13 oc14 kV14 dc14 pm14 cd14 ct14 : Value}
    (a1 : PySem.W.nsIn K mainGlobals "prime_factors" = some (some (.ref f1))) (l1 : K.lookup f1 = some ⟨oc1, od1, .func (PySem.W.fnOf "prime_factors" "prime_factors" (defArgs sPf) (defBody sPf) (defScope sPf) .none kV1 dc1 pm1 an1 cd1 ct1), sl1⟩) (c1 : PySem.W.codeIn K cd1 "prime_factors" = true) (k1 : PySem.W.keepIn K (.ref f1) = true)
    (a2 : PySem.W.nsIn K mainGlobals "shortest_cycle" = some (some (.ref f2))) (l2 : K.lookup f2 = some ⟨oc2, od2, .func (PySem.W.fnOf "shortest_cycle" "shortest_cycle" (defArgs sSc) (defBody sSc) (defScope sSc) .none kV2 dc2 pm2 an2 cd2 ct2), sl2⟩) (c2 : PySem.W.codeIn K cd2 "shortest_cycle" = true) (k2 : PySem.W.keepIn K (.ref f2) = true)
    (a3 : PySem.W.nsIn K mainGlobals "turned_back" = some (some (.ref f3))) (l3 : K.lookup f3 = some ⟨oc3, od3, .func (PySem.W.fnOf "turned_back" "turned_back" (defArgs sTb) (defBody sTb) (defScope sTb) .none kV3 dc3 pm3 an3 cd3 ct3), sl3⟩) (c3 : PySem.W.codeIn K cd3 "turned_back" = true) (k3 : PySem.W.keepIn K (.ref f3) = true)
    (a4 : PySem.W.nsIn K mainGlobals "settled" = some (some (.ref f4))) (l4 : K.lookup f4 = some ⟨oc4, od4, .func (PySem.W.fnOf "settled" "settled" (defArgs sSe) (defBody sSe) (defScope sSe) .none kV4 dc4 pm4 an4 cd4 ct4), sl4⟩) (c4 : PySem.W.codeIn K cd4 "settled" = true) (k4 : PySem.W.keepIn K (.ref f4) = true)
    (a5 : PySem.W.nsIn K mainGlobals "contains" = some (some (.ref f5))) (l5 : K.lookup f5 = some ⟨oc5, od5, .func (PySem.W.fnOf "contains" "contains" (defArgs sCn) (defBody sCn) (defScope sCn) .none kV5 dc5 pm5 an5 cd5 ct5), sl5⟩) (c5 : PySem.W.codeIn K cd5 "contains" = true) (k5 : PySem.W.keepIn K (.ref f5) = true)
    (a6 : PySem.W.nsIn K mainGlobals "_law_cell" = some (some (.ref f6))) (l6 : K.lookup f6 = some ⟨oc6, od6, .func (PySem.W.fnOf "_law_cell" "_law_cell" (defArgs sCell) (defBody sCell) (defScope sCell) .none kV6 dc6 pm6 an6 cd6 ct6), sl6⟩) (c6 : PySem.W.codeIn K cd6 "_law_cell" = true) (k6 : PySem.W.keepIn K (.ref f6) = true)
    (a7 : PySem.W.nsIn K mainGlobals "_law_digits" = some (some (.ref f7))) (l7 : K.lookup f7 = some ⟨oc7, od7, .func (PySem.W.fnOf "_law_digits" "_law_digits" (defArgs sDigits) (defBody sDigits) (defScope sDigits) .none kV7 dc7 pm7 an7 cd7 ct7), sl7⟩) (c7 : PySem.W.codeIn K cd7 "_law_digits" = true) (k7 : PySem.W.keepIn K (.ref f7) = true)
    (a8 : PySem.W.nsIn K mainGlobals "_law_draw" = some (some (.ref f8))) (l8 : K.lookup f8 = some ⟨oc8, od8, .func (PySem.W.fnOf "_law_draw" "_law_draw" (defArgs sDraw) (defBody sDraw) (defScope sDraw) .none kV8 dc8 pm8 an8 cd8 ct8), sl8⟩) (c8 : PySem.W.codeIn K cd8 "_law_draw" = true) (k8 : PySem.W.keepIn K (.ref f8) = true)
    (a9 : PySem.W.nsIn K mainGlobals "_law_row" = some (some (.ref f9))) (l9 : K.lookup f9 = some ⟨oc9, od9, .func (PySem.W.fnOf "_law_row" "_law_row" (defArgs sRow) (defBody sRow) (defScope sRow) .none kV9 dc9 pm9 an9 cd9 ct9), sl9⟩) (c9 : PySem.W.codeIn K cd9 "_law_row" = true) (k9 : PySem.W.keepIn K (.ref f9) = true)
    (a10 : PySem.W.nsIn K mainGlobals "_law_in" = some (some (.ref f10))) (l10 : K.lookup f10 = some ⟨oc10, od10, .func (PySem.W.fnOf "_law_in" "_law_in" (defArgs sIn) (defBody sIn) (defScope sIn) .none kV10 dc10 pm10 an10 cd10 ct10), sl10⟩) (c10 : PySem.W.codeIn K cd10 "_law_in" = true) (k10 : PySem.W.keepIn K (.ref f10) = true)
    (a11 : PySem.W.nsIn K mainGlobals "_law_far" = some (some (.ref f11))) (l11 : K.lookup f11 = some ⟨oc11, od11, .func (PySem.W.fnOf "_law_far" "_law_far" (defArgs sFar) (defBody sFar) (defScope sFar) .none kV11 dc11 pm11 an11 cd11 ct11), sl11⟩) (c11 : PySem.W.codeIn K cd11 "_law_far" = true) (k11 : PySem.W.keepIn K (.ref f11) = true)
    (a12 : PySem.W.nsIn K mainGlobals "_law_same" = some (some (.ref f12))) (l12 : K.lookup f12 = some ⟨oc12, od12, .func (PySem.W.fnOf "_law_same" "_law_same" (defArgs sSm) (defBody sSm) (defScope sSm) .none kV12 dc12 pm12 an12 cd12 ct12), sl12⟩) (c12 : PySem.W.codeIn K cd12 "_law_same" = true) (k12 : PySem.W.keepIn K (.ref f12) = true)
    (a13 : PySem.W.nsIn K mainGlobals "_law_shortest" = some (some (.ref f13))) (l13 : K.lookup f13 = some ⟨oc13, od13, .func (PySem.W.fnOf "_law_shortest" "_law_shortest" (defArgs sSh) (defBody sSh) (defScope sSh) .none kV13 dc13 pm13 an13 cd13 ct13), sl13⟩) (c13 : PySem.W.codeIn K cd13 "_law_shortest" = true) (k13 : PySem.W.keepIn K (.ref f13) = true)
    (a14 : PySem.W.nsIn K mainGlobals "law" = some (some (.ref f14))) (l14 : K.lookup f14 = some ⟨oc14, od14, .func (PySem.W.fnOf "law" "law" (defArgs sLaw) (defBody sLaw) (defScope sLaw) .none kV14 dc14 pm14 an14 cd14 ct14), sl14⟩) (c14 : PySem.W.codeIn K cd14 "law" = true) (k14 : PySem.W.keepIn K (.ref f14) = true)
    (z1 : PySem.W.nsIn K mainGlobals "len" = some none) (z2 : PySem.W.nsIn K mainGlobals "list" = some none) (z3 : PySem.W.nsIn K mainGlobals "range" = some none) (z4 : PySem.W.nsIn K mainGlobals "int" = some none) (z5 : PySem.W.nsIn K mainGlobals "tuple" = some none) (z6 : PySem.W.nsIn K mainGlobals "isinstance" = some none) :
    ∃ fd : FuncData, (∀ (s : Shared) (v : Value), BindsTo s fd ⟨[v], []⟩ [("script", v)]) ∧ ∀ base : Heap, K.In base → base.Ns mainGlobals mg → FnOk l.prog w K mg base CX0 8 fa fd ["script"] (spLaw K) := by
  have e := hfa.symm.trans (PySem.W.mg_of X G a14)
  cases e
  have F1 := fun_mk (st := sPf) l1 c1 k1
  have F2 := fun_mk (st := sSc) l2 c2 k2
  have F3 := fun_mk (st := sTb) l3 c3 k3
  have F4 := fun_mk (st := sSe) l4 c4 k4
  have F5 := fun_mk (st := sCn) l5 c5 k5
  have F6 := fun_mk (st := sCell) l6 c6 k6
  have F7 := fun_mk (st := sDigits) l7 c7 k7
  have F8 := fun_mk (st := sDraw) l8 c8 k8
  have F9 := fun_mk (st := sRow) l9 c9 k9
  have F10 := fun_mk (st := sIn) l10 c10 k10
  have F11 := fun_mk (st := sFar) l11 c11 k11
  have F12 := fun_mk (st := sSm) l12 c12 k12
  have F13 := fun_mk (st := sSh) l13 c13 k13
  have F14 := fun_mk (st := sLaw) l14 c14 k14
  have b1 := F1.binds (ps := ["number"]) fun _ _ _ _ _ _ us hl => match us, hl with | [_], _ => rfl
  have b2 := F2.binds (ps := ["cycle"]) fun _ _ _ _ _ _ us hl => match us, hl with | [_], _ => rfl
  have b3 := F3.binds (ps := ["head", "cycle", "many"]) fun _ _ _ _ _ _ us hl => match us, hl with | [_, _, _], _ => rfl
  have b4 := F4.binds (ps := ["head", "cycle"]) fun _ _ _ _ _ _ us hl => match us, hl with | [_, _], _ => rfl
  have b5 := F5.binds (ps := ["one", "number"]) fun _ _ _ _ _ _ us hl => match us, hl with | [_, _], _ => rfl
  have b6 := F6.binds (ps := ["script", "k"]) fun _ _ _ _ _ _ us hl => match us, hl with | [_, _], _ => rfl
  have b7 := F7.binds (ps := ["script", "first", "last"]) fun _ _ _ _ _ _ us hl => match us, hl with | [_, _, _], _ => rfl
  have b8 := F8.binds (ps := ["box", "many"]) fun _ _ _ _ _ _ us hl => match us, hl with | [_, _], _ => rfl
  have b9 := F9.binds (ps := ["box", "most"]) fun _ _ _ _ _ _ us hl => match us, hl with | [_, _], _ => rfl
  have b10 := F10.binds (ps := ["head", "cycle", "number"]) fun _ _ _ _ _ _ us hl => match us, hl with | [_, _, _], _ => rfl
  have b11 := F11.binds (ps := ["box"]) fun _ _ _ _ _ _ us hl => match us, hl with | [_], _ => rfl
  have b12 := F12.binds (ps := ["head", "cycle", "one", "two"]) fun _ _ _ _ _ _ us hl => match us, hl with | [_, _, _, _], _ => rfl
  have b13 := F13.binds (ps := ["head", "cycle"]) fun _ _ _ _ _ _ us hl => match us, hl with | [_, _], _ => rfl
  have b14 := F14.binds (ps := ["script"]) fun _ _ _ _ _ _ us hl => match us, hl with | [_], _ => rfl
  have g1 := PySem.W.mg_of X G a1
  have g2 := PySem.W.mg_of X G a2
  have g3 := PySem.W.mg_of X G a3
  have g4 := PySem.W.mg_of X G a4
  have g5 := PySem.W.mg_of X G a5
  have g6 := PySem.W.mg_of X G a6
  have g7 := PySem.W.mg_of X G a7
  have g8 := PySem.W.mg_of X G a8
  have g9 := PySem.W.mg_of X G a9
  have g10 := PySem.W.mg_of X G a10
  have g11 := PySem.W.mg_of X G a11
  have g12 := PySem.W.mg_of X G a12
  have g13 := PySem.W.mg_of X G a13
  have g14 := PySem.W.mg_of X G a14
  have y1 := PySem.W.mg_none_of X G z1
  have y2 := PySem.W.mg_none_of X G z2
  have y3 := PySem.W.mg_none_of X G z3
  have y4 := PySem.W.mg_none_of X G z4
  have y5 := PySem.W.mg_none_of X G z5
  have y6 := PySem.W.mg_none_of X G z6
  refine ⟨PySem.W.fnOf "law" "law" (defArgs sLaw) (defBody sLaw) (defScope sLaw) .none kV14 dc14 pm14 an14 cd14 ct14, fun s v => .of_eq rfl, fun base _ _ => ?_⟩
  have gPf := ok_pf (P := l.prog) (w := w) (mg := mg) (base := base) F1
  have gSc := ok_sc F2 gPf b1 k1 g1 y1
  have gTb := ok_tb (P := l.prog) (w := w) (mg := mg) (base := base) F3 y1
  have gSe := ok_se F4 gSc b2 k2 g2 gTb b3 k3 g3 y1 y5
  have gCn := ok_cn (P := l.prog) (w := w) (mg := mg) (base := base) F5 y1
  have gCe := ok_cell (P := l.prog) (w := w) (mg := mg) (base := base) F6 y1
  have gDg := ok_digits F7 gCe b6 k6 g6 y3 y4
  have gDr := ok_draw (P := l.prog) (w := w) (mg := mg) (base := base) F8 y1 y4
  have gRw := ok_row F9 gDr b8 k8 g8 y3 y5
  have gIn := ok_in (P := l.prog) (w := w) (mg := mg) (base := base) F10 y1 y4
  have gFa := ok_far F11 gDr b8 k8 g8
  have gSm := ok_sm F12 gIn b10 k10 g10 y3
  have gSh := ok_sh F13 gIn b10 k10 g10 gSm b12 k12 g12 y3 y5 y1
  exact ok_law F14 gDg b7 k7 g7 gRw b9 k9 g9 gDr b8 k8 g8 gSe b4 k4 g4 gSh b13 k13 g13 gIn b10 k10 g10 gFa b11 k11 g11 gCn b5 k5 g5 y3 y5 y1 y6 y2
theorem walk {l : PySem.W.OpenLaw} {q : Program} {loose : List Str} {XP : (Str → Option Value) → Heap → Prop} {YP : World → Heap → Prop} {d : DefRec} {K : Params → PySem.W.Frag} (hn : l.most = some 63) (hdf : d.params.defaults = [])
    (hY : ∀ (w : World) (h : Heap), YP w h → (K w.params).In h)
    (F : ∀ (w : World) (mg : Str → Option Value) (fa : Addr) (h : Heap), (K w.params).In h → h.Ns mainGlobals mg → mg d.name = some (.ref fa) →
      ∃ fd : FuncData, (∀ (s : Shared) (u : Value), BindsTo s fd ⟨[u], []⟩ [("script", u)]) ∧ ∀ base : Heap, (K w.params).In base → base.Ns mainGlobals mg → FnOk l.prog w (K w.params) mg base CX0 8 fa fd ["script"] (spLaw (K w.params))) :
    PySem.W.WalkO q loose XP YP l.row.toRowW d [] (fun f vs => PySem.call f vs) :=
  L2.walk_of (n := 63) (k := 8) (x := "script") (CX := fun _ => CX0) (sp := fun w => spLaw (K w.params)) hn (by decide) hdf ⟨rfl, by decide, by decide⟩ hY F (fun _ _ a ns _ _ hS => ⟨a, ns, rfl, hS, fun _ => rfl⟩) fun _ _ _ _ _ z => z
end Mw
open PySem PySem.W PyProof.Rows
set_option maxRecDepth 100000 in
set_option maxHeartbeats 0 in
theorem PySem.Challenge.cw_messageways_k08_sets_in_one_form_holds : PySem.Challenge.rw_messageways_k08_sets_in_one_form.Holds := by
  w_on; o_law; k_head; (case hw => w_witness2)
  k_fill
  refine Mw.walk (l := PySem.Challenge.rw_messageways_k08_sets_in_one_form) rfl rfl (fun w h Y => PySem.W.kIn_of Y) ?F
  case F =>
    intro w mg fa h KX G hmg
    refine' Mw.all_mk KX G hmg ?a1 ?l1 ?c1 ?k1 ?a2 ?l2 ?c2 ?k2 ?a3 ?l3 ?c3 ?k3 ?a4 ?l4 ?c4 ?k4 ?a5 ?l5 ?c5 ?k5 ?a6 ?l6 ?c6 ?k6 ?a7 ?l7 ?c7 ?k7 ?a8 ?l8 ?c8 ?k8 ?a9 ?l9 ?c9 ?k9 ?a10 ?l10 ?c10 ?k10 ?a11 ?l11 ?c11 ?k11 ?a12 ?l12 ?c12 ?k12 ?a13 ?l13 ?c13 ?k13 ?a14 ?l14 ?c14 ?k14  ?z1 ?z2 ?z3 ?z4 ?z5 ?z6
    (case a1 => k_is); (case l1 => k_is); (case c1 => k_is); (case k1 => k_is)
    (case a2 => k_is); (case l2 => k_is); (case c2 => k_is); (case k2 => k_is)
    (case a3 => k_is); (case l3 => k_is); (case c3 => k_is); (case k3 => k_is)
    (case a4 => k_is); (case l4 => k_is); (case c4 => k_is); (case k4 => k_is)
    (case a5 => k_is); (case l5 => k_is); (case c5 => k_is); (case k5 => k_is)
    (case a6 => k_is); (case l6 => k_is); (case c6 => k_is); (case k6 => k_is)
    (case a7 => k_is); (case l7 => k_is); (case c7 => k_is); (case k7 => k_is)
    (case a8 => k_is); (case l8 => k_is); (case c8 => k_is); (case k8 => k_is)
    (case a9 => k_is); (case l9 => k_is); (case c9 => k_is); (case k9 => k_is)
    (case a10 => k_is); (case l10 => k_is); (case c10 => k_is); (case k10 => k_is)
    (case a11 => k_is); (case l11 => k_is); (case c11 => k_is); (case k11 => k_is)
    (case a12 => k_is); (case l12 => k_is); (case c12 => k_is); (case k12 => k_is)
    (case a13 => k_is); (case l13 => k_is); (case c13 => k_is); (case k13 => k_is)
    (case a14 => k_is); (case l14 => k_is); (case c14 => k_is); (case k14 => k_is)
    (case z1 => k_is)
    (case z2 => k_is)
    (case z3 => k_is)
    (case z4 => k_is)
    (case z5 => k_is)
    (case z6 => k_is)

