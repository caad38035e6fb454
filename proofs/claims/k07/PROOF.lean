import PyProof.Rows.All
import Wide.All
import OpenK.AllK
import Wide.FinOn
import HandS.Base
import HandS.Call
import HandS.List
import HandS.Comp
import HandS.Ends
import HandS.Dict
import HandS.Iter
import HandS.Text
import HandS.Words
import HandS.WordsList
import HandS.Evl
import HandS.Style
import HandS.Walk
import HandS.IsInst
import PySem.Challenge.RW_messageways_k07_categories_of_numbers
set_option Elab.async false
set_option maxRecDepth 100000
namespace Mw
open PySem L2
def top (i : Nat) : Stmt := PySem.Challenge.pw_messageways_k07_categories_of_numbers.main.body.getD i (.Pass ⟨0, 0, 0, 0⟩)
/-! ### trees of messages: a message is a chain of nodes, the cases of a choice a chain of cas -/
inductive T where
  | nil
  | text (s : Str) (r : T)
  | shw (n : Str) (r : T)
  | num (r : T)
  | cho (hd : List V) (cs o r : T)
  | cas (k : V) (m r : T)
/-- the values vs are the nodes (the cases) of the tree, as the heap has them -/
def Nodes (H : Hp) : T → List V → Prop
  | .nil, vs => vs = []
  | .text s r, vs => ∃ p ws, vs = .ref p :: ws ∧ H p = some (.tup [.str "text", .str s]) ∧ Nodes H r ws
  | .shw n r, vs => ∃ p ws, vs = .ref p :: ws ∧ H p = some (.tup [.str "show", .str n]) ∧ Nodes H r ws
  | .num r, vs => ∃ p ws, vs = .ref p :: ws ∧ H p = some (.tup [.str "number"]) ∧ Nodes H r ws
  | .cho hd cs o r, vs => ∃ p ws ca cvs oa ovs, vs = .ref p :: ws ∧ H p = some (.tup (hd ++ [.ref ca, .ref oa])) ∧ H ca = some (.lst cvs) ∧ Nodes H cs cvs ∧ H oa = some (.lst ovs) ∧ Nodes H o ovs ∧ Nodes H r ws
  | .cas k m r, vs => ∃ p ws ma mvs, vs = .ref p :: ws ∧ H p = some (.tup [k, .ref ma]) ∧ H ma = some (.lst mvs) ∧ Nodes H m mvs ∧ Nodes H r ws
/-- a list at a that is a message -/
def At (H : Hp) (a : Addr) (t : T) : Prop := ∃ vs, H a = some (.lst vs) ∧ Nodes H t vs
/-- all but the box stays; the box is a list of a ref and an int -/
def IsBox (vs : List V) : Prop := ∃ d i, vs = [.ref d, .int i]
def Ext (B : Addr) (H H' : Hp) : Prop := ∀ b o, b ≠ B → H b = some o → H' b = some o
theorem Ext.refl {B : Addr} (H : Hp) : Ext B H H := fun _ _ _ h => h
theorem Ext.trans {B : Addr} {H H1 H2 : Hp} (a : Ext B H H1) (b : Ext B H1 H2) : Ext B H H2 := fun c o n h => b c o n (a c o n h)
theorem Ext.of {B : Addr} {H H' : Hp} (s : Same H H') : Ext B H H' := fun b o _ h => s b o h
theorem same_new {H : Hp} {p : Addr} (h : H p = none) (o : HO) : Same H (upd H p o) := fun b u q => by
  rw [upd_ne (ne_of_none q h)]
  exact q
theorem same_mut {H H' : Hp} {p : Addr} (s : Same H H') (h : H p = none) (o : HO) : Same H (upd H' p o) := fun b u q => by
  rw [upd_ne (ne_of_none q h)]
  exact s b u q
theorem Nodes.refs {H : Hp} : ∀ {t : T} {vs : List V}, Nodes H t vs → ∀ v ∈ vs, ∃ a, v = .ref a
  | .nil, _, h, v, hv => by
    have h' : _ = [] := h
    subst h'
    cases hv
  | .text s r, _, h, v, hv => by
    obtain ⟨p, ws, rfl, _, hr⟩ := h
    rcases List.mem_cons.mp hv with rfl | hv
    · exact ⟨_, rfl⟩
    · exact Nodes.refs hr v hv
  | .shw n r, _, h, v, hv => by
    obtain ⟨p, ws, rfl, _, hr⟩ := h
    rcases List.mem_cons.mp hv with rfl | hv
    · exact ⟨_, rfl⟩
    · exact Nodes.refs hr v hv
  | .num r, _, h, v, hv => by
    obtain ⟨p, ws, rfl, _, hr⟩ := h
    rcases List.mem_cons.mp hv with rfl | hv
    · exact ⟨_, rfl⟩
    · exact Nodes.refs hr v hv
  | .cho hd cs o r, _, h, v, hv => by
    obtain ⟨p, ws, ca, cvs, oa, ovs, rfl, _, _, _, _, _, hr⟩ := h
    rcases List.mem_cons.mp hv with rfl | hv
    · exact ⟨_, rfl⟩
    · exact Nodes.refs hr v hv
  | .cas k m r, _, h, v, hv => by
    obtain ⟨p, ws, ma, mvs, rfl, _, _, _, hr⟩ := h
    rcases List.mem_cons.mp hv with rfl | hv
    · exact ⟨_, rfl⟩
    · exact Nodes.refs hr v hv
theorem Nodes.notBox {H : Hp} {t : T} {vs : List V} (h : Nodes H t vs) : ¬ IsBox vs := by
  rintro ⟨d, i, rfl⟩
  obtain ⟨a, e⟩ := h.refs (.int i) (by simp)
  cases e
theorem lst_ne {B a : Addr} {H : Hp} {bs vs : List V} (hb : H B = some (.lst bs)) (ib : IsBox bs) (ha : H a = some (.lst vs)) (nv : ¬ IsBox vs) : a ≠ B := by
  intro e
  subst e
  rw [hb] at ha
  cases ha
  exact nv ib
theorem tup_ne {B a : Addr} {H : Hp} {bs vs : List V} (hb : H B = some (.lst bs)) (ha : H a = some (.tup vs)) : a ≠ B := by
  intro e
  subst e
  rw [hb] at ha
  cases ha
/-- a tree stays where all but the box stays -/
theorem Nodes.ext {B : Addr} {H H' : Hp} {bs : List V} (hb : H B = some (.lst bs)) (ib : IsBox bs) (e : Ext B H H') : ∀ {t : T} {vs : List V}, Nodes H t vs → Nodes H' t vs
  | .nil, _, h => h
  | .text s r, _, h => by
    obtain ⟨p, ws, rfl, hp, hr⟩ := h
    exact ⟨p, ws, rfl, e _ _ (tup_ne hb hp) hp, Nodes.ext hb ib e hr⟩
  | .shw n r, _, h => by
    obtain ⟨p, ws, rfl, hp, hr⟩ := h
    exact ⟨p, ws, rfl, e _ _ (tup_ne hb hp) hp, Nodes.ext hb ib e hr⟩
  | .num r, _, h => by
    obtain ⟨p, ws, rfl, hp, hr⟩ := h
    exact ⟨p, ws, rfl, e _ _ (tup_ne hb hp) hp, Nodes.ext hb ib e hr⟩
  | .cho hd cs o r, _, h => by
    obtain ⟨p, ws, ca, cvs, oa, ovs, rfl, hp, hc, hcs, ho, hos, hr⟩ := h
    exact ⟨p, ws, ca, cvs, oa, ovs, rfl, e _ _ (tup_ne hb hp) hp, e _ _ (lst_ne hb ib hc hcs.notBox) hc, Nodes.ext hb ib e hcs, e _ _ (lst_ne hb ib ho hos.notBox) ho, Nodes.ext hb ib e hos, Nodes.ext hb ib e hr⟩
  | .cas k m r, _, h => by
    obtain ⟨p, ws, ma, mvs, rfl, hp, hm, hms, hr⟩ := h
    exact ⟨p, ws, ma, mvs, rfl, e _ _ (tup_ne hb hp) hp, e _ _ (lst_ne hb ib hm hms.notBox) hm, Nodes.ext hb ib e hms, Nodes.ext hb ib e hr⟩
theorem Nodes.same {H H' : Hp} (e : Same H H') : ∀ {t : T} {vs : List V}, Nodes H t vs → Nodes H' t vs
  | .nil, _, h => h
  | .text s r, _, h => by
    obtain ⟨p, ws, rfl, hp, hr⟩ := h
    exact ⟨p, ws, rfl, e _ _ hp, Nodes.same e hr⟩
  | .shw n r, _, h => by
    obtain ⟨p, ws, rfl, hp, hr⟩ := h
    exact ⟨p, ws, rfl, e _ _ hp, Nodes.same e hr⟩
  | .num r, _, h => by
    obtain ⟨p, ws, rfl, hp, hr⟩ := h
    exact ⟨p, ws, rfl, e _ _ hp, Nodes.same e hr⟩
  | .cho hd cs o r, _, h => by
    obtain ⟨p, ws, ca, cvs, oa, ovs, rfl, hp, hc, hcs, ho, hos, hr⟩ := h
    exact ⟨p, ws, ca, cvs, oa, ovs, rfl, e _ _ hp, e _ _ hc, Nodes.same e hcs, e _ _ ho, Nodes.same e hos, Nodes.same e hr⟩
  | .cas k m r, _, h => by
    obtain ⟨p, ws, ma, mvs, rfl, hp, hm, hms, hr⟩ := h
    exact ⟨p, ws, ma, mvs, rfl, e _ _ hp, e _ _ hm, Nodes.same e hms, Nodes.same e hr⟩
/-- two chains, one behind the other -/
def T.app : T → T → T
  | .nil, u => u
  | .text s r, u => .text s (r.app u)
  | .shw n r, u => .shw n (r.app u)
  | .num r, u => .num (r.app u)
  | .cho hd cs o r, u => .cho hd cs o (r.app u)
  | .cas k m r, u => .cas k m (r.app u)
theorem Nodes.app {H : Hp} {u : T} {us : List V} (hu : Nodes H u us) : ∀ {t : T} {vs : List V}, Nodes H t vs → Nodes H (t.app u) (vs ++ us)
  | .nil, _, h => by
    have h' : _ = [] := h
    subst h'
    exact hu
  | .text s r, _, h => by
    obtain ⟨p, ws, rfl, hp, hr⟩ := h
    exact ⟨p, ws ++ us, rfl, hp, Nodes.app hu hr⟩
  | .shw n r, _, h => by
    obtain ⟨p, ws, rfl, hp, hr⟩ := h
    exact ⟨p, ws ++ us, rfl, hp, Nodes.app hu hr⟩
  | .num r, _, h => by
    obtain ⟨p, ws, rfl, hp, hr⟩ := h
    exact ⟨p, ws ++ us, rfl, hp, Nodes.app hu hr⟩
  | .cho hd cs o r, _, h => by
    obtain ⟨p, ws, ca, cvs, oa, ovs, rfl, hp, hc, hcs, ho, hos, hr⟩ := h
    exact ⟨p, ws ++ us, ca, cvs, oa, ovs, rfl, hp, hc, hcs, ho, hos, Nodes.app hu hr⟩
  | .cas k m r, _, h => by
    obtain ⟨p, ws, ma, mvs, rfl, hp, hm, hms, hr⟩ := h
    exact ⟨p, ws ++ us, ma, mvs, rfl, hp, hm, hms, Nodes.app hu hr⟩
section
variable {P : Program} {w : World} {K : PySem.W.Frag} {mg : Str → Option Value} {base : Heap}
/-! ### _law_cell -/
abbrev sCell : Stmt := top 7
theorem scCell : FnScope ["script", "k"] ["script", "k"] (defScope sCell) := ⟨rfl, rfl, rfl, by decide +kernel, rfl, by decide +kernel, by decide +kernel⟩
def spCell (K : PySem.W.Frag) : Sp := fun vs H Q _ => ∃ (a : Addr) (ns : List Int) (k : Int), vs = [.ref a, .int k] ∧ SqL K H a (ns.map V.int) ∧ 0 ≤ k ∧ ∀ z, Q (.int z) H
theorem ok_cell {f : Addr} {fd : FuncData} (F : Fun K "_law_cell" "_law_cell" sCell f fd) (ml : mg "len" = none) : FnOk P w K mg base CX0 1 f fd ["script", "k"] (spCell K) := by
  refine F.ok scCell (fun vs H Q E h => ?_) (fun cdv A outer s H vs Q E hr h => ?_)
  · obtain ⟨a, ns, k, rfl, _⟩ := h
    rfl
  obtain ⟨a, ns, k, rfl, hS, h0, q⟩ := h
  refine ⟨_, pss_cons (ps_if (pt_cmpR op_lt (pv 1) (pe_callB call_len_seq (by rfl) ml PySem.boot_len (pa_cons (pv 0) pa_nil)) (nomark _)) (pss_one (ps_ret (pe_ix ix_list (pv 0) (pv 1) (fun _ _ => rfl)))) pss_nil)
    (pss_one (ps_ret pe_int)), ?_⟩
  refine ⟨_, rfl, _, rfl, a, _, rfl, .inl hS, _, _, rfl, rfl, _, rfl, ?_⟩
  refine ite2 (fun c => ?_) (fun c => ?_)
  · have c' := of_decide_eq_true c
    rw [List.length_map] at c'
    have hk : k.toNat < ns.length := by omega
    refine ⟨_, rfl, _, rfl, a, _, k, .int ns[k.toNat], rfl, rfl, hS, at_of (j := k.toNat) (by omega) (by rw [List.getElem?_map, List.getElem?_eq_getElem hk] <;> rfl), q _⟩
  · exact q _
end
end Mw

namespace Mw
open PySem L2
section
variable {P : Program} {w : World} {K : PySem.W.Frag} {mg : Str → Option Value} {base : Heap}
/-! ### _law_digits: a new list of ints -/
abbrev sDigits : Stmt := top 8
theorem scDigits : FnScope ["script", "first", "last", "digits", "k", "cell", "turn", "seed"] ["script", "first", "last"] (defScope sDigits) := ⟨rfl, rfl, rfl, by decide +kernel, rfl, by decide +kernel, by decide +kernel⟩
def spDigits (K : PySem.W.Frag) : Sp := fun vs H Q _ => ∃ (a : Addr) (ns : List Int), vs = [.ref a, .int 0, .int 63] ∧ SqL K H a (ns.map V.int) ∧ ∀ (d : Addr) (H' : Hp) (ds : List Int), H d = none → Same H H' → H' d = some (.lst (ds.map V.int)) → Q (.ref d) H'
theorem len_ints (ds : List Int) (z : Int) : ds.map V.int ++ [V.int z] = (ds ++ [z]).map V.int := by simp
theorem ok_digits {f fC : Addr} {fd fdC : FuncData} (F : Fun K "_law_digits" "_law_digits" sDigits f fd) (GC : FnOk P w K mg base CX0 1 fC fdC ["script", "k"] (spCell K)) (bC : Binds K fdC ["script", "k"] []) (kC : PySem.W.keepIn K (.ref fC) = true) (mC : mg "_law_cell" = some (.ref fC)) (mr : mg "range" = none) (mi : mg "int" = none) :
    FnOk P w K mg base CX0 2 f fd ["script", "first", "last"] (spDigits K) := by
  refine F.ok scDigits (fun vs H Q E h => ?_) (fun cdv A outer s H vs Q E hr h => ?_)
  · obtain ⟨a, ns, rfl, _⟩ := h
    rfl
  obtain ⟨a, ns, rfl, hS, q⟩ := h
  have nd := scDigits.nd
  refine ⟨_, pss_cons (ps_set (i := 3) nd rfl (.inl rfl) (pe_lst pa_nil))
    (pss_cons (ps_for PassesOwn.never rfl (pi_range2 rfl mr (pa_cons (pv 1) (pa_cons (pv 2) pa_nil))) (pg_name (i := 4) nd rfl (.inl rfl))
      (pss_cons (ps_set (i := 5) nd rfl (.inl rfl) (pe_call GC hr rfl mC kC bC .nil pass0 (pa_cons (pv 0) (pa_cons (pv 4) pa_nil))))
      (Evl.pss_cut (ps_if (pt_cmpR op_lt (pv 5) pe_int (nomark _)) (pss_one (ps_set (i := 5) nd rfl (.inl rfl) (pe_op op_sub pe_int (pe_op op_mul pe_int (pv 5))))) pss_nil)
      (pss_one (ps_if (pt_cmpR op_ge (pv 5) (pe_op op_pow pe_int pe_int) (nomark _))
        (pss_one (ps_for PassesOwn.never rfl (pi_range1 rfl mr (pa_cons pe_int pa_nil)) (pg_name (i := 6) nd rfl (.inl rfl))
          (pss_one (ps_if (pt_cmpR op_gt (pv 5) pe_int (nomark _))
            (pss_cons (ps_expr (pe_bm PySem.F.plainAttrs_list PySem.F.slot_list_append PySem.F.type_list_append mt_append (pv 3) (pa_cons (pe_op op_mod (pe_callTy call_int1 (by rfl) mi (by decide +kernel) (pa_cons (pv 5) pa_nil)) pe_int) pa_nil)))
            (pss_one (ps_set (i := 5) nd rfl (.inl rfl) (pe_op op_fdiv (pv 5) pe_int)))) pss_nil))))
        (pss_cons (ps_set (i := 7) nd rfl (.inl rfl) (pe_op op_mod (pe_callTy call_int1 (by rfl) mi (by decide +kernel) (pa_cons (pe_op op_add (pe_op op_add (pe_op op_mul (pv 5) pe_int) (pe_op op_mul (pv 4) pe_int)) pe_int) pa_nil)) pe_int))
        (pss_one (ps_for PassesOwn.never rfl (pi_range1 rfl mr (pa_cons pe_int pa_nil)) (pg_name (i := 6) nd rfl (.inl rfl))
          (pss_cons (ps_set (i := 7) nd rfl (.inl rfl) (pe_op op_mod (pe_callTy call_int1 (by rfl) mi (by decide +kernel) (pa_cons (pe_op op_add (pe_op op_add (pe_op op_mul (pv 7) pe_int) (pe_op op_mul pe_int (pv 6))) pe_int) pa_nil)) pe_int))
          (pss_one (ps_expr (pe_bm PySem.F.plainAttrs_list PySem.F.slot_list_append PySem.F.type_list_append mt_append (pv 3) (pa_cons (pe_op op_mod (pe_callTy call_int1 (by rfl) mi (by decide +kernel) (pa_cons (pe_op op_fdiv (pv 7) pe_int) pa_nil)) pe_int) pa_nil)))))))))))))
    (pss_one (ps_ret (pv 3)))), ?_⟩
  refine ⟨Nat.zero_le _, fun d nd0 => ?_⟩
  have s1 : Same H (upd H d (.lst [])) := same_new nd0 _
  refine ⟨_, rfl, _, rfl, 0, 63, rfl, by decide, for_range (lo := 0) (n := (63 - 0 : Int).toNat) (fun i σ H' => ∃ (ds : List Int) (o4 o5 o6 o7 : Option V), σ = [some (.ref a), some (.int 0), some (.int 63), some (.ref d), o4, o5, o6, o7] ∧ Same H H' ∧ H' d = some (.lst (ds.map V.int)) ∧ ds.length ≤ 60 * i)
    ⟨[], none, none, none, none, rfl, s1, upd_same, Nat.le_refl _⟩ ?_ ?_⟩
  · rintro i σ H2 hi ⟨ds, o4, o5, o6, o7, rfl, s2, hd, hl⟩
    refine ⟨_, rfl, _, rfl, a, ns, _, rfl, s2.seq hS, by omega, fun z => ?_⟩
    refine ⟨fun σ' H' => ∃ z' : Int, σ' = [some (.ref a), some (.int 0), some (.int 63), some (.ref d), some (.int (0 + i)), some (.int z'), o6, o7] ∧ H' = H2, ?_, ?_⟩
    · refine ⟨_, rfl, _, _, rfl, rfl, _, rfl, ?_⟩
      refine ite2 (fun _ => ?_) (fun _ => ?_)
      · exact ⟨_, rfl, _, _, rfl, rfl, .inl (by decide), _, _, rfl, rfl, _, rfl, rfl⟩
      · exact ⟨_, rfl, rfl⟩
    · rintro σ' H' ⟨z', rfl, rfl⟩
      refine ⟨_, rfl, _, _, rfl, rfl, (by unfold CPow; decide), _, _, rfl, rfl, _, rfl, ?_⟩
      refine ite2 (fun _ => ?_) (fun _ => ?_)
      · refine ⟨60, rfl, by decide, by decide, for_range (lo := 0) (n := 60) (fun j σ H' => ∃ (ds' : List Int) (z' : Int) (o6 : Option V), σ = [some (.ref a), some (.int 0), some (.int 63), some (.ref d), some (.int (0 + i)), some (.int z'), o6, o7] ∧ Same H H' ∧ H' d = some (.lst (ds'.map V.int)) ∧ ds'.length ≤ 60 * i + j)
          ⟨ds, z', o6, rfl, s2, hd, hl⟩ ?_ ?_⟩
        · rintro j σ H3 hj ⟨ds', z'', o6, rfl, s3, hd3, hl3⟩
          refine ⟨_, rfl, _, _, rfl, rfl, _, rfl, ?_⟩
          refine ite2 (fun _ => ?_) (fun _ => ?_)
          · refine ⟨_, rfl, .inl ⟨rfl, _, SqL.of hd3⟩, _, rfl, .inl ⟨_, rfl, _, _, rfl, rfl, (by show (0 : Int) < 1000; decide), d, _, _, rfl, rfl, hd3, ?_, ?_⟩⟩
            · rw [List.length_map]
              exact Nat.lt_of_lt_of_le (show ds'.length < 100000 by omega) (by decide)
            · refine ⟨_, rfl, _, _, rfl, rfl, ⟨by decide, by decide⟩, ds' ++ [z'' % 1000], _, _, rfl, same_mut s3 nd0 _, ?_, ?_⟩
              · rw [upd_same, len_ints]
              · rw [List.length_append, List.length_singleton]
                omega
          · exact ⟨ds', _, _, rfl, s3, hd3, by omega⟩
        · rintro σ H3 ⟨ds', z'', o6, rfl, s3, hd3, hl3⟩
          exact ⟨ds', _, _, _, _, rfl, s3, hd3, by omega⟩
      · refine ⟨_, rfl, _, _, rfl, rfl, .inr (by decide), _, rfl, _, _, rfl, rfl, .inr (by decide), _, _, rfl, rfl, _, _, rfl, rfl, .inl ⟨_, rfl, _, _, rfl, rfl, (by show (0 : Int) < 2147483647; decide), ?_⟩⟩
        refine ⟨12, rfl, by decide, by decide, for_range (lo := 0) (n := 12) (fun j σ H' => ∃ (ds' : List Int) (z7 : Int) (o6 : Option V), σ = [some (.ref a), some (.int 0), some (.int 63), some (.ref d), some (.int (0 + i)), some (.int z'), o6, some (.int z7)] ∧ Same H H' ∧ H' d = some (.lst (ds'.map V.int)) ∧ ds'.length ≤ 60 * i + j)
          ⟨ds, _, o6, rfl, s2, hd, hl⟩ ?_ ?_⟩
        · rintro j σ H3 hj ⟨ds', z7, o6, rfl, s3, hd3, hl3⟩
          refine ⟨_, rfl, _, _, rfl, rfl, .inr (by decide), _, rfl, _, _, rfl, rfl, .inl (by decide), _, _, rfl, rfl, _, _, rfl, rfl, .inl ⟨_, rfl, _, _, rfl, rfl, (by show (0 : Int) < 2147483647; decide), ?_⟩⟩
          refine ⟨_, rfl, .inl ⟨rfl, _, SqL.of hd3⟩, _, rfl, _, _, rfl, rfl, ⟨by decide, by decide⟩, .inl ⟨_, rfl, _, _, rfl, rfl, (by show (0 : Int) < 1000; decide), d, _, _, rfl, rfl, hd3, ?_, ?_⟩⟩
          · rw [List.length_map]
            exact Nat.lt_of_lt_of_le (show ds'.length < 100000 by omega) (by decide)
          · refine ⟨ds' ++ [((z7 * 16807 + 7 * (0 + (j : Int)) + 1) % 2147483647 / 997) % 1000], _, _, rfl, same_mut s3 nd0 _, ?_, ?_⟩
            · rw [upd_same, len_ints]
            · rw [List.length_append, List.length_singleton]
              omega
        · rintro σ H3 ⟨ds', z7, o6, rfl, s3, hd3, hl3⟩
          exact ⟨ds', _, _, _, _, rfl, s3, hd3, by omega⟩
  · rintro σ H2 ⟨ds, o4, o5, o6, o7, rfl, s2, hd, hl⟩
    exact ⟨_, rfl, q d H2 ds nd0 s2 hd⟩
end
end Mw

namespace Mw
open PySem L2
/-! ### how a heap goes on: all but the box stays, nothing is given up -/
structure Go (B : Addr) (H H' : Hp) : Prop where
  ext : ∀ b o, b ≠ B → H b = some o → H' b = some o
  dom : ∀ b, H' b = none → H b = none
theorem Go.refl (B : Addr) (H : Hp) : Go B H H := ⟨fun _ _ _ h => h, fun _ h => h⟩
theorem Go.trans {B : Addr} {H H1 H2 : Hp} (a : Go B H H1) (b : Go B H1 H2) : Go B H H2 := ⟨fun c o n h => b.ext c o n (a.ext c o n h), fun c h => a.dom c (b.dom c h)⟩
theorem upd_none {H : Hp} {p b : Addr} {o : HO} (h : upd H p o b = none) : H b = none := by
  unfold upd at h
  split at h
  · cases h
  · exact h
theorem Go.new {B : Addr} {H : Hp} {p : Addr} (h : H p = none) (o : HO) : Go B H (upd H p o) := ⟨fun b u _ q => same_new h o b u q, fun b q => upd_none q⟩
theorem Go.mut {B : Addr} {H H' : Hp} {p : Addr} (g : Go B H H') (h : H p = none) (o : HO) : Go B H (upd H' p o) :=
  ⟨fun b u n q => by
    rw [upd_ne (ne_of_none q h)]
    exact g.ext b u n q, fun b q => g.dom b (upd_none q)⟩
theorem Go.box (B : Addr) (H : Hp) (o : HO) : Go B H (upd H B o) := ⟨fun b u n q => by rw [upd_ne n]; exact q, fun b q => upd_none q⟩
theorem Go.same {B : Addr} {H H' : Hp} (s : Same H H') : Go B H H' := ⟨fun b o _ h => s b o h, fun b h => s.free h⟩
/-- what is new in H, seen from H0 -/
def fr (H0 H : Hp) : Hp := fun a => match H0 a with
  | none => H a
  | some _ => none
theorem fr_new {H0 H : Hp} {a : Addr} (h : H0 a = none) : fr H0 H a = H a := by
  unfold fr
  rw [h]
theorem fr_old {H0 H : Hp} {a : Addr} {o : HO} (h : H0 a = some o) : fr H0 H a = none := by
  unfold fr
  rw [h]
theorem fr_in {H0 H : Hp} {a : Addr} {o : HO} (h : fr H0 H a = some o) : H0 a = none ∧ H a = some o := by
  unfold fr at h
  split at h
  · exact ⟨by assumption, h⟩
  · cases h
theorem fr_go {B : Addr} {H0 H1 H2 : Hp} {ob : HO} (hb : H0 B = some ob) (g : Go B H1 H2) : Same (fr H0 H1) (fr H0 H2) := fun a o h => by
  obtain ⟨h0, h1⟩ := fr_in h
  rw [fr_new h0]
  exact g.ext a o (by rintro rfl; rw [hb] at h0; cases h0) h1
theorem fr_same {H0 H1 H2 : Hp} (g : Same H1 H2) : Same (fr H0 H1) (fr H0 H2) := fun a o h => by
  obtain ⟨h0, h1⟩ := fr_in h
  rw [fr_new h0]
  exact g a o h1
theorem fr_mut {H0 H1 : Hp} {l : Addr} {ol : HO} (hl : H0 l = some ol) (o : HO) : Same (fr H0 H1) (fr H0 (upd H1 l o)) := fun a u h => by
  obtain ⟨h0, h1⟩ := fr_in h
  rw [fr_new h0, upd_ne (by rintro rfl; rw [hl] at h0; cases h0)]
  exact h1
theorem fr_dom {H0 H1 H2 : Hp} (g : ∀ b, H1 b = none → H0 b = none) : Same (fr H1 H2) (fr H0 H2) := fun a u h => by
  obtain ⟨h0, h1⟩ := fr_in h
  rw [fr_new (g a h0)]
  exact h1
theorem fr_out {H0 H : Hp} : Same (fr H0 H) H := fun a o h => (fr_in h).2
/-- the box: digits and a place -/
def Box (H : Hp) (B d : Addr) : Prop := ∃ (ds : List Int) (i : Int), H B = some (.lst [.ref d, .int i]) ∧ H d = some (.lst (ds.map V.int)) ∧ 0 ≤ i
theorem Box.isB {H : Hp} {B d : Addr} (b : Box H B d) : ∃ o, H B = some o := by
  obtain ⟨ds, i, h, _⟩ := b
  exact ⟨_, h⟩
theorem Box.isD {H : Hp} {B d : Addr} (b : Box H B d) : ∃ o, H d = some o := by
  obtain ⟨ds, i, _, h, _⟩ := b
  exact ⟨_, h⟩
theorem Box.neB {H : Hp} {B d l : Addr} (b : Box H B d) (h : H l = none) : l ≠ B := by
  obtain ⟨o, hB⟩ := b.isB
  exact (ne_of_none hB h).symm
theorem Box.neD {H : Hp} {B d l : Addr} (b : Box H B d) (h : H l = none) : l ≠ d := by
  obtain ⟨o, hB⟩ := b.isD
  exact (ne_of_none hB h).symm
theorem Box.ne {H : Hp} {B d : Addr} {ds : List Int} {i : Int} (h : H B = some (.lst [.ref d, .int i])) (hd : H d = some (.lst (ds.map V.int))) : d ≠ B := by
  rintro rfl
  rw [h] at hd
  cases ds with
  | nil => cases hd
  | cons z r => cases hd
theorem Box.same {H H' : Hp} {B d : Addr} (s : Same H H') (b : Box H B d) : Box H' B d := by
  obtain ⟨ds, i, h, hd, hi⟩ := b
  exact ⟨ds, i, s _ _ h, s _ _ hd, hi⟩
theorem Box.mut {H : Hp} {B d l : Addr} (b : Box H B d) (hB : l ≠ B) (hd : l ≠ d) (o : HO) : Box (upd H l o) B d := by
  obtain ⟨ds, i, h, hd', hi⟩ := b
  exact ⟨ds, i, by rw [upd_ne hB.symm]; exact h, by rw [upd_ne hd.symm]; exact hd', hi⟩
theorem Box.new {H : Hp} {B d l : Addr} (b : Box H B d) (h : H l = none) (o : HO) : Box (upd H l o) B d := b.mut (b.neB h) (b.neD h) o
section
variable {P : Program} {w : World} {K : PySem.W.Frag} {mg : Str → Option Value} {base : Heap}
/-! ### _law_draw -/
abbrev sDraw : Stmt := top 9
theorem scDraw : FnScope ["box", "many", "at"] ["box", "many"] (defScope sDraw) := ⟨rfl, rfl, rfl, by decide +kernel, rfl, by decide +kernel, by decide +kernel⟩
def spDraw : Sp := fun vs H Q _ => ∃ (B d : Addr) (n : Int), vs = [.ref B, .int n] ∧ 0 < n ∧ Box H B d ∧ ∀ z H', 0 ≤ z → z < n → Go B H H' → Box H' B d → Q (.int z) H'
theorem ok_draw {f : Addr} {fd : FuncData} (F : Fun K "_law_draw" "_law_draw" sDraw f fd) (ml : mg "len" = none) (mi : mg "int" = none) : FnOk P w K mg base CX0 1 f fd ["box", "many"] spDraw := by
  refine F.ok scDraw (fun vs H Q E h => ?_) (fun cdv A outer s H vs Q E hr h => ?_)
  · obtain ⟨B, d, n, rfl, _⟩ := h
    rfl
  obtain ⟨B, d, n, rfl, h0, ⟨ds, i, hB, hd, hi⟩, q⟩ := h
  have nd := scDraw.nd
  refine ⟨_, pss_cons (ps_set (i := 2) nd rfl (.inl rfl) (pe_ix ix_list (pv 0) pe_int (fun _ _ => rfl)))
    (pss_cons (ps_asg (pe_op op_add (pv 2) pe_int) (pg_sub (pv 0) pe_int set_list))
    (pss_cons (ps_if (pt_cmpR op_lt (pv 2) (pe_callB call_len_seq (by rfl) ml PySem.boot_len (pa_cons (pe_ix ix_list (pv 0) pe_int (fun _ _ => rfl)) pa_nil)) (nomark _))
      (pss_one (ps_ret (pe_op op_mod (pe_callTy call_int1 (by rfl) mi (by decide +kernel) (pa_cons (pe_ix ix_list (pe_ix ix_list (pv 0) pe_int (fun _ _ => rfl)) (pv 2) (fun _ _ => rfl)) pa_nil)) (pv 1)))) pss_nil)
    (pss_one (ps_ret pe_int)))), ?_⟩
  have ne : d ≠ B := Box.ne hB hd
  refine ⟨_, rfl, B, _, 1, _, rfl, rfl, SqL.of hB, atI_nat (j := 1) rfl, ?_⟩
  refine ⟨_, rfl, _, _, rfl, rfl, _, rfl, B, _, 1, 1, rfl, rfl, hB, rfl, ?_⟩
  have hB' : upd H B (.lst [.ref d, .int (i + 1)]) B = some (.lst [.ref d, .int (i + 1)]) := upd_same
  have hd' : upd H B (.lst [.ref d, .int (i + 1)]) d = some (.lst (ds.map V.int)) := by rw [upd_ne ne]; exact hd
  have hb : Box (upd H B (.lst [.ref d, .int (i + 1)])) B d := ⟨ds, i + 1, hB', hd', by omega⟩
  refine ⟨_, rfl, _, rfl, B, _, 0, _, rfl, rfl, SqL.of hB', atI_nat (j := 0) rfl, d, _, rfl, .inl (SqL.of hd'), _, _, rfl, rfl, _, rfl, ?_⟩
  refine ite2 (fun c => ?_) (fun c => ?_)
  · have c' := of_decide_eq_true c
    rw [List.length_map] at c'
    have hk : i.toNat < ds.length := by omega
    refine ⟨_, rfl, B, _, 0, _, rfl, rfl, SqL.of hB', atI_nat (j := 0) rfl, _, rfl, d, _, i, .int ds[i.toNat], rfl, rfl, SqL.of hd', at_of (j := i.toNat) (by omega) (by rw [List.getElem?_map, List.getElem?_eq_getElem hk] <;> rfl), .inl ⟨_, rfl, _, rfl, _, _, rfl, rfl, h0, ?_⟩⟩
    exact q _ _ (Int.emod_nonneg _ (by omega)) (Int.emod_lt_of_pos _ h0) (Go.box B H _) hb
  · exact q 0 _ (by omega) h0 (Go.box B H _) hb
theorem pick {α : Type} {l : List α} {g : α → V} {z : Int} (h0 : 0 ≤ z) (h : z < (l.length : Int)) : ∃ x, x ∈ l ∧ atI (l.map g) z = some (g x) := by
  have hk : z.toNat < l.length := by omega
  exact ⟨l[z.toNat], List.getElem_mem hk, at_of (j := z.toNat) (by omega) (by rw [List.getElem?_map, List.getElem?_eq_getElem hk] <;> rfl)⟩
end
end Mw

namespace Mw
open PySem L2
theorem sz_line {n : Nat} (h : n < 10000000) : n < sizeLine := Nat.lt_of_lt_of_le h (by decide)
theorem le_line {n : Nat} (h : n < 10000000) : n ≤ sizeLine := Nat.le_of_lt (sz_line h)
/-! ### lists of the heap beside lists -/
def A2 {α : Type} (R : α → V → Prop) : List α → List V → Prop
  | [], vs => vs = []
  | x :: xs, vs => ∃ v ws, vs = v :: ws ∧ R x v ∧ A2 R xs ws
theorem A2.mono {α : Type} {R S : α → V → Prop} (h : ∀ x v, R x v → S x v) : ∀ {xs : List α} {vs : List V}, A2 R xs vs → A2 S xs vs
  | [], _, e => e
  | x :: xs, _, e => by
    obtain ⟨v, ws, rfl, h1, h2⟩ := e
    exact ⟨v, ws, rfl, h _ _ h1, A2.mono h h2⟩
theorem A2.length {α : Type} {R : α → V → Prop} : ∀ {xs : List α} {vs : List V}, A2 R xs vs → vs.length = xs.length
  | [], _, e => by rw [show _ = [] from e]; rfl
  | x :: xs, _, e => by
    obtain ⟨v, ws, rfl, _, h2⟩ := e
    exact congrArg (· + 1) h2.length
theorem A2.get {α : Type} {R : α → V → Prop} : ∀ {xs : List α} {vs : List V} {i : Nat} {v : V}, A2 R xs vs → vs[i]? = some v → ∃ x, xs[i]? = some x ∧ R x v
  | [], _, i, v, h, e => by
    rw [show _ = [] from h] at e
    simp at e
  | x :: xs, _, 0, v, h, e => by
    obtain ⟨y, ws, rfl, h1, h2⟩ := h
    have : y = v := by simpa using e
    subst this
    exact ⟨x, rfl, h1⟩
  | x :: xs, _, i + 1, v, h, e => by
    obtain ⟨y, ws, rfl, h1, h2⟩ := h
    obtain ⟨x', e1, e2⟩ := A2.get (i := i) h2 (by simpa using e)
    exact ⟨x', by simpa using e1, e2⟩
theorem A2.app {α : Type} {R : α → V → Prop} {ys : List α} {us : List V} (h' : A2 R ys us) : ∀ {xs : List α} {vs : List V}, A2 R xs vs → A2 R (xs ++ ys) (vs ++ us)
  | [], _, e => by rw [show _ = [] from e]; exact h'
  | x :: xs, _, e => by
    obtain ⟨v, ws, rfl, h1, h2⟩ := e
    exact ⟨v, ws ++ us, rfl, h1, A2.app h' h2⟩
theorem A2.one {α : Type} {R : α → V → Prop} {x : α} {v : V} (h : R x v) : A2 R [x] [v] := ⟨v, [], rfl, h, rfl⟩
theorem A2.snoc {α : Type} {R : α → V → Prop} {xs : List α} {vs : List V} {x : α} {v : V} (h' : A2 R xs vs) (h : R x v) : A2 R (xs ++ [x]) (vs ++ [v]) := A2.app (A2.one h) h'
/-- a list at v, its items beside xs -/
def Ls {α : Type} (R : Hp → α → V → Prop) (H : Hp) (xs : List α) (v : V) : Prop := ∃ r vs, v = .ref r ∧ H r = some (.lst vs) ∧ A2 (R H) xs vs ∧ vs.length < 100000
theorem Ls.same {α : Type} {R : Hp → α → V → Prop} (m : ∀ {H H' : Hp}, Same H H' → ∀ x v, R H x v → R H' x v) {H H' : Hp} (s : Same H H') {xs : List α} {v : V} (h : Ls R H xs v) : Ls R H' xs v := by
  obtain ⟨r, vs, e, h1, h2, h3⟩ := h
  exact ⟨r, vs, e, s _ _ h1, h2.mono (m s), h3⟩
abbrev Rg := Int × Int
abbrev Rel := Int × Bool × List Rg
def RgAt (H : Hp) (x : Rg) (v : V) : Prop := ∃ p, v = .ref p ∧ H p = some (.tup [.int x.1, .int x.2])
def RelAt (H : Hp) (x : Rel) (v : V) : Prop := ∃ p q, v = .ref p ∧ H p = some (.tup [.int x.1, .bl x.2.1, q]) ∧ Ls RgAt H x.2.2 q ∧ 0 ≤ x.1
theorem RgAt.same {H H' : Hp} (s : Same H H') (x : Rg) (v : V) (h : RgAt H x v) : RgAt H' x v := by
  obtain ⟨p, e, h1⟩ := h
  exact ⟨p, e, s _ _ h1⟩
theorem RelAt.same {H H' : Hp} (s : Same H H') (x : Rel) (v : V) (h : RelAt H x v) : RelAt H' x v := by
  obtain ⟨p, q, e, h1, h2, h3⟩ := h
  exact ⟨p, q, e, s _ _ h1, h2.same RgAt.same s, h3⟩
abbrev RowAt (H : Hp) (x : List Rel) (v : V) : Prop := Ls RelAt H x v
theorem RowAt.same {H H' : Hp} (s : Same H H') (x : List Rel) (v : V) (h : RowAt H x v) : RowAt H' x v := Ls.same RelAt.same s h
abbrev ConAt (H : Hp) (x : List (List Rel)) (v : V) : Prop := Ls RowAt H x v
theorem ConAt.same {H H' : Hp} (s : Same H H') (x : List (List Rel)) (v : V) (h : ConAt H x v) : ConAt H' x v := Ls.same RowAt.same s h
abbrev Rule := Str × List (List Rel)
def RuAt (H : Hp) (x : Rule) (v : V) : Prop := ∃ p q, v = .ref p ∧ H p = some (.tup [.str x.1, q]) ∧ ConAt H x.2 q
theorem RuAt.same {H H' : Hp} (s : Same H H') (x : Rule) (v : V) (h : RuAt H x v) : RuAt H' x v := by
  obtain ⟨p, q, e, h1, h2⟩ := h
  exact ⟨p, q, e, s _ _ h1, h2.same s⟩
abbrev RusAt (H : Hp) (x : List Rule) (v : V) : Prop := Ls RuAt H x v
theorem RusAt.same {H H' : Hp} (s : Same H H') (x : List Rule) (v : V) (h : RusAt H x v) : RusAt H' x v := Ls.same RuAt.same s h
/-! ### what holds for a number -/
def rgB (n : Int) (r : Rg) : Bool := decide (r.1 ≤ n) && decide (n ≤ r.2)
def lookN (m n : Int) : Int := if m = 0 then n else n % m
def relB (n : Int) (x : Rel) : Bool := x.2.1 == x.2.2.any (rgB (lookN x.1 n))
def conB (n : Int) (c : List (List Rel)) : Bool := c.any fun row => row.all (relB n)
def catB (n : Int) : List Rule → Str
  | [] => "other"
  | r :: rs => if conB n r.2 then r.1 else catB n rs
def catN (rs : List Rule) (n : Int) : Str := if n < 0 then "other" else catB n rs
theorem take_map {α β : Type} {xs : List α} {i : Nat} {x : α} (g : α → β) (h : xs[i]? = some x) : (xs.take (i + 1)).map g = (xs.take i).map g ++ [g x] := by
  rw [List.take_succ, h, List.map_append]
  rfl
theorem get_lt {α : Type} {xs : List α} {i : Nat} {x : α} (h : xs[i]? = some x) : i < xs.length := (List.getElem?_eq_some_iff.mp h).1
section
variable {P : Program} {w : World} {K : PySem.W.Frag} {mg : Str → Option Value} {base : Heap}
/-! ### relation_holds -/
abbrev sRh : Stmt := top 3
theorem scRh : FnScope ["relation", "number", "modulus", "inside", "ranges", "looked_at", "low", "high"] ["relation", "number"] (defScope sRh) := ⟨rfl, rfl, rfl, by decide +kernel, rfl, by decide +kernel, by decide +kernel⟩
def spRh : Sp := fun vs H Q _ => ∃ (v : V) (x : Rel) (n : Int), vs = [v, .int n] ∧ RelAt H x v ∧ ∀ H', Same H H' → Q (.bl (relB n x)) H'
theorem ok_rh {f : Addr} {fd : FuncData} (F : Fun K "relation_holds" "relation_holds" sRh f fd) (ma : mg "any" = none) : FnOk P w K mg base CX0 1 f fd ["relation", "number"] spRh := by
  refine F.ok scRh (fun vs H Q E h => ?_) (fun cdv A outer s H vs Q E hr h => ?_)
  · obtain ⟨v, x, n, rfl, _⟩ := h
    rfl
  obtain ⟨v, x, n, rfl, ⟨p, rv, rfl, hp, ⟨r, rvs, rfl, hr1, ha, hl⟩, hm⟩, q⟩ := h
  have nd := scRh.nd
  refine ⟨_, pss_cons (ps_asg (pv 0) (pg_tup rfl (pgs_cons (pg_name (i := 2) nd rfl (.inl rfl)) (pgs_cons (pg_name (i := 3) nd rfl (.inl rfl)) (pgs_cons (pg_name (i := 4) nd rfl (.inl rfl)) pgs_nil)))))
    (pss_cons (ps_set (i := 5) nd rfl (.inr rfl) (pe_ifExp (pt_truth (pv 2) (by intro _; rfl)) (pe_op op_mod (pv 1) (pv 2)) (pv 1)))
    (pss_one (ps_ret (pe_cmpR op_eq (pv 3) (pe_callB (cr_any rfl) (by rfl) ma (by decide +kernel) (pa_cons
      (pe_lc (own := [("low", 6), ("high", 7)]) (g := gTup K 2 (gCons (gName 6) (gCons (gName 7) gNil))) (tt := tYes) rfl nd (pi_list (pv 4)) (blkOk_by (N := ["relation", "number", "modulus", "inside", "ranges", "looked_at", "low", "high"]) (sc := defScope sRh) (by decide +kernel))
        (fun _ _ _ _ _ => pg_tup rfl (pgs_cons (pg_name (i := 6) nd rfl (.inl rfl)) (pgs_cons (pg_name (i := 7) nd rfl (.inl rfl)) pgs_nil))) (fun _ _ _ _ _ => pts_nil)
        (fun _ _ _ _ _ => pe_chain op_le op_le (pv 6) (pv 5) (pv 7))) pa_nil)) (nomark _))))), ?_⟩
  refine ⟨_, rfl, p, _, rfl, .inl (.inl hp), rfl, ?_⟩
  obtain ⟨m, i, rs⟩ := x
  have hm' : 0 ≤ m := hm
  have fin : tRet (tOp rEq (tVar 3) (tCB (rAny K) (tCons (tLc (iList K (tVar 4)) (gTup K 2 (gCons (gName 6) (gCons (gName 7) gNil))) tYes (tChain (rI0 fun i j => V.bl (decide (i ≤ j))) (rI0 fun i j => V.bl (decide (i ≤ j))) (tVar 6) (tVar 5) (tVar 7)) [6, 7]) tNil)))
      { nx := fun _ H' => Q V.non H', rt := Q } [some (.ref p), some (.int n), some (.int m), some (.bl i), some (.ref r), some (.int (lookN m n)), none, none] H := by
    refine ⟨_, rfl, _, rfl, r, rfl, ⟨_, SqL.of hr1⟩, fun D hD => ?_⟩
    have s1 : Same H (upd H D (.lst [])) := same_new hD _
    refine lc_list (xs := rvs) (fun j H' => Same H H' ∧ H' D = some (.lst ((rs.take j).map fun z => V.bl (rgB (lookN m n) z)))) ⟨s1, upd_same⟩ (fun j H' _ ⟨s', _⟩ => SqL.of (s' _ _ hr1)) ?_ ?_
    · rintro j x H' hx ⟨s', hD'⟩
      obtain ⟨⟨lo, hi⟩, hz, t, rfl, ht⟩ := A2.get ha hx
      have hlt := get_lt hz
      have hlen := ha.length
      refine ⟨t, _, rfl, .inl (.inl (s' _ _ ht)), rfl, .int lo, _, rfl, .int hi, [], rfl, rfl, rfl, ?_⟩
      have put : ∀ b : Bool, rgB (lookN m n) (lo, hi) = b → ∃ acc, H' D = some (.lst acc) ∧ acc.length < sizeLine ∧ (Same H (upd H' D (.lst (acc ++ [V.bl b]))) ∧ upd H' D (.lst (acc ++ [V.bl b])) D = some (.lst ((rs.take (j + 1)).map fun z => V.bl (rgB (lookN m n) z)))) := by
        intro b hb
        refine ⟨_, hD', sz_line (by rw [List.length_map, List.length_take]; have : rs.length < 100000 := hlen ▸ hl; omega), same_mut s' hD _, ?_⟩
        rw [upd_same, take_map _ hz, hb]
      refine ⟨_, rfl, _, rfl, _, _, rfl, rfl, _, rfl, ?_⟩
      refine ite2 (fun c => ?_) (fun c => ?_)
      · refine ⟨_, rfl, _, _, rfl, rfl, ?_⟩
        refine put _ ?_
        unfold rgB
        rw [show decide (lo ≤ lookN m n) = true from c, Bool.true_and]
      · refine put false ?_
        unfold rgB
        rw [show decide (lo ≤ lookN m n) = false from Bool.eq_false_iff.mpr c, Bool.false_and]
    · rintro H' ⟨s', hD'⟩
      have e1 : rs.length = rvs.length := ha.length.symm
      rw [← e1, List.take_length] at hD'
      refine ⟨D, rs.map (rgB (lookN m n)), rfl, SqL.of (by rw [List.map_map]; exact hD'), ?_⟩
      refine ⟨rfl, ?_⟩
      have e2 : decide (V.bl i = V.bl ((rs.map (rgB (lookN m n))).any id)) = relB n (m, i, rs) := by
        rw [dec_bl, List.any_map]
        rfl
      rw [e2]
      exact q H' s'
  refine ⟨.int m, _, rfl, .bl i, _, rfl, .ref r, [], rfl, rfl, _, rfl, (m != 0), rfl, ?_⟩
  refine ite2 (fun c => ?_) (fun c => ?_)
  · have c' : m ≠ 0 := by simpa using c
    refine ⟨_, rfl, _, rfl, _, _, rfl, rfl, by omega, ?_⟩
    have e : lookN m n = n % m := by unfold lookN; rw [if_neg c']
    have f' := fin
    rw [e] at f'
    exact f'
  · have c' : m = 0 := by simpa using c
    have e : lookN m n = n := by unfold lookN; rw [if_pos c']
    refine ⟨_, rfl, ?_⟩
    have f' := fin
    rw [e] at f'
    exact f'
end
end Mw

namespace Mw
open PySem L2
section
variable {P : Program} {w : World} {K : PySem.W.Frag} {mg : Str → Option Value} {base : Heap}
/-! ### condition_holds -/
abbrev sCh : Stmt := top 4
theorem scCh : FnScope ["condition", "number", "row", "relation"] ["condition", "number"] (defScope sCh) := ⟨rfl, rfl, rfl, by decide +kernel, rfl, by decide +kernel, by decide +kernel⟩
def spCh : Sp := fun vs H Q _ => ∃ (v : V) (x : List (List Rel)) (n : Int), vs = [v, .int n] ∧ ConAt H x v ∧ ∀ H', Same H H' → Q (.bl (conB n x)) H'
theorem ok_ch {f fR : Addr} {fd fdR : FuncData} (F : Fun K "condition_holds" "condition_holds" sCh f fd)
    (GR : FnOk P w K mg base CX0 1 fR fdR ["relation", "number"] spRh) (bR : Binds K fdR ["relation", "number"] []) (kR : PySem.W.keepIn K (.ref fR) = true) (mR : mg "relation_holds" = some (.ref fR))
    (ma : mg "any" = none) (ml : mg "all" = none) : FnOk P w K mg base CX0 2 f fd ["condition", "number"] spCh := by
  refine F.ok scCh (fun vs H Q E h => ?_) (fun cdv A outer s H vs Q E hr h => ?_)
  · obtain ⟨v, x, n, rfl, _⟩ := h
    rfl
  obtain ⟨v, x, n, rfl, ⟨r, cvs, rfl, hr1, ha, hl⟩, q⟩ := h
  have nd := scCh.nd
  refine ⟨_, pss_one (ps_ret (pe_callB (cr_any rfl) (by rfl) ma (by decide +kernel) (pa_cons
      (pe_lc (own := [("row", 2)]) (g := gName 2) (tt := tYes) (te := tCB (rAll K) (tCons (tLc (iList K (tVar 2)) (gName 3) tYes (tCall spRh [] E0 (tCons (tVar 3) (tCons (tVar 1) tNil))) [3]) tNil)) rfl nd (pi_list (pv 0)) (blkOk_by (N := ["condition", "number", "row", "relation"]) (sc := defScope sCh) (by decide +kernel))
        (fun _ _ _ _ _ => pg_name (i := 2) nd rfl (.inl rfl)) (fun _ _ _ _ _ => pts_nil)
        (fun _ _ _ _ _ => by
          refine pe_callB (id := "all") (r := rAll K) (cr_all rfl) (by rfl) ml (by decide +kernel) (pa_cons ?_ pa_nil)
          refine pe_lc (own := [("relation", 3)]) (g := gName 3) (tt := tYes) (wi := iList K (tVar 2)) rfl nd (pi_list (pv 2)) ?_ (fun _ _ _ _ _ => ?_) (fun _ _ _ _ _ => pts_nil) (fun _ _ _ _ _ => ?_)
          · exact blkOk_by (N := ["condition", "number", "row", "relation"]) (sc := { kind := .function, names := [(".0", .local), ("row", .local), ("all", .globalImplicit), ("number", .cell)], isGenerator := false, isCoroutine := false }) (by decide +kernel)
          · exact pg_name (i := 3) nd rfl (.inl rfl)
          · exact pe_call GR hr rfl mR kR bR .nil pass0 (pa_cons (pv 3) (pa_cons (pv 1) pa_nil)))) pa_nil))), ?_⟩
  refine ⟨_, rfl, r, rfl, ⟨_, SqL.of hr1⟩, fun D hD => ?_⟩
  have s1 : Same H (upd H D (.lst [])) := same_new hD _
  refine lc_list (xs := cvs) (fun j H' => Same H H' ∧ H' D = some (.lst ((x.take j).map fun z => V.bl (z.all (relB n))))) ⟨s1, upd_same⟩ (fun j H' _ ⟨s', _⟩ => SqL.of (s' _ _ hr1)) ?_ ?_
  · rintro j y H' hx ⟨s', hD'⟩
    obtain ⟨row, hz, rr, rvs, rfl, hrr, har, hlr⟩ := A2.get ha hx
    have hlt := get_lt hz
    have hlen := ha.length
    have hrow' := s' _ _ hrr
    refine ⟨rfl, _, rfl, rr, rfl, ⟨_, SqL.of hrow'⟩, fun D2 hD2 => ?_⟩
    have s2 : Same H (upd H' D2 (.lst [])) := s'.trans (same_new hD2 _)
    have hne : D ≠ D2 := ne_of_none hD' hD2
    refine lc_list (xs := rvs) (fun j2 H2 => Same H H2 ∧ H2 D = some (.lst ((x.take j).map fun z => V.bl (z.all (relB n)))) ∧ H2 D2 = some (.lst ((row.take j2).map fun z => V.bl (relB n z)))) ⟨s2, by rw [upd_ne hne]; exact hD', upd_same⟩ (fun j2 H2 _ ⟨s', _⟩ => SqL.of (s' _ _ hrr)) ?_ ?_
    · rintro j2 y2 H2 hx2 ⟨s3, hD3, hD23⟩
      obtain ⟨rel, hz2, hrel⟩ := A2.get har hx2
      have hlt2 := get_lt hz2
      have hlen2 := har.length
      refine ⟨rfl, _, rfl, _, rfl, y2, rel, n, rfl, hrel.same s3, fun H3 s4 => ?_⟩
      refine ⟨_, s4 _ _ hD23, sz_line (by rw [List.length_map, List.length_take]; omega), same_mut (s3.trans s4) (s'.free hD2) _, ?_, ?_⟩
      · rw [upd_ne hne]
        exact s4 _ _ hD3
      · rw [upd_same, take_map _ hz2]
    · rintro H2 ⟨s3, hD3, hD23⟩
      have e1 : row.length = rvs.length := har.length.symm
      rw [← e1, List.take_length] at hD23
      refine ⟨D2, row.map (relB n), rfl, SqL.of (by rw [List.map_map]; exact hD23), ?_⟩
      refine ⟨_, hD3, sz_line (by rw [List.length_map, List.length_take]; omega), same_mut s3 hD _, ?_⟩
      rw [upd_same, take_map _ hz, List.all_map]
      rfl
  · rintro H' ⟨s', hD'⟩
    have e1 : x.length = cvs.length := ha.length.symm
    rw [← e1, List.take_length] at hD'
    refine ⟨D, x.map (fun row => row.all (relB n)), rfl, SqL.of (by rw [List.map_map]; exact hD'), ?_⟩
    rw [List.any_map]
    exact q H' s'
end
end Mw

namespace Mw
open PySem L2
/-- what the row says of the class Language -/
structure LC (K : PySem.W.Frag) (C : Addr) : Prop where
  c : Cls K C
  nr : NoAttr K C "rules"
/-- a language at v -/
def LanAt (C : Addr) (H : Hp) (rs : List Rule) (v : V) : Prop := ∃ o dx q, v = .ref o ∧ H o = some (.ins C dx [("rules", q)]) ∧ RusAt H rs q
theorem LanAt.same {C : Addr} {H H' : Hp} (s : Same H H') {rs : List Rule} {v : V} (h : LanAt C H rs v) : LanAt C H' rs v := by
  obtain ⟨o, dx, q, e, h1, h2⟩ := h
  exact ⟨o, dx, q, e, s _ _ h1, h2.same s⟩
theorem catB_drop {n : Int} {rs : List Rule} {i : Nat} {r : Rule} (h : rs[i]? = some r) : catB n (rs.drop i) = if conB n r.2 then r.1 else catB n (rs.drop (i + 1)) := by
  have e : rs.drop i = r :: rs.drop (i + 1) := by
    rw [List.drop_eq_getElem_cons (get_lt h)]
    have := List.getElem?_eq_some_iff.mp h
    obtain ⟨_, h2⟩ := this
    rw [h2]
  rw [e]
  rfl
section
variable {P : Program} {w : World} {K : PySem.W.Frag} {mg : Str → Option Value} {base : Heap} {C : Addr}
/-! ### category_of -/
abbrev sCo : Stmt := top 5
theorem scCo : FnScope ["language", "number", "category", "condition"] ["language", "number"] (defScope sCo) := ⟨rfl, rfl, rfl, by decide +kernel, rfl, by decide +kernel, by decide +kernel⟩
def spCo (C : Addr) : Sp := fun vs H Q _ => ∃ (v : V) (rs : List Rule) (n : Int), vs = [v, .int n] ∧ LanAt C H rs v ∧ ∀ H', Same H H' → Q (.str (catN rs n)) H'
theorem ok_co {f fR : Addr} {fd fdR : FuncData} (F : Fun K "category_of" "category_of" sCo f fd) (L : LC K C)
    (GR : FnOk P w K mg base CX0 2 fR fdR ["condition", "number"] spCh) (bR : Binds K fdR ["condition", "number"] []) (kR : PySem.W.keepIn K (.ref fR) = true) (mR : mg "condition_holds" = some (.ref fR)) :
    FnOk P w K mg base CX0 3 f fd ["language", "number"] (spCo C) := by
  refine F.ok scCo (fun vs H Q E h => ?_) (fun cdv A outer s H vs Q E hr h => ?_)
  · obtain ⟨v, x, n, rfl, _⟩ := h
    rfl
  obtain ⟨v, rs, n, rfl, ⟨o, dx, qv, rfl, ho, ⟨r, rvs, rfl, hr1, ha, hl⟩⟩, q⟩ := h
  have nd := scCo.nd
  refine ⟨_, pss_cons (ps_if (pt_cmpR op_lt (pv 1) pe_int (nomark _)) (pss_one (ps_ret pe_str)) pss_nil)
    (pss_cons (ps_for PassesOwn.never rfl (pi_list (pe_fld (pv 0) rfl)) (pg_tup rfl (pgs_cons (pg_name (i := 2) nd rfl (.inl rfl)) (pgs_cons (pg_name (i := 3) nd rfl (.inl rfl)) pgs_nil)))
      (pss_one (ps_if (pt_val (pe_call GR hr rfl mR kR bR .nil pass0 (pa_cons (pv 3) (pa_cons (pv 1) pa_nil)))) (pss_one (ps_ret (pv 2))) pss_nil)))
    (pss_one (ps_ret pe_str))), ?_⟩
  refine ⟨_, rfl, _, _, rfl, rfl, _, rfl, ?_⟩
  refine ite2 (fun c => ?_) (fun c => ?_)
  · have c' := of_decide_eq_true c
    have e : catN rs n = "other" := by unfold catN; rw [if_pos c']
    rw [e] at q
    exact q H fun _ _ h => h
  have c' : ¬ n < 0 := of_decide_eq_false (Bool.eq_false_iff.mpr c)
  have e : catN rs n = catB n rs := by unfold catN; rw [if_neg c']
  rw [e] at q
  refine ⟨_, rfl, o, C, dx, _, .ref r, rfl, ho, L.c, L.nr, rfl, r, rfl, ⟨_, SqL.of hr1⟩, ?_⟩
  refine for_list (xs := rvs) (fun i σ H' => Same H H' ∧ (∃ o2 o3, σ = [some (.ref o), some (.int n), o2, o3]) ∧ catB n rs = catB n (rs.drop i)) ⟨fun _ _ h => h, ⟨_, _, rfl⟩, rfl⟩ (fun i σ H' _ ⟨s', _⟩ => SqL.of (s' _ _ hr1)) ?_ ?_
  · rintro i x σ H' hx ⟨s', ⟨o2, o3, rfl⟩, hcat⟩
    obtain ⟨⟨ct, con⟩, hz, p, cv, rfl, hp, hcon⟩ := A2.get ha hx
    rw [catB_drop hz] at hcat
    refine ⟨p, _, rfl, .inl (.inl (s' _ _ hp)), rfl, .str ct, _, rfl, cv, [], rfl, rfl, ?_⟩
    refine ⟨_, rfl, _, rfl, cv, con, n, rfl, hcon.same s', fun H2 s2 => ⟨_, rfl, ?_⟩⟩
    cases hb : conB n con with
    | true =>
      rw [if_pos (show conB n (ct, con).2 = true from hb)] at hcat
      refine ⟨_, rfl, ?_⟩
      have q' := q H2 (s'.trans s2)
      rw [hcat] at q'
      exact q'
    | false =>
      rw [if_neg (show ¬ conB n (ct, con).2 = true by rw [show conB n (ct, con).2 = false from hb]; exact Bool.false_ne_true)] at hcat
      exact ⟨s'.trans s2, ⟨_, _, rfl⟩, hcat⟩
  · rintro σ H' ⟨s', ⟨o2, o3, rfl⟩, hcat⟩
    rw [show rs.drop rvs.length = [] from List.drop_eq_nil_of_le (Nat.le_of_eq ha.length.symm)] at hcat
    have q' := q H' s'
    rw [hcat] at q'
    exact q'
end
end Mw

namespace Mw
open PySem L2
theorem conB_drop {n : Int} {x : List (List Rel)} {i : Nat} {r : List Rel} (h : x[i]? = some r) : conB n (x.drop i) = (r.all (relB n) || conB n (x.drop (i + 1))) := by
  have e : x.drop i = r :: x.drop (i + 1) := by
    rw [List.drop_eq_getElem_cons (get_lt h)]
    obtain ⟨_, h2⟩ := List.getElem?_eq_some_iff.mp h
    rw [h2]
  rw [e]
  rfl
theorem all_take {α : Type} {x : List α} {i : Nat} {r : α} (g : α → Bool) (h : x[i]? = some r) : (x.take (i + 1)).all g = ((x.take i).all g && g r) := by
  rw [List.take_succ, h, List.all_append]
  simp
theorem any_take {α : Type} {x : List α} {i : Nat} {r : α} (g : α → Bool) (h : x[i]? = some r) : (x.take (i + 1)).any g = ((x.take i).any g || g r) := by
  rw [List.take_succ, h, List.any_append]
  simp
section
variable {P : Program} {w : World} {K : PySem.W.Frag} {mg : Str → Option Value} {base : Heap} {C : Addr}
/-! ### _law_holds -/
abbrev sLh : Stmt := top 13
abbrev nLh : List Str := ["condition", "number", "row", "good", "modulus", "inside", "ranges", "value", "within", "low", "high"]
theorem scLh : FnScope nLh ["condition", "number"] (defScope sLh) := ⟨rfl, rfl, rfl, by decide +kernel, rfl, by decide +kernel, by decide +kernel⟩
theorem ok_lh {f : Addr} {fd : FuncData} (F : Fun K "_law_holds" "_law_holds" sLh f fd) (mi : mg "int" = none) : FnOk P w K mg base CX0 1 f fd ["condition", "number"] spCh := by
  refine F.ok scLh (fun vs H Q E h => ?_) (fun cdv A outer s H vs Q E hr h => ?_)
  · obtain ⟨v, x, n, rfl, _⟩ := h
    rfl
  obtain ⟨v, x, n, rfl, ⟨r, cvs, rfl, hr1, ha, hl⟩, q⟩ := h
  have nd := scLh.nd
  refine ⟨_, pss_cons (ps_for PassesOwn.never rfl (pi_list (pv 0)) (pg_name (i := 2) nd rfl (.inl rfl))
      (pss_cons (ps_set (i := 3) nd rfl (.inl rfl) pe_bl)
      (pss_cons (ps_for PassesOwn.never rfl (pi_list (pv 2)) (pg_tup rfl (pgs_cons (pg_name (i := 4) nd rfl (.inl rfl)) (pgs_cons (pg_name (i := 5) nd rfl (.inl rfl)) (pgs_cons (pg_name (i := 6) nd rfl (.inl rfl)) pgs_nil))))
        (pss_cons (ps_set (i := 7) nd rfl (.inl rfl) (pv 1))
        (Evl.pss_cut (ps_if (pt_cmpR op_gt (pv 4) pe_int (nomark _)) (pss_one (ps_set (i := 7) nd rfl (.inl rfl) (pe_op op_mod (pe_callTy call_int1 (by rfl) mi (by decide +kernel) (pa_cons (pv 1) pa_nil)) (pv 4)))) pss_nil)
        (pss_cons (ps_set (i := 8) nd rfl (.inl rfl) pe_bl)
        (pss_cons (ps_for PassesOwn.never rfl (pi_list (pv 6)) (pg_tup rfl (pgs_cons (pg_name (i := 9) nd rfl (.inl rfl)) (pgs_cons (pg_name (i := 10) nd rfl (.inl rfl)) pgs_nil)))
          (pss_one (ps_if (pt_chain op_le op_le (pv 9) (pv 7) (pv 10)) (pss_one (ps_set (i := 8) nd rfl (.inl rfl) pe_bl)) pss_nil)))
        (pss_one (ps_if (pt_cmpR op_ne (pv 8) (pv 5) (nomark _)) (pss_one (ps_set (i := 3) nd rfl (.inl rfl) pe_bl)) pss_nil)))))))
      (pss_one (ps_if (pt_val (pv 3)) (pss_one (ps_ret pe_bl)) pss_nil)))))
    (pss_one (ps_ret pe_bl)), ?_⟩
  refine ⟨_, rfl, r, rfl, ⟨_, SqL.of hr1⟩, ?_⟩
  refine for_list (xs := cvs) (fun i σ H' => H' = H ∧ (∃ o2 o3 o4 o5 o6 o7 o8 o9 o10, σ = [some (.ref r), some (.int n), o2, o3, o4, o5, o6, o7, o8, o9, o10]) ∧ conB n x = conB n (x.drop i)) ⟨rfl, ⟨_, _, _, _, _, _, _, _, _, rfl⟩, rfl⟩ (fun i σ H' _ ⟨e, _⟩ => by rw [e]; exact SqL.of hr1) ?_ ?_
  · rintro i y σ H' hx ⟨rfl, ⟨o2, o3, o4, o5, o6, o7, o8, o9, o10, rfl⟩, hcon⟩
    obtain ⟨row, hz, rr, rvs, rfl, hrr, har, hlr⟩ := A2.get ha hx
    rw [conB_drop hz] at hcon
    refine ⟨_, rfl, rr, rfl, ⟨_, SqL.of hrr⟩, ?_⟩
    refine for_list (xs := rvs) (fun j σ H2 => H2 = H' ∧ (∃ g o4 o5 o6 o7 o8 o9 o10, g = (row.take j).all (relB n) ∧ σ = [some (.ref r), some (.int n), some (.ref rr), some (.bl g), o4, o5, o6, o7, o8, o9, o10])) ⟨rfl, ⟨_, _, _, _, _, _, _, _, rfl, rfl⟩⟩ (fun i σ H2 _ ⟨e, _⟩ => by rw [e]; exact SqL.of hrr) ?_ ?_
    · rintro j y2 σ H2 hx2 ⟨rfl, ⟨g, o4, o5, o6, o7, o8, o9, o10, eg, rfl⟩⟩
      obtain ⟨⟨m, ins, rs⟩, hz2, p, qv, rfl, hp, ⟨ra, gvs, rfl, hra, hag, hlg⟩, hm⟩ := A2.get har hx2
      have hm' : 0 ≤ m := hm
      refine ⟨p, _, rfl, .inl (.inl hp), rfl, .int m, _, rfl, .bl ins, _, rfl, .ref ra, [], rfl, rfl, ?_⟩
      refine ⟨_, rfl, fun σ' H3 => H3 = H2 ∧ σ' = [some (.ref r), some (.int n), some (.ref rr), some (.bl g), some (.int m), some (.bl ins), some (.ref ra), some (.int (lookN m n)), o8, o9, o10], ?_, ?_⟩
      · refine ⟨_, rfl, _, _, rfl, rfl, _, rfl, ?_⟩
        refine ite2 (fun c => ?_) (fun c => ?_)
        · have c' := of_decide_eq_true c
          have e : lookN m n = n % m := by unfold lookN; rw [if_neg (by omega)]
          refine ⟨_, rfl, .inl ⟨n, rfl, _, rfl, _, _, rfl, rfl, c', ?_⟩⟩
          rw [e]
          exact ⟨rfl, rfl⟩
        · have c' := of_decide_eq_false (Bool.eq_false_iff.mpr c)
          have e : lookN m n = n := by unfold lookN; rw [if_pos (by omega)]
          rw [e]
          exact ⟨rfl, rfl⟩
      rintro σ' H3 ⟨rfl, rfl⟩
      refine ⟨_, rfl, ra, rfl, ⟨_, SqL.of hra⟩, ?_⟩
      refine for_list (xs := gvs) (fun k σ H4 => H4 = H3 ∧ (∃ b o9 o10, b = (rs.take k).any (rgB (lookN m n)) ∧ σ = [some (.ref r), some (.int n), some (.ref rr), some (.bl g), some (.int m), some (.bl ins), some (.ref ra), some (.int (lookN m n)), some (.bl b), o9, o10])) ⟨rfl, ⟨_, _, _, rfl, rfl⟩⟩ (fun i σ H4 _ ⟨e, _⟩ => by rw [e]; exact SqL.of hra) ?_ ?_
      · rintro k y3 σ H4 hx3 ⟨rfl, ⟨b, o9, o10, eb, rfl⟩⟩
        obtain ⟨⟨lo, hi⟩, hz3, t, rfl, ht⟩ := A2.get hag hx3
        have e := any_take (rgB (lookN m n)) hz3
        refine ⟨t, _, rfl, .inl (.inl ht), rfl, .int lo, _, rfl, .int hi, [], rfl, rfl, ?_⟩
        refine ⟨_, rfl, _, rfl, _, _, rfl, rfl, _, rfl, ?_⟩
        have put : ∀ b' : Bool, rgB (lookN m n) (lo, hi) = b' → (b || b') = (rs.take (k + 1)).any (rgB (lookN m n)) := fun b' hb => by rw [e, hb, eb]
        refine ite2 (fun c => ?_) (fun c => ?_)
        · refine ⟨_, rfl, _, _, rfl, rfl, _, rfl, ?_⟩
          refine ite2 (fun c2 => ?_) (fun c2 => ?_)
          · have h1 : rgB (lookN m n) (lo, hi) = true := by
              unfold rgB
              rw [show decide (lo ≤ lookN m n) = true from c, show decide (lookN m n ≤ hi) = true from c2]
              rfl
            exact ⟨rfl, ⟨_, _, _, by rw [← put true h1, Bool.or_true], rfl⟩⟩
          · have h1 : rgB (lookN m n) (lo, hi) = false := by
              unfold rgB
              rw [show decide (lookN m n ≤ hi) = false from Bool.eq_false_iff.mpr c2, Bool.and_false]
            exact ⟨rfl, ⟨_, _, _, by rw [← put false h1, Bool.or_false], rfl⟩⟩
        · have h1 : rgB (lookN m n) (lo, hi) = false := by
            unfold rgB
            rw [show decide (lo ≤ lookN m n) = false from Bool.eq_false_iff.mpr c, Bool.false_and]
          refine ⟨_, rfl, ?_⟩
          exact ⟨rfl, ⟨_, _, _, by rw [← put false h1, Bool.or_false], rfl⟩⟩
      · rintro σ H4 ⟨rfl, ⟨b, o9, o10, eb, rfl⟩⟩
        have e1 : rs.length = gvs.length := hag.length.symm
        rw [← e1, List.take_length] at eb
        have e := all_take (relB n) hz2
        have e2 : relB n (m, ins, rs) = (ins == b) := by rw [eb]; rfl
        rw [e2, ← eg] at e
        refine ⟨_, rfl, _, rfl, rfl, _, rfl, ?_⟩
        cases b <;> cases ins
        · exact ⟨rfl, ⟨_, _, _, _, _, _, _, _, by rw [e]; simp, rfl⟩⟩
        · exact ⟨rfl, ⟨_, _, _, _, _, _, _, _, by rw [e]; simp, rfl⟩⟩
        · exact ⟨rfl, ⟨_, _, _, _, _, _, _, _, by rw [e]; simp, rfl⟩⟩
        · exact ⟨rfl, ⟨_, _, _, _, _, _, _, _, by rw [e]; simp, rfl⟩⟩
    · rintro σ H2 ⟨rfl, ⟨g, o4, o5, o6, o7, o8, o9, o10, eg, rfl⟩⟩
      have e1 : row.length = rvs.length := har.length.symm
      rw [← e1, List.take_length] at eg
      subst eg
      refine ⟨_, rfl, _, rfl, ?_⟩
      cases hb : row.all (relB n) with
      | true =>
        rw [hb, Bool.true_or] at hcon
        have q' := q H2 fun _ _ h => h
        rw [hcon] at q'
        exact q'
      | false =>
        rw [hb, Bool.false_or] at hcon
        exact ⟨rfl, ⟨_, _, _, _, _, _, _, _, _, rfl⟩, hcon⟩
  · rintro σ H' ⟨rfl, ⟨o2, o3, o4, o5, o6, o7, o8, o9, o10, rfl⟩, hcon⟩
    rw [show x.drop cvs.length = [] from List.drop_eq_nil_of_le (Nat.le_of_eq ha.length.symm)] at hcon
    have q' := q H' fun _ _ h => h
    rw [hcon] at q'
    exact q'
end
end Mw

namespace Mw
open PySem L2
section
variable {P : Program} {w : World} {K : PySem.W.Frag} {mg : Str → Option Value} {base : Heap} {C : Addr}
/-! ### _law_category -/
abbrev sLc : Stmt := top 14
theorem scLc : FnScope ["rules", "number", "category", "condition"] ["rules", "number"] (defScope sLc) := ⟨rfl, rfl, rfl, by decide +kernel, rfl, by decide +kernel, by decide +kernel⟩
def spLc : Sp := fun vs H Q _ => ∃ (v : V) (rs : List Rule) (n : Int), vs = [v, .int n] ∧ RusAt H rs v ∧ ∀ H', Same H H' → Q (.str (catN rs n)) H'
theorem ok_lcat {f fR : Addr} {fd fdR : FuncData} (F : Fun K "_law_category" "_law_category" sLc f fd)
    (GR : FnOk P w K mg base CX0 1 fR fdR ["condition", "number"] spCh) (bR : Binds K fdR ["condition", "number"] []) (kR : PySem.W.keepIn K (.ref fR) = true) (mR : mg "_law_holds" = some (.ref fR)) :
    FnOk P w K mg base CX0 2 f fd ["rules", "number"] spLc := by
  refine F.ok scLc (fun vs H Q E h => ?_) (fun cdv A outer s H vs Q E hr h => ?_)
  · obtain ⟨v, x, n, rfl, _⟩ := h
    rfl
  obtain ⟨v, rs, n, rfl, ⟨r, rvs, rfl, hr1, ha, hl⟩, q⟩ := h
  have nd := scLc.nd
  refine ⟨_, pss_cons (ps_if (pt_cmpR op_ge (pv 1) pe_int (nomark _))
      (pss_one (ps_for PassesOwn.never rfl (pi_list (pv 0)) (pg_tup rfl (pgs_cons (pg_name (i := 2) nd rfl (.inl rfl)) (pgs_cons (pg_name (i := 3) nd rfl (.inl rfl)) pgs_nil)))
        (pss_one (ps_if (pt_val (pe_call GR hr rfl mR kR bR .nil pass0 (pa_cons (pv 3) (pa_cons (pv 1) pa_nil)))) (pss_one (ps_ret (pv 2))) pss_nil)))) pss_nil)
    (pss_one (ps_ret pe_str)), ?_⟩
  refine ⟨_, rfl, _, _, rfl, rfl, _, rfl, ?_⟩
  refine ite2 (fun c => ?_) (fun c => ?_)
  · have c' : ¬ n < 0 := by
      have := of_decide_eq_true c
      omega
    have e : catN rs n = catB n rs := by unfold catN; rw [if_neg c']
    rw [e] at q
    refine ⟨_, rfl, r, rfl, ⟨_, SqL.of hr1⟩, ?_⟩
    refine for_list (xs := rvs) (fun i σ H' => Same H H' ∧ (∃ o2 o3, σ = [some (.ref r), some (.int n), o2, o3]) ∧ catB n rs = catB n (rs.drop i)) ⟨fun _ _ h => h, ⟨_, _, rfl⟩, rfl⟩ (fun i σ H' _ ⟨s', _⟩ => SqL.of (s' _ _ hr1)) ?_ ?_
    · rintro i x σ H' hx ⟨s', ⟨o2, o3, rfl⟩, hcat⟩
      obtain ⟨⟨ct, con⟩, hz, p, cv, rfl, hp, hcon⟩ := A2.get ha hx
      rw [catB_drop hz] at hcat
      refine ⟨p, _, rfl, .inl (.inl (s' _ _ hp)), rfl, .str ct, _, rfl, cv, [], rfl, rfl, ?_⟩
      refine ⟨_, rfl, _, rfl, cv, con, n, rfl, hcon.same s', fun H2 s2 => ⟨_, rfl, ?_⟩⟩
      cases hb : conB n con with
      | true =>
        rw [if_pos (show conB n (ct, con).2 = true from hb)] at hcat
        refine ⟨_, rfl, ?_⟩
        have q' := q H2 (s'.trans s2)
        rw [hcat] at q'
        exact q'
      | false =>
        rw [if_neg (show ¬ conB n (ct, con).2 = true by rw [show conB n (ct, con).2 = false from hb]; exact Bool.false_ne_true)] at hcat
        exact ⟨s'.trans s2, ⟨_, _, rfl⟩, hcat⟩
    · rintro σ H' ⟨s', ⟨o2, o3, rfl⟩, hcat⟩
      rw [show rs.drop rvs.length = [] from List.drop_eq_nil_of_le (Nat.le_of_eq ha.length.symm)] at hcat
      have q' := q H' s'
      rw [hcat] at q'
      exact q'
  · have c' : n < 0 := by
      have := of_decide_eq_false (Bool.eq_false_iff.mpr c)
      omega
    have e : catN rs n = "other" := by unfold catN; rw [if_pos c']
    rw [e] at q
    exact q H fun _ _ h => h
/-! ### _law_far -/
abbrev sFar : Stmt := top 17
theorem scFar : FnScope ["box"] ["box"] (defScope sFar) := ⟨rfl, rfl, rfl, by decide +kernel, rfl, by decide +kernel, by decide +kernel⟩
def spFar : Sp := fun vs H Q _ => ∃ (B d : Addr), vs = [.ref B] ∧ Box H B d ∧ ∀ z H', 0 ≤ z → Go B H H' → Box H' B d → Q (.int z) H'
theorem ok_far {f fD : Addr} {fd fdD : FuncData} (F : Fun K "_law_far" "_law_far" sFar f fd)
    (GD : FnOk P w K mg base CX0 1 fD fdD ["box", "many"] spDraw) (bD : Binds K fdD ["box", "many"] []) (kD : PySem.W.keepIn K (.ref fD) = true) (mD : mg "_law_draw" = some (.ref fD)) :
    FnOk P w K mg base CX0 2 f fd ["box"] spFar := by
  refine F.ok scFar (fun vs H Q E h => ?_) (fun cdv A outer s H vs Q E hr h => ?_)
  · obtain ⟨B, d, rfl, _⟩ := h
    rfl
  obtain ⟨B, d, rfl, hb, q⟩ := h
  refine ⟨_, pss_one (ps_ret (pe_ix ix_list (pe_lst (pa_cons (pe_call GD hr rfl mD kD bD .nil pass0 (pa_cons (pv 0) (pa_cons pe_int pa_nil)))
    (pa_cons (pe_call GD hr rfl mD kD bD .nil pass0 (pa_cons (pv 0) (pa_cons pe_int pa_nil)))
    (pa_cons (pe_op op_add (pe_op op_mul (pe_call GD hr rfl mD kD bD .nil pass0 (pa_cons (pv 0) (pa_cons pe_int pa_nil))) pe_int) (pe_call GD hr rfl mD kD bD .nil pass0 (pa_cons (pv 0) (pa_cons pe_int pa_nil)))) pa_nil))))
    (pe_call GD hr rfl mD kD bD .nil pass0 (pa_cons (pv 0) (pa_cons pe_int pa_nil))) (fun _ _ => rfl))), ?_⟩
  refine ⟨_, rfl, B, d, 40, rfl, by decide, hb, fun a H1 a0 a1 g1 b1 => ?_⟩
  refine ⟨_, rfl, B, d, 1000, rfl, by decide, b1, fun b H2 b0 b1' g2 b2 => ?_⟩
  refine ⟨_, rfl, B, d, 1000, rfl, by decide, b2, fun c H3 c0 c1 g3 b3 => ?_⟩
  refine ⟨_, _, rfl, rfl, .inr (by decide), ?_⟩
  refine ⟨_, rfl, B, d, 1000, rfl, by decide, b3, fun e H4 e0 e1 g4 b4 => ?_⟩
  refine ⟨_, _, rfl, rfl, ?_⟩
  refine ⟨by show 3 ≤ sizeLine; decide, fun l hl => ?_⟩
  have nB := b4.neB hl
  refine ⟨_, rfl, B, d, 3, rfl, by decide, b4.new hl _, fun z H5 z0 z1 g5 b5 => ?_⟩
  obtain ⟨x, hx, hat⟩ := pick (l := ([a, b, c * 1000000007 + e] : List Int)) (g := V.int) (z := z) z0 (by show z < ((3 : Nat) : Int); omega)
  refine ⟨l, _, z, .int x, rfl, rfl, SqL.of (g5.ext _ _ nB upd_same), hat, ?_⟩
  refine q x H5 ?_ (((((g1.trans g2).trans g3).trans g4).trans (Go.new hl _)).trans g5) b5
  have h3 : 0 ≤ c * 1000000007 + e := by omega
  simp only [List.mem_cons, List.not_mem_nil, or_false] at hx
  rcases hx with rfl | rfl | rfl
  · exact a0
  · exact b0
  · exact h3
end
end Mw

namespace Mw
open PySem L2
theorem fr_new_obj {H0 H : Hp} {p : Addr} {o : HO} (h0 : H0 p = none) (h : H p = some o) : fr H0 H p = some o := by rw [fr_new h0]; exact h
section
variable {P : Program} {w : World} {K : PySem.W.Frag} {mg : Str → Option Value} {base : Heap} {C : Addr}
/-! ### _law_relation -/
abbrev sLr : Stmt := top 10
abbrev nLr : List Str := ["box", "modulus", "ranges", "turn", "low"]
theorem scLr : FnScope nLr ["box"] (defScope sLr) := ⟨rfl, rfl, rfl, by decide +kernel, rfl, by decide +kernel, by decide +kernel⟩
def spLr : Sp := fun vs H Q _ => ∃ (B d : Addr), vs = [.ref B] ∧ Box H B d ∧ ∀ v x H', Go B H H' → Box H' B d → RelAt (fr H H') x v → Q v H'
theorem ok_lr {f fD : Addr} {fd fdD : FuncData} (F : Fun K "_law_relation" "_law_relation" sLr f fd)
    (GD : FnOk P w K mg base CX0 1 fD fdD ["box", "many"] spDraw) (bD : Binds K fdD ["box", "many"] []) (kD : PySem.W.keepIn K (.ref fD) = true) (mD : mg "_law_draw" = some (.ref fD))
    (mr : mg "range" = none) (mi : mg "int" = none) :
    FnOk P w K mg base CX0 2 f fd ["box"] spLr := by
  refine F.ok scLr (fun vs H Q E h => ?_) (fun cdv A outer s H vs Q E hr h => ?_)
  · obtain ⟨B, d, rfl, _⟩ := h
    rfl
  obtain ⟨B, d, rfl, hb, q⟩ := h
  have nd := scLr.nd
  refine ⟨_, pss_cons (ps_set (i := 1) nd rfl (.inl rfl) (pe_ix ix_list (pe_lst (pa_cons pe_int (pa_cons pe_int (pa_cons pe_int (pa_cons pe_int (pa_cons pe_int (pa_cons pe_int (pa_cons pe_int pa_nil))))))))
      (pe_call GD hr rfl mD kD bD .nil pass0 (pa_cons (pv 0) (pa_cons pe_int pa_nil))) (fun _ _ => rfl)))
    (pss_cons (ps_set (i := 2) nd rfl (.inl rfl) (pe_lst pa_nil))
    (pss_cons (ps_for PassesOwn.never rfl (pi_range1 rfl mr (pa_cons (pe_op op_add pe_int (pe_call GD hr rfl mD kD bD .nil pass0 (pa_cons (pv 0) (pa_cons pe_int pa_nil)))) pa_nil)) (pg_name (i := 3) nd rfl (.inl rfl))
      (pss_cons (ps_set (i := 4) nd rfl (.inl rfl) (pe_call GD hr rfl mD kD bD .nil pass0 (pa_cons (pv 0) (pa_cons
          (pe_ix ix_list (pe_lst (pa_cons pe_int (pa_cons pe_int pa_nil))) (pe_callTy call_int1 (by rfl) mi (by decide +kernel) (pa_cons (pe_cmpR op_in_seq (pv 1) (pe_tup (pa_cons pe_int (pa_cons pe_int (pa_cons pe_int pa_nil)))) (by rfl)) pa_nil)) (fun _ _ => rfl)) pa_nil))))
      (pss_one (ps_expr (pe_bm PySem.F.plainAttrs_list PySem.F.slot_list_append PySem.F.type_list_append mt_append (pv 2) (pa_cons
          (pe_tup (pa_cons (pv 4) (pa_cons (pe_op op_add (pv 4) (pe_ix ix_list (pe_lst (pa_cons pe_int (pa_cons pe_int (pa_cons pe_int (pa_cons pe_int pa_nil))))) (pe_call GD hr rfl mD kD bD .nil pass0 (pa_cons (pv 0) (pa_cons pe_int pa_nil))) (fun _ _ => rfl))) pa_nil))) pa_nil))))))
    (pss_one (ps_ret (pe_tup (pa_cons (pv 1) (pa_cons (pe_cmpR op_gt (pe_call GD hr rfl mD kD bD .nil pass0 (pa_cons (pv 0) (pa_cons pe_int pa_nil))) pe_int (nomark _)) (pa_cons (pv 2) pa_nil)))))))), ?_⟩
  refine ⟨by show 7 ≤ sizeLine; decide, fun l hl => ?_⟩
  have lB := hb.neB hl
  refine ⟨_, rfl, B, d, 7, rfl, by decide, hb.new hl _, fun z H2 z0 z1 g2 b2 => ?_⟩
  obtain ⟨m, hm, hat⟩ := pick (l := ([0, 0, 2, 3, 4, 10, 100] : List Int)) (g := V.int) (z := z) z0 (by show z < ((7 : Nat) : Int); omega)
  have hm0 : 0 ≤ m := (by decide : ∀ m ∈ ([0, 0, 2, 3, 4, 10, 100] : List Int), 0 ≤ m) m hm
  refine ⟨l, _, z, .int m, rfl, rfl, SqL.of (g2.ext _ _ lB upd_same), hat, ?_⟩
  have G02 : Go B H H2 := (Go.new hl _).trans g2
  refine ⟨Nat.zero_le _, fun rl hrl => ?_⟩
  have rB := b2.neB hrl
  have hrl0 : H rl = none := G02.dom rl hrl
  generalize hH3 : upd H2 rl (.lst []) = H3
  have hrl3 : H3 rl = some (.lst []) := by rw [← hH3]; exact upd_same
  have b3 : Box H3 B d := by rw [← hH3]; exact b2.new hrl _
  have G03 : Go B H H3 := by rw [← hH3]; exact G02.trans (Go.new hrl _)
  obtain ⟨ob3, hB3⟩ := b3.isB
  refine ⟨_, rfl, B, d, 3, rfl, by decide, b3, fun y H4 y0 y3 g4 b4 => ⟨_, _, rfl, rfl, ?_⟩⟩
  refine ⟨1 + y, rfl, by omega, by omega, for_range (lo := 0) (n := (1 + y).toNat) (fun i σ H' => ∃ (rs : List Rg) (vs : List V) (o3 o4 : Option V), σ = [some (.ref B), some (.int m), some (.ref rl), o3, o4] ∧ Go B H H' ∧ (∀ b, H' b = none → H3 b = none) ∧ Box H' B d ∧ H' rl = some (.lst vs) ∧ A2 (RgAt (fr H3 H')) rs vs ∧ vs.length = i)
    ⟨[], [], _, _, rfl, G03.trans g4, g4.dom, b4, g4.ext _ _ rB hrl3, rfl, rfl⟩ ?_ ?_⟩
  · rintro i σ H5 hi ⟨rs, vs, o3, o4, rfl, g5, dm, b5, hrl5, ha5, hlen⟩
    refine ⟨_, rfl, by show 2 ≤ sizeLine; decide, fun l2 hl2 => ?_⟩
    have l2B := b5.neB hl2
    have b6 := b5.new hl2 (.lst [.int 12, .int 4])
    have e6 := Go.new (B := B) hl2 (.lst [.int 12, .int 4])
    refine ⟨_, rfl, by show 3 ≤ sizeLine; decide, fun t2 ht2 => ?_⟩
    have b7 := b6.new ht2 (.tup [.int 2, .int 3, .int 4])
    have e7 := Go.new (B := B) ht2 (.tup [.int 2, .int 3, .int 4])
    refine ⟨t2, _, rfl, .inr (.inl (.inl upd_same)), rfl, rfl, .inr ⟨_, rfl, ?_⟩⟩
    have pickb : ∀ k : Bool, ∃ y, y ∈ ([12, 4] : List Int) ∧ atI (([12, 4] : List Int).map V.int) (if k then 1 else 0) = some (.int y) := fun k => by
      cases k
      · exact ⟨12, by decide, rfl⟩
      · exact ⟨4, by decide, rfl⟩
    obtain ⟨y2, hy2, hat2⟩ := pickb (inV (V.int m) [.int 2, .int 3, .int 4])
    have hy20 : 0 < y2 := (by decide : ∀ m ∈ ([12, 4] : List Int), 0 < m) y2 hy2
    refine ⟨l2, _, _, .int y2, rfl, rfl, SqL.of (e7.ext _ _ l2B upd_same), hat2, ?_⟩
    refine ⟨B, d, y2, rfl, hy20, b7, fun lo H8 lo0 lo1 g8 b8 => ?_⟩
    have G58 := (e6.trans e7).trans g8
    have hrl8 := G58.ext _ _ rB hrl5
    refine ⟨_, rfl, .inl ⟨rfl, _, SqL.of hrl8⟩, _, rfl, _, rfl, by show 4 ≤ sizeLine; decide, fun l4 hl4 => ?_⟩
    have l4B := b8.neB hl4
    have b9 := b8.new hl4 (.lst [.int 0, .int 0, .int 1, .int 3])
    have e9 := Go.new (B := B) hl4 (.lst [.int 0, .int 0, .int 1, .int 3])
    refine ⟨_, rfl, B, d, 4, rfl, by decide, b9, fun u HA u0 u1 gA bA => ?_⟩
    obtain ⟨x4, hx4, hat4⟩ := pick (l := ([0, 0, 1, 3] : List Int)) (g := V.int) (z := u) u0 (by show u < ((4 : Nat) : Int); omega)
    refine ⟨l4, _, u, .int x4, rfl, rfl, SqL.of (gA.ext _ _ l4B upd_same), hat4, _, _, rfl, rfl, by show 2 ≤ sizeLine; decide, fun p hp => ?_⟩
    have G5A := (G58.trans e9).trans gA
    have eB := Go.new (B := B) hp (.tup [.int lo, .int (lo + x4)])
    have G5B := G5A.trans eB
    have hrlB := G5B.ext _ _ rB hrl5
    have bB := bA.new hp (.tup [.int lo, .int (lo + x4)])
    have hrd : rl ≠ d := b2.neD hrl
    have h3p : H3 p = none := dm p (G5A.dom p hp)
    have prl : p ≠ rl := by rintro rfl; rw [hrl3] at h3p; cases h3p
    refine ⟨rl, vs, _, rfl, rfl, hrlB, sz_line (by omega), rs ++ [(lo, lo + x4)], _, _, _, rfl, (g5.trans G5B).mut hrl0 _, fun b hb => dm b (G5B.dom b (upd_none hb)), bB.mut rB hrd _, upd_same, ?_, by rw [List.length_append, hlen]; rfl⟩
    refine A2.snoc (ha5.mono fun x v h => ?_) ⟨p, rfl, fr_new_obj h3p (by rw [upd_ne prl]; exact upd_same)⟩
    exact RgAt.same ((fr_go hB3 G5B).trans (fr_mut hrl3 _)) x v h
  · rintro σ H5 ⟨rs, vs, o3, o4, rfl, g5, dm, b5, hrl5, ha5, hlen⟩
    have G0e := g5
    obtain ⟨ob, hB0⟩ := hb.isB
    refine ⟨_, rfl, _, rfl, B, d, 3, rfl, by decide, b5, fun u H6 u0 u3 g6 b6 => ⟨_, _, rfl, rfl, _, rfl, by show 3 ≤ sizeLine; decide, fun p hp => ?_⟩⟩
    have G6 := g6.trans (Go.new (B := B) hp (.tup [.int m, .bl (decide (0 < u)), .ref rl]))
    refine q (.ref p) (m, decide (0 < u), rs) _ (G0e.trans G6) (b6.new hp _) ⟨p, .ref rl, rfl, fr_new_obj ((G0e.trans g6).dom p hp) upd_same, ⟨rl, vs, rfl, fr_new_obj hrl0 (G6.ext _ _ rB hrl5), ha5.mono fun x v h => ?_, by omega⟩, hm0⟩
    exact RgAt.same ((fr_dom G03.dom).trans (fr_go (B := B) hB0 G6)) x v h
end
end Mw

namespace Mw
open PySem L2
section
variable {P : Program} {w : World} {K : PySem.W.Frag} {mg : Str → Option Value} {base : Heap} {C : Addr}
/-! ### _law_condition -/
abbrev sLn : Stmt := top 11
abbrev nLn : List Str := ["box", "rows", "turn", "k"]
theorem scLn : FnScope nLn ["box"] (defScope sLn) := ⟨rfl, rfl, rfl, by decide +kernel, rfl, by decide +kernel, by decide +kernel⟩
def Full (x : List (List Rel)) : Prop := x ≠ [] ∧ ∀ r ∈ x, r ≠ []
def spLn : Sp := fun vs H Q _ => ∃ (B d : Addr), vs = [.ref B] ∧ Box H B d ∧ ∀ v x H', Go B H H' → Box H' B d → ConAt (fr H H') x v → Full x → Q v H'
theorem ok_ln {f fD fR : Addr} {fd fdD fdR : FuncData} (F : Fun K "_law_condition" "_law_condition" sLn f fd)
    (GD : FnOk P w K mg base CX0 1 fD fdD ["box", "many"] spDraw) (bD : Binds K fdD ["box", "many"] []) (kD : PySem.W.keepIn K (.ref fD) = true) (mD : mg "_law_draw" = some (.ref fD))
    (GR : FnOk P w K mg base CX0 2 fR fdR ["box"] spLr) (bR : Binds K fdR ["box"] []) (kR : PySem.W.keepIn K (.ref fR) = true) (mR : mg "_law_relation" = some (.ref fR))
    (mr : mg "range" = none) :
    FnOk P w K mg base CX0 3 f fd ["box"] spLn := by
  refine F.ok scLn (fun vs H Q E h => ?_) (fun cdv A outer s H vs Q E hr h => ?_)
  · obtain ⟨B, d, rfl, _⟩ := h
    rfl
  obtain ⟨B, d, rfl, hb, q⟩ := h
  have nd := scLn.nd
  refine ⟨_, pss_cons (ps_set (i := 1) nd rfl (.inl rfl) (pe_lst pa_nil))
    (pss_cons (ps_for PassesOwn.never rfl (pi_range1 rfl mr (pa_cons (pe_op op_add pe_int (pe_call GD (hr.mono (by decide)) rfl mD kD bD .nil pass0 (pa_cons (pv 0) (pa_cons pe_int pa_nil)))) pa_nil)) (pg_name (i := 2) nd rfl (.inl rfl))
      (pss_one (ps_expr (pe_bm PySem.F.plainAttrs_list PySem.F.slot_list_append PySem.F.type_list_append mt_append (pv 1) (pa_cons
          (pe_lc (own := [("k", 3)]) (g := gName 3) (tt := tYes) (te := tCall spLr [] E0 (tCons (tVar 0) tNil)) rfl nd (pi_range1 rfl mr (pa_cons (pe_op op_add pe_int (pe_call GD (hr.mono (by decide)) rfl mD kD bD .nil pass0 (pa_cons (pv 0) (pa_cons pe_int pa_nil)))) pa_nil)) (blkOk_by (N := nLn) (sc := defScope sLn) (by decide +kernel))
            (fun _ _ _ _ _ => pg_name (i := 3) nd rfl (.inl rfl)) (fun _ _ _ _ _ => pts_nil)
            (fun _ _ _ _ _ => pe_call GR hr rfl mR kR bR .nil pass0 (pa_cons (pv 0) pa_nil))) pa_nil)))))
    (pss_one (ps_ret (pv 1)))), ?_⟩
  refine ⟨Nat.zero_le _, fun rl hrl => ?_⟩
  have rB := hb.neB hrl
  have rd := hb.neD hrl
  generalize hH3 : upd H rl (.lst []) = H3
  have hrl3 : H3 rl = some (.lst []) := by rw [← hH3]; exact upd_same
  have b3 : Box H3 B d := by rw [← hH3]; exact hb.new hrl _
  have G03 : Go B H H3 := by rw [← hH3]; exact Go.new hrl _
  obtain ⟨ob3, hB3⟩ := b3.isB
  obtain ⟨ob, hB0⟩ := hb.isB
  refine ⟨_, rfl, B, d, 2, rfl, by decide, b3, fun y H4 y0 y3 g4 b4 => ⟨_, _, rfl, rfl, ?_⟩⟩
  refine ⟨1 + y, rfl, by omega, by omega, for_range (lo := 0) (n := (1 + y).toNat) (fun i σ H' => ∃ (x : List (List Rel)) (vs : List V) (o2 o3 : Option V), σ = [some (.ref B), some (.ref rl), o2, o3] ∧ Go B H H' ∧ (∀ b, H' b = none → H3 b = none) ∧ Box H' B d ∧ H' rl = some (.lst vs) ∧ A2 (RowAt (fr H3 H')) x vs ∧ vs.length = i ∧ ∀ r ∈ x, r ≠ [])
    ⟨[], [], _, _, rfl, G03.trans g4, g4.dom, b4, g4.ext _ _ rB hrl3, rfl, rfl, fun r h => by cases h⟩ ?_ ?_⟩
  · rintro i σ H5 hi ⟨x, vs, o2, o3, rfl, g5, dm, b5, hrl5, ha5, hlen, hne⟩
    refine ⟨_, rfl, .inl ⟨rfl, _, SqL.of hrl5⟩, ?_⟩
    refine ⟨_, rfl, B, d, 2, rfl, by decide, b5, fun u H6 u0 u2 g6 b6 => ⟨_, _, rfl, rfl, ?_⟩⟩
    refine ⟨1 + u, rfl, by omega, by omega, fun D hD => ?_⟩
    have DB := b6.neB hD
    have Dd := b6.neD hD
    have DH3 : H3 D = none := dm D (g6.dom D hD)
    have hrl6 := g6.ext _ _ rB hrl5
    have Drl : D ≠ rl := (ne_of_none hrl6 hD).symm
    generalize hH7 : upd H6 D (.lst []) = H7
    have hD7 : H7 D = some (.lst []) := by rw [← hH7]; exact upd_same
    have b7 : Box H7 B d := by rw [← hH7]; exact b6.new hD _
    have G67 : Go B H6 H7 := by rw [← hH7]; exact Go.new hD _
    have h7none : ∀ b, H7 b = none → H3 b = none := fun b hb => dm b (g6.dom b (G67.dom b hb))
    rw [← hH7]
    refine lc_range (lo := 0) (n := (1 + u).toNat) (fun j H' => ∃ (r : List Rel) (ws : List V), Go B H6 H' ∧ (∀ b, H' b = none → H7 b = none) ∧ Box H' B d ∧ H' D = some (.lst ws) ∧ A2 (RelAt (fr H7 H')) r ws ∧ ws.length = j) ⟨[], [], by rw [hH7]; exact G67, by rw [hH7]; exact fun _ h => h, by rw [hH7]; exact b7, by rw [hH7]; exact hD7, rfl, rfl⟩ ?_ ?_
    · rintro j H8 hj ⟨r, ws, g8, dm8, b8, hD8, ha8, hl8⟩
      refine ⟨rfl, _, rfl, B, d, rfl, b8, fun v z H9 g9 b9 hz => ?_⟩
      have hD9 := g9.ext _ _ DB hD8
      obtain ⟨ob7, hB7⟩ := b7.isB
      refine ⟨ws, hD9, sz_line (by omega), r ++ [z], ws ++ [v], (g8.trans g9).mut hD _, fun b hb => dm8 b (g9.dom b (upd_none hb)), b9.mut DB Dd _, upd_same, ?_, by rw [List.length_append, hl8]; rfl⟩
      refine A2.snoc (ha8.mono fun x v h => RelAt.same ((fr_go hB7 g9).trans (fr_mut hD7 _)) x v h) ?_
      exact RelAt.same ((fr_dom dm8).trans (fr_mut hD7 _)) z v hz
    · rintro H8 ⟨r, ws, g8, dm8, b8, hD8, ha8, hl8⟩
      have G58 := g6.trans g8
      have hrl8 := G58.ext _ _ rB hrl5
      refine ⟨rl, vs, _, rfl, rfl, hrl8, sz_line (by omega), x ++ [r], vs ++ [.ref D], _, _, rfl, (g5.trans G58).mut hrl _, fun b hb => dm b (G58.dom b (upd_none hb)), b8.mut rB rd _, upd_same, ?_, by rw [List.length_append, hlen]; rfl, ?_⟩
      · refine A2.snoc (ha5.mono fun x v h => RowAt.same ((fr_go hB3 G58).trans (fr_mut hrl3 _)) x v h) ?_
        refine ⟨D, ws, rfl, fr_new_obj DH3 (by rw [upd_ne Drl]; exact hD8), ha8.mono fun x v h => ?_, by omega⟩
        exact RelAt.same ((fr_dom h7none).trans (fr_mut hrl3 _)) x v h
      · intro r' hr'
        rcases List.mem_append.mp hr' with h | h
        · exact hne r' h
        · rw [List.mem_singleton] at h
          subst h
          intro e
          have := ha8.length
          rw [e, hl8] at this
          simp at this
          omega
  · rintro σ H5 ⟨x, vs, o2, o3, rfl, g5, dm, b5, hrl5, ha5, hlen, hne⟩
    refine ⟨_, rfl, q (.ref rl) x H5 g5 b5 ⟨rl, vs, rfl, fr_new_obj hrl hrl5, ha5.mono fun x v h => RowAt.same (fr_dom G03.dom) x v h, by omega⟩ ⟨fun e => ?_, hne⟩⟩
    have := ha5.length
    rw [e, hlen] at this
    simp at this
    omega
end
end Mw

namespace Mw
open PySem L2
section
variable {P : Program} {w : World} {K : PySem.W.Frag} {mg : Str → Option Value} {base : Heap} {C : Addr}
/-! ### _law_rules -/
abbrev sLu : Stmt := top 12
abbrev nLu : List Str := ["box", "rules", "category"]
theorem scLu : FnScope nLu ["box"] (defScope sLu) := ⟨rfl, rfl, rfl, by decide +kernel, rfl, by decide +kernel, by decide +kernel⟩
def spLu : Sp := fun vs H Q _ => ∃ (B d : Addr), vs = [.ref B] ∧ Box H B d ∧ ∀ v x H', Go B H H' → Box H' B d → RusAt (fr H H') x v → Q v H'
theorem ok_lu {f fD fR : Addr} {fd fdD fdR : FuncData} (F : Fun K "_law_rules" "_law_rules" sLu f fd)
    (GD : FnOk P w K mg base CX0 1 fD fdD ["box", "many"] spDraw) (bD : Binds K fdD ["box", "many"] []) (kD : PySem.W.keepIn K (.ref fD) = true) (mD : mg "_law_draw" = some (.ref fD))
    (GR : FnOk P w K mg base CX0 3 fR fdR ["box"] spLn) (bR : Binds K fdR ["box"] []) (kR : PySem.W.keepIn K (.ref fR) = true) (mR : mg "_law_condition" = some (.ref fR)) :
    FnOk P w K mg base CX0 4 f fd ["box"] spLu := by
  refine F.ok scLu (fun vs H Q E h => ?_) (fun cdv A outer s H vs Q E hr h => ?_)
  · obtain ⟨B, d, rfl, _⟩ := h
    rfl
  obtain ⟨B, d, rfl, hb, q⟩ := h
  have nd := scLu.nd
  refine ⟨_, pss_cons (ps_set (i := 1) nd rfl (.inl rfl) (pe_lst pa_nil))
    (pss_cons (ps_for PassesOwn.never rfl (pi_list (pe_lst (pa_cons pe_str (pa_cons pe_str (pa_cons pe_str (pa_cons pe_str (pa_cons pe_str pa_nil))))))) (pg_name (i := 2) nd rfl (.inl rfl))
      (pss_one (ps_if (pt_cmpR op_eq (pe_call GD (hr.mono (by decide)) rfl mD kD bD .nil pass0 (pa_cons (pv 0) (pa_cons pe_int pa_nil))) pe_int (nomark _))
        (pss_one (ps_expr (pe_bm PySem.F.plainAttrs_list PySem.F.slot_list_append PySem.F.type_list_append mt_append (pv 1) (pa_cons
          (pe_tup (pa_cons (pv 2) (pa_cons (pe_call GR hr rfl mR kR bR .nil pass0 (pa_cons (pv 0) pa_nil)) pa_nil))) pa_nil)))) pss_nil)))
    (pss_one (ps_ret (pv 1)))), ?_⟩
  refine ⟨Nat.zero_le _, fun rl hrl => ?_⟩
  have rB := hb.neB hrl
  have rd := hb.neD hrl
  generalize hH3 : upd H rl (.lst []) = H3
  have hrl3 : H3 rl = some (.lst []) := by rw [← hH3]; exact upd_same
  have b3 : Box H3 B d := by rw [← hH3]; exact hb.new hrl _
  have G03 : Go B H H3 := by rw [← hH3]; exact Go.new hrl _
  obtain ⟨ob3, hB3⟩ := b3.isB
  refine ⟨by show 5 ≤ sizeLine; decide, fun l hl => ?_⟩
  have lB := b3.neB hl
  have lrl : l ≠ rl := (ne_of_none hrl3 hl).symm
  refine ⟨l, rfl, ⟨_, SqL.of upd_same⟩, ?_⟩
  have G3 := Go.new (B := B) hl (.lst [.str "zero", .str "one", .str "two", .str "few", .str "many"])
  refine for_list (xs := [.str "zero", .str "one", .str "two", .str "few", .str "many"]) (fun i σ H' => ∃ (x : List Rule) (vs : List V) (o2 : Option V), σ = [some (.ref B), some (.ref rl), o2] ∧ Go B H H' ∧ (∀ b, H' b = none → H3 b = none) ∧ Box H' B d ∧ H' rl = some (.lst vs) ∧ A2 (RuAt (fr H3 H')) x vs ∧ vs.length ≤ i ∧ H' l = some (.lst [.str "zero", .str "one", .str "two", .str "few", .str "many"]))
    ⟨[], [], _, rfl, G03.trans G3, G3.dom, b3.new hl _, G3.ext _ _ rB hrl3, rfl, Nat.le_refl _, upd_same⟩ (fun i σ H' _ ⟨x, vs, o2, _, _, _, _, _, _, _, e⟩ => SqL.of e) ?_ ?_
  · rintro i y σ H5 hx ⟨x, vs, o2, rfl, g5, dm, b5, hrl5, ha5, hlen, hl5⟩
    have hi : i < 5 := get_lt hx
    have hy : ∃ c, y = V.str c := by
      have := List.mem_of_getElem? hx
      simp only [List.mem_cons, List.not_mem_nil, or_false] at this
      rcases this with rfl | rfl | rfl | rfl | rfl <;> exact ⟨_, rfl⟩
    obtain ⟨c, rfl⟩ := hy
    refine ⟨_, rfl, B, d, 3, rfl, by decide, b5, fun u H6 u0 u2 g6 b6 => ⟨rfl, _, rfl, ?_⟩⟩
    have hrl6 := g6.ext _ _ rB hrl5
    have hl6 := g6.ext _ _ lB hl5
    refine ite2 (fun cc => ?_) (fun cc => ?_)
    · refine ⟨_, rfl, .inl ⟨rfl, _, SqL.of hrl6⟩, _, rfl, _, rfl, B, d, rfl, b6, fun v z H7 g7 b7 hz _ => ⟨by show 2 ≤ sizeLine; decide, fun p hp => ?_⟩⟩
      have G57 := g6.trans g7
      have eB := Go.new (B := B) hp (.tup [.str c, v])
      have G5 := G57.trans eB
      have h3p : H3 p = none := dm p (G57.dom p hp)
      have prl : p ≠ rl := by rintro rfl; rw [hrl3] at h3p; cases h3p
      obtain ⟨ob6, hB6⟩ := b6.isB
      refine ⟨rl, vs, _, rfl, rfl, G5.ext _ _ rB hrl5, sz_line (by omega), x ++ [(c, z)], _, _, rfl, (g5.trans G5).mut hrl _, fun b hb => dm b (G5.dom b (upd_none hb)), (b7.new hp _).mut rB rd _, upd_same, ?_, by rw [List.length_append]; show vs.length + 1 ≤ i + 1; omega, by rw [upd_ne lrl]; exact G5.ext _ _ lB hl5⟩
      refine A2.snoc (ha5.mono fun x v h => RuAt.same ((fr_go hB3 G5).trans (fr_mut hrl3 _)) x v h) ⟨p, v, rfl, fr_new_obj h3p (by rw [upd_ne prl]; exact upd_same), ?_⟩
      exact ConAt.same ((fr_dom fun b hb => dm b (g6.dom b hb)).trans ((fr_go hB3 eB).trans (fr_mut hrl3 _))) z v hz
    · exact ⟨x, vs, _, rfl, g5.trans g6, fun b hb => dm b (g6.dom b hb), b6, hrl6, ha5.mono fun x v h => RuAt.same (fr_go hB3 g6) x v h, by omega, hl6⟩
  · rintro σ H5 ⟨x, vs, o2, rfl, g5, dm, b5, hrl5, ha5, hlen, hl5⟩
    refine ⟨_, rfl, q (.ref rl) x H5 g5 b5 ⟨rl, vs, rfl, fr_new_obj hrl hrl5, ha5.mono fun x v h => RuAt.same (fr_dom G03.dom) x v h, ?_⟩⟩
    have h5 : vs.length ≤ 5 := hlen
    omega
end
end Mw

namespace Mw
open PySem L2
/-! ### a heap without some addresses -/
def hids (L : List Addr) (H : Hp) : Hp := fun a => if a ∈ L then none else H a
theorem hids_ne {L : List Addr} {a : Addr} {H : Hp} (h : a ∉ L) : hids L H a = H a := by
  unfold hids
  rw [if_neg h]
theorem hids_in {L : List Addr} {a : Addr} {H : Hp} {o : HO} (h : hids L H a = some o) : a ∉ L ∧ H a = some o := by
  unfold hids at h
  split at h
  · cases h
  · exact ⟨by assumption, h⟩
theorem hids_same {L : List Addr} {H H1 : Hp} (s : Same H H1) : Same (hids L H) (hids L H1) := fun a o h => by
  obtain ⟨h1, h2⟩ := hids_in h
  rw [hids_ne h1]
  exact s _ _ h2
theorem hids_add {L : List Addr} {l : Addr} {H H1 : Hp} (hl : H l = none) (s : Same H H1) : Same (hids L H) (hids (l :: L) H1) := fun a o h => by
  obtain ⟨h1, h2⟩ := hids_in h
  have ne : a ≠ l := by rintro rfl; rw [hl] at h2; cases h2
  rw [hids_ne (by simp [ne, h1])]
  exact s _ _ h2
theorem hids_mut {L : List Addr} {l : Addr} {H : Hp} (hl : l ∈ L) (o : HO) : Same (hids L H) (hids L (upd H l o)) := fun a u h => by
  obtain ⟨h1, h2⟩ := hids_in h
  have ne : a ≠ l := by rintro rfl; exact h1 hl
  rw [hids_ne h1, upd_ne ne]
  exact h2
theorem hids_drop {L : List Addr} {l : Addr} {H : Hp} : Same (hids (l :: L) H) (hids L H) := fun a u h => by
  obtain ⟨h1, h2⟩ := hids_in h
  rw [hids_ne fun z => h1 (List.mem_cons_of_mem _ z)]
  exact h2
theorem hids_sub {L L' : List Addr} {H : Hp} (h : ∀ a ∈ L', a ∈ L) : Same (hids L H) (hids L' H) := fun a u e => by
  obtain ⟨h1, h2⟩ := hids_in e
  rw [hids_ne fun z => h1 (h a z)]
  exact h2
/-- all of L stand in H -/
def In (L : List Addr) (H : Hp) : Prop := ∀ b ∈ L, ∃ o, H b = some o
theorem In.same {L : List Addr} {H H' : Hp} (s : Same H H') (i : In L H) : In L H' := fun b hb => by
  obtain ⟨o, h⟩ := i b hb
  exact ⟨o, s _ _ h⟩
theorem In.new {L : List Addr} {H : Hp} {p : Addr} (i : In L H) (h : H p = none) : p ∉ L := fun hp => by
  obtain ⟨o, e⟩ := i p hp
  rw [h] at e
  cases e
theorem In.cons {L : List Addr} {H : Hp} {l : Addr} {o : HO} (i : In L H) (h : H l = some o) : In (l :: L) H := fun b hb => by
  rcases List.mem_cons.mp hb with rfl | hb
  · exact ⟨o, h⟩
  · exact i b hb
def rLo (K : PySem.W.Frag) : List V → Hp → VK → Prop := fun xs H Q => ∃ p ys, xs = [.ref p] ∧ (SqL K H p ys ∨ SqT K H p ys) ∧ ∀ l, H l = none → Q (.ref l) (upd H l (.lst ys))
section
variable {P : Program} {w : World} {K : PySem.W.Frag} {mg : Str → Option Value} {base : Heap} {C : Addr}
/-! ### copied -/
abbrev sCd : Stmt := top 2
abbrev nCd : List Str := ["condition", "row", "modulus", "inside", "ranges"]
theorem scCd : FnScope nCd ["condition"] (defScope sCd) := ⟨rfl, rfl, rfl, by decide +kernel, rfl, by decide +kernel, by decide +kernel⟩
def spCd : Sp := fun vs H Q _ => ∃ (v : V) (x : List (List Rel)) (L : List Addr), vs = [v] ∧ In L H ∧ ConAt (hids L H) x v ∧ ∀ v' H', Same H H' → ConAt (hids L H') x v' → Q v' H'
theorem ok_cd {f : Addr} {fd : FuncData} (F : Fun K "copied" "copied" sCd f fd) (ml : mg "list" = none) : FnOk P w K mg base CX0 1 f fd ["condition"] spCd := by
  refine F.ok scCd (fun vs H Q E h => ?_) (fun cdv A outer s H vs Q E hr h => ?_)
  · obtain ⟨v, x, L, rfl, _⟩ := h
    rfl
  obtain ⟨v, x, L, rfl, iL, ⟨r, cvs, rfl, hr1, ha, hl⟩, q⟩ := h
  have nd := scCd.nd
  refine ⟨_, pss_one (ps_ret (pe_lc (own := [("row", 1)]) (g := gName 1) (tt := tYes)
      (te := tLc (iList K (tVar 1)) (gTup K 3 (gCons (gName 2) (gCons (gName 3) (gCons (gName 4) gNil)))) tYes (tTup (tCons (tVar 2) (tCons (tVar 3) (tCons (tCB (rLo K) (tCons (tVar 4) tNil)) tNil)))) [2, 3, 4])
      rfl nd (pi_list (pv 0)) (blkOk_by (N := nCd) (sc := defScope sCd) (by decide +kernel)) (fun _ _ _ _ _ => pg_name (i := 1) nd rfl (.inl rfl)) (fun _ _ _ _ _ => pts_nil)
      (fun _ _ _ _ _ => by
        refine pe_lc (own := [("modulus", 2), ("inside", 3), ("ranges", 4)]) rfl nd (pi_list (pv 1)) ?_ (fun _ _ _ _ _ => ?_) (fun _ _ _ _ _ => pts_nil) (fun _ _ _ _ _ => ?_)
        · exact blkOk_by (N := nCd) (sc := { kind := .function, names := [(".0", .local), ("row", .local)], isGenerator := false, isCoroutine := false }) (by decide +kernel)
        · exact pg_tup rfl (pgs_cons (pg_name (i := 2) nd rfl (.inl rfl)) (pgs_cons (pg_name (i := 3) nd rfl (.inl rfl)) (pgs_cons (pg_name (i := 4) nd rfl (.inl rfl)) pgs_nil)))
        · exact pe_tup (pa_cons (pv 2) (pa_cons (pv 3) (pa_cons (pe_callTy call_list_of (by rfl) ml (by decide +kernel) (pa_cons (pv 4) pa_nil)) pa_nil)))))), ?_⟩
  have hr1' := (hids_in hr1).2
  refine ⟨_, rfl, r, rfl, ⟨_, SqL.of hr1'⟩, fun D hD => ?_⟩
  have s1 : Same H (upd H D (.lst [])) := same_new hD _
  have hlen := ha.length
  refine lc_list (xs := cvs) (fun j H' => ∃ vs, Same H H' ∧ H' D = some (.lst vs) ∧ A2 (RowAt (hids (D :: L) H')) (x.take j) vs) ⟨[], s1, upd_same, rfl⟩ (fun j H' _ ⟨_, s', _⟩ => SqL.of (s' _ _ hr1')) ?_ ?_
  · rintro j y H' hx ⟨vs, s', hD', ha'⟩
    obtain ⟨row, hz, rr, rvs, rfl, hrr, har, hlr⟩ := A2.get ha hx
    have hrr' := s' _ _ (hids_in hrr).2
    have hlt := get_lt hx
    have hlen2 := har.length
    have hvl := ha'.length
    rw [List.length_take] at hvl
    refine ⟨rfl, _, rfl, rr, rfl, ⟨_, SqL.of hrr'⟩, fun D2 hD2 => ?_⟩
    have s2 : Same H' (upd H' D2 (.lst [])) := same_new hD2 _
    have hne : D ≠ D2 := ne_of_none hD' hD2
    refine lc_list (xs := rvs) (fun k H2 => ∃ ws, Same H' H2 ∧ H2 D2 = some (.lst ws) ∧ A2 (RelAt (hids (D2 :: D :: L) H2)) (row.take k) ws) ⟨[], s2, upd_same, rfl⟩ (fun k H2 _ ⟨_, s3, _⟩ => SqL.of (s3 _ _ hrr')) ?_ ?_
    · rintro k y2 H2 hx2 ⟨ws, s3, hD22, ha2⟩
      obtain ⟨⟨m, ins, rs⟩, hz2, p, qv, rfl, hp, ⟨ra, gvs, rfl, hra, hag, hlg⟩, hm⟩ := A2.get har hx2
      have s02 := s'.trans s3
      have hlt2 := get_lt hx2
      have hwl := ha2.length
      rw [List.length_take] at hwl
      refine ⟨p, _, rfl, .inl (.inl (s02 _ _ (hids_in hp).2)), rfl, .int m, _, rfl, .bl ins, _, rfl, .ref ra, [], rfl, rfl, rfl, ?_⟩
      refine ⟨_, rfl, _, rfl, _, rfl, ra, gvs, rfl, .inl (SqL.of (s02 _ _ (hids_in hra).2)), fun l hl => ⟨by show 3 ≤ sizeLine; decide, fun t ht => ?_⟩⟩
      have e1 : Same H2 (upd H2 l (.lst gvs)) := same_new hl _
      have e2 : Same (upd H2 l (.lst gvs)) (upd (upd H2 l (.lst gvs)) t (.tup [.int m, .bl ins, .ref l])) := same_new ht _
      have s4 := s3.trans (e1.trans e2)
      have hl2 : l ≠ D2 := (ne_of_none hD22 hl).symm
      have ht2 : t ≠ D2 := (ne_of_none (e1 _ _ hD22) ht).symm
      have i2 : In (D2 :: D :: L) H2 := ((iL.same s02).cons (s3 _ _ hD')).cons hD22
      have nl := i2.new hl
      have nt := (i2.same e1).new ht
      refine ⟨ws, (e1.trans e2) _ _ hD22, sz_line (by omega), ws ++ [.ref t], same_mut s4 hD2 _, upd_same, ?_⟩
      rw [List.take_succ, hz2]
      refine A2.snoc (ha2.mono fun x v h => RelAt.same ((hids_same (e1.trans e2)).trans (hids_mut (List.mem_cons_self) _)) x v h) ?_
      refine ⟨t, .ref l, rfl, by rw [hids_ne nt, upd_ne ht2]; exact upd_same, ⟨l, gvs, rfl, ?_, ?_, hlg⟩, hm⟩
      · rw [hids_ne nl, upd_ne hl2]
        exact e2 _ _ upd_same
      · refine hag.mono fun x v h => RgAt.same ?_ x v h
        have z1 : Same (hids L H) (hids (D :: L) H') := hids_add hD s'
        have z2 : Same (hids (D :: L) H') (hids (D2 :: D :: L) (upd (upd H2 l (.lst gvs)) t (.tup [.int m, .bl ins, .ref l]))) := hids_add hD2 s4
        exact (z1.trans z2).trans (hids_mut List.mem_cons_self _)
    · rintro H2 ⟨ws, s3, hD22, ha2⟩
      rw [show row.take rvs.length = row by rw [hlen2, List.take_length]] at ha2
      have hD3 := s3 _ _ hD'
      refine ⟨vs, hD3, sz_line (by omega), vs ++ [.ref D2], same_mut (s'.trans s3) hD _, upd_same, ?_⟩
      rw [List.take_succ, hz]
      have nD2 : D2 ∉ (D :: L) := ((iL.same s').cons hD').new hD2
      refine A2.snoc (ha'.mono fun x v h => RowAt.same ((hids_same s3).trans (hids_mut List.mem_cons_self _)) x v h) ⟨D2, ws, rfl, by rw [hids_ne nD2, upd_ne hne.symm]; exact hD22, ha2.mono fun x v h => RelAt.same (hids_drop.trans (hids_mut List.mem_cons_self _)) x v h, ?_⟩
      have := ha2.length
      omega
  · rintro H' ⟨vs, s', hD', ha'⟩
    rw [show x.take cvs.length = x by rw [hlen, List.take_length]] at ha'
    have nD : D ∉ L := iL.new hD
    refine q (.ref D) H' s' ⟨D, vs, rfl, by rw [hids_ne nD]; exact hD', ha'.mono fun x v h => RowAt.same hids_drop x v h, ?_⟩
    have := ha'.length
    omega
end
end Mw

namespace Mw
open PySem L2
def mth (s : Stmt) (i : Nat) : Stmt := match s with
  | .ClassDef _ _ _ b _ _ _ _ _ _ _ => b.getD i (.Pass ⟨0, 0, 0, 0⟩)
  | s => s
section
variable {P : Program} {w : World} {K : PySem.W.Frag} {mg : Str → Option Value} {base : Heap} {C : Addr}
/-! ### Language.__init__ -/
abbrev sLi : Stmt := mth (top 1) 0
abbrev nLi : List Str := ["self", "rules", "category", "condition"]
theorem scLi : FnScope nLi ["self", "rules"] (defScope sLi) := ⟨rfl, rfl, rfl, by decide +kernel, rfl, by decide +kernel, by decide +kernel⟩
def spLi (C : Addr) : Sp := fun vs H Q _ => ∃ (o dx : Addr) (v : V) (x : List Rule) (L : List Addr), vs = [.ref o, v] ∧ H o = some (.ins C dx []) ∧ In L H ∧ RusAt (hids (o :: L) H) x v ∧
  ∀ q H', (∀ a u, H a = some u → a ≠ o → H' a = some u) → H' o = some (.ins C dx [("rules", q)]) → RusAt (hids (o :: L) H') x q → Q .non H'
theorem ok_li {f fR : Addr} {fd fdR : FuncData} (F : Fun K "__init__" "Language.__init__" sLi f fd) (Lc : LC K C)
    (GR : FnOk P w K mg base CX0 1 fR fdR ["condition"] spCd) (bR : Binds K fdR ["condition"] []) (kR : PySem.W.keepIn K (.ref fR) = true) (mR : mg "copied" = some (.ref fR)) :
    FnOk P w K mg base CX0 2 f fd ["self", "rules"] (spLi C) := by
  refine F.ok scLi (fun vs H Q E h => ?_) (fun cdv A outer s H vs Q E hr h => ?_)
  · obtain ⟨o, dx, v, x, L, rfl, _⟩ := h
    rfl
  obtain ⟨o, dx, v, x, L, rfl, ho, iL, ⟨r, rvs, rfl, hr1, ha, hl⟩, q⟩ := h
  have nd := scLi.nd
  refine ⟨_, pss_one (ps_fld (pv 0) (pe_lc (own := [("category", 2), ("condition", 3)]) (g := gTup K 2 (gCons (gName 2) (gCons (gName 3) gNil))) (tt := tYes)
      (te := tTup (tCons (tVar 2) (tCons (tCall spCd [] E0 (tCons (tVar 3) tNil)) tNil))) rfl nd (pi_list (pv 1)) (blkOk_by (N := nLi) (sc := defScope sLi) (by decide +kernel))
      (fun _ _ _ _ _ => pg_tup rfl (pgs_cons (pg_name (i := 2) nd rfl (.inl rfl)) (pgs_cons (pg_name (i := 3) nd rfl (.inl rfl)) pgs_nil))) (fun _ _ _ _ _ => pts_nil)
      (fun _ _ _ _ _ => pe_tup (pa_cons (pv 2) (pa_cons (pe_call GR hr rfl mR kR bR .nil pass0 (pa_cons (pv 3) pa_nil)) pa_nil)))) rfl), ?_⟩
  have hr1' := (hids_in hr1).2
  have iO : In (o :: L) H := iL.cons ho
  refine ⟨_, rfl, r, rfl, ⟨_, SqL.of hr1'⟩, fun D hD => ?_⟩
  have s1 : Same H (upd H D (.lst [])) := same_new hD _
  have hlen := ha.length
  refine lc_list (xs := rvs) (fun j H' => ∃ vs, Same H H' ∧ H' D = some (.lst vs) ∧ A2 (RuAt (hids (D :: o :: L) H')) (x.take j) vs) ⟨[], s1, upd_same, rfl⟩ (fun j H' _ ⟨_, s', _⟩ => SqL.of (s' _ _ hr1')) ?_ ?_
  · rintro j y H' hx ⟨vs, s', hD', ha'⟩
    obtain ⟨⟨c, z⟩, hz, p, cv, rfl, hp, hcon⟩ := A2.get ha hx
    have hlt := get_lt hx
    have hvl := ha'.length
    rw [List.length_take] at hvl
    have iD : In (D :: o :: L) H' := (iO.same s').cons hD'
    refine ⟨p, _, rfl, .inl (.inl (s' _ _ (hids_in hp).2)), rfl, .str c, _, rfl, cv, [], rfl, rfl, rfl, ?_⟩
    refine ⟨_, rfl, _, rfl, cv, z, D :: o :: L, rfl, iD, hcon.same (hids_add hD s'), fun v' H2 s2 hv' => ⟨by show 2 ≤ sizeLine; decide, fun t ht => ?_⟩⟩
    have e2 : Same H2 (upd H2 t (.tup [.str c, v'])) := same_new ht _
    have hD2 := s2 _ _ hD'
    have nt := (iD.same s2).new ht
    have tD : t ≠ D := fun e => nt (by rw [e]; exact List.mem_cons_self)
    refine ⟨vs, e2 _ _ hD2, sz_line (by omega), vs ++ [.ref t], same_mut ((s'.trans s2).trans e2) hD _, upd_same, ?_⟩
    rw [List.take_succ, hz]
    refine A2.snoc (ha'.mono fun x v h => RuAt.same ((hids_same (s2.trans e2)).trans (hids_mut List.mem_cons_self _)) x v h) ⟨t, v', rfl, by rw [hids_ne nt, upd_ne tD]; exact upd_same, hv'.same ((hids_same e2).trans (hids_mut List.mem_cons_self _))⟩
  · rintro H' ⟨vs, s', hD', ha'⟩
    rw [show x.take rvs.length = x by rw [hlen, List.take_length]] at ha'
    have nD : D ∉ (o :: L) := iO.new hD
    have Do : D ≠ o := fun e => nD (by rw [e]; exact List.mem_cons_self)
    refine ⟨_, rfl, o, C, dx, _, rfl, s' _ _ ho, Lc.c, Lc.nr, by show 0 < 1000; decide, ?_⟩
    refine q (.ref D) _ (fun a u h ne => by rw [upd_ne ne]; exact s' _ _ h) upd_same ⟨D, vs, rfl, by rw [hids_ne nD, upd_ne Do]; exact hD', ha'.mono fun x v h => RuAt.same (hids_drop.trans (hids_mut List.mem_cons_self _)) x v h, ?_⟩
    have := ha'.length
    omega
end
end Mw

namespace Mw
open PySem L2
theorem hids_out {L : List Addr} {H : Hp} : Same (hids L H) H := fun _ _ h => (hids_in h).2
theorem hids_go {B : Addr} {H H1 : Hp} (g : Go B H H1) : Same (hids [B] H) (hids [B] H1) := fun a o h => by
  obtain ⟨h1, h2⟩ := hids_in h
  rw [hids_ne h1]
  exact g.ext a o (by simpa using h1) h2
theorem fr_hids {B : Addr} {H0 H : Hp} {ob : HO} (hB : H0 B = some ob) : Same (fr H0 H) (hids [B] H) := fun a o h => by
  obtain ⟨h0, h1⟩ := fr_in h
  rw [hids_ne (by simp; rintro rfl; rw [hB] at h0; cases h0)]
  exact h1
section
variable {P : Program} {w : World} {K : PySem.W.Frag} {mg : Str → Option Value} {base : Heap} {C : Addr}
abbrev sLaw : Stmt := top 18
abbrev nLaw : List Str := ["script", "box", "rules", "language", "turn", "number", "condition", "told"]
theorem scLaw : FnScope nLaw ["script"] (defScope sLaw) := ⟨rfl, rfl, rfl, by decide +kernel, rfl, by decide +kernel, by decide +kernel⟩
def spLaw (K : PySem.W.Frag) : Sp := fun vs H Q _ => ∃ (a : Addr) (ns : List Int), vs = [.ref a] ∧ SqL K H a (ns.map V.int) ∧ ∀ H', Q (.bl true) H'
/-- what stays from turn to turn -/
def St0 (C B d : Addr) (rs : List Rule) (vr vl : V) (H : Hp) : Prop := Box H B d ∧ RusAt (hids [B] H) rs vr ∧ LanAt C (hids [B] H) rs vl
theorem St0.go {C B d : Addr} {rs : List Rule} {vr vl : V} {H H' : Hp} (h : St0 C B d rs vr vl H) (g : Go B H H') (b : Box H' B d) : St0 C B d rs vr vl H' :=
  ⟨b, h.2.1.same (hids_go g), h.2.2.same (hids_go g)⟩
theorem St0.same {C B d : Addr} {rs : List Rule} {vr vl : V} {H H' : Hp} (h : St0 C B d rs vr vl H) (s : Same H H') : St0 C B d rs vr vl H' := h.go (Go.same s) (h.1.same s)
theorem ok_law {f fG fU fF fD fO fL fN fH fA fR fI : Addr} {fd fdG fdU fdF fdD fdO fdL fdN fdH fdA fdR fdI : FuncData} (F : Fun K "law" "law" sLaw f fd)
    (gG : FnOk P w K mg base CX0 2 fG fdG ["script", "first", "last"] (spDigits K)) (bG : Binds K fdG ["script", "first", "last"] []) (kG : PySem.W.keepIn K (.ref fG) = true) (mG : mg "_law_digits" = some (.ref fG))
    (gU : FnOk P w K mg base CX0 4 fU fdU ["box"] spLu) (bU : Binds K fdU ["box"] []) (kU : PySem.W.keepIn K (.ref fU) = true) (mU : mg "_law_rules" = some (.ref fU))
    (M : Mk K C fI) (mC : mg "Language" = some (.ref C)) (gI : FnOk P w K mg base CX0 2 fI fdI ["self", "rules"] (spLi C)) (bI : Binds K fdI ["self", "rules"] [])
    (gF : FnOk P w K mg base CX0 2 fF fdF ["box"] spFar) (bF : Binds K fdF ["box"] []) (kF : PySem.W.keepIn K (.ref fF) = true) (mF : mg "_law_far" = some (.ref fF))
    (gD : FnOk P w K mg base CX0 1 fD fdD ["box", "many"] spDraw) (bD : Binds K fdD ["box", "many"] []) (kD : PySem.W.keepIn K (.ref fD) = true) (mD : mg "_law_draw" = some (.ref fD))
    (gO : FnOk P w K mg base CX0 3 fO fdO ["language", "number"] (spCo C)) (bO : Binds K fdO ["language", "number"] []) (kO : PySem.W.keepIn K (.ref fO) = true) (mO : mg "category_of" = some (.ref fO))
    (gL : FnOk P w K mg base CX0 2 fL fdL ["rules", "number"] spLc) (bL : Binds K fdL ["rules", "number"] []) (kL : PySem.W.keepIn K (.ref fL) = true) (mL : mg "_law_category" = some (.ref fL))
    (gN : FnOk P w K mg base CX0 3 fN fdN ["box"] spLn) (bN : Binds K fdN ["box"] []) (kN : PySem.W.keepIn K (.ref fN) = true) (mN : mg "_law_condition" = some (.ref fN))
    (gH : FnOk P w K mg base CX0 2 fH fdH ["condition", "number"] spCh) (bH : Binds K fdH ["condition", "number"] []) (kH : PySem.W.keepIn K (.ref fH) = true) (mH : mg "condition_holds" = some (.ref fH))
    (gA : FnOk P w K mg base CX0 1 fA fdA ["condition", "number"] spCh) (bA : Binds K fdA ["condition", "number"] []) (kA : PySem.W.keepIn K (.ref fA) = true) (mA : mg "_law_holds" = some (.ref fA))
    (gR : FnOk P w K mg base CX0 1 fR fdR ["relation", "number"] spRh) (bR : Binds K fdR ["relation", "number"] []) (kR : PySem.W.keepIn K (.ref fR) = true) (mR : mg "relation_holds" = some (.ref fR))
    (mr : mg "range" = none) (ma : mg "abs" = none) (mi : mg "isinstance" = none) (mb : mg "bool" = none) :
    FnOk P w K mg base CX0 8 f fd ["script"] (spLaw K) := by
  refine F.ok scLaw (fun vs H Q E h => ?_) (fun cdv A outer s H vs Q E hr h => ?_)
  · obtain ⟨a, ns, rfl, _⟩ := h
    rfl
  obtain ⟨a, ns, rfl, hS, q⟩ := h
  have nd := scLaw.nd
  refine ⟨_, pss_cons (ps_set (i := 1) nd rfl (.inl rfl) (pe_lst (pa_cons (pe_call gG (hr.mono (by decide)) rfl mG kG bG .nil pass0 (pa_cons (pv 0) (pa_cons pe_int (pa_cons pe_int pa_nil)))) (pa_cons pe_int pa_nil))))
    (pss_cons (ps_set (i := 2) nd rfl (.inl rfl) (pe_call gU (hr.mono (by decide)) rfl mU kU bU .nil pass0 (pa_cons (pv 1) pa_nil)))
    (pss_cons (ps_set (i := 3) nd rfl (.inl rfl) (pe_make M gI (hr.mono (by decide)) rfl mC bI .nil pass0 (pa_cons (pv 2) pa_nil)))
    (pss_cons (ps_for PassesOwn.never rfl (pi_range1 rfl mr (pa_cons pe_int pa_nil)) (pg_name (i := 4) nd rfl (.inl rfl))
      (pss_cons (ps_set (i := 5) nd rfl (.inl rfl) (pe_call gF (hr.mono (by decide)) rfl mF kF bF .nil pass0 (pa_cons (pv 1) pa_nil)))
      (Evl.pss_cut (ps_if (pt_cmpR op_eq (pe_call gD (hr.mono (by decide)) rfl mD kD bD .nil pass0 (pa_cons (pv 1) (pa_cons pe_int pa_nil))) pe_int (nomark _))
        (pss_one (ps_set (i := 5) nd rfl (.inl rfl) (pe_op op_sub (pe_un un_neg pe_int) (pe_call gD (hr.mono (by decide)) rfl mD kD bD .nil pass0 (pa_cons (pv 1) (pa_cons pe_int pa_nil)))))) pss_nil)
      (pss_cons (ps_if (pt_cmpR op_ne (pe_call gO (hr.mono (by decide)) rfl mO kO bO .nil pass0 (pa_cons (pv 3) (pa_cons (pv 5) pa_nil))) (pe_call gL (hr.mono (by decide)) rfl mL kL bL .nil pass0 (pa_cons (pv 2) (pa_cons (pv 5) pa_nil))) (nomark _))
        (pss_one (ps_ret pe_bl)) pss_nil)
      (pss_cons (ps_set (i := 6) nd rfl (.inl rfl) (pe_call gN (hr.mono (by decide)) rfl mN kN bN .nil pass0 (pa_cons (pv 1) pa_nil)))
      (pss_cons (ps_set (i := 5) nd rfl (.inl rfl) (pe_callB call_abs (by rfl) ma (by decide +kernel) (pa_cons (pv 5) pa_nil)))
      (pss_cons (ps_set (i := 7) nd rfl (.inl rfl) (pe_call gH (hr.mono (by decide)) rfl mH kH bH .nil pass0 (pa_cons (pv 6) (pa_cons (pv 5) pa_nil))))
      (pss_cons (ps_if (PW.pt (pw_or (pt_not (pt_val (pe_callB call_isi (by rfl) mi (by decide +kernel) (pa_cons (pv 7) (pa_cons (pe_bltn (v := .ty "bool") (by rfl) mb (by decide +kernel) rfl) pa_nil)))))
          (pw_or1 (pt_cmpR op_ne (pv 7) (pe_call gA (hr.mono (by decide)) rfl mA kA bA .nil pass0 (pa_cons (pv 6) (pa_cons (pv 5) pa_nil))) (nomark _)))))
        (pss_one (ps_ret pe_bl)) pss_nil)
      (pss_one (ps_if (pt_cmpR op_ne (pe_call gR (hr.mono (by decide)) rfl mR kR bR .nil pass0 (pa_cons (pe_ix ix_list (pe_ix ix_list (pv 6) pe_int (fun _ _ => rfl)) pe_int (fun _ _ => rfl)) (pa_cons (pv 5) pa_nil)))
          (pe_call gA (hr.mono (by decide)) rfl mA kA bA .nil pass0 (pa_cons (pe_lst (pa_cons (pe_lst (pa_cons (pe_ix ix_list (pe_ix ix_list (pv 6) pe_int (fun _ _ => rfl)) pe_int (fun _ _ => rfl)) pa_nil)) pa_nil)) (pa_cons (pv 5) pa_nil))) (nomark _))
        (pss_one (ps_ret pe_bl)) pss_nil))))))))))
    (pss_one (ps_ret pe_bl))))), ?_⟩
  refine ⟨_, rfl, a, ns, rfl, hS, fun d H1 ds hd0 s1 hd => ⟨by show 2 ≤ sizeLine; decide, fun B hB => ?_⟩⟩
  have ndB : d ≠ B := ne_of_none hd hB
  generalize hH0 : upd H1 B (.lst [.ref d, .int 0]) = H0
  have hB0 : H0 B = some (.lst [.ref d, .int 0]) := by rw [← hH0]; exact upd_same
  have hbox : Box H0 B d := ⟨ds, 0, hB0, by rw [← hH0, upd_ne ndB]; exact hd, Int.le_refl 0⟩
  refine ⟨_, rfl, B, d, rfl, hbox, fun vr rs H2 g2 b2 hrs => ?_⟩
  have hrs2 : RusAt (hids [B] H2) rs vr := hrs.same (fr_hids hB0)
  refine ⟨_, rfl, fun o dx ho hdx ne => ?_⟩
  have S2 : Same H2 (upd (upd H2 dx (.own o)) o (.ins C dx [])) := same_mut (same_new hdx _) ho _
  have oB := b2.neB ho
  have i2 : In [B] (upd (upd H2 dx (.own o)) o (.ins C dx [])) := fun b hb => by
    rw [List.mem_singleton] at hb
    subst hb
    exact (b2.same S2).isB
  refine ⟨o, dx, vr, rs, [B], rfl, upd_same, i2, hrs2.same (hids_add ho S2), fun q3 H3 k3 ho3 hq3 => ⟨rfl, ?_⟩⟩
  have S3 : Same H2 H3 := fun b u h => k3 b u (S2 b u h) (by rintro rfl; rw [ho] at h; cases h)
  have st3 : St0 C B d rs vr (.ref o) H3 := ⟨b2.same S3, hrs2.same (hids_same S3), ⟨o, dx, q3, rfl, by rw [hids_ne (by simpa using oB)]; exact ho3, hq3.same hids_drop⟩⟩
  refine ⟨12, rfl, by decide, by decide, for_range (lo := 0) (n := 12) (fun i σ H' => (∃ o4 o5 o6 o7, σ = [some (.ref a), some (.ref B), some vr, some (.ref o), o4, o5, o6, o7]) ∧ St0 C B d rs vr (.ref o) H') ⟨⟨_, _, _, _, rfl⟩, st3⟩ ?_ (fun σ H' _ => q H')⟩
  rintro i σ H4 hi ⟨⟨o4, o5, o6, o7, rfl⟩, st4⟩
  refine ⟨_, rfl, B, d, rfl, st4.1, fun z H5 z0 g5 b5 => ?_⟩
  have st5 := st4.go g5 b5
  refine ⟨fun σ' H' => ∃ n : Int, σ' = [some (.ref a), some (.ref B), some vr, some (.ref o), some (.int (0 + i)), some (.int n), o6, o7] ∧ St0 C B d rs vr (.ref o) H', ?_, ?_⟩
  · refine ⟨_, rfl, B, d, 9, rfl, by decide, b5, fun y H6 y0 y1 g6 b6 => ⟨rfl, _, rfl, ?_⟩⟩
    have st6 := st5.go g6 b6
    refine ite2 (fun c => ?_) (fun c => ?_)
    · refine ⟨1, rfl, _, rfl, B, d, 9, rfl, by decide, b6, fun x H7 x0 x1 g7 b7 => ⟨_, _, rfl, rfl, ?_⟩⟩
      exact ⟨_, rfl, st6.go g7 b7⟩
    · exact ⟨_, rfl, st6⟩
  rintro σ' H6 ⟨n, rfl, st6⟩
  refine ⟨_, rfl, _, rfl, .ref o, rs, n, rfl, st6.2.2.same hids_out, fun H7 s7 => ?_⟩
  have st7 := st6.same s7
  refine ⟨_, rfl, _, rfl, vr, rs, n, rfl, st7.2.1.same hids_out, fun H8 s8 => ⟨rfl, _, rfl, ?_⟩⟩
  have st8 := st7.same s8
  rw [show (!decide (V.str (catN rs n) = V.str (catN rs n))) = false by simp]
  refine ⟨_, rfl, B, d, rfl, st8.1, fun cv x H9 g9 b9 hx full => ?_⟩
  have st9 := st8.go g9 b9
  obtain ⟨ob8, hB8⟩ := st8.1.isB
  have hc9 : ConAt H9 x cv := hx.same fr_out
  refine ⟨_, rfl, n, rfl, ?_⟩
  generalize (if n < 0 then -n else n) = n'
  refine ⟨_, rfl, _, rfl, cv, x, n', rfl, hc9, fun HA sA => ?_⟩
  have stA := st9.same sA
  refine ⟨_, rfl, .bl (conB n' x), .ty "bool", .type "bool", .type "bool", true, rfl, .ty "bool", .base (.bl _), kit_ty (by decide +kernel), true, rfl, ?_⟩
  refine ⟨_, rfl, _, rfl, _, rfl, cv, x, n', rfl, hc9.same sA, fun HB sB => ⟨rfl, _, rfl, ?_⟩⟩
  have stB := stA.same sB
  rw [show (!decide (V.bl (conB n' x) = V.bl (conB n' x))) = false by simp]
  cases x with
  | nil => exact absurd rfl full.1
  | cons row rest =>
  cases row with
  | nil => exact absurd rfl (full.2 [] List.mem_cons_self)
  | cons rel more =>
  have hcB : ConAt HB ((rel :: more) :: rest) cv := ConAt.same (sA.trans sB) _ _ hc9
  obtain ⟨r, cvs, rfl, hr1, ⟨v0, ws, rfl, ⟨rr, rvs, rfl, hrr, ⟨u0, us, rfl, hrel, har⟩, hlr⟩, ha⟩, hl⟩ := hcB
  refine ⟨_, rfl, r, _, 0, .ref rr, rfl, rfl, SqL.of hr1, atI_nat (j := 0) rfl, rr, _, 0, u0, rfl, rfl, SqL.of hrr, atI_nat (j := 0) rfl, _, rfl, u0, rel, n', rfl, hrel, fun HC sC => ?_⟩
  have stC := stB.same sC
  refine ⟨_, rfl, r, _, 0, .ref rr, rfl, rfl, SqL.of (sC _ _ hr1), atI_nat (j := 0) rfl, rr, _, 0, u0, rfl, rfl, SqL.of (sC _ _ hrr), atI_nat (j := 0) rfl, by show 1 ≤ sizeLine; decide, fun l1 hl1 => ⟨by show 1 ≤ sizeLine; decide, fun l2 hl2 => ?_⟩⟩
  have t1 : Same HC (upd HC l1 (.lst [u0])) := same_new hl1 _
  have t2 : Same (upd HC l1 (.lst [u0])) (upd (upd HC l1 (.lst [u0])) l2 (.lst [.ref l1])) := same_new hl2 _
  have stE := stC.same (t1.trans t2)
  have hrelE := RelAt.same ((sC.trans t1).trans t2) _ _ hrel
  refine ⟨_, rfl, .ref l2, [[rel]], n', rfl, ⟨l2, _, rfl, upd_same, ⟨_, [], rfl, ⟨l1, _, rfl, t2 _ _ upd_same, ⟨u0, [], rfl, hrelE, rfl⟩, by show 1 < 100000; decide⟩, rfl⟩, by show 1 < 100000; decide⟩, fun HF sF => ⟨rfl, _, rfl, ?_⟩⟩
  have e : conB n' [[rel]] = relB n' rel := by
    show ((relB n' rel && true) || false) = relB n' rel
    simp
  rw [e, show (!decide (V.bl (relB n' rel) = V.bl (relB n' rel))) = false by simp]
  exact ⟨⟨_, _, _, _, rfl⟩, stE.same sF⟩
end
end Mw

namespace Mw
open PySem L2
theorem all_mk {l : PySem.W.OpenLaw} {w : World} {K : PySem.W.Frag} {h : Heap} {mg : Str → Option Value} {fa f1 f2 f3 f4 f5 f6 f7 f8 f9 f10 f11 f12 f13 f14 C fI : Addr} (X : K.In h) (G : h.Ns mainGlobals mg) (hfa : mg "law" = some (.ref fa))
    {od1 an1 od2 an2 od3 an3 od4 an4 od5 an5 od6 an6 od7 an7 od8 an8 od9 an9 od10 an10 od11 an11 od12 an12 od13 an13 od14 an14 odI anI : Option Addr} {sl1 sl2 sl3 sl4 sl5 sl6 sl7 sl8 sl9 sl10 sl11 sl12 sl13 sl14 slI : Array (Option Value)} {oc1 kV1 dc1 pm1 cd1 ct1 oc2 kV2 dc2 pm2 cd2 ct2 oc3 kV3 dc3 pm3 cd3 ct3 oc4 kV4 dc4 pm4 cd4 ct4 oc5 kV5 dc5 pm5 cd5 ct5 oc6 kV6 dc6 pm6 cd6 ct6 oc7 kV7 dc7 pm7 cd7 ct7 oc8 kV8 dc8 pm8 cd8 ct8 oc9 kV9 dc9 pm9 cd9 ct9 oc10 kV10 dc10 pm10 cd10 ct10 oc11 kV11 dc11 pm11 cd11 ct11 oc12 kV12 dc12 pm12 cd12 ct12 oc13 kV13 dc13 pm13 cd13 ct13 oc14 kV14 dc14 pm14 cd14 ct14 ocI kVI dcI pmI cdI ctI : Value}
    (a1 : PySem.W.nsIn K mainGlobals "copied" = some (some (.ref f1))) (l1 : K.lookup f1 = some ⟨oc1, od1, .func (PySem.W.fnOf "copied" "copied" (defArgs sCd) (defBody sCd) (defScope sCd) .none kV1 dc1 pm1 an1 cd1 ct1), sl1⟩) (c1 : PySem.W.codeIn K cd1 "copied" = true) (k1 : PySem.W.keepIn K (.ref f1) = true)
    (a2 : PySem.W.nsIn K mainGlobals "relation_holds" = some (some (.ref f2))) (l2 : K.lookup f2 = some ⟨oc2, od2, .func (PySem.W.fnOf "relation_holds" "relation_holds" (defArgs sRh) (defBody sRh) (defScope sRh) .none kV2 dc2 pm2 an2 cd2 ct2), sl2⟩) (c2 : PySem.W.codeIn K cd2 "relation_holds" = true) (k2 : PySem.W.keepIn K (.ref f2) = true)
    (a3 : PySem.W.nsIn K mainGlobals "condition_holds" = some (some (.ref f3))) (l3 : K.lookup f3 = some ⟨oc3, od3, .func (PySem.W.fnOf "condition_holds" "condition_holds" (defArgs sCh) (defBody sCh) (defScope sCh) .none kV3 dc3 pm3 an3 cd3 ct3), sl3⟩) (c3 : PySem.W.codeIn K cd3 "condition_holds" = true) (k3 : PySem.W.keepIn K (.ref f3) = true)
    (a4 : PySem.W.nsIn K mainGlobals "category_of" = some (some (.ref f4))) (l4 : K.lookup f4 = some ⟨oc4, od4, .func (PySem.W.fnOf "category_of" "category_of" (defArgs sCo) (defBody sCo) (defScope sCo) .none kV4 dc4 pm4 an4 cd4 ct4), sl4⟩) (c4 : PySem.W.codeIn K cd4 "category_of" = true) (k4 : PySem.W.keepIn K (.ref f4) = true)
    (a5 : PySem.W.nsIn K mainGlobals "_law_cell" = some (some (.ref f5))) (l5 : K.lookup f5 = some ⟨oc5, od5, .func (PySem.W.fnOf "_law_cell" "_law_cell" (defArgs sCell) (defBody sCell) (defScope sCell) .none kV5 dc5 pm5 an5 cd5 ct5), sl5⟩) (c5 : PySem.W.codeIn K cd5 "_law_cell" = true) (k5 : PySem.W.keepIn K (.ref f5) = true)
    (a6 : PySem.W.nsIn K mainGlobals "_law_digits" = some (some (.ref f6))) (l6 : K.lookup f6 = some ⟨oc6, od6, .func (PySem.W.fnOf "_law_digits" "_law_digits" (defArgs sDigits) (defBody sDigits) (defScope sDigits) .none kV6 dc6 pm6 an6 cd6 ct6), sl6⟩) (c6 : PySem.W.codeIn K cd6 "_law_digits" = true) (k6 : PySem.W.keepIn K (.ref f6) = true)
    (a7 : PySem.W.nsIn K mainGlobals "_law_draw" = some (some (.ref f7))) (l7 : K.lookup f7 = some ⟨oc7, od7, .func (PySem.W.fnOf "_law_draw" "_law_draw" (defArgs sDraw) (defBody sDraw) (defScope sDraw) .none kV7 dc7 pm7 an7 cd7 ct7), sl7⟩) (c7 : PySem.W.codeIn K cd7 "_law_draw" = true) (k7 : PySem.W.keepIn K (.ref f7) = true)
    (a8 : PySem.W.nsIn K mainGlobals "_law_relation" = some (some (.ref f8))) (l8 : K.lookup f8 = some ⟨oc8, od8, .func (PySem.W.fnOf "_law_relation" "_law_relation" (defArgs sLr) (defBody sLr) (defScope sLr) .none kV8 dc8 pm8 an8 cd8 ct8), sl8⟩) (c8 : PySem.W.codeIn K cd8 "_law_relation" = true) (k8 : PySem.W.keepIn K (.ref f8) = true)
    (a9 : PySem.W.nsIn K mainGlobals "_law_condition" = some (some (.ref f9))) (l9 : K.lookup f9 = some ⟨oc9, od9, .func (PySem.W.fnOf "_law_condition" "_law_condition" (defArgs sLn) (defBody sLn) (defScope sLn) .none kV9 dc9 pm9 an9 cd9 ct9), sl9⟩) (c9 : PySem.W.codeIn K cd9 "_law_condition" = true) (k9 : PySem.W.keepIn K (.ref f9) = true)
    (a10 : PySem.W.nsIn K mainGlobals "_law_rules" = some (some (.ref f10))) (l10 : K.lookup f10 = some ⟨oc10, od10, .func (PySem.W.fnOf "_law_rules" "_law_rules" (defArgs sLu) (defBody sLu) (defScope sLu) .none kV10 dc10 pm10 an10 cd10 ct10), sl10⟩) (c10 : PySem.W.codeIn K cd10 "_law_rules" = true) (k10 : PySem.W.keepIn K (.ref f10) = true)
    (a11 : PySem.W.nsIn K mainGlobals "_law_holds" = some (some (.ref f11))) (l11 : K.lookup f11 = some ⟨oc11, od11, .func (PySem.W.fnOf "_law_holds" "_law_holds" (defArgs sLh) (defBody sLh) (defScope sLh) .none kV11 dc11 pm11 an11 cd11 ct11), sl11⟩) (c11 : PySem.W.codeIn K cd11 "_law_holds" = true) (k11 : PySem.W.keepIn K (.ref f11) = true)
    (a12 : PySem.W.nsIn K mainGlobals "_law_category" = some (some (.ref f12))) (l12 : K.lookup f12 = some ⟨oc12, od12, .func (PySem.W.fnOf "_law_category" "_law_category" (defArgs sLc) (defBody sLc) (defScope sLc) .none kV12 dc12 pm12 an12 cd12 ct12), sl12⟩) (c12 : PySem.W.codeIn K cd12 "_law_category" = true) (k12 : PySem.W.keepIn K (.ref f12) = true)
    (a13 : PySem.W.nsIn K mainGlobals "_law_far" = some (some (.ref f13))) (l13 : K.lookup f13 = some ⟨oc13, od13, .func (PySem.W.fnOf "_law_far" "_law_far" (defArgs sFar) (defBody sFar) (defScope sFar) .none kV13 dc13 pm13 an13 cd13 ct13), sl13⟩) (c13 : PySem.W.codeIn K cd13 "_law_far" = true) (k13 : PySem.W.keepIn K (.ref f13) = true)
    (a14 : PySem.W.nsIn K mainGlobals "law" = some (some (.ref f14))) (l14 : K.lookup f14 = some ⟨oc14, od14, .func (PySem.W.fnOf "law" "law" (defArgs sLaw) (defBody sLaw) (defScope sLaw) .none kV14 dc14 pm14 an14 cd14 ct14), sl14⟩) (c14 : PySem.W.codeIn K cd14 "law" = true) (k14 : PySem.W.keepIn K (.ref f14) = true)
    (aC : PySem.W.nsIn K mainGlobals "Language" = some (some (.ref C)))
    (mk1 : PySem.W.makesIn K C = true)
    (mk2 : PySem.W.findIn K (.ref C) "__init__" = some (some (.ref fI)))
    (mk3 : PySem.W.isFn K (.ref fI) = true)
    (mk4 : PySem.W.keepIn K (.ref C) = true)
    (lI : K.lookup fI = some ⟨ocI, odI, .func (PySem.W.fnOf "__init__" "Language.__init__" (defArgs sLi) (defBody sLi) (defScope sLi) .none kVI dcI pmI anI cdI ctI), slI⟩)
    (cI : PySem.W.codeIn K cdI "Language.__init__" = true)
    (kI : PySem.W.keepIn K (.ref fI) = true)
    (pg : PySem.W.plainGet K C Str.empty = true)
    (hd : PySem.W.hasDictIn K C = true)
    (po : PySem.W.plainOver K C = true)
    (sa : PySem.W.findIn K (.ref C) "__setattr__" = some (some (.builtin "object.__setattr__")))
    (nr : PySem.W.findIn K (.ref C) "rules" = some none)
    (z1 : PySem.W.nsIn K mainGlobals "len" = some none) (z2 : PySem.W.nsIn K mainGlobals "list" = some none) (z3 : PySem.W.nsIn K mainGlobals "range" = some none) (z4 : PySem.W.nsIn K mainGlobals "int" = some none) (z5 : PySem.W.nsIn K mainGlobals "any" = some none) (z6 : PySem.W.nsIn K mainGlobals "all" = some none) (z7 : PySem.W.nsIn K mainGlobals "abs" = some none) (z8 : PySem.W.nsIn K mainGlobals "isinstance" = some none) (z9 : PySem.W.nsIn K mainGlobals "bool" = some none) :
    ∃ fd : FuncData, (∀ (s : Shared) (v : Value), BindsTo s fd ⟨[v], []⟩ [("script", v)]) ∧ ∀ base : Heap, K.In base → base.Ns mainGlobals mg → FnOk l.prog w K mg base CX0 8 fa fd ["script"] (spLaw K) := by
  have e := hfa.symm.trans (PySem.W.mg_of X G a14)
  cases e
  have F1 := fun_mk (st := sCd) l1 c1 k1
  have F2 := fun_mk (st := sRh) l2 c2 k2
  have F3 := fun_mk (st := sCh) l3 c3 k3
  have F4 := fun_mk (st := sCo) l4 c4 k4
  have F5 := fun_mk (st := sCell) l5 c5 k5
  have F6 := fun_mk (st := sDigits) l6 c6 k6
  have F7 := fun_mk (st := sDraw) l7 c7 k7
  have F8 := fun_mk (st := sLr) l8 c8 k8
  have F9 := fun_mk (st := sLn) l9 c9 k9
  have F10 := fun_mk (st := sLu) l10 c10 k10
  have F11 := fun_mk (st := sLh) l11 c11 k11
  have F12 := fun_mk (st := sLc) l12 c12 k12
  have F13 := fun_mk (st := sFar) l13 c13 k13
  have F14 := fun_mk (st := sLaw) l14 c14 k14
  have FI := fun_mk (st := sLi) lI cI kI
  have b1 := F1.binds (ps := ["condition"]) fun _ _ _ _ _ _ us hl => match us, hl with | [_], _ => rfl
  have b2 := F2.binds (ps := ["relation", "number"]) fun _ _ _ _ _ _ us hl => match us, hl with | [_, _], _ => rfl
  have b3 := F3.binds (ps := ["condition", "number"]) fun _ _ _ _ _ _ us hl => match us, hl with | [_, _], _ => rfl
  have b4 := F4.binds (ps := ["language", "number"]) fun _ _ _ _ _ _ us hl => match us, hl with | [_, _], _ => rfl
  have b5 := F5.binds (ps := ["script", "k"]) fun _ _ _ _ _ _ us hl => match us, hl with | [_, _], _ => rfl
  have b6 := F6.binds (ps := ["script", "first", "last"]) fun _ _ _ _ _ _ us hl => match us, hl with | [_, _, _], _ => rfl
  have b7 := F7.binds (ps := ["box", "many"]) fun _ _ _ _ _ _ us hl => match us, hl with | [_, _], _ => rfl
  have b8 := F8.binds (ps := ["box"]) fun _ _ _ _ _ _ us hl => match us, hl with | [_], _ => rfl
  have b9 := F9.binds (ps := ["box"]) fun _ _ _ _ _ _ us hl => match us, hl with | [_], _ => rfl
  have b10 := F10.binds (ps := ["box"]) fun _ _ _ _ _ _ us hl => match us, hl with | [_], _ => rfl
  have b11 := F11.binds (ps := ["condition", "number"]) fun _ _ _ _ _ _ us hl => match us, hl with | [_, _], _ => rfl
  have b12 := F12.binds (ps := ["rules", "number"]) fun _ _ _ _ _ _ us hl => match us, hl with | [_, _], _ => rfl
  have b13 := F13.binds (ps := ["box"]) fun _ _ _ _ _ _ us hl => match us, hl with | [_], _ => rfl
  have b14 := F14.binds (ps := ["script"]) fun _ _ _ _ _ _ us hl => match us, hl with | [_], _ => rfl
  have bI := FI.binds (ps := ["self", "rules"]) fun _ _ _ _ _ _ us hl => match us, hl with | [_, _], _ => rfl
  have g1 := PySem.W.mg_of X G a1
  have g2 := PySem.W.mg_of X G a2
  have g3 := PySem.W.mg_of X G a3
  have g4 := PySem.W.mg_of X G a4
  have g5 := PySem.W.mg_of X G a5
  have g6 := PySem.W.mg_of X G a6
  have g7 := PySem.W.mg_of X G a7
  have g8 := PySem.W.mg_of X G a8
  have g9 := PySem.W.mg_of X G a9
  have g10 := PySem.W.mg_of X G a10
  have g11 := PySem.W.mg_of X G a11
  have g12 := PySem.W.mg_of X G a12
  have g13 := PySem.W.mg_of X G a13
  have g14 := PySem.W.mg_of X G a14
  have y1 := PySem.W.mg_none_of X G z1
  have y2 := PySem.W.mg_none_of X G z2
  have y3 := PySem.W.mg_none_of X G z3
  have y4 := PySem.W.mg_none_of X G z4
  have y5 := PySem.W.mg_none_of X G z5
  have y6 := PySem.W.mg_none_of X G z6
  have y7 := PySem.W.mg_none_of X G z7
  have y8 := PySem.W.mg_none_of X G z8
  have y9 := PySem.W.mg_none_of X G z9
  have gC := PySem.W.mg_of X G aC
  have Lc : LC K C := ⟨⟨pg, hd, po, sa⟩, nr⟩
  have MM : Mk K C fI := ⟨mk1, mk2, mk3, mk4⟩
  refine ⟨PySem.W.fnOf "law" "law" (defArgs sLaw) (defBody sLaw) (defScope sLaw) .none kV14 dc14 pm14 an14 cd14 ct14, fun s v => .of_eq rfl, fun base _ _ => ?_⟩
  have gCd := ok_cd (P := l.prog) (w := w) (mg := mg) (base := base) F1 y2
  have gRh := ok_rh (P := l.prog) (w := w) (mg := mg) (base := base) F2 y5
  have gCh := ok_ch F3 gRh b2 k2 g2 y5 y6
  have gCo := ok_co F4 Lc gCh b3 k3 g3
  have gLi := ok_li FI Lc gCd b1 k1 g1
  have gCe := ok_cell (P := l.prog) (w := w) (mg := mg) (base := base) F5 y1
  have gDg := ok_digits F6 gCe b5 k5 g5 y3 y4
  have gDr := ok_draw (P := l.prog) (w := w) (mg := mg) (base := base) F7 y1 y4
  have gLr := ok_lr F8 gDr b7 k7 g7 y3 y4
  have gLn := ok_ln F9 gDr b7 k7 g7 gLr b8 k8 g8 y3
  have gLu := ok_lu F10 gDr b7 k7 g7 gLn b9 k9 g9
  have gLh := ok_lh (P := l.prog) (w := w) (mg := mg) (base := base) F11 y4
  have gLc := ok_lcat F12 gLh b11 k11 g11
  have gFa := ok_far F13 gDr b7 k7 g7
  exact ok_law F14 gDg b6 k6 g6 gLu b10 k10 g10 MM gC gLi bI gFa b13 k13 g13 gDr b7 k7 g7 gCo b4 k4 g4 gLc b12 k12 g12 gLn b9 k9 g9 gCh b3 k3 g3 gLh b11 k11 g11 gRh b2 k2 g2 y3 y7 y8 y9
theorem walk {l : PySem.W.OpenLaw} {q : Program} {loose : List Str} {XP : (Str → Option Value) → Heap → Prop} {YP : World → Heap → Prop} {d : DefRec} {K : Params → PySem.W.Frag} (hn : l.most = some 63) (hdf : d.params.defaults = [])
    (hY : ∀ (w : World) (h : Heap), YP w h → (K w.params).In h)
    (F : ∀ (w : World) (mg : Str → Option Value) (fa : Addr) (h : Heap), (K w.params).In h → h.Ns mainGlobals mg → mg d.name = some (.ref fa) →
      ∃ fd : FuncData, (∀ (s : Shared) (u : Value), BindsTo s fd ⟨[u], []⟩ [("script", u)]) ∧ ∀ base : Heap, (K w.params).In base → base.Ns mainGlobals mg → FnOk l.prog w (K w.params) mg base CX0 8 fa fd ["script"] (spLaw (K w.params))) :
    PySem.W.WalkO q loose XP YP l.row.toRowW d [] (fun f vs => PySem.call f vs) :=
  L2.walk_of (n := 63) (k := 8) (x := "script") (CX := fun _ => CX0) (sp := fun w => spLaw (K w.params)) hn (by decide) hdf ⟨rfl, by decide, by decide⟩ hY F (fun _ _ a ns _ _ hS => ⟨a, ns, rfl, hS, fun _ => rfl⟩) fun _ _ _ _ _ z => z
end Mw
open PySem PySem.W PyProof.Rows
set_option maxRecDepth 100000 in
set_option maxHeartbeats 0 in
theorem PySem.Challenge.cw_messageways_k07_categories_of_numbers_holds : PySem.Challenge.rw_messageways_k07_categories_of_numbers.Holds := by
  w_on; o_law; k_head; (case hw => w_witness2)
  k_fill
  refine Mw.walk (l := PySem.Challenge.rw_messageways_k07_categories_of_numbers) rfl rfl (fun w h Y => PySem.W.kIn_of Y) ?F
  case F =>
    intro w mg fa h KX G hmg
    refine' Mw.all_mk KX G hmg ?a1 ?l1 ?c1 ?k1 ?a2 ?l2 ?c2 ?k2 ?a3 ?l3 ?c3 ?k3 ?a4 ?l4 ?c4 ?k4 ?a5 ?l5 ?c5 ?k5 ?a6 ?l6 ?c6 ?k6 ?a7 ?l7 ?c7 ?k7 ?a8 ?l8 ?c8 ?k8 ?a9 ?l9 ?c9 ?k9 ?a10 ?l10 ?c10 ?k10 ?a11 ?l11 ?c11 ?k11 ?a12 ?l12 ?c12 ?k12 ?a13 ?l13 ?c13 ?k13 ?a14 ?l14 ?c14 ?k14 ?aC ?mk1 ?mk2 ?mk3 ?mk4 ?lI ?cI ?kI ?pg ?hd ?po ?sa ?nr ?z1 ?z2 ?z3 ?z4 ?z5 ?z6 ?z7 ?z8 ?z9
    (case a1 => k_is); (case l1 => k_is); (case c1 => k_is); (case k1 => k_is)
    (case a2 => k_is); (case l2 => k_is); (case c2 => k_is); (case k2 => k_is)
    (case a3 => k_is); (case l3 => k_is); (case c3 => k_is); (case k3 => k_is)
    (case a4 => k_is); (case l4 => k_is); (case c4 => k_is); (case k4 => k_is)
    (case a5 => k_is); (case l5 => k_is); (case c5 => k_is); (case k5 => k_is)
    (case a6 => k_is); (case l6 => k_is); (case c6 => k_is); (case k6 => k_is)
    (case a7 => k_is); (case l7 => k_is); (case c7 => k_is); (case k7 => k_is)
    (case a8 => k_is); (case l8 => k_is); (case c8 => k_is); (case k8 => k_is)
    (case a9 => k_is); (case l9 => k_is); (case c9 => k_is); (case k9 => k_is)
    (case a10 => k_is); (case l10 => k_is); (case c10 => k_is); (case k10 => k_is)
    (case a11 => k_is); (case l11 => k_is); (case c11 => k_is); (case k11 => k_is)
    (case a12 => k_is); (case l12 => k_is); (case c12 => k_is); (case k12 => k_is)
    (case a13 => k_is); (case l13 => k_is); (case c13 => k_is); (case k13 => k_is)
    (case a14 => k_is); (case l14 => k_is); (case c14 => k_is); (case k14 => k_is)
    (case aC => k_is)
    (case mk1 => k_is)
    (case mk2 => k_is)
    (case mk3 => k_is)
    (case mk4 => k_is)
    (case lI => k_is)
    (case cI => k_is)
    (case kI => k_is)
    (case pg => k_is)
    (case hd => k_is)
    (case po => k_is)
    (case sa => k_is)
    (case nr => k_is)
    (case z1 => k_is)
    (case z2 => k_is)
    (case z3 => k_is)
    (case z4 => k_is)
    (case z5 => k_is)
    (case z6 => k_is)
    (case z7 => k_is)
    (case z8 => k_is)
    (case z9 => k_is)

