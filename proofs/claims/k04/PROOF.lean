import PyProof.Rows.All
import Wide.All
import OpenK.AllK
import Wide.FinOn
import HandS.Base
import HandS.Call
import HandS.List
import HandS.Comp
import HandS.Ends
import HandS.Dict
import HandS.Iter
import HandS.Text
import HandS.Words
import HandS.WordsList
import HandS.Evl
import HandS.Style
import HandS.Walk
import HandS.Zip
import HandS.More
import HandS.FStr
import HandS.IsInst
import KE.KDictExact
import KE.KExcSuper
import HandS.Exc
import HandS.ExcInit
import HandS.Nested
import HandS.WordsExc
import PyProof.Rows.StrJoinMade
import HandS.ExcOwn
import KE.GoesRaise
import HandS.StrMore
import HandS.Codes
import HandS.ListItems
import HandS.ExcField
import KE.KExcIs
import HandS.LawCells
import HandS.TryOnly
import HandS.ExcIs
import PySem.Challenge.RW_messageways_k04_notations_that_end_too_e
set_option Elab.async false
set_option maxRecDepth 100000
namespace Mw
open PySem L2
def top (i : Nat) : Stmt := PySem.Challenge.pw_messageways_k04_notations_that_end_too_e.main.body.getD i (.Pass ⟨0, 0, 0, 0⟩)
/-! ### trees of messages: a message is a chain of nodes, the cases of a choice a chain of cas -/
inductive T where
  | nil
  | text (s : Str) (r : T)
  | shw (n : Str) (r : T)
  | num (r : T)
  | cho (hd : List V) (cs o r : T)
  | cas (k : V) (m r : T)
/-- the values vs are the nodes (the cases) of the tree, as the heap has them -/
def Nodes (H : Hp) : T → List V → Prop
  | .nil, vs => vs = []
  | .text s r, vs => ∃ p ws, vs = .ref p :: ws ∧ H p = some (.tup [.str "text", .str s]) ∧ Nodes H r ws
  | .shw n r, vs => ∃ p ws, vs = .ref p :: ws ∧ H p = some (.tup [.str "show", .str n]) ∧ Nodes H r ws
  | .num r, vs => ∃ p ws, vs = .ref p :: ws ∧ H p = some (.tup [.str "number"]) ∧ Nodes H r ws
  | .cho hd cs o r, vs => ∃ p ws ca cvs oa ovs, vs = .ref p :: ws ∧ H p = some (.tup (hd ++ [.ref ca, .ref oa])) ∧ H ca = some (.lst cvs) ∧ Nodes H cs cvs ∧ H oa = some (.lst ovs) ∧ Nodes H o ovs ∧ Nodes H r ws
  | .cas k m r, vs => ∃ p ws ma mvs, vs = .ref p :: ws ∧ H p = some (.tup [k, .ref ma]) ∧ H ma = some (.lst mvs) ∧ Nodes H m mvs ∧ Nodes H r ws
/-- a list at a that is a message -/
def At (H : Hp) (a : Addr) (t : T) : Prop := ∃ vs, H a = some (.lst vs) ∧ Nodes H t vs
/-- all but the box stays; the box is a list of a ref and an int -/
def IsBox (vs : List V) : Prop := ∃ d i, vs = [.ref d, .int i]
def Ext (B : Addr) (H H' : Hp) : Prop := ∀ b o, b ≠ B → H b = some o → H' b = some o
theorem Ext.refl {B : Addr} (H : Hp) : Ext B H H := fun _ _ _ h => h
theorem Ext.trans {B : Addr} {H H1 H2 : Hp} (a : Ext B H H1) (b : Ext B H1 H2) : Ext B H H2 := fun c o n h => b c o n (a c o n h)
theorem Ext.of {B : Addr} {H H' : Hp} (s : Same H H') : Ext B H H' := fun b o _ h => s b o h
theorem same_new {H : Hp} {p : Addr} (h : H p = none) (o : HO) : Same H (upd H p o) := fun b u q => by
  rw [upd_ne (ne_of_none q h)]
  exact q
theorem same_mut {H H' : Hp} {p : Addr} (s : Same H H') (h : H p = none) (o : HO) : Same H (upd H' p o) := fun b u q => by
  rw [upd_ne (ne_of_none q h)]
  exact s b u q
theorem Nodes.refs {H : Hp} : ∀ {t : T} {vs : List V}, Nodes H t vs → ∀ v ∈ vs, ∃ a, v = .ref a
  | .nil, _, h, v, hv => by
    have h' : _ = [] := h
    subst h'
    cases hv
  | .text s r, _, h, v, hv => by
    obtain ⟨p, ws, rfl, _, hr⟩ := h
    rcases List.mem_cons.mp hv with rfl | hv
    · exact ⟨_, rfl⟩
    · exact Nodes.refs hr v hv
  | .shw n r, _, h, v, hv => by
    obtain ⟨p, ws, rfl, _, hr⟩ := h
    rcases List.mem_cons.mp hv with rfl | hv
    · exact ⟨_, rfl⟩
    · exact Nodes.refs hr v hv
  | .num r, _, h, v, hv => by
    obtain ⟨p, ws, rfl, _, hr⟩ := h
    rcases List.mem_cons.mp hv with rfl | hv
    · exact ⟨_, rfl⟩
    · exact Nodes.refs hr v hv
  | .cho hd cs o r, _, h, v, hv => by
    obtain ⟨p, ws, ca, cvs, oa, ovs, rfl, _, _, _, _, _, hr⟩ := h
    rcases List.mem_cons.mp hv with rfl | hv
    · exact ⟨_, rfl⟩
    · exact Nodes.refs hr v hv
  | .cas k m r, _, h, v, hv => by
    obtain ⟨p, ws, ma, mvs, rfl, _, _, _, hr⟩ := h
    rcases List.mem_cons.mp hv with rfl | hv
    · exact ⟨_, rfl⟩
    · exact Nodes.refs hr v hv
theorem Nodes.notBox {H : Hp} {t : T} {vs : List V} (h : Nodes H t vs) : ¬ IsBox vs := by
  rintro ⟨d, i, rfl⟩
  obtain ⟨a, e⟩ := h.refs (.int i) (by simp)
  cases e
theorem lst_ne {B a : Addr} {H : Hp} {bs vs : List V} (hb : H B = some (.lst bs)) (ib : IsBox bs) (ha : H a = some (.lst vs)) (nv : ¬ IsBox vs) : a ≠ B := by
  intro e
  subst e
  rw [hb] at ha
  cases ha
  exact nv ib
theorem tup_ne {B a : Addr} {H : Hp} {bs vs : List V} (hb : H B = some (.lst bs)) (ha : H a = some (.tup vs)) : a ≠ B := by
  intro e
  subst e
  rw [hb] at ha
  cases ha
/-- a tree stays where all but the box stays -/
theorem Nodes.ext {B : Addr} {H H' : Hp} {bs : List V} (hb : H B = some (.lst bs)) (ib : IsBox bs) (e : Ext B H H') : ∀ {t : T} {vs : List V}, Nodes H t vs → Nodes H' t vs
  | .nil, _, h => h
  | .text s r, _, h => by
    obtain ⟨p, ws, rfl, hp, hr⟩ := h
    exact ⟨p, ws, rfl, e _ _ (tup_ne hb hp) hp, Nodes.ext hb ib e hr⟩
  | .shw n r, _, h => by
    obtain ⟨p, ws, rfl, hp, hr⟩ := h
    exact ⟨p, ws, rfl, e _ _ (tup_ne hb hp) hp, Nodes.ext hb ib e hr⟩
  | .num r, _, h => by
    obtain ⟨p, ws, rfl, hp, hr⟩ := h
    exact ⟨p, ws, rfl, e _ _ (tup_ne hb hp) hp, Nodes.ext hb ib e hr⟩
  | .cho hd cs o r, _, h => by
    obtain ⟨p, ws, ca, cvs, oa, ovs, rfl, hp, hc, hcs, ho, hos, hr⟩ := h
    exact ⟨p, ws, ca, cvs, oa, ovs, rfl, e _ _ (tup_ne hb hp) hp, e _ _ (lst_ne hb ib hc hcs.notBox) hc, Nodes.ext hb ib e hcs, e _ _ (lst_ne hb ib ho hos.notBox) ho, Nodes.ext hb ib e hos, Nodes.ext hb ib e hr⟩
  | .cas k m r, _, h => by
    obtain ⟨p, ws, ma, mvs, rfl, hp, hm, hms, hr⟩ := h
    exact ⟨p, ws, ma, mvs, rfl, e _ _ (tup_ne hb hp) hp, e _ _ (lst_ne hb ib hm hms.notBox) hm, Nodes.ext hb ib e hms, Nodes.ext hb ib e hr⟩
theorem Nodes.same {H H' : Hp} (e : Same H H') : ∀ {t : T} {vs : List V}, Nodes H t vs → Nodes H' t vs
  | .nil, _, h => h
  | .text s r, _, h => by
    obtain ⟨p, ws, rfl, hp, hr⟩ := h
    exact ⟨p, ws, rfl, e _ _ hp, Nodes.same e hr⟩
  | .shw n r, _, h => by
    obtain ⟨p, ws, rfl, hp, hr⟩ := h
    exact ⟨p, ws, rfl, e _ _ hp, Nodes.same e hr⟩
  | .num r, _, h => by
    obtain ⟨p, ws, rfl, hp, hr⟩ := h
    exact ⟨p, ws, rfl, e _ _ hp, Nodes.same e hr⟩
  | .cho hd cs o r, _, h => by
    obtain ⟨p, ws, ca, cvs, oa, ovs, rfl, hp, hc, hcs, ho, hos, hr⟩ := h
    exact ⟨p, ws, ca, cvs, oa, ovs, rfl, e _ _ hp, e _ _ hc, Nodes.same e hcs, e _ _ ho, Nodes.same e hos, Nodes.same e hr⟩
  | .cas k m r, _, h => by
    obtain ⟨p, ws, ma, mvs, rfl, hp, hm, hms, hr⟩ := h
    exact ⟨p, ws, ma, mvs, rfl, e _ _ hp, e _ _ hm, Nodes.same e hms, Nodes.same e hr⟩
/-- two chains, one behind the other -/
def T.app : T → T → T
  | .nil, u => u
  | .text s r, u => .text s (r.app u)
  | .shw n r, u => .shw n (r.app u)
  | .num r, u => .num (r.app u)
  | .cho hd cs o r, u => .cho hd cs o (r.app u)
  | .cas k m r, u => .cas k m (r.app u)
theorem Nodes.app {H : Hp} {u : T} {us : List V} (hu : Nodes H u us) : ∀ {t : T} {vs : List V}, Nodes H t vs → Nodes H (t.app u) (vs ++ us)
  | .nil, _, h => by
    have h' : _ = [] := h
    subst h'
    exact hu
  | .text s r, _, h => by
    obtain ⟨p, ws, rfl, hp, hr⟩ := h
    exact ⟨p, ws ++ us, rfl, hp, Nodes.app hu hr⟩
  | .shw n r, _, h => by
    obtain ⟨p, ws, rfl, hp, hr⟩ := h
    exact ⟨p, ws ++ us, rfl, hp, Nodes.app hu hr⟩
  | .num r, _, h => by
    obtain ⟨p, ws, rfl, hp, hr⟩ := h
    exact ⟨p, ws ++ us, rfl, hp, Nodes.app hu hr⟩
  | .cho hd cs o r, _, h => by
    obtain ⟨p, ws, ca, cvs, oa, ovs, rfl, hp, hc, hcs, ho, hos, hr⟩ := h
    exact ⟨p, ws ++ us, ca, cvs, oa, ovs, rfl, hp, hc, hcs, ho, hos, Nodes.app hu hr⟩
  | .cas k m r, _, h => by
    obtain ⟨p, ws, ma, mvs, rfl, hp, hm, hms, hr⟩ := h
    exact ⟨p, ws ++ us, ma, mvs, rfl, hp, hm, hms, Nodes.app hu hr⟩
section
variable {P : Program} {w : World} {K : PySem.W.Frag} {mg : Str → Option Value} {base : Heap}
/-! ### _law_cell -/
abbrev sCell : Stmt := top 22
theorem scCell : FnScope ["script", "k"] ["script", "k"] (defScope sCell) := ⟨rfl, rfl, rfl, by decide +kernel, rfl, by decide +kernel, by decide +kernel⟩
def spCell (K : PySem.W.Frag) : Sp := fun vs H Q _ => ∃ (a : Addr) (ns : List Int) (k : Int), vs = [.ref a, .int k] ∧ SqL K H a (ns.map V.int) ∧ 0 ≤ k ∧ ∀ z, Q (.int z) H
theorem ok_cell {f : Addr} {fd : FuncData} (F : Fun K "_law_cell" "_law_cell" sCell f fd) (ml : mg "len" = none) : FnOk P w K mg base CX0 1 f fd ["script", "k"] (spCell K) := by
  refine F.ok scCell (fun vs H Q E h => ?_) (fun cdv A outer s H vs Q E hr h => ?_)
  · obtain ⟨a, ns, k, rfl, _⟩ := h
    rfl
  obtain ⟨a, ns, k, rfl, hS, h0, q⟩ := h
  refine ⟨_, pss_cons (ps_if (pt_cmpR op_lt (pv 1) (pe_callB call_len_seq (by rfl) ml PySem.boot_len (pa_cons (pv 0) pa_nil)) (nomark _)) (pss_one (ps_ret (pe_ix ix_list (pv 0) (pv 1) (fun _ _ => rfl)))) pss_nil)
    (pss_one (ps_ret pe_int)), ?_⟩
  refine ⟨_, rfl, _, rfl, a, _, rfl, .inl hS, _, _, rfl, rfl, _, rfl, ?_⟩
  refine ite2 (fun c => ?_) (fun c => ?_)
  · have c' := of_decide_eq_true c
    rw [List.length_map] at c'
    have hk : k.toNat < ns.length := by omega
    refine ⟨_, rfl, _, rfl, a, _, k, .int ns[k.toNat], rfl, rfl, hS, at_of (j := k.toNat) (by omega) (by rw [List.getElem?_map, List.getElem?_eq_getElem hk] <;> rfl), q _⟩
  · exact q _
end
end Mw

namespace Mw
open PySem L2
section
variable {P : Program} {w : World} {K : PySem.W.Frag} {mg : Str → Option Value} {base : Heap}
/-! ### _law_digits: a new list of ints -/
abbrev sDigits : Stmt := top 23
theorem scDigits : FnScope ["script", "first", "last", "digits", "k", "cell", "turn", "seed"] ["script", "first", "last"] (defScope sDigits) := ⟨rfl, rfl, rfl, by decide +kernel, rfl, by decide +kernel, by decide +kernel⟩
def spDigits (K : PySem.W.Frag) : Sp := fun vs H Q _ => ∃ (a : Addr) (ns : List Int), vs = [.ref a, .int 0, .int 63] ∧ SqL K H a (ns.map V.int) ∧ ∀ (d : Addr) (H' : Hp) (ds : List Int), H d = none → Same H H' → H' d = some (.lst (ds.map V.int)) → Q (.ref d) H'
theorem len_ints (ds : List Int) (z : Int) : ds.map V.int ++ [V.int z] = (ds ++ [z]).map V.int := by simp
theorem ok_digits {f fC : Addr} {fd fdC : FuncData} (F : Fun K "_law_digits" "_law_digits" sDigits f fd) (GC : FnOk P w K mg base CX0 1 fC fdC ["script", "k"] (spCell K)) (bC : Binds K fdC ["script", "k"] []) (kC : PySem.W.keepIn K (.ref fC) = true) (mC : mg "_law_cell" = some (.ref fC)) (mr : mg "range" = none) (mi : mg "int" = none) :
    FnOk P w K mg base CX0 2 f fd ["script", "first", "last"] (spDigits K) := by
  refine F.ok scDigits (fun vs H Q E h => ?_) (fun cdv A outer s H vs Q E hr h => ?_)
  · obtain ⟨a, ns, rfl, _⟩ := h
    rfl
  obtain ⟨a, ns, rfl, hS, q⟩ := h
  have nd := scDigits.nd
  refine ⟨_, pss_cons (ps_set (i := 3) nd rfl (.inl rfl) (pe_lst pa_nil))
    (pss_cons (ps_for PassesOwn.never rfl (pi_range2 rfl mr (pa_cons (pv 1) (pa_cons (pv 2) pa_nil))) (pg_name (i := 4) nd rfl (.inl rfl))
      (pss_cons (ps_set (i := 5) nd rfl (.inl rfl) (pe_call GC hr rfl mC kC bC .nil pass0 (pa_cons (pv 0) (pa_cons (pv 4) pa_nil))))
      (Evl.pss_cut (ps_if (pt_cmpR op_lt (pv 5) pe_int (nomark _)) (pss_one (ps_set (i := 5) nd rfl (.inl rfl) (pe_op op_sub pe_int (pe_op op_mul pe_int (pv 5))))) pss_nil)
      (pss_one (ps_if (pt_cmpR op_ge (pv 5) (pe_op op_pow pe_int pe_int) (nomark _))
        (pss_one (ps_for PassesOwn.never rfl (pi_range1 rfl mr (pa_cons pe_int pa_nil)) (pg_name (i := 6) nd rfl (.inl rfl))
          (pss_one (ps_if (pt_cmpR op_gt (pv 5) pe_int (nomark _))
            (pss_cons (ps_expr (pe_bm PySem.F.plainAttrs_list PySem.F.slot_list_append PySem.F.type_list_append mt_append (pv 3) (pa_cons (pe_op op_mod (pe_callTy call_int1 (by rfl) mi (by decide +kernel) (pa_cons (pv 5) pa_nil)) pe_int) pa_nil)))
            (pss_one (ps_set (i := 5) nd rfl (.inl rfl) (pe_op op_fdiv (pv 5) pe_int)))) pss_nil))))
        (pss_cons (ps_set (i := 7) nd rfl (.inl rfl) (pe_op op_mod (pe_callTy call_int1 (by rfl) mi (by decide +kernel) (pa_cons (pe_op op_add (pe_op op_add (pe_op op_mul (pv 5) pe_int) (pe_op op_mul (pv 4) pe_int)) pe_int) pa_nil)) pe_int))
        (pss_one (ps_for PassesOwn.never rfl (pi_range1 rfl mr (pa_cons pe_int pa_nil)) (pg_name (i := 6) nd rfl (.inl rfl))
          (pss_cons (ps_set (i := 7) nd rfl (.inl rfl) (pe_op op_mod (pe_callTy call_int1 (by rfl) mi (by decide +kernel) (pa_cons (pe_op op_add (pe_op op_add (pe_op op_mul (pv 7) pe_int) (pe_op op_mul pe_int (pv 6))) pe_int) pa_nil)) pe_int))
          (pss_one (ps_expr (pe_bm PySem.F.plainAttrs_list PySem.F.slot_list_append PySem.F.type_list_append mt_append (pv 3) (pa_cons (pe_op op_mod (pe_callTy call_int1 (by rfl) mi (by decide +kernel) (pa_cons (pe_op op_fdiv (pv 7) pe_int) pa_nil)) pe_int) pa_nil)))))))))))))
    (pss_one (ps_ret (pv 3)))), ?_⟩
  refine ⟨Nat.zero_le _, fun d nd0 => ?_⟩
  have s1 : Same H (upd H d (.lst [])) := same_new nd0 _
  refine ⟨_, rfl, _, rfl, 0, 63, rfl, by decide, for_range (lo := 0) (n := (63 - 0 : Int).toNat) (fun i σ H' => ∃ (ds : List Int) (o4 o5 o6 o7 : Option V), σ = [some (.ref a), some (.int 0), some (.int 63), some (.ref d), o4, o5, o6, o7] ∧ Same H H' ∧ H' d = some (.lst (ds.map V.int)) ∧ ds.length ≤ 60 * i)
    ⟨[], none, none, none, none, rfl, s1, upd_same, Nat.le_refl _⟩ ?_ ?_⟩
  · rintro i σ H2 hi ⟨ds, o4, o5, o6, o7, rfl, s2, hd, hl⟩
    refine ⟨_, rfl, _, rfl, a, ns, _, rfl, s2.seq hS, by omega, fun z => ?_⟩
    refine ⟨fun σ' H' => ∃ z' : Int, σ' = [some (.ref a), some (.int 0), some (.int 63), some (.ref d), some (.int (0 + i)), some (.int z'), o6, o7] ∧ H' = H2, ?_, ?_⟩
    · refine ⟨_, rfl, _, _, rfl, rfl, _, rfl, ?_⟩
      refine ite2 (fun _ => ?_) (fun _ => ?_)
      · exact ⟨_, rfl, _, _, rfl, rfl, .inl (by decide), _, _, rfl, rfl, _, rfl, rfl⟩
      · exact ⟨_, rfl, rfl⟩
    · rintro σ' H' ⟨z', rfl, rfl⟩
      refine ⟨_, rfl, _, _, rfl, rfl, (by unfold CPow; decide), _, _, rfl, rfl, _, rfl, ?_⟩
      refine ite2 (fun _ => ?_) (fun _ => ?_)
      · refine ⟨60, rfl, by decide, by decide, for_range (lo := 0) (n := 60) (fun j σ H' => ∃ (ds' : List Int) (z' : Int) (o6 : Option V), σ = [some (.ref a), some (.int 0), some (.int 63), some (.ref d), some (.int (0 + i)), some (.int z'), o6, o7] ∧ Same H H' ∧ H' d = some (.lst (ds'.map V.int)) ∧ ds'.length ≤ 60 * i + j)
          ⟨ds, z', o6, rfl, s2, hd, hl⟩ ?_ ?_⟩
        · rintro j σ H3 hj ⟨ds', z'', o6, rfl, s3, hd3, hl3⟩
          refine ⟨_, rfl, _, _, rfl, rfl, _, rfl, ?_⟩
          refine ite2 (fun _ => ?_) (fun _ => ?_)
          · refine ⟨_, rfl, .inl ⟨rfl, _, SqL.of hd3⟩, _, rfl, .inl ⟨_, rfl, _, _, rfl, rfl, (by show (0 : Int) < 1000; decide), d, _, _, rfl, rfl, hd3, ?_, ?_⟩⟩
            · rw [List.length_map]
              exact Nat.lt_of_lt_of_le (show ds'.length < 100000 by omega) (by decide)
            · refine ⟨_, rfl, _, _, rfl, rfl, ⟨by decide, by decide⟩, ds' ++ [z'' % 1000], _, _, rfl, same_mut s3 nd0 _, ?_, ?_⟩
              · rw [upd_same, len_ints]
              · rw [List.length_append, List.length_singleton]
                omega
          · exact ⟨ds', _, _, rfl, s3, hd3, by omega⟩
        · rintro σ H3 ⟨ds', z'', o6, rfl, s3, hd3, hl3⟩
          exact ⟨ds', _, _, _, _, rfl, s3, hd3, by omega⟩
      · refine ⟨_, rfl, _, _, rfl, rfl, .inr (by decide), _, rfl, _, _, rfl, rfl, .inr (by decide), _, _, rfl, rfl, _, _, rfl, rfl, .inl ⟨_, rfl, _, _, rfl, rfl, (by show (0 : Int) < 2147483647; decide), ?_⟩⟩
        refine ⟨12, rfl, by decide, by decide, for_range (lo := 0) (n := 12) (fun j σ H' => ∃ (ds' : List Int) (z7 : Int) (o6 : Option V), σ = [some (.ref a), some (.int 0), some (.int 63), some (.ref d), some (.int (0 + i)), some (.int z'), o6, some (.int z7)] ∧ Same H H' ∧ H' d = some (.lst (ds'.map V.int)) ∧ ds'.length ≤ 60 * i + j)
          ⟨ds, _, o6, rfl, s2, hd, hl⟩ ?_ ?_⟩
        · rintro j σ H3 hj ⟨ds', z7, o6, rfl, s3, hd3, hl3⟩
          refine ⟨_, rfl, _, _, rfl, rfl, .inr (by decide), _, rfl, _, _, rfl, rfl, .inl (by decide), _, _, rfl, rfl, _, _, rfl, rfl, .inl ⟨_, rfl, _, _, rfl, rfl, (by show (0 : Int) < 2147483647; decide), ?_⟩⟩
          refine ⟨_, rfl, .inl ⟨rfl, _, SqL.of hd3⟩, _, rfl, _, _, rfl, rfl, ⟨by decide, by decide⟩, .inl ⟨_, rfl, _, _, rfl, rfl, (by show (0 : Int) < 1000; decide), d, _, _, rfl, rfl, hd3, ?_, ?_⟩⟩
          · rw [List.length_map]
            exact Nat.lt_of_lt_of_le (show ds'.length < 100000 by omega) (by decide)
          · refine ⟨ds' ++ [((z7 * 16807 + 7 * (0 + (j : Int)) + 1) % 2147483647 / 997) % 1000], _, _, rfl, same_mut s3 nd0 _, ?_, ?_⟩
            · rw [upd_same, len_ints]
            · rw [List.length_append, List.length_singleton]
              omega
        · rintro σ H3 ⟨ds', z7, o6, rfl, s3, hd3, hl3⟩
          exact ⟨ds', _, _, _, _, rfl, s3, hd3, by omega⟩
  · rintro σ H2 ⟨ds, o4, o5, o6, o7, rfl, s2, hd, hl⟩
    exact ⟨_, rfl, q d H2 ds nd0 s2 hd⟩
end
end Mw

namespace Mw
open PySem L2
/-! ### how a heap goes on: all but the box stays, nothing is given up -/
structure Go (B : Addr) (H H' : Hp) : Prop where
  ext : ∀ b o, b ≠ B → H b = some o → H' b = some o
  dom : ∀ b, H' b = none → H b = none
theorem Go.refl (B : Addr) (H : Hp) : Go B H H := ⟨fun _ _ _ h => h, fun _ h => h⟩
theorem Go.trans {B : Addr} {H H1 H2 : Hp} (a : Go B H H1) (b : Go B H1 H2) : Go B H H2 := ⟨fun c o n h => b.ext c o n (a.ext c o n h), fun c h => a.dom c (b.dom c h)⟩
theorem upd_none {H : Hp} {p b : Addr} {o : HO} (h : upd H p o b = none) : H b = none := by
  unfold upd at h
  split at h
  · cases h
  · exact h
theorem Go.new {B : Addr} {H : Hp} {p : Addr} (h : H p = none) (o : HO) : Go B H (upd H p o) := ⟨fun b u _ q => same_new h o b u q, fun b q => upd_none q⟩
theorem Go.mut {B : Addr} {H H' : Hp} {p : Addr} (g : Go B H H') (h : H p = none) (o : HO) : Go B H (upd H' p o) :=
  ⟨fun b u n q => by
    rw [upd_ne (ne_of_none q h)]
    exact g.ext b u n q, fun b q => g.dom b (upd_none q)⟩
theorem Go.box (B : Addr) (H : Hp) (o : HO) : Go B H (upd H B o) := ⟨fun b u n q => by rw [upd_ne n]; exact q, fun b q => upd_none q⟩
theorem Go.same {B : Addr} {H H' : Hp} (s : Same H H') : Go B H H' := ⟨fun b o _ h => s b o h, fun b h => s.free h⟩
/-- what is new in H, seen from H0 -/
def fr (H0 H : Hp) : Hp := fun a => match H0 a with
  | none => H a
  | some _ => none
theorem fr_new {H0 H : Hp} {a : Addr} (h : H0 a = none) : fr H0 H a = H a := by
  unfold fr
  rw [h]
theorem fr_old {H0 H : Hp} {a : Addr} {o : HO} (h : H0 a = some o) : fr H0 H a = none := by
  unfold fr
  rw [h]
theorem fr_in {H0 H : Hp} {a : Addr} {o : HO} (h : fr H0 H a = some o) : H0 a = none ∧ H a = some o := by
  unfold fr at h
  split at h
  · exact ⟨by assumption, h⟩
  · cases h
theorem fr_go {B : Addr} {H0 H1 H2 : Hp} {ob : HO} (hb : H0 B = some ob) (g : Go B H1 H2) : Same (fr H0 H1) (fr H0 H2) := fun a o h => by
  obtain ⟨h0, h1⟩ := fr_in h
  rw [fr_new h0]
  exact g.ext a o (by rintro rfl; rw [hb] at h0; cases h0) h1
theorem fr_same {H0 H1 H2 : Hp} (g : Same H1 H2) : Same (fr H0 H1) (fr H0 H2) := fun a o h => by
  obtain ⟨h0, h1⟩ := fr_in h
  rw [fr_new h0]
  exact g a o h1
theorem fr_mut {H0 H1 : Hp} {l : Addr} {ol : HO} (hl : H0 l = some ol) (o : HO) : Same (fr H0 H1) (fr H0 (upd H1 l o)) := fun a u h => by
  obtain ⟨h0, h1⟩ := fr_in h
  rw [fr_new h0, upd_ne (by rintro rfl; rw [hl] at h0; cases h0)]
  exact h1
theorem fr_dom {H0 H1 H2 : Hp} (g : ∀ b, H1 b = none → H0 b = none) : Same (fr H1 H2) (fr H0 H2) := fun a u h => by
  obtain ⟨h0, h1⟩ := fr_in h
  rw [fr_new (g a h0)]
  exact h1
theorem fr_out {H0 H : Hp} : Same (fr H0 H) H := fun a o h => (fr_in h).2
/-- the box: digits and a place -/
def Box (H : Hp) (B d : Addr) : Prop := ∃ (ds : List Int) (i : Int), H B = some (.lst [.ref d, .int i]) ∧ H d = some (.lst (ds.map V.int)) ∧ 0 ≤ i
theorem Box.isB {H : Hp} {B d : Addr} (b : Box H B d) : ∃ o, H B = some o := by
  obtain ⟨ds, i, h, _⟩ := b
  exact ⟨_, h⟩
theorem Box.isD {H : Hp} {B d : Addr} (b : Box H B d) : ∃ o, H d = some o := by
  obtain ⟨ds, i, _, h, _⟩ := b
  exact ⟨_, h⟩
theorem Box.neB {H : Hp} {B d l : Addr} (b : Box H B d) (h : H l = none) : l ≠ B := by
  obtain ⟨o, hB⟩ := b.isB
  exact (ne_of_none hB h).symm
theorem Box.neD {H : Hp} {B d l : Addr} (b : Box H B d) (h : H l = none) : l ≠ d := by
  obtain ⟨o, hB⟩ := b.isD
  exact (ne_of_none hB h).symm
theorem Box.ne {H : Hp} {B d : Addr} {ds : List Int} {i : Int} (h : H B = some (.lst [.ref d, .int i])) (hd : H d = some (.lst (ds.map V.int))) : d ≠ B := by
  rintro rfl
  rw [h] at hd
  cases ds with
  | nil => cases hd
  | cons z r => cases hd
theorem Box.same {H H' : Hp} {B d : Addr} (s : Same H H') (b : Box H B d) : Box H' B d := by
  obtain ⟨ds, i, h, hd, hi⟩ := b
  exact ⟨ds, i, s _ _ h, s _ _ hd, hi⟩
theorem Box.mut {H : Hp} {B d l : Addr} (b : Box H B d) (hB : l ≠ B) (hd : l ≠ d) (o : HO) : Box (upd H l o) B d := by
  obtain ⟨ds, i, h, hd', hi⟩ := b
  exact ⟨ds, i, by rw [upd_ne hB.symm]; exact h, by rw [upd_ne hd.symm]; exact hd', hi⟩
theorem Box.new {H : Hp} {B d l : Addr} (b : Box H B d) (h : H l = none) (o : HO) : Box (upd H l o) B d := b.mut (b.neB h) (b.neD h) o
section
variable {P : Program} {w : World} {K : PySem.W.Frag} {mg : Str → Option Value} {base : Heap}
/-! ### _law_draw -/
abbrev sDraw : Stmt := top 24
theorem scDraw : FnScope ["box", "many", "at"] ["box", "many"] (defScope sDraw) := ⟨rfl, rfl, rfl, by decide +kernel, rfl, by decide +kernel, by decide +kernel⟩
def spDraw : Sp := fun vs H Q _ => ∃ (B d : Addr) (n : Int), vs = [.ref B, .int n] ∧ 0 < n ∧ Box H B d ∧ ∀ z H', 0 ≤ z → z < n → Go B H H' → Box H' B d → Q (.int z) H'
theorem ok_draw {f : Addr} {fd : FuncData} (F : Fun K "_law_draw" "_law_draw" sDraw f fd) (ml : mg "len" = none) (mi : mg "int" = none) : FnOk P w K mg base CX0 1 f fd ["box", "many"] spDraw := by
  refine F.ok scDraw (fun vs H Q E h => ?_) (fun cdv A outer s H vs Q E hr h => ?_)
  · obtain ⟨B, d, n, rfl, _⟩ := h
    rfl
  obtain ⟨B, d, n, rfl, h0, ⟨ds, i, hB, hd, hi⟩, q⟩ := h
  have nd := scDraw.nd
  refine ⟨_, pss_cons (ps_set (i := 2) nd rfl (.inl rfl) (pe_ix ix_list (pv 0) pe_int (fun _ _ => rfl)))
    (pss_cons (ps_asg (pe_op op_add (pv 2) pe_int) (pg_sub (pv 0) pe_int set_list))
    (pss_cons (ps_if (pt_cmpR op_lt (pv 2) (pe_callB call_len_seq (by rfl) ml PySem.boot_len (pa_cons (pe_ix ix_list (pv 0) pe_int (fun _ _ => rfl)) pa_nil)) (nomark _))
      (pss_one (ps_ret (pe_op op_mod (pe_callTy call_int1 (by rfl) mi (by decide +kernel) (pa_cons (pe_ix ix_list (pe_ix ix_list (pv 0) pe_int (fun _ _ => rfl)) (pv 2) (fun _ _ => rfl)) pa_nil)) (pv 1)))) pss_nil)
    (pss_one (ps_ret pe_int)))), ?_⟩
  have ne : d ≠ B := Box.ne hB hd
  refine ⟨_, rfl, B, _, 1, _, rfl, rfl, SqL.of hB, atI_nat (j := 1) rfl, ?_⟩
  refine ⟨_, rfl, _, _, rfl, rfl, _, rfl, B, _, 1, 1, rfl, rfl, hB, rfl, ?_⟩
  have hB' : upd H B (.lst [.ref d, .int (i + 1)]) B = some (.lst [.ref d, .int (i + 1)]) := upd_same
  have hd' : upd H B (.lst [.ref d, .int (i + 1)]) d = some (.lst (ds.map V.int)) := by rw [upd_ne ne]; exact hd
  have hb : Box (upd H B (.lst [.ref d, .int (i + 1)])) B d := ⟨ds, i + 1, hB', hd', by omega⟩
  refine ⟨_, rfl, _, rfl, B, _, 0, _, rfl, rfl, SqL.of hB', atI_nat (j := 0) rfl, d, _, rfl, .inl (SqL.of hd'), _, _, rfl, rfl, _, rfl, ?_⟩
  refine ite2 (fun c => ?_) (fun c => ?_)
  · have c' := of_decide_eq_true c
    rw [List.length_map] at c'
    have hk : i.toNat < ds.length := by omega
    refine ⟨_, rfl, B, _, 0, _, rfl, rfl, SqL.of hB', atI_nat (j := 0) rfl, _, rfl, d, _, i, .int ds[i.toNat], rfl, rfl, SqL.of hd', at_of (j := i.toNat) (by omega) (by rw [List.getElem?_map, List.getElem?_eq_getElem hk] <;> rfl), .inl ⟨_, rfl, _, rfl, _, _, rfl, rfl, h0, ?_⟩⟩
    exact q _ _ (Int.emod_nonneg _ (by omega)) (Int.emod_lt_of_pos _ h0) (Go.box B H _) hb
  · exact q 0 _ (by omega) h0 (Go.box B H _) hb
/-! ### _law_string -/
abbrev sString : Stmt := top 25
theorem scString : FnScope ["box"] ["box"] (defScope sString) := ⟨rfl, rfl, rfl, by decide +kernel, rfl, by decide +kernel, by decide +kernel⟩
def menu : List Str := ["a", "b ", " files", "'", "{x}", "#", "a'{'", "1\n2", "other {", "~"]
def spString : Sp := fun vs H Q _ => ∃ (B d : Addr), vs = [.ref B] ∧ Box H B d ∧ ∀ s H', s ∈ menu → Go B H H' → Box H' B d → Q (.str s) H'
theorem pick {α : Type} {l : List α} {g : α → V} {z : Int} (h0 : 0 ≤ z) (h : z < (l.length : Int)) : ∃ x, x ∈ l ∧ atI (l.map g) z = some (g x) := by
  have hk : z.toNat < l.length := by omega
  exact ⟨l[z.toNat], List.getElem_mem hk, at_of (j := z.toNat) (by omega) (by rw [List.getElem?_map, List.getElem?_eq_getElem hk] <;> rfl)⟩
theorem ok_string {f fD : Addr} {fd fdD : FuncData} (F : Fun K "_law_string" "_law_string" sString f fd) (GD : FnOk P w K mg base CX0 1 fD fdD ["box", "many"] spDraw) (bD : Binds K fdD ["box", "many"] []) (kD : PySem.W.keepIn K (.ref fD) = true) (mD : mg "_law_draw" = some (.ref fD)) :
    FnOk P w K mg base CX0 2 f fd ["box"] spString := by
  refine F.ok scString (fun vs H Q E h => ?_) (fun cdv A outer s H vs Q E hr h => ?_)
  · obtain ⟨B, d, rfl, _⟩ := h
    rfl
  obtain ⟨B, d, rfl, hb, q⟩ := h
  refine ⟨_, pss_one (ps_ret (pe_ix ix_list (pe_lst (pa_cons pe_str (pa_cons pe_str (pa_cons pe_str (pa_cons pe_str (pa_cons pe_str (pa_cons pe_str (pa_cons pe_str (pa_cons pe_str (pa_cons pe_str (pa_cons pe_str pa_nil)))))))))))
    (pe_call GD hr rfl mD kD bD .nil pass0 (pa_cons (pv 0) (pa_cons pe_int pa_nil))) (fun _ _ => rfl))), ?_⟩
  refine ⟨by decide, fun l hl => ?_⟩
  have s1 : Same H (upd H l (.lst (menu.map V.str))) := same_new hl _
  have nB : l ≠ B := hb.neB hl
  refine ⟨_, rfl, B, d, 10, rfl, by decide, hb.same s1, fun z H' h0 h1 g hb' => ?_⟩
  obtain ⟨x, hx, ha⟩ := pick (l := menu) (g := V.str) (z := z) h0 (by show z < ((10 : Nat) : Int); omega)
  refine ⟨l, _, z, .str x, rfl, rfl, SqL.of (g.ext _ _ nB upd_same), ha, ?_⟩
  exact q x _ hx ((Go.new hl _).trans g) hb'
end
end Mw

namespace Mw
open PySem L2
/-! ### what the law's messages are -/
def T.notText : T → Bool
  | .text _ _ => false
  | _ => true
def T.lastText : T → Bool
  | .nil => false
  | .text _ r => match r with | .nil => true | _ => r.lastText
  | .shw _ r => r.lastText
  | .num r => r.lastText
  | .cho _ _ _ r => r.lastText
  | .cas _ _ r => r.lastText
def T.len : T → Nat
  | .nil => 0
  | .text _ r => r.len + 1
  | .shw _ r => r.len + 1
  | .num r => r.len + 1
  | .cho _ _ _ r => r.len + 1
  | .cas _ _ r => r.len + 1
def T.sz : T → Nat
  | .nil => 0
  | .text s r => 1 + s.length + r.sz
  | .shw _ r => 1 + r.sz
  | .num r => 1 + r.sz
  | .cho _ cs o r => 1 + cs.sz + o.sz + r.sz
  | .cas _ m r => 1 + m.sz + r.sz
def T.keys : T → List V
  | .cas k _ r => k :: r.keys
  | _ => []
def words3 : List Str := ["a", "one", "select"]
def nums4 : List Int := [0, 1, 2, 12]
def cats5 : List Str := ["zero", "one", "two", "few", "many"]
def names4 : List Str := ["n", "w", "who", "count"]
def skeys : List V := words3.map V.str
def pkeys : List V := nums4.map V.int ++ cats5.map V.str
/-- a choice's head, and what stands within it: inside a plural or not, its keys -/
inductive HdOk : List V → Bool → Bool → List V → Prop where
  | sel {n : Str} {i : Bool} {ks : List V} (hn : n = "w" ∨ n = "kind") (hk : ks.Sublist skeys) : HdOk [.str "select", .str n] i i ks
  | plu {n : Str} {off : Int} {i : Bool} {ks : List V} (hn : n = "n" ∨ n = "count") (ho : off = 0 ∨ off = 1 ∨ off = 2) (hk : ks.Sublist pkeys ∨ ks.Sublist pkeys.reverse) : HdOk [.str "plural", .str n, .int off] i true ks
/-- c: cases, not a message; d: so many levels of choices; i: inside a plural -/
def Gd : T → Bool → Nat → Bool → Prop
  | .nil, _, _, _ => True
  | .text s r, c, d, i => c = false ∧ s ∈ menu ∧ r.notText = true ∧ Gd r c d i
  | .shw n r, c, d, i => c = false ∧ n ∈ names4 ∧ Gd r c d i
  | .num r, c, d, i => c = false ∧ i = true ∧ Gd r c d i
  | .cho hd cs o r, c, d, i => c = false ∧ (∃ e j, d = e + 1 ∧ HdOk hd i j cs.keys ∧ Gd cs true e j ∧ Gd o false e j) ∧ Gd r c d i
  | .cas _ m r, c, d, i => c = true ∧ Gd m false d i ∧ Gd r c d i
theorem T.app_len (u : T) : ∀ t : T, (t.app u).len = t.len + u.len
  | .nil => by simp [T.app, T.len]
  | .text _ r => by simp [T.app, T.len, T.app_len u r]; omega
  | .shw _ r => by simp [T.app, T.len, T.app_len u r]; omega
  | .num r => by simp [T.app, T.len, T.app_len u r]; omega
  | .cho _ _ _ r => by simp [T.app, T.len, T.app_len u r]; omega
  | .cas _ _ r => by simp [T.app, T.len, T.app_len u r]; omega
theorem T.app_sz (u : T) : ∀ t : T, (t.app u).sz = t.sz + u.sz
  | .nil => by simp [T.app, T.sz]
  | .text _ r => by simp [T.app, T.sz, T.app_sz u r]; omega
  | .shw _ r => by simp [T.app, T.sz, T.app_sz u r]; omega
  | .num r => by simp [T.app, T.sz, T.app_sz u r]; omega
  | .cho _ _ _ r => by simp [T.app, T.sz, T.app_sz u r]; omega
  | .cas _ _ r => by simp [T.app, T.sz, T.app_sz u r]; omega
theorem T.app_keys (k : V) (m u : T) : ∀ (t : T) (d : Nat) (i : Bool), Gd t true d i → (t.app (.cas k m u)).keys = t.keys ++ k :: u.keys
  | .nil, _, _, _ => rfl
  | .text _ r, _, _, h => by cases h.1
  | .shw _ r, _, _, h => by cases h.1
  | .num r, _, _, h => by cases h.1
  | .cho _ _ _ r, _, _, h => by cases h.1
  | .cas _ _ r, d, i, h => by simp [T.app, T.keys, T.app_keys k m u r d i h.2.2]
theorem T.notText_app {r u : T} (h : r.notText = true) (hu : r = .nil → u.notText = true) : (r.app u).notText = true := by
  cases r <;> first | exact hu rfl | rfl | cases h
theorem Gd.app {u : T} {c : Bool} {d : Nat} {i : Bool} (hu : Gd u c d i) : ∀ {t : T}, Gd t c d i → (t.lastText = true → u.notText = true) → Gd (t.app u) c d i
  | .nil, _, _ => hu
  | .text s r, h, l => by
    refine ⟨h.1, h.2.1, T.notText_app h.2.2.1 (fun e => ?_), Gd.app hu h.2.2.2 (fun e => ?_)⟩
    · subst e
      exact l rfl
    · refine l ?_
      cases r <;> first | rfl | exact e
  | .shw n r, h, l => ⟨h.1, h.2.1, Gd.app hu h.2.2 l⟩
  | .num r, h, l => ⟨h.1, h.2.1, Gd.app hu h.2.2 l⟩
  | .cho hd cs o r, h, l => ⟨h.1, h.2.1, Gd.app hu h.2.2 l⟩
  | .cas k m r, h, l => ⟨h.1, h.2.1, Gd.app hu h.2.2 l⟩
theorem Nodes.length {H : Hp} : ∀ {t : T} {vs : List V}, Nodes H t vs → vs.length = t.len
  | .nil, _, h => by
    have h' : _ = [] := h
    subst h'
    rfl
  | .text s r, _, h => by
    obtain ⟨p, ws, rfl, _, hr⟩ := h
    exact congrArg (· + 1) hr.length
  | .shw n r, _, h => by
    obtain ⟨p, ws, rfl, _, hr⟩ := h
    exact congrArg (· + 1) hr.length
  | .num r, _, h => by
    obtain ⟨p, ws, rfl, _, hr⟩ := h
    exact congrArg (· + 1) hr.length
  | .cho hd cs o r, _, h => by
    obtain ⟨p, ws, ca, cvs, oa, ovs, rfl, _, _, _, _, _, hr⟩ := h
    exact congrArg (· + 1) hr.length
  | .cas k m r, _, h => by
    obtain ⟨p, ws, ma, mvs, rfl, _, _, _, hr⟩ := h
    exact congrArg (· + 1) hr.length
/-- a message's last node is a tuple whose first item tells whether it is a text -/
theorem Nodes.last {H : Hp} : ∀ {t : T} {vs : List V} {d : Nat} {i : Bool}, Nodes H t vs → Gd t false d i → vs ≠ [] → ∃ us p x xs, vs = us ++ [.ref p] ∧ H p = some (.tup (.str x :: xs)) ∧ (x = "text" ↔ t.lastText = true)
  | .nil, _, _, _, h, _, n => absurd h n
  | .text s r, _, d, i, h, g, _ => by
    obtain ⟨p, ws, rfl, hp, hr⟩ := h
    by_cases e : ws = []
    · subst e
      have : r = .nil := by
        have := hr.length
        cases r <;> first | rfl | (simp [T.len] at this)
      subst this
      exact ⟨[], p, _, _, rfl, hp, by simp [T.lastText]⟩
    · obtain ⟨us, q, x, xs, e1, e2, e3⟩ := Nodes.last hr g.2.2.2 e
      refine ⟨.ref p :: us, q, x, xs, by rw [e1]; rfl, e2, ?_⟩
      rw [e3]
      cases r <;> first | rfl | (exfalso; exact e hr)
  | .shw s r, _, d, i, h, g, _ => by
    obtain ⟨p, ws, rfl, hp, hr⟩ := h
    by_cases e : ws = []
    · subst e
      have : r = .nil := by
        have := hr.length
        cases r <;> first | rfl | (simp [T.len] at this)
      subst this
      exact ⟨[], p, _, _, rfl, hp, by simp [T.lastText]; decide⟩
    · obtain ⟨us, q, x, xs, e1, e2, e3⟩ := Nodes.last hr g.2.2 e
      exact ⟨.ref p :: us, q, x, xs, by rw [e1]; rfl, e2, e3⟩
  | .num r, _, d, i, h, g, _ => by
    obtain ⟨p, ws, rfl, hp, hr⟩ := h
    by_cases e : ws = []
    · subst e
      have : r = .nil := by
        have := hr.length
        cases r <;> first | rfl | (simp [T.len] at this)
      subst this
      exact ⟨[], p, _, _, rfl, hp, by simp [T.lastText]; decide⟩
    · obtain ⟨us, q, x, xs, e1, e2, e3⟩ := Nodes.last hr g.2.2 e
      exact ⟨.ref p :: us, q, x, xs, by rw [e1]; rfl, e2, e3⟩
  | .cho hd cs o r, _, d, i, h, g, _ => by
    obtain ⟨p, ws, ca, cvs, oa, ovs, rfl, hp, _, _, _, _, hr⟩ := h
    by_cases e : ws = []
    · subst e
      have : r = .nil := by
        have := hr.length
        cases r <;> first | rfl | (simp [T.len] at this)
      subst this
      obtain ⟨_, ⟨e', j, _, hh, _⟩, _⟩ := g
      cases hh with
      | sel => exact ⟨[], p, _, _, rfl, hp, by simp [T.lastText]; decide⟩
      | plu => exact ⟨[], p, _, _, rfl, hp, by simp [T.lastText]; decide⟩
    · obtain ⟨us, q, x, xs, e1, e2, e3⟩ := Nodes.last hr g.2.2 e
      exact ⟨.ref p :: us, q, x, xs, by rw [e1]; rfl, e2, e3⟩
  | .cas k m r, _, _, _, _, g, _ => by cases g.1
/-- the sizes by levels -/
def nodeW : Nat → Nat
  | 0 => 8
  | d + 1 => 10 + 30 * nodeW d
def msgW (d : Nat) : Nat := 3 * nodeW d
theorem nodeW_ge : ∀ d, 8 ≤ nodeW d
  | 0 => Nat.le_refl _
  | d + 1 => by have := nodeW_ge d; show 8 ≤ 10 + 30 * nodeW d; omega
theorem menu_len {s : Str} (h : s ∈ menu) : s.length ≤ 7 := by
  have a : ∀ s ∈ menu, s.length ≤ 7 := by decide +kernel
  exact a s h
end Mw

namespace Mw
open PySem L2
section
variable {P : Program} {w : World} {K : PySem.W.Frag} {mg : Str → Option Value} {base : Heap}
/-! ### the builder's promises -/
abbrev sSel : Stmt := top 26
abbrev sPlu : Stmt := top 27
abbrev sMsg : Stmt := top 28
theorem scSel : FnScope ["box", "depth", "inside", "cases", "word"] ["box", "depth", "inside"] (defScope sSel) := ⟨rfl, rfl, rfl, by decide +kernel, rfl, by decide +kernel, by decide +kernel⟩
theorem scPlu : FnScope ["box", "depth", "cases", "key"] ["box", "depth"] (defScope sPlu) := ⟨rfl, rfl, rfl, by decide +kernel, rfl, by decide +kernel, by decide +kernel⟩
theorem scMsg : FnScope ["box", "depth", "inside", "message", "turn", "kind"] ["box", "depth", "inside"] (defScope sMsg) := ⟨rfl, rfl, rfl, by decide +kernel, rfl, by decide +kernel, by decide +kernel⟩
/-- a new message of at most d levels -/
def spMsg (d : Nat) : Sp := fun vs H Q _ => ∃ (B b : Addr) (i : Bool), vs = [.ref B, .int d, .bl i] ∧ Box H B b ∧
  ∀ r H' t, Go B H H' → Box H' B b → At (fr H H') r t → Gd t false d i → t.sz ≤ msgW d → t.len ≤ 3 → Q (.ref r) H'
/-- a new node: a choice -/
def NodeAt (H H' : Hp) (p : Addr) (d : Nat) (i : Bool) : Prop := ∃ hd cs o, Nodes (fr H H') (.cho hd cs o .nil) [.ref p] ∧ Gd (.cho hd cs o .nil) false d i ∧ (T.cho hd cs o .nil).sz ≤ nodeW d
def spSel (d : Nat) : Sp := fun vs H Q _ => ∃ (B b : Addr) (i : Bool) (e : Nat), d = e + 1 ∧ vs = [.ref B, .int d, .bl i] ∧ Box H B b ∧ ∀ p H', Go B H H' → Box H' B b → NodeAt H H' p d i → Q (.ref p) H'
def spPlu (d : Nat) : Sp := fun vs H Q _ => ∃ (B b : Addr) (e : Nat), d = e + 1 ∧ vs = [.ref B, .int d] ∧ Box H B b ∧ ∀ p H', Go B H H' → Box H' B b → (∀ i, NodeAt H H' p d i) → Q (.ref p) H'
theorem sz_line {n : Nat} (h : n < 10000000) : n < sizeLine := Nat.lt_of_lt_of_le h (by decide)
theorem le_line {n : Nat} (h : n < 10000000) : n ≤ sizeLine := Nat.le_of_lt (sz_line h)
end
end Mw

namespace Mw
open PySem L2
def MsgInv (B b : Addr) (H H1 : Hp) (l : Addr) (d : Nat) (ins : Bool) (i : Nat) (σ : St) (H' : Hp) : Prop :=
  ∃ vs t o4 o5, σ = [some (.ref B), some (.int d), some (.bl ins), some (.ref l), o4, o5] ∧ Go B H H' ∧ Box H' B b ∧ H' l = some (.lst vs) ∧ Nodes (fr H1 H') t vs ∧ Gd t false d ins ∧ t.sz ≤ i * nodeW d ∧ t.len ≤ i
theorem dom1 {B l : Addr} {H H' : Hp} {o o' : HO} (g : Go B H H') (hl : H' l = some o') : ∀ c, H' c = none → upd H l o c = none := fun c hc => by
  rw [upd_ne (by rintro rfl; rw [hl] at hc; cases hc)]
  exact g.dom c hc
theorem MsgInv.grow {B b l p : Addr} {H H' H'' : Hp} {d : Nat} {ins : Bool} {i : Nat} {vs : List V} {t u : T} {o4 o5 : Option V} {o : HO} (hl0 : H l = none) (hlB : l ≠ B) (hlb : l ≠ b) (hB : ∃ o, H B = some o)
    (g : Go B H H') (hl : H' l = some (.lst vs)) (hn : Nodes (fr (upd H l o) H') t vs) (hg : Gd t false d ins) (hs : t.sz ≤ i * nodeW d) (hlen : t.len ≤ i)
    (g2 : Go B H' H'') (hb : Box H'' B b) (hu : Nodes (fr (upd H l o) H'') u [.ref p]) (gu : Gd u false d ins) (su : u.sz ≤ nodeW d) (lu : u.len = 1) (nt : t.lastText = true → u.notText = true) :
    MsgInv B b H (upd H l o) l d ins (i + 1) [some (.ref B), some (.int d), some (.bl ins), some (.ref l), o4, o5] (upd H'' l (.lst (vs ++ [.ref p]))) := by
  obtain ⟨oB, hB⟩ := hB
  have hB1 : upd H l o B = some oB := by rw [upd_ne hlB.symm]; exact hB
  refine ⟨vs ++ [.ref p], t.app u, o4, o5, rfl, (g.trans g2).mut hl0 _, hb.mut hlB hlb _, upd_same, ?_, hg |> fun h => Gd.app gu h nt, ?_, ?_⟩
  · exact Nodes.same (fr_mut upd_same _) (Nodes.app hu (Nodes.same (fr_go hB1 g2) hn))
  · rw [T.app_sz, Nat.add_mul, Nat.one_mul]
    omega
  · rw [T.app_len]
    omega
/-! ### tests that come to a Bool, the heap as it is -/
theorem t_or {t u : TT} {σ : L2.St} {H : Hp} {Q : Bool → Hp → Prop} (a b : Bool) (ht : ∀ Q : Bool → Hp → Prop, Q a H → t σ H Q) (hu : a = false → ∀ Q : Bool → Hp → Prop, Q b H → u σ H Q) (q : Q (a || b) H) : tOr t u σ H Q := by
  refine ht _ ?_
  cases a with
  | true => exact iteT q
  | false => exact iteF (hu rfl _ q)
theorem t_and {t u : TT} {σ : L2.St} {H : Hp} {Q : Bool → Hp → Prop} (a b : Bool) (ht : ∀ Q : Bool → Hp → Prop, Q a H → t σ H Q) (hu : a = true → ∀ Q : Bool → Hp → Prop, Q b H → u σ H Q) (q : Q (a && b) H) : tAnd t u σ H Q := by
  refine ht _ ?_
  cases a with
  | true => exact iteT (hu rfl _ q)
  | false => exact iteF q
theorem i_or {t u : TT} {tu tw : TS} {D : Ends} {σ : L2.St} {H : Hp} (a b : Bool) (ht : ∀ Q : Bool → Hp → Prop, Q a H → t σ H Q) (hu : a = false → ∀ Q : Bool → Hp → Prop, Q b H → u σ H Q) (q : if (a || b) = true then tu D σ H else tw D σ H) : tIfS (tOr t u) tu tw D σ H :=
  t_or (Q := fun c H1 => if c = true then tu D σ H1 else tw D σ H1) a b ht hu q
theorem int_eq {i j : Int} (h : V.int i = V.int j) : i = j := by cases h; rfl
theorem str_eq {i j : Str} (h : V.str i = V.str j) : i = j := by cases h; rfl
section
variable {P : Program} {w : World} {K : PySem.W.Frag} {mg : Str → Option Value} {base : Heap}
theorem pickL {l : List Str} {z : Int} (h0 : 0 ≤ z) (h : z < (l.length : Int)) : ∃ x, x ∈ l ∧ atI (l.map V.str) z = some (V.str x) := pick h0 h
theorem ok_msg {k d : Nat} {f fD fT fS fP : Addr} {fd fdD fdT fdS fdP : FuncData} (hk : 2 ≤ k) (F : Fun K "_law_message" "_law_message" sMsg f fd)
    (GD : FnOk P w K mg base CX0 1 fD fdD ["box", "many"] spDraw) (bD : Binds K fdD ["box", "many"] []) (kD : PySem.W.keepIn K (.ref fD) = true) (mD : mg "_law_draw" = some (.ref fD))
    (GT : FnOk P w K mg base CX0 2 fT fdT ["box"] spString) (bT : Binds K fdT ["box"] []) (kT : PySem.W.keepIn K (.ref fT) = true) (mT : mg "_law_string" = some (.ref fT))
    (GS : FnOk P w K mg base CX0 k fS fdS ["box", "depth", "inside"] (spSel d)) (bS : Binds K fdS ["box", "depth", "inside"] []) (kS : PySem.W.keepIn K (.ref fS) = true) (mS : mg "_law_select" = some (.ref fS))
    (GP : FnOk P w K mg base CX0 k fP fdP ["box", "depth"] (spPlu d)) (bP : Binds K fdP ["box", "depth"] []) (kP : PySem.W.keepIn K (.ref fP) = true) (mP : mg "_law_plural" = some (.ref fP))
    (mr : mg "range" = none) (ml : mg "len" = none) : FnOk P w K mg base CX0 (k + 1) f fd ["box", "depth", "inside"] (spMsg d) := by
  refine F.ok scMsg (fun vs H Q E h => ?_) (fun cdv A outer s H vs Q E hr h => ?_)
  · obtain ⟨B, b, i, rfl, _⟩ := h
    rfl
  obtain ⟨B, b, ins, rfl, hb, q⟩ := h
  have nd := scMsg.nd
  have hr1 : Room 1 _ := hr.mono (by omega)
  have hr2 : Room 2 _ := hr.mono hk
  refine ⟨_, pss_cons (ps_set (i := 3) nd rfl (.inl rfl) (pe_lst pa_nil))
    (pss_cons (ps_for PassesOwn.never rfl (pi_range1 rfl mr (pa_cons (pe_call GD hr1 rfl mD kD bD .nil pass0 (pa_cons (pv 0) (pa_cons pe_int pa_nil))) pa_nil)) (pg_name (i := 4) nd rfl (.inl rfl))
      (pss_cons (ps_set (i := 5) nd rfl (.inl rfl) (pe_call GD hr1 rfl mD kD bD .nil pass0 (pa_cons (pv 0) (pa_cons pe_int pa_nil))))
      (pss_one (ps_if (PW.pt (pw_or (pt_cmpR op_lt (pv 5) pe_int (nomark _)) (pw_or1 (PW.pt (pw_and (pt_cmpR op_eq (pv 1) pe_int (nomark _)) (pw_and1 (pt_cmpR op_gt (pv 5) pe_int (nomark _))))))))
        (pss_one (ps_if (PW.pt (pw_or (pt_cmpR op_eq (pe_callB call_len_seq (by rfl) ml PySem.boot_len (pa_cons (pv 3) pa_nil)) pe_int (nomark _)) (pw_or1 (pt_cmpR op_ne (pe_ix ix_tup (pe_ix ix_list (pv 3) (pe_un un_neg pe_int) (fun _ _ => rfl)) pe_int (fun _ _ => rfl)) pe_str (nomark _)))))
          (pss_one (ps_expr (pe_bm PySem.F.plainAttrs_list PySem.F.slot_list_append PySem.F.type_list_append mt_append (pv 3) (pa_cons (pe_tup (pa_cons pe_str (pa_cons (pe_call GT hr2 rfl mT kT bT .nil pass0 (pa_cons (pv 0) pa_nil)) pa_nil))) pa_nil)))) pss_nil))
        (pss_one (ps_if (pt_cmpR op_eq (pv 5) pe_int (nomark _))
          (pss_one (ps_expr (pe_bm PySem.F.plainAttrs_list PySem.F.slot_list_append PySem.F.type_list_append mt_append (pv 3) (pa_cons (pe_tup (pa_cons pe_str (pa_cons (pe_ix ix_list (pe_lst (pa_cons pe_str (pa_cons pe_str (pa_cons pe_str (pa_cons pe_str pa_nil))))) (pe_call GD hr1 rfl mD kD bD .nil pass0 (pa_cons (pv 0) (pa_cons pe_int pa_nil))) (fun _ _ => rfl)) pa_nil))) pa_nil))))
          (pss_one (ps_if (pt_cmpR op_eq (pv 5) pe_int (nomark _))
            (pss_one (ps_if (pt_val (pv 2)) (pss_one (ps_expr (pe_bm PySem.F.plainAttrs_list PySem.F.slot_list_append PySem.F.type_list_append mt_append (pv 3) (pa_cons (pe_tup (pa_cons pe_str pa_nil)) pa_nil)))) pss_nil))
            (pss_one (ps_if (pt_cmpR op_lt (pv 5) pe_int (nomark _))
              (pss_one (ps_expr (pe_bm PySem.F.plainAttrs_list PySem.F.slot_list_append PySem.F.type_list_append mt_append (pv 3) (pa_cons (pe_call GP hr rfl mP kP bP .nil pass0 (pa_cons (pv 0) (pa_cons (pv 1) pa_nil))) pa_nil))))
              (pss_one (ps_expr (pe_bm PySem.F.plainAttrs_list PySem.F.slot_list_append PySem.F.type_list_append mt_append (pv 3) (pa_cons (pe_call GS hr rfl mS kS bS .nil pass0 (pa_cons (pv 0) (pa_cons (pv 1) (pa_cons (pv 2) pa_nil)))) pa_nil))))))))))))))
    (pss_one (ps_ret (pv 3)))), ?_⟩
  refine ⟨Nat.zero_le _, fun l hl => ?_⟩
  have hlB := hb.neB hl
  have hlb := hb.neD hl
  have hBs := hb.isB
  refine ⟨_, rfl, B, b, 4, rfl, by decide, hb.new hl _, fun z H2 z0 z4 g2 hb2 => ?_⟩
  refine ⟨z, rfl, by omega, by omega, for_range (lo := 0) (n := z.toNat) (MsgInv B b H (upd H l (.lst [])) l d ins) ⟨[], .nil, none, none, rfl, (Go.new hl _).trans g2, hb2, g2.ext _ _ hlB upd_same, rfl, trivial, Nat.zero_le _, Nat.le_refl _⟩ ?_ ?_⟩
  rotate_left
  · rintro σ H' ⟨vs, t, o4, o5, rfl, g, hb', hl', hn, hg, hs, hlen⟩
    refine ⟨_, rfl, q l H' t g hb' ⟨vs, ?_, ?_⟩ hg ?_ (by omega)⟩
    · rw [fr_new hl]
      exact hl'
    · exact Nodes.same (fr_dom fun c hc => upd_none hc) hn
    · have : z.toNat * nodeW d ≤ 3 * nodeW d := Nat.mul_le_mul_right _ (by omega)
      exact Nat.le_trans hs this
  · rintro i σ H' hi ⟨vs, t, o4, o5, rfl, g, hb', hl', hn, hg, hs, hlen⟩
    have hvs : vs.length < 1000 := by
      rw [hn.length]
      omega
    refine ⟨_, rfl, B, b, 8, rfl, by decide, hb', fun kind H3 k0 k8 g3 hb3 => ?_⟩
    have hl3 : H3 l = some (.lst vs) := g3.ext _ _ hlB hl'
    have g03 := g.trans g3
    have hB1 : ∃ o, upd H l (HO.lst []) B = some o := by
      obtain ⟨o, h⟩ := hBs
      exact ⟨o, by rw [upd_ne hlB.symm]; exact h⟩
    have hn3 : Nodes (fr (upd H l (.lst [])) H3) t vs := by
      obtain ⟨o, h⟩ := hB1
      exact Nodes.same (fr_go h g3) hn
    dsimp only [gName]
    refine i_or (decide (kind < 3)) (decide (V.int (d : Int) = V.int 0) && decide (4 < kind)) (fun Q q => ⟨_, rfl, _, _, rfl, rfl, _, rfl, q⟩)
      (fun _ Q q => t_and (decide (V.int (d : Int) = V.int 0)) (decide (4 < kind)) (fun Q q => ⟨_, rfl, rfl, _, rfl, q⟩) (fun _ Q q => ⟨_, rfl, _, _, rfl, rfl, _, rfl, q⟩) q) ?_
    refine ite2 (fun c => ?_) (fun c => ?_)
    · -- a text
      refine i_or (decide (V.int (vs.length : Int) = V.int 0)) (!t.lastText) (fun Q q => ⟨_, rfl, l, _, rfl, .inl (SqL.of hl3), rfl, _, rfl, q⟩) (fun e Q q => ?_) ?_
      · have ne : vs ≠ [] := by
          rintro rfl
          cases e
        obtain ⟨us, p, x, xs, e1, e2, e3⟩ := Nodes.last hn3 hg ne
        refine ⟨_, rfl, 1, rfl, l, _, -1, .ref p, rfl, rfl, SqL.of hl3, by rw [e1]; exact atI_last _ _, p, _, 0, .str x, rfl, rfl, .inl (.inl (fr_out _ _ e2)), atI_nat (j := 0) rfl, rfl, _, rfl, ?_⟩
        have eb : (!t.lastText) = (!decide (V.str x = V.str "text")) := by
          cases ht : t.lastText with
          | true =>
            rw [e3.mpr ht, decide_eq_true rfl]
          | false =>
            rw [decide_eq_false]
            intro z
            rw [e3.mp (str_eq z)] at ht
            cases ht
        rw [← eb]
        exact q
      · refine ite2 (fun c2 => ?_) (fun c2 => ?_)
        · have nl : t.lastText = true → T.notText (.text "" .nil) = true := fun hlt => by
            exfalso
            rw [hlt] at c2
            have c3 := of_decide_eq_true ((Bool.or_false _).symm.trans c2)
            have : vs = [] := List.length_eq_zero_iff.mp (by have := int_eq c3; omega)
            subst this
            have ht : t = .nil := by
              have := hn3.length
              cases t <;> first | rfl | (simp [T.len] at this)
            subst ht
            cases hlt
          refine ⟨_, rfl, .inl ⟨rfl, _, SqL.of hl3⟩, _, rfl, B, b, rfl, hb3, fun x H4 hx g4 hb4 => ⟨by show 2 ≤ sizeLine; decide, fun p hp => ?_⟩⟩
          have hl4 : H4 l = some (.lst vs) := g4.ext _ _ hlB hl3
          have hp1 : upd H l (HO.lst []) p = none := dom1 (g03.trans g4) hl4 p hp
          refine ⟨l, _, _, rfl, rfl, (by rw [upd_ne (ne_of_none hl4 hp)]; exact hl4), sz_line (by omega), ?_⟩
          exact MsgInv.grow (u := .text x .nil) hl hlB hlb hBs g03 hl3 hn3 hg hs hlen (g4.trans (Go.new hp _)) (hb4.new hp _) ⟨p, [], rfl, by rw [fr_new hp1]; exact upd_same, rfl⟩ ⟨rfl, hx, rfl, trivial⟩
            (by have := menu_len hx; have := nodeW_ge d; show 1 + x.length + 0 ≤ _; omega) rfl nl
        · exact ⟨vs, t, _, _, rfl, g03, hb3, hl3, hn3, hg, by rw [Nat.add_mul]; omega, by omega⟩
    · -- another kind of node
      have hd1 : ¬ kind < 3 ∧ ¬ (d = 0 ∧ 4 < kind) := by
        constructor
        · intro h
          exact c (by rw [decide_eq_true h]; rfl)
        · rintro ⟨rfl, h⟩
          refine c ?_
          rw [decide_eq_true h]
          exact Bool.or_true _
      refine ⟨_, rfl, rfl, _, rfl, ite2 (fun c3 => ?_) (fun c3 => ⟨_, rfl, rfl, _, rfl, ite2 (fun c4 => ?_) (fun c4 => ⟨_, rfl, _, _, rfl, rfl, _, rfl, ite2 (fun c5 => ?_) (fun c5 => ?_)⟩)⟩)⟩
      · -- show
        refine ⟨_, rfl, .inl ⟨rfl, _, SqL.of hl3⟩, by decide, fun m hm => ?_⟩
        have hmB := hb3.neB hm
        refine ⟨_, rfl, B, b, 4, rfl, by decide, hb3.new hm _, fun z' H4 z0' z4' g4 hb4 => ?_⟩
        obtain ⟨x, hx, ha⟩ := pickL (l := names4) z0' (by show z' < ((4 : Nat) : Int); omega)
        refine ⟨m, _, z', .str x, rfl, rfl, SqL.of (g4.ext _ _ hmB upd_same), ha, by show 2 ≤ sizeLine; decide, fun p hp => ?_⟩
        have g34 : Go B H3 H4 := (Go.new hm _).trans g4
        have hl4 : H4 l = some (.lst vs) := g34.ext _ _ hlB hl3
        have hp1 : upd H l (HO.lst []) p = none := dom1 (g03.trans g34) hl4 p hp
        refine ⟨l, _, _, rfl, rfl, (by rw [upd_ne (ne_of_none hl4 hp)]; exact hl4), sz_line (by omega), ?_⟩
        exact MsgInv.grow (u := .shw x .nil) hl hlB hlb hBs g03 hl3 hn3 hg hs hlen (g34.trans (Go.new hp _)) (hb4.new hp _) ⟨p, [], rfl, by rw [fr_new hp1]; exact upd_same, rfl⟩ ⟨rfl, hx, trivial⟩
            (by have := nodeW_ge d; show 1 + 0 ≤ _; omega) rfl fun _ => rfl
      · -- number
        refine ⟨_, rfl, _, rfl, ite2 (fun c6 => ?_) (fun c6 => ?_)⟩
        · refine ⟨_, rfl, .inl ⟨rfl, _, SqL.of hl3⟩, by show 1 ≤ sizeLine; decide, fun p hp => ?_⟩
          have hp1 : upd H l (HO.lst []) p = none := dom1 g03 hl3 p hp
          refine ⟨l, _, _, rfl, rfl, (by rw [upd_ne (ne_of_none hl3 hp)]; exact hl3), sz_line (by omega), ?_⟩
          exact MsgInv.grow (u := .num .nil) hl hlB hlb hBs g03 hl3 hn3 hg hs hlen (Go.new hp _) (hb3.new hp _) ⟨p, [], rfl, by rw [fr_new hp1]; exact upd_same, rfl⟩ ⟨rfl, c6, trivial⟩
            (by have := nodeW_ge d; show 1 + 0 ≤ _; omega) rfl fun _ => rfl
        · exact ⟨vs, t, _, _, rfl, g03, hb3, hl3, hn3, hg, by rw [Nat.add_mul]; omega, by omega⟩
      all_goals
        have hk4 : ¬ kind = 4 := fun e => c4 (by rw [e]; rfl)
        have hk3 : ¬ kind = 3 := fun e => c3 (by rw [e]; rfl)
        obtain ⟨e, he⟩ : ∃ e, d = e + 1 := by
          cases d with
          | zero => exact absurd (by omega) (fun h => hd1.2 ⟨rfl, h⟩)
          | succ e => exact ⟨e, rfl⟩
      · refine ⟨_, rfl, .inl ⟨rfl, _, SqL.of hl3⟩, _, rfl, _, rfl, B, b, e, he, rfl, hb3, fun p H4 g4 hb4 hN => ?_⟩
        obtain ⟨hd', cs, o, n1, n2, n3⟩ := hN ins
        have hl4 : H4 l = some (.lst vs) := g4.ext _ _ hlB hl3
        refine ⟨l, _, _, rfl, rfl, hl4, sz_line (by omega), ?_⟩
        exact MsgInv.grow hl hlB hlb hBs g03 hl3 hn3 hg hs hlen g4 hb4 (Nodes.same (fr_dom (dom1 g03 hl3)) n1) n2 n3 rfl fun _ => rfl
      · refine ⟨_, rfl, .inl ⟨rfl, _, SqL.of hl3⟩, _, rfl, _, rfl, _, rfl, B, b, ins, e, he, rfl, hb3, fun p H4 g4 hb4 hN => ?_⟩
        obtain ⟨hd', cs, o, n1, n2, n3⟩ := hN
        have hl4 : H4 l = some (.lst vs) := g4.ext _ _ hlB hl3
        refine ⟨l, _, _, rfl, rfl, hl4, sz_line (by omega), ?_⟩
        exact MsgInv.grow hl hlB hlb hBs g03 hl3 hn3 hg hs hlen g4 hb4 (Nodes.same (fr_dom (dom1 g03 hl3)) n1) n2 n3 rfl fun _ => rfl
end
end Mw

namespace Mw
open PySem L2
def CasInv (B b l wl : Addr) (H H1 : Hp) (ks : List V) (e : Nat) (j : Bool) (i : Nat) (H' : Hp) : Prop :=
  ∃ vs t, Go B H H' ∧ Box H' B b ∧ H' wl = some (.lst ks) ∧ H' l = some (.lst vs) ∧ Nodes (fr H1 H') t vs ∧ Gd t true e j ∧ t.keys.Sublist (ks.take i) ∧ t.sz ≤ i * (1 + msgW e)
theorem CasInv.skip {B b l wl : Addr} {H H1 H' H'' : Hp} {ks : List V} {e : Nat} {j : Bool} {i : Nat} (h : CasInv B b l wl H H1 ks e j i H') (hlB : l ≠ B) (hwB : wl ≠ B) (hB : ∃ o, H1 B = some o) (g : Go B H' H'') (hb : Box H'' B b) : CasInv B b l wl H H1 ks e j i H'' := by
  obtain ⟨vs, t, g1, _, hw, hl, hn, hg, hk, hs⟩ := h
  obtain ⟨o, hB⟩ := hB
  exact ⟨vs, t, g1.trans g, hb, g.ext _ _ hwB hw, g.ext _ _ hlB hl, Nodes.same (fr_go hB g) hn, hg, hk, hs⟩
theorem take_mono {α : Type} {ys xs : List α} {i : Nat} (h : ys.Sublist (xs.take i)) : ys.Sublist (xs.take (i + 1)) :=
  h.trans (by rw [List.take_succ]; exact List.sublist_append_left _ _)
theorem CasInv.next {B b l wl : Addr} {H H1 H' : Hp} {ks : List V} {e : Nat} {j : Bool} {i : Nat} (h : CasInv B b l wl H H1 ks e j i H') : CasInv B b l wl H H1 ks e j (i + 1) H' := by
  obtain ⟨vs, t, g1, hb, hw, hl, hn, hg, hk, hs⟩ := h
  exact ⟨vs, t, g1, hb, hw, hl, hn, hg, take_mono hk, by rw [Nat.add_mul]; omega⟩
theorem CasInv.grow {B b l wl p r : Addr} {H H' H'' : Hp} {ks : List V} {e : Nat} {j : Bool} {i : Nat} {vs : List V} {t m : T} {k : V} {o : HO} (hl0 : H l = none) (hlB : l ≠ B) (hlb : l ≠ b) (hlw : wl ≠ l) (hwB : wl ≠ B) (hB : ∃ o, H B = some o)
    (g : Go B H H') (hl : H' l = some (.lst vs)) (hw : H' wl = some (.lst ks)) (hn : Nodes (fr (upd H l o) H') t vs) (hg : Gd t true e j) (hs : t.sz ≤ i * (1 + msgW e)) (hk : t.keys.Sublist (ks.take i)) (hki : ks[i]? = some k)
    (g2 : Go B H' H'') (hb : Box H'' B b) (hr : At (fr H' H'') r m) (gm : Gd m false e j) (sm : m.sz ≤ msgW e) (hp : H'' p = none) :
    CasInv B b l wl H (upd H l o) ks e j (i + 1) (upd (upd H'' p (.tup [k, .ref r])) l (.lst (vs ++ [.ref p]))) := by
  obtain ⟨oB, hB⟩ := hB
  have hB1 : upd H l o B = some oB := by rw [upd_ne hlB.symm]; exact hB
  have hl2 : H'' l = some (.lst vs) := g2.ext _ _ hlB hl
  have hw2 : H'' wl = some (.lst ks) := g2.ext _ _ hwB hw
  have hp1 : upd H l o p = none := dom1 (g.trans g2) hl2 p hp
  have s3 : Same H'' (upd H'' p (.tup [k, .ref r])) := same_new hp _
  have hu : Nodes (fr (upd H l o) (upd H'' p (.tup [k, .ref r]))) (.cas k m .nil) [.ref p] := by
    obtain ⟨ws, hr1, hr2⟩ := hr
    have sd : Same (fr H' H'') (fr (upd H l o) (upd H'' p (.tup [k, .ref r]))) := Same.trans (fr_dom (dom1 g hl)) (fr_same s3)
    exact ⟨p, [], r, ws, rfl, by rw [fr_new hp1]; exact upd_same, sd _ _ hr1, Nodes.same sd hr2, rfl⟩
  refine ⟨vs ++ [.ref p], t.app (.cas k m .nil), ((g.trans g2).trans (Go.new hp _)).mut hl0 _, (hb.new hp _).mut hlB hlb _, ?_, upd_same, ?_, ?_, ?_, ?_⟩
  · rw [upd_ne hlw]
    exact s3 _ _ hw2
  · exact Nodes.same (fr_mut upd_same _) (Nodes.app hu (Nodes.same (fr_same s3) (Nodes.same (fr_go hB1 g2) hn)))
  · exact Gd.app (show Gd (.cas k m .nil) true e j from ⟨rfl, gm, trivial⟩) hg fun _ => rfl
  · rw [T.app_keys k m .nil t e j hg, List.take_succ, hki]
    exact hk.append (List.Sublist.refl _)
  · rw [T.app_sz, Nat.add_mul, Nat.one_mul]
    have : (T.cas k m .nil).sz = 1 + m.sz := by simp [T.sz]
    omega
/-- the choice at the end -/
theorem cho_end {B l r p : Addr} {H H' H'' : Hp} {hd : List V} {e : Nat} {i j : Bool} {vs : List V} {t o : T} {ol : HO} (hl0 : H l = none) (hlB : l ≠ B) (hB : ∃ o, H B = some o)
    (g : Go B H H') (hl : H' l = some (.lst vs)) (hn : Nodes (fr (upd H l ol) H') t vs) (hg : Gd t true e j) (hs : t.sz ≤ 9 * (1 + msgW e))
    (g2 : Go B H' H'') (hr : At (fr H' H'') r o) (go : Gd o false e j) (so : o.sz ≤ msgW e) (hp : H'' p = none) (hh : HdOk hd i j t.keys) :
    NodeAt H (upd H'' p (.tup (hd ++ [.ref l, .ref r]))) p (e + 1) i := by
  obtain ⟨oB, hB⟩ := hB
  have hB1 : upd H l ol B = some oB := by rw [upd_ne hlB.symm]; exact hB
  have hl2 : H'' l = some (.lst vs) := g2.ext _ _ hlB hl
  have s3 : Same H'' (upd H'' p (.tup (hd ++ [.ref l, .ref r]))) := same_new hp _
  have hp0 : H p = none := (g.trans g2).dom p hp
  obtain ⟨ws, hr1, hr2⟩ := hr
  have sd : Same (fr H' H'') (fr H (upd H'' p (.tup (hd ++ [.ref l, .ref r])))) := Same.trans (fr_dom g.dom) (fr_same s3)
  refine ⟨hd, t, o, ⟨p, [], l, vs, r, ws, rfl, by rw [fr_new hp0]; exact upd_same, ?_, ?_, sd _ _ hr1, Nodes.same sd hr2, rfl⟩, ⟨rfl, ⟨e, j, rfl, hh, hg, go⟩, trivial⟩, ?_⟩
  · rw [fr_new hl0]
    exact s3 _ _ hl2
  · exact Nodes.same (Same.trans (fr_go hB1 g2) (Same.trans (fr_dom fun c hc => upd_none hc) (fr_same s3))) hn
  · show 1 + t.sz + o.sz + 0 ≤ 10 + 30 * nodeW e
    have e1 : msgW e = 3 * nodeW e := rfl
    rw [e1] at hs so
    omega
section
variable {P : Program} {w : World} {K : PySem.W.Frag} {mg : Str → Option Value} {base : Heap}
theorem args_m (B : Addr) (e : Nat) (i : Bool) : [V.ref B, V.int (((e + 1 : Nat) : Int) - 1), V.bl i] = [V.ref B, V.int (e : Int), V.bl i] := by
  rw [show ((e + 1 : Nat) : Int) - 1 = (e : Int) by omega]
theorem cas_len : ∀ (t : T) (d : Nat) (j : Bool), Gd t true d j → t.len = t.keys.length := by
  intro t
  induction t with
  | cas k m r _ ih => intro d j h; simp [T.len, T.keys, ih d j h.2.2]
  | nil => intro d j h; rfl
  | _ => intro d j h; cases h.1
theorem ok_sel {k e : Nat} {f fD fM : Addr} {fd fdD fdM : FuncData} (hk : 1 ≤ k) (F : Fun K "_law_select" "_law_select" sSel f fd)
    (GD : FnOk P w K mg base CX0 1 fD fdD ["box", "many"] spDraw) (bD : Binds K fdD ["box", "many"] []) (kD : PySem.W.keepIn K (.ref fD) = true) (mD : mg "_law_draw" = some (.ref fD))
    (GM : FnOk P w K mg base CX0 k fM fdM ["box", "depth", "inside"] (spMsg e)) (bM : Binds K fdM ["box", "depth", "inside"] []) (kM : PySem.W.keepIn K (.ref fM) = true) (mM : mg "_law_message" = some (.ref fM)) :
    FnOk P w K mg base CX0 (k + 1) f fd ["box", "depth", "inside"] (spSel (e + 1)) := by
  refine F.ok scSel (fun vs H Q E h => ?_) (fun cdv A outer s H vs Q E hr h => ?_)
  · obtain ⟨B, b, i, _, _, rfl, _⟩ := h
    rfl
  obtain ⟨B, b, ins, _, _, rfl, hb, q⟩ := h
  have nd := scSel.nd
  have hr1 : Room 1 _ := hr.mono hk
  refine ⟨_, pss_cons (ps_set (i := 3) nd rfl (.inl rfl) (pe_lst pa_nil))
    (pss_cons (ps_for PassesOwn.never rfl (pi_list (pe_lst (pa_cons pe_str (pa_cons pe_str (pa_cons pe_str pa_nil))))) (pg_name (i := 4) nd rfl (.inl rfl))
      (pss_one (ps_if (pt_cmpR op_eq (pe_call GD hr1 rfl mD kD bD .nil pass0 (pa_cons (pv 0) (pa_cons pe_int pa_nil))) pe_int (nomark _))
        (pss_one (ps_expr (pe_bm PySem.F.plainAttrs_list PySem.F.slot_list_append PySem.F.type_list_append mt_append (pv 3) (pa_cons (pe_tup (pa_cons (pv 4) (pa_cons (pe_call GM hr rfl mM kM bM .nil pass0 (pa_cons (pv 0) (pa_cons (pe_op op_sub (pv 1) pe_int) (pa_cons (pv 2) pa_nil)))) pa_nil))) pa_nil)))) pss_nil)))
    (pss_one (ps_ret (pe_tup (pa_cons pe_str (pa_cons (pe_ix ix_list (pe_lst (pa_cons pe_str (pa_cons pe_str pa_nil))) (pe_call GD hr1 rfl mD kD bD .nil pass0 (pa_cons (pv 0) (pa_cons pe_int pa_nil))) (fun _ _ => rfl)) (pa_cons (pv 3) (pa_cons (pe_call GM hr rfl mM kM bM .nil pass0 (pa_cons (pv 0) (pa_cons (pe_op op_sub (pv 1) pe_int) (pa_cons (pv 2) pa_nil)))) pa_nil)))))))), ?_⟩
  refine ⟨Nat.zero_le _, fun l hl => ?_⟩
  have hlB := hb.neB hl
  have hlb := hb.neD hl
  have hBs := hb.isB
  have hB1 : ∃ o, upd H l (HO.lst []) B = some o := by
    obtain ⟨o, h⟩ := hBs
    exact ⟨o, by rw [upd_ne hlB.symm]; exact h⟩
  refine ⟨by show 3 ≤ sizeLine; decide, fun wl hwl => ?_⟩
  have hb1 := hb.new hl (.lst [])
  have hwB := hb1.neB hwl
  have hwl' : wl ≠ l := by
    rintro rfl
    rw [upd_same] at hwl
    cases hwl
  refine ⟨wl, rfl, ⟨_, SqL.of upd_same⟩, for_list (xs := skeys) (fun i σ H' => ∃ o4, σ = [some (.ref B), some (.int ((e + 1 : Nat) : Int)), some (.bl ins), some (.ref l), o4] ∧ CasInv B b l wl H (upd H l (.lst [])) skeys e ins i H')
    ⟨none, rfl, [], .nil, (Go.new hl _).trans (Go.new hwl _), hb1.new hwl _, upd_same, by rw [upd_ne hwl'.symm]; exact upd_same, rfl, trivial, List.nil_sublist _, Nat.zero_le _⟩
    (fun i σ H' _ ⟨_, _, _, _, _, _, hw, _⟩ => SqL.of hw) ?_ ?_⟩
  · rintro i x σ H' hx ⟨o4, rfl, I⟩
    obtain ⟨vs0, t0, _, hbI, _⟩ := id I
    refine ⟨_, rfl, B, b, 3, rfl, by decide, hbI, fun z H3 z0 z3 g3 hb3 => ?_⟩
    have I3 := I.skip hlB hwB hB1 g3 hb3
    refine ⟨rfl, _, rfl, ite2 (fun c => ?_) (fun c => ?_)⟩
    · obtain ⟨vs, t, g1, _, hw, hl3, hn, hg, hks, hs⟩ := I3
      have hi3 : i < 3 := (List.getElem?_eq_some_iff.mp hx).1
      have hvs : vs.length < 1000 := by
        rw [hn.length]
        rw [cas_len t e ins hg]
        have := hks.length_le
        rw [List.length_take] at this
        omega
      refine ⟨_, rfl, .inl ⟨rfl, _, SqL.of hl3⟩, _, rfl, _, rfl, _, rfl, _, _, rfl, rfl, _, rfl, B, b, ins, args_m B e ins, hb3, fun r H4 m g4 hb4 hr4 gm sm _ => ?_⟩
      refine ⟨by show 2 ≤ sizeLine; decide, fun p hp => ?_⟩
      have hl4 : H4 l = some (.lst vs) := g4.ext _ _ hlB hl3
      refine ⟨l, _, _, rfl, rfl, (by rw [upd_ne (ne_of_none hl4 hp)]; exact hl4), sz_line (by omega), ?_⟩
      exact ⟨_, rfl, CasInv.grow hl hlB hlb hwl' hwB hBs g1 hl3 hw hn hg hs hks hx g4 hb4 hr4 gm sm hp⟩
    · exact ⟨_, rfl, I3.next⟩
  · rintro σ H' ⟨o4, rfl, I⟩
    obtain ⟨vs, t, g1, hb', hw, hl', hn, hg, hks, hs⟩ := I
    refine ⟨by decide, fun m hm => ?_⟩
    have hmB := hb'.neB hm
    refine ⟨_, rfl, B, b, 2, rfl, by decide, hb'.new hm _, fun z H3 z0 z2 g3 hb3 => ?_⟩
    obtain ⟨x, hx, ha⟩ := pickL (l := ["w", "kind"]) z0 (by show z < ((2 : Nat) : Int); omega)
    refine ⟨m, _, z, .str x, rfl, rfl, SqL.of (g3.ext _ _ hmB upd_same), ha, ?_⟩
    refine ⟨_, rfl, _, rfl, _, rfl, _, _, rfl, rfl, _, rfl, B, b, ins, args_m B e ins, hb3, fun r H4 o g4 hb4 hr4 go so _ => ?_⟩
    have g34 : Go B H' H3 := (Go.new hm _).trans g3
    refine ⟨by show 4 ≤ sizeLine; decide, fun p hp => ?_⟩
    refine q p _ ((g1.trans (g34.trans g4)).trans (Go.new hp _)) (hb4.new hp _) ?_
    have hl3 : H3 l = some (.lst vs) := g34.ext _ _ hlB hl'
    obtain ⟨oB, hB1'⟩ := hB1
    have sk : t.keys.Sublist skeys := by
      have : skeys.take skeys.length = skeys := List.take_length
      rw [this] at hks
      exact hks
    have hs9 : t.sz ≤ 9 * (1 + msgW e) := Nat.le_trans hs (Nat.mul_le_mul_right _ (by decide))
    exact cho_end (hd := [.str "select", .str x]) hl hlB hBs (g1.trans g34) hl3 (Nodes.same (fr_go hB1' g34) hn) hg hs9 g4 hr4 go so hp (.sel (by simpa using hx) sk)
end
end Mw

namespace Mw
open PySem L2
/-- cases backwards -/
def T.rev : T → T
  | .cas k m r => r.rev.app (.cas k m .nil)
  | _ => .nil
theorem Gd.rev {e : Nat} {j : Bool} : ∀ {t : T}, Gd t true e j → Gd t.rev true e j ∧ t.rev.keys = t.keys.reverse ∧ t.rev.sz = t.sz ∧ ∀ {H : Hp} {vs : List V}, Nodes H t vs → Nodes H t.rev vs.reverse
  | .nil, _ => ⟨trivial, rfl, rfl, fun {H vs} h => by
    have h' : vs = [] := h
    subst h'
    exact rfl⟩
  | .text _ _, h => by cases h.1
  | .shw _ _, h => by cases h.1
  | .num _, h => by cases h.1
  | .cho _ _ _ _, h => by cases h.1
  | .cas k m r, h => by
    obtain ⟨i1, i2, i3, i4⟩ := Gd.rev h.2.2
    refine ⟨Gd.app (show Gd (.cas k m .nil) true e j from ⟨rfl, h.2.1, trivial⟩) i1 fun _ => rfl, ?_, ?_, fun {H vs} hn => ?_⟩
    · show (r.rev.app (.cas k m .nil)).keys = (k :: r.keys).reverse
      rw [T.app_keys k m .nil r.rev e j i1, i2, List.reverse_cons]
      rfl
    · show (r.rev.app (.cas k m .nil)).sz = 1 + m.sz + r.sz
      rw [T.app_sz, i3]
      simp [T.sz]
      omega
    · obtain ⟨p, ws, ma, mvs, rfl, hp, hm, hms, hr⟩ := hn
      rw [List.reverse_cons]
      exact Nodes.app (show Nodes H (.cas k m .nil) [.ref p] from ⟨p, [], ma, mvs, rfl, hp, hm, hms, rfl⟩) (i4 hr)
section
variable {P : Program} {w : World} {K : PySem.W.Frag} {mg : Str → Option Value} {base : Heap}
theorem args_p (B : Addr) (e : Nat) : [V.ref B, V.int (((e + 1 : Nat) : Int) - 1), V.bl true] = [V.ref B, V.int (e : Int), V.bl true] := args_m B e true
theorem ok_plu {k e : Nat} {f fD fM : Addr} {fd fdD fdM : FuncData} (hk : 1 ≤ k) (F : Fun K "_law_plural" "_law_plural" sPlu f fd)
    (GD : FnOk P w K mg base CX0 1 fD fdD ["box", "many"] spDraw) (bD : Binds K fdD ["box", "many"] []) (kD : PySem.W.keepIn K (.ref fD) = true) (mD : mg "_law_draw" = some (.ref fD))
    (GM : FnOk P w K mg base CX0 k fM fdM ["box", "depth", "inside"] (spMsg e)) (bM : Binds K fdM ["box", "depth", "inside"] []) (kM : PySem.W.keepIn K (.ref fM) = true) (mM : mg "_law_message" = some (.ref fM)) :
    FnOk P w K mg base CX0 (k + 1) f fd ["box", "depth"] (spPlu (e + 1)) := by
  refine F.ok scPlu (fun vs H Q E h => ?_) (fun cdv A outer s H vs Q E hr h => ?_)
  · obtain ⟨B, b, _, _, rfl, _⟩ := h
    rfl
  obtain ⟨B, b, _, _, rfl, hb, q⟩ := h
  have nd := scPlu.nd
  have hr1 : Room 1 _ := hr.mono hk
  refine ⟨_, pss_cons (ps_set (i := 2) nd rfl (.inl rfl) (pe_lst pa_nil))
    (pss_cons (ps_for PassesOwn.never rfl (pi_list (pe_lst (pa_cons pe_int (pa_cons pe_int (pa_cons pe_int (pa_cons pe_int (pa_cons pe_str (pa_cons pe_str (pa_cons pe_str (pa_cons pe_str (pa_cons pe_str pa_nil))))))))))) (pg_name (i := 3) nd rfl (.inl rfl))
      (pss_one (ps_if (pt_cmpR op_eq (pe_call GD hr1 rfl mD kD bD .nil pass0 (pa_cons (pv 0) (pa_cons pe_int pa_nil))) pe_int (nomark _))
        (pss_one (ps_expr (pe_bm PySem.F.plainAttrs_list PySem.F.slot_list_append PySem.F.type_list_append mt_append (pv 2) (pa_cons (pe_tup (pa_cons (pv 3) (pa_cons (pe_call GM hr rfl mM kM bM .nil pass0 (pa_cons (pv 0) (pa_cons (pe_op op_sub (pv 1) pe_int) (pa_cons pe_bl pa_nil)))) pa_nil))) pa_nil)))) pss_nil)))
    (Evl.pss_cut (ps_if (pt_cmpR op_eq (pe_call GD hr1 rfl mD kD bD .nil pass0 (pa_cons (pv 0) (pa_cons pe_int pa_nil))) pe_int (nomark _))
        (pss_one (ps_expr (pe_bm0 PySem.F.plainAttrs_list PySem.F.slot_list_reverse PySem.F.type_list_reverse mt_reverse (pv 2)))) pss_nil)
    (pss_one (ps_ret (pe_tup (pa_cons pe_str (pa_cons (pe_ix ix_list (pe_lst (pa_cons pe_str (pa_cons pe_str pa_nil))) (pe_call GD hr1 rfl mD kD bD .nil pass0 (pa_cons (pv 0) (pa_cons pe_int pa_nil))) (fun _ _ => rfl))
      (pa_cons (pe_ix ix_list (pe_lst (pa_cons pe_int (pa_cons pe_int (pa_cons pe_int (pa_cons pe_int pa_nil))))) (pe_call GD hr1 rfl mD kD bD .nil pass0 (pa_cons (pv 0) (pa_cons pe_int pa_nil))) (fun _ _ => rfl))
      (pa_cons (pv 2) (pa_cons (pe_call GM hr rfl mM kM bM .nil pass0 (pa_cons (pv 0) (pa_cons (pe_op op_sub (pv 1) pe_int) (pa_cons pe_bl pa_nil)))) pa_nil)))))))))), ?_⟩
  refine ⟨Nat.zero_le _, fun l hl => ?_⟩
  have hlB := hb.neB hl
  have hlb := hb.neD hl
  have hBs := hb.isB
  have hB1 : ∃ o, upd H l (HO.lst []) B = some o := by
    obtain ⟨o, h⟩ := hBs
    exact ⟨o, by rw [upd_ne hlB.symm]; exact h⟩
  refine ⟨by show 9 ≤ sizeLine; decide, fun wl hwl => ?_⟩
  have hb1 := hb.new hl (.lst [])
  have hwB := hb1.neB hwl
  have hwl' : wl ≠ l := by
    rintro rfl
    rw [upd_same] at hwl
    cases hwl
  refine ⟨wl, rfl, ⟨_, SqL.of upd_same⟩, for_list (xs := pkeys) (fun i σ H' => ∃ o4, σ = [some (.ref B), some (.int ((e + 1 : Nat) : Int)), some (.ref l), o4] ∧ CasInv B b l wl H (upd H l (.lst [])) pkeys e true i H')
    ⟨none, rfl, [], .nil, (Go.new hl _).trans (Go.new hwl _), hb1.new hwl _, upd_same, by rw [upd_ne hwl'.symm]; exact upd_same, rfl, trivial, List.nil_sublist _, Nat.zero_le _⟩
    (fun i σ H' _ ⟨_, _, _, _, _, _, hw, _⟩ => SqL.of hw) ?_ ?_⟩
  · rintro i x σ H' hx ⟨o4, rfl, I⟩
    obtain ⟨vs0, t0, _, hbI, _⟩ := id I
    refine ⟨_, rfl, B, b, 5, rfl, by decide, hbI, fun z H3 z0 z3 g3 hb3 => ?_⟩
    have I3 := I.skip hlB hwB hB1 g3 hb3
    refine ⟨rfl, _, rfl, ite2 (fun c => ?_) (fun c => ?_)⟩
    · obtain ⟨vs, t, g1, _, hw, hl3, hn, hg, hks, hs⟩ := I3
      have hi3 : i < 9 := (List.getElem?_eq_some_iff.mp hx).1
      have hvs : vs.length < 1000 := by
        rw [hn.length]
        rw [cas_len t e true hg]
        have := hks.length_le
        rw [List.length_take] at this
        omega
      refine ⟨_, rfl, .inl ⟨rfl, _, SqL.of hl3⟩, _, rfl, _, rfl, _, rfl, _, _, rfl, rfl, B, b, true, args_p B e, hb3, fun r H4 m g4 hb4 hr4 gm sm _ => ?_⟩
      refine ⟨by show 2 ≤ sizeLine; decide, fun p hp => ?_⟩
      have hl4 : H4 l = some (.lst vs) := g4.ext _ _ hlB hl3
      refine ⟨l, _, _, rfl, rfl, (by rw [upd_ne (ne_of_none hl4 hp)]; exact hl4), sz_line (by omega), ?_⟩
      exact ⟨_, rfl, CasInv.grow hl hlB hlb hwl' hwB hBs g1 hl3 hw hn hg hs hks hx g4 hb4 hr4 gm sm hp⟩
    · exact ⟨_, rfl, I3.next⟩
  · rintro σ H' ⟨o4, rfl, I⟩
    obtain ⟨vs0, t0, _, hbI, _⟩ := id I
    refine ⟨fun σ' H3 => ∃ o4 vs t, σ' = [some (.ref B), some (.int ((e + 1 : Nat) : Int)), some (.ref l), o4] ∧ Go B H H3 ∧ Box H3 B b ∧ H3 l = some (.lst vs) ∧ Nodes (fr (upd H l (.lst [])) H3) t vs ∧ Gd t true e true ∧ (t.keys.Sublist pkeys ∨ t.keys.Sublist pkeys.reverse) ∧ t.sz ≤ 9 * (1 + msgW e), ?_, ?_⟩
    · refine ⟨_, rfl, B, b, 3, rfl, by decide, hbI, fun z H3 z0 z3 g3 hb3 => ?_⟩
      obtain ⟨vs, t, g1, _, hw, hl', hn, hg, hks, hs⟩ := I.skip hlB hwB hB1 g3 hb3
      have sk : t.keys.Sublist pkeys := by
        have : pkeys.take pkeys.length = pkeys := List.take_length
        rw [this] at hks
        exact hks
      have hs9 : t.sz ≤ 9 * (1 + msgW e) := hs
      refine ⟨rfl, _, rfl, ite2 (fun c => ?_) (fun c => ?_)⟩
      · refine ⟨_, rfl, .inl ⟨rfl, _, SqL.of hl'⟩, l, _, rfl, rfl, hl', ?_⟩
        obtain ⟨r1, r2, r3, r4⟩ := Gd.rev hg
        refine ⟨_, vs.reverse, t.rev, rfl, g1.mut hl _, hb3.mut hlB hlb _, upd_same, Nodes.same (fr_mut upd_same _) (r4 hn), r1, .inr ?_, by rw [r3]; exact hs9⟩
        rw [r2]
        exact sk.reverse
      · exact ⟨_, vs, t, rfl, g1, hb3, hl', hn, hg, .inl sk, hs9⟩
    · rintro σ' H2 ⟨o4, vs, t, rfl, g1, hb', hl', hn, hg, hks, hs9⟩
      refine ⟨by decide, fun m hm => ?_⟩
      have hmB := hb'.neB hm
      refine ⟨_, rfl, B, b, 2, rfl, by decide, hb'.new hm _, fun z H3 z0 z2 g3 hb3 => ?_⟩
      obtain ⟨x, hx, ha⟩ := pickL (l := ["n", "count"]) z0 (by show z < ((2 : Nat) : Int); omega)
      refine ⟨m, _, z, .str x, rfl, rfl, SqL.of (g3.ext _ _ hmB upd_same), ha, ?_⟩
      have g23 : Go B H2 H3 := (Go.new hm _).trans g3
      refine ⟨by decide, fun m' hm' => ?_⟩
      have hmB' := hb3.neB hm'
      refine ⟨_, rfl, B, b, 4, rfl, by decide, hb3.new hm' _, fun z' H4 z0' z2' g4 hb4 => ?_⟩
      obtain ⟨y, hy, ha'⟩ := pick (l := ([0, 0, 1, 2] : List Int)) (g := V.int) z0' (by show z' < ((4 : Nat) : Int); omega)
      refine ⟨m', _, z', .int y, rfl, rfl, SqL.of (g4.ext _ _ hmB' upd_same), ha', ?_⟩
      have g24 : Go B H2 H4 := g23.trans ((Go.new hm' _).trans g4)
      refine ⟨_, rfl, _, rfl, _, rfl, _, _, rfl, rfl, B, b, true, args_p B e, hb4, fun r H5 o g5 hb5 hr5 go so _ => ?_⟩
      refine ⟨by show 5 ≤ sizeLine; decide, fun p hp => ?_⟩
      refine q p _ ((g1.trans (g24.trans g5)).trans (Go.new hp _)) (hb5.new hp _) fun i => ?_
      have hl3 : H4 l = some (.lst vs) := g24.ext _ _ hlB hl'
      obtain ⟨oB, hB1'⟩ := hB1
      exact cho_end (hd := [.str "plural", .str x, .int y]) (i := i) hl hlB hBs (g1.trans g24) hl3 (Nodes.same (fr_go hB1' g24) hn) hg hs9 g5 hr5 go so hp (.plu (by simpa using hx) (by simpa using hy) hks)
end
end Mw

namespace Mw
open PySem L2
/-! ### nodes one by one -/
def HdW (hd : List V) : Prop := (∃ n, hd = [.str "select", .str n]) ∨ ∃ n off, hd = [.str "plural", .str n, .int off]
def KeyW (k : V) : Prop := (∃ s, k = .str s) ∨ ∃ i, k = .int i
/-- what any message is, and any chain of cases (c) -/
def Wf : T → Bool → Prop
  | .nil, _ => True
  | .text _ r, c => c = false ∧ Wf r c
  | .shw _ r, c => c = false ∧ Wf r c
  | .num r, c => c = false ∧ Wf r c
  | .cho hd cs o r, c => c = false ∧ HdW hd ∧ Wf cs true ∧ Wf o false ∧ Wf r c
  | .cas k m r, c => c = true ∧ KeyW k ∧ Wf m false ∧ Wf r c
def T.single : T → Prop
  | .nil => False
  | .text _ r => r = .nil
  | .shw _ r => r = .nil
  | .num r => r = .nil
  | .cho _ _ _ r => r = .nil
  | .cas _ _ r => r = .nil
def T.isCho : T → Bool
  | .cho _ _ _ _ => true
  | _ => false
def T.isText : T → Bool
  | .text _ _ => true
  | _ => false
def T.nodes : T → List T
  | .nil => []
  | .text s r => .text s .nil :: r.nodes
  | .shw n r => .shw n .nil :: r.nodes
  | .num r => .num .nil :: r.nodes
  | .cho hd cs o r => .cho hd cs o .nil :: r.nodes
  | .cas k m r => .cas k m .nil :: r.nodes
def T.msgs : T → List T
  | .cas _ m r => m :: r.msgs
  | _ => []
def T.inner : T → List T
  | .cho _ cs o _ => cs.msgs ++ [o]
  | _ => []
def Ns (H : Hp) : List T → List V → Prop
  | [], vs => vs = []
  | u :: us, vs => ∃ v ws, vs = v :: ws ∧ Nodes H u [v] ∧ Ns H us ws
def Ats (H : Hp) : List T → List V → Prop
  | [], vs => vs = []
  | t :: ts, vs => ∃ a ws, vs = .ref a :: ws ∧ At H a t ∧ Ats H ts ws
theorem At.same {H H' : Hp} {a : Addr} {t : T} (s : Same H H') (h : At H a t) : At H' a t := by
  obtain ⟨vs, h1, h2⟩ := h
  exact ⟨vs, s _ _ h1, Nodes.same s h2⟩
theorem Ns.same {H H' : Hp} (s : Same H H') : ∀ {us : List T} {vs : List V}, Ns H us vs → Ns H' us vs
  | [], _, h => h
  | u :: us, _, h => by
    obtain ⟨v, ws, rfl, h1, h2⟩ := h
    exact ⟨v, ws, rfl, Nodes.same s h1, Ns.same s h2⟩
theorem Ats.same {H H' : Hp} (s : Same H H') : ∀ {us : List T} {vs : List V}, Ats H us vs → Ats H' us vs
  | [], _, h => h
  | u :: us, _, h => by
    obtain ⟨v, ws, rfl, h1, h2⟩ := h
    exact ⟨v, ws, rfl, h1.same s, Ats.same s h2⟩
theorem Ns.length {H : Hp} : ∀ {us : List T} {vs : List V}, Ns H us vs → vs.length = us.length
  | [], _, h => by rw [show _ = [] from h]; rfl
  | u :: us, _, h => by
    obtain ⟨v, ws, rfl, _, h2⟩ := h
    exact congrArg (· + 1) h2.length
theorem Ats.length {H : Hp} : ∀ {us : List T} {vs : List V}, Ats H us vs → vs.length = us.length
  | [], _, h => by rw [show _ = [] from h]; rfl
  | u :: us, _, h => by
    obtain ⟨v, ws, rfl, _, h2⟩ := h
    exact congrArg (· + 1) h2.length
theorem Ns.append {H : Hp} {us' : List T} {vs' : List V} (h' : Ns H us' vs') : ∀ {us : List T} {vs : List V}, Ns H us vs → Ns H (us ++ us') (vs ++ vs')
  | [], _, h => by rw [show _ = [] from h]; exact h'
  | u :: us, _, h => by
    obtain ⟨v, ws, rfl, h1, h2⟩ := h
    exact ⟨v, ws ++ vs', rfl, h1, Ns.append h' h2⟩
theorem Ats.append {H : Hp} {us' : List T} {vs' : List V} (h' : Ats H us' vs') : ∀ {us : List T} {vs : List V}, Ats H us vs → Ats H (us ++ us') (vs ++ vs')
  | [], _, h => by rw [show _ = [] from h]; exact h'
  | u :: us, _, h => by
    obtain ⟨v, ws, rfl, h1, h2⟩ := h
    exact ⟨v, ws ++ vs', rfl, h1, Ats.append h' h2⟩
theorem Ns.get {H : Hp} : ∀ {us : List T} {vs : List V} {i : Nat} {v : V}, Ns H us vs → vs[i]? = some v → ∃ u, us[i]? = some u ∧ Nodes H u [v]
  | [], _, i, v, h, e => by
    rw [show _ = [] from h] at e
    simp at e
  | u :: us, _, 0, v, h, e => by
    obtain ⟨x, ws, rfl, h1, h2⟩ := h
    have : x = v := by simpa using e
    subst this
    exact ⟨u, rfl, h1⟩
  | u :: us, _, i + 1, v, h, e => by
    obtain ⟨x, ws, rfl, h1, h2⟩ := h
    obtain ⟨u', e1, e2⟩ := Ns.get (i := i) h2 (by simpa using e)
    exact ⟨u', by simpa using e1, e2⟩
theorem Ats.get {H : Hp} : ∀ {us : List T} {vs : List V} {i : Nat} {v : V}, Ats H us vs → vs[i]? = some v → ∃ u a, us[i]? = some u ∧ v = .ref a ∧ At H a u
  | [], _, i, v, h, e => by
    rw [show _ = [] from h] at e
    simp at e
  | u :: us, _, 0, v, h, e => by
    obtain ⟨x, ws, rfl, h1, h2⟩ := h
    have : V.ref x = v := by simpa using e
    subst this
    exact ⟨u, x, rfl, rfl, h1⟩
  | u :: us, _, i + 1, v, h, e => by
    obtain ⟨x, ws, rfl, h1, h2⟩ := h
    obtain ⟨u', a, e1, e2⟩ := Ats.get (i := i) h2 (by simpa using e)
    exact ⟨u', a, by simpa using e1, e2⟩
theorem Nodes.ns {H : Hp} : ∀ {t : T} {vs : List V}, Nodes H t vs → Ns H t.nodes vs
  | .nil, _, h => h
  | .text s r, _, h => by
    obtain ⟨p, ws, rfl, hp, hr⟩ := h
    exact ⟨_, ws, rfl, ⟨p, [], rfl, hp, rfl⟩, Nodes.ns hr⟩
  | .shw n r, _, h => by
    obtain ⟨p, ws, rfl, hp, hr⟩ := h
    exact ⟨_, ws, rfl, ⟨p, [], rfl, hp, rfl⟩, Nodes.ns hr⟩
  | .num r, _, h => by
    obtain ⟨p, ws, rfl, hp, hr⟩ := h
    exact ⟨_, ws, rfl, ⟨p, [], rfl, hp, rfl⟩, Nodes.ns hr⟩
  | .cho hd cs o r, _, h => by
    obtain ⟨p, ws, ca, cvs, oa, ovs, rfl, hp, hc, hcs, ho, hos, hr⟩ := h
    exact ⟨_, ws, rfl, ⟨p, [], ca, cvs, oa, ovs, rfl, hp, hc, hcs, ho, hos, rfl⟩, Nodes.ns hr⟩
  | .cas k m r, _, h => by
    obtain ⟨p, ws, ma, mvs, rfl, hp, hm, hms, hr⟩ := h
    exact ⟨_, ws, rfl, ⟨p, [], ma, mvs, rfl, hp, hm, hms, rfl⟩, Nodes.ns hr⟩
theorem Ns.nodes {H : Hp} : ∀ {t : T} {vs : List V}, Ns H t.nodes vs → Nodes H t vs
  | .nil, _, h => h
  | .text s r, _, h => by
    obtain ⟨v, ws, rfl, ⟨p, _, e, hp, _⟩, hr⟩ := h
    cases e
    exact ⟨p, ws, rfl, hp, Ns.nodes hr⟩
  | .shw n r, _, h => by
    obtain ⟨v, ws, rfl, ⟨p, _, e, hp, _⟩, hr⟩ := h
    cases e
    exact ⟨p, ws, rfl, hp, Ns.nodes hr⟩
  | .num r, _, h => by
    obtain ⟨v, ws, rfl, ⟨p, _, e, hp, _⟩, hr⟩ := h
    cases e
    exact ⟨p, ws, rfl, hp, Ns.nodes hr⟩
  | .cho hd cs o r, _, h => by
    obtain ⟨v, ws, rfl, ⟨p, _, ca, cvs, oa, ovs, e, hp, hc, hcs, ho, hos, _⟩, hr⟩ := h
    cases e
    exact ⟨p, ws, ca, cvs, oa, ovs, rfl, hp, hc, hcs, ho, hos, Ns.nodes hr⟩
  | .cas k m r, _, h => by
    obtain ⟨v, ws, rfl, ⟨p, _, ma, mvs, e, hp, hm, hms, _⟩, hr⟩ := h
    cases e
    exact ⟨p, ws, ma, mvs, rfl, hp, hm, hms, Ns.nodes hr⟩
/-- a node of a message: what its tuple begins with -/
theorem node_of {H : Hp} {u : T} {v : V} (h : Nodes H u [v]) (w : Wf u false) : ∃ p x xs, v = .ref p ∧ H p = some (.tup (.str x :: xs)) ∧ u.single ∧
    ((x = "select" ∨ x = "plural") ↔ u.isCho = true) ∧ (x = "text" ↔ u.isText = true) := by
  cases u with
  | nil => cases (show [v] = [] from h)
  | text s r =>
    obtain ⟨p, ws, e, hp, hr⟩ := h
    cases e
    have : r = .nil := by
      have := hr.length
      cases r <;> first | rfl | (simp [T.len] at this)
    exact ⟨p, _, _, rfl, hp, this, by simp [T.isCho]; decide, by simp [T.isText]⟩
  | shw n r =>
    obtain ⟨p, ws, e, hp, hr⟩ := h
    cases e
    have : r = .nil := by
      have := hr.length
      cases r <;> first | rfl | (simp [T.len] at this)
    exact ⟨p, _, _, rfl, hp, this, by simp [T.isCho]; decide, by simp [T.isText]; decide⟩
  | num r =>
    obtain ⟨p, ws, e, hp, hr⟩ := h
    cases e
    have : r = .nil := by
      have := hr.length
      cases r <;> first | rfl | (simp [T.len] at this)
    exact ⟨p, _, _, rfl, hp, this, by simp [T.isCho]; decide, by simp [T.isText]; decide⟩
  | cho hd cs o r =>
    obtain ⟨p, ws, ca, cvs, oa, ovs, e, hp, _, _, _, _, hr⟩ := h
    cases e
    have : r = .nil := by
      have := hr.length
      cases r <;> first | rfl | (simp [T.len] at this)
    rcases w.2.1 with ⟨n, rfl⟩ | ⟨n, off, rfl⟩
    · exact ⟨p, _, _, rfl, hp, this, by simp [T.isCho], by simp [T.isText]; decide⟩
    · exact ⟨p, _, _, rfl, hp, this, by simp [T.isCho], by simp [T.isText]; decide⟩
  | cas k m r => cases w.1
theorem Nodes.msgs {H : Hp} : ∀ {t : T} {vs : List V}, Nodes H t vs → Wf t true → ∃ ms, Ats H t.msgs ms ∧ vs.length = ms.length ∧ ∀ (i : Nat) (v : V), vs[i]? = some v → ∃ (p : Addr) (k : V) (a : Addr), v = V.ref p ∧ H p = some (.tup [k, .ref a]) ∧ ms[i]? = some (V.ref a)
  | .nil, _, h, _ => ⟨[], rfl, by rw [show _ = [] from h], fun i v e => by rw [show _ = [] from h] at e; simp at e⟩
  | .text s r, _, h, w => by cases w.1
  | .shw n r, _, h, w => by cases w.1
  | .num r, _, h, w => by cases w.1
  | .cho hd cs o r, _, h, w => by cases w.1
  | .cas k m r, _, h, w => by
    obtain ⟨p, ws, ma, mvs, rfl, hp, hm, hms, hr⟩ := h
    obtain ⟨ms, h1, h2, h3⟩ := Nodes.msgs hr w.2.2.2
    refine ⟨.ref ma :: ms, ⟨ma, ms, rfl, ⟨mvs, hm, hms⟩, h1⟩, congrArg (· + 1) h2, fun i v e => ?_⟩
    cases i with
    | zero =>
      have : V.ref p = v := by simpa using e
      subst this
      exact ⟨p, k, ma, rfl, hp, rfl⟩
    | succ i =>
      obtain ⟨q, k', a, e1, e2, e3⟩ := h3 i v (by simpa using e)
      exact ⟨q, k', a, e1, e2, by simpa using e3⟩
end Mw

namespace Mw
open PySem L2
theorem atI_m1 {α : Type} (xs : List α) (a b : α) : atI (xs ++ [a, b]) (-1) = some b := by
  rw [show xs ++ [a, b] = (xs ++ [a]) ++ [b] by simp]
  exact atI_last _ _
theorem atI_m2 {α : Type} (xs : List α) (a b : α) : atI (xs ++ [a, b]) (-2) = some a := by
  unfold atI ixN
  have hl : (xs ++ [a, b]).length = xs.length + 2 := by simp
  rw [if_neg (by decide), if_pos (by rw [hl]; omega), hl]
  show (xs ++ [a, b])[((-2 : Int) + ((xs.length + 2 : Nat) : Int)).toNat]? = some a
  rw [show ((-2 : Int) + ((xs.length + 2 : Nat) : Int)).toNat = xs.length by omega]
  rw [List.getElem?_append_right (Nat.le_refl _), Nat.sub_self]
  rfl
section
variable {P : Program} {w : World} {K : PySem.W.Frag} {mg : Str → Option Value} {base : Heap}
theorem in_two (x a b : Str) : inV (.str x) [.str a, .str b] = decide (x = a ∨ x = b) := by
  have h : ∀ c d : Str, (c == d) = decide (d = c) := fun c d => by
    by_cases e : d = c
    · subst e
      simp
    · rw [decide_eq_false e]
      exact beq_eq_false_iff_ne.mpr fun z => e z.symm
  unfold inV
  simp only [List.any_cons, List.any_nil, Bool.or_false, eqV, h]
  exact (Bool.decide_or _ _).symm
/-! ### cases_of, other_of -/
theorem len_sz : ∀ t : T, t.len ≤ t.sz
  | .nil => Nat.le_refl _
  | .text s r => by have := len_sz r; simp only [T.len, T.sz]; omega
  | .shw s r => by have := len_sz r; simp only [T.len, T.sz]; omega
  | .num r => by have := len_sz r; simp only [T.len, T.sz]; omega
  | .cho _ _ _ r => by have := len_sz r; simp only [T.len, T.sz]; omega
  | .cas _ _ r => by have := len_sz r; simp only [T.len, T.sz]; omega
end
end Mw

namespace Mw
open PySem L2
abbrev tl (x : Str) : List Nat := x.cps.toList
def catS (ys : List Str) : Str := ⟨((ys.map tl).flatten).toArray⟩
theorem joinL_nil : ∀ ls : List (List Nat), TL.joinL [] ls = ls.flatten
  | [] => rfl
  | [p] => by simp [TL.joinL]
  | p :: q :: r => by
    show p ++ ([] ++ TL.joinL [] (q :: r)) = _
    rw [joinL_nil (q :: r)]
    simp
theorem join_cat (ys : List Str) : Txt.join ("" : Str) ys = catS ys := by
  rw [TL.join_eq]
  refine TL.ext_tl ?_
  rw [TL.tl_join]
  show TL.joinL [] _ = _
  rw [joinL_nil]
  rfl
theorem cat_add (ys : List Str) (s : Str) : catS (ys ++ [s]) = catS ys ++ s := by
  refine TL.ext_tl ?_
  rw [TL.tl_append]
  show ((ys ++ [s]).map tl).flatten = (ys.map tl).flatten ++ tl s
  simp
theorem cat_nil : catS [] = ("" : Str) := rfl
theorem cat_len (ys : List Str) : (catS ys).length = (ys.map (·.length)).sum := by
  rw [TL.len_tl]
  show ((ys.map tl).flatten).length = _
  rw [List.length_flatten]
  congr 1
  rw [List.map_map]
  exact List.map_congr_left fun s _ => (TL.len_tl s).symm
theorem len_zero {s : Str} : s.length = 0 ↔ s = ("" : Str) := by
  constructor
  · intro h
    refine TL.ext_tl ?_
    rw [TL.len_tl] at h
    exact List.length_eq_zero_iff.mp h
  · rintro rfl
    rfl
/-- a text as a chain: none if it is empty -/
def txt (s : Str) (u : T) : T := if s = ("" : Str) then u else .text s u
/-- texts joined, not within choices -/
def jt (a : List Str) : T → T
  | .nil => txt (catS a) .nil
  | .text s r => jt (a ++ [s]) r
  | .shw n r => txt (catS a) (.shw n (jt [] r))
  | .num r => txt (catS a) (.num (jt [] r))
  | .cho hd cs o r => txt (catS a) (.cho hd cs o (jt [] r))
  | .cas k m r => txt (catS a) (.cas k m (jt [] r))
section
variable {P : Program} {w : World} {K : PySem.W.Frag} {mg : Str → Option Value} {base : Heap}
/-! ### text_nodes -/
abbrev sTn : Stmt := top 6
theorem scTn : FnScope ["strings", "joined"] ["strings"] (defScope sTn) := ⟨rfl, rfl, rfl, by decide +kernel, rfl, by decide +kernel, by decide +kernel⟩
def spTn : Sp := fun vs H Q _ => ∃ (a : Addr) (ys : List Str), vs = [.ref a] ∧ H a = some (.lst (ys.map V.str)) ∧ (ys.map (·.length)).sum < 4900000 ∧ ∀ l H' ws, H l = none → Same H H' → H' l = some (.lst ws) → Nodes H' (txt (catS ys) .nil) ws → ws.length ≤ 1 → Q (.ref l) H'
theorem ok_tn {f : Addr} {fd : FuncData} (F : Fun K "text_nodes" "text_nodes" sTn f fd) : FnOk P w K mg base CX0 1 f fd ["strings"] spTn := by
  refine F.ok scTn (fun vs H Q E h => ?_) (fun cdv A outer s H vs Q E hr h => ?_)
  · obtain ⟨a, ys, rfl, _⟩ := h
    rfl
  obtain ⟨a, ys, rfl, ha, hz, q⟩ := h
  have nd := scTn.nd
  refine ⟨_, pss_cons (ps_set (i := 1) nd rfl (.inl rfl) (pe_join pe_str (pv 0)))
    (pss_one (ps_ret (pe_ifExp (pt_truth (pv 1) (by intro _; rfl)) (pe_lst (pa_cons (pe_tup (pa_cons pe_str (pa_cons (pv 1) pa_nil))) pa_nil)) (pe_lst pa_nil)))), ?_⟩
  refine ⟨⟨_, rfl⟩, _, rfl, _, a, ys, rfl, rfl, .inl (SqL.of ha), ?_, ?_⟩
  · show (ys.map (·.length)).sum + ys.length * 0 ≤ 16777216
    omega
  show ∃ v, _ ∧ _
  refine ⟨_, rfl, _, ⟨?_, rfl⟩, ?_⟩
  · rw [join_cat, cat_len]
    exact le_line (by omega)
  rw [join_cat]
  by_cases e : catS ys = ("" : Str)
  · have e0 : (((catS ys).length : Int) != 0) = false := by
      rw [len_zero.mpr e]
      rfl
    rw [e0]
    refine iteF ⟨Nat.zero_le _, fun l hl => ?_⟩
    refine q l _ [] hl (same_new hl _) upd_same ?_ (Nat.zero_le _)
    unfold txt
    rw [if_pos e]
    exact rfl
  · have e0 : (((catS ys).length : Int) != 0) = true := by
      have : (catS ys).length ≠ 0 := fun z => e (len_zero.mp z)
      exact bne_iff_ne.mpr (by omega)
    rw [e0]
    refine iteT ⟨_, rfl, by show 2 ≤ sizeLine; decide, fun p hp => ⟨by show 1 ≤ sizeLine; decide, fun l hl => ?_⟩⟩
    have s1 : Same H (upd H p (.tup [.str "text", .str (catS ys)])) := same_new hp _
    refine q l _ [.ref p] (s1.free hl) (s1.trans (same_new hl _)) upd_same ?_ (Nat.le_refl _)
    unfold txt
    rw [if_neg e]
    exact ⟨p, [], rfl, by rw [upd_ne (ne_of_none upd_same hl)]; exact upd_same, rfl⟩
end
end Mw

namespace Mw
open PySem L2
/-- the old heap, and new tuples -/
def mix (H H1 : Hp) : Hp := fun a => match H a with
  | some o => some o
  | none => match H1 a with
    | some (.tup xs) => some (.tup xs)
    | _ => none
theorem mix_old {H H1 : Hp} : Same H (mix H H1) := fun a o h => by
  unfold mix
  rw [h]
theorem mix_new {H H1 : Hp} {p : Addr} {xs : List V} (s : Same H H1) (h : H1 p = some (.tup xs)) : mix H H1 p = some (.tup xs) := by
  unfold mix
  cases e : H p with
  | none =>
    simp only
    rw [h]
  | some o =>
    simp only
    rw [s _ _ e] at h
    exact h
theorem mix_in {H H1 : Hp} {a : Addr} {o : HO} (h : mix H H1 a = some o) : H a = some o ∨ (H a = none ∧ ∃ xs, o = .tup xs ∧ H1 a = some (.tup xs)) := by
  unfold mix at h
  cases e : H a with
  | some o' =>
    rw [e] at h
    exact .inl h
  | none =>
    rw [e] at h
    simp only at h
    split at h
    · cases h
      exact .inr ⟨rfl, _, rfl, by assumption⟩
    · cases h
theorem mix_same {H H1 H2 : Hp} (s : Same H1 H2) : Same (mix H H1) (mix H H2) := fun a o h => by
  rcases mix_in h with k | ⟨h0, xs, rfl, k⟩
  · exact mix_old _ _ k
  · unfold mix
    rw [h0]
    simp only
    rw [s _ _ k]
theorem mix_mut {H H1 : Hp} {l : Addr} {xs ys : List V} (hl : H1 l = some (.lst xs)) : Same (mix H H1) (mix H (upd H1 l (.lst ys))) := fun a o h => by
  rcases mix_in h with k | ⟨h0, zs, rfl, k⟩
  · exact mix_old _ _ k
  · unfold mix
    rw [h0]
    simp only
    rw [upd_ne (by rintro rfl; rw [hl] at k; cases k), k]
theorem mix_out {H H1 : Hp} (s : Same H H1) : Same (mix H H1) H1 := fun a o h => by
  rcases mix_in h with k | ⟨h0, xs, rfl, k⟩
  · exact s _ _ k
  · exact k
theorem mix_txt {H H1 : Hp} {x : Str} {ws : List V} (s : Same H H1) (h : Nodes H1 (txt x .nil) ws) : Nodes (mix H H1) (txt x .nil) ws := by
  unfold txt at *
  split at h
  · rename_i e
    rw [if_pos e]
    exact h
  · rename_i e
    rw [if_neg e]
    obtain ⟨p, ws', rfl, hp, hr⟩ := h
    exact ⟨p, ws', rfl, mix_new s hp, hr⟩
/-- nodes one behind the other -/
def ch : List T → T
  | [] => .nil
  | u :: us => u.app (ch us)
theorem ch_nodes : ∀ t : T, ch t.nodes = t
  | .nil => rfl
  | .text s r => congrArg (T.text s) (ch_nodes r)
  | .shw s r => congrArg (T.shw s) (ch_nodes r)
  | .num r => congrArg T.num (ch_nodes r)
  | .cho hd cs o r => congrArg (T.cho hd cs o) (ch_nodes r)
  | .cas k m r => congrArg (T.cas k m) (ch_nodes r)
theorem app_nil : ∀ t : T, t.app .nil = t
  | .nil => rfl
  | .text s r => congrArg (T.text s) (app_nil r)
  | .shw s r => congrArg (T.shw s) (app_nil r)
  | .num r => congrArg T.num (app_nil r)
  | .cho hd cs o r => congrArg (T.cho hd cs o) (app_nil r)
  | .cas k m r => congrArg (T.cas k m) (app_nil r)
theorem app_assoc (u v : T) : ∀ t : T, (t.app u).app v = t.app (u.app v)
  | .nil => rfl
  | .text s r => congrArg (T.text s) (app_assoc u v r)
  | .shw s r => congrArg (T.shw s) (app_assoc u v r)
  | .num r => congrArg T.num (app_assoc u v r)
  | .cho hd cs o r => congrArg (T.cho hd cs o) (app_assoc u v r)
  | .cas k m r => congrArg (T.cas k m) (app_assoc u v r)
theorem txt_app (s : Str) (u v : T) : (txt s u).app v = txt s (u.app v) := by
  unfold txt
  split <;> rfl
theorem txt_nil (s : Str) (v : T) : (txt s .nil).app v = txt s v := txt_app s .nil v
theorem nodes_wf : ∀ {t : T} {c : Bool}, Wf t c → ∀ u ∈ t.nodes, Wf u c
  | .nil, _, _, u, h => by cases h
  | .text s r, _, w, u, h => by
    rcases List.mem_cons.mp h with rfl | h
    · exact ⟨w.1, trivial⟩
    · exact nodes_wf w.2 u h
  | .shw s r, _, w, u, h => by
    rcases List.mem_cons.mp h with rfl | h
    · exact ⟨w.1, trivial⟩
    · exact nodes_wf w.2 u h
  | .num r, _, w, u, h => by
    rcases List.mem_cons.mp h with rfl | h
    · exact ⟨w.1, trivial⟩
    · exact nodes_wf w.2 u h
  | .cho hd cs o r, _, w, u, h => by
    rcases List.mem_cons.mp h with rfl | h
    · exact ⟨w.1, w.2.1, w.2.2.1, w.2.2.2.1, trivial⟩
    · exact nodes_wf w.2.2.2.2 u h
  | .cas k m r, _, w, u, h => by
    rcases List.mem_cons.mp h with rfl | h
    · exact ⟨w.1, w.2.1, w.2.2.1, trivial⟩
    · exact nodes_wf w.2.2.2 u h
/-- the joining at one node -/
theorem jt_one (ss : List Str) {u : T} (w : Wf u false) (hs : u.single) (hu : u.isText = false) (r : T) : jt ss (u.app r) = (txt (catS ss) .nil).app (u.app (jt [] r)) := by
  rw [txt_nil]
  cases u with
  | nil => cases hs
  | text s r' => cases hu
  | shw n r' => cases (show r' = .nil from hs); rfl
  | num r' => cases (show r' = .nil from hs); rfl
  | cho hd cs o r' => cases (show r' = .nil from hs); rfl
  | cas k m r' => cases w.1
section
variable {P : Program} {w : World} {K : PySem.W.Frag} {mg : Str → Option Value} {base : Heap}
/-! ### joined_texts -/
abbrev sJt : Stmt := top 7
theorem scJt : FnScope ["message", "nodes", "strings", "node"] ["message"] (defScope sJt) := ⟨rfl, rfl, rfl, by decide +kernel, rfl, by decide +kernel, by decide +kernel⟩
def spJt : Sp := fun vs H Q _ => ∃ (a : Addr) (H0 : Hp) (t : T), vs = [.ref a] ∧ Same H0 H ∧ At H0 a t ∧ Wf t false ∧ t.sz < 4900000 ∧ ∀ l H' ws, H l = none → Same H H' → H' l = some (.lst ws) → Nodes (mix H0 H') (jt [] t) ws → Q (.ref l) H'
theorem ok_jt {f fT : Addr} {fd fdT : FuncData} (F : Fun K "joined_texts" "joined_texts" sJt f fd) (GT : FnOk P w K mg base CX0 1 fT fdT ["strings"] spTn) (bT : Binds K fdT ["strings"] []) (kT : PySem.W.keepIn K (.ref fT) = true) (mT : mg "text_nodes" = some (.ref fT)) :
    FnOk P w K mg base CX0 2 f fd ["message"] spJt := by
  refine F.ok scJt (fun vs H Q E h => ?_) (fun cdv A outer s H vs Q E hr h => ?_)
  · obtain ⟨a, H0, t, rfl, _⟩ := h
    rfl
  obtain ⟨a, H0, t, rfl, h0, ⟨vs, ha, hn⟩, hw, hz, q⟩ := h
  have nd := scJt.nd
  refine ⟨_, pss_cons (ps_set (i := 1) nd rfl (.inl rfl) (pe_lst pa_nil)) (pss_cons (ps_set (i := 2) nd rfl (.inl rfl) (pe_lst pa_nil))
    (pss_cons (ps_for PassesOwn.never rfl (pi_list (pv 0)) (pg_name (i := 3) nd rfl (.inl rfl))
      (pss_one (ps_if (pt_cmpR op_eq (pe_ix ix_tup (pv 3) pe_int (fun _ _ => rfl)) pe_str (nomark _))
        (pss_one (ps_expr (pe_bm PySem.F.plainAttrs_list PySem.F.slot_list_append PySem.F.type_list_append mt_append (pv 2) (pa_cons (pe_ix ix_tup (pv 3) pe_int (fun _ _ => rfl)) pa_nil))))
        (pss_cons (ps_expr (pe_bm PySem.F.plainAttrs_list PySem.F.slot_list_extend PySem.F.type_list_extend mt_extend (pv 1) (pa_cons (pe_call GT hr rfl mT kT bT .nil pass0 (pa_cons (pv 2) pa_nil)) pa_nil)))
        (pss_cons (ps_set (i := 2) nd rfl (.inl rfl) (pe_lst pa_nil))
        (pss_one (ps_expr (pe_bm PySem.F.plainAttrs_list PySem.F.slot_list_append PySem.F.type_list_append mt_append (pv 1) (pa_cons (pv 3) pa_nil)))))))))
    (pss_one (ps_ret (pe_op op_cat (pv 1) (pe_call GT hr rfl mT kT bT .nil pass0 (pa_cons (pv 2) pa_nil))))))), ?_⟩
  refine ⟨Nat.zero_le _, fun nl hnl => ⟨Nat.zero_le _, fun sl hsl => ?_⟩⟩
  have s1 : Same H (upd H nl (.lst [])) := same_new hnl _
  have s2 : Same H (upd (upd H nl (.lst [])) sl (.lst [])) := s1.trans (same_new hsl _)
  have hlen : vs.length < 4900000 := by
    rw [hn.length]
    exact Nat.lt_of_le_of_lt (len_sz t) hz
  have hns := hn.ns
  refine ⟨_, rfl, a, rfl, ⟨_, SqL.of (s2 _ _ (h0 _ _ ha))⟩, for_list (K := K) (a := a) (xs := vs) (fun i σ H' => ∃ (sl : Addr) (o3 : Option V) (ss : List Str) (ws : List V) (done : T), σ = [some (.ref a), some (.ref nl), some (.ref sl), o3] ∧ Same H H' ∧ H sl = none ∧ sl ≠ nl ∧ H' sl = some (.lst (ss.map V.str)) ∧ H' nl = some (.lst ws) ∧ Nodes (mix H0 H') done ws ∧ jt [] t = done.app (jt ss (ch (t.nodes.drop i))) ∧ (ss.map (·.length)).sum + ss.length + (ch (t.nodes.drop i)).sz ≤ t.sz ∧ ws.length ≤ 2 * i)
    ⟨sl, none, [], [], .nil, rfl, s2, upd_none hsl, (fun e => by rw [e, upd_same] at hsl; cases hsl), upd_same, (by rw [upd_ne (ne_of_none upd_same hsl)]; exact upd_same), rfl, (by rw [List.drop_zero, ch_nodes]; rfl), (by rw [List.drop_zero, ch_nodes]; exact Nat.le_of_eq (Nat.zero_add _)), Nat.le_refl _⟩
    (fun i σ H' _ ⟨_, _, _, _, _, _, s', _⟩ => SqL.of (s' _ _ (h0 _ _ ha))) ?_ ?_⟩
  · rintro i x σ H' hx ⟨sl, o3, ss, ws, done, rfl, s', hs0, hsn, hs, hw', hd, hj, hsz, hwl⟩
    obtain ⟨u, hu, hun⟩ := hns.get hx
    have hi : i < vs.length := (List.getElem?_eq_some_iff.mp hx).1
    have uw : Wf u false := nodes_wf hw u (List.mem_of_getElem? hu)
    obtain ⟨p, y, ys, rfl, hp, hsg, _, htx⟩ := node_of hun uw
    have hdrop : t.nodes.drop i = u :: t.nodes.drop (i + 1) := by
      have e := List.getElem?_eq_some_iff.mp hu
      rw [List.drop_eq_getElem_cons e.1, e.2]
    rw [hdrop] at hj hsz
    have hsz' : (ss.map (·.length)).sum + ss.length + (u.sz + (ch (t.nodes.drop (i + 1))).sz) ≤ t.sz := by
      have := hsz
      rw [show ch (u :: t.nodes.drop (i + 1)) = u.app (ch (t.nodes.drop (i + 1))) from rfl, T.app_sz] at this
      exact this
    refine ⟨_, rfl, p, _, 0, .str y, rfl, rfl, .inl (.inl (s' _ _ (h0 _ _ hp))), atI_nat (j := 0) rfl, rfl, _, rfl, ite2 (fun c => ?_) (fun c => ?_)⟩
    · have ht := htx.mp (str_eq (of_decide_eq_true c))
      cases u with
      | text st r =>
        cases (show r = .nil from hsg)
        obtain ⟨p', _, e, hp', _⟩ := hun
        cases e
        refine ⟨_, rfl, .inl ⟨rfl, _, SqL.of hs⟩, _, rfl, p, _, 1, .str st, rfl, rfl, .inl (.inl (s' _ _ (h0 _ _ hp'))), atI_nat (j := 1) rfl, sl, _, _, rfl, rfl, hs, ?_, ?_⟩
        · rw [List.length_map]
          exact sz_line (by omega)
        · refine ⟨sl, _, ss ++ [st], ws, done, rfl, same_mut s' hs0 _, hs0, hsn, ?_, ?_, Nodes.same (mix_mut hs) hd, hj, ?_, by omega⟩
          · rw [upd_same, List.map_append]
            rfl
          · rw [upd_ne hsn.symm]
            exact hw'
          · rw [List.map_append, List.sum_append, List.length_append]
            simp only [T.sz] at hsz'
            simp only [List.map_cons, List.map_nil, List.sum_cons, List.sum_nil, List.length_singleton]
            omega
      | _ => cases ht
    · have ht : u.isText = false := by
        cases e : u.isText with
        | false => rfl
        | true =>
          refine absurd ?_ c
          rw [htx.mpr e]
          exact decide_eq_true rfl
      have hwb : ws.length < 9900000 := by omega
      refine ⟨_, rfl, .inl ⟨rfl, _, SqL.of hw'⟩, _, rfl, sl, ss, rfl, hs, by omega, fun l H2 xs hl s3 hl2 hx2 hx1 => ?_⟩
      refine ⟨nl, l, ws, xs, rfl, rfl, s3 _ _ hw', hl2, le_line (by omega), Nat.zero_le _, fun sl' hsl' => ?_⟩
      have hHl : H l = none := s'.free hl
      have s4 : Same H H2 := s'.trans s3
      have hnl0 : H nl = none := hnl
      have s5 : Same H (upd H2 nl (.lst (ws ++ xs))) := same_mut s4 hnl0 _
      have s6 : Same H (upd (upd H2 nl (.lst (ws ++ xs))) sl' (.lst [])) := s5.trans (same_new hsl' _)
      have hsn' : sl' ≠ nl := fun e => by rw [e, upd_same] at hsl'; cases hsl'
      have hn6 : upd (upd H2 nl (.lst (ws ++ xs))) sl' (.lst []) nl = some (.lst (ws ++ xs)) := by rw [upd_ne hsn'.symm]; exact upd_same
      refine ⟨_, rfl, .inl ⟨rfl, _, SqL.of hn6⟩, _, rfl, nl, _, _, rfl, rfl, hn6, sz_line (by rw [List.length_append]; omega), ?_⟩
      refine ⟨sl', _, [], ws ++ xs ++ [.ref p], (done.app (txt (catS ss) .nil)).app u, rfl, same_mut s6 hnl0 _, s5.free hsl', hsn', ?_, upd_same, ?_, ?_, ?_, ?_⟩
      · rw [upd_ne hsn']
        exact upd_same
      · have d1 : Nodes (mix H0 H2) done ws := Nodes.same (mix_same s3) hd
        have d2 : Nodes (mix H0 H2) (txt (catS ss) .nil) xs := mix_txt (h0.trans s4) hx2
        have d3 : Nodes (mix H0 H2) u [.ref p] := Nodes.same mix_old hun
        have d4 := Nodes.app d3 (Nodes.app d2 d1)
        exact Nodes.same (mix_mut hn6) (Nodes.same (mix_same (same_new hsl' _)) (Nodes.same (mix_mut (s3 _ _ hw')) d4))
      · rw [hj, show ch (u :: t.nodes.drop (i + 1)) = u.app (ch (t.nodes.drop (i + 1))) from rfl, jt_one ss uw hsg ht]
        rw [app_assoc, app_assoc]
      · simp only [List.map_nil, List.sum_nil, List.length_nil]
        omega
      · rw [List.length_append, List.length_append, List.length_singleton]
        omega
  · rintro σ H' ⟨sl, o3, ss, ws, done, rfl, s', hs0, hsn, hs, hw', hd, hj, hsz, hwl⟩
    refine ⟨_, rfl, _, rfl, sl, ss, rfl, hs, by omega, fun l H2 xs hl s3 hl2 hx2 hx1 => ?_⟩
    have s4 : Same H H2 := s'.trans s3
    refine ⟨nl, l, ws, xs, rfl, rfl, s3 _ _ hw', hl2, le_line (by omega), fun r hr => ?_⟩
    refine q r _ (ws ++ xs) (s4.free hr) (s4.trans (same_new hr _)) upd_same ?_
    have e : t.nodes.drop vs.length = [] := by
      rw [hns.length]
      exact List.drop_length
    rw [e] at hj
    rw [hj]
    exact Nodes.same (mix_same (same_new hr _)) (Nodes.app (mix_txt (h0.trans s4) hx2) (Nodes.same (mix_same s3) hd))
end
end Mw

/-! d.get(key, other), d a dict that the module wrote -/
namespace Kg
open PySem PySem.Spec PyProof.Rows L2
def tKGet (K : PySem.W.Frag) (d : Addr) (td ty tx : TE) : TE := fun σ H Q => td σ H fun x H1 => x = .ref d ∧ ty σ H1 fun y H2 => tx σ H2 fun z H3 => ∃ (t : Str) (r : Option Value) (v : V), y = .str t ∧ PySem.W.nsIn K d t = some r ∧ (∀ u, r = some u → RelV v u) ∧ Q (if r.isSome then v else z) H3
section
variable {X : Cx} {o e f : Expr} {apos cpos : Pos} {td ty tx : TE} {d : Addr} {es : Array DictEntry} {n : Nat}
theorem pe_kget (D : KDict X.K X.w d es n) (ho : PE X o td) (he : PE X e ty) (hf : PE X f tx) (m : M2 X o "get" apos e f cpos) : PE X (.Call (.Attribute o "get" apos) [e, f] [] cpos) (tKGet X.K d td ty tx) := by
  refine ⟨fun pins s σ H Q I h => ?_⟩
  refine wpAny_Call_method m.base m.few m.line PySem.F.plainAttrs_dict PySem.F.slot_dict_get PySem.F.type_dict_get (thn (ho.run pins s σ H _ I h) fun u s1 ⟨x, H1, I1, rx, ex, q1⟩ => ?_)
  subst ex
  obtain rfl : u = Value.ref d := rx
  have M1 := PySem.W.mapOf_K (prog := X.prog) (w := X.w) I1.kIn D.at_ D.lit
  have hob : s1.heap.get? d = some (⟨.type "dict", none, .dict es n, #[]⟩ : Obj) := I1.kIn _ _ D.at_
  refine ⟨M1.typeIs, fun b q => by cases q; exact ⟨_, hob, rfl⟩, ?_⟩
  rw [m.trees]
  refine Calls.callWith_builtin rfl (Calls.evalArgs_plain (Calls.spliced_cons (thn (he.run pins s1 σ H1 _ I1 q1) fun iv s2 ⟨y, H2, I2, ry, q2⟩ =>
    Calls.spliced_cons (thn (hf.run pins s2 σ H2 _ I2 q2) fun fv s3 ⟨z, H3, I3, rz, t, r, v, ey, en, rv, q3⟩ => Calls.spliced_nil ?_))))
  subst ey
  obtain ⟨tk, rfl⟩ := ry
  have M3 := PySem.W.mapOf_K (prog := X.prog) (w := X.w) I3.kIn D.at_ D.lit
  refine call_meetsIn PySem.F.slot_dict_get M3.typeIs PySem.F.entry_dict_get (PySem.F.args_dict_get_3 _ _ _) (meets_dict_get_default (strKind X.prog X.w) d (PySem.strKind_is X.prog X.w t tk) D.low fv) ⟨_, M3, ?_⟩
  rw [PySem.W.find_K D.at_ en]
  cases r with
  | none => exact ⟨z, H3, I3.tok _, rz, q3⟩
  | some u => exact ⟨v, H3, I3.tok _, rv u rfl, q3⟩
end
end Kg

namespace Mw
open PySem L2
/-! ### a text's notation -/
def escC (c : Nat) : List Nat := if c = 39 then [39, 39] else if c = 123 then [39, 123, 39] else if c = 125 then [39, 125, 39] else if c = 35 then [39, 35, 39] else [c]
def escL (l : List Nat) : List Nat := l.flatMap escC
def mkS (l : List Nat) : Str := ⟨l.toArray⟩
theorem tl_mk (l : List Nat) : tl (mkS l) = l := rfl
theorem mk_tl (s : Str) : mkS (tl s) = s := rfl
theorem mk_app (a b : List Nat) : mkS a ++ mkS b = mkS (a ++ b) := by
  refine TL.ext_tl ?_
  rw [TL.tl_append]
  rfl
theorem mk_len (l : List Nat) : (mkS l).length = l.length := by
  show l.toArray.size = _
  exact List.size_toArray
theorem s_mk (s : Str) : s = mkS (tl s) := rfl
theorem app_mk (s t : Str) : s ++ t = mkS (tl s ++ tl t) := mk_app (tl s) (tl t)
theorem len_tl' (s : Str) : s.length = (tl s).length := by
  show s.cps.size = s.cps.toList.length
  simp
theorem escC_len (c : Nat) : (escC c).length ≤ 3 := by
  unfold escC
  split <;> try simp
  split <;> try simp
  split <;> try simp
  split <;> simp
theorem escL_len : ∀ l : List Nat, (escL l).length ≤ 3 * l.length
  | [] => Nat.le_refl _
  | c :: r => by
    have h1 := escC_len c
    have h2 := escL_len r
    show ((escC c ++ escL r).length) ≤ 3 * (r.length + 1)
    rw [List.length_append]
    omega
/-- what the row says of the escapes -/
structure EA (K : PySem.W.Frag) (mg : Str → Option Value) (w : World) (ed : Addr) (es : Array DictEntry) (n : Nat) : Prop where
  g : mg "ESCAPES" = some (.ref ed)
  d : KDict K w ed es n
  is : ∀ c : Nat, ∃ r : Option Value, PySem.W.nsIn K ed ⟨#[c]⟩ = some r ∧ (∀ u, r = some u → RelV (.str (mkS (escC c))) u) ∧ (r = none → escC c = [c])
section
variable {P : Program} {w : World} {K : PySem.W.Frag} {mg : Str → Option Value} {base : Heap}
def spEsc : Sp := fun vs H Q _ => ∃ s : Str, vs = [.str s] ∧ s.length ≤ 10000 ∧ ∀ H', Same H H' → Q (.str (mkS (escL (tl s)))) H'
end
end Mw

namespace Mw
open PySem L2
/-! ### a message's notation -/
def keyL : V → List Nat
  | .str s => tl s
  | .int i => 61 :: tl (toString i : Str)
  | _ => []
def hdL : List V → List Nat
  | [.str x, .str n] => tl "{" ++ tl n ++ tl ", " ++ tl x ++ tl ", "
  | [.str x, .str n, .int off] => tl "{" ++ tl n ++ tl ", " ++ tl x ++ tl ", " ++ (if off = 0 then [] else tl "offset:" ++ tl (toString off : Str) ++ tl " ")
  | _ => []
def T.wr : T → List Nat
  | .nil => []
  | .text s r => escL (tl s) ++ r.wr
  | .shw n r => tl "{" ++ tl n ++ tl "}" ++ r.wr
  | .num r => tl "#" ++ r.wr
  | .cho hd cs o r => hdL hd ++ cs.wr ++ tl "other {" ++ o.wr ++ tl "}}" ++ r.wr
  | .cas k m r => keyL k ++ tl " {" ++ m.wr ++ tl "} " ++ r.wr
/-- small leaves, all the way down -/
def KeyS (k : V) : Prop := (∃ s : Str, k = .str s ∧ s.length ≤ 20) ∨ ∃ i : Int, k = .int i ∧ 0 ≤ i ∧ i ≤ 999
def HdS (hd : List V) : Prop := (∃ n : Str, hd = [.str "select", .str n] ∧ n.length ≤ 20) ∨ ∃ (n : Str) (off : Int), hd = [.str "plural", .str n, .int off] ∧ n.length ≤ 20 ∧ 0 ≤ off ∧ off ≤ 9
def Sm : T → Prop
  | .nil => True
  | .text s r => s.length ≤ 10000 ∧ Sm r
  | .shw n r => n.length ≤ 20 ∧ Sm r
  | .num r => Sm r
  | .cho hd cs o r => HdS hd ∧ Sm cs ∧ Sm o ∧ Sm r
  | .cas k m r => KeyS k ∧ Sm m ∧ Sm r
/-- what waits to be written -/
inductive Pt where
  | s (x : Str)
  | n (u : T)
  | m (t : T)
def Pt.wr : Pt → List Nat
  | .s x => tl x
  | .n u => u.wr
  | .m t => t.wr
def Pt.wt : Pt → Nat
  | .s _ => 1
  | .n u => 6 * u.sz
  | .m t => 6 * t.sz + 1
def Pt.at (H : Hp) : Pt → V → Prop
  | .s x, v => v = .str x ∧ x.length ≤ 100000
  | .n u, v => Nodes H u [v] ∧ Wf u false ∧ Sm u
  | .m t, v => ∃ a, v = .ref a ∧ At H a t ∧ Wf t false ∧ Sm t
def Pts (H : Hp) : List Pt → List V → Prop
  | [], vs => vs = []
  | p :: ps, vs => ∃ v ws, vs = v :: ws ∧ p.at H v ∧ Pts H ps ws
theorem Pt.same {H H' : Hp} (s : Same H H') : ∀ {p : Pt} {v : V}, p.at H v → p.at H' v
  | .s _, _, h => h
  | .n _, _, h => ⟨Nodes.same s h.1, h.2⟩
  | .m _, _, h => by
    obtain ⟨a, e, h1, h2⟩ := h
    exact ⟨a, e, h1.same s, h2⟩
theorem Pts.same {H H' : Hp} (s : Same H H') : ∀ {ps : List Pt} {vs : List V}, Pts H ps vs → Pts H' ps vs
  | [], _, h => h
  | p :: ps, _, h => by
    obtain ⟨v, ws, rfl, h1, h2⟩ := h
    exact ⟨v, ws, rfl, Pt.same s h1, Pts.same s h2⟩
theorem Pts.app {H : Hp} {qs : List Pt} {us : List V} (hu : Pts H qs us) : ∀ {ps : List Pt} {vs : List V}, Pts H ps vs → Pts H (ps ++ qs) (vs ++ us)
  | [], _, h => by
    rw [show _ = [] from h]
    exact hu
  | p :: ps, _, h => by
    obtain ⟨v, ws, rfl, h1, h2⟩ := h
    exact ⟨v, ws ++ us, rfl, h1, Pts.app hu h2⟩
theorem Pts.length {H : Hp} : ∀ {ps : List Pt} {vs : List V}, Pts H ps vs → vs.length = ps.length
  | [], _, h => by
    rw [show _ = [] from h]
    rfl
  | p :: ps, _, h => by
    obtain ⟨v, ws, rfl, h1, h2⟩ := h
    exact congrArg (· + 1) h2.length
def Pw (ps : List Pt) : List Nat := ps.flatMap Pt.wr
def Pm (ps : List Pt) : Nat := (ps.map Pt.wt).sum
theorem Pw_app (a b : List Pt) : Pw (a ++ b) = Pw a ++ Pw b := by simp [Pw]
theorem Pm_app (a b : List Pt) : Pm (a ++ b) = Pm a + Pm b := by simp [Pm]
/-- the parts of a choice -/
def offP : List V → List Pt
  | [_, _, .int off] => if off = 0 then [] else [.s (mkS (tl "offset:" ++ tl (toString off : Str) ++ tl " "))]
  | _ => []
def h1P : List V → List Nat
  | .str x :: .str n :: _ => tl "{" ++ tl n ++ tl ", " ++ tl x ++ tl ", "
  | _ => []
def casP : T → List Pt
  | .cas k m r => [.s (mkS (keyL k ++ tl " {")), .m m, .s "} "] ++ casP r
  | _ => []
def chP (hd : List V) (cs o : T) : List Pt := [.s (mkS (h1P hd))] ++ offP hd ++ casP cs ++ [.s "other {", .m o, .s "}}"]
theorem casP_wr : ∀ {cs : T}, Wf cs true → Pw (casP cs) = cs.wr
  | .nil, _ => rfl
  | .text s r, h => by cases h.1
  | .shw s r, h => by cases h.1
  | .num r, h => by cases h.1
  | .cho hd cs o r, h => by cases h.1
  | .cas k m r, h => by
    rw [casP, Pw_app, casP_wr h.2.2.2]
    simp [Pw, Pt.wr, T.wr, tl_mk]
theorem casP_wt : ∀ {cs : T}, Wf cs true → Pm (casP cs) ≤ 6 * cs.sz
  | .nil, _ => Nat.zero_le _
  | .text s r, h => by cases h.1
  | .shw s r, h => by cases h.1
  | .num r, h => by cases h.1
  | .cho hd cs o r, h => by cases h.1
  | .cas k m r, h => by
    have ih := casP_wt h.2.2.2
    rw [casP, Pm_app]
    simp only [Pm, List.map_cons, List.map_nil, List.sum_cons, List.sum_nil, Pt.wt, T.sz] at ih ⊢
    omega
theorem chP_wr {hd : List V} {cs o : T} (hh : HdW hd) (hc : Wf cs true) : Pw (chP hd cs o) = (T.cho hd cs o .nil).wr := by
  unfold chP
  rw [Pw_app, Pw_app, Pw_app, casP_wr hc]
  rcases hh with ⟨n, rfl⟩ | ⟨n, off, rfl⟩
  · simp [Pw, Pt.wr, T.wr, hdL, h1P, offP, tl_mk]
  · by_cases e : off = 0
    · simp [Pw, Pt.wr, T.wr, hdL, h1P, offP, tl_mk, e]
    · simp [Pw, Pt.wr, T.wr, hdL, h1P, offP, tl_mk, e]
theorem chP_wt {hd : List V} {cs o : T} (hc : Wf cs true) : Pm (chP hd cs o) < 6 * (T.cho hd cs o .nil).sz := by
  have h1 := casP_wt hc
  have h2 : Pm (offP hd) ≤ 1 := by
    unfold offP
    split
    · split <;> simp [Pm, Pt.wt]
    · simp [Pm]
  unfold chP
  rw [Pm_app, Pm_app, Pm_app]
  simp only [Pm, List.map_cons, List.map_nil, List.sum_cons, List.sum_nil, Pt.wt, T.sz] at h1 h2 ⊢
  omega
end Mw

namespace Mw
open PySem L2
theorem str_is (l : List Nat) (s : Str) (h : tl s = l) : s = mkS l := TL.ext_tl h
theorem show_len {i : Int} (h0 : 0 ≤ i) (h1 : i ≤ 999) : (toString i : Str).length ≤ 4 ∧ i.natAbs.log2 < 1920 := by
  have a : ∀ n : Fin 1000, (toString ((n.val : Nat) : Int) : Str).length ≤ 4 := by decide +kernel
  have e : i = ((i.toNat : Nat) : Int) := by omega
  have h := a ⟨i.toNat, by omega⟩
  refine ⟨by rw [e]; exact h, ?_⟩
  have h2 : i.natAbs < 2 ^ 10 := by
    have : i.natAbs ≤ 999 := by omega
    omega
  by_cases z : i.natAbs = 0
  · rw [z]
    decide
  · exact Nat.lt_of_lt_of_le ((Nat.log2_lt z).mpr h2) (by decide)
section
variable {P : Program} {w : World} {K : PySem.W.Frag} {mg : Str → Option Value} {base : Heap}
def spKey : Sp := fun vs H Q _ => ∃ k : V, vs = [k] ∧ KeyS k ∧ ∀ H', Same H H' → Q (.str (mkS (keyL k))) H'
end
end Mw

namespace Mw
open PySem L2
theorem sl (a b : Str) : (a ++ b).length = a.length + b.length := by
  rw [app_mk, mk_len, List.length_append, ← len_tl', ← len_tl']
theorem Pts.one {H : Hp} {x : Str} (h : x.length ≤ 100000) : Pts H [.s x] [.str x] := ⟨_, [], rfl, ⟨rfl, h⟩, rfl⟩
theorem casP_len : ∀ {cs : T}, Wf cs true → (casP cs).length ≤ 3 * cs.sz
  | .nil, _ => Nat.zero_le _
  | .text s r, h => by cases h.1
  | .shw s r, h => by cases h.1
  | .num r, h => by cases h.1
  | .cho hd cs o r, h => by cases h.1
  | .cas k m r, h => by
    have ih := casP_len h.2.2.2
    rw [casP, List.length_append]
    simp only [List.length_cons, List.length_nil, T.sz]
    omega
theorem casP_app (k : V) (m u : T) : ∀ {t : T}, Wf t true → casP (t.app (.cas k m u)) = casP t ++ casP (.cas k m u)
  | .nil, _ => rfl
  | .text s r, h => by cases h.1
  | .shw s r, h => by cases h.1
  | .num r, h => by cases h.1
  | .cho hd cs o r, h => by cases h.1
  | .cas k' m' r, h => by
    show casP (.cas k' m' (r.app _)) = _
    rw [casP, casP_app k m u h.2.2.2]
    simp [casP]
/-- the cases one by one -/
theorem cas_ix {H : Hp} : ∀ {cs : T} {cvs : List V}, Nodes H cs cvs → Wf cs true → Sm cs → ∃ ks : List (V × T), ks.length = cvs.length ∧ casP cs = ks.flatMap (fun q => [.s (mkS (keyL q.1 ++ tl " {")), .m q.2, .s "} "]) ∧
    ∀ (i : Nat) (v : V), cvs[i]? = some v → ∃ (q : V × T) (a b : Addr), ks[i]? = some q ∧ v = .ref a ∧ H a = some (.tup [q.1, .ref b]) ∧ At H b q.2 ∧ Wf q.2 false ∧ Sm q.2 ∧ KeyS q.1
  | .nil, _, h, _, _ => ⟨[], by rw [show _ = [] from h]; rfl, rfl, fun i v e => by rw [show _ = [] from h] at e; simp at e⟩
  | .text s r, _, _, w, _ => by cases w.1
  | .shw s r, _, _, w, _ => by cases w.1
  | .num r, _, _, w, _ => by cases w.1
  | .cho hd cs o r, _, _, w, _ => by cases w.1
  | .cas k m r, _, h, w, s => by
    obtain ⟨p, ws, ma, mvs, rfl, hp, hm, hms, hr⟩ := h
    obtain ⟨ks, e1, e2, e3⟩ := cas_ix hr w.2.2.2 s.2.2
    refine ⟨(k, m) :: ks, congrArg (· + 1) e1, ?_, fun i v e => ?_⟩
    · rw [casP, e2]
      rfl
    · cases i with
      | zero =>
        have : V.ref p = v := by simpa using e
        subst this
        exact ⟨(k, m), p, ma, rfl, rfl, hp, ⟨mvs, hm, hms⟩, w.2.2.1, s.2.1, s.1⟩
      | succ i =>
        obtain ⟨q, a, b, h1, h2⟩ := e3 i v (by simpa using e)
        exact ⟨q, a, b, by simpa using h1, h2⟩
section
variable {P : Program} {w : World} {K : PySem.W.Frag} {mg : Str → Option Value} {base : Heap}
def spCp : Sp := fun vs H Q _ => ∃ (H0 : Hp) (p ca oa : Addr) (hd cvs : List V) (cs o : T), vs = [.ref p] ∧ Same H0 H ∧ H0 p = some (.tup (hd ++ [.ref ca, .ref oa])) ∧ HdS hd ∧ H0 ca = some (.lst cvs) ∧ Nodes H0 cs cvs ∧ Wf cs true ∧ Sm cs ∧ cs.sz < 100000 ∧ At H0 oa o ∧ Wf o false ∧ Sm o ∧
  ∀ l H' ws, H l = none → Same H H' → H' l = some (.lst ws) → Pts H0 (chP hd cs o) ws → Q (.ref l) H'
end
end Mw

namespace Mw
open PySem L2
theorem hdL_len {hd : List V} (h : HdS hd) : (hdL hd).length ≤ 45 := by
  have a1 : (tl "{").length = 1 := rfl
  have a2 : (tl ", ").length = 2 := rfl
  have a3 : (tl "select").length = 6 := rfl
  have a4 : (tl "plural").length = 6 := rfl
  have a5 : (tl "offset:").length = 7 := rfl
  have a6 : (tl " ").length = 1 := rfl
  rcases h with ⟨n, rfl, hn⟩ | ⟨n, off, rfl, hn, h0, h9⟩
  · rw [len_tl'] at hn
    simp only [hdL, List.length_append]
    omega
  · rw [len_tl'] at hn
    have hs := (show_len h0 (show off ≤ 999 by omega)).1
    rw [len_tl'] at hs
    simp only [hdL, List.length_append]
    split
    · simp only [List.length_nil]
      omega
    · simp only [List.length_append]
      omega
theorem keyL_len {k : V} (h : KeyS k) : (keyL k).length ≤ 20 := by
  rcases h with ⟨s, e, hs⟩ | ⟨i, e, i0, i9⟩
  · rw [e]
    show (tl s).length ≤ 20
    rw [← len_tl']
    exact hs
  · rw [e]
    show (tl (toString i : Str)).length + 1 ≤ 20
    rw [← len_tl']
    have := (show_len i0 i9).1
    omega
theorem wr_len : ∀ {t : T}, Sm t → t.wr.length ≤ 60 * t.sz
  | .nil, _ => Nat.zero_le _
  | .text s r, h => by
    have ih := wr_len h.2
    have h1 := escL_len (tl s)
    have h2 := len_tl' s
    simp only [T.wr, T.sz, List.length_append]
    omega
  | .shw n r, h => by
    have ih := wr_len h.2
    have h1 := h.1
    rw [len_tl'] at h1
    have a1 : (tl "{").length = 1 := rfl
    have a2 : (tl "}").length = 1 := rfl
    simp only [T.wr, T.sz, List.length_append]
    omega
  | .num r, h => by
    have ih := wr_len (t := r) h
    have a1 : (tl "#").length = 1 := rfl
    simp only [T.wr, T.sz, List.length_append]
    omega
  | .cho hd cs o r, h => by
    have i1 := wr_len h.2.1
    have i2 := wr_len h.2.2.1
    have i3 := wr_len h.2.2.2
    have h1 := hdL_len h.1
    have a1 : (tl "other {").length = 7 := rfl
    have a2 : (tl "}}").length = 2 := rfl
    simp only [T.wr, T.sz, List.length_append]
    omega
  | .cas k m r, h => by
    have i1 := wr_len h.2.1
    have i2 := wr_len h.2.2
    have h1 := keyL_len h.1
    have a1 : (tl " {").length = 2 := rfl
    have a2 : (tl "} ").length = 2 := rfl
    simp only [T.wr, T.sz, List.length_append]
    omega
section
variable {P : Program} {w : World} {K : PySem.W.Frag} {mg : Str → Option Value} {base : Heap}
def spNp : Sp := fun vs H Q _ => ∃ (H0 : Hp) (v : V) (u : T), vs = [v] ∧ Same H0 H ∧ Nodes H0 u [v] ∧ Wf u false ∧ Sm u ∧ u.sz < 100000 ∧
  ∀ l H' ws ps, H l = none → Same H H' → H' l = some (.lst ws) → Pts H0 ps ws → Pw ps = u.wr → Pm ps < 6 * u.sz → Q (.ref l) H'
end
end Mw

namespace Mw
open PySem L2
theorem Pts.rev_nodes {H : Hp} : ∀ {t : T} {vs : List V}, Nodes H t vs → Wf t false → Sm t → Pts H (t.nodes.map Pt.n) vs
  | .nil, _, h, _, _ => h
  | .text s r, _, h, w, m => by
    obtain ⟨p, ws, rfl, hp, hr⟩ := h
    exact ⟨_, ws, rfl, ⟨⟨p, [], rfl, hp, rfl⟩, ⟨rfl, trivial⟩, m.1, trivial⟩, Pts.rev_nodes hr w.2 m.2⟩
  | .shw s r, _, h, w, m => by
    obtain ⟨p, ws, rfl, hp, hr⟩ := h
    exact ⟨_, ws, rfl, ⟨⟨p, [], rfl, hp, rfl⟩, ⟨rfl, trivial⟩, m.1, trivial⟩, Pts.rev_nodes hr w.2 m.2⟩
  | .num r, _, h, w, m => by
    obtain ⟨p, ws, rfl, hp, hr⟩ := h
    exact ⟨_, ws, rfl, ⟨⟨p, [], rfl, hp, rfl⟩, ⟨rfl, trivial⟩, trivial⟩, Pts.rev_nodes hr w.2 m⟩
  | .cho hd cs o r, _, h, w, m => by
    obtain ⟨p, ws, ca, cvs, oa, ovs, rfl, hp, hc, hcs, ho, hos, hr⟩ := h
    exact ⟨_, ws, rfl, ⟨⟨p, [], ca, cvs, oa, ovs, rfl, hp, hc, hcs, ho, hos, rfl⟩, ⟨rfl, w.2.1, w.2.2.1, w.2.2.2.1, trivial⟩, m.1, m.2.1, m.2.2.1, trivial⟩, Pts.rev_nodes hr w.2.2.2.2 m.2.2.2⟩
  | .cas k m r, _, _, w, _ => by cases w.1
theorem Pw_nodes : ∀ t : T, Pw (t.nodes.map Pt.n) = t.wr
  | .nil => rfl
  | .text s r => by have ih := Pw_nodes r; simp only [Pw] at ih; simp [T.nodes, Pw, Pt.wr, T.wr, ih]
  | .shw s r => by have ih := Pw_nodes r; simp only [Pw] at ih; simp [T.nodes, Pw, Pt.wr, T.wr, ih]
  | .num r => by have ih := Pw_nodes r; simp only [Pw] at ih; simp [T.nodes, Pw, Pt.wr, T.wr, ih]
  | .cho hd cs o r => by have ih := Pw_nodes r; simp only [Pw] at ih; simp [T.nodes, Pw, Pt.wr, T.wr, ih]
  | .cas k m r => by have ih := Pw_nodes r; simp only [Pw] at ih; simp [T.nodes, Pw, Pt.wr, T.wr, ih]
theorem Pm_nodes : ∀ t : T, Pm (t.nodes.map Pt.n) = 6 * t.sz
  | .nil => rfl
  | .text s r => by have ih := Pm_nodes r; simp only [Pm] at ih; simp only [T.nodes, Pm, List.map_cons, List.sum_cons, Pt.wt, T.sz, ih]; omega
  | .shw s r => by have ih := Pm_nodes r; simp only [Pm] at ih; simp only [T.nodes, Pm, List.map_cons, List.sum_cons, Pt.wt, T.sz, ih]; omega
  | .num r => by have ih := Pm_nodes r; simp only [Pm] at ih; simp only [T.nodes, Pm, List.map_cons, List.sum_cons, Pt.wt, T.sz, ih]; omega
  | .cho hd cs o r => by have ih := Pm_nodes r; simp only [Pm] at ih; simp only [T.nodes, Pm, List.map_cons, List.sum_cons, Pt.wt, T.sz, ih]; omega
  | .cas k m r => by have ih := Pm_nodes r; simp only [Pm] at ih; simp only [T.nodes, Pm, List.map_cons, List.sum_cons, Pt.wt, T.sz, ih]; omega
theorem Pm_len (ps : List Pt) (hp : ∀ p ∈ ps, 1 ≤ p.wt) : ps.length ≤ Pm ps := by
  induction ps with
  | nil => exact Nat.le_refl _
  | cons p ps ih =>
    have h1 := hp p List.mem_cons_self
    have h2 := ih fun q hq => hp q (List.mem_cons_of_mem _ hq)
    simp only [Pm, List.map_cons, List.sum_cons, List.length_cons] at h2 ⊢
    omega
theorem Pts.wt {H : Hp} : ∀ {ps : List Pt} {vs : List V}, Pts H ps vs → ∀ p ∈ ps, 1 ≤ p.wt
  | [], _, _, p, hp => by cases hp
  | q :: qs, _, h, p, hp => by
    obtain ⟨v, ws, rfl, h1, h2⟩ := h
    rcases List.mem_cons.mp hp with rfl | hp
    · cases p with
      | s x => exact Nat.le_refl _
      | m t => show 1 ≤ 6 * t.sz + 1; omega
      | n u =>
        obtain ⟨h1, _⟩ := (show Nodes H u [v] ∧ _ from h1)
        have e := h1.length
        have := len_sz u
        simp only [List.length_cons, List.length_nil] at e
        show 1 ≤ 6 * u.sz
        omega
    · exact Pts.wt h2 p hp
theorem Pts.sz {H : Hp} {N : Nat} {ps : List Pt} (h : Pm ps ≤ N) : ∀ p ∈ ps, p.wt ≤ N := by
  induction ps with
  | nil => intro p hp; cases hp
  | cons q qs ih =>
    simp only [Pm, List.map_cons, List.sum_cons] at h ih
    intro p hp
    rcases List.mem_cons.mp hp with rfl | hp
    · omega
    · exact ih (by omega) p hp
section
variable {P : Program} {w : World} {K : PySem.W.Frag} {mg : Str → Option Value} {base : Heap}
def spFm : Sp := fun vs H Q _ => ∃ (a : Addr) (t : T), vs = [.ref a] ∧ At H a t ∧ Wf t false ∧ Sm t ∧ t.sz < 90000 ∧ ∀ H', Same H H' → Q (.str (mkS t.wr)) H'
end
end Mw

namespace Mw
open PySem L2
def Gp (g : List Nat) : Prop := ∀ c ∈ g, c = 32 ∨ c = 10
def Gp1 (g : List Nat) : Prop := g ≠ [] ∧ Gp g
section
variable {P : Program} {w : World} {K : PySem.W.Frag} {mg : Str → Option Value} {base : Heap}
/-! ### the law's gaps -/
abbrev sGap : Stmt := top 30
abbrev sOne : Stmt := top 31
theorem scGap : FnScope ["box", "loose"] ["box", "loose"] (defScope sGap) := ⟨rfl, rfl, rfl, by decide +kernel, rfl, by decide +kernel, by decide +kernel⟩
theorem scOne : FnScope ["box", "loose"] ["box", "loose"] (defScope sOne) := ⟨rfl, rfl, rfl, by decide +kernel, rfl, by decide +kernel, by decide +kernel⟩
def spGap : Sp := fun vs H Q _ => ∃ (B d : Addr) (lo : Bool), vs = [.ref B, .bl lo] ∧ Box H B d ∧ ∀ (s : Str) H', Gp (tl s) → s.length ≤ 2 → (lo = false → s = mkS []) → Go B H H' → Box H' B d → Q (.str s) H'
def spOne : Sp := fun vs H Q _ => ∃ (B d : Addr) (lo : Bool), vs = [.ref B, .bl lo] ∧ Box H B d ∧ ∀ (s : Str) H', Gp1 (tl s) → s.length ≤ 2 → (lo = false → s = mkS [32]) → Go B H H' → Box H' B d → Q (.str s) H'
theorem gap_ok : ∀ s ∈ (["", " ", "\n", "  "] : List Str), s.length ≤ 2 ∧ ∀ c ∈ tl s, c = 32 ∨ c = 10 := by decide +kernel
theorem one_ok' : ∀ s ∈ ([" ", "\n", "  "] : List Str), s.length ≤ 2 ∧ tl s ≠ [] ∧ ∀ c ∈ tl s, c = 32 ∨ c = 10 := by decide +kernel
theorem ok_gap {f fD : Addr} {fd fdD : FuncData} (F : Fun K "_law_gap" "_law_gap" sGap f fd) (GD : FnOk P w K mg base CX0 1 fD fdD ["box", "many"] spDraw) (bD : Binds K fdD ["box", "many"] []) (kD : PySem.W.keepIn K (.ref fD) = true) (mD : mg "_law_draw" = some (.ref fD)) :
    FnOk P w K mg base CX0 2 f fd ["box", "loose"] spGap := by
  refine F.ok scGap (fun vs H Q E h => ?_) (fun cdv A outer s H vs Q E hr h => ?_)
  · obtain ⟨B, d, lo, rfl, _⟩ := h
    rfl
  obtain ⟨B, d, lo, rfl, hb, q⟩ := h
  refine ⟨_, pss_cons (ps_if (pt_not (pt_val (pv 1))) (pss_one (ps_ret pe_str)) pss_nil)
    (pss_one (ps_ret (pe_ix ix_list (pe_lst (pa_cons pe_str (pa_cons pe_str (pa_cons pe_str (pa_cons pe_str pa_nil))))) (pe_call GD hr rfl mD kD bD .nil pass0 (pa_cons (pv 0) (pa_cons pe_int pa_nil))) (fun _ _ => rfl)))), ?_⟩
  refine ⟨_, rfl, lo, rfl, ?_⟩
  cases lo with
  | false => exact iteT (q _ H (fun c h => by cases h) (by decide) (fun _ => rfl) (Go.refl B H) hb)
  | true =>
    refine iteF ⟨by show 4 ≤ sizeLine; decide, fun l hl => ?_⟩
    have nB : l ≠ B := hb.neB hl
    refine ⟨_, rfl, B, d, 4, rfl, by decide, hb.new hl _, fun z H' h0 h1 g hb' => ?_⟩
    obtain ⟨x, hx, ha⟩ := pick (l := (["", " ", "\n", "  "] : List Str)) (g := V.str) (z := z) h0 (by show z < ((4 : Nat) : Int); omega)
    refine ⟨l, _, z, .str x, rfl, rfl, SqL.of (g.ext _ _ nB upd_same), ha, ?_⟩
    exact q x _ (gap_ok x hx).2 (gap_ok x hx).1 (fun e => by cases e) ((Go.new hl _).trans g) hb'
theorem ok_one {f fD : Addr} {fd fdD : FuncData} (F : Fun K "_law_one_gap" "_law_one_gap" sOne f fd) (GD : FnOk P w K mg base CX0 1 fD fdD ["box", "many"] spDraw) (bD : Binds K fdD ["box", "many"] []) (kD : PySem.W.keepIn K (.ref fD) = true) (mD : mg "_law_draw" = some (.ref fD)) :
    FnOk P w K mg base CX0 2 f fd ["box", "loose"] spOne := by
  refine F.ok scOne (fun vs H Q E h => ?_) (fun cdv A outer s H vs Q E hr h => ?_)
  · obtain ⟨B, d, lo, rfl, _⟩ := h
    rfl
  obtain ⟨B, d, lo, rfl, hb, q⟩ := h
  refine ⟨_, pss_cons (ps_if (pt_not (pt_val (pv 1))) (pss_one (ps_ret pe_str)) pss_nil)
    (pss_one (ps_ret (pe_ix ix_list (pe_lst (pa_cons pe_str (pa_cons pe_str (pa_cons pe_str pa_nil)))) (pe_call GD hr rfl mD kD bD .nil pass0 (pa_cons (pv 0) (pa_cons pe_int pa_nil))) (fun _ _ => rfl)))), ?_⟩
  refine ⟨_, rfl, lo, rfl, ?_⟩
  cases lo with
  | false => exact iteT (q _ H ⟨by decide, (one_ok' " " (by decide)).2.2⟩ (by decide) (fun _ => rfl) (Go.refl B H) hb)
  | true =>
    refine iteF ⟨by show 3 ≤ sizeLine; decide, fun l hl => ?_⟩
    have nB : l ≠ B := hb.neB hl
    refine ⟨_, rfl, B, d, 3, rfl, by decide, hb.new hl _, fun z H' h0 h1 g hb' => ?_⟩
    obtain ⟨x, hx, ha⟩ := pick (l := ([" ", "\n", "  "] : List Str)) (g := V.str) (z := z) h0 (by show z < ((3 : Nat) : Int); omega)
    refine ⟨l, _, z, .str x, rfl, rfl, SqL.of (g.ext _ _ nB upd_same), ha, ?_⟩
    exact q x _ ⟨(one_ok' x hx).2.1, (one_ok' x hx).2.2⟩ (one_ok' x hx).1 (fun e => by cases e) ((Go.new hl _).trans g) hb'
end
end Mw

namespace Mw
open PySem L2
section
variable {P : Program} {w : World} {K : PySem.W.Frag} {mg : Str → Option Value} {base : Heap}
abbrev sLe : Stmt := top 29
theorem scLe : FnScope ["text", "found", "sign"] ["text"] (defScope sLe) := ⟨rfl, rfl, rfl, by decide +kernel, rfl, by decide +kernel, by decide +kernel⟩
theorem sign_eq (c d : Nat) : (decide (V.str ⟨#[c]⟩ = V.str ⟨#[d]⟩)) = decide (c = d) := by
  by_cases h : c = d
  · subst h
    simp
  · have : ¬ (V.str ⟨#[c]⟩ = V.str ⟨#[d]⟩) := fun e => h (by
      injection e with e
      injection e with e
      have e2 : [c] = [d] := congrArg Array.toList e
      injection e2)
    rw [decide_eq_false this, decide_eq_false h]
theorem ok_le {f : Addr} {fd : FuncData} (F : Fun K "_law_escaped" "_law_escaped" sLe f fd) : FnOk P w K mg base CX0 1 f fd ["text"] spEsc := by
  refine F.ok scLe (fun vs H Q E h => ?_) (fun cdv A outer s H vs Q E hr h => ?_)
  · obtain ⟨s, rfl, _⟩ := h
    rfl
  obtain ⟨s, rfl, hs, q⟩ := h
  have nd := scLe.nd
  refine ⟨_, pss_cons (ps_set (i := 1) nd rfl (.inl rfl) pe_str)
    (pss_cons (ps_for PassesOwn.never rfl (pi_str (pv 0)) (pg_name (i := 2) nd rfl (.inl rfl))
      (pss_one (ps_if (pt_cmpR op_eq (pv 2) pe_str (nomark _)) (pss_one (ps_set (i := 1) nd rfl (.inl rfl) (pe_op op_add_str (pv 1) pe_str)))
        (pss_one (ps_if (pt_cmpR op_in_sign (pv 2) pe_str (by rfl)) (pss_one (ps_set (i := 1) nd rfl (.inl rfl) (pe_op op_add_str (pe_op op_add_str (pe_op op_add_str (pv 1) pe_str) (pv 2)) pe_str)))
          (pss_one (ps_set (i := 1) nd rfl (.inl rfl) (pe_op op_add_str (pv 1) (pv 2)))))))))
    (pss_one (ps_ret (pv 1)))), ?_⟩
  have hsz : s.cps.size = (tl s).length := len_tl' s
  have h9 : (tl s).length ≤ 10000 := (len_tl' s) ▸ hs
  refine ⟨_, rfl, s, rfl, for_it (walk_str (z := s)) (fun i σ H' => ∃ o2, σ = [some (.str s), some (.str (mkS (escL ((tl s).take i)))), o2] ∧ Same H H') ⟨none, rfl, Same.refl _⟩ (fun _ _ _ _ _ => trivial) ?_ ?_⟩
  · rintro i x σ H1 H2 hi ⟨o2, rfl, s1⟩ ⟨rfl, c, hc, rfl⟩
    have hc' : (tl s)[i]? = some c := by
      rw [← hc]
      simp [tl]
    have hl : (escL ((tl s).take i)).length ≤ 30000 := by
      have z1 := escL_len ((tl s).take i)
      rw [List.length_take] at z1
      omega
    have hnx : escL ((tl s).take (i + 1)) = escL ((tl s).take i) ++ escC c := by
      rw [List.take_succ, hc']
      simp [escL]
    have q39 : ("'" : Str).length = 1 := rfl
    have qq : ("''" : Str).length = 2 := rfl
    have q1 : (⟨#[c]⟩ : Str).length = 1 := rfl
    refine ⟨_, rfl, rfl, _, rfl, ?_⟩
    show (if decide (V.str ⟨#[c]⟩ = V.str ⟨#[39]⟩) = true then _ else _)
    rw [sign_eq]
    by_cases h39 : c = 39
    · subst h39
      refine iteT ⟨_, rfl, _, _, rfl, rfl, le_line (by rw [mk_len]; omega), some (.str ⟨#[39]⟩), ?_, s1⟩
      rw [hnx]
      have : mkS (escL ((tl s).take i)) ++ ("''" : Str) = mkS (escL ((tl s).take i) ++ escC 39) := mk_app _ _
      rw [← this]
      rfl
    · rw [decide_eq_false h39]
      refine iteF ⟨_, rfl, c, "{}#", rfl, rfl, _, rfl, ?_⟩
      have em : (decide (c ∈ ("{}#" : Str).cps.toList)) = decide (c = 123 ∨ c = 125 ∨ c = 35) := by
        have : ("{}#" : Str).cps.toList = [123, 125, 35] := rfl
        rw [this]
        simp
      show (if decide (c ∈ ("{}#" : Str).cps.toList) = true then _ else _)
      rw [em]
      by_cases hm : c = 123 ∨ c = 125 ∨ c = 35
      · rw [decide_eq_true hm]
        have ec : escC c = [39, c, 39] := by
          rcases hm with rfl | rfl | rfl <;> rfl
        refine iteT ⟨_, rfl, _, _, rfl, rfl, le_line (by rw [mk_len]; omega), _, rfl, _, _, rfl, rfl, le_line (by rw [sl, mk_len]; omega), _, _, rfl, rfl, le_line (by rw [sl, sl, mk_len]; omega), some (.str ⟨#[c]⟩), ?_, s1⟩
        rw [hnx, ec]
        have : mkS (escL ((tl s).take i)) ++ ("'" : Str) ++ ⟨#[c]⟩ ++ ("'" : Str) = mkS (escL ((tl s).take i) ++ [39, c, 39]) := by
          refine TL.ext_tl ?_
          rw [TL.tl_append, TL.tl_append, TL.tl_append]
          show ((escL ((tl s).take i) ++ [39]) ++ [c]) ++ [39] = escL ((tl s).take i) ++ [39, c, 39]
          simp
        rw [← this]
        rfl
      · rw [decide_eq_false hm]
        have ec : escC c = [c] := by
          unfold escC
          rw [if_neg h39, if_neg (fun e => hm (.inl e)), if_neg (fun e => hm (.inr (.inl e))), if_neg (fun e => hm (.inr (.inr e)))]
        refine iteF ⟨_, rfl, _, rfl, _, _, rfl, rfl, le_line (by rw [mk_len]; omega), some (.str ⟨#[c]⟩), ?_, s1⟩
        rw [hnx, ec]
        have : mkS (escL ((tl s).take i)) ++ (⟨#[c]⟩ : Str) = mkS (escL ((tl s).take i) ++ [c]) := mk_app _ _
        rw [← this]
        rfl
  · rintro σ H1 ⟨o2, rfl, s1⟩
    rw [hsz, List.take_length]
    exact ⟨_, rfl, q H1 s1⟩
end
end Mw

namespace Mw
open PySem L2
def T.dep : T → Nat
  | .nil => 0
  | .text _ r => r.dep
  | .shw _ r => r.dep
  | .num r => r.dep
  | .cho _ cs o r => max (max cs.dep o.dep + 1) r.dep
  | .cas _ m r => max m.dep r.dep
theorem dep_nodes : ∀ {t : T}, ∀ u ∈ t.nodes, u.dep ≤ t.dep
  | .nil, u, h => by cases h
  | .text s r, u, h => by
    rcases List.mem_cons.mp h with rfl | h
    · exact Nat.zero_le _
    · exact dep_nodes (t := r) u h
  | .shw s r, u, h => by
    rcases List.mem_cons.mp h with rfl | h
    · exact Nat.zero_le _
    · exact dep_nodes (t := r) u h
  | .num r, u, h => by
    rcases List.mem_cons.mp h with rfl | h
    · exact Nat.zero_le _
    · exact dep_nodes (t := r) u h
  | .cho hd cs o r, u, h => by
    rcases List.mem_cons.mp h with rfl | h
    · simp only [T.dep]
      omega
    · have := dep_nodes u h
      simp only [T.dep]
      omega
  | .cas k m r, u, h => by
    rcases List.mem_cons.mp h with rfl | h
    · simp only [T.dep]
      omega
    · have := dep_nodes u h
      simp only [T.dep]
      omega
theorem dep_msgs : ∀ {t : T}, ∀ m ∈ t.msgs, m.dep ≤ t.dep
  | .nil, u, h => by cases h
  | .text s r, u, h => by cases h
  | .shw s r, u, h => by cases h
  | .num r, u, h => by cases h
  | .cho hd cs o r, u, h => by cases h
  | .cas k m r, u, h => by
    rcases List.mem_cons.mp h with rfl | h
    · simp only [T.dep]
      omega
    · have := dep_msgs u h
      simp only [T.dep]
      omega
section
variable {P : Program} {w : World} {K : PySem.W.Frag} {mg : Str → Option Value} {base : Heap}
theorem none_left {f : Addr} {fd : FuncData} {ps : List Str} {sp : Sp} (no : ∀ vs H Q E, ¬ sp vs H Q E) : FnOk P w K mg base CX0 0 f fd ps sp :=
  ⟨fun vs H Q E h => absurd h (no vs H Q E), fun A outer s H args us vs Q E _ _ _ _ h => absurd h (no vs H Q E)⟩
end
theorem sz_nodes : ∀ {t : T}, ∀ u ∈ t.nodes, u.sz ≤ t.sz
  | .nil, u, h => by cases h
  | .text s r, u, h => by
    rcases List.mem_cons.mp h with rfl | h
    · simp only [T.sz]
      omega
    · have := sz_nodes u h
      simp only [T.sz]
      omega
  | .shw s r, u, h => by
    rcases List.mem_cons.mp h with rfl | h
    · simp only [T.sz]
      omega
    · have := sz_nodes u h
      simp only [T.sz]
      omega
  | .num r, u, h => by
    rcases List.mem_cons.mp h with rfl | h
    · simp only [T.sz]
      omega
    · have := sz_nodes u h
      simp only [T.sz]
      omega
  | .cho hd cs o r, u, h => by
    rcases List.mem_cons.mp h with rfl | h
    · simp only [T.sz]
      omega
    · have := sz_nodes u h
      simp only [T.sz]
      omega
  | .cas k m r, u, h => by
    rcases List.mem_cons.mp h with rfl | h
    · simp only [T.sz]
      omega
    · have := sz_nodes u h
      simp only [T.sz]
      omega
theorem sz_msgs : ∀ {t : T}, ∀ m ∈ t.msgs, m.sz ≤ t.sz
  | .nil, u, h => by cases h
  | .text s r, u, h => by cases h
  | .shw s r, u, h => by cases h
  | .num r, u, h => by cases h
  | .cho hd cs o r, u, h => by cases h
  | .cas k m r, u, h => by
    rcases List.mem_cons.mp h with rfl | h
    · simp only [T.sz]
      omega
    · have := sz_msgs u h
      simp only [T.sz]
      omega
/-! ### a message's notation with any gaps -/
def Gq (g : List Nat) : Prop := Gp g ∧ g.length ≤ 2
def Gq1 (g : List Nat) : Prop := Gp1 g ∧ g.length ≤ 2
def offW (off : Int) : List Nat := tl "offset:" ++ tl (toString off : Str)
/-- the head of a choice, up to its cases -/
def Hl : List V → List Nat → Prop
  | [.str x, .str n], h => ∃ g1 g2 g3 g4, Gq g1 ∧ Gq g2 ∧ Gq1 g3 ∧ Gq g4 ∧ h = [123] ++ g1 ++ tl n ++ g2 ++ [44] ++ g3 ++ tl x ++ g4 ++ [44]
  | [.str x, .str n, .int off], h => ∃ g1 g2 g3 g4 e, Gq g1 ∧ Gq g2 ∧ Gq1 g3 ∧ Gq g4 ∧ h = [123] ++ g1 ++ tl n ++ g2 ++ [44] ++ g3 ++ tl x ++ g4 ++ [44] ++ e ∧ ((off = 0 ∧ e = []) ∨ (off ≠ 0 ∧ ∃ g, Gq1 g ∧ e = g ++ offW off))
  | _, _ => False
def Ln : T → List Nat → Prop
  | .nil, l => l = []
  | .text s r, l => ∃ l', l = escL (tl s) ++ l' ∧ Ln r l'
  | .shw n r, l => ∃ g1 g2 l', Gq g1 ∧ Gq g2 ∧ l = [123] ++ g1 ++ tl n ++ g2 ++ [125] ++ l' ∧ Ln r l'
  | .num r, l => ∃ l', l = [35] ++ l' ∧ Ln r l'
  | .cho hd cs o r, l => ∃ h cl g5 g6 ol g7 l', Hl hd h ∧ Ln cs cl ∧ Gq1 g5 ∧ Gq1 g6 ∧ Ln o ol ∧ Gq g7 ∧ l = h ++ cl ++ g5 ++ tl "other" ++ g6 ++ [123] ++ ol ++ [125] ++ g7 ++ [125] ++ l' ∧ Ln r l'
  | .cas k m r, l => ∃ g5 g6 ml l', Gq1 g5 ∧ Gq1 g6 ∧ Ln m ml ∧ l = g5 ++ keyL k ++ g6 ++ [123] ++ ml ++ [125] ++ l' ∧ Ln r l'
/-- with the gaps that the law writes where it is told to write none of its own -/
def hdT : List V → List Nat
  | [.str x, .str n] => [123] ++ tl n ++ [44] ++ [32] ++ tl x ++ [44]
  | [.str x, .str n, .int off] => [123] ++ tl n ++ [44] ++ [32] ++ tl x ++ [44] ++ (if off = 0 then [] else [32] ++ offW off)
  | _ => []
def T.lw : T → List Nat
  | .nil => []
  | .text s r => escL (tl s) ++ r.lw
  | .shw n r => [123] ++ tl n ++ [125] ++ r.lw
  | .num r => [35] ++ r.lw
  | .cho hd cs o r => hdT hd ++ cs.lw ++ [32] ++ tl "other" ++ [32] ++ [123] ++ o.lw ++ [125] ++ [125] ++ r.lw
  | .cas k m r => [32] ++ keyL k ++ [32] ++ [123] ++ m.lw ++ [125] ++ r.lw
theorem lw_wr : ∀ {t : T} {c : Bool}, Wf t c → (c = false → t.lw = t.wr) ∧ (c = true → t.lw ++ [32] = [32] ++ t.wr)
  | .nil, c, _ => ⟨fun _ => rfl, fun _ => rfl⟩
  | .text s r, c, h => by
    refine ⟨fun e => ?_, fun e => by rw [h.1] at e; cases e⟩
    rw [T.lw, T.wr, (lw_wr h.2).1 e]
  | .shw n r, c, h => by
    refine ⟨fun e => ?_, fun e => by rw [h.1] at e; cases e⟩
    rw [T.lw, T.wr, (lw_wr h.2).1 e]
    rfl
  | .num r, c, h => by
    refine ⟨fun e => ?_, fun e => by rw [h.1] at e; cases e⟩
    rw [T.lw, T.wr, (lw_wr h.2).1 e]
    rfl
  | .cho hd cs o r, c, h => by
    refine ⟨fun e => ?_, fun e => by rw [h.1] at e; cases e⟩
    have i1 := (lw_wr h.2.2.1).2 rfl
    have i2 := (lw_wr h.2.2.2.1).1 rfl
    have i3 := (lw_wr h.2.2.2.2).1 e
    have a1 : tl "other {" = tl "other" ++ [32] ++ [123] := rfl
    have a2 : tl "}}" = [125] ++ [125] := rfl
    have a3 : tl ", " = [44] ++ [32] := rfl
    have a4 : tl "{" = [123] := rfl
    have a5 : tl " " = [32] := rfl
    have hh : hdT hd ++ [32] = hdL hd := by
      rcases h.2.1 with ⟨n, rfl⟩ | ⟨n, off, rfl⟩
      · simp [hdT, hdL, a3, a4]
      · by_cases e : off = 0
        · simp [hdT, hdL, a3, a4, e]
        · simp [hdT, hdL, a3, a4, a5, e, offW]
    have key : hdT hd ++ cs.lw ++ [32] = hdL hd ++ cs.wr := by
      rw [List.append_assoc, i1, ← List.append_assoc, hh]
    rw [T.lw, T.wr, key, i2, i3, a1, a2]
    simp
  | .cas k m r, c, h => by
    refine ⟨(fun e => by rw [h.1] at e; cases e), fun e => ?_⟩
    have i1 := (lw_wr h.2.2.1).1 rfl
    have i2 := (lw_wr h.2.2.2).2 h.1
    have a1 : tl " {" = [32] ++ [123] := rfl
    have a2 : tl "} " = [125] ++ [32] := rfl
    rw [T.lw, T.wr, i1, a1, a2, List.append_assoc _ r.lw, i2]
    simp
theorem ln_app {u : T} {l' : List Nat} (hu : Ln u l') : ∀ {t : T} {l : List Nat}, Ln t l → Ln (t.app u) (l ++ l')
  | .nil, l, h => by
    rw [show l = [] from h]
    exact hu
  | .text s r, l, h => by
    obtain ⟨a, rfl, h2⟩ := h
    exact ⟨a ++ l', by simp, ln_app hu h2⟩
  | .shw n r, l, h => by
    obtain ⟨g1, g2, a, h1, h2, rfl, h3⟩ := h
    exact ⟨g1, g2, a ++ l', h1, h2, by simp, ln_app hu h3⟩
  | .num r, l, h => by
    obtain ⟨a, rfl, h2⟩ := h
    exact ⟨a ++ l', by simp, ln_app hu h2⟩
  | .cho hd cs o r, l, h => by
    obtain ⟨hh, cl, g5, g6, ol, g7, a, h1, h2, h3, h4, h5, h6, rfl, h7⟩ := h
    exact ⟨hh, cl, g5, g6, ol, g7, a ++ l', h1, h2, h3, h4, h5, h6, by simp, ln_app hu h7⟩
  | .cas k m r, l, h => by
    obtain ⟨g5, g6, ml, a, h1, h2, h3, rfl, h4⟩ := h
    exact ⟨g5, g6, ml, a ++ l', h1, h2, h3, by simp, ln_app hu h4⟩
theorem lw_app (u : T) : ∀ t : T, (t.app u).lw = t.lw ++ u.lw
  | .nil => rfl
  | .text s r => by simp [T.app, T.lw, lw_app u r]
  | .shw n r => by simp [T.app, T.lw, lw_app u r]
  | .num r => by simp [T.app, T.lw, lw_app u r]
  | .cho hd cs o r => by simp [T.app, T.lw, lw_app u r]
  | .cas k m r => by simp [T.app, T.lw, lw_app u r]
theorem hl_len {hd : List V} {h : List Nat} (hs : HdS hd) (hl : Hl hd h) : h.length ≤ 60 := by
  have a3 : (tl "select").length = 6 := rfl
  have a4 : (tl "plural").length = 6 := rfl
  have a5 : (tl "offset:").length = 7 := rfl
  rcases hs with ⟨n, rfl, hn⟩ | ⟨n, off, rfl, hn, h0, h9⟩
  · obtain ⟨g1, g2, g3, g4, q1, q2, q3, q4, rfl⟩ := hl
    have b1 := q1.2
    have b2 := q2.2
    have b3 := q3.2
    have b4 := q4.2
    rw [len_tl'] at hn
    simp only [List.length_append, List.length_cons, List.length_nil]
    omega
  · obtain ⟨g1, g2, g3, g4, e, q1, q2, q3, q4, rfl, he⟩ := hl
    have b1 := q1.2
    have b2 := q2.2
    have b3 := q3.2
    have b4 := q4.2
    rw [len_tl'] at hn
    have hs := (show_len h0 (show off ≤ 999 by omega)).1
    rw [len_tl'] at hs
    have b5 : e.length ≤ 13 := by
      rcases he with ⟨_, rfl⟩ | ⟨_, g, hg, rfl⟩
      · exact Nat.zero_le _
      · have := hg.2
        simp only [offW, List.length_append]
        omega
    simp only [List.length_append, List.length_cons, List.length_nil]
    omega
theorem ln_len : ∀ {t : T} {l : List Nat}, Sm t → Ln t l → l.length ≤ 100 * t.sz
  | .nil, l, _, h => by
    rw [show l = [] from h]
    exact Nat.zero_le _
  | .text s r, l, m, h => by
    obtain ⟨a, rfl, h2⟩ := h
    have ih := ln_len m.2 h2
    have h1 := escL_len (tl s)
    have h3 := len_tl' s
    simp only [T.sz, List.length_append]
    omega
  | .shw n r, l, m, h => by
    obtain ⟨g1, g2, a, h1, h2, rfl, h3⟩ := h
    have ih := ln_len m.2 h3
    have b1 := h1.2
    have b2 := h2.2
    have hn := m.1
    rw [len_tl'] at hn
    simp only [T.sz, List.length_append, List.length_cons, List.length_nil]
    omega
  | .num r, l, m, h => by
    obtain ⟨a, rfl, h2⟩ := h
    have ih := ln_len (t := r) m h2
    simp only [T.sz, List.length_append, List.length_cons, List.length_nil]
    omega
  | .cho hd cs o r, l, m, h => by
    obtain ⟨hh, cl, g5, g6, ol, g7, a, h1, h2, h3, h4, h5, h6, rfl, h7⟩ := h
    have i1 := ln_len m.2.1 h2
    have i2 := ln_len m.2.2.1 h5
    have i3 := ln_len m.2.2.2 h7
    have b1 := hl_len m.1 h1
    have b3 := h3.2
    have b4 := h4.2
    have b6 := h6.2
    have a1 : (tl "other").length = 5 := rfl
    simp only [T.sz, List.length_append, List.length_cons, List.length_nil]
    omega
  | .cas k m r, l, s, h => by
    obtain ⟨g5, g6, ml, a, h1, h2, h3, rfl, h4⟩ := h
    have i1 := ln_len s.2.1 h3
    have i2 := ln_len s.2.2 h4
    have b1 := h1.2
    have b2 := h2.2
    have b3 := keyL_len s.1
    simp only [T.sz, List.length_append, List.length_cons, List.length_nil]
    omega
/-- a chain of cases -/
def cch : List (V × T) → T
  | [] => .nil
  | q :: r => .cas q.1 q.2 (cch r)
theorem cch_app (q : V × T) : ∀ ks : List (V × T), cch (ks ++ [q]) = (cch ks).app (.cas q.1 q.2 .nil)
  | [] => rfl
  | a :: r => by
    show T.cas a.1 a.2 (cch (r ++ [q])) = T.cas a.1 a.2 ((cch r).app _)
    rw [cch_app q r]
theorem cas_ch {H : Hp} : ∀ {cs : T} {cvs : List V}, Nodes H cs cvs → Wf cs true → Sm cs → ∃ ks : List (V × T), cs = cch ks ∧ ks.length = cvs.length ∧ (∀ q ∈ ks, q.2.dep ≤ cs.dep ∧ q.2.sz ≤ cs.sz) ∧
    ∀ (i : Nat) (v : V), cvs[i]? = some v → ∃ (q : V × T) (a b : Addr), ks[i]? = some q ∧ v = .ref a ∧ H a = some (.tup [q.1, .ref b]) ∧ At H b q.2 ∧ Wf q.2 false ∧ Sm q.2 ∧ KeyS q.1
  | .nil, _, h, _, _ => ⟨[], rfl, by rw [show _ = [] from h]; rfl, (fun q hq => by cases hq), fun i v e => by rw [show _ = [] from h] at e; simp at e⟩
  | .text s r, _, _, w, _ => by cases w.1
  | .shw s r, _, _, w, _ => by cases w.1
  | .num r, _, _, w, _ => by cases w.1
  | .cho hd cs o r, _, _, w, _ => by cases w.1
  | .cas k m r, _, h, w, s => by
    obtain ⟨p, ws, ma, mvs, rfl, hp, hm, hms, hr⟩ := h
    obtain ⟨ks, e0, e1, e2, e3⟩ := cas_ch hr w.2.2.2 s.2.2
    refine ⟨(k, m) :: ks, by rw [e0]; rfl, congrArg (· + 1) e1, fun q hq => ?_, fun i v e => ?_⟩
    · rcases List.mem_cons.mp hq with rfl | hq
      · simp only [T.dep, T.sz]
        omega
      · have := e2 q hq
        simp only [T.dep, T.sz]
        omega
    · cases i with
      | zero =>
        have : V.ref p = v := by simpa using e
        subst this
        exact ⟨(k, m), p, ma, rfl, rfl, hp, ⟨mvs, hm, hms⟩, w.2.2.1, s.2.1, s.1⟩
      | succ i =>
        obtain ⟨q, a, b, h1, h2⟩ := e3 i v (by simpa using e)
        exact ⟨q, a, b, by simpa using h1, h2⟩
end Mw

namespace Mw
open PySem L2
def szs (us : List T) : Nat := (us.map T.sz).sum
theorem szs_append (us vs : List T) : szs (us ++ vs) = szs us + szs vs := by
  unfold szs
  rw [List.map_append, List.sum_append]
theorem szs_nodes : ∀ t : T, szs t.nodes = t.sz
  | .nil => rfl
  | .text s r => by have := szs_nodes r; simp only [szs, T.nodes, T.sz, List.map_cons, List.sum_cons] at *; omega
  | .shw s r => by have := szs_nodes r; simp only [szs, T.nodes, T.sz, List.map_cons, List.sum_cons] at *; omega
  | .num r => by have := szs_nodes r; simp only [szs, T.nodes, T.sz, List.map_cons, List.sum_cons] at *; omega
  | .cho _ cs o r => by have := szs_nodes r; simp only [szs, T.nodes, T.sz, List.map_cons, List.sum_cons] at *; omega
  | .cas _ m r => by have := szs_nodes r; simp only [szs, T.nodes, T.sz, List.map_cons, List.sum_cons] at *; omega
theorem szs_take (l : List T) (i : Nat) : szs (l.take i) ≤ szs l := by
  have := szs_append (l.take i) (l.drop i)
  rw [List.take_append_drop] at this
  omega
theorem ch_sz : ∀ us : List T, (ch us).sz = szs us
  | [] => rfl
  | u :: us => by
    rw [show ch (u :: us) = u.app (ch us) from rfl, T.app_sz, ch_sz us]
    rfl
theorem ch_take_sz (t : T) (i : Nat) : (ch (t.nodes.take i)).sz ≤ t.sz := by
  rw [ch_sz]
  have := szs_take t.nodes i
  rw [szs_nodes] at this
  exact this
theorem sm_app {u : T} (hu : Sm u) : ∀ {t : T}, Sm t → Sm (t.app u)
  | .nil, _ => hu
  | .text s r, h => ⟨h.1, sm_app hu h.2⟩
  | .shw s r, h => ⟨h.1, sm_app hu h.2⟩
  | .num r, h => sm_app (t := r) hu h
  | .cho hd cs o r, h => ⟨h.1, h.2.1, h.2.2.1, sm_app hu h.2.2.2⟩
  | .cas k m r, h => ⟨h.1, h.2.1, sm_app hu h.2.2⟩
theorem sm_nodes : ∀ {t : T}, Sm t → ∀ u ∈ t.nodes, Sm u
  | .nil, _, u, h => by cases h
  | .text s r, m, u, h => by
    rcases List.mem_cons.mp h with rfl | h
    · exact ⟨m.1, trivial⟩
    · exact sm_nodes m.2 u h
  | .shw s r, m, u, h => by
    rcases List.mem_cons.mp h with rfl | h
    · exact ⟨m.1, trivial⟩
    · exact sm_nodes m.2 u h
  | .num r, m, u, h => by
    rcases List.mem_cons.mp h with rfl | h
    · exact trivial
    · exact sm_nodes (t := r) m u h
  | .cho hd cs o r, m, u, h => by
    rcases List.mem_cons.mp h with rfl | h
    · exact ⟨m.1, m.2.1, m.2.2.1, trivial⟩
    · exact sm_nodes m.2.2.2 u h
  | .cas k mm r, m, u, h => by
    rcases List.mem_cons.mp h with rfl | h
    · exact ⟨m.1, m.2.1, trivial⟩
    · exact sm_nodes m.2.2 u h
theorem sm_ch : ∀ {us : List T}, (∀ u ∈ us, Sm u) → Sm (ch us)
  | [], _ => trivial
  | u :: us, h => sm_app (sm_ch fun x hx => h x (List.mem_cons_of_mem _ hx)) (h u List.mem_cons_self)
theorem cch_take : ∀ (ks : List (V × T)) (j : Nat), Sm (cch ks) → Sm (cch (ks.take j)) ∧ (cch (ks.take j)).sz ≤ (cch ks).sz
  | [], j, _ => by
    rw [List.take_nil]
    exact ⟨trivial, Nat.le_refl _⟩
  | q :: r, 0, _ => ⟨trivial, Nat.zero_le _⟩
  | q :: r, j + 1, h => by
    obtain ⟨i1, i2⟩ := cch_take r j h.2.2
    refine ⟨⟨h.1, h.2.1, i1⟩, ?_⟩
    show 1 + q.2.sz + (cch (r.take j)).sz ≤ 1 + q.2.sz + (cch r).sz
    omega
/-- what has been written: with gaps, or tight -/
def Lw (lo : Bool) (t : T) (l : List Nat) : Prop := Ln t l ∧ (lo = false → l = t.lw)
theorem Lw.app {lo : Bool} {t u : T} {l l' : List Nat} (h : Lw lo t l) (h' : Lw lo u l') : Lw lo (t.app u) (l ++ l') :=
  ⟨ln_app h'.1 h.1, fun e => by rw [h.2 e, h'.2 e, lw_app]⟩
/-- how far the cases of a choice are written -/
def Cj (lo : Bool) (cs o : T) (ks : List (V × T)) (j : Nat) (cl : List Nat) : Prop :=
  (j ≤ ks.length ∧ Lw lo (cch (ks.take j)) cl) ∨
    (j = ks.length + 1 ∧ ∃ cl0 g5 g6 ol, Lw lo cs cl0 ∧ Gq1 g5 ∧ Gq1 g6 ∧ Lw lo o ol ∧ cl = cl0 ++ g5 ++ tl "other" ++ g6 ++ [123] ++ ol ++ [125] ∧ (lo = false → g5 = [32] ∧ g6 = [32]))
theorem up_go {B : Addr} {H0 H H' : Hp} (s : Same H0 H) (hB : H0 B = none) (g : Go B H H') : Same H0 H' := fun b o h => g.ext b o (by rintro rfl; rw [hB] at h; cases h) (s b o h)
theorem ch_tk {us : List T} {i : Nat} {u : T} (h : us[i]? = some u) : ch (us.take (i + 1)) = (ch (us.take i)).app u := by
  induction us generalizing i with
  | nil => simp at h
  | cons a r ih =>
    cases i with
    | zero =>
      have : a = u := by simpa using h
      subst this
      show a.app (ch []) = (ch []).app a
      show a.app .nil = T.app .nil a
      rw [app_nil]
      rfl
    | succ i =>
      have e := ih (i := i) (by simpa using h)
      show a.app (ch (r.take (i + 1))) = (a.app (ch (r.take i))).app u
      rw [e, app_assoc]
section
variable {P : Program} {w : World} {K : PySem.W.Frag} {mg : Str → Option Value} {base : Heap}
abbrev sWr : Stmt := top 32
theorem scWr : FnScope ["box", "message", "loose", "found", "node", "key", "inner", "shown"] ["box", "message", "loose"] (defScope sWr) := ⟨rfl, rfl, rfl, by decide +kernel, rfl, by decide +kernel, by decide +kernel⟩
def spWr (n : Nat) : Sp := fun vs H Q _ => ∃ (B d a : Addr) (lo : Bool) (H0 : Hp) (t : T), vs = [.ref B, .ref a, .bl lo] ∧ Box H B d ∧ Same H0 H ∧ H0 B = none ∧ At H0 a t ∧ Wf t false ∧ Sm t ∧ t.dep < n ∧ t.sz < 30000 ∧
  ∀ l H', Lw lo t l → Go B H H' → Box H' B d → Q (.str (mkS l)) H'
theorem ok_wr_turn {n m : Nat} (h2m : 2 ≤ m) {f fE fG fO : Addr} {fd fdE fdG fdO : FuncData} (F : Fun K "_law_written" "_law_written" sWr f fd) (G : FnOk P w K mg base CX0 m f fd ["box", "message", "loose"] (spWr n)) (b : Binds K fd ["box", "message", "loose"] []) (mf : mg "_law_written" = some (.ref f))
    (GE : FnOk P w K mg base CX0 1 fE fdE ["text"] spEsc) (bE : Binds K fdE ["text"] []) (kE : PySem.W.keepIn K (.ref fE) = true) (mE : mg "_law_escaped" = some (.ref fE))
    (GG : FnOk P w K mg base CX0 2 fG fdG ["box", "loose"] spGap) (bG : Binds K fdG ["box", "loose"] []) (kG : PySem.W.keepIn K (.ref fG) = true) (mG : mg "_law_gap" = some (.ref fG))
    (GO : FnOk P w K mg base CX0 2 fO fdO ["box", "loose"] spOne) (bO : Binds K fdO ["box", "loose"] []) (kO : PySem.W.keepIn K (.ref fO) = true) (mO : mg "_law_one_gap" = some (.ref fO))
    (mi : mg "isinstance" = none) (ms : mg "str" = none) : FnOk P w K mg base CX0 (m + 1) f fd ["box", "message", "loose"] (spWr (n + 1)) := by
  refine F.ok scWr (fun vs H Q E h => ?_) (fun cdv A outer s H vs Q E hr h => ?_)
  · obtain ⟨B, d, a, lo, H0, t, rfl, _⟩ := h
    rfl
  obtain ⟨B, d, a, lo, H0, t, rfl, hb, h0, hB, ⟨vs, ha, hn⟩, hw, hsm, hd, hz, q⟩ := h
  have nd := scWr.nd
  have k := F.kp
  have hr1 : Room 1 _ := hr.mono (Nat.le_trans (by decide) h2m)
  have hr2 : Room 2 _ := hr.mono h2m
  refine ⟨_, pss_cons (ps_set (i := 3) nd rfl (.inl rfl) pe_str)
    (pss_cons (ps_for PassesOwn.never rfl (pi_list (pv 1)) (pg_name (i := 4) nd rfl (.inl rfl))
      (pss_one (ps_if (pt_cmpR op_eq (pe_ix ix_tup (pv 4) pe_int (fun _ _ => rfl)) pe_str (nomark _))
        (pss_one (ps_set (i := 3) nd rfl (.inl rfl) (pe_op op_add_str (pv 3) (pe_call GE hr1 rfl mE kE bE .nil pass0 (pa_cons (pe_ix ix_tup (pv 4) pe_int (fun _ _ => rfl)) pa_nil)))))
      (pss_one (ps_if (pt_cmpR op_eq (pe_ix ix_tup (pv 4) pe_int (fun _ _ => rfl)) pe_str (nomark _))
        (pss_one (ps_set (i := 3) nd rfl (.inl rfl) (pe_op op_add_str (pe_op op_add_str (pe_op op_add_str (pe_op op_add_str (pe_op op_add_str (pv 3) pe_str) (pe_call GG hr2 rfl mG kG bG .nil pass0 (pa_cons (pv 0) (pa_cons (pv 2) pa_nil)))) (pe_ix ix_tup (pv 4) pe_int (fun _ _ => rfl))) (pe_call GG hr2 rfl mG kG bG .nil pass0 (pa_cons (pv 0) (pa_cons (pv 2) pa_nil)))) pe_str)))
      (pss_one (ps_if (pt_cmpR op_eq (pe_ix ix_tup (pv 4) pe_int (fun _ _ => rfl)) pe_str (nomark _))
        (pss_one (ps_set (i := 3) nd rfl (.inl rfl) (pe_op op_add_str (pv 3) pe_str)))
      (pss_cons (ps_set (i := 3) nd rfl (.inl rfl) (pe_op op_add_str (pe_op op_add_str (pe_op op_add_str (pe_op op_add_str (pe_op op_add_str (pv 3) pe_str) (pe_call GG hr2 rfl mG kG bG .nil pass0 (pa_cons (pv 0) (pa_cons (pv 2) pa_nil)))) (pe_ix ix_tup (pv 4) pe_int (fun _ _ => rfl))) (pe_call GG hr2 rfl mG kG bG .nil pass0 (pa_cons (pv 0) (pa_cons (pv 2) pa_nil)))) pe_str))
      (pss_cons (ps_set (i := 3) nd rfl (.inl rfl) (pe_op op_add_str (pe_op op_add_str (pe_op op_add_str (pe_op op_add_str (pv 3) (pe_call GO hr2 rfl mO kO bO .nil pass0 (pa_cons (pv 0) (pa_cons (pv 2) pa_nil)))) (pe_ix ix_tup (pv 4) pe_int (fun _ _ => rfl))) (pe_call GG hr2 rfl mG kG bG .nil pass0 (pa_cons (pv 0) (pa_cons (pv 2) pa_nil)))) pe_str))
      (Evl.pss_cut (ps_if (PW.pt (pw_and (pt_cmpR op_eq (pe_ix ix_tup (pv 4) pe_int (fun _ _ => rfl)) pe_str (nomark _)) (pw_and1 (pt_cmpR op_gt (pe_ix ix_tup (pv 4) pe_int (fun _ _ => rfl)) pe_int (nomark _)))))
        (pss_one (ps_set (i := 3) nd rfl (.inl rfl) (pe_op op_add_str (pe_op op_add_str (pe_op op_add_str (pv 3) (pe_call GO hr2 rfl mO kO bO .nil pass0 (pa_cons (pv 0) (pa_cons (pv 2) pa_nil)))) pe_str) (pe_callTy call_str_int (by rfl) ms (by decide +kernel) (pa_cons (pe_ix ix_tup (pv 4) pe_int (fun _ _ => rfl)) pa_nil))))) pss_nil)
      (pss_cons (ps_for PassesOwn.never rfl (pi_list (pe_op op_cat (pe_ix ix_tup (pv 4) (pe_un un_neg pe_int) (fun _ _ => rfl)) (pe_lst (pa_cons (pe_tup (pa_cons pe_str (pa_cons (pe_ix ix_tup (pv 4) (pe_un un_neg pe_int) (fun _ _ => rfl)) pa_nil))) pa_nil)))) (pg_tup rfl (pgs_cons (pg_name (i := 5) nd rfl (.inl rfl)) (pgs_cons (pg_name (i := 6) nd rfl (.inl rfl)) pgs_nil)))
        (pss_cons (ps_set (i := 7) nd rfl (.inl rfl) (pv 5))
        (Evl.pss_cut (ps_if (pt_not (pt_val (pe_callB call_isi (by rfl) mi (by decide +kernel) (pa_cons (pv 5) (pa_cons (pe_bltn (v := .ty "str") (by rfl) ms (by decide +kernel) rfl) pa_nil)))))
          (pss_one (ps_set (i := 7) nd rfl (.inl rfl) (pe_op op_add_str pe_str (pe_callTy call_str_int (by rfl) ms (by decide +kernel) (pa_cons (pv 5) pa_nil))))) pss_nil)
        (pss_one (ps_set (i := 3) nd rfl (.inl rfl) (pe_op op_add_str (pe_op op_add_str (pe_op op_add_str (pe_op op_add_str (pe_op op_add_str (pe_op op_add_str (pv 3) (pe_call GO hr2 rfl mO kO bO .nil pass0 (pa_cons (pv 0) (pa_cons (pv 2) pa_nil)))) (pv 7)) (pe_call GO hr2 rfl mO kO bO .nil pass0 (pa_cons (pv 0) (pa_cons (pv 2) pa_nil)))) pe_str)
          (pe_call G hr rfl mf k b .nil pass0 (pa_cons (pv 0) (pa_cons (pv 6) (pa_cons (pv 2) pa_nil))))) pe_str))))))
      (pss_one (ps_set (i := 3) nd rfl (.inl rfl) (pe_op op_add_str (pe_op op_add_str (pv 3) (pe_call GG hr2 rfl mG kG bG .nil pass0 (pa_cons (pv 0) (pa_cons (pv 2) pa_nil)))) pe_str))))))))))))))
    (pss_one (ps_ret (pv 3)))), ?_⟩
  have hns := hn.ns
  have hae : H a = some (.lst vs) := h0 _ _ ha
  have l1a : ("{" : Str).length = 1 := rfl
  have l1b : ("}" : Str).length = 1 := rfl
  have l1c : ("," : Str).length = 1 := rfl
  have l1d : ("#" : Str).length = 1 := rfl
  refine ⟨_, rfl, a, rfl, ⟨_, SqL.of hae⟩, for_list (K := K) (a := a) (xs := vs) (fun i σ H' => ∃ (l : List Nat) (o4 o5 o6 o7 : Option V), σ = [some (.ref B), some (.ref a), some (.bl lo), some (.str (mkS l)), o4, o5, o6, o7] ∧ Go B H H' ∧ Box H' B d ∧ Lw lo (ch (t.nodes.take i)) l)
    ⟨[], none, none, none, none, rfl, Go.refl B H, hb, rfl, fun _ => rfl⟩ (fun i σ H' _ ⟨_, _, _, _, _, _, g, _⟩ => SqL.of (up_go h0 hB g _ _ ha)) ?_ ?_⟩
  · rintro i x σ H' hx ⟨l, o4, o5, o6, o7, rfl, g, hb', hL⟩
    obtain ⟨u, hu, hun⟩ := hns.get hx
    have um : u ∈ t.nodes := List.mem_of_getElem? hu
    have uw : Wf u false := nodes_wf hw u um
    have us : Sm u := sm_nodes hsm u um
    have ud := dep_nodes u um
    have uz := sz_nodes u um
    have hll : l.length ≤ 3000000 := by
      have z1 := ln_len (sm_ch fun x hx => sm_nodes hsm x (List.mem_of_mem_take hx)) hL.1
      have z2 := ch_take_sz t i
      omega
    have fin : ∀ (ul : List Nat), Lw lo u ul → Lw lo (ch (t.nodes.take (i + 1))) (l ++ ul) := fun ul hul => by
      rw [ch_tk hu]
      exact hL.app hul
    cases u with
    | nil => cases (show [x] = [] from hun)
    | cas k m r => cases uw.1
    | text st r =>
      obtain ⟨p, ws, e, hp, hr'⟩ := hun
      cases e
      have er : r = .nil := by
        have := hr'.length
        cases r <;> first | rfl | (simp [T.len] at this)
      subst er
      have hp' := up_go h0 hB g _ _ hp
      have h3 := escL_len (tl st)
      have h4 := us.1
      rw [len_tl'] at h4
      refine ⟨_, rfl, p, _, 0, .str "text", rfl, rfl, .inl (.inl hp'), atI_nat (j := 0) rfl, rfl, _, rfl, iteT ?_⟩
      refine ⟨_, rfl, _, rfl, p, _, 1, .str st, rfl, rfl, .inl (.inl hp'), atI_nat (j := 1) rfl, st, rfl, us.1, fun H2 s2 => ⟨_, _, rfl, rfl, le_line (by rw [mk_len, mk_len]; omega), ?_⟩⟩
      refine ⟨l ++ escL (tl st), some (.ref p), o5, o6, o7, ?_, g.trans (Go.same s2), hb'.same s2, fin _ ⟨⟨[], by simp, rfl⟩, fun _ => by simp [T.lw]⟩⟩
      rw [← mk_app]
      rfl
    | num r =>
      obtain ⟨p, ws, e, hp, hr'⟩ := hun
      cases e
      have er : r = .nil := by
        have := hr'.length
        cases r <;> first | rfl | (simp [T.len] at this)
      subst er
      have hp' := up_go h0 hB g _ _ hp
      refine ⟨_, rfl, p, _, 0, .str "number", rfl, rfl, .inl (.inl hp'), atI_nat (j := 0) rfl, rfl, _, rfl, iteF ?_⟩
      refine ⟨_, rfl, p, _, 0, .str "number", rfl, rfl, .inl (.inl hp'), atI_nat (j := 0) rfl, rfl, _, rfl, iteF ?_⟩
      refine ⟨_, rfl, p, _, 0, .str "number", rfl, rfl, .inl (.inl hp'), atI_nat (j := 0) rfl, rfl, _, rfl, iteT ?_⟩
      refine ⟨_, rfl, _, _, rfl, rfl, le_line (by rw [mk_len]; omega), ?_⟩
      refine ⟨l ++ [35], some (.ref p), o5, o6, o7, ?_, g, hb', fin _ ⟨⟨[], by simp, rfl⟩, fun _ => by simp [T.lw]⟩⟩
      have : mkS l ++ ("#" : Str) = mkS (l ++ [35]) := mk_app _ _
      rw [← this]
      rfl
    | shw n r =>
      obtain ⟨p, ws, e, hp, hr'⟩ := hun
      cases e
      have er : r = .nil := by
        have := hr'.length
        cases r <;> first | rfl | (simp [T.len] at this)
      subst er
      have hp' := up_go h0 hB g _ _ hp
      have h4 := us.1
      refine ⟨_, rfl, p, _, 0, .str "show", rfl, rfl, .inl (.inl hp'), atI_nat (j := 0) rfl, rfl, _, rfl, iteF ?_⟩
      refine ⟨_, rfl, p, _, 0, .str "show", rfl, rfl, .inl (.inl hp'), atI_nat (j := 0) rfl, rfl, _, rfl, iteT ?_⟩
      refine ⟨_, rfl, _, _, rfl, rfl, le_line (by rw [mk_len]; omega), _, rfl, _, rfl, B, d, lo, rfl, hb', fun g1 H2 q1 k1 e1 gg1 hb2 => ?_⟩
      have hp2 := up_go h0 hB (g.trans gg1) _ _ hp
      refine ⟨_, _, rfl, rfl, le_line (by rw [sl, mk_len]; omega), _, rfl, p, _, 1, .str n, rfl, rfl, .inl (.inl hp2), atI_nat (j := 1) rfl, _, _, rfl, rfl, le_line (by rw [sl, sl, mk_len]; omega), _, rfl, _, rfl, B, d, lo, rfl, hb2, fun g2 H3 q2 k2 e2 gg2 hb3 => ?_⟩
      refine ⟨_, _, rfl, rfl, le_line (by rw [sl, sl, sl, mk_len]; omega), _, _, rfl, rfl, le_line (by rw [sl, sl, sl, sl, mk_len]; omega), ?_⟩
      refine ⟨l ++ ([123] ++ tl g1 ++ tl n ++ tl g2 ++ [125]), some (.ref p), o5, o6, o7, ?_, (g.trans gg1).trans gg2, hb3, fin _ ⟨⟨tl g1, tl g2, [], ⟨q1, by rw [← len_tl']; exact k1⟩, ⟨q2, by rw [← len_tl']; exact k2⟩, by simp, rfl⟩, fun e => ?_⟩⟩
      · have : mkS l ++ ("{" : Str) ++ g1 ++ n ++ g2 ++ ("}" : Str) = mkS (l ++ ([123] ++ tl g1 ++ tl n ++ tl g2 ++ [125])) := by
          refine TL.ext_tl ?_
          rw [TL.tl_append, TL.tl_append, TL.tl_append, TL.tl_append, TL.tl_append]
          show ((((l ++ [123]) ++ tl g1) ++ tl n) ++ tl g2) ++ [125] = l ++ ([123] ++ tl g1 ++ tl n ++ tl g2 ++ [125])
          simp
        rw [← this]
        rfl
      · rw [e1 e, e2 e]
        simp [T.lw, tl_mk]
    | cho hd cs o r =>
      obtain ⟨p, ws, ca, cvs, oa, ovs, e, hp, hc, hcs, ho, hos, hr'⟩ := hun
      cases e
      have er : r = .nil := by
        have := hr'.length
        cases r <;> first | rfl | (simp [T.len] at this)
      subst er
      have hp' := up_go h0 hB g _ _ hp
      obtain ⟨_, wcs, wo, _⟩ := uw.2
      obtain ⟨hh, scs, so, _⟩ := us
      simp only [T.dep] at ud
      simp only [T.sz] at uz
      obtain ⟨x, n', rest, rfl, hx, hnl⟩ : ∃ (x n : Str) (rest : List V), hd = .str x :: .str n :: rest ∧ (x = "select" ∨ x = "plural") ∧ n.length ≤ 20 := by
        rcases hh with ⟨n, rfl, hn⟩ | ⟨n, off, rfl, hn, _⟩
        · exact ⟨"select", n, [], rfl, .inl rfl, hn⟩
        · exact ⟨"plural", n, _, rfl, .inr rfl, hn⟩
      have hxl : x.length = 6 := by rcases hx with rfl | rfl <;> rfl
      have t1 : decide (V.str x = V.str "text") = false := by rcases hx with rfl | rfl <;> decide
      have t2 : decide (V.str x = V.str "show") = false := by rcases hx with rfl | rfl <;> decide
      have t3 : decide (V.str x = V.str "number") = false := by rcases hx with rfl | rfl <;> decide
      refine ⟨_, rfl, p, _, 0, .str x, rfl, rfl, .inl (.inl hp'), atI_nat (j := 0) rfl, rfl, _, rfl, ?_⟩
      rw [t1]
      refine iteF ⟨_, rfl, p, _, 0, .str x, rfl, rfl, .inl (.inl hp'), atI_nat (j := 0) rfl, rfl, _, rfl, ?_⟩
      rw [t2]
      refine iteF ⟨_, rfl, p, _, 0, .str x, rfl, rfl, .inl (.inl hp'), atI_nat (j := 0) rfl, rfl, _, rfl, ?_⟩
      rw [t3]
      refine iteF ?_
      -- the head
      refine ⟨_, rfl, _, _, rfl, rfl, le_line (by simp only [sl, mk_len]; omega), _, rfl, _, rfl, B, d, lo, rfl, hb', fun g1 H2 q1 k1 e1 gg1 hb2 => ?_⟩
      have hp2 := up_go h0 hB (g.trans gg1) _ _ hp
      refine ⟨_, _, rfl, rfl, le_line (by simp only [sl, mk_len]; omega), _, rfl, p, _, 1, .str n', rfl, rfl, .inl (.inl hp2), atI_nat (j := 1) rfl, _, _, rfl, rfl, le_line (by simp only [sl, mk_len]; omega), _, rfl, _, rfl, B, d, lo, rfl, hb2, fun g2 H3 q2 k2 e2 gg2 hb3 => ?_⟩
      refine ⟨_, _, rfl, rfl, le_line (by simp only [sl, mk_len]; omega), _, _, rfl, rfl, le_line (by simp only [sl, mk_len]; omega), ?_⟩
      refine ⟨_, rfl, _, rfl, _, rfl, B, d, lo, rfl, hb3, fun g3 H4 q3 k3 e3 gg3 hb4 => ?_⟩
      have G4 := ((g.trans gg1).trans gg2).trans gg3
      have hp4 := up_go h0 hB G4 _ _ hp
      refine ⟨_, _, rfl, rfl, le_line (by simp only [sl, mk_len]; omega), _, rfl, p, _, 0, .str x, rfl, rfl, .inl (.inl hp4), atI_nat (j := 0) rfl, _, _, rfl, rfl, le_line (by simp only [sl, mk_len]; omega), _, rfl, _, rfl, B, d, lo, rfl, hb4, fun g4 H5 q4 k4 e4 gg4 hb5 => ?_⟩
      refine ⟨_, _, rfl, rfl, le_line (by simp only [sl, mk_len]; omega), _, _, rfl, rfl, le_line (by simp only [sl, mk_len]; omega), ?_⟩
      have G5 := G4.trans gg4
      have hp5 := up_go h0 hB G5 _ _ hp
      have eh : mkS l ++ ("{" : Str) ++ g1 ++ n' ++ g2 ++ ("," : Str) ++ g3 ++ x ++ g4 ++ ("," : Str) = mkS (l ++ ([123] ++ tl g1 ++ tl n' ++ tl g2 ++ [44] ++ tl g3 ++ tl x ++ tl g4 ++ [44])) := by
        refine TL.ext_tl ?_
        simp only [TL.tl_append]
        show ((((((((l ++ [123]) ++ tl g1) ++ tl n') ++ tl g2) ++ [44]) ++ tl g3) ++ tl x) ++ tl g4) ++ [44] = l ++ ([123] ++ tl g1 ++ tl n' ++ tl g2 ++ [44] ++ tl g3 ++ tl x ++ tl g4 ++ [44])
        simp
      rw [eh]
      have Q1 : Gq (tl g1) := ⟨q1, by rw [← len_tl']; exact k1⟩
      have Q2 : Gq (tl g2) := ⟨q2, by rw [← len_tl']; exact k2⟩
      have Q3 : Gq1 (tl g3) := ⟨q3, by rw [← len_tl']; exact k3⟩
      have Q4 : Gq (tl g4) := ⟨q4, by rw [← len_tl']; exact k4⟩
      refine ⟨fun σ' H6 => ∃ (h : List Nat) (o5 o6 o7 : Option V), σ' = [some (.ref B), some (.ref a), some (.bl lo), some (.str (mkS (l ++ h))), some (.ref p), o5, o6, o7] ∧ Go B H H6 ∧ Box H6 B d ∧ Hl (.str x :: .str n' :: rest) h ∧ (lo = false → h = hdT (.str x :: .str n' :: rest)), ?_, ?_⟩
      · have tight : lo = false → [123] ++ tl g1 ++ tl n' ++ tl g2 ++ [44] ++ tl g3 ++ tl x ++ tl g4 ++ [44] = [123] ++ tl n' ++ [44] ++ [32] ++ tl x ++ [44] := fun e => by
          rw [e1 e, e2 e, e3 e, e4 e]
          simp [tl_mk]
        refine ⟨_, rfl, p, _, 0, .str x, rfl, rfl, .inl (.inl hp5), atI_nat (j := 0) rfl, rfl, _, rfl, ?_⟩
        rcases hh with ⟨n, e, _⟩ | ⟨n, off, e, _, f0, f9⟩
        · cases e
          refine iteF (iteF ?_)
          exact ⟨_, o5, o6, o7, rfl, G5, hb5, ⟨_, _, _, _, Q1, Q2, Q3, Q4, rfl⟩, tight⟩
        · cases e
          refine iteT ⟨_, rfl, p, _, 2, .int off, rfl, rfl, .inl (.inl hp5), atI_nat (j := 2) rfl, _, _, rfl, rfl, _, rfl, ?_⟩
          by_cases hz0 : off = 0
          · subst hz0
            refine iteF ?_
            exact ⟨_, o5, o6, o7, rfl, G5, hb5, ⟨_, _, _, _, [], Q1, Q2, Q3, Q4, (List.append_nil _).symm, .inl ⟨rfl, rfl⟩⟩, fun e => by rw [tight e]; simp [hdT]⟩
          · have hpos : (decide ((0 : Int) < off)) = true := decide_eq_true (by omega)
            rw [hpos]
            obtain ⟨hsl, hsg⟩ := show_len f0 (show off ≤ 999 by omega)
            have lof : ("offset:" : Str).length = 7 := rfl
            have lq1 := k1
            have hbig : ([123] ++ tl g1 ++ tl n' ++ tl g2 ++ [44] ++ tl g3 ++ tl ("plural" : Str) ++ tl g4 ++ [44]).length ≤ 60 := by
              have z1 := Q1.2
              have z2 := Q2.2
              have z3 := Q3.2
              have z4 := Q4.2
              have z5 : (tl ("plural" : Str)).length = 6 := rfl
              have z6 := hnl
              rw [len_tl'] at z6
              simp only [List.length_append, List.length_cons, List.length_nil]
              omega
            refine iteT ⟨_, rfl, _, rfl, _, rfl, B, d, lo, rfl, hb5, fun g5 H6 q5 k5 e5 gg5 hb6 => ?_⟩
            have hp6 := up_go h0 hB (G5.trans gg5) _ _ hp
            have hb1 : ∀ {b c : List Nat}, b.length ≤ 60 → (mkS (l ++ b)).length ≤ 3000060 := fun hb => by
              rw [mk_len, List.length_append]
              omega
            have hB1 := hb1 (c := []) hbig
            refine ⟨_, _, rfl, rfl, le_line (by omega), _, _, rfl, rfl, le_line (by rw [sl]; omega), _, rfl, p, _, 2, .int off, rfl, rfl, .inl (.inl hp6), atI_nat (j := 2) rfl, off, rfl, hsg, _, _, rfl, rfl, le_line (by rw [sl, sl]; omega), ?_⟩
            refine ⟨[123] ++ tl g1 ++ tl n' ++ tl g2 ++ [44] ++ tl g3 ++ tl ("plural" : Str) ++ tl g4 ++ [44] ++ (tl g5 ++ offW off), o5, o6, o7, ?_, G5.trans gg5, hb6, ⟨_, _, _, _, tl g5 ++ offW off, Q1, Q2, Q3, Q4, rfl, .inr ⟨hz0, tl g5, ⟨q5, by rw [← len_tl']; exact k5⟩, rfl⟩⟩, fun e => ?_⟩
            · have eo : mkS (l ++ ([123] ++ tl g1 ++ tl n' ++ tl g2 ++ [44] ++ tl g3 ++ tl ("plural" : Str) ++ tl g4 ++ [44])) ++ g5 ++ ("offset:" : Str) ++ (toString off : Str) = mkS (l ++ ([123] ++ tl g1 ++ tl n' ++ tl g2 ++ [44] ++ tl g3 ++ tl ("plural" : Str) ++ tl g4 ++ [44] ++ (tl g5 ++ offW off))) := by
                refine TL.ext_tl ?_
                simp only [TL.tl_append]
                show (((l ++ ([123] ++ tl g1 ++ tl n' ++ tl g2 ++ [44] ++ tl g3 ++ tl ("plural" : Str) ++ tl g4 ++ [44])) ++ tl g5) ++ tl "offset:") ++ tl (toString off : Str) = l ++ ([123] ++ tl g1 ++ tl n' ++ tl g2 ++ [44] ++ tl g3 ++ tl ("plural" : Str) ++ tl g4 ++ [44] ++ (tl g5 ++ (tl "offset:" ++ tl (toString off : Str))))
                simp
              rw [← eo]
              rfl
            · rw [tight e, e5 e]
              simp [hdT, hz0, tl_mk]
      rintro σ' H6 ⟨h, o5, o6, o7, rfl, G6, hb6, hH, hT⟩
      have hp6 := up_go h0 hB G6 _ _ hp
      have hc6 := up_go h0 hB G6 _ _ hc
      obtain ⟨ks, hks, hkl, hkd, hki⟩ := cas_ch hcs wcs scs
      have hhl := hl_len hh hH
      have hclen : cvs.length < 1000000 := by
        have := hcs.length
        have := len_sz cs
        omega
      refine ⟨_, rfl, 2, rfl, p, _, -2, .ref ca, rfl, rfl, .inl (.inl hp6), atI_m2 _ _ _, _, rfl, 1, rfl, p, _, -1, .ref oa, rfl, rfl, .inl (.inl hp6), atI_m1 _ _ _, by show 2 ≤ sizeLine; decide, fun r1 hr1 => ⟨by show 1 ≤ sizeLine; decide, fun l3 hl3 => ?_⟩⟩
      have n1B := hb6.neB hr1
      have hb7 := hb6.new hr1 (.tup [.str "other", .ref oa])
      have n3B := hb7.neB hl3
      have hb8 := hb7.new hl3 (.lst [.ref r1])
      have D1 := Go.new (B := B) hr1 (.tup [.str "other", .ref oa])
      have D3 := Go.new (B := B) hl3 (.lst [.ref r1])
      have hca8 := up_go h0 hB ((G6.trans D1).trans D3) _ _ hc
      refine ⟨ca, l3, cvs, [.ref r1], rfl, rfl, hca8, upd_same, le_line (by show cvs.length + 1 < 10000000; omega), fun l4 hl4 => ⟨l4, rfl, ⟨_, SqL.of upd_same⟩, ?_⟩⟩
      have n4B := hb8.neB hl4
      have hb9 := hb8.new hl4 (.lst (cvs ++ [.ref r1]))
      have D4 := Go.new (B := B) hl4 (.lst (cvs ++ [.ref r1]))
      have hr1' := (D3.trans D4).ext _ _ n1B (upd_same (H := H6) (a := r1) (o := .tup [.str "other", .ref oa]))
      refine for_list (K := K) (a := l4) (xs := cvs ++ [.ref r1]) (fun j σ' H7 => ∃ (cl : List Nat) (o5 o6 o7 : Option V), σ' = [some (.ref B), some (.ref a), some (.bl lo), some (.str (mkS (l ++ h ++ cl))), some (.ref p), o5, o6, o7] ∧ Go B H H7 ∧ Box H7 B d ∧ H7 l4 = some (.lst (cvs ++ [.ref r1])) ∧ H7 r1 = some (.tup [.str "other", .ref oa]) ∧ Cj lo cs o ks j cl)
        ⟨[], o5, o6, o7, by rw [List.append_nil], ((G6.trans D1).trans D3).trans D4, hb9, upd_same, hr1', .inl ⟨Nat.zero_le _, by rw [List.take_zero]; exact ⟨rfl, fun _ => rfl⟩⟩⟩ (fun j σ' H7 _ ⟨_, _, _, _, _, _, _, h, _⟩ => SqL.of h) ?_ ?_
      · rintro j v σ' H7 hv ⟨cl, o5, o6, o7, rfl, G7, hb7', h4', h1', hC⟩
        -- which case it is
        have hj : j < ks.length ∨ (j = ks.length ∧ v = .ref r1) := by
          by_cases z : j < cvs.length
          · exact .inl (by omega)
          · refine .inr ?_
            rw [List.getElem?_append_right (by omega)] at hv
            have z2 : j - cvs.length = 0 := by
              by_cases z3 : j - cvs.length = 0
              · exact z3
              · rw [List.getElem?_eq_none (by simp; omega)] at hv
                cases hv
            rw [z2] at hv
            have : V.ref r1 = v := by simpa using hv
            exact ⟨by omega, this.symm⟩
        have hC1 : Lw lo (cch (ks.take j)) cl := by
          rcases hC with ⟨_, h⟩ | ⟨h, _⟩
          · exact h
          · exact absurd h (by rcases hj with z | ⟨z, _⟩ <;> omega)
        obtain ⟨kv, b', mt, a', rfl, hT, hbm, wm, sm', dm, zm, kk, hcase⟩ : ∃ (kv : V) (b' : Addr) (mt : T) (a' : Addr), v = .ref a' ∧ H7 a' = some (.tup [kv, .ref b']) ∧ At H0 b' mt ∧ Wf mt false ∧ Sm mt ∧ mt.dep < n ∧ mt.sz < 30000 ∧ KeyS kv ∧ ((∃ q : V × T, ks[j]? = some q ∧ kv = q.1 ∧ mt = q.2) ∨ (j = ks.length ∧ kv = .str "other" ∧ mt = o)) := by
          rcases hj with z | ⟨z, rfl⟩
          · rw [List.getElem?_append_left (by omega)] at hv
            obtain ⟨qq, a', b', f1, rfl, f2, f3, f4, f5, f6⟩ := hki j v hv
            have f7 := hkd qq (List.mem_of_getElem? f1)
            exact ⟨qq.1, b', qq.2, a', rfl, up_go h0 hB G7 _ _ f2, f3, f4, f5, by omega, by omega, f6, .inl ⟨qq, f1, rfl, rfl⟩⟩
          · exact ⟨.str "other", oa, o, r1, rfl, h1', ⟨ovs, ho, hos⟩, wo, so, by omega, by omega, .inl ⟨"other", rfl, by decide⟩, .inr ⟨z, rfl, rfl⟩⟩
        have kl := keyL_len kk
        have hcl : cl.length ≤ 3000000 := by
          have scs' := scs
          rw [hks] at scs'
          obtain ⟨z1, z2⟩ := cch_take ks j scs'
          have z3 := ln_len z1 hC1.1
          rw [← hks] at z2
          omega
        have hL0 : (l ++ h ++ cl).length ≤ 6000060 := by
          rw [List.length_append, List.length_append]
          omega
        refine ⟨a', _, rfl, .inl (.inl hT), rfl, kv, _, rfl, .ref b', [], rfl, rfl, ?_⟩
        refine ⟨_, rfl, ?_⟩
        refine ⟨fun σ' H8 => σ' = [some (.ref B), some (.ref a), some (.bl lo), some (.str (mkS (l ++ h ++ cl))), some (.ref p), some kv, some (.ref b'), some (.str (mkS (keyL kv)))] ∧ H8 = H7, ?_, ?_⟩
        · rcases kk with ⟨s, rfl, hs⟩ | ⟨i', rfl, i0, i9⟩
          · refine ⟨_, rfl, .str s, .ty "str", .type "str", .type "str", true, rfl, .ty "str", .base (.str s), kit_ty (by decide +kernel), true, rfl, ?_⟩
            refine iteF ?_
            exact ⟨rfl, rfl⟩
          · obtain ⟨hsl, hsg⟩ := show_len i0 i9
            have l61 : ("=" : Str).length = 1 := rfl
            refine ⟨_, rfl, .int i', .ty "str", .type "int", .type "str", false, rfl, .ty "str", .base (.int i'), kit_ty (by decide +kernel), false, rfl, ?_⟩
            refine iteT ⟨_, rfl, i', rfl, hsg, _, _, rfl, rfl, le_line (by omega), ?_, rfl⟩
            have : ("=" : Str) ++ (toString i' : Str) = mkS (keyL (.int i')) := app_mk _ _
            rw [← this]
            rfl
        rintro σ' H8 ⟨rfl, rfl⟩
        refine ⟨_, rfl, _, rfl, _, rfl, B, d, lo, rfl, hb7', fun g5 H9 q5 k5 e5 gg5 hb9' => ?_⟩
        refine ⟨_, _, rfl, rfl, le_line (by rw [mk_len]; omega), _, rfl, _, _, rfl, rfl, le_line (by simp only [sl, mk_len]; omega), _, rfl, _, rfl, B, d, lo, rfl, hb9', fun g6 H10 q6 k6 e6 gg6 hb10 => ?_⟩
        refine ⟨_, _, rfl, rfl, le_line (by simp only [sl, mk_len]; omega), _, _, rfl, rfl, le_line (by simp only [sl, mk_len]; omega), ?_⟩
        refine ⟨_, rfl, _, rfl, _, rfl, B, d, b', lo, H0, mt, rfl, hb10, up_go h0 hB ((G7.trans gg5).trans gg6), hB, hbm, wm, sm', dm, zm, fun ml H11 hml gg7 hb11 => ?_⟩
        have hmll : ml.length ≤ 3000000 := by
          have := ln_len sm' hml.1
          omega
        refine ⟨_, _, rfl, rfl, le_line (by simp only [sl, mk_len]; omega), _, _, rfl, rfl, le_line (by simp only [sl, mk_len]; omega), ?_⟩
        have ef : mkS (l ++ h ++ cl) ++ g5 ++ mkS (keyL kv) ++ g6 ++ ("{" : Str) ++ mkS ml ++ ("}" : Str) = mkS (l ++ h ++ (cl ++ (tl g5 ++ keyL kv ++ tl g6 ++ [123] ++ ml ++ [125]))) := by
          refine TL.ext_tl ?_
          simp only [TL.tl_append]
          show ((((((l ++ h ++ cl) ++ tl g5) ++ keyL kv) ++ tl g6) ++ [123]) ++ ml) ++ [125] = l ++ h ++ (cl ++ (tl g5 ++ keyL kv ++ tl g6 ++ [123] ++ ml ++ [125]))
          simp
        have GG := ((G7.trans gg5).trans gg6).trans gg7
        have g8 := (gg5.trans gg6).trans gg7
        have Q5 : Gq1 (tl g5) := ⟨q5, by rw [← len_tl']; exact k5⟩
        have Q6 : Gq1 (tl g6) := ⟨q6, by rw [← len_tl']; exact k6⟩
        refine ⟨cl ++ (tl g5 ++ keyL kv ++ tl g6 ++ [123] ++ ml ++ [125]), some kv, some (.ref b'), some (.str (mkS (keyL kv))), ?_, GG, hb11, g8.ext _ _ n4B h4', g8.ext _ _ n1B h1', ?_⟩
        · rw [← ef]
          rfl
        · rcases hcase with ⟨qq, f1, rfl, rfl⟩ | ⟨z, rfl, rfl⟩
          · refine .inl ⟨(List.getElem?_eq_some_iff.mp f1).1, ?_⟩
            rw [List.take_succ, f1]
            show Lw lo (cch (ks.take j ++ [qq])) _
            rw [cch_app]
            exact hC1.app ⟨⟨tl g5, tl g6, ml, [], Q5, Q6, hml.1, by simp, rfl⟩, fun e => by rw [e5 e, e6 e, hml.2 e]; simp [T.lw, tl_mk]⟩
          · refine .inr ⟨by omega, cl, tl g5, tl g6, ml, ?_, Q5, Q6, hml, by simp [keyL], fun e => ⟨by rw [e5 e]; rfl, by rw [e6 e]; rfl⟩⟩
            rw [z, List.take_length, ← hks] at hC1
            exact hC1
      · rintro σ' H7 ⟨cl, o5, o6, o7, rfl, G7, hb7', h4', h1', hC⟩
        rw [List.length_append, ← hkl] at hC
        have hC2 : ∃ cl0 g5 g6 ol, Lw lo cs cl0 ∧ Gq1 g5 ∧ Gq1 g6 ∧ Lw lo o ol ∧ cl = cl0 ++ g5 ++ tl "other" ++ g6 ++ [123] ++ ol ++ [125] ∧ (lo = false → g5 = [32] ∧ g6 = [32]) := by
          rcases hC with ⟨h, _⟩ | ⟨_, h⟩
          · exact absurd h (by show ¬ ks.length + 1 ≤ ks.length; omega)
          · exact h
        obtain ⟨cl0, g5, g6, ol, L0, Q5, Q6, L1, rfl, tg⟩ := hC2
        have z1 := ln_len scs L0.1
        have z2 := ln_len so L1.1
        have z3 := Q5.2
        have z4 := Q6.2
        have z5 : (tl ("other" : Str)).length = 5 := rfl
        have zz : (l ++ h ++ (cl0 ++ g5 ++ tl "other" ++ g6 ++ [123] ++ ol ++ [125])).length ≤ 9100000 := by
          simp only [List.length_append, List.length_cons, List.length_nil]
          omega
        refine ⟨_, rfl, _, rfl, _, rfl, B, d, lo, rfl, hb7', fun g7 H9 q7 k7 e7 gg7 hb9' => ?_⟩
        refine ⟨_, _, rfl, rfl, le_line (by rw [mk_len]; omega), _, _, rfl, rfl, le_line (by simp only [sl, mk_len]; omega), ?_⟩
        have ef : mkS (l ++ h ++ (cl0 ++ g5 ++ tl "other" ++ g6 ++ [123] ++ ol ++ [125])) ++ g7 ++ ("}" : Str) = mkS (l ++ (h ++ cl0 ++ g5 ++ tl "other" ++ g6 ++ [123] ++ ol ++ [125] ++ tl g7 ++ [125])) := by
          refine TL.ext_tl ?_
          simp only [TL.tl_append]
          show ((l ++ h ++ (cl0 ++ g5 ++ tl "other" ++ g6 ++ [123] ++ ol ++ [125])) ++ tl g7) ++ [125] = l ++ (h ++ cl0 ++ g5 ++ tl "other" ++ g6 ++ [123] ++ ol ++ [125] ++ tl g7 ++ [125])
          simp
        refine ⟨l ++ (h ++ cl0 ++ g5 ++ tl "other" ++ g6 ++ [123] ++ ol ++ [125] ++ tl g7 ++ [125]), some (.ref p), o5, o6, o7, ?_, G7.trans gg7, hb9', fin _ ⟨⟨h, cl0, g5, g6, ol, tl g7, [], hH, L0.1, Q5, Q6, L1.1, ⟨q7, by rw [← len_tl']; exact k7⟩, by simp, rfl⟩, fun e => ?_⟩⟩
        · rw [← ef]
          rfl
        · obtain ⟨t5, t6⟩ := tg e
          rw [hT e, L0.2 e, L1.2 e, t5, t6, e7 e]
          simp [T.lw, tl_mk]
  · rintro σ H' ⟨l, o4, o5, o6, o7, rfl, g, hb', hL⟩
    rw [hns.length, List.take_length, ch_nodes] at hL
    exact ⟨_, rfl, q l H' hL g hb'⟩
theorem ok_wr {f fE fG fO : Addr} {fd fdE fdG fdO : FuncData} (F : Fun K "_law_written" "_law_written" sWr f fd) (b : Binds K fd ["box", "message", "loose"] []) (mf : mg "_law_written" = some (.ref f))
    (GE : FnOk P w K mg base CX0 1 fE fdE ["text"] spEsc) (bE : Binds K fdE ["text"] []) (kE : PySem.W.keepIn K (.ref fE) = true) (mE : mg "_law_escaped" = some (.ref fE))
    (GG : FnOk P w K mg base CX0 2 fG fdG ["box", "loose"] spGap) (bG : Binds K fdG ["box", "loose"] []) (kG : PySem.W.keepIn K (.ref fG) = true) (mG : mg "_law_gap" = some (.ref fG))
    (GO : FnOk P w K mg base CX0 2 fO fdO ["box", "loose"] spOne) (bO : Binds K fdO ["box", "loose"] []) (kO : PySem.W.keepIn K (.ref fO) = true) (mO : mg "_law_one_gap" = some (.ref fO))
    (mi : mg "isinstance" = none) (ms : mg "str" = none) : ∀ n, FnOk P w K mg base CX0 (n + 2) f fd ["box", "message", "loose"] (spWr n)
  | 0 => (none_left fun vs H Q E ⟨_, _, _, _, _, _, _, _, _, _, _, _, _, h, _⟩ => Nat.not_lt_zero _ h).mono (Nat.zero_le _)
  | n + 1 => ok_wr_turn (m := n + 2) (by omega) F (ok_wr F b mf GE bE kE mE GG bG kG mG GO bO kO mO mi ms n) b mf GE bE kE mE GG bG kG mG GO bO kO mO mi ms
end
end Mw

/-! for k in d, d a dict that the module wrote -/
namespace Kg
open PySem PySem.Spec PyProof.Rows L2
def KeysAre (es : Array DictEntry) (ks : List Str) : Prop := es.size = ks.length ∧ ∀ i k, ks[i]? = some k → ∃ (hi : i < es.size) (t : Tok), es[i].key = .str k t
def Itkk (ks : List Str) : It := ⟨fun i _ => i < ks.length, fun i H x H' => H' = H ∧ ∃ k, ks[i]? = some k ∧ x = .str k, fun i _ => ks.length ≤ i⟩
def iKKeys (d : Addr) (ks : List Str) (td : TE) : TI := fun σ H R => td σ H fun x H1 => x = .ref d ∧ R (Itkk ks) H1
section
variable {P : Program} {w : World} {K : PySem.W.Frag} {tg : Expr} {d : Addr} {es : Array DictEntry} {n : Nat} {ks : List Str}
theorem turn_kkeys (D : KDict K w d es n) (hk : KeysAre es ks) (it : Addr) : Turn P w K tg (Itkk ks) [it] it (fun i h => h.IsKeyIter it d i es.size n) where
  mem := by simp
  obj := fun i h st b hb => by
    have e : b = it := by simpa using hb
    subst e
    obtain ⟨oi, e, c, dd⟩ := st
    exact ⟨oi, e, fun v z => by rw [dd] at z; cases z⟩
  keep := fun i h h' st k => st.at fun oi e => k it (by simp) oi e
  item := by
    intro X hP hw hK hc i pins s σ H E I hf st hg
    subst hP hw hK
    obtain ⟨f0, f1, f2, f3, f4, f5⟩ := hf it (by simp)
    have hd : s.heap.get? d = some ⟨.type "dict", none, .dict es n, #[]⟩ := I.kIn _ _ D.at_
    have hr : s.heap.DictRaw d es n := ⟨_, hd, ⟨rfl, rfl, rfl⟩, rfl⟩
    have hks : ks[i]? = some (ks[i]'hg) := List.getElem?_eq_getElem hg
    obtain ⟨hi, t, hkey⟩ := hk.2 i _ hks
    refine wpAny_pyNext_keys_item_raw st hr hi fun h' st' sb => ?_
    have I1 : Inv X pins σ H { s with heap := h' } := I.turned (t' := s.toks) (fun b ob hb e => (sb.2 b hb).trans e) f0 f1 f3 f4 f5
    obtain ⟨oi, e, c, dd⟩ := id st'
    exact ⟨_, rfl, go_of (s := { s with heap := h' }) e c dd (by decide) ⟨.str (ks[i]'hg), H, I1, by rw [hkey]; exact ⟨t, rfl⟩, ⟨rfl, _, hks, rfl⟩, st', fun b hb => (hf b hb).1⟩⟩
  done := by
    intro X hP hw hK hc i pins s σ H E I hf st hg
    subst hP hw hK
    obtain ⟨f0, f1, f2, f3, f4, f5⟩ := hf it (by simp)
    have hd : s.heap.get? d = some ⟨.type "dict", none, .dict es n, #[]⟩ := I.kIn _ _ D.at_
    exact next_key_end (I.ok.hd hc) st hd rfl rfl (by rw [hk.1]; exact hg) fun h' eb => ⟨rfl, I.turned (t' := s.toks) (fun b ob hb e => eb b ob hb e) f0 f1 f3 f4 f5⟩
  self := fun A i s Q E st h => wpAny_pyIter_keyiter st h
end
section
variable {X : Cx} {tg e : Expr} {td : TE} {d : Addr} {es : Array DictEntry} {n : Nat} {ks : List Str}
theorem pi_kkeys (D : KDict X.K X.w d es n) (hk : KeysAre es ks) (he : PE X e td) : PI X tg e (iKKeys d ks td) := by
  refine ⟨fun pins s σ H R I h => ?_⟩
  refine thn (he.run pins s σ H _ I h) fun u s1 ⟨x, H1, I1, rx, ex, q⟩ => ?_
  subst ex
  obtain rfl : u = Value.ref d := rx
  have hd : s1.heap.get? d = some ⟨.type "dict", none, .dict es n, #[]⟩ := I1.kIn _ _ D.at_
  exact iter_keys D.low hd ⟨rfl, rfl, rfl⟩ rfl (pi_one (tk := s1.toks) I1 _ (turn_kkeys D hk _) ⟨_, Heap.get?_push_size _ rfl, rfl, rfl⟩ q)
end
end Kg

/-! an __init__ whose first statement is super().__init__(..), of an own class below ValueError -/
namespace Sx
open PySem PySem.Spec PyProof.Rows L2 NdefX
/-- what the row says of the class at C (the cell cc holds it) and of its __init__ at f -/
structure Sup (P : Program) (K : PySem.W.Frag) (mg : Str → Option Value) (C cc cda f : Addr) (F : NF) (ps : List Str) : Prop where
  T : OexC K C
  fn : ∃ (dV kV doc pm ct oc : Value) (an od : Option Addr) (osl : Array (Option Value)), K.lookup f = some ⟨oc, od, .func (PySem.W.fnX F.name F.qual F.params F.body F.scope F.cl dV kV doc pm an (.ref F.c) ct), osl⟩
  cl : F.cl = [(("__class__" : Str), cc)]
  fc : F.c = cda
  cd : PySem.W.codeIn K (.ref cda) F.qual = true
  ar : ∃ ar : Arg, (F.params.posonlyargs ++ F.params.args).head? = some ar ∧ ps[0]? = some ar.arg
  code : ∃ (ccl : Value) (cdd : Option Addr) (vs : Array Value) (ccs : Array (Option Value)) (file : Str) (tf : Tok), K.lookup cda = some ⟨ccl, cdd, .fields vs, ccs⟩ ∧ vs[2]? = some (.str file tf) ∧ ((P.main.file : Str) == file) = true
  cell : ∃ (c1 : Value) (d1 : Option Addr) (s1 : Array (Option Value)), K.lookup cc = some ⟨c1, d1, .cell (some (.ref C)), s1⟩
  isC : ∃ cd, PySem.W.clsIn K C = some cd
  sub : PySem.W.mroIn K C (.ref C) = some true
  gs : mg "super" = none
  ks : F.scope.names.lookup ("super" : Str) = some .globalImplicit
  top : (P.main.scope.names.lookup ("super" : Str)).isSome = false
  sm : PySem.W.ks_superIn K C C "__init__" = some (some (.builtin "ValueError.__init__"))
  opq : PySem.W.nsIn K cStatics "thirdparty.any" = some none
  isV : PySem.W.subIn K (.ref C) (.type "ValueError") = some true
section
variable {M : Model} {A : Around} {E : Value → Shared → Prop} {h : Heap} {g : Array GenState} {d : Drawn} {t : Nat} {os : OsState}
variable {nm q : Str} {C N : Addr} {bs bm : List Value} {hdct : Bool} {sn : List Str} {sub : List Value} {ab : Bool} {col : Option Bool} {dd : Option Addr} {k0 k1 k2 k3 k5 : Option Value}
theorem cw_mw {pos : Pos} {u x : Addr} {i : String} {env : Env} {e : Expr} {es : List Expr} {s : Shared} {Q : Value → Shared → Prop} (he : starEach (e :: es) env = (false, eval e env) :: starEach es env) (hpl : (backTo pos (starEach es env)).any (·.1) = false)
    (h : wpAny M A (spliced (backTo pos (starEach (e :: es) env))) (fun vs s1 => PySem.W.KxsAt i u x s1.heap ∧ wpAny M A (call (.ref u) vs) Q E s1) E s) : wpAny M A (callWith pos (.ref u) [] (backTo pos (starEach (e :: es) env)) []) Q E s := by
  have hb : (backTo pos (starEach (e :: es) env)).any (·.1) = false := by
    rw [he]
    show (false || (backTo pos (starEach es env)).any (·.1)) = false
    rw [hpl]
    rfl
  refine PySem.W.kxs_callWith (i := i) (x := x) hb ?_
  rw [he] at h ⊢
  exact Calls.evalArgs_plain h
theorem call_mw {P : Program} {w : World} {u e t0 : Addr} {us : List Value} {Q : Value → Shared → Prop} (hC : h.get? C = some (excClassObj nm q C N bs bm hdct sn sub ab col dd k0 k1 k2 k3 k5 "ValueError.__new__"))
    (he : h.get? e = some (HandSPX.excO C t0)) (hu : h.get? u = some (PySem.W.kxs_mw "ValueError.__init__" e)) (hl : us.length ≤ sizeLine)
    (hq : ∀ h' t1, (∀ b o, b ≠ e → h.get? b = some o → h'.get? b = some o) → h'.get? e = some (HandSPX.excO C t1) → Q .none ⟨h', g, d, t, os⟩) : wpAny (model P w) A (call (.ref u) us) Q E ⟨h, g, d, t, os⟩ := by
  refine wpAny_call (codeAny_of_tree ?_)
  show wpAny (model P w) A.in1 (callAny (Value.ref u) ⟨us, []⟩) _ _ _
  simp only [callAny]
  refine wpAny_bind (wpAny_load hu ?_)
  have tw : (Value.type "method-wrapper" == Value.type "method" || Value.type "method-wrapper" == Value.type "builtin_function_or_method" || Value.type "method-wrapper" == Value.type "method-wrapper") = true := by decide
  simp only [PySem.W.kxs_mw, tw, if_true]
  refine PySem.W.KFB.if_so (by decide) ?_
  refine wpAny_bind (PySem.W.check_bound_init F.excBase_ValueError.toExcCallFacts hC he rfl ?_)
  refine wpAny_bind (wpAny_pure (wpAny_pure ?_))
  refine ⟨plainId_quiet F.excBase_ValueError.init.plain _, codeAny_builtin F.excBase_ValueError.initEntry ?_⟩
  rw [Around.under_plainId F.excBase_ValueError.init.plain _]
  refine PySem.W.exc_init_tree (cls := .ref C) (t0 := t0) (dv := none) (c2 := .none) (c3 := .none) (b4 := .bool false) he hl (fun h' k e' _ => ?_)
  exact hq h' _ k e'
end
section
variable {CX : CXT} {P : Program} {w : World} {K : PySem.W.Frag} {mg : Str → Option Value} {base : Heap} {C cc cda f : Addr} {F : NF} {N ps : List Str} {k : Nat} {sp : Sp} {body rest : List Stmt} {p0 p1 p2 p3 p4 : Pos} {e : Expr} {es : List Expr}
theorem fn_super {dV kV doc pm ct : Value} {an : Option Addr} {oc : Value} {od : Option Addr} {osl : Array (Option Value)} (U : Sup P K mg C cc cda f F ps) (lk : K.lookup f = some ⟨oc, od, .func (PySem.W.fnX F.name F.qual F.params F.body F.scope F.cl dV kV doc pm an (.ref F.c) ct), osl⟩)
    (S : NScope N ps ["__class__"] F.scope)
    (hbd : F.body = .Expr (.Call (.Attribute (.Call (.Name "super" p0) [] [] p1) "__init__" p2) (e :: es) [] p3) p4 :: rest)
    (len : ∀ vs H Q E, sp vs H Q E → vs.length = ps.length)
    (he : ∀ env, starEach (e :: es) env = (false, eval e env) :: starEach es env) (hpl : ∀ env, (backTo p3 (starEach es env)).any (·.1) = false)
    (hev : ∀ env, eval (.Call (.Attribute (.Call (.Name "super" p0) [] [] p1) "__init__" p2) (e :: es) [] p3) env = (do
      let ov ← attributeBase (.Call (.Name "super" p0) [] [] p1) "__init__" env (eval (.Call (.Name "super" p0) [] [] p1) env)
      standAt p2.atName
      let (f, first) ← holding [ov] (getMethod ov "__init__" (pure false))
      callWith p3 f first (backTo p3 (starEach (e :: es) env)) []))
    (hin : ∀ env : Env, env.scope = F.scope → interactive env = false)
    (hsw : ∀ env : Env, swapsWith (.Call (.Attribute (.Call (.Name "super" p0) [] [] p1) "__init__" p2) (e :: es) [] p3) none p4.line env = pure false)
    (hbody : ∀ (A : Around) (outer : List Env) (s : Shared) (H : Hp) (vs : List V) (Q : VK) (E : XK), Room k (A.deeper (envF F f s.heap.objs.size)) → sp vs H Q E →
      ∃ (x : Addr) (ta : TA) (t : TS), vs[0]? = some (.ref x) ∧ H x = some (exo x C none) ∧ PA (ncx CX P w K mg base N F f A outer s H E) (e :: es) ta ∧ PSs (ncx CX P w K mg base N F f A outer s H E) rest t ∧
        ta (startF N vs [none]) H fun us H1 => us.length ≤ 1000 ∧ H1 x = some (exo x C none) ∧ t { nx := fun _ H' => Q .non H', rt := Q } (startF N vs [none]) H1) :
    FnOk P w K mg base CX (k + 1) f (PySem.W.fnX F.name F.qual F.params F.body F.scope F.cl dV kV doc pm an (.ref F.c) ct) ps sp := by
  refine ⟨len, fun A outer s H args us vs Q E hr e0 hb r hsp => ?_⟩
  have hl := len _ _ _ _ hsp
  have KX : K.In s.heap := e0.mod.kin.keeps fun b o z => (e0.bs b o z).1
  have lim : s.heap.NoLimit := e0.mod.nolimit.keeps fun b o z => (e0.bs b o z).1
  obtain ⟨ar, ha1, ha2⟩ := U.ar
  obtain ⟨ccl, cdd, cvs, ccs, file, tf, hco, hv2, hfi⟩ := U.code
  obtain ⟨c1, d1, s1, hce⟩ := U.cell
  obtain ⟨cdC, hcC⟩ := U.isC
  have hfc := U.fc
  subst hfc
  refine PySem.ks_codeAny_call_defAt (fd := PySem.W.fnX F.name F.qual F.params F.body F.scope F.cl dV kV doc pm an (.ref F.c) ct) hr.depth (KX _ _ lk) rfl lim (PySem.W.codeRec_of KX U.cd) rfl hb S.nocell (fun ⟨n, _⟩ hy => S.par n (List.of_mem_zip hy).1) (fun h₁ hns kp => ?_) S.co S.gen S.kind
  show PySem.wpAt (model P w) (A.deeper (envF F f s.heap.objs.size)) (.func F.body (envF F f s.heap.objs.size)) (execs F.body (envF F f s.heap.objs.size)) _ _ _
  obtain ⟨x, ta, t, hx0, hHx, hA, hS, hq⟩ := hbody A outer s H vs Q E (hr.deeper _) hsp
  have CA : CellsAt F.cl ["__class__"] [none] s.heap H := by
    have hcb := e0.bs cc _ (e0.mod.kin _ _ hce)
    rw [U.cl]
    refine ⟨rfl, fun y c z => ?_, fun y z c a b => ?_, fun i y hy => ?_⟩
    · have : y = "__class__" ∧ c = cc := by
        simp only [List.lookup] at z
        split at z
        · rename_i q
          exact ⟨by simpa using q, (Option.some.inj z).symm⟩
        · cases z
      rw [this.2]
      exact ⟨hcb.2, _, ⟨_, hcb.1, rfl⟩⟩
    · simp only [List.lookup] at a b
      split at a
      · split at b
        · rename_i q1 _ q2
          rw [show y = "__class__" by simpa using q1, show z = "__class__" by simpa using q2]
        · cases b
      · cases a
    · have : y = "__class__" := by
        cases i with
        | zero => exact (Option.some.inj hy).symm
        | succ i => simp at hy
      subst this
      refine ⟨cc, by simp [List.lookup], fun v hv => ?_⟩
      cases i with
      | zero => cases hv
      | succ i => simp at hv
  have I : Inv (ncx CX P w K mg base N F f A outer s H E) [] (startF N vs [none]) H { s with heap := h₁, toks := s.toks + (ps.zip us).length } := inv_startN S hr.hd e0 hl r CA hns kp
  have KX1 : K.In h₁ := KX.keeps kp
  have hkc : F.scope.names.lookup ("__class__" : Str) = some .free := S.frk _ List.mem_cons_self
  have npar : ps.Nodup := by
    have q := S.pre
    have z : (N.take (ps.length + [("__class__" : Str)].length)).Nodup := S.nd.sublist (List.take_sublist _ N)
    rw [q] at z
    exact (List.nodup_append.mp z).1
  have hux : us[0]? = some (.ref x) := by
    cases r with
    | nil => simp at hx0
    | @cons v0 u0 vr ur rv rr =>
      simp at hx0
      subst hx0
      obtain rfl : u0 = Value.ref x := rv
      rfl
  have hself : (ps.zip us).reverse.lookup ar.arg = some (.ref x) := zip_look npar ha2 hux
  have hka : F.scope.names.lookup ar.arg = some .local := S.par _ (List.mem_of_getElem? ha2)
  obtain ⟨t1, hox⟩ := exo_at I.hok hHx
  have hox' : h₁.get? x = some (HandSPX.excO C t1) := hox
  rw [hbd]
  obtain ⟨sh, sg, sd, st, so⟩ := s
  have hi := hin (envF F f sh.objs.size) rfl
  refine PySem.ks_wpAt_execs_cons (PySem.ks_wpAt_Expr_any (PySem.ks_wpAt_MethodCall (pl := pure false) ?_ (hev _)) hi (hsw _))
  obtain ⟨oD, hD1, hD2⟩ : ∃ oD, h₁.get? C = some oD ∧ oD.data = .cls cdC := by
    unfold PySem.W.clsIn at hcC
    split at hcC
    · rename_i c d cd' sl ho
      cases hcC
      exact ⟨_, KX1 _ _ ho, rfl⟩
    · cases hcC
  refine PySem.ks_wpAt_super_base (env := envF F f sh.objs.size) U.ks hkc (by decide) rfl (KX1 _ _ lk) rfl ha1 rfl (KX1 _ _ hco) rfl hv2 hfi U.top ?_
  obtain ⟨mb, hb1, hb2⟩ := I.mod.blt
  refine PySem.W.ks_loadName_global S.kind U.ks (Calls.loadGlobal_builtin (I.mod.glob.keeps I.bk) U.gs (hb1.keeps I.bk) ((hb2 "super" (by decide)).trans PyProof.Rows.Boot.«super») ⟨rfl, ?_⟩)
  refine wpAny_loadName_free S.kind hkc (c := cc) (by show F.cl.lookup _ = _; rw [U.cl]; rfl) ⟨_, KX1 _ _ hce, rfl⟩ ?_
  refine wpAny_loadName_local S.kind hka hns hself ?_
  refine PySem.ks_wpAny_isType_cls hD1 hD2 ⟨rfl, ?_⟩
  refine PySem.ks_wpAny_call_super hD1 hD2 hox' rfl (fun c z => by cases z) (PySem.W.looks_mroIn KX1 U.sub) (fun h2 es2 k2 => ?_)
  have KX2 : K.In h2 := KX1.keeps k2
  have IA : PySem.W.InstAt h2 x (HandSPX.excO C t1) C none := ⟨k2 _ _ hox', rfl, rfl, trivial⟩
  have hII : PySem.W.Looks (model P w) h2 (isInstance (.ref x) (.type "ValueError")) true := IA.type.andThen (PySem.W.looks_subIn KX2 U.isV)
  have hm := U.sm
  unfold PySem.W.ks_superIn at hm
  rw [hcC] at hm
  refine PySem.W.kxs_getMethod PySem.W.kxs_ValueError es2 (PySem.W.looks_opaque KX2 U.opq) (l₀ := cdC.mro) ?_ rfl KX2 hm hII (PySem.W.ks_ne KX2 IA hcC) (by decide) ?_
  · exact fun A Q E s k q => wpAny_bind ((PySem.W.looks_clsIn KX2 hcC) A _ E s k (wpAny_pure q))
  have hu : (h2.push (PySem.W.kxs_mw "ValueError.__init__" x)).get? h2.objs.size = some (PySem.W.kxs_mw "ValueError.__init__" x) := Heap.get?_push_size _ rfl
  have k3 : ∀ b o, h₁.get? b = some o → (h2.push (PySem.W.kxs_mw "ValueError.__init__" x)).get? b = some o := fun b o z => Heap.get?_push_of_some _ (k2 b o z)
  have I3 : Inv (ncx CX P w K mg base N F f A outer ⟨sh, sg, sd, st, so⟩ H E) [] (startF N vs [none]) H ⟨h2.push (PySem.W.kxs_mw "ValueError.__init__" x), sg, sd, st + (ps.zip us).length + 1, so⟩ := I.kept (t' := st + (ps.zip us).length + 1) k3
  have I2 : Inv (ncx CX P w K mg base N F f A outer ⟨sh, sg, sd, st, so⟩ H E) [] (startF N vs [none]) H ⟨h2, sg, sd, st + (ps.zip us).length, so⟩ := I.kept (t' := st + (ps.zip us).length) k2
  have I4 : Inv (ncx CX P w K mg base N F f A outer ⟨sh, sg, sd, st, so⟩ H E) [(h2.objs.size, PySem.W.kxs_mw "ValueError.__init__" x)] (startF N vs [none]) H ⟨h2.push (PySem.W.kxs_mw "ValueError.__init__" x), sg, sd, st + (ps.zip us).length + 1, so⟩ :=
    I3.pins_of fun p hp => by
      rw [List.mem_singleton] at hp
      subst hp
      exact ⟨hu, I2.hok.fresh (Nat.le_refl _), fun z => absurd I2.lt (by rw [← z]; exact Nat.lt_irrefl _), I2.nofs (Nat.le_refl _), fun v z => by cases z⟩
  refine cw_mw (i := "ValueError.__init__") (x := x) (he _) (hpl _) ?_
  refine thn (hA.run p3 _ _ _ H _ (I4.tok _) hq) fun us2 s2 hz => ?_
  obtain ⟨vs2, H2, J, r2, hl2, hx2, ht2⟩ := hz
  obtain ⟨hpu, _⟩ := J.pin (h2.objs.size, PySem.W.kxs_mw "ValueError.__init__" x) (List.mem_append_right _ List.mem_cons_self)
  refine ⟨hpu, ?_⟩
  obtain ⟨nm, q, NN, bs, bm, sn, sub, ab, col, dd, k0, k1, kk2, kk3, k5, hCl, hbm⟩ := U.T.cls
  obtain ⟨t2, ho2⟩ := exo_at J.hok hx2
  have hlen2 : us2.length ≤ sizeLine := by
    rw [← Paired.length r2, sizeLine_eq]
    omega
  obtain ⟨hp2, g2, d2, tk2, os2⟩ := s2
  refine call_mw (J.kIn _ _ hCl) ho2 hpu hlen2 fun h' t3 k3 hx3 => ?_
  have J1 := J.write (t' := tk2) (x := x) (e := x) (o := exo x C none) (by rw [hx2]; exact True.intro) (.inl rfl) k3 ⟨_, hx3⟩ (exo_ok hx3)
  have eu : upd H2 x (exo x C none) = H2 := by
    funext b
    by_cases hb : b = x
    · rw [hb, upd_same, hx2]
    · rw [upd_ne hb]
  rw [eu] at J1
  have J2 := J1.pins_of (pins' := []) fun p hp => absurd hp (by simp)
  refine PySem.wpAt_of_wpAny (wpAny_mono (hS.run [] _ (startF N vs [none]) H2 _ J2 ht2) (fun fl s' hs => ?_) fun e s' hs => hs)
  cases fl with
  | ret u =>
    obtain ⟨v, σ', H', G, rv, q⟩ := hs
    exact ⟨v, H', G.os, G.bare, G.base, G.hok, rv, q⟩
  | next =>
    obtain ⟨σ', H', G, q⟩ := hs
    exact ⟨V.non, H', G.os, G.bare, G.base, G.hok, rfl, q⟩
  | brk => exact hs.elim fun _ z => z.elim fun _ z => False.elim z.2
  | cont => exact hs.elim fun _ z => z.elim fun _ z => False.elim z.2
end
end Sx

namespace Mw
open PySem L2 NdefX Sx
theorem slen (a b : Str) : (a ++ b).length = a.length + b.length := by
  show (a.cps ++ b.cps).size = _
  rw [Array.size_append]
  rfl
def mth (s : Stmt) (i : Nat) : Stmt := match s with
  | .ClassDef _ _ _ b _ _ _ _ _ _ _ => b.getD i (.Pass ⟨0, 0, 0, 0⟩)
  | s => s
/-! ### TokenError.__init__ -/
abbrev sTe : Stmt := mth (top 2) 0
abbrev nTe (cc cda : Addr) : NF := ⟨"__init__", "TokenError.__init__", defArgs sTe, defBody sTe, defScope sTe, [("__class__", cc)], cda⟩
theorem scTe : NScope ["self", "place", "__class__"] ["self", "place"] ["__class__"] (defScope sTe) := nscope_by (by decide +kernel)
theorem small_log {n : Int} (h : 0 ≤ n) (h2 : n ≤ 10000000) : n.natAbs.log2 < 1920 := by
  have h3 : n.natAbs < 2 ^ 24 := by omega
  by_cases e : n.natAbs = 0
  · rw [e]
    decide
  · have := (Nat.log2_lt e).mpr h3
    omega
theorem small_txt {n : Int} (h : 0 ≤ n) (h2 : n ≤ 10000000) : (toString n : Str).length ≤ 8 := PyProof.Rows.toString_length_le h (by decide) (by omega)
def spTe (C : Addr) : Sp := fun vs H Q _ => ∃ (x : Addr) (n : Int), vs = [.ref x, .int n] ∧ 0 ≤ n ∧ n ≤ 10000000 ∧ H x = some (exo x C none) ∧ ∀ dx, H dx = none → dx ≠ x → Q .non (upd (upd H dx (exd dx [("place", .int n)])) x (exo x C (some dx)))
section
variable {P : Program} {w : World} {K : PySem.W.Frag} {mg : Str → Option Value} {base : Heap}
theorem ok_te {CX : CXT} {C cc cda f : Addr} {dV kV doc pm ct oc : Value} {an od : Option Addr} {osl : Array (Option Value)} (U : Sup P K mg C cc cda f (nTe cc cda) ["self", "place"]) (no : PySem.W.findIn K (.ref C) "place" = some none)
    (lk : K.lookup f = some ⟨oc, od, .func (PySem.W.fnX "__init__" "TokenError.__init__" (defArgs sTe) (defBody sTe) (defScope sTe) [("__class__", cc)] dV kV doc pm an (.ref cda) ct), osl⟩) :
    FnOk P w K mg base CX 1 f (PySem.W.fnX "__init__" "TokenError.__init__" (defArgs sTe) (defBody sTe) (defScope sTe) [("__class__", cc)] dV kV doc pm an (.ref cda) ct) ["self", "place"] (spTe C) := by
  refine fn_super (k := 0) (F := nTe cc cda) U lk scTe rfl (fun vs H Q E h => ?_) (fun _ => rfl) (fun _ => rfl) (fun _ => rfl) (fun env h => by unfold interactive; rw [h]; rfl) (fun _ => rfl) (fun A outer s H vs Q E hr h => ?_)
  · obtain ⟨x, n, rfl, _⟩ := h
    rfl
  obtain ⟨x, n, rfl, h0, h1, hx, q⟩ := h
  refine ⟨x, _, _, rfl, hx, pa_cons (pe_joined (.cons pe_str (.cons (pe_fmt (pv 1)) (.cons pe_str .nil)))) pa_nil, pss_one (ps_ost (pv 0) (pv 1)), ?_⟩
  have e1 : (Str.empty ++ ("what begins at place " : Str)).length ≤ 40 := by decide +kernel
  have e2 : (" cannot stand there" : Str).length ≤ 40 := by decide +kernel
  have e3 : (toString n : Str).length ≤ 8 := small_txt h0 h1
  refine ⟨_, rfl, Nat.le_trans e1 (by decide), _, rfl, .inr ⟨n, rfl, small_log h0 h1, _, rfl, ?_, _, rfl, ?_, by show 1 ≤ 1000; decide, hx, ?_⟩⟩
  · rw [slen]
    exact Nat.le_trans (Nat.add_le_add e1 e3) (by decide)
  · rw [slen, slen]
    exact Nat.le_trans (Nat.add_le_add (Nat.add_le_add e1 e3) e2) (by decide)
  · exact ⟨_, rfl, _, rfl, x, C, rfl, U.T, no, .inl ⟨hx, q⟩⟩
/-! ### EndError.__init__ -/
abbrev sEe : Stmt := mth (top 3) 0
abbrev nEe (cc cda : Addr) : NF := ⟨"__init__", "EndError.__init__", defArgs sEe, defBody sEe, defScope sEe, [("__class__", cc)], cda⟩
theorem scEe : NScope ["self", "__class__"] ["self"] ["__class__"] (defScope sEe) := nscope_by (by decide +kernel)
def spEe (C : Addr) : Sp := fun vs H Q _ => ∃ (x : Addr), vs = [.ref x] ∧ H x = some (exo x C none) ∧ Q .non H
theorem ok_ee {CX : CXT} {C cc cda f : Addr} {dV kV doc pm ct oc : Value} {an od : Option Addr} {osl : Array (Option Value)} (U : Sup P K mg C cc cda f (nEe cc cda) ["self"])
    (lk : K.lookup f = some ⟨oc, od, .func (PySem.W.fnX "__init__" "EndError.__init__" (defArgs sEe) (defBody sEe) (defScope sEe) [("__class__", cc)] dV kV doc pm an (.ref cda) ct), osl⟩) :
    FnOk P w K mg base CX 1 f (PySem.W.fnX "__init__" "EndError.__init__" (defArgs sEe) (defBody sEe) (defScope sEe) [("__class__", cc)] dV kV doc pm an (.ref cda) ct) ["self"] (spEe C) := by
  refine fn_super (k := 0) (F := nEe cc cda) U lk scEe rfl (fun vs H Q E h => ?_) (fun _ => rfl) (fun _ => rfl) (fun _ => rfl) (fun env h => by unfold interactive; rw [h]; rfl) (fun _ => rfl) (fun A outer s H vs Q E hr h => ?_)
  · obtain ⟨x, rfl, _⟩ := h
    rfl
  obtain ⟨x, rfl, hx, q⟩ := h
  exact ⟨x, _, _, rfl, hx, pa_cons pe_str pa_nil, pss_nil, by show 1 ≤ 1000; decide, hx, q⟩
end
end Mw

/-! raise C(): C's own __init__ makes no field, so the error has no dict -/
namespace Ex0
open PySem PySem.Spec PyProof.Rows L2
def tMkO0 (C : Addr) (sp : Sp) : L2.St → Hp → XK → Prop := fun _ H Q => ∀ a, H a = none → sp [.ref a] (upd H a (exo a C none)) (fun v H2 => v = .non ∧ H2 a = some (exo a C none) ∧ Q (.ref C) none (del H2 a)) (fun _ _ _ => False)
section
variable {X : Cx} {p pos : Pos}
theorem mk_end1 {pins : List (Addr × Obj)} {σ : L2.St} {H1 H2 : Hp} {hp hp2 h2 : Heap} {g1 g2 : Array GenState} {d1 d2 : Drawn} {t1 t2 : Nat} {os1 os2 : OsState} {a C : Addr} (I1 : Inv X pins σ H1 ⟨hp, g1, d1, t1, os1⟩)
    (ha : hp.objs.size ≤ a) (k : ∀ b o, hp.get? b = some o → hp2.get? b = some o) (un : Un (frs X.stack) [] (upd H1 a (exo a C none)) H2 hp2 h2) (hok : HOk X.prog X.w H2 h2) (ho : os2 = os1) (hb : AllBare g2)
    (ea : H2 a = some (exo a C none)) :
    ∃ (t0 : Addr) (G : Heap), Inv X pins σ (del H2 a) ⟨G, g2, d2, t2, os2⟩ ∧ (∀ b o, G.get? b = some o → h2.get? b = some o) ∧ G.get? a = none ∧
      h2.get? a = some ({ cls := .ref C, dict := none, data := .fields #[.ref t0, .none, .none, .none, .bool false, .none] } : Obj) ∧ (del H2 a) a = none := by
  obtain ⟨t0, hoe⟩ := exo_at hok ea
  have hn : H1 a = none := I1.hok.fresh ha
  obtain ⟨G, g1', g2'⟩ := restrict h2 fun b => decide (b ≠ a)
  have gk : ∀ b, b ≠ a → G.get? b = h2.get? b := fun b hb => g1' b (decide_eq_true hb)
  have ge : G.get? a = none := g2' a (by simp)
  have nha : ∀ {b : Addr} {o : Obj}, hp.get? b = some o → b ≠ a := fun {b o} z => Nat.ne_of_lt (Nat.lt_of_lt_of_le (Heap.lt_size z) ha)
  have up : ∀ {b : Addr}, b ≠ a → H1 b = none → upd H1 a (exo a C none) b = none := fun {b} hb n => by rw [upd_ne hb]; exact n
  have U : Un (frs X.stack) [] H1 (del H2 a) hp G := {
    keep := fun b o z n hf hx => by
      rw [gk b (nha z)]
      exact un.keep b o (k b o z) (up (nha z) n) hf hx
    slot := fun b o z n hf hx => by
      rw [gk b (nha z)]
      exact un.slot b o (k b o z) (up (nha z) n) hf hx
    free := fun b o z n hx => by
      rw [del_ne (nha z)]
      exact un.free b o (k b o z) (up (nha z) n) hx
    there := fun b o z hx => by
      rw [gk b (nha z)]
      exact un.there b o (k b o z) hx
    tups := fun b xs z => by
      rw [del_ne (ne_of_none z hn)]
      exact un.tups b xs (by rw [upd_ne (ne_of_none z hn)]; exact z)
    frzs := fun b o v z => by
      rw [del_ne (ne_of_none z hn)]
      exact un.frzs b o v (by rw [upd_ne (ne_of_none z hn)]; exact z)
    tbls := fun b ps z => by
      rw [del_ne (ne_of_none z hn)]
      exact un.tbls b ps (by rw [upd_ne (ne_of_none z hn)]; exact z) }
  have hok3 : HOk X.prog X.w (del H2 a) G := fun b o z => by
    have hba : b ≠ a := fun e => by
      rw [e, del_same] at z
      cases z
    rw [del_ne hba] at z
    have noa : ∀ {c : Addr}, H2 c = some (.own b) → c ≠ a := fun {c} hc => at_ne ea hc exo_own
    exact (hok b o z).stay (fun c v hc y => by
        have hca : c ≠ a := by
          rcases hc with hc | hc
          · rw [hc]
            exact hba
          · exact noa hc
        rw [gk c hca]
        exact y)
      (fun c hc => by rw [del_ne (noa hc)]; exact hc) (fun c xs hc => by rw [del_ne (at_ne ea hc exo_tup)]; exact hc)
  have J : Inv X pins σ (del H2 a) ⟨G, g2, d2, t2, os2⟩ := I1.call' (ch := []) ho U hok3 hb (fun b z => absurd z (by simp))
  refine ⟨t0, G, J, fun b o z => ?_, ge, hoe, del_same⟩
  by_cases hba : b = a
  · rw [hba, ge] at z
    cases z
  · exact (gk b hba).symm.trans z
theorem pmk_oex0 {CX : CXT} {x : Str} {C fI : Addr} {k : Nat} {fd : FuncData} {ps : List Str} {sp : Sp} (T : OexC X.K C) (iC : PySem.W.findIn X.K (.ref C) "__init__" = some (some (.ref fI))) (tI : PySem.W.typeIn X.K (.ref fI) = some (.type "function"))
    (F1 : FnOk X.prog X.w X.K X.mg X.base CX k fI fd ps sp) (hr : Room (k + 1) X.A) (hb : Binds X.K fd ps []) (hx : Passes CX X (fun _ _ _ => False)) (hg : Gl X x) (hm : X.mg x = some (.ref C))
    (hdb : (x == ("__debug__" : Str)) = false := by decide) :
    PMk X (.Call (.Name x p) [] [] pos) (tMkO0 C sp) := by
  intro pins s σ H1 Q I1 q1
  obtain ⟨nm, q, N, bs, bm, sn, sub, ab, col, dd, k0, k1, k2, k3, k5, hC, hbm⟩ := T.cls
  refine wpAny_Call_Name_kw (ld_glob I1 hg hm ?_ hdb)
  refine PySem.W.callWith_K0 I1.kIn T.kC ?_
  show wpAny _ _ (call (.ref C) []) _ _ _
  obtain ⟨hp, g, dr, tk, os⟩ := s
  have hsz : hp.objs.size ≤ hp.objs.size + 1 := Nat.le_succ _
  have hn : H1 (hp.objs.size + 1) = none := I1.hok.fresh hsz
  have hq := q1 (hp.objs.size + 1) hn
  have kk : ∀ b o, hp.get? b = some o → ((hp.push (PySem.W.kdv_tup [])).push (PySem.HandSPX.excO C hp.objs.size)).get? b = some o := fun b o e => Heap.get?_push_of_some _ (Heap.get?_push_of_some _ e)
  have hget : ((hp.push (PySem.W.kdv_tup [])).push (PySem.HandSPX.excO C hp.objs.size)).get? (hp.objs.size + 1) = some (PySem.HandSPX.excO C hp.objs.size) := by heap_get
  have I2 : Inv X pins σ (upd H1 (hp.objs.size + 1) (exo (hp.objs.size + 1) C none)) ⟨(hp.push (PySem.W.kdv_tup [])).push (PySem.HandSPX.excO C hp.objs.size), g, dr, tk, os⟩ :=
    I1.laid (t' := tk) (a := hp.objs.size + 1) (o := exo (hp.objs.size + 1) C none) (h' := (hp.push (PySem.W.kdv_tup [])).push (PySem.HandSPX.excO C hp.objs.size)) kk hsz (exo_ok hget)
  have r2 : Vals [V.ref (hp.objs.size + 1)] [Value.ref (hp.objs.size + 1)] := .cons rfl .nil
  have hl : ([Value.ref (hp.objs.size + 1)] ++ [] : List Value).length = ps.length := by
    have e := r2.length
    rw [F1.len _ _ _ _ hq] at e
    exact e.symm
  refine wpAny_call (PySem.HandSPX.call_own F.excBase_ValueError (fun Y => PySem.HandSPX.refsVE_contains Y bm hbm) (I1.kIn _ _ hC) (PySem.W.looks_findIn I1.kIn iC) (fun self => PySem.W.bind_fn I1.kIn self tI) (Nat.zero_le _)
    (codeAny_mono (F1.run _ X.stack _ _ ⟨[Value.ref (hp.objs.size + 1)], []⟩ [Value.ref (hp.objs.size + 1)] _ _ (fun _ _ _ => False) (hr.make C [] []) (I2.env0.make C [] []) (hb _ [Value.ref (hp.objs.size + 1)] I2.kIn hl) r2 hq) fun r s' hq' => ?_))
  cases r with
  | error er => exact hx pins σ _ _ er s' I2 hq'
  | ok fl =>
    cases fl with
    | ret u =>
      obtain ⟨v, H2, os2, bare2, un2, hok2, rv, ev, ea, q2⟩ := hq'
      subst ev
      obtain ⟨h2, g2, d2, t2, os'⟩ := s'
      obtain ⟨t0, G, J, kG, ge, hoe, na⟩ := mk_end1 (d2 := d2) (t2 := t2) I1 hsz kk un2 hok2 os2 bare2 ea
      exact ⟨rv, _, _, _, ⟨G, g2, d2, t2, os'⟩, _, .ref C, none, rfl, J, kG, ge, hoe, ⟨rfl, rfl⟩, rfl, rfl, na, rfl, bare2, raises_own T.exC T.tyC, q2⟩
    | next => exact False.elim hq'
    | brk => exact False.elim hq'
    | cont => exact False.elim hq'
end
end Ex0

/-! An exception out of a comprehension: it is in the air of the block, is noted, its names are let go, and it is in the air of the def. -/
namespace Ca
open PySem PySem.Spec PyProof.Rows L2
/-- an exception e in the air of X, a frame L may hold it; EW: its class, its dict, the heap behind it -/
def Air (X : Cx) (L : Addr) (EW : XK) (u : Value) (s' : Shared) : Prop :=
  ∃ (e : Addr) (G : Heap) (t : Shared) (ps : List (Addr × Obj)) (σ : L2.St) (H : Hp) (c : Value) (d : Option Addr), (u = .ref e ∧ EW c d H ∧ H e = none) ∧ Inv X ps σ H t ∧ t.heap.UpToSlots s'.heap ∧
    (s'.os = t.os ∧ AllBare s'.gens) ∧ Sky G X.stack e (Zc c d) L s'.heap ∧ ∀ b o, b ∉ frs X.stack → t.heap.get? b = some o → G.get? b = some o
def TakesA (X : Cx) (L : Addr) (EW : XK) : Prop := ∀ u s', Air X L EW u s' → X.xe u s'
section
variable {X : Cx} {L : Addr} {EW : XK} {u : Value} {s s' : Shared} {pins : List (Addr × Obj)} {σ : L2.St} {H : Hp}
theorem Air.xe (x : Air X X.env.locals EW u s') : XE X (fun c d _ H => EW c d H) u s' := by
  obtain ⟨e, G, t, ps, σ, H, c, d, ⟨hu, hw, hn⟩, I, up, ⟨os, ag⟩, sky, nb⟩ := x
  exact ⟨e, G, t, ps, σ, H, c, d, hu, I, fun b o h1 h2 => nb b o h2 h1, up, sky, hn, os, ag, hw⟩
theorem takesA_of (tk : Takes X (fun c d _ H => EW c d H)) : TakesA X X.env.locals EW := fun u s' x => tk u s' x.xe
/-- a call's exception flies: no frame of the caller holds it yet -/
theorem air_call (I : Inv X pins σ H s) (c : L2.CX X.prog X.w X.stack H s EW u s') : Air X L EW u s' := by
  obtain ⟨a, B, sI, ps, σ', H', cls, d, hu, I', nb, up, sky, na, os, ag, w⟩ := XE.of_call (W := fun c d _ H => EW c d H) I (fun _ _ _ h => h) c
  obtain ⟨a0, B0, _, _, _, hu0, ⟨_, _, _, fl⟩, _⟩ := c
  rw [hu] at hu0
  cases hu0
  obtain ⟨oe0, vs0, T0, oT0, ts0, g1, _, g2, g3, _, _, g4, g5, g6⟩ := fl
  refine ⟨a, B, sI, ps, σ', H', cls, d, ⟨hu, w, na⟩, I', up, ⟨os, ag⟩, ?_, fun b o h1 h2 => nb b o h2 h1⟩
  rcases sky with ⟨_, _, _, oe, vs, h1, _, h2, h3⟩ | fl | ⟨_, _, _, oe, vs, T, oT, ts, h1, _, h2, h3, _, _, h4, h5, h6⟩
  · rw [g1] at h1
    cases h1
    rw [g2] at h2
    cases h2
    rw [g3] at h3
    cases h3
  · exact .inr (.inl fl)
  · rw [g1] at h1
    cases h1
    rw [g2] at h2
    cases h2
    rw [g3] at h3
    cases h3
    rw [g4] at h4
    cases h4
    rw [g5] at h5
    cases h5
    rw [g6] at h6
    cases h6
theorem passA (tk : TakesA X L EW) : Passes (L2.CX X.prog X.w) X EW := fun _ _ _ _ _ s' I c => tk _ s' (air_call I c)
end
end Ca

namespace Mw
open PySem L2
/-! ### the reader as a plain function of what is left of the text -/
inductive Rs (α : Type) where
  | ok (a : α) (y : List Nat)
  | tok (y : List Nat)
  | fin
namespace Rs
variable {α β : Type}
def bind (r : Rs α) (f : α → List Nat → Rs β) : Rs β := match r with
  | .ok a y => f a y
  | .tok y => .tok y
  | .fin => .fin
/-- what has to hold behind: if it is read, if it is told, if the text ends -/
def Kn (r : Rs α) (k : α → List Nat → Prop) (T : List Nat → Prop) (F : Prop) : Prop := match r with
  | .ok a y => k a y
  | .tok y => T y
  | .fin => F
theorem kn_bind {r : Rs α} {f : α → List Nat → Rs β} {k : β → List Nat → Prop} {T : List Nat → Prop} {F : Prop} : (r.bind f).Kn k T F = r.Kn (fun a y => (f a y).Kn k T F) T F := by
  cases r <;> rfl
theorem kn_ok {a : α} {y : List Nat} {k : α → List Nat → Prop} {T : List Nat → Prop} {F : Prop} : (Rs.ok a y).Kn k T F = k a y := rfl
theorem Kn.imp {r : Rs α} {k k' : α → List Nat → Prop} {T T' : List Nat → Prop} {F F' : Prop} (h : r.Kn k T F) (hk : ∀ a y, k a y → k' a y) (hT : ∀ y, T y → T' y) (hF : F → F') : r.Kn k' T' F' := by
  cases r with
  | ok a y => exact hk a y h
  | tok y => exact hT y h
  | fin => exact hF h
/-- what is left is an end of what was there -/
def In (r : Rs α) (x : List Nat) : Prop := r.Kn (fun _ y => y <:+ x) (fun y => y <:+ x) True
theorem In.bind {r : Rs α} {f : α → List Nat → Rs β} {x : List Nat} (h : r.In x) (hf : ∀ a y, r = .ok a y → (f a y).In y) : (r.bind f).In x := by
  cases r with
  | ok a y => exact (hf a y rfl).imp (fun _ _ z => z.trans h) (fun _ z => z.trans h) (fun z => z)
  | tok y => exact h
  | fin => trivial
theorem In.mono {r : Rs α} {x z : List Nat} (h : r.In x) (s : x <:+ z) : r.In z := h.imp (fun _ _ q => q.trans s) (fun _ q => q.trans s) fun q => q
end Rs
def isSp (c : Nat) : Bool := decide (c = 32 ∨ c = 10)
def skip : List Nat → List Nat
  | [] => []
  | c :: x => if isSp c = true then skip x else c :: x
theorem skip_suf : ∀ x : List Nat, skip x <:+ x
  | [] => List.suffix_refl _
  | c :: x => by
    unfold skip
    split
    · exact (skip_suf x).trans (List.suffix_cons c x)
    · exact List.suffix_refl _
def isLet (c : Nat) : Bool := decide (97 ≤ c) && decide (c ≤ 122)
def isFig (c : Nat) : Bool := decide (48 ≤ c) && decide (c ≤ 57)
def tkSign (c : Nat) (x : List Nat) : Rs Unit := match skip x with
  | [] => .fin
  | d :: y => if d = c then .ok () y else .tok (d :: y)
def tkRow (f : Nat → Bool) : List Nat → Rs (List Nat)
  | [] => .fin
  | c :: y => if f c = true then .ok (c :: y.takeWhile f) (y.dropWhile f) else .tok (c :: y)
def tkName (x : List Nat) : Rs (List Nat) := (tkRow isLet x).bind fun a y => if 8 < a.length then .tok x else .ok a y
def numOf (a : List Nat) : Int := NumText.digitsVal a
def tkNum (most : Nat) (x : List Nat) : Rs Int := (tkRow isFig x).bind fun a y => if most < a.length ∨ (1 < a.length ∧ a.head? = some 48) then .tok x else .ok (numOf a) y
def selL : List Nat := [115, 101, 108, 101, 99, 116]
def pluL : List Nat := [112, 108, 117, 114, 97, 108]
def othL : List Nat := [111, 116, 104, 101, 114]
def ofsL : List Nat := [111, 102, 102, 115, 101, 116, 58]
def catL : List (List Nat) := [[122, 101, 114, 111], [111, 110, 101], [116, 119, 111], [102, 101, 119], [109, 97, 110, 121]]
def tkKind (x : List Nat) : Rs Bool := (tkRow isLet (skip x)).bind fun a y => if a = selL then .ok false y else if a = pluL then .ok true y else .tok (skip x)
def tkOff (x : List Nat) : Rs Int := if ofsL.isPrefixOf (skip x) = true then tkNum 1 ((skip x).drop 7) else .ok 0 (skip x)
def tkPKey : List Nat → Rs L2.Key
  | [] => .fin
  | c :: y => if c = 61 then (tkNum 3 y).bind fun n z => .ok (.inl n) z else (tkName (c :: y)).bind fun a z => if a = othL ∨ a ∈ catL then .ok (.inr (mkS a)) z else .tok (c :: y)
def bgKey (b : Bool) (x : List Nat) : Rs L2.Key := if b = true then tkPKey x else (tkName x).bind fun a z => .ok (.inr (mkS a)) z
def kin (k : L2.Key) (ks : List L2.Key) : Bool := ks.any fun j => decide (j = k)
theorem kin_iff {k : L2.Key} {ks : List L2.Key} : kin k ks = true ↔ k ∈ ks := by
  unfold kin
  rw [List.any_eq_true]
  exact ⟨fun ⟨j, h, e⟩ => (of_decide_eq_true e) ▸ h, fun h => ⟨k, h, decide_eq_true rfl⟩⟩
def bgCase (b : Bool) (ks : List L2.Key) (x : List Nat) : Rs L2.Key := (bgKey b (skip x)).bind fun k y => if kin k ks = true then .tok (skip x) else (tkSign 123 y).bind fun _ z => .ok k z
def bgChoice (x : List Nat) : Rs (Bool × Int × L2.Key) := (tkSign 44 x).bind fun _ x1 => (tkKind x1).bind fun b x2 => (tkSign 44 x2).bind fun _ x3 => (if b = true then tkOff x3 else .ok 0 x3).bind fun n x4 => (bgCase b [] x4).bind fun k x5 => .ok (b, n, k) x5
inductive Arg where
  | shw (n : List Nat)
  | cho (n : List Nat) (q : Bool × Int × L2.Key)
def rdArg (x : List Nat) : Rs Arg := (tkSign 123 x).bind fun _ x1 => (tkName (skip x1)).bind fun n x2 => match skip x2 with
  | [] => .fin
  | c :: y => if c = 125 then .ok (.shw n) y else (bgChoice (c :: y)).bind fun q z => .ok (.cho n q) z
/-- a choice of which the cases are still being read -/
structure Fm where
  b : Bool
  nm : List Nat
  off : Int
  kv : List (L2.Key × T)
  key : L2.Key
  ar : T
def kindS (b : Bool) : Str := if b then "plural" else "select"
def hdV (b : Bool) (nm : Str) (n : Int) : List V := .str (kindS b) :: .str nm :: (if b then [.int n] else [])
def casT : List (L2.Key × T) → T
  | [] => .nil
  | q :: r => .cas (kV q.1) q.2 (casT r)
abbrev othK : L2.Key := .inr "other"
def Fm.cho (f : Fm) (o : T) : T := .cho (hdV f.b (mkS f.nm) f.off) (casT f.kv) o .nil
def rdEndK (key : L2.Key) (b : Bool) (ks : List L2.Key) (x : List Nat) : Rs (Option L2.Key) := (tkSign 125 x).bind fun _ x1 =>
  if key = othK then (tkSign 125 x1).bind fun _ y => .ok none y else (bgCase b (ks ++ [key]) x1).bind fun k y => .ok (some k) y
def rdEnd (f : Fm) (fs : List Fm) (t : T) (x : List Nat) : Rs (T × List Fm) := (rdEndK f.key f.b (f.kv.map (·.1)) x).bind fun o y => match o with
  | none => .ok (f.ar.app (f.cho (jt [] t)), fs) y
  | some k => .ok (.nil, { f with kv := f.kv ++ [(f.key, jt [] t)], key := k } :: fs) y
def escN : List Nat := [39, 123, 125, 35]
def rdEsc (x : List Nat) : Rs Nat := match escN.find? fun c => (escC c).isPrefixOf x with
  | some c => .ok c (x.drop (escC c).length)
  | none => .tok x
def okB (c : Nat) : Bool := decide (c = 10) || (decide (32 ≤ c) && decide (c ≤ 126))
def rdSign (pl : Bool) : List Nat → Rs T
  | [] => .fin
  | c :: y => if c = 35 ∧ pl = true then .ok (.num .nil) y else if c = 125 ∨ c = 35 ∨ okB c = false then .tok (c :: y) else .ok (.text ⟨#[c]⟩ .nil) y
def rdNext (t : T) (fs : List Fm) : List Nat → Rs (T × List Fm)
  | [] => .fin
  | c :: y => if c = 123 then (rdArg (c :: y)).bind fun a z => match a with
      | .shw n => .ok (t.app (.shw (mkS n) .nil), fs) z
      | .cho n q => .ok (.nil, ⟨q.1, n, q.2.1, [], q.2.2, t⟩ :: fs) z
    else if c = 125 ∧ fs ≠ [] then (match fs with
      | [] => .fin
      | f :: r => rdEnd f r t (c :: y))
    else if c = 39 then (rdEsc (c :: y)).bind fun d z => .ok (t.app (.text ⟨#[d]⟩ .nil), fs) z
    else (rdSign (fs.any (·.b)) (c :: y)).bind fun u z => .ok (t.app u, fs) z
def run : Nat → T → List Fm → List Nat → Rs T
  | 0, _, _, _ => .fin
  | n + 1, t, fs, x => match x with
    | [] => (match fs with
      | [] => .ok (jt [] t) []
      | _ => .fin)
    | c :: y => (rdNext t fs (c :: y)).bind fun s z => run n s.1 s.2 z
def pm (x : List Nat) : Rs T := run (x.length + 1) .nil [] x
/-! #### what is left -/
theorem tkSign_in (c : Nat) (x : List Nat) : (tkSign c x).In x := by
  unfold tkSign
  have h := skip_suf x
  split
  · trivial
  · rename_i d y e
    rw [e] at h
    split
    · exact (List.suffix_cons d y).trans h
    · exact h
theorem tkRow_in (f : Nat → Bool) (x : List Nat) : (tkRow f x).In x := by
  unfold tkRow
  split
  · trivial
  · split
    · exact (List.dropWhile_suffix f).trans (List.suffix_cons _ _)
    · exact List.suffix_refl _
theorem tkName_in (x : List Nat) : (tkName x).In x := by
  unfold tkName
  have h := tkRow_in isLet x
  cases e : tkRow isLet x with
  | ok a y =>
    rw [e] at h
    show Rs.In (if _ then _ else _) x
    split
    · exact List.suffix_refl _
    · exact h
  | tok y => rw [e] at h; exact h
  | fin => trivial
theorem tkNum_in (m : Nat) (x : List Nat) : (tkNum m x).In x := by
  unfold tkNum
  have h := tkRow_in isFig x
  cases e : tkRow isFig x with
  | ok a y =>
    rw [e] at h
    show Rs.In (if _ then _ else _) x
    split
    · exact List.suffix_refl _
    · exact h
  | tok y => rw [e] at h; exact h
  | fin => trivial
theorem tkKind_in (x : List Nat) : (tkKind x).In x := by
  unfold tkKind
  have h := tkRow_in isLet (skip x)
  have s := skip_suf x
  cases e : tkRow isLet (skip x) with
  | ok a y =>
    rw [e] at h
    show Rs.In (if _ then _ else if _ then _ else _) x
    split
    · exact h.trans s
    · split
      · exact h.trans s
      · exact s
  | tok y => rw [e] at h; exact h.trans s
  | fin => trivial
theorem tkOff_in (x : List Nat) : (tkOff x).In x := by
  unfold tkOff
  have s := skip_suf x
  split
  · exact (tkNum_in 1 _).mono ((List.drop_suffix 7 _).trans s)
  · exact s
theorem tkPKey_in (x : List Nat) : (tkPKey x).In x := by
  unfold tkPKey
  split
  · trivial
  · rename_i c y
    split
    · refine Rs.In.mono (Rs.In.bind (tkNum_in 3 y) fun a z _ => ?_) (List.suffix_cons c y)
      exact List.suffix_refl _
    · have h := tkName_in (c :: y)
      cases e : tkName (c :: y) with
      | ok a z =>
        rw [e] at h
        show Rs.In (if _ then _ else _) _
        split
        · exact h
        · exact List.suffix_refl _
      | tok z => rw [e] at h; exact h
      | fin => trivial
theorem bgKey_in (b : Bool) (x : List Nat) : (bgKey b x).In x := by
  unfold bgKey
  split
  · exact tkPKey_in x
  · exact (tkName_in x).bind fun a z _ => List.suffix_refl _
theorem bgCase_in (b : Bool) (ks : List L2.Key) (x : List Nat) : (bgCase b ks x).In x := by
  unfold bgCase
  have h := bgKey_in b (skip x)
  have s := skip_suf x
  cases e : bgKey b (skip x) with
  | ok k y =>
    rw [e] at h
    show Rs.In (if kin k ks = true then _ else _) x
    split
    · exact s
    · refine Rs.In.mono (Rs.In.bind (tkSign_in 123 y) fun a z _ => ?_) (h.trans s)
      exact List.suffix_refl _
  | tok y => rw [e] at h; exact h.trans s
  | fin => trivial
theorem bgChoice_in (x : List Nat) : (bgChoice x).In x := by
  unfold bgChoice
  refine (tkSign_in 44 x).bind fun _ x1 _ => (tkKind_in x1).bind fun b x2 _ => (tkSign_in 44 x2).bind fun _ x3 _ => Rs.In.bind ?_ fun n x4 _ => (bgCase_in b [] x4).bind fun k x5 _ => List.suffix_refl _
  split
  · exact tkOff_in x3
  · exact List.suffix_refl _
theorem rdArg_in (x : List Nat) : (rdArg x).In x := by
  unfold rdArg
  refine (tkSign_in 123 x).bind fun _ x1 _ => ((tkName_in (skip x1)).bind fun n x2 _ => ?_).mono (skip_suf x1)
  have s := skip_suf x2
  cases e : skip x2 with
  | nil => trivial
  | cons c y =>
    rw [e] at s
    dsimp only
    split
    · exact (List.suffix_cons c y).trans s
    · refine Rs.In.mono (Rs.In.bind (bgChoice_in (c :: y)) fun q z _ => ?_) s
      exact List.suffix_refl _
theorem rdEndK_in (key : L2.Key) (b : Bool) (ks : List L2.Key) (x : List Nat) : (rdEndK key b ks x).In x := by
  unfold rdEndK
  refine (tkSign_in 125 x).bind fun _ x1 _ => ?_
  split
  · exact (tkSign_in 125 x1).bind fun _ y _ => List.suffix_refl _
  · exact (bgCase_in _ _ x1).bind fun _ y _ => List.suffix_refl _
theorem rdEnd_in (f : Fm) (fs : List Fm) (t : T) (x : List Nat) : (rdEnd f fs t x).In x := by
  unfold rdEnd
  refine (rdEndK_in _ _ _ x).bind fun o y _ => ?_
  cases o <;> exact List.suffix_refl _
theorem rdEsc_in (x : List Nat) : (rdEsc x).In x := by
  unfold rdEsc
  split
  · exact List.drop_suffix _ _
  · exact List.suffix_refl _
theorem rdSign_in (pl : Bool) (x : List Nat) : (rdSign pl x).In x := by
  unfold rdSign
  split
  · trivial
  · rename_i c y
    split
    · exact List.suffix_cons c y
    · split
      · exact List.suffix_refl _
      · exact List.suffix_cons c y
theorem rdNext_in (t : T) (fs : List Fm) (x : List Nat) : (rdNext t fs x).In x := by
  unfold rdNext
  split
  · trivial
  · rename_i c y
    split
    · refine (rdArg_in (c :: y)).bind fun a z _ => ?_
      cases a with
      | shw n => exact List.suffix_refl _
      | cho n q => exact List.suffix_refl _
    · split
      · cases fs with
        | nil => trivial
        | cons f r => exact rdEnd_in f r t (c :: y)
      · split
        · exact (rdEsc_in _).bind fun _ z _ => List.suffix_refl _
        · exact (rdSign_in _ _).bind fun _ z _ => List.suffix_refl _
/-! #### every step takes a sign at least -/
def Rs.Lt {α : Type} (r : Rs α) (x : List Nat) : Prop := r.Kn (fun _ y => y.length < x.length) (fun _ => True) True
theorem Rs.Lt.bind {α β : Type} {r : Rs α} {f : α → List Nat → Rs β} {x : List Nat} (h : r.Lt x) (hf : ∀ a y, r = .ok a y → (f a y).In y) : (r.bind f).Lt x := by
  cases r with
  | ok a y => exact (hf a y rfl).imp (fun _ _ z => Nat.lt_of_le_of_lt z.length_le h) (fun _ _ => trivial) (fun _ => trivial)
  | tok y => trivial
  | fin => trivial
theorem tkSign_lt (c : Nat) (x : List Nat) : (tkSign c x).Lt x := by
  unfold tkSign
  have h := skip_suf x
  split
  · trivial
  · rename_i d y e
    rw [e] at h
    split
    · exact Nat.lt_of_lt_of_le (Nat.lt_succ_self _) h.length_le
    · trivial
theorem escC_pos (c : Nat) : 0 < (escC c).length := by
  unfold escC
  repeat' split
  all_goals exact Nat.zero_lt_succ _
theorem rdNext_lt (t : T) (fs : List Fm) (x : List Nat) : (rdNext t fs x).Lt x := by
  unfold rdNext
  split
  · trivial
  · rename_i c y
    split
    · have h : (rdArg (c :: y)).Lt (c :: y) := by
        have := rdArg_in (c :: y)
        unfold rdArg at this ⊢
        refine (tkSign_lt 123 (c :: y)).bind fun _ x1 _ => ((tkName_in (skip x1)).bind fun n x2 _ => ?_).mono (skip_suf x1)
        have s := skip_suf x2
        cases e : skip x2 with
        | nil => trivial
        | cons c y =>
          rw [e] at s
          dsimp only
          split
          · exact (List.suffix_cons c y).trans s
          · refine Rs.In.mono (Rs.In.bind (bgChoice_in (c :: y)) fun q z _ => ?_) s
            exact List.suffix_refl _
      refine h.bind fun a z _ => ?_
      cases a with
      | shw n => exact List.suffix_refl _
      | cho n q => exact List.suffix_refl _
    · split
      · cases fs with
        | nil => trivial
        | cons f r =>
          show (rdEnd f r t (c :: y)).Lt (c :: y)
          unfold rdEnd
          refine Rs.Lt.bind ?_ fun o y _ => by cases o <;> exact List.suffix_refl _
          unfold rdEndK
          refine (tkSign_lt 125 _).bind fun _ x1 _ => ?_
          split
          · exact (tkSign_in 125 x1).bind fun _ y _ => List.suffix_refl _
          · exact (bgCase_in _ _ x1).bind fun _ y _ => List.suffix_refl _
      · split
        · refine Rs.Lt.bind ?_ fun _ z _ => List.suffix_refl _
          unfold rdEsc
          split
          · rename_i d _
            show ((c :: y).drop (escC d).length).length < (c :: y).length
            rw [List.length_drop]
            have := escC_pos d
            simp only [List.length_cons]
            omega
          · trivial
        · refine Rs.Lt.bind ?_ fun _ z _ => List.suffix_refl _
          unfold rdSign
          dsimp only
          split
          · exact Nat.lt_succ_self _
          · split
            · trivial
            · exact Nat.lt_succ_self _
theorem run_fuel : ∀ (n m : Nat) (t : T) (fs : List Fm) (x : List Nat), x.length < n → x.length < m → run n t fs x = run m t fs x
  | 0, _, _, _, _, h, _ => absurd h (Nat.not_lt_zero _)
  | _ + 1, 0, _, _, _, _, h => absurd h (Nat.not_lt_zero _)
  | n + 1, m + 1, t, fs, x, h1, h2 => by
    unfold run
    split
    · rfl
    · rename_i c y
      have lt := rdNext_lt t fs (c :: y)
      cases e : rdNext t fs (c :: y) with
      | ok s z =>
        rw [e] at lt
        have lt : z.length < (c :: y).length := lt
        show run n s.1 s.2 z = run m s.1 s.2 z
        exact run_fuel n m s.1 s.2 z (by omega) (by omega)
      | tok z => rfl
      | fin => rfl
end Mw

namespace Mw
open PySem L2
/-! ### the reader: what is told of a place, what may leave -/
def rdF (tx : Str) (p : Int) (nl cl : Addr) (pl : Int) : List (Str × V) := [("text", .str tx), ("place", .int p), ("nodes", .ref nl), ("choices", .ref cl), ("plurals", .int pl)]
theorem put_place (tx : Str) (p q : Int) (nl cl : Addr) (pl : Int) : putF "place" (.int q) (rdF tx p nl cl pl) = rdF tx q nl cl pl := rfl
theorem put_nodes (tx : Str) (p : Int) (nl cl ml : Addr) (pl : Int) : putF "nodes" (.ref ml) (rdF tx p nl cl pl) = rdF tx p ml cl pl := rfl
theorem put_plurals (tx : Str) (p : Int) (nl cl : Addr) (pl ql : Int) : putF "plurals" (.int ql) (rdF tx p nl cl pl) = rdF tx p nl cl ql := rfl
structure RC (K : PySem.W.Frag) (C : Addr) : Prop where
  c : Cls K C
  nt : NoAttr K C "text"
  np : NoAttr K C "place"
  nn : NoAttr K C "nodes"
  nc : NoAttr K C "choices"
  nu : NoAttr K C "plurals"
/-- the place at which x is what is left -/
abbrev ps (tx : Str) (x : List Nat) : Int := ((tx.length - x.length : Nat) : Int)
abbrev Sf (tx : Str) (x : List Nat) : Prop := x <:+ tl tx
theorem Sf.len {tx : Str} {x : List Nat} (h : Sf tx x) : x.length ≤ tx.length := by
  rw [len_tl']
  exact h.length_le
theorem Sf.drop {tx : Str} {x : List Nat} (h : Sf tx x) : (tl tx).drop (tx.length - x.length) = x := by
  obtain ⟨p, e⟩ := h
  rw [len_tl', ← e, List.length_append, Nat.add_sub_cancel, List.drop_left]
theorem Sf.at {tx : Str} {c : Nat} {x : List Nat} (h : Sf tx (c :: x)) : (tl tx)[tx.length - (c :: x).length]? = some c := by
  have := congrArg (·[0]?) h.drop
  simpa using this
theorem ps_cons {tx : Str} {c : Nat} {x : List Nat} (h : Sf tx (c :: x)) : ps tx (c :: x) + 1 = ps tx x := by
  have := h.len
  simp only [List.length_cons] at this
  show ((tx.length - (c :: x).length : Nat) : Int) + 1 = ((tx.length - x.length : Nat) : Int)
  simp only [List.length_cons]
  omega
def TErr (CT : Addr) (tx : Str) (HB : Hp) (E : XK) (y : List Nat) : Prop := ∀ dx H', HB dx = none → Same HB H' → H' dx = some (.xd [("place", .int (ps tx y))]) → E (.ref CT) (some dx) H'
def EErr (CE : Addr) (HB : Hp) (E : XK) : Prop := ∀ H', Same HB H' → E (.ref CE) none H'
/-- the classes of errors -/
structure EC (P : Program) (w : World) (K : PySem.W.Frag) (mg : Str → Option Value) (base : Heap) (CT fT : Addr) (fdT : FuncData) (CE fE : Addr) (fdE : FuncData) : Prop where
  T : OexC K CT
  mT : mg "TokenError" = some (.ref CT)
  iT : PySem.W.findIn K (.ref CT) "__init__" = some (some (.ref fT))
  tT : PySem.W.typeIn K (.ref fT) = some (.type "function")
  GT : FnOk P w K mg base (L2.CX P w) 1 fT fdT ["self", "place"] (spTe CT)
  bT : Binds K fdT ["self", "place"] []
  E : OexC K CE
  mE : mg "EndError" = some (.ref CE)
  iE : PySem.W.findIn K (.ref CE) "__init__" = some (some (.ref fE))
  tE : PySem.W.typeIn K (.ref fE) = some (.type "function")
  GE : FnOk P w K mg base (L2.CX P w) 1 fE fdE ["self"] (spEe CE)
  bE : Binds K fdE ["self"] []
theorem te_at {CT : Addr} {tx : Str} {HB H1 : Hp} {E : XK} {y : List Nat} (hE : TErr CT tx HB E y) (s : Same HB H1) (hl : tx.length < 10000000) : ∀ a, H1 a = none → spTe CT (.ref a :: ([V.int (ps tx y)] ++ [])) (upd H1 a (exo a CT none))
    (fun v H2 => v = .non ∧ ∃ (d : Addr) (fs : List (Str × V)), H2 a = some (exo a CT (some d)) ∧ H2 d = some (exd d fs) ∧ H1 d = none ∧ E (.ref CT) (some d) (upd (del H2 a) d (.xd fs))) (fun _ _ _ => False) := fun e he => by
  refine ⟨e, _, rfl, Int.natCast_nonneg _, by show ((tx.length - y.length : Nat) : Int) ≤ _; omega, upd_same, fun dx hdx hne => ⟨rfl, dx, _, upd_same, by rw [upd_ne hne]; exact upd_same, (upd_none hdx), ?_⟩⟩
  have n1 : H1 dx = none := upd_none hdx
  refine hE dx _ (s.free n1) (fun b o hb => ?_) upd_same
  have hb1 := s _ _ hb
  have b1 : b ≠ dx := ne_of_none hb1 n1
  have b2 : b ≠ e := ne_of_none hb1 he
  rw [upd_ne b1, del_ne b2, upd_ne b2, upd_ne b1, upd_ne b2]
  exact hb1
theorem ee_at {CE : Addr} {HB H1 : Hp} {E : XK} {σ : St} (hE : EErr CE HB E) (s : Same HB H1) : Ex0.tMkO0 CE (spEe CE) σ H1 (fun cls d H' => E cls d H') := fun a ha => by
  refine ⟨a, rfl, upd_same, rfl, upd_same, hE _ fun b o hb => ?_⟩
  have hb1 := s _ _ hb
  have b2 : b ≠ a := ne_of_none hb1 ha
  rw [del_ne b2, upd_ne b2]
  exact hb1
theorem upd_self {H : Hp} {a : Addr} {o : HO} (h : H a = some o) : upd H a o = H := by
  funext b
  by_cases e : b = a
  · rw [e, upd_same, h]
  · rw [upd_ne e]
theorem upd_upd' {H : Hp} {a : Addr} {o o' : HO} : upd (upd H a o) a o' = upd H a o' := by
  funext b
  by_cases e : b = a
  · rw [e, upd_same, upd_same]
  · rw [upd_ne e, upd_ne e, upd_ne e]
/-- the reader at r, x is left; what HB has stands -/
structure RA (C r dx : Addr) (tx : Str) (nl cl : Addr) (pl : Int) (x : List Nat) (H HB : Hp) : Prop where
  h : H r = some (.ins C dx (rdF tx (ps tx x) nl cl pl))
  f : Sf tx x
  l : tx.length < 10000000
  s : Same HB H
  b : HB r = none
def mv (C r dx : Addr) (tx : Str) (nl cl : Addr) (pl : Int) (H : Hp) (y : List Nat) : Hp := upd H r (.ins C dx (rdF tx (ps tx y) nl cl pl))
section
variable {C r dx : Addr} {tx : Str} {nl cl : Addr} {pl : Int} {x y z : List Nat} {H HB : Hp}
theorem RA.mv (h : RA C r dx tx nl cl pl x H HB) (hy : Sf tx y) : RA C r dx tx nl cl pl y (mv C r dx tx nl cl pl H y) HB := ⟨upd_same, hy, h.l, same_mut h.s h.b _, h.b⟩
theorem mv_mv : mv C r dx tx nl cl pl (mv C r dx tx nl cl pl H y) z = mv C r dx tx nl cl pl H z := upd_upd'
theorem RA.self (h : RA C r dx tx nl cl pl x H HB) : Mw.mv C r dx tx nl cl pl H x = H := upd_self h.h
end
/-- what may leave -/
abbrev Kx {α : Type} (CT CE : Addr) (tx : Str) (HB : Hp) (E : XK) (q : Rs α) (k : α → List Nat → Prop) : Prop := q.Kn k (TErr CT tx HB E) (EErr CE HB E)
section
variable {P : Program} {w : World} {K : PySem.W.Frag} {mg : Str → Option Value} {base : Heap} {C CT fT CE fE : Addr} {fdT fdE : FuncData}
/-! ### sign_ahead -/
abbrev sSg : Stmt := mth (top 19) 1
theorem scSg : FnScope ["self"] ["self"] (defScope sSg) := ⟨rfl, rfl, rfl, by decide +kernel, rfl, by decide +kernel, by decide +kernel⟩
def aheadS (x : List Nat) : Rs Nat := match x with
  | [] => .fin
  | c :: y => .ok c (c :: y)
def spSg (C CT CE : Addr) : Sp := fun vs H Q E => ∃ (r dx nl cl : Addr) (tx : Str) (pl : Int) (x : List Nat) (HB : Hp), vs = [.ref r] ∧ RA C r dx tx nl cl pl x H HB ∧ Kx CT CE tx HB E (aheadS x) (fun c _ => Q (.str ⟨#[c]⟩) H)
theorem ok_sg {f : Addr} {fd : FuncData} (F : Fun K "sign_ahead" "Reader.sign_ahead" sSg f fd) (R : RC K C) (EC : EC P w K mg base CT fT fdT CE fE fdE) (ml : mg "len" = none) : FnOk P w K mg base (L2.CX P w) 3 f fd ["self"] (spSg C CT CE) := by
  refine F.okX scSg (fun vs H Q E h => ?_) (fun cdv A outer s H vs Q E hr h => ?_)
  · obtain ⟨r, dx, nl, cl, tx, pl, x, HB, rfl, _⟩ := h
    rfl
  obtain ⟨r, dx, nl, cl, tx, pl, x, HB, rfl, ra, q⟩ := h
  refine ⟨_, pss_cons (ps_if (pt_cmpR op_ge (pe_fld (pv 0) rfl) (pe_callB call_len_str (by rfl) ml PySem.boot_len (pa_cons (pe_fld (pv 0) rfl) pa_nil)) (nomark _)) (pss_one (ps_raise rfl (takes_of rfl rfl rfl rfl) (Ex0.pmk_oex0 (k := 1) EC.E EC.iE EC.tE EC.GE hr EC.bE passL rfl EC.mE))) pss_nil)
    (pss_one (ps_ret (pe_ix ix_str (pe_fld (pv 0) rfl) (pe_fld (pv 0) rfl) (fun _ _ => rfl)))), ?_⟩
  refine ⟨_, rfl, r, C, dx, _, .int (ps tx x), rfl, ra.h, R.c, R.np, rfl, _, rfl, r, C, dx, _, .str tx, rfl, ra.h, R.c, R.nt, rfl, tx, rfl, le_line ra.l, _, _, rfl, rfl, _, rfl, ?_⟩
  cases x with
  | nil =>
    rw [show decide ((tx.length : Int) ≤ ps tx []) = true from decide_eq_true (by show (tx.length : Int) ≤ ((tx.length - 0 : Nat) : Int); omega)]
    exact ee_at (σ := []) q ra.s
  | cons c y =>
    have hlen := ra.f.len
    simp only [List.length_cons] at hlen
    rw [show decide ((tx.length : Int) ≤ ps tx (c :: y)) = false from decide_eq_false (by show ¬ (tx.length : Int) ≤ ((tx.length - (y.length + 1) : Nat) : Int); omega)]
    exact ⟨_, rfl, r, C, dx, _, .str tx, rfl, ra.h, R.c, R.nt, rfl, _, rfl, r, C, dx, _, .int (ps tx (c :: y)), rfl, ra.h, R.c, R.np, rfl, tx, _, c, rfl, rfl, le_line ra.l, atI_nat ra.f.at, q⟩
/-! ### skip_spaces -/
abbrev sSk : Stmt := mth (top 19) 2
theorem scSk : FnScope ["self"] ["self"] (defScope sSk) := ⟨rfl, rfl, rfl, by decide +kernel, rfl, by decide +kernel, by decide +kernel⟩
def spSk (C : Addr) : Sp := fun vs H Q _ => ∃ (r dx nl cl : Addr) (tx : Str) (pl : Int) (x : List Nat) (HB : Hp), vs = [.ref r] ∧ RA C r dx tx nl cl pl x H HB ∧ Q .non (mv C r dx tx nl cl pl H (skip x))
theorem sp_in (c : Nat) : decide (c ∈ (" \n" : Str).cps.toList) = isSp c := by
  rw [show (" \n" : Str).cps.toList = [32, 10] from rfl]
  unfold isSp
  rw [Bool.eq_iff_iff]
  simp
theorem ok_sk {f : Addr} {fd : FuncData} {tk : Tok} (F : Fun K "skip_spaces" "Reader.skip_spaces" sSk f fd) (R : RC K C) (ml : mg "len" = none) (mS : mg "SPACES" = some (.str " \n" tk)) : FnOk P w K mg base CX0 1 f fd ["self"] (spSk C) := by
  refine F.ok scSk (fun vs H Q E h => ?_) (fun cdv A outer s H vs Q E hr h => ?_)
  · obtain ⟨r, dx, nl, cl, tx, pl, x, HB, rfl, _⟩ := h
    rfl
  obtain ⟨r, dx, nl, cl, tx, pl, x, HB, rfl, ra, q⟩ := h
  refine ⟨_, pss_one (ps_while PassesOwn.never (PW.pt (pw_and (pt_cmpR op_lt (pe_fld (pv 0) rfl) (pe_callB call_len_str (by rfl) ml PySem.boot_len (pa_cons (pe_fld (pv 0) rfl) pa_nil)) (nomark _))
      (pw_and1 (pt_cmpR op_in_sign (pe_ix ix_str (pe_fld (pv 0) rfl) (pe_fld (pv 0) rfl) (fun _ _ => rfl)) (pe_glob rfl mS (v := .str " \n") ⟨_, rfl⟩) (by rfl)))))
    (pss_one (ps_fldaug (pv 0) pe_int in_add))), ?_⟩
  refine ⟨fun m σ H' => ∃ y, y.length = m ∧ Sf tx y ∧ skip y = skip x ∧ σ = L2.start ["self"] [V.ref r] ∧ H' = mv C r dx tx nl cl pl H y, ⟨x.length, x, rfl, ra.f, rfl, rfl, ra.self.symm⟩, ?_⟩
  rintro m σ H' ⟨y, rfl, hy, he, rfl, rfl⟩
  have ra' := ra.mv hy
  refine ⟨_, rfl, r, C, dx, _, .int (ps tx y), rfl, ra'.h, R.c, R.np, rfl, _, rfl, r, C, dx, _, .str tx, rfl, ra'.h, R.c, R.nt, rfl, tx, rfl, le_line ra.l, _, _, rfl, rfl, _, rfl, ?_⟩
  cases y with
  | nil =>
    rw [show decide (ps tx [] < (tx.length : Int)) = false from decide_eq_false (by show ¬ ((tx.length - 0 : Nat) : Int) < (tx.length : Int); omega)]
    rw [← he] at q
    exact q
  | cons c y =>
    have hlen := hy.len
    simp only [List.length_cons] at hlen
    rw [show decide (ps tx (c :: y) < (tx.length : Int)) = true from decide_eq_true (by show ((tx.length - (y.length + 1) : Nat) : Int) < (tx.length : Int); omega)]
    refine ⟨_, rfl, r, C, dx, _, .str tx, rfl, ra'.h, R.c, R.nt, rfl, _, rfl, r, C, dx, _, .int (ps tx (c :: y)), rfl, ra'.h, R.c, R.np, rfl, tx, _, c, rfl, rfl, le_line ra.l, atI_nat hy.at, c, _, rfl, rfl, _, rfl, ?_⟩
    rw [sp_in]
    cases hs : isSp c with
    | true =>
      have hy' : Sf tx y := (List.suffix_cons c y).trans hy
      refine ⟨fun σ H' => σ = L2.start ["self"] [V.ref r] ∧ H' = mv C r dx tx nl cl pl H y, fun σ' H' ⟨e1, e2⟩ => ⟨y.length, Nat.lt_succ_self _, y, rfl, hy', ?_, e1, e2⟩, ?_⟩
      · rw [← he]
        show _ = (if isSp c = true then skip y else c :: y)
        rw [hs, if_pos rfl]
      refine ⟨_, rfl, r, C, dx, _, .int (ps tx (c :: y)), rfl, ra'.h, R.c, R.np, rfl, ?_⟩
      refine ⟨_, _, rfl, rfl, dx, _, ra'.h, by show 5 < 1000; omega, rfl, ?_⟩
      rw [put_place, ps_cons hy]
      exact upd_upd'
    | false =>
      have e : skip x = c :: y := by
        rw [← he]
        show (if isSp c = true then skip y else c :: y) = _
        rw [hs]
        rfl
      rw [e] at q
      exact q
end
end Mw

namespace Mw
open PySem L2
/-- behind a step that only moves on -/
abbrev Mv {α : Type} (C CT CE r dx : Addr) (tx : Str) (nl cl : Addr) (pl : Int) (H HB : Hp) (Q : VK) (E : XK) (val : α → V) (q : Rs α) : Prop := Kx CT CE tx HB E q fun a y => Q (val a) (mv C r dx tx nl cl pl H y)
section
variable {P : Program} {w : World} {K : PySem.W.Frag} {mg : Str → Option Value} {base : Heap} {C CT fT CE fE : Addr} {fdT fdE : FuncData}
theorem str1_eq (c d : Nat) : decide (V.str ⟨#[c]⟩ = V.str ⟨#[d]⟩) = decide (c = d) := by
  by_cases h : c = d
  · rw [h, decide_eq_true rfl, decide_eq_true rfl]
  · rw [decide_eq_false h]
    refine decide_eq_false fun z => h ?_
    injection z with z
    injection z with z
    injection z with z
    injection z
/-! ### take_sign -/
abbrev sTs : Stmt := mth (top 19) 3
theorem scTs : FnScope ["self", "sign"] ["self", "sign"] (defScope sTs) := ⟨rfl, rfl, rfl, by decide +kernel, rfl, by decide +kernel, by decide +kernel⟩
def spTs (C CT CE : Addr) : Sp := fun vs H Q E => ∃ (r dx nl cl : Addr) (tx : Str) (pl : Int) (x : List Nat) (HB : Hp) (c : Nat), vs = [.ref r, .str ⟨#[c]⟩] ∧ RA C r dx tx nl cl pl x H HB ∧ Mv C CT CE r dx tx nl cl pl H HB Q E (fun _ => .non) (tkSign c x)
theorem ok_ts {f fK fG : Addr} {fd fdK fdG : FuncData} (F : Fun K "take_sign" "Reader.take_sign" sTs f fd) (R : RC K C) (EC : EC P w K mg base CT fT fdT CE fE fdE)
    (GK : FnOk P w K mg base CX0 1 fK fdK ["self"] (spSk C)) (bK : Binds K fdK ["self"] []) (mK : Meth K C "skip_spaces" fK)
    (GG : FnOk P w K mg base (L2.CX P w) 3 fG fdG ["self"] (spSg C CT CE)) (bG : Binds K fdG ["self"] []) (mG : Meth K C "sign_ahead" fG) : FnOk P w K mg base (L2.CX P w) 4 f fd ["self", "sign"] (spTs C CT CE) := by
  refine F.okX scTs (fun vs H Q E h => ?_) (fun cdv A outer s H vs Q E hr h => ?_)
  · obtain ⟨r, dx, nl, cl, tx, pl, x, HB, c, rfl, _⟩ := h
    rfl
  obtain ⟨r, dx, nl, cl, tx, pl, x, HB, c, rfl, ra, q⟩ := h
  refine ⟨_, pss_cons (ps_expr (pe_meth0 (pv 0) R.c mK GK (hr.mono (by decide)) bK .nil pass0)) (pss_cons (ps_if (pt_cmpR op_ne (pe_meth0 (pv 0) R.c mG GG (hr.mono (by decide)) bG .nil (Ca.passA (Ca.takesA_of (takes_of rfl rfl rfl rfl)))) (pv 1) (nomark _)) (pss_one (ps_raise rfl (takes_of rfl rfl rfl rfl) (pmk_oex (k := 1) EC.T EC.iT EC.tT EC.GT (hr.mono (by decide)) EC.bT .nil passL rfl EC.mT (pa_cons (pe_fld (pv 0) rfl) pa_nil)))) pss_nil)
    (pss_one (ps_fldaug (pv 0) pe_int in_add))), ?_⟩
  have ra1 := ra.mv ((skip_suf x).trans ra.f)
  refine ⟨_, rfl, r, dx, _, rfl, ra.h, rfl, ⟨r, dx, nl, cl, tx, pl, x, HB, rfl, ra, ?_⟩⟩
  refine ⟨_, rfl, r, dx, _, rfl, ra1.h, rfl, ⟨r, dx, nl, cl, tx, pl, skip x, HB, rfl, ra1, ?_⟩⟩
  have q' : Kx CT CE tx HB E (match skip x with | [] => (Rs.fin : Rs Unit) | d :: y => if d = c then .ok () y else .tok (d :: y)) fun a y => Q .non (mv C r dx tx nl cl pl H y) := q
  generalize skip x = z at q' ra1 ⊢
  cases z with
  | nil => exact q'
  | cons d y =>
    refine ⟨_, rfl, rfl, _, rfl, ?_⟩
    rw [show (!decide (V.str ⟨#[d]⟩ = V.str ⟨#[c]⟩)) = !decide (d = c) by rw [str1_eq]]
    by_cases e : d = c
    · rw [decide_eq_true e]
      have q2 : Kx CT CE tx HB E (if d = c then .ok () y else (.tok (d :: y) : Rs Unit)) fun a y => Q .non (mv C r dx tx nl cl pl H y) := q'
      rw [if_pos e] at q2
      refine ⟨_, rfl, r, C, dx, _, .int (ps tx (d :: y)), rfl, ra1.h, R.c, R.np, rfl, ?_⟩
      refine ⟨_, _, rfl, rfl, dx, _, ra1.h, by show 5 < 1000; omega, ?_⟩
      rw [put_place, ps_cons ra1.f]
      show Q .non (mv C r dx tx nl cl pl (mv C r dx tx nl cl pl H _) y)
      rw [mv_mv]
      exact q2
    · rw [decide_eq_false e]
      have q2 : Kx CT CE tx HB E (if d = c then .ok () y else (.tok (d :: y) : Rs Unit)) fun a y => Q .non (mv C r dx tx nl cl pl H y) := q'
      rw [if_neg e] at q2
      exact ⟨_, rfl, r, C, dx, _, .int (ps tx (d :: y)), rfl, ra1.h, R.c, R.np, rfl, by show 1 ≤ 1000; decide, te_at q2 ra1.s ra.l⟩
/-! ### take_row -/
abbrev sTr : Stmt := mth (top 19) 4
theorem scTr : FnScope ["self", "signs", "begin"] ["self", "signs"] (defScope sTr) := ⟨rfl, rfl, rfl, by decide +kernel, rfl, by decide +kernel, by decide +kernel⟩
def spTr (C CT CE : Addr) : Sp := fun vs H Q E => ∃ (r dx nl cl : Addr) (tx : Str) (pl : Int) (x : List Nat) (HB : Hp) (z : Str) (f : Nat → Bool), vs = [.ref r, .str z] ∧ RA C r dx tx nl cl pl x H HB ∧ (∀ c, decide (c ∈ z.cps.toList) = f c) ∧ Mv C CT CE r dx tx nl cl pl H HB Q E (fun a => .str (mkS a)) (tkRow f x)
theorem cut_ps {tx : Str} {a y : List Nat} (h : Sf tx (a ++ y)) : cutS tx (some (ps tx (a ++ y))) (some (ps tx y)) = mkS a := by
  have hl := h.len
  rw [List.length_append] at hl
  have hd := h.drop
  unfold cutS
  show (⟨_⟩ : Str) = _
  have e1 : tx.length - (a ++ y).length + a.length = tx.length - y.length := by rw [List.length_append]; omega
  rw [HT.sIx_nat, HT.sIx_nat, Nat.min_eq_left (by omega), Nat.min_eq_left (by omega)]
  rw [show tx.length - y.length - (tx.length - (a ++ y).length) = a.length by omega]
  show (⟨_⟩ : Str) = mkS a
  have : tx.cps.toList = tl tx := rfl
  rw [this, hd, List.take_left]
  rfl
theorem ok_tr {f fG : Addr} {fd fdG : FuncData} (F : Fun K "take_row" "Reader.take_row" sTr f fd) (R : RC K C) (EC : EC P w K mg base CT fT fdT CE fE fdE) (ml : mg "len" = none)
    (GG : FnOk P w K mg base (L2.CX P w) 3 fG fdG ["self"] (spSg C CT CE)) (bG : Binds K fdG ["self"] []) (mG : Meth K C "sign_ahead" fG) : FnOk P w K mg base (L2.CX P w) 4 f fd ["self", "signs"] (spTr C CT CE) := by
  refine F.okX scTr (fun vs H Q E h => ?_) (fun cdv A outer s H vs Q E hr h => ?_)
  · obtain ⟨r, dx, nl, cl, tx, pl, x, HB, z, f, rfl, _⟩ := h
    rfl
  obtain ⟨r, dx, nl, cl, tx, pl, x, HB, z, g, rfl, ra, hz, q⟩ := h
  have nd := scTr.nd
  refine ⟨_, pss_cons (ps_set (i := 2) nd rfl (.inl rfl) (pe_fld (pv 0) rfl))
    (pss_cons (ps_if (pt_cmpR op_notIn_sign (pe_meth0 (pv 0) R.c mG GG (hr.mono (by decide)) bG .nil (Ca.passA (Ca.takesA_of (takes_of rfl rfl rfl rfl)))) (pv 1) (by rfl)) (pss_one (ps_raise rfl (takes_of rfl rfl rfl rfl) (pmk_oex (k := 1) EC.T EC.iT EC.tT EC.GT (hr.mono (by decide)) EC.bT .nil passL rfl EC.mT (pa_cons (pv 2) pa_nil)))) pss_nil)
    (pss_cons (ps_while (passes_of rfl) (PW.pt (pw_and (pt_cmpR op_lt (pe_fld (pv 0) rfl) (pe_callB call_len_str (by rfl) ml PySem.boot_len (pa_cons (pe_fld (pv 0) rfl) pa_nil)) (nomark _))
      (pw_and1 (pt_cmpR op_in_sign (pe_ix ix_str (pe_fld (pv 0) rfl) (pe_fld (pv 0) rfl) (fun _ _ => rfl)) (pv 1) (by rfl)))))
      (pss_one (ps_fldaug (pv 0) pe_int in_add)))
    (pss_one (ps_ret (pe_slice sl_str (pe_fld (pv 0) rfl) (po_some (pv 2)) (po_some (pe_fld (pv 0) rfl))))))), ?_⟩
  refine ⟨_, rfl, r, C, dx, _, .int (ps tx x), rfl, ra.h, R.c, R.np, rfl, ?_⟩
  refine ⟨_, rfl, r, dx, _, rfl, ra.h, rfl, ⟨r, dx, nl, cl, tx, pl, x, HB, rfl, ra, ?_⟩⟩
  cases x with
  | nil => exact q
  | cons c0 x0 =>
  refine ⟨_, rfl, c0, z, rfl, rfl, _, rfl, ?_⟩
  rw [show (!decide (c0 ∈ z.cps.toList)) = !g c0 by rw [hz]]
  have q' : Mv C CT CE r dx tx nl cl pl H HB Q E (fun a => .str (mkS a)) (if g c0 = true then .ok (c0 :: x0.takeWhile g) (x0.dropWhile g) else .tok (c0 :: x0)) := q
  cases hg0 : g c0 with
  | false =>
    rw [hg0] at q'
    exact ⟨_, rfl, by show 1 ≤ 1000; decide, te_at q' ra.s ra.l⟩
  | true =>
  rw [hg0, if_pos rfl] at q'
  let S : St := [some (.ref r), some (.str z), some (.int (ps tx (c0 :: x0)))]
  refine ⟨fun m σ H' => ∃ a y, y.length = m ∧ c0 :: x0 = a ++ y ∧ a ++ y.takeWhile g = c0 :: x0.takeWhile g ∧ y.dropWhile g = x0.dropWhile g ∧ σ = S ∧ H' = mv C r dx tx nl cl pl H y, ⟨(c0 :: x0).length, [], c0 :: x0, rfl, rfl, by show (c0 :: x0).takeWhile g = _; rw [List.takeWhile_cons_of_pos hg0], by rw [List.dropWhile_cons_of_pos hg0], rfl, ra.self.symm⟩, ?_⟩
  rintro m σ H' ⟨a, y, rfl, ey, et, ed, rfl, rfl⟩
  have hy : Sf tx y := List.IsSuffix.trans (show y <:+ c0 :: x0 from ⟨a, ey.symm⟩) ra.f
  have ra' := ra.mv hy
  have fin : y.takeWhile g = [] → y.dropWhile g = y → tRet (tSl rSlS (tFld K (tVar 0) "text") (tPart (tVar 2)) (tPart (tFld K (tVar 0) "place"))) { nx := fun _ H' => Q V.non H', rt := Q } S (mv C r dx tx nl cl pl H y) := fun e1 e2 => by
    refine ⟨_, rfl, r, C, dx, _, .str tx, rfl, ra'.h, R.c, R.nt, rfl, _, rfl, _, rfl, _, rfl, r, C, dx, _, .int (ps tx y), rfl, ra'.h, R.c, R.np, rfl, _, rfl, tx, rfl, le_line ra.l, ?_⟩
    have hs : Sf tx (a ++ y) := by rw [← ey]; exact ra.f
    rw [show ps tx (c0 :: x0) = ps tx (a ++ y) by rw [ey], cut_ps hs]
    rw [e1, List.append_nil] at et
    rw [e2] at ed
    have := q'
    rw [← et, ← ed] at this
    exact this
  refine ⟨_, rfl, r, C, dx, _, .int (ps tx y), rfl, ra'.h, R.c, R.np, rfl, _, rfl, r, C, dx, _, .str tx, rfl, ra'.h, R.c, R.nt, rfl, tx, rfl, le_line ra.l, _, _, rfl, rfl, _, rfl, ?_⟩
  cases y with
  | nil =>
    rw [show decide (ps tx [] < (tx.length : Int)) = false from decide_eq_false (by show ¬ ((tx.length - 0 : Nat) : Int) < (tx.length : Int); omega)]
    exact fin rfl rfl
  | cons c y =>
    have hlen := hy.len
    simp only [List.length_cons] at hlen
    rw [show decide (ps tx (c :: y) < (tx.length : Int)) = true from decide_eq_true (by show ((tx.length - (y.length + 1) : Nat) : Int) < (tx.length : Int); omega)]
    refine ⟨_, rfl, r, C, dx, _, .str tx, rfl, ra'.h, R.c, R.nt, rfl, _, rfl, r, C, dx, _, .int (ps tx (c :: y)), rfl, ra'.h, R.c, R.np, rfl, tx, _, c, rfl, rfl, le_line ra.l, atI_nat hy.at, _, rfl, c, _, rfl, rfl, _, rfl, ?_⟩
    rw [hz]
    cases hg : g c with
    | true =>
      refine ⟨fun σ H' => σ = S ∧ H' = mv C r dx tx nl cl pl H y, fun σ' H' ⟨e1, e2⟩ => ⟨y.length, Nat.lt_succ_self _, a ++ [c], y, rfl, by rw [ey]; simp, ?_, ?_, e1, e2⟩, ?_⟩
      · rw [← et, List.takeWhile_cons_of_pos hg]
        simp
      · rw [← ed, List.dropWhile_cons_of_pos hg]
      refine ⟨_, rfl, r, C, dx, _, .int (ps tx (c :: y)), rfl, ra'.h, R.c, R.np, rfl, ?_⟩
      refine ⟨_, _, rfl, rfl, dx, _, ra'.h, by show 5 < 1000; omega, rfl, ?_⟩
      rw [put_place, ps_cons hy]
      exact upd_upd'
    | false =>
      refine fin ?_ ?_
      · exact List.takeWhile_cons_of_neg (by rw [hg]; exact Bool.false_ne_true)
      · exact List.dropWhile_cons_of_neg (by rw [hg]; exact Bool.false_ne_true)
end
end Mw

namespace Mw
open PySem L2
abbrev lettersS : Str := "abcdefghijklmnopqrstuvwxyz"
abbrev figuresS : Str := "0123456789"
theorem let_in (c : Nat) : decide (c ∈ lettersS.cps.toList) = isLet c := by
  have e : lettersS.cps.toList = (List.range 26).map (· + 97) := by decide +kernel
  rw [e]
  unfold isLet
  rw [Bool.eq_iff_iff]
  simp only [decide_eq_true_eq, Bool.and_eq_true, List.mem_map, List.mem_range]
  exact ⟨fun ⟨a, h, e⟩ => by omega, fun ⟨h1, h2⟩ => ⟨c - 97, by omega, by omega⟩⟩
theorem fig_in (c : Nat) : decide (c ∈ figuresS.cps.toList) = isFig c := by
  have e : figuresS.cps.toList = (List.range 10).map (· + 48) := by decide +kernel
  rw [e]
  unfold isFig
  rw [Bool.eq_iff_iff]
  simp only [decide_eq_true_eq, Bool.and_eq_true, List.mem_map, List.mem_range]
  exact ⟨fun ⟨a, h, e⟩ => by omega, fun ⟨h1, h2⟩ => ⟨c - 48, by omega, by omega⟩⟩
section
variable {P : Program} {w : World} {K : PySem.W.Frag} {mg : Str → Option Value} {base : Heap} {C CT fT CE fE : Addr} {fdT fdE : FuncData}
theorem row_ok {f : Nat → Bool} {x a y : List Nat} (h : tkRow f x = .ok a y) : x = a ++ y ∧ a.all f = true ∧ a ≠ [] := by
  unfold tkRow at h
  split at h
  · cases h
  · rename_i c z
    split at h
    · rename_i hc
      injection h with h1 h2
      subst h1 h2
      refine ⟨?_, ?_, List.cons_ne_nil _ _⟩
      · show _ = c :: (z.takeWhile f ++ z.dropWhile f)
        rw [List.takeWhile_append_dropWhile]
      · rw [List.all_cons, hc, Bool.true_and]
        exact List.all_takeWhile
    · cases h
theorem row_tok {f : Nat → Bool} {x y : List Nat} (h : tkRow f x = .tok y) : y = x := by
  unfold tkRow at h
  split at h
  · cases h
  · split at h
    · cases h
    · injection h with h; exact h.symm
/-! ### take_name -/
abbrev sNa : Stmt := mth (top 19) 5
theorem scNa : FnScope ["self", "begin", "name"] ["self"] (defScope sNa) := ⟨rfl, rfl, rfl, by decide +kernel, rfl, by decide +kernel, by decide +kernel⟩
def spNa (C CT CE : Addr) : Sp := fun vs H Q E => ∃ (r dx nl cl : Addr) (tx : Str) (pl : Int) (x : List Nat) (HB : Hp), vs = [.ref r] ∧ RA C r dx tx nl cl pl x H HB ∧ Mv C CT CE r dx tx nl cl pl H HB Q E (fun a => .str (mkS a)) (tkName x)
theorem ok_na {f fR : Addr} {fd fdR : FuncData} {tk tm : Tok} (F : Fun K "take_name" "Reader.take_name" sNa f fd) (R : RC K C) (EC : EC P w K mg base CT fT fdT CE fE fdE) (ml : mg "len" = none) (mL : mg "LETTERS" = some (.str lettersS tk)) (mM : mg "MOST_LETTERS" = some (.int 8 tm))
    (GR : FnOk P w K mg base (L2.CX P w) 4 fR fdR ["self", "signs"] (spTr C CT CE)) (bR : Binds K fdR ["self", "signs"] []) (mR : Meth K C "take_row" fR) : FnOk P w K mg base (L2.CX P w) 5 f fd ["self"] (spNa C CT CE) := by
  refine F.okX scNa (fun vs H Q E h => ?_) (fun cdv A outer s H vs Q E hr h => ?_)
  · obtain ⟨r, dx, nl, cl, tx, pl, x, HB, rfl, _⟩ := h
    rfl
  obtain ⟨r, dx, nl, cl, tx, pl, x, HB, rfl, ra, q⟩ := h
  have nd := scNa.nd
  refine ⟨_, pss_cons (ps_set (i := 1) nd rfl (.inl rfl) (pe_fld (pv 0) rfl))
    (pss_cons (ps_set (i := 2) nd rfl (.inl rfl) (pe_meth (pv 0) R.c mR GR hr bR .nil (Ca.passA (Ca.takesA_of (takes_of rfl rfl rfl rfl))) (pa_cons (pe_glob rfl mL (v := .str lettersS) ⟨_, rfl⟩) pa_nil)))
    (pss_cons (ps_if (pt_cmpR op_gt (pe_callB call_len_str (by rfl) ml PySem.boot_len (pa_cons (pv 2) pa_nil)) (pe_glob rfl mM (v := .int 8) ⟨_, rfl⟩) (nomark _)) (pss_one (ps_raise rfl (takes_of rfl rfl rfl rfl) (pmk_oex (k := 1) EC.T EC.iT EC.tT EC.GT (hr.mono (by decide)) EC.bT .nil passL rfl EC.mT (pa_cons (pv 1) pa_nil)))) pss_nil)
    (pss_one (ps_ret (pv 2))))), ?_⟩
  refine ⟨_, rfl, r, C, dx, _, .int (ps tx x), rfl, ra.h, R.c, R.np, rfl, ?_⟩
  refine ⟨_, rfl, r, dx, _, rfl, ra.h, rfl, ⟨r, dx, nl, cl, tx, pl, x, HB, lettersS, isLet, rfl, ra, let_in, ?_⟩⟩
  unfold tkName at q
  have hin := tkRow_in isLet x
  cases e : tkRow isLet x with
  | fin => rw [e] at q; exact q
  | tok y => rw [e] at q; exact q
  | ok a y =>
    rw [e] at q hin
    have ra1 := ra.mv (hin.trans ra.f)
    obtain ⟨ex, _, _⟩ := row_ok e
    have hxl := ra.f.len
    rw [ex, List.length_append] at hxl
    have q' : Mv C CT CE r dx tx nl cl pl H HB Q E (fun a => .str (mkS a)) (if 8 < a.length then .tok x else .ok a y) := q
    have al : a.length < 10000000 := by have := ra.l; omega
    refine ⟨_, rfl, _, rfl, by rw [mk_len]; exact le_line al, _, _, rfl, rfl, _, rfl, ?_⟩
    rw [mk_len]
    by_cases h8 : 8 < a.length
    · rw [if_pos h8] at q'
      rw [decide_eq_true (show (8 : Int) < (a.length : Int) by omega)]
      exact ⟨_, rfl, by show 1 ≤ 1000; decide, te_at q' ra1.s ra.l⟩
    · rw [if_neg h8] at q'
      rw [decide_eq_false (show ¬ (8 : Int) < (a.length : Int) by omega)]
      exact ⟨_, rfl, q'⟩
/-! ### take_number -/
abbrev sTm : Stmt := mth (top 19) 6
theorem scTm : FnScope ["self", "most", "begin", "figures"] ["self", "most"] (defScope sTm) := ⟨rfl, rfl, rfl, by decide +kernel, rfl, by decide +kernel, by decide +kernel⟩
def spTm (C CT CE : Addr) : Sp := fun vs H Q E => ∃ (r dx nl cl : Addr) (tx : Str) (pl : Int) (x : List Nat) (HB : Hp) (most : Nat), vs = [.ref r, .int most] ∧ most ≤ 3 ∧ RA C r dx tx nl cl pl x H HB ∧ Mv C CT CE r dx tx nl cl pl H HB Q E V.int (tkNum most x)
theorem ok_tm {f fR : Addr} {fd fdR : FuncData} {tk : Tok} (F : Fun K "take_number" "Reader.take_number" sTm f fd) (R : RC K C) (EC : EC P w K mg base CT fT fdT CE fE fdE) (ml : mg "len" = none) (mi : mg "int" = none) (mF : mg "FIGURES" = some (.str figuresS tk))
    (GR : FnOk P w K mg base (L2.CX P w) 4 fR fdR ["self", "signs"] (spTr C CT CE)) (bR : Binds K fdR ["self", "signs"] []) (mR : Meth K C "take_row" fR) : FnOk P w K mg base (L2.CX P w) 5 f fd ["self", "most"] (spTm C CT CE) := by
  refine F.okX scTm (fun vs H Q E h => ?_) (fun cdv A outer s H vs Q E hr h => ?_)
  · obtain ⟨r, dx, nl, cl, tx, pl, x, HB, most, rfl, _⟩ := h
    rfl
  obtain ⟨r, dx, nl, cl, tx, pl, x, HB, most, rfl, hm, ra, q⟩ := h
  have nd := scTm.nd
  refine ⟨_, pss_cons (ps_set (i := 2) nd rfl (.inl rfl) (pe_fld (pv 0) rfl))
    (pss_cons (ps_set (i := 3) nd rfl (.inl rfl) (pe_meth (pv 0) R.c mR GR hr bR .nil (Ca.passA (Ca.takesA_of (takes_of rfl rfl rfl rfl))) (pa_cons (pe_glob rfl mF (v := .str figuresS) ⟨_, rfl⟩) pa_nil)))
    (pss_cons (ps_if (PW.pt (pw_or (pt_cmpR op_gt (pe_callB call_len_str (by rfl) ml PySem.boot_len (pa_cons (pv 3) pa_nil)) (pv 1) (nomark _))
        (pw_or1 (PW.pt (pw_and (pt_cmpR op_gt (pe_callB call_len_str (by rfl) ml PySem.boot_len (pa_cons (pv 3) pa_nil)) pe_int (nomark _))
          (pw_and1 (pt_cmpR op_eq (pe_ix ix_str (pv 3) pe_int (fun _ _ => rfl)) pe_str (nomark _)))))))) (pss_one (ps_raise rfl (takes_of rfl rfl rfl rfl) (pmk_oex (k := 1) EC.T EC.iT EC.tT EC.GT (hr.mono (by decide)) EC.bT .nil passL rfl EC.mT (pa_cons (pv 2) pa_nil)))) pss_nil)
    (pss_one (ps_ret (pe_callTy call_int_str (by rfl) mi (by decide +kernel) (pa_cons (pv 3) pa_nil)))))), ?_⟩
  refine ⟨_, rfl, r, C, dx, _, .int (ps tx x), rfl, ra.h, R.c, R.np, rfl, ?_⟩
  refine ⟨_, rfl, r, dx, _, rfl, ra.h, rfl, ⟨r, dx, nl, cl, tx, pl, x, HB, figuresS, isFig, rfl, ra, fig_in, ?_⟩⟩
  unfold tkNum at q
  have hin := tkRow_in isFig x
  cases e : tkRow isFig x with
  | fin => rw [e] at q; exact q
  | tok y => rw [e] at q; exact q
  | ok a y =>
    rw [e] at q hin
    have ra1 := ra.mv (hin.trans ra.f)
    obtain ⟨ex, ha, hne⟩ := row_ok e
    have hxl := ra.f.len
    rw [ex, List.length_append] at hxl
    have q' : Mv C CT CE r dx tx nl cl pl H HB Q E V.int (if most < a.length ∨ (1 < a.length ∧ a.head? = some 48) then .tok x else .ok (numOf a) y) := q
    have al : a.length < 10000000 := by have := ra.l; omega
    have ll : (mkS a).length ≤ sizeLine := by rw [mk_len]; exact le_line al
    refine ⟨_, rfl, _, rfl, ll, _, rfl, _, _, rfl, rfl, _, rfl, ?_⟩
    rw [mk_len]
    have bad : (most < a.length ∨ (1 < a.length ∧ a.head? = some 48)) → tMkO CT (spTe CT) [] (tCons (tVar 2) tNil) [some (.ref r), some (.int most), some (.int (ps tx x)), some (.str (mkS a))] (mv C r dx tx nl cl pl H y) (fun cls d H' => E cls d H') := fun hb => by
      rw [if_pos hb] at q'
      exact ⟨_, rfl, by show 1 ≤ 1000; decide, te_at q' ra1.s ra.l⟩
    have good : ¬ (most < a.length ∨ (1 < a.length ∧ a.head? = some 48)) → Q (.int (numOf a)) (mv C r dx tx nl cl pl H y) := fun hb => by
      rw [if_neg hb] at q'
      exact q'
    by_cases h8 : most < a.length
    · rw [decide_eq_true (show (most : Int) < (a.length : Int) by omega)]
      exact bad (.inl h8)
    · rw [decide_eq_false (show ¬ (most : Int) < (a.length : Int) by omega)]
      have al3 : a.length ≤ 3 := by omega
      have fin : ¬ (1 < a.length ∧ a.head? = some 48) → tRet (tCB (fun xs H Q => ∃ a n, xs = [.str a] ∧ PySem.intText? a = some n ∧ a.length ≤ 640 ∧ Q (.int n) H) (tCons (tVar 3) tNil)) { nx := fun _ H' => Q V.non H', rt := Q } [some (.ref r), some (.int most), some (.int (ps tx x)), some (.str (mkS a))] (mv C r dx tx nl cl pl H y) := fun hb =>
        ⟨_, rfl, _, _, rfl, SX.int_S ha hne (by omega), by rw [mk_len]; omega, good fun z => z.elim h8 hb⟩
      refine ⟨_, rfl, _, rfl, ll, _, _, rfl, rfl, _, rfl, ?_⟩
      rw [mk_len]
      by_cases h1 : 1 < a.length
      · rw [decide_eq_true (show (1 : Int) < (a.length : Int) by omega)]
        obtain ⟨c, a', rfl⟩ : ∃ c a', a = c :: a' := by
          cases a with
          | nil => exact absurd rfl hne
          | cons c a' => exact ⟨c, a', rfl⟩
        refine ⟨_, rfl, _, 0, c, rfl, rfl, ll, atI_nat (j := 0) rfl, rfl, _, rfl, ?_⟩
        rw [show decide (V.str ⟨#[c]⟩ = V.str "0") = decide (c = 48) from str1_eq c 48]
        by_cases hc : c = 48
        · rw [decide_eq_true hc]
          exact bad (.inr ⟨h1, by rw [hc]; rfl⟩)
        · rw [decide_eq_false hc]
          exact fin fun z => hc (by have := z.2; injection this)
      · rw [decide_eq_false (show ¬ (1 : Int) < (a.length : Int) by omega)]
        exact fin fun z => h1 z.1
end
end Mw

namespace Mw
open PySem L2
theorem sw_eq (x y : Str) (p : Nat) (hy : tl y ≠ []) : Txt.startswith3 x y (p : Int) = decide (((tl x).drop p).take (tl y).length = tl y) := by
  have hf : PySem.fromIndex x.length (p : Int) = p := by
    unfold PySem.fromIndex
    rw [if_neg (by omega)]
    omega
  have hx : x.length = (tl x).length := len_tl' x
  have hl : y.length = (tl y).length := len_tl' y
  unfold Txt.startswith3
  rw [hf]
  unfold Builtin.Str.subAt
  have he : (x.cps.extract p (p + y.length)).toList = ((tl x).drop p).take (tl y).length := by
    rw [Array.toList_extract, List.extract_eq_take_drop, Nat.add_sub_cancel_left, hl]
  have hpos := List.length_pos_iff.mpr hy
  rw [Bool.eq_iff_iff, Bool.and_eq_true, decide_eq_true_iff, decide_eq_true_iff, beq_iff_eq]
  refine ⟨fun h => ?_, fun h => ⟨?_, ?_⟩⟩
  · rw [← he, h.2]
  · have := congrArg List.length h
    rw [List.length_take, List.length_drop] at this
    omega
  · refine Array.toList_inj.mp ?_
    rw [he, h]
theorem sw_pre {tx y : Str} {x : List Nat} (h : Sf tx x) (hy : tl y ≠ []) : Txt.startswith3 tx y (ps tx x) = (tl y).isPrefixOf x := by
  rw [sw_eq tx y _ hy, h.drop, Bool.eq_iff_iff, decide_eq_true_iff, List.isPrefixOf_iff_prefix, List.prefix_iff_eq_take]
  exact eq_comm
section
variable {P : Program} {w : World} {K : PySem.W.Frag} {mg : Str → Option Value} {base : Heap} {C CT fT CE fE : Addr} {fdT fdE : FuncData}
theorem mk_inj {a b : List Nat} (h : mkS a = mkS b) : a = b := congrArg tl h
/-! ### take_kind -/
abbrev sTk : Stmt := mth (top 19) 7
theorem scTk : FnScope ["self", "begin", "kind"] ["self"] (defScope sTk) := ⟨rfl, rfl, rfl, by decide +kernel, rfl, by decide +kernel, by decide +kernel⟩
def spTk (C CT CE : Addr) : Sp := fun vs H Q E => ∃ (r dx nl cl : Addr) (tx : Str) (pl : Int) (x : List Nat) (HB : Hp), vs = [.ref r] ∧ RA C r dx tx nl cl pl x H HB ∧ Kx CT CE tx HB E (tkKind x) fun b y => ∀ H', Same (mv C r dx tx nl cl pl H y) H' → Q (.str (kindS b)) H'
theorem kind_in (a : List Nat) : inV (V.str (mkS a)) [.str "select", .str "plural"] = decide (a = selL ∨ a = pluL) := by
  rw [in_two, show ("select" : Str) = mkS selL by decide +kernel, show ("plural" : Str) = mkS pluL by decide +kernel]
  rw [Bool.eq_iff_iff, decide_eq_true_iff, decide_eq_true_iff]
  exact ⟨fun h => h.imp mk_inj mk_inj, fun h => h.imp (congrArg mkS) (congrArg mkS)⟩
theorem ok_tk {f fK fR : Addr} {fd fdK fdR : FuncData} {tk : Tok} (F : Fun K "take_kind" "Reader.take_kind" sTk f fd) (R : RC K C) (EC : EC P w K mg base CT fT fdT CE fE fdE) (mL : mg "LETTERS" = some (.str lettersS tk))
    (GK : FnOk P w K mg base CX0 1 fK fdK ["self"] (spSk C)) (bK : Binds K fdK ["self"] []) (mK : Meth K C "skip_spaces" fK)
    (GR : FnOk P w K mg base (L2.CX P w) 4 fR fdR ["self", "signs"] (spTr C CT CE)) (bR : Binds K fdR ["self", "signs"] []) (mR : Meth K C "take_row" fR) : FnOk P w K mg base (L2.CX P w) 5 f fd ["self"] (spTk C CT CE) := by
  refine F.okX scTk (fun vs H Q E h => ?_) (fun cdv A outer s H vs Q E hr h => ?_)
  · obtain ⟨r, dx, nl, cl, tx, pl, x, HB, rfl, _⟩ := h
    rfl
  obtain ⟨r, dx, nl, cl, tx, pl, x, HB, rfl, ra, q⟩ := h
  have nd := scTk.nd
  refine ⟨_, pss_cons (ps_expr (pe_meth0 (pv 0) R.c mK GK (hr.mono (by decide)) bK .nil pass0)) (pss_cons (ps_set (i := 1) nd rfl (.inl rfl) (pe_fld (pv 0) rfl))
    (pss_cons (ps_set (i := 2) nd rfl (.inl rfl) (pe_meth (pv 0) R.c mR GR hr bR .nil (Ca.passA (Ca.takesA_of (takes_of rfl rfl rfl rfl))) (pa_cons (pe_glob rfl mL (v := .str lettersS) ⟨_, rfl⟩) pa_nil)))
    (pss_cons (ps_if (pt_cmpR op_notIn_seq (pv 2) (pe_tup (pa_cons pe_str (pa_cons pe_str pa_nil))) (by rfl)) (pss_one (ps_raise rfl (takes_of rfl rfl rfl rfl) (pmk_oex (k := 1) EC.T EC.iT EC.tT EC.GT (hr.mono (by decide)) EC.bT .nil passL rfl EC.mT (pa_cons (pv 1) pa_nil)))) pss_nil)
    (pss_one (ps_ret (pv 2)))))), ?_⟩
  have ra1 := ra.mv ((skip_suf x).trans ra.f)
  refine ⟨_, rfl, r, dx, _, rfl, ra.h, rfl, ⟨r, dx, nl, cl, tx, pl, x, HB, rfl, ra, ?_⟩⟩
  refine ⟨_, rfl, r, C, dx, _, .int (ps tx (skip x)), rfl, ra1.h, R.c, R.np, rfl, ?_⟩
  refine ⟨_, rfl, r, dx, _, rfl, ra1.h, rfl, ⟨r, dx, nl, cl, tx, pl, skip x, HB, lettersS, isLet, rfl, ra1, let_in, ?_⟩⟩
  unfold tkKind at q
  have hin := tkRow_in isLet (skip x)
  cases e : tkRow isLet (skip x) with
  | fin => rw [e] at q; exact q
  | tok y => rw [e] at q; exact q
  | ok a y =>
    rw [e] at q hin
    have ra2 := ra1.mv (hin.trans ra1.f)
    have q' : Kx CT CE tx HB E (if a = selL then .ok false y else if a = pluL then .ok true y else (.tok (skip x) : Rs Bool)) fun b y => ∀ H', Same (mv C r dx tx nl cl pl H y) H' → Q (.str (kindS b)) H' := q
    have em : mv C r dx tx nl cl pl (mv C r dx tx nl cl pl H (skip x)) y = mv C r dx tx nl cl pl H y := mv_mv
    rw [em] at ra2
    dsimp only [Mv, Kx, Rs.Kn]
    rw [em]
    refine ⟨_, rfl, by show 2 ≤ sizeLine; decide, fun t ht => ⟨t, _, rfl, .inr (.inl (.inl upd_same)), rfl, rfl, _, rfl, ?_⟩⟩
    have s2 : Same (mv C r dx tx nl cl pl H y) (upd (mv C r dx tx nl cl pl H y) t (.tup [.str "select", .str "plural"])) := same_new ht _
    show (if (!inV (V.str (mkS a)) [.str "select", .str "plural"]) = true then _ else _)
    rw [kind_in]
    by_cases e1 : a = selL
    · rw [if_pos e1] at q'
      rw [decide_eq_true (.inl e1)]
      refine ⟨_, rfl, ?_⟩
      have : mkS a = kindS false := by rw [e1]; decide +kernel
      rw [this]
      exact q' _ s2
    · rw [if_neg e1] at q'
      by_cases e2 : a = pluL
      · rw [if_pos e2] at q'
        rw [decide_eq_true (.inr e2)]
        refine ⟨_, rfl, ?_⟩
        have : mkS a = kindS true := by rw [e2]; decide +kernel
        rw [this]
        exact q' _ s2
      · rw [if_neg e2] at q'
        rw [decide_eq_false (fun z => z.elim e1 e2)]
        exact ⟨_, rfl, by show 1 ≤ 1000; decide, te_at q' (ra2.s.trans s2) ra.l⟩
/-! ### take_offset -/
abbrev sTo : Stmt := mth (top 19) 8
theorem scTo : FnScope ["self"] ["self"] (defScope sTo) := ⟨rfl, rfl, rfl, by decide +kernel, rfl, by decide +kernel, by decide +kernel⟩
def spTo (C CT CE : Addr) : Sp := fun vs H Q E => ∃ (r dx nl cl : Addr) (tx : Str) (pl : Int) (x : List Nat) (HB : Hp), vs = [.ref r] ∧ RA C r dx tx nl cl pl x H HB ∧ Mv C CT CE r dx tx nl cl pl H HB Q E V.int (tkOff x)
theorem ok_to {f fK fM : Addr} {fd fdK fdM : FuncData} {tk tm : Tok} (F : Fun K "take_offset" "Reader.take_offset" sTo f fd) (R : RC K C) (ml : mg "len" = none) (mO : mg "OFFSET_MARK" = some (.str "offset:" tk)) (mF : mg "OFFSET_FIGURES" = some (.int 1 tm))
    (GK : FnOk P w K mg base CX0 1 fK fdK ["self"] (spSk C)) (bK : Binds K fdK ["self"] []) (mK : Meth K C "skip_spaces" fK)
    (GM : FnOk P w K mg base (L2.CX P w) 5 fM fdM ["self", "most"] (spTm C CT CE)) (bM : Binds K fdM ["self", "most"] []) (mM : Meth K C "take_number" fM) : FnOk P w K mg base (L2.CX P w) 6 f fd ["self"] (spTo C CT CE) := by
  refine F.okX scTo (fun vs H Q E h => ?_) (fun cdv A outer s H vs Q E hr h => ?_)
  · obtain ⟨r, dx, nl, cl, tx, pl, x, HB, rfl, _⟩ := h
    rfl
  obtain ⟨r, dx, nl, cl, tx, pl, x, HB, rfl, ra, q⟩ := h
  refine ⟨_, pss_cons (ps_expr (pe_meth0 (pv 0) R.c mK GK (hr.mono (by decide)) bK .nil pass0))
    (pss_cons (ps_if (pt_not (pt_val (pe_bm PySem.F.plainAttrs_str PySem.F.slot_str_startswith PySem.F.type_str_startswith mt_startswith3 (pe_fld (pv 0) rfl) (pa_cons (pe_glob rfl mO (v := .str "offset:") ⟨_, rfl⟩) (pa_cons (pe_fld (pv 0) rfl) pa_nil)))))
      (pss_one (ps_ret pe_int)) pss_nil)
    (pss_cons (ps_fldaug (pv 0) (pe_callB call_len_str (by rfl) ml PySem.boot_len (pa_cons (pe_glob rfl mO (v := .str "offset:") ⟨_, rfl⟩) pa_nil)) in_add)
    (pss_one (ps_ret (pe_meth (pv 0) R.c mM GM hr bM .nil (Ca.passA (Ca.takesA_of (takes_of rfl rfl rfl rfl))) (pa_cons (pe_glob rfl mF (v := .int 1) ⟨_, rfl⟩) pa_nil)))))), ?_⟩
  have ra1 := ra.mv ((skip_suf x).trans ra.f)
  refine ⟨_, rfl, r, dx, _, rfl, ra.h, rfl, ⟨r, dx, nl, cl, tx, pl, x, HB, rfl, ra, ?_⟩⟩
  refine ⟨_, rfl, r, C, dx, _, .str tx, rfl, ra1.h, R.c, R.nt, rfl, rfl, _, rfl, r, C, dx, _, .int (ps tx (skip x)), rfl, ra1.h, R.c, R.np, rfl, tx, "offset:", _, rfl, rfl, _, rfl, ?_⟩
  rw [sw_pre ra1.f (by decide +kernel)]
  have eo : tl ("offset:" : Str) = ofsL := by decide +kernel
  rw [eo]
  have q' : Mv C CT CE r dx tx nl cl pl H HB Q E V.int (if ofsL.isPrefixOf (skip x) = true then tkNum 1 ((skip x).drop 7) else .ok 0 (skip x)) := q
  cases hp : ofsL.isPrefixOf (skip x) with
  | false =>
    rw [hp] at q'
    exact q'
  | true =>
    rw [hp, if_pos rfl] at q'
    obtain ⟨z, hz⟩ := List.isPrefixOf_iff_prefix.mp hp
    have hd : (skip x).drop 7 = z := by rw [← hz]; rfl
    rw [hd] at q'
    have hzs : z <:+ skip x := ⟨ofsL, hz⟩
    have ra2 := ra1.mv (hzs.trans ra1.f)
    rw [mv_mv] at ra2
    have e7 : ps tx (skip x) + (("offset:" : Str).length : Int) = ps tx z := by
      have h1 := ra1.f.len
      have h2 : (skip x).length = 7 + z.length := by rw [← hz, List.length_append]; rfl
      show ((tx.length - (skip x).length : Nat) : Int) + ((7 : Nat) : Int) = ((tx.length - z.length : Nat) : Int)
      omega
    refine ⟨_, rfl, r, C, dx, _, .int (ps tx (skip x)), rfl, ra1.h, R.c, R.np, rfl, _, rfl, by decide, ?_⟩
    refine ⟨_, _, rfl, rfl, dx, _, ra1.h, by show 5 < 1000; omega, ?_⟩
    rw [put_place, e7]
    have em : upd (mv C r dx tx nl cl pl H (skip x)) r (.ins C dx (rdF tx (ps tx z) nl cl pl)) = mv C r dx tx nl cl pl H z := mv_mv
    rw [em]
    refine ⟨_, rfl, r, dx, _, rfl, ra2.h, rfl, ⟨r, dx, nl, cl, tx, pl, z, HB, 1, rfl, by decide, ra2, ?_⟩⟩
    exact q'.imp (fun a y h => by rw [mv_mv]; exact h) (fun _ h => h) (fun h => h)
/-! ### take_plural_key -/
def catV : List V := [.str "zero", .str "one", .str "two", .str "few", .str "many"]
theorem cat_in (a : List Nat) : inV (V.str (mkS a)) catV = decide (a ∈ catL) := by
  have e : catV = catL.map fun a => V.str (mkS a) := by
    unfold catV catL
    decide +kernel
  rw [e, Bool.eq_iff_iff, decide_eq_true_iff]
  unfold inV
  rw [List.any_eq_true]
  refine ⟨fun ⟨v, hv, he⟩ => ?_, fun h => ⟨_, List.mem_map_of_mem h, ?_⟩⟩
  · obtain ⟨b, hb, rfl⟩ := List.mem_map.mp hv
    have : mkS b = mkS a := of_decide_eq_true he
    rw [← mk_inj this]
    exact hb
  · exact decide_eq_true rfl
abbrev sTq : Stmt := mth (top 19) 9
theorem scTq : FnScope ["self", "begin", "key"] ["self"] (defScope sTq) := ⟨rfl, rfl, rfl, by decide +kernel, rfl, by decide +kernel, by decide +kernel⟩
def spTq (C CT CE : Addr) : Sp := fun vs H Q E => ∃ (r dx nl cl : Addr) (tx : Str) (pl : Int) (x : List Nat) (HB : Hp), vs = [.ref r] ∧ RA C r dx tx nl cl pl x H HB ∧ Mv C CT CE r dx tx nl cl pl H HB Q E kV (tkPKey x)
theorem ok_tq {f fG fM fN ct : Addr} {fd fdG fdM fdN : FuncData} {tm : Tok} (F : Fun K "take_plural_key" "Reader.take_plural_key" sTq f fd) (R : RC K C) (EC : EC P w K mg base CT fT fdT CE fE fdE) (mC : mg "CATEGORIES" = some (.ref ct)) (kC : ∀ H : Hp, SqT K H ct catV) (mF : mg "KEY_FIGURES" = some (.int 3 tm))
    (GG : FnOk P w K mg base (L2.CX P w) 3 fG fdG ["self"] (spSg C CT CE)) (bG : Binds K fdG ["self"] []) (mG : Meth K C "sign_ahead" fG)
    (GM : FnOk P w K mg base (L2.CX P w) 5 fM fdM ["self", "most"] (spTm C CT CE)) (bM : Binds K fdM ["self", "most"] []) (mM : Meth K C "take_number" fM)
    (GN : FnOk P w K mg base (L2.CX P w) 5 fN fdN ["self"] (spNa C CT CE)) (bN : Binds K fdN ["self"] []) (mN : Meth K C "take_name" fN) : FnOk P w K mg base (L2.CX P w) 6 f fd ["self"] (spTq C CT CE) := by
  refine F.okX scTq (fun vs H Q E h => ?_) (fun cdv A outer s H vs Q E hr h => ?_)
  · obtain ⟨r, dx, nl, cl, tx, pl, x, HB, rfl, _⟩ := h
    rfl
  obtain ⟨r, dx, nl, cl, tx, pl, x, HB, rfl, ra, q⟩ := h
  have nd := scTq.nd
  refine ⟨_, pss_cons (ps_if (pt_cmpR op_eq (pe_meth0 (pv 0) R.c mG GG (hr.mono (by decide)) bG .nil (Ca.passA (Ca.takesA_of (takes_of rfl rfl rfl rfl)))) pe_str (nomark _))
      (pss_cons (ps_fldaug (pv 0) pe_int in_add) (pss_one (ps_ret (pe_meth (pv 0) R.c mM GM hr bM .nil (Ca.passA (Ca.takesA_of (takes_of rfl rfl rfl rfl))) (pa_cons (pe_glob rfl mF (v := .int 3) ⟨_, rfl⟩) pa_nil))))) pss_nil)
    (pss_cons (ps_set (i := 1) nd rfl (.inl rfl) (pe_fld (pv 0) rfl))
    (pss_cons (ps_set (i := 2) nd rfl (.inl rfl) (pe_meth0 (pv 0) R.c mN GN hr bN .nil (Ca.passA (Ca.takesA_of (takes_of rfl rfl rfl rfl)))))
    (pss_cons (ps_if (PW.pt (pw_and (pt_cmpR op_ne (pv 2) pe_str (nomark _)) (pw_and1 (pt_cmpR op_notIn_seq (pv 2) (pe_glob rfl mC (v := .ref ct) rfl) (by rfl))))) (pss_one (ps_raise rfl (takes_of rfl rfl rfl rfl) (pmk_oex (k := 1) EC.T EC.iT EC.tT EC.GT (hr.mono (by decide)) EC.bT .nil passL rfl EC.mT (pa_cons (pv 1) pa_nil)))) pss_nil)
    (pss_one (ps_ret (pv 2)))))), ?_⟩
  refine ⟨_, rfl, r, dx, _, rfl, ra.h, rfl, ⟨r, dx, nl, cl, tx, pl, x, HB, rfl, ra, ?_⟩⟩
  cases x with
  | nil => exact q
  | cons c y =>
  refine ⟨rfl, _, rfl, ?_⟩
  rw [show decide (V.str ⟨#[c]⟩ = V.str "=") = decide (c = 61) from str1_eq c 61]
  have q' : Mv C CT CE r dx tx nl cl pl H HB Q E kV (if c = 61 then (tkNum 3 y).bind fun n z => .ok (.inl n) z else (tkName (c :: y)).bind fun a z => if a = othL ∨ a ∈ catL then .ok (.inr (mkS a)) z else .tok (c :: y)) := q
  by_cases hc : c = 61
  · rw [if_pos hc] at q'
    rw [decide_eq_true hc]
    have hy : Sf tx y := (List.suffix_cons c y).trans ra.f
    have ra1 := ra.mv hy
    refine ⟨_, rfl, r, C, dx, _, .int (ps tx (c :: y)), rfl, ra.h, R.c, R.np, rfl, ?_⟩
    refine ⟨_, _, rfl, rfl, dx, _, ra.h, by show 5 < 1000; omega, ?_⟩
    rw [put_place, ps_cons ra.f]
    have em : upd H r (.ins C dx (rdF tx (ps tx y) nl cl pl)) = mv C r dx tx nl cl pl H y := rfl
    rw [em]
    refine ⟨_, rfl, r, dx, _, rfl, ra1.h, rfl, ⟨r, dx, nl, cl, tx, pl, y, HB, 3, rfl, by decide, ra1, ?_⟩⟩
    have q2 : Kx CT CE tx HB E ((tkNum 3 y).bind fun n z => (.ok (.inl n) z : Rs L2.Key)) fun a y => Q (kV a) (mv C r dx tx nl cl pl H y) := q'
    unfold Kx at q2
    rw [Rs.kn_bind] at q2
    exact q2.imp (fun a y h => by rw [mv_mv]; exact h) (fun _ h => h) (fun h => h)
  · rw [if_neg hc] at q'
    rw [decide_eq_false hc]
    refine ⟨_, rfl, r, C, dx, _, .int (ps tx (c :: y)), rfl, ra.h, R.c, R.np, rfl, ?_⟩
    refine ⟨_, rfl, r, dx, _, rfl, ra.h, rfl, ⟨r, dx, nl, cl, tx, pl, c :: y, HB, rfl, ra, ?_⟩⟩
    have q2 : Kx CT CE tx HB E ((tkName (c :: y)).bind fun a z => (if a = othL ∨ a ∈ catL then .ok (.inr (mkS a)) z else .tok (c :: y) : Rs L2.Key)) fun a y => Q (kV a) (mv C r dx tx nl cl pl H y) := q'
    unfold Kx at q2
    rw [Rs.kn_bind] at q2
    have hin := tkName_in (c :: y)
    cases e : tkName (c :: y) with
    | fin => rw [e] at q2; exact q2
    | tok y => rw [e] at q2; exact q2
    | ok a z =>
      rw [e] at q2 hin
      have ra1 := ra.mv (hin.trans ra.f)
      have q3 : (if a = othL ∨ a ∈ catL then .ok (.inr (mkS a)) z else .tok (c :: y) : Rs L2.Key).Kn (fun a y => Q (kV a) (mv C r dx tx nl cl pl H y)) (TErr CT tx HB E) (EErr CE HB E) := q2
      refine ⟨_, rfl, rfl, _, rfl, ?_⟩
      have eoth : ("other" : Str) = mkS othL := by decide +kernel
      rw [eoth]
      by_cases e1 : a = othL
      · rw [if_pos (.inl e1)] at q3
        rw [show (!decide (V.str (mkS a) = V.str (mkS othL))) = false by rw [e1]; simp]
        exact ⟨_, rfl, q3⟩
      · rw [show (!decide (V.str (mkS a) = V.str (mkS othL))) = true by rw [decide_eq_false fun z => e1 (mk_inj (by injection z))]; rfl]
        refine ⟨_, rfl, ct, catV, rfl, .inr (kC _), rfl, rfl, _, rfl, ?_⟩
        show (if (!inV (V.str (mkS a)) catV) = true then _ else _)
        rw [cat_in]
        by_cases e2 : a ∈ catL
        · rw [if_pos (.inr e2)] at q3
          rw [decide_eq_true e2]
          exact ⟨_, rfl, q3⟩
        · rw [if_neg (fun z => z.elim e1 e2)] at q3
          rw [decide_eq_false e2]
          exact ⟨_, rfl, by show 1 ≤ 1000; decide, te_at q3 ra1.s ra.l⟩
end
end Mw

namespace Mw
open PySem L2
theorem one_lt (a b : Nat) : (decide (([a] : List Nat) < [b])) = decide (a < b) := by
  by_cases h : a < b
  · rw [decide_eq_true h]
    exact decide_eq_true (List.Lex.rel h)
  · rw [decide_eq_false h]
    refine decide_eq_false fun e => ?_
    cases e with
    | rel x => exact h x
    | cons x => cases x
def tupOf : T → List V
  | .num _ => [.str "number"]
  | .text s _ => [.str "text", .str s]
  | .shw n _ => [.str "show", .str n]
  | _ => []
/-- a node has been put behind the others -/
structure Put (C r dx : Addr) (tx : Str) (nl cl : Addr) (pl : Int) (H : Hp) (ns xs : List V) (y : List Nat) (H' : Hp) (t : Addr) : Prop where
  t0 : H t = none
  ht : H' t = some (.tup xs)
  hn : H' nl = some (.lst (ns ++ [.ref t]))
  hr : H' r = some (.ins C dx (rdF tx (ps tx y) nl cl pl))
  k : ∀ a o, H a = some o → a ≠ r → a ≠ nl → H' a = some o
section
variable {P : Program} {w : World} {K : PySem.W.Frag} {mg : Str → Option Value} {base : Heap} {C CT fT CE fE : Addr} {fdT fdE : FuncData}
/-! ### is_text_sign -/
abbrev sIt : Stmt := top 17
theorem scIt : FnScope ["sign"] ["sign"] (defScope sIt) := ⟨rfl, rfl, rfl, by decide +kernel, rfl, by decide +kernel, by decide +kernel⟩
def spIt : Sp := fun vs H Q _ => ∃ c : Nat, vs = [.str ⟨#[c]⟩] ∧ Q (.bl (okB c)) H
theorem ok_it {f : Addr} {fd : FuncData} (F : Fun K "is_text_sign" "is_text_sign" sIt f fd) : FnOk P w K mg base CX0 1 f fd ["sign"] spIt := by
  refine F.ok scIt (fun vs H Q E h => ?_) (fun cdv A outer s H vs Q E hr h => ?_)
  · obtain ⟨c, rfl, _⟩ := h
    rfl
  obtain ⟨c, rfl, q⟩ := h
  refine ⟨_, pss_one (ps_ret (pe_or (pe_cmpR op_eq (pv 0) pe_str (nomark _)) (pe_one (pe_chain op_le_str op_le_str pe_str (pv 0) pe_str)))), ?_⟩
  refine ⟨_, rfl, rfl, _, rfl, ?_⟩
  rw [show decide (V.str ⟨#[c]⟩ = V.str "\n") = decide (c = 10) from str1_eq c 10]
  unfold okB at q
  by_cases e : c = 10
  · rw [decide_eq_true e] at q ⊢
    exact q
  · rw [decide_eq_false e] at q ⊢
    refine ⟨_, rfl, " ", _, rfl, rfl, _, rfl, ?_⟩
    rw [show decide (((⟨#[c]⟩ : Str).cps.toList) < ((" " : Str).cps.toList)) = decide (c < 32) from one_lt c 32]
    by_cases h1 : c < 32
    · rw [decide_eq_true h1]
      rw [decide_eq_false (show ¬ 32 ≤ c by omega)] at q
      exact q
    · rw [decide_eq_false h1]
      rw [decide_eq_true (show 32 ≤ c by omega)] at q
      refine ⟨_, "~", rfl, rfl, ?_⟩
      rw [show decide ((("~" : Str).cps.toList) < ((⟨#[c]⟩ : Str).cps.toList)) = decide (126 < c) from one_lt 126 c]
      by_cases h2 : 126 < c
      · rw [decide_eq_true h2]
        rw [decide_eq_false (show ¬ c ≤ 126 by omega)] at q
        exact q
      · rw [decide_eq_false h2]
        rw [decide_eq_true (show c ≤ 126 by omega)] at q
        exact q
/-! ### read_sign -/
abbrev sRs : Stmt := mth (top 19) 15
theorem scRs : FnScope ["self", "sign"] ["self"] (defScope sRs) := ⟨rfl, rfl, rfl, by decide +kernel, rfl, by decide +kernel, by decide +kernel⟩
def spRs (C CT CE : Addr) : Sp := fun vs H Q E => ∃ (r dx nl cl : Addr) (tx : Str) (pl : Int) (x : List Nat) (HB : Hp) (ns : List V), vs = [.ref r] ∧ RA C r dx tx nl cl pl x H HB ∧ H nl = some (.lst ns) ∧ ns.length < sizeLine ∧
  Kx CT CE tx HB E (rdSign (decide (0 < pl)) x) fun u y => ∀ H' t, Put C r dx tx nl cl pl H ns (tupOf u) y H' t → Q .non H'
theorem ok_rs {f fG fT' : Addr} {fd fdG fdT' : FuncData} (F : Fun K "read_sign" "Reader.read_sign" sRs f fd) (R : RC K C) (EC : EC P w K mg base CT fT fdT CE fE fdE)
    (GG : FnOk P w K mg base (L2.CX P w) 3 fG fdG ["self"] (spSg C CT CE)) (bG : Binds K fdG ["self"] []) (mG : Meth K C "sign_ahead" fG)
    (GT : FnOk P w K mg base CX0 1 fT' fdT' ["sign"] spIt) (bT : Binds K fdT' ["sign"] []) (kT : PySem.W.keepIn K (.ref fT') = true) (mT : mg "is_text_sign" = some (.ref fT')) : FnOk P w K mg base (L2.CX P w) 4 f fd ["self"] (spRs C CT CE) := by
  refine F.okX scRs (fun vs H Q E h => ?_) (fun cdv A outer s H vs Q E hr h => ?_)
  · obtain ⟨r, dx, nl, cl, tx, pl, x, HB, ns, rfl, _⟩ := h
    rfl
  obtain ⟨r, dx, nl, cl, tx, pl, x, HB, ns, rfl, ra, hn, hnl, q⟩ := h
  have nd := scRs.nd
  refine ⟨_, pss_cons (ps_set (i := 1) nd rfl (.inl rfl) (pe_meth0 (pv 0) R.c mG GG (hr.mono (by decide)) bG .nil (Ca.passA (Ca.takesA_of (takes_of rfl rfl rfl rfl)))))
    (pss_cons (ps_if (PW.pt (pw_and (pt_cmpR op_eq (pv 1) pe_str (nomark _)) (pw_and1 (pt_cmpR op_gt (pe_fld (pv 0) rfl) pe_int (nomark _)))))
      (pss_one (ps_expr (pe_bm PySem.F.plainAttrs_list PySem.F.slot_list_append PySem.F.type_list_append mt_append (pe_fld (pv 0) rfl) (pa_cons (pe_tup (pa_cons pe_str pa_nil)) pa_nil))))
      (pss_one (ps_if (PW.pt (pw_or (pt_cmpR op_in_sign (pv 1) pe_str (by rfl)) (pw_or1 (pt_not (pt_val (by exact (pe_call GT (hr.mono (by decide)) rfl mT kT bT .nil pass0 (pa_cons (pv 1) pa_nil))))))))
        (pss_one (ps_raise rfl (takes_of rfl rfl rfl rfl) (pmk_oex (k := 1) EC.T EC.iT EC.tT EC.GT (hr.mono (by decide)) EC.bT .nil passL rfl EC.mT (pa_cons (pe_fld (pv 0) rfl) pa_nil))))
        (pss_one (ps_expr (pe_bm PySem.F.plainAttrs_list PySem.F.slot_list_append PySem.F.type_list_append mt_append (pe_fld (pv 0) rfl) (pa_cons (pe_tup (pa_cons pe_str (pa_cons (pv 1) pa_nil))) pa_nil)))))))
    (pss_one (ps_fldaug (pv 0) pe_int in_add))), ?_⟩
  refine ⟨_, rfl, r, dx, _, rfl, ra.h, rfl, ⟨r, dx, nl, cl, tx, pl, x, HB, rfl, ra, ?_⟩⟩
  cases x with
  | nil => exact q
  | cons c y =>
  have hnr : nl ≠ r := fun e => by rw [e, ra.h] at hn; cases hn
  have ty : tyV K "list" (.ref nl) H := .inl ⟨rfl, _, SqL.of hn⟩
  have tail : ∀ xs t, H t = none → t ≠ nl ∧ upd (upd H t (.tup xs)) nl (.lst (ns ++ [.ref t])) r = some (.ins C dx (rdF tx (ps tx (c :: y)) nl cl pl)) := fun xs t ht =>
    have h1 : t ≠ nl := fun e => by rw [e, hn] at ht; cases ht
    have h2 : r ≠ t := fun e => by rw [← e, ra.h] at ht; cases ht
    ⟨h1, by rw [upd_ne hnr.symm, upd_ne h2]; exact ra.h⟩
  have hz : ∀ xs t, H t = none → upd H t (.tup xs) nl = some (.lst ns) := fun xs t ht => by rw [upd_ne (tail xs t ht).1.symm]; exact hn
  have put : ∀ xs t, H t = none → Put C r dx tx nl cl pl H ns xs y (upd (upd (upd H t (.tup xs)) nl (.lst (ns ++ [.ref t]))) r (.ins C dx (rdF tx (ps tx y) nl cl pl))) t := fun xs t ht =>
    have h2 : t ≠ r := fun e => by rw [e, ra.h] at ht; cases ht
    ⟨ht, by rw [upd_ne h2, upd_ne (tail xs t ht).1, upd_same], by rw [upd_ne hnr, upd_same], upd_same, fun a o h z1 z2 => by rw [upd_ne z1, upd_ne z2, upd_ne (ne_of_none h ht)]; exact h⟩
  have q' : Kx CT CE tx HB E (if c = 35 ∧ decide (0 < pl) = true then .ok (.num .nil) y else if c = 125 ∨ c = 35 ∨ okB c = false then .tok (c :: y) else .ok (.text ⟨#[c]⟩ .nil) y) fun u y => ∀ H' t, Put C r dx tx nl cl pl H ns (tupOf u) y H' t → Q .non H' := q
  refine ⟨_, rfl, rfl, _, rfl, ?_⟩
  rw [show decide (V.str ⟨#[c]⟩ = V.str "#") = decide (c = 35) from str1_eq c 35]
  have inS : decide (c ∈ ("}#" : Str).cps.toList) = decide (c = 125 ∨ c = 35) := by
    rw [show ("}#" : Str).cps.toList = [125, 35] from rfl, Bool.eq_iff_iff]
    simp
  have np : ∀ xs t, H t = none → upd (upd H t (.tup xs)) nl (.lst (ns ++ [.ref t])) r = some (.ins C dx (rdF tx (ps tx (c :: y)) nl cl pl)) := fun xs t ht => (tail xs t ht).2
  by_cases h35 : c = 35
  · rw [decide_eq_true h35]
    refine ⟨_, rfl, r, C, dx, _, .int pl, rfl, ra.h, R.c, R.nu, rfl, _, _, rfl, rfl, _, rfl, ?_⟩
    by_cases hpl : 0 < pl
    · rw [if_pos ⟨h35, decide_eq_true hpl⟩] at q'
      rw [decide_eq_true hpl]
      refine ⟨_, rfl, r, C, dx, _, .ref nl, rfl, ra.h, R.c, R.nn, rfl, ty, by show 1 ≤ sizeLine; decide, fun t ht => ⟨nl, ns, _, rfl, rfl, hz _ t ht, hnl, ?_⟩⟩
      refine ⟨_, rfl, r, C, dx, _, .int (ps tx (c :: y)), rfl, np _ t ht, R.c, R.np, rfl, _, _, rfl, rfl, dx, _, np _ t ht, by show 5 < 1000; omega, ?_⟩
      rw [put_place, ps_cons ra.f]
      exact q' _ _ (put _ t ht)
    · rw [if_neg (fun z => hpl (of_decide_eq_true z.2)), if_pos (.inr (.inl h35))] at q'
      rw [decide_eq_false hpl]
      refine ⟨_, rfl, c, "}#", rfl, rfl, _, rfl, ?_⟩
      rw [inS, decide_eq_true (.inr h35)]
      exact ⟨_, rfl, r, C, dx, _, .int (ps tx (c :: y)), rfl, ra.h, R.c, R.np, rfl, by show 1 ≤ 1000; decide, te_at q' ra.s ra.l⟩
  · rw [decide_eq_false h35]
    rw [if_neg (fun z => h35 z.1)] at q'
    refine ⟨_, rfl, c, "}#", rfl, rfl, _, rfl, ?_⟩
    rw [inS]
    by_cases h125 : c = 125
    · rw [if_pos (.inl h125)] at q'
      rw [decide_eq_true (.inl h125)]
      exact ⟨_, rfl, r, C, dx, _, .int (ps tx (c :: y)), rfl, ra.h, R.c, R.np, rfl, by show 1 ≤ 1000; decide, te_at q' ra.s ra.l⟩
    · rw [decide_eq_false (fun z => z.elim h125 h35)]
      refine ⟨_, rfl, ⟨c, rfl, _, rfl, ?_⟩⟩
      cases hk : okB c with
      | false =>
        rw [if_pos (.inr (.inr hk))] at q'
        exact ⟨_, rfl, r, C, dx, _, .int (ps tx (c :: y)), rfl, ra.h, R.c, R.np, rfl, by show 1 ≤ 1000; decide, te_at q' ra.s ra.l⟩
      | true =>
        rw [if_neg (fun z => z.elim h125 fun z => z.elim h35 fun z => by rw [hk] at z; cases z)] at q'
        refine ⟨_, rfl, r, C, dx, _, .ref nl, rfl, ra.h, R.c, R.nn, rfl, ty, _, rfl, by show 2 ≤ sizeLine; decide, fun t ht => ⟨nl, ns, _, rfl, rfl, hz _ t ht, hnl, ?_⟩⟩
        refine ⟨_, rfl, r, C, dx, _, .int (ps tx (c :: y)), rfl, np _ t ht, R.c, R.np, rfl, _, _, rfl, rfl, dx, _, np _ t ht, by show 5 < 1000; omega, ?_⟩
        rw [put_place, ps_cons ra.f]
        exact q' _ _ (put _ t ht)
/-! ### read_escape -/
def escKs : List Str := escN.map fun c => ⟨#[c]⟩
abbrev sRe : Stmt := mth (top 19) 14
theorem scRe : FnScope ["self", "sign"] ["self"] (defScope sRe) := ⟨rfl, rfl, rfl, by decide +kernel, rfl, by decide +kernel, by decide +kernel⟩
def spRe (C CT CE : Addr) : Sp := fun vs H Q E => ∃ (r dx nl cl : Addr) (tx : Str) (pl : Int) (x : List Nat) (HB : Hp) (ns : List V), vs = [.ref r] ∧ RA C r dx tx nl cl pl x H HB ∧ H nl = some (.lst ns) ∧ ns.length < sizeLine ∧
  Kx CT CE tx HB E (rdEsc x) fun c y => ∀ H' t, Put C r dx tx nl cl pl H ns [.str "text", .str ⟨#[c]⟩] y H' t → Q .non H'
theorem esc_ne (k : Nat) : tl (mkS (escC k)) ≠ [] := fun e => by
  have := escC_pos k
  rw [show escC k = [] from e] at this
  exact absurd this (Nat.lt_irrefl 0)
theorem ok_re {f ed : Addr} {fd : FuncData} {es : Array DictEntry} {n : Nat} (F : Fun K "read_escape" "Reader.read_escape" sRe f fd) (R : RC K C) (EC : EC P w K mg base CT fT fdT CE fE fdE) (A1 : EA K mg w ed es n) (hk : Kg.KeysAre es escKs)
    (A2 : ∀ c ∈ escN, ∃ u, PySem.W.nsIn K ed ⟨#[c]⟩ = some (some u) ∧ RelV (.str (mkS (escC c))) u) (ml : mg "len" = none) : FnOk P w K mg base (L2.CX P w) 3 f fd ["self"] (spRe C CT CE) := by
  refine F.okX scRe (fun vs H Q E h => ?_) (fun cdv A outer s H vs Q E hr h => ?_)
  · obtain ⟨r, dx, nl, cl, tx, pl, x, HB, ns, rfl, _⟩ := h
    rfl
  obtain ⟨r, dx, nl, cl, tx, pl, x, HB, ns, rfl, ra, hn, hnl, q⟩ := h
  have nd := scRe.nd
  refine ⟨_, pss_cons (ps_for (passes_of rfl) rfl (Kg.pi_kkeys A1.d hk (pe_glob rfl A1.g (v := .ref ed) rfl)) (pg_name (i := 1) nd rfl (.inl rfl))
      (pss_one (ps_if (pt_val (by exact (pe_bm PySem.F.plainAttrs_str PySem.F.slot_str_startswith PySem.F.type_str_startswith mt_startswith3 (pe_fld (pv 0) rfl) (pa_cons (pe_ix ix_kdict (pe_glob rfl A1.g (v := .ref ed) rfl) (pv 1) (fun _ _ => rfl)) (pa_cons (pe_fld (pv 0) rfl) pa_nil)))))
        (pss_cons (ps_fldaug (pv 0) (pe_callB call_len_str (by rfl) ml PySem.boot_len (pa_cons (pe_ix ix_kdict (pe_glob rfl A1.g (v := .ref ed) rfl) (pv 1) (fun _ _ => rfl)) pa_nil)) in_add)
        (pss_cons (ps_expr (pe_bm PySem.F.plainAttrs_list PySem.F.slot_list_append PySem.F.type_list_append mt_append (pe_fld (pv 0) rfl) (pa_cons (pe_tup (pa_cons pe_str (pa_cons (pv 1) pa_nil))) pa_nil)))
        (pss_one ps_retN)))
        pss_nil)))
    (pss_one (ps_raise rfl (takes_of rfl rfl rfl rfl) (pmk_oex (k := 1) EC.T EC.iT EC.tT EC.GT (hr.mono (by decide)) EC.bT .nil passL rfl EC.mT (pa_cons (pe_fld (pv 0) rfl) pa_nil)))), ?_⟩
  have KD : ∀ k ∈ escN, KDct K w ed ⟨#[k]⟩ (.str (mkS (escC k))) := fun k hk' => by
    obtain ⟨u, e1, e2⟩ := A2 k hk'
    exact ⟨es, n, u, A1.d.at_, A1.d.lit, e1, e2⟩
  refine ⟨rfl, fun i m σ H' => i ≤ 4 ∧ m = 4 - i ∧ (∃ o1, σ = [some (.ref r), o1]) ∧ H' = H ∧ (escN.find? fun c => (escC c).isPrefixOf x) = (escN.drop i).find? fun c => (escC c).isPrefixOf x, ⟨4, by omega, rfl, ⟨none, rfl⟩, rfl, rfl⟩, ?_⟩
  rintro i m σ H' ⟨hi, rfl, ⟨o1, rfl⟩, rfl, hf⟩
  by_cases h4 : i = 4
  · subst h4
    refine .inl ⟨Nat.le_refl _, ?_⟩
    have : rdEsc x = .tok x := by
      unfold rdEsc
      rw [hf]
      rfl
    rw [this] at q
    exact ⟨_, rfl, r, C, dx, _, .int (ps tx x), rfl, ra.h, R.c, R.np, rfl, by show 1 ≤ 1000; decide, te_at q ra.s ra.l⟩
  have hi4 : i < 4 := by omega
  obtain ⟨k, hki⟩ : ∃ k, escN[i]? = some k := ⟨_, List.getElem?_eq_getElem (show i < escN.length from hi4)⟩
  have hkm : k ∈ escN := List.mem_of_getElem? hki
  have hdr : escN.drop i = k :: escN.drop (i + 1) := by
    obtain ⟨h1, h2⟩ := List.getElem?_eq_some_iff.mp hki
    rw [List.drop_eq_getElem_cons h1, h2]
  rw [hdr, List.find?_cons] at hf
  refine .inr ⟨show i < escKs.length from hi4, fun σ' H1 => σ' = [some (.ref r), some (.str ⟨#[k]⟩)] ∧ H1 = H' ∧ (escC k).isPrefixOf x = false, ?_, ?_⟩
  · rintro σ' H1 ⟨e1, e2, e3⟩
    rw [e3] at hf
    exact ⟨4 - (i + 1), by omega, by omega, rfl, ⟨_, e1⟩, e2, hf⟩
  rintro v H1 ⟨rfl, k', hk', rfl⟩
  have : k' = ⟨#[k]⟩ := by
    rw [show escKs = escN.map fun c => ⟨#[c]⟩ from rfl, List.getElem?_map, hki] at hk'
    cases hk'
    rfl
  subst this
  refine ⟨_, rfl, r, C, dx, _, .str tx, rfl, ra.h, R.c, R.nt, rfl, rfl, _, rfl, ed, _, _, rfl, rfl, KD k hkm, _, rfl, r, C, dx, _, .int (ps tx x), rfl, ra.h, R.c, R.np, rfl, tx, _, _, rfl, rfl, _, rfl, ?_⟩
  rw [sw_pre ra.f (esc_ne k), show tl (mkS (escC k)) = escC k from rfl]
  cases hp : (escC k).isPrefixOf x with
  | false => exact ⟨rfl, rfl, rfl⟩
  | true =>
    rw [hp] at hf
    have : rdEsc x = .ok k (x.drop (escC k).length) := by
      unfold rdEsc
      rw [hf]
    rw [this] at q
    obtain ⟨z, hzx⟩ := List.isPrefixOf_iff_prefix.mp hp
    have hd : x.drop (escC k).length = z := by rw [← hzx, List.drop_left]
    rw [hd] at q
    have hz : Sf tx z := List.IsSuffix.trans (show z <:+ x from ⟨_, hzx⟩) ra.f
    have hnr : nl ≠ r := fun e => by rw [e, ra.h] at hn; cases hn
    have h3 : (mkS (escC k)).length ≤ 10 := by
      rw [len_tl', tl_mk]
      exact Nat.le_trans (escC_len k) (by decide)
    refine ⟨_, rfl, r, C, dx, _, .int (ps tx x), rfl, ra.h, R.c, R.np, rfl, _, rfl, ed, _, _, rfl, rfl, KD k hkm, _, rfl, Nat.le_trans h3 (by decide), ?_⟩
    refine ⟨_, _, rfl, rfl, dx, _, ra.h, by show 5 < 1000; omega, ?_⟩
    have e7 : ps tx x + ((mkS (escC k)).length : Int) = ps tx z := by
      have h1 := ra.f.len
      have h2 : x.length = (escC k).length + z.length := by rw [← hzx, List.length_append]
      rw [mk_len]
      show ((tx.length - x.length : Nat) : Int) + (((escC k).length : Nat) : Int) = ((tx.length - z.length : Nat) : Int)
      omega
    rw [put_place, e7]
    have hR2 : upd H1 r (.ins C dx (rdF tx (ps tx z) nl cl pl)) r = some (.ins C dx (rdF tx (ps tx z) nl cl pl)) := upd_same
    have hn2 : upd H1 r (.ins C dx (rdF tx (ps tx z) nl cl pl)) nl = some (.lst ns) := by rw [upd_ne hnr]; exact hn
    refine ⟨_, rfl, r, C, dx, _, .ref nl, rfl, hR2, R.c, R.nn, rfl, .inl ⟨rfl, _, SqL.of hn2⟩, _, rfl, by show 2 ≤ sizeLine; decide, fun t ht => ⟨nl, ns, _, rfl, rfl, ?_, hnl, ?_⟩⟩
    · rw [upd_ne (fun e => by rw [← e, hn2] at ht; cases ht)]
      exact hn2
    · have t0 : H1 t = none := upd_none ht
      have tr : t ≠ r := fun e => by rw [e, ra.h] at t0; cases t0
      have tn : t ≠ nl := fun e => by rw [e, hn] at t0; cases t0
      exact q _ t ⟨t0, by rw [upd_ne tn, upd_same], upd_same, by rw [upd_ne hnr.symm, upd_ne tr.symm, upd_same], fun a o h z1 z2 => by rw [upd_ne z2, upd_ne (ne_of_none h t0), upd_ne z1]; exact h⟩
end
end Mw

namespace Mw
open PySem L2
/-! ### an open choice -/
def ocF (hd ar cs : Addr) (key : V) : List (Str × V) := [("head", .ref hd), ("around", .ref ar), ("cases", .ref cs), ("key", key)]
theorem put_key (hd ar cs : Addr) (k k' : V) : putF "key" k' (ocF hd ar cs k) = ocF hd ar cs k' := rfl
/-- what the row says of the class OpenChoice -/
structure OC (K : PySem.W.Frag) (C : Addr) : Prop where
  c : Cls K C
  nh : NoAttr K C "head"
  na : NoAttr K C "around"
  nc : NoAttr K C "cases"
  nk : NoAttr K C "key"
section
variable {P : Program} {w : World} {K : PySem.W.Frag} {mg : Str → Option Value} {base : Heap} {C : Addr}
abbrev sOi : Stmt := mth (top 18) 0
theorem scOi : FnScope ["self", "head", "around"] ["self", "head", "around"] (defScope sOi) := ⟨rfl, rfl, rfl, by decide +kernel, rfl, by decide +kernel, by decide +kernel⟩
def spOi (C : Addr) : Sp := fun vs H Q _ => ∃ (r dx hd ar : Addr), vs = [.ref r, .ref hd, .ref ar] ∧ H r = some (.ins C dx []) ∧ ∀ d, H d = none → Q .non (upd (upd H d (.dK [])) r (.ins C dx (ocF hd ar d .non)))
theorem ok_oi {f : Addr} {fd : FuncData} (F : Fun K "__init__" "OpenChoice.__init__" sOi f fd) (R : OC K C) : FnOk P w K mg base CX0 1 f fd ["self", "head", "around"] (spOi C) := by
  refine F.ok scOi (fun vs H Q E h => ?_) (fun cdv A outer s H vs Q E hr h => ?_)
  · obtain ⟨r, dx, hd, ar, rfl, _⟩ := h
    rfl
  obtain ⟨r, dx, hd, ar, rfl, hR, q⟩ := h
  refine ⟨_, pss_cons (ps_fld (pv 0) (pv 1) rfl) (pss_cons (ps_fld (pv 0) (pv 2) rfl) (pss_cons (ps_fld (pv 0) pe_dnewK rfl) (pss_one (ps_fld (pv 0) pe_non rfl)))), ?_⟩
  refine ⟨_, rfl, _, rfl, r, C, dx, _, rfl, hR, R.c, R.nh, by show 0 < 1000; decide, ?_⟩
  refine ⟨_, rfl, _, rfl, r, C, dx, _, rfl, upd_same, R.c, R.na, by show 1 < 1000; decide, ?_⟩
  rw [upd_upd']
  refine fun d hd' => ?_
  have hd0 : H d = none := upd_none hd'
  have hne : r ≠ d := fun e => by rw [← e, hR] at hd0; cases hd0
  refine ⟨_, rfl, r, C, dx, _, rfl, by rw [upd_ne hne]; exact upd_same, R.c, R.nc, by show 2 < 1000; decide, ?_⟩
  refine ⟨_, rfl, r, C, dx, _, rfl, upd_same, R.c, R.nk, by show 3 < 1000; decide, ?_⟩
  rw [upd_upd']
  rw [show ∀ o o' o'', upd (upd (upd H r o) d o') r o'' = upd (upd H d o') r o'' from fun o o' o'' => ?_]
  · exact q d hd0
  · funext b
    by_cases e : b = r
    · rw [e, upd_same, upd_same]
    · rw [upd_ne e, upd_ne e]
      by_cases e2 : b = d
      · rw [e2, upd_same, upd_same]
      · rw [upd_ne e2, upd_ne e2, upd_ne e]
theorem paired_mono {α β : Type} {R S : α → β → Prop} (h : ∀ a b, R a b → S a b) : ∀ {l : List α} {m : List β}, Paired R l m → Paired S l m
  | _, _, .nil => .nil
  | _, _, .cons x t => .cons (h _ _ x) (paired_mono h t)
abbrev sOd : Stmt := mth (top 18) 1
theorem scOd : FnScope ["self", "other"] ["self", "other"] (defScope sOd) := ⟨rfl, rfl, rfl, by decide +kernel, rfl, by decide +kernel, by decide +kernel⟩
def spOd (C : Addr) : Sp := fun vs H Q _ => ∃ (r dx hd ar cs m : Addr) (key : V) (hs : List V) (kvs : List (L2.Key × V)), vs = [.ref r, .ref m] ∧ H r = some (.ins C dx (ocF hd ar cs key)) ∧ H hd = some (.tup hs) ∧ hs ≠ [] ∧ hs.length ≤ 3 ∧ H cs = some (.dK kvs) ∧
  ∀ (H' : Hp) (t l : Addr) (ts : List Addr), Same H H' → H t = none → H l = none → (∀ u ∈ ts, H u = none) → l ∉ ts → H' t = some (.tup (hs ++ [.ref l, .ref m])) → H' l = some (.lst (ts.map V.ref)) → Paired (fun (u : Addr) (q : L2.Key × V) => H' u = some (.tup [kV q.1, q.2])) ts kvs → Q (.ref t) H'
theorem ok_od {f : Addr} {fd : FuncData} (F : Fun K "closed" "OpenChoice.closed" sOd f fd) (R : OC K C) (ml : mg "list" = none) : FnOk P w K mg base CX0 1 f fd ["self", "other"] (spOd C) := by
  refine F.ok scOd (fun vs H Q E h => ?_) (fun cdv A outer s H vs Q E hr h => ?_)
  · obtain ⟨r, dx, hd, ar, cs, m, key, hs, kvs, rfl, _⟩ := h
    rfl
  obtain ⟨r, dx, hd, ar, cs, m, key, hs, kvs, rfl, hR, hh, hne, h3, hc, q⟩ := h
  refine ⟨_, pss_one (ps_ret (pe_op op_catT (pe_fld (pv 0) rfl) (pe_tup (pa_cons (LiI.pe_listItems rfl (pe_fld (pv 0) rfl) rfl ml (by decide +kernel)) (pa_cons (pv 1) pa_nil))))), ?_⟩
  refine ⟨_, rfl, r, C, dx, _, .ref hd, rfl, hR, R.c, R.nh, rfl, _, rfl, r, C, dx, _, .ref cs, rfl, hR, R.c, R.nc, rfl, cs, kvs, rfl, hc, ?_⟩
  intro H' p ts k1 k2 k3 k4 k5 k6
  refine ⟨_, rfl, by show 2 ≤ sizeLine; decide, fun p2 h2 => ?_⟩
  have s1 : Same H' (upd H' p2 (.tup [.ref p, .ref m])) := same_new h2 _
  refine ⟨hd, p2, hs, [.ref p, .ref m], rfl, rfl, .inl (.inl (s1 _ _ (k1 _ _ hh))), .inl (.inl upd_same), hne, ?_, (fun e => by cases e), fun _ p3 h4 => ?_⟩
  · show hs.length + 2 ≤ sizeLine
    exact Nat.le_trans (Nat.add_le_add_right h3 2) (by decide)
  · have s2 := s1.trans (same_new h4 (.tup (hs ++ [.ref p, .ref m])))
    refine q _ p3 p ts ((show Same H H' from k1).trans s2) (Same.free (show Same H H' from k1) (upd_none h4)) k2 k3 k4 upd_same (s2 _ _ k5) ?_
    exact paired_mono (fun u q h => s2 _ _ h) k6
end
end Mw

namespace Mw
open PySem L2
theorem kin_val (k : L2.Key) (kvs : List (L2.Key × V)) : kin k (kvs.map (·.1)) = (valV kvs k).isSome := by
  rw [← valV_any]
  unfold kin
  rw [List.any_map]
  rfl
theorem last_ix (c0 : List V) (v : V) : atI (c0 ++ [v]) (-1) = some v := by
  simp only [atI, ixN, List.length_append, List.length_cons, List.length_nil]
  rw [if_neg (by omega), if_pos (by omega)]
  show (c0 ++ [v])[_]? = _
  rw [show ((-1 : Int) + ((c0.length + (0 + 1) : Nat) : Int)).toNat = c0.length from by omega]
  simp
section
variable {P : Program} {w : World} {K : PySem.W.Frag} {mg : Str → Option Value} {base : Heap} {C C2 CT fT CE fE : Addr} {fdT fdE : FuncData}
abbrev sBc : Stmt := mth (top 19) 10
theorem scBc : FnScope ["self", "choice", "begin", "key"] ["self"] (defScope sBc) := ⟨rfl, rfl, rfl, by decide +kernel, rfl, by decide +kernel, by decide +kernel⟩
def spBc (C C2 CT CE : Addr) : Sp := fun vs H Q E => ∃ (r dx nl cl o dx2 hd ar cs : Addr) (tx : Str) (pl : Int) (x : List Nat) (HB : Hp) (c0 hs : List V) (key0 : V) (kvs : List (L2.Key × V)) (b : Bool),
  vs = [.ref r] ∧ RA C r dx tx nl cl pl x H HB ∧ H cl = some (.lst (c0 ++ [.ref o])) ∧ H o = some (.ins C2 dx2 (ocF hd ar cs key0)) ∧ H hd = some (.tup (.str (kindS b) :: hs)) ∧ H cs = some (.dK kvs) ∧ o ≠ r ∧ HB o = none ∧
  Kx CT CE tx HB E (bgCase b (kvs.map (·.1)) x) fun k y => ∀ t, H t = none → Q .non (upd (upd (upd H o (.ins C2 dx2 (ocF hd ar cs (kV k)))) t (.lst [])) r (.ins C dx (rdF tx (ps tx y) t cl pl)))
theorem ok_bc {f fK fQ fN fS : Addr} {fd fdK fdQ fdN fdS : FuncData} (F : Fun K "begin_case" "Reader.begin_case" sBc f fd) (R : RC K C) (R2 : OC K C2) (EC : EC P w K mg base CT fT fdT CE fE fdE)
    (GK : FnOk P w K mg base CX0 1 fK fdK ["self"] (spSk C)) (bK : Binds K fdK ["self"] []) (mK : Meth K C "skip_spaces" fK)
    (GQ : FnOk P w K mg base (L2.CX P w) 6 fQ fdQ ["self"] (spTq C CT CE)) (bQ : Binds K fdQ ["self"] []) (mQ : Meth K C "take_plural_key" fQ)
    (GN : FnOk P w K mg base (L2.CX P w) 5 fN fdN ["self"] (spNa C CT CE)) (bN : Binds K fdN ["self"] []) (mN : Meth K C "take_name" fN)
    (GS : FnOk P w K mg base (L2.CX P w) 4 fS fdS ["self", "sign"] (spTs C CT CE)) (bS : Binds K fdS ["self", "sign"] []) (mS : Meth K C "take_sign" fS) : FnOk P w K mg base (L2.CX P w) 7 f fd ["self"] (spBc C C2 CT CE) := by
  refine F.okX scBc (fun vs H Q E h => ?_) (fun cdv A outer s H vs Q E hr h => ?_)
  · obtain ⟨r, dx, nl, cl, o, dx2, hd, ar, cs, tx, pl, x, HB, c0, hs, key0, kvs, b, rfl, _⟩ := h
    rfl
  obtain ⟨r, dx, nl, cl, o, dx2, hd, ar, cs, tx, pl, x, HB, c0, hs, key0, kvs, b, rfl, ra, hcl, ho, hh, hcs, hor, hBo, q⟩ := h
  have nd := scBc.nd
  have hu := Nat.lt_of_le_of_lt (Nat.add_le_add_left (show 1 ≤ 64 from by decide) _) hr.units
  refine ⟨_, pss_cons (ps_set (i := 1) nd rfl (.inl rfl) (pe_ix ix_list (pe_fld (pv 0) rfl) (pe_un un_neg pe_int) (fun _ _ => rfl)))
    (pss_cons (ps_expr (pe_meth0 (pv 0) R.c mK GK (hr.mono (by decide)) bK .nil pass0))
    (pss_cons (ps_set (i := 2) nd rfl (.inl rfl) (pe_fld (pv 0) rfl))
    (pss_cons (ps_set (i := 3) nd rfl (.inl rfl) (pe_ifExp (pt_cmpR op_eq (pe_ix ix_tup (pe_fld (pv 1) rfl) pe_int (fun _ _ => rfl)) pe_str (nomark _))
        (pe_meth0 (pv 0) R.c mQ GQ hr bQ .nil (Ca.passA (Ca.takesA_of (takes_of rfl rfl rfl rfl)))) (pe_meth0 (pv 0) R.c mN GN (hr.mono (by decide)) bN .nil (Ca.passA (Ca.takesA_of (takes_of rfl rfl rfl rfl))))))
    (pss_cons (ps_if (pt_cmp (pc_din hu (pv 3) (pe_fld (pv 1) rfl))) (pss_one (ps_raise rfl (takes_of rfl rfl rfl rfl) (pmk_oex (k := 1) EC.T EC.iT EC.tT EC.GT (hr.mono (by decide)) EC.bT .nil passL rfl EC.mT (pa_cons (pv 2) pa_nil)))) pss_nil)
    (pss_cons (ps_fld (pv 1) (pv 3) rfl)
    (pss_cons (ps_expr (pe_meth (pv 0) R.c mS GS (hr.mono (by decide)) bS .nil (Ca.passA (Ca.takesA_of (takes_of rfl rfl rfl rfl))) (pa_cons pe_str pa_nil)))
    (pss_one (ps_fld (pv 0) (pe_lst pa_nil) rfl)))))))), ?_⟩
  have ne : ∀ {a : Addr} {u : HO}, H a = some u → (∀ C dx fs, u ≠ .ins C dx fs) → a ≠ r := fun h z e => by
    rw [e, ra.h] at h
    cases h
    exact z _ _ _ rfl
  refine ⟨_, rfl, r, C, dx, _, .ref cl, rfl, ra.h, R.c, R.nc, rfl, 1, rfl, cl, _, -1, .ref o, rfl, rfl, SqL.of hcl, last_ix _ _, ?_⟩
  refine ⟨_, rfl, r, dx, _, rfl, ra.h, rfl, ⟨r, dx, nl, cl, tx, pl, x, HB, rfl, ra, ?_⟩⟩
  have ra1 := ra.mv ((skip_suf x).trans ra.f)
  have ho1 : mv C r dx tx nl cl pl H (skip x) o = some (.ins C2 dx2 (ocF hd ar cs key0)) := (upd_ne hor).trans ho
  have hh1 : mv C r dx tx nl cl pl H (skip x) hd = some (.tup (.str (kindS b) :: hs)) := (upd_ne (ne hh fun _ _ _ z => by cases z)).trans hh
  refine ⟨_, rfl, r, C, dx, _, .int (ps tx (skip x)), rfl, ra1.h, R.c, R.np, rfl, ?_⟩
  -- the key
  have key : ∀ Q' : VK, Kx CT CE tx HB E (bgKey b (skip x)) (fun k y => Q' (kV k) (mv C r dx tx nl cl pl H y)) → tIf (tTest (tOp rEq (tOp (rIxT K) (tFld K (tVar 1) "head") (tC (.int 0))) (tC (.str "plural")))) (tMeth C "take_plural_key" (spTq C CT CE) [] E (tVar 0) tNil) (tMeth C "take_name" (spNa C CT CE) [] E (tVar 0) tNil)
      [some (.ref r), some (.ref o), some (.int (ps tx (skip x))), none] (mv C r dx tx nl cl pl H (skip x)) Q' := fun Q' q' => by
    refine ⟨_, rfl, o, C2, dx2, _, .ref hd, rfl, ho1, R2.c, R2.nh, rfl, hd, _, 0, .str (kindS b), rfl, rfl, .inl (.inl hh1), atI_nat (j := 0) rfl, rfl, _, rfl, ?_⟩
    cases b with
    | true =>
      rw [show decide (V.str (kindS true) = V.str "plural") = true from rfl]
      refine ⟨_, rfl, r, dx, _, rfl, ra1.h, rfl, ⟨r, dx, nl, cl, tx, pl, skip x, HB, rfl, ra1, ?_⟩⟩
      exact q'.imp (fun a y h => by rw [mv_mv]; exact h) (fun _ h => h) (fun h => h)
    | false =>
      rw [show decide (V.str (kindS false) = V.str "plural") = false from rfl]
      refine ⟨_, rfl, r, dx, _, rfl, ra1.h, rfl, ⟨r, dx, nl, cl, tx, pl, skip x, HB, rfl, ra1, ?_⟩⟩
      have q2 : Kx CT CE tx HB E ((tkName (skip x)).bind fun a z => (.ok (.inr (mkS a)) z : Rs L2.Key)) (fun k y => Q' (kV k) (mv C r dx tx nl cl pl H y)) := q'
      unfold Kx at q2
      rw [Rs.kn_bind] at q2
      exact q2.imp (fun a y h => by rw [mv_mv]; exact h) (fun _ h => h) (fun h => h)
  refine key _ ?_
  unfold bgCase at q
  unfold Kx at q ⊢
  rw [Rs.kn_bind] at q
  have hin := bgKey_in b (skip x)
  cases e : bgKey b (skip x) with
  | fin => rw [e] at q; exact q
  | tok y => rw [e] at q; exact q
  | ok k y =>
  rw [e] at q hin
  have hy : Sf tx y := List.IsSuffix.trans hin ra1.f
  have ra2 := ra.mv hy
  have ho2 : mv C r dx tx nl cl pl H y o = some (.ins C2 dx2 (ocF hd ar cs key0)) := (upd_ne hor).trans ho
  have hc2 : mv C r dx tx nl cl pl H y cs = some (.dK kvs) := (upd_ne (ne hcs fun _ _ _ z => by cases z)).trans hcs
  have q3 : (if kin k (kvs.map (·.1)) = true then .tok (skip x) else (tkSign 123 y).bind fun _ z => (.ok k z : Rs L2.Key)).Kn (fun k y => ∀ t, H t = none → Q .non (upd (upd (upd H o (.ins C2 dx2 (ocF hd ar cs (kV k)))) t (.lst [])) r (.ins C dx (rdF tx (ps tx y) t cl pl)))) (TErr CT tx HB E) (EErr CE HB E) := q
  rw [kin_val] at q3
  refine ⟨_, rfl, _, rfl, o, C2, dx2, _, .ref cs, rfl, ho2, R2.c, R2.nc, rfl, cs, valV kvs k, rfl, DGet.k hc2, _, rfl, ?_⟩
  cases hv : valV kvs k with
  | some v =>
    rw [hv] at q3
    exact ⟨_, rfl, by show 1 ≤ 1000; decide, te_at q3 ra2.s ra.l⟩
  | none =>
    rw [hv] at q3
    have q4 : ((tkSign 123 y).bind fun _ z => (.ok k z : Rs L2.Key)).Kn (fun k y => ∀ t, H t = none → Q .non (upd (upd (upd H o (.ins C2 dx2 (ocF hd ar cs (kV k)))) t (.lst [])) r (.ins C dx (rdF tx (ps tx y) t cl pl)))) (TErr CT tx HB E) (EErr CE HB E) := q3
    rw [Rs.kn_bind] at q4
    refine ⟨_, rfl, _, rfl, o, C2, dx2, _, rfl, ho2, R2.c, R2.nk, by show 4 < 1000; decide, ?_⟩
    rw [put_key]
    have ra3 : RA C r dx tx nl cl pl y (upd (mv C r dx tx nl cl pl H y) o (.ins C2 dx2 (ocF hd ar cs (kV k)))) HB := ⟨(upd_ne hor.symm).trans ra2.h, hy, ra.l, same_mut ra2.s hBo _, ra.b⟩
    refine ⟨_, rfl, r, dx, _, rfl, ra3.h, rfl, ⟨r, dx, nl, cl, tx, pl, y, HB, 123, rfl, ra3, ?_⟩⟩
    refine q4.imp (fun a z h => ?_) (fun _ h => h) (fun h => h)
    have h : ∀ t, H t = none → Q .non (upd (upd (upd H o (.ins C2 dx2 (ocF hd ar cs (kV k)))) t (.lst [])) r (.ins C dx (rdF tx (ps tx z) t cl pl))) := h
    refine ⟨by decide, fun t ht => ?_⟩
    have ht3 := upd_none ht
    have ht2 := upd_none ht3
    have ht0 : H t = none := upd_none ht2
    have htr : t ≠ r := fun z => by rw [z, ra.h] at ht0; cases ht0
    refine ⟨_, rfl, r, C, dx, _, rfl, by rw [upd_ne htr.symm]; exact upd_same, R.c, R.nn, by show 5 < 1000; decide, ?_⟩
    rw [put_nodes]
    have hto : t ≠ o := fun z => by rw [z, ho] at ht0; cases ht0
    refine cast (congrArg (Q V.non) ?_) (h t ht0)
    funext a
    by_cases e1 : a = r
    · rw [e1, upd_same, upd_same]
    · rw [upd_ne e1, upd_ne e1]
      by_cases e2 : a = t
      · rw [e2, upd_same, upd_same]
      · rw [upd_ne e2, upd_ne e2]
        show _ = upd (upd (mv C r dx tx nl cl pl H y) o _) r _ a
        rw [upd_ne e1]
        by_cases e3 : a = o
        · rw [e3, upd_same, upd_same]
        · rw [upd_ne e3, upd_ne e3]
          show H a = upd H r _ a
          rw [upd_ne e1]
end
end Mw

namespace Mw
open PySem L2
/-- all stands but what is at r and c -/
def Kp (r c : Addr) (H H' : Hp) : Prop := ∀ a u, H a = some u → a ≠ r → a ≠ c → H' a = some u
theorem Kp.refl {r c : Addr} (H : Hp) : Kp r c H H := fun _ _ h _ _ => h
theorem Kp.r {r c : Addr} {H H' : Hp} (k : Kp r c H H') (o : HO) : Kp r c H (upd H' r o) := fun a u h h1 h2 => by rw [upd_ne h1]; exact k a u h h1 h2
theorem Kp.c {r c : Addr} {H H' : Hp} (k : Kp r c H H') (o : HO) : Kp r c H (upd H' c o) := fun a u h h1 h2 => by rw [upd_ne h2]; exact k a u h h1 h2
theorem Kp.s {r c : Addr} {H H' H2 : Hp} (k : Kp r c H H') (s : Same H' H2) : Kp r c H H2 := fun a u h h1 h2 => s _ _ (k a u h h1 h2)
theorem Kp.n {r c p : Addr} {H H' : Hp} (k : Kp r c H H') (hp : H' p = none) (o : HO) : Kp r c H (upd H' p o) := k.s (same_new hp o)
theorem Kp.f {r c p : Addr} {H H' : Hp} (k : Kp r c H H') (hp : H p = none) (o : HO) : Kp r c H (upd H' p o) := fun a u h h1 h2 => by rw [upd_ne (fun z => by rw [z, hp] at h; cases h)]; exact k a u h h1 h2
/-- what is new is new from the start -/
theorem Kp.free {r c p : Addr} {H H' : Hp} {u v : HO} (k : Kp r c H H') (hr : H' r = some u) (hc : H' c = some v) (hp : H' p = none) : H p = none := by
  cases e : H p with
  | none => rfl
  | some x =>
    have h1 : p ≠ r := fun z => by rw [z, hr] at hp; cases hp
    have h2 : p ≠ c := fun z => by rw [z, hc] at hp; cases hp
    rw [k p x e h1 h2] at hp
    cases hp
theorem Kp.sb {r c : Addr} {HB H H' : Hp} (k : Kp r c H H') (s : Same HB H) (hr : HB r = none) (hc : HB c = none) : Same HB H' := fun a u h => k a u (s a u h) (ne_of_none h hr) (ne_of_none h hc)
section
variable {P : Program} {w : World} {K : PySem.W.Frag} {mg : Str → Option Value} {base : Heap} {C C2 CT fT CE fE : Addr} {fdT fdE : FuncData}
abbrev sBh : Stmt := mth (top 19) 11
theorem scBh : FnScope ["self", "name", "kind", "head"] ["self", "name"] (defScope sBh) := ⟨rfl, rfl, rfl, by decide +kernel, rfl, by decide +kernel, by decide +kernel⟩
def Opened (C C2 r dx : Addr) (tx : Str) (nl cl : Addr) (pl : Int) (nm : Str) (c0 : List V) (H : Hp) (Q : VK) (q : Bool × Int × L2.Key) (y : List Nat) : Prop :=
  ∀ (H' : Hp) (o dx2 hd cs t : Addr), Kp r cl H H' → H o = none → H hd = none → H cs = none → H t = none →
    H' r = some (.ins C dx (rdF tx (ps tx y) t cl (if q.1 then pl + 1 else pl))) → H' cl = some (.lst (c0 ++ [.ref o])) → H' o = some (.ins C2 dx2 (ocF hd nl cs (kV q.2.2))) → H' hd = some (.tup (hdV q.1 nm q.2.1)) → H' cs = some (.dK []) → H' t = some (.lst []) → Q .non H'
def spBh (C C2 CT CE : Addr) : Sp := fun vs H Q E => ∃ (r dx nl cl : Addr) (tx nm : Str) (pl : Int) (x : List Nat) (HB : Hp) (c0 : List V),
  vs = [.ref r, .str nm] ∧ RA C r dx tx nl cl pl x H HB ∧ H cl = some (.lst c0) ∧ c0.length < sizeLine ∧ HB cl = none ∧ Kx CT CE tx HB E (bgChoice x) (Opened C C2 r dx tx nl cl pl nm c0 H Q)
theorem ok_bh {f fS fK fO fI fB : Addr} {fd fdS fdK fdO fdI fdB : FuncData} (F : Fun K "begin_choice" "Reader.begin_choice" sBh f fd) (R : RC K C) (R2 : OC K C2)
    (GS : FnOk P w K mg base (L2.CX P w) 4 fS fdS ["self", "sign"] (spTs C CT CE)) (bS : Binds K fdS ["self", "sign"] []) (mS : Meth K C "take_sign" fS)
    (GK : FnOk P w K mg base (L2.CX P w) 5 fK fdK ["self"] (spTk C CT CE)) (bK : Binds K fdK ["self"] []) (mK : Meth K C "take_kind" fK)
    (GO : FnOk P w K mg base (L2.CX P w) 6 fO fdO ["self"] (spTo C CT CE)) (bO : Binds K fdO ["self"] []) (mO : Meth K C "take_offset" fO)
    (M : Mk K C2 fI) (mC : mg "OpenChoice" = some (.ref C2)) (GI : FnOk P w K mg base CX0 1 fI fdI ["self", "head", "around"] (spOi C2)) (bI : Binds K fdI ["self", "head", "around"] [])
    (GB : FnOk P w K mg base (L2.CX P w) 7 fB fdB ["self"] (spBc C C2 CT CE)) (bB : Binds K fdB ["self"] []) (mB : Meth K C "begin_case" fB) : FnOk P w K mg base (L2.CX P w) 8 f fd ["self", "name"] (spBh C C2 CT CE) := by
  refine F.okX scBh (fun vs H Q E h => ?_) (fun cdv A outer s H vs Q E hr h => ?_)
  · obtain ⟨r, dx, nl, cl, tx, nm, pl, x, HB, c0, rfl, _⟩ := h
    rfl
  obtain ⟨r, dx, nl, cl, tx, nm, pl, x, HB, c0, rfl, ra, hcl, hz, hBc, q⟩ := h
  have nd := scBh.nd
  refine ⟨_, pss_cons (ps_expr (pe_meth (pv 0) R.c mS GS (hr.mono (by decide)) bS .nil (Ca.passA (Ca.takesA_of (takes_of rfl rfl rfl rfl))) (pa_cons pe_str pa_nil)))
    (pss_cons (ps_set (i := 2) nd rfl (.inl rfl) (pe_meth0 (pv 0) R.c mK GK (hr.mono (by decide)) bK .nil (Ca.passA (Ca.takesA_of (takes_of rfl rfl rfl rfl)))))
    (pss_cons (ps_expr (pe_meth (pv 0) R.c mS GS (hr.mono (by decide)) bS .nil (Ca.passA (Ca.takesA_of (takes_of rfl rfl rfl rfl))) (pa_cons pe_str pa_nil)))
    (pss_cons (ps_set (i := 3) nd rfl (.inl rfl) (pe_tup (pa_cons (pv 2) (pa_cons (pv 1) pa_nil))))
    (pss_cons (ps_if (pt_cmpR op_eq (pv 2) pe_str (nomark _))
      (pss_cons (ps_set (i := 3) nd rfl (.inl rfl) (pe_tup (pa_cons (pv 2) (pa_cons (pv 1) (pa_cons (pe_meth0 (pv 0) R.c mO GO (hr.mono (by decide)) bO .nil (Ca.passA (Ca.takesA_of (takes_of rfl rfl rfl rfl)))) pa_nil)))))
      (pss_one (ps_fldaug (pv 0) pe_int in_add))) pss_nil)
    (pss_cons (ps_expr (pe_bm PySem.F.plainAttrs_list PySem.F.slot_list_append PySem.F.type_list_append mt_append (pe_fld (pv 0) rfl) (pa_cons (pe_make M GI (hr.mono (by decide)) rfl mC bI .nil pass0 (pa_cons (pv 3) (pa_cons (pe_fld (pv 0) rfl) pa_nil))) pa_nil)))
    (pss_one (ps_expr (pe_meth0 (pv 0) R.c mB GB hr bB .nil (Ca.passA (Ca.takesA_of (takes_of rfl rfl rfl rfl))))))))))), ?_⟩
  have hrc : r ≠ cl := fun z => by have := ra.h; rw [z, hcl] at this; cases this
  have fin : ∀ (H3 : Hp) (hdA : Addr) (pl' : Int) (x4 : List Nat) (b : Bool) (n : Int), pl' = (if b then pl + 1 else pl) → Sf tx x4 → Kx CT CE tx HB E ((bgCase b [] x4).bind fun k x5 => (.ok (b, n, k) x5 : Rs (Bool × Int × L2.Key))) (Opened C C2 r dx tx nl cl pl nm c0 H Q) → Kp r cl H H3 → H3 r = some (.ins C dx (rdF tx (ps tx x4) nl cl pl')) → H3 cl = some (.lst c0) → H3 hdA = some (.tup (hdV b nm n)) → H hdA = none →
      tSeq (tDrop (tBM K "list" rAppend (tFld K (tVar 0) "choices") (tCons (tMake C2 (spOi C2) [] E (tCons (tVar 3) (tCons (tFld K (tVar 0) "nodes") tNil))) tNil))) (tDrop (tMeth C "begin_case" (spBc C C2 CT CE) [] E (tVar 0) tNil))
        { nx := fun _ H' => Q V.non H', rt := Q } [some (.ref r), some (.str nm), some (.str (kindS b)), some (.ref hdA)] H3 := by
    intro H3 hdA pl' x4 b n hpl hx4 q4 k3 hR3 hcl3 hh3 hh0
    refine ⟨_, rfl, r, C, dx, _, .ref cl, rfl, hR3, R.c, R.nc, rfl, .inl ⟨rfl, _, SqL.of hcl3⟩, _, rfl, _, rfl, r, C, dx, _, .ref nl, rfl, hR3, R.c, R.nn, rfl, fun o dx2 ho hdx hne => ?_⟩
    refine ⟨o, dx2, hdA, nl, rfl, upd_same, fun cs hcs => ⟨rfl, ?_⟩⟩
    have ho0 : H o = none := k3.free hR3 hcl3 ho
    have hdx0 : H dx2 = none := k3.free hR3 hcl3 hdx
    have hA1 := upd_none hcs
    have hcs3 : H3 cs = none := upd_none hA1
    have hcs0 : H cs = none := k3.free hR3 hcl3 hcs3
    have hco : cs ≠ o := fun z => by rw [z, upd_same] at hcs; cases hcs
    let H4 : Hp := upd (upd (upd (upd H3 dx2 (.own o)) o (.ins C2 dx2 [])) cs (.dK [])) o (.ins C2 dx2 (ocF hdA nl cs .non))
    have S34 : Same H3 H4 := fun a u h => by
      show upd (upd (upd (upd H3 dx2 (.own o)) o (.ins C2 dx2 [])) cs (.dK [])) o (.ins C2 dx2 (ocF hdA nl cs .non)) a = some u
      have z1 : a ≠ o := fun z => by rw [z, ho] at h; cases h
      have z2 : a ≠ cs := fun z => by rw [z, hcs3] at h; cases h
      have z3 : a ≠ dx2 := fun z => by rw [z, hdx] at h; cases h
      rw [upd_ne z1, upd_ne z2, upd_ne z1, upd_ne z3]
      exact h
    have k4 : Kp r cl H H4 := ((((k3.f hdx0 (.own o)).f ho0 (.ins C2 dx2 [])).f hcs0 (.dK [])).f ho0 (.ins C2 dx2 (ocF hdA nl cs .non)))
    have ocl : o ≠ cl := fun z => by rw [z, hcl3] at ho; cases ho
    have ccl : cs ≠ cl := fun z => by rw [z, hcl3] at hcs3; cases hcs3
    have hcl' : hdA ≠ cl := fun z => by rw [z, hcl3] at hh3; cases hh3
    have orr : o ≠ r := fun z => by rw [z, hR3] at ho; cases ho
    have crr : cs ≠ r := fun z => by rw [z, hR3] at hcs3; cases hcs3
    have hrr : hdA ≠ r := fun z => by rw [z, hR3] at hh3; cases hh3
    have hoo : hdA ≠ o := fun z => by rw [z, ho] at hh3; cases hh3
    refine ⟨cl, c0, _, rfl, rfl, S34 _ _ hcl3, hz, ?_⟩
    let H5 : Hp := upd H4 cl (.lst (c0 ++ [.ref o]))
    have hR5 : H5 r = some (.ins C dx (rdF tx (ps tx x4) nl cl pl')) := (upd_ne hrc).trans (S34 _ _ hR3)
    have hcl5 : H5 cl = some (.lst (c0 ++ [.ref o])) := upd_same
    have ho5 : H5 o = some (.ins C2 dx2 (ocF hdA nl cs .non)) := (upd_ne ocl).trans upd_same
    have hh5 : H5 hdA = some (.tup (hdV b nm n)) := (upd_ne hcl').trans (S34 _ _ hh3)
    have hc5 : H5 cs = some (.dK []) := (upd_ne ccl).trans ((upd_ne hco).trans upd_same)
    have k5 : Kp r cl H H5 := k4.c _
    have ra5 : RA C r dx tx nl cl pl' x4 H5 HB := ⟨hR5, hx4, ra.l, k5.sb ra.s ra.b hBc, ra.b⟩
    refine ⟨_, rfl, r, dx, _, rfl, hR5, rfl, ⟨r, dx, nl, cl, o, dx2, hdA, nl, cs, tx, pl', x4, HB, c0, _, .non, [], b, rfl, ra5, hcl5, ho5, hh5, hc5, orr, ra.s.free ho0, ?_⟩⟩
    unfold Kx at q4
    rw [Rs.kn_bind] at q4
    refine q4.imp (fun k y h t ht => ?_) (fun _ h => h) (fun h => h)
    have h : Opened C C2 r dx tx nl cl pl nm c0 H Q (b, n, k) y := h
    replace ht : H5 t = none := ht
    have ht0 : H t = none := k5.free hR5 hcl5 ht
    have tr : t ≠ r := fun z => by rw [z, hR5] at ht; cases ht
    have tcl : t ≠ cl := fun z => by rw [z, hcl5] at ht; cases ht
    have to' : t ≠ o := fun z => by rw [z, ho5] at ht; cases ht
    have th : t ≠ hdA := fun z => by rw [z, hh5] at ht; cases ht
    have tc : t ≠ cs := fun z => by rw [z, hc5] at ht; cases ht
    refine h _ o dx2 hdA cs t (((k5.f ho0 _).f ht0 _).r _) ho0 hh0 hcs0 ht0 ?_ ?_ ?_ ?_ ?_ ?_
    · rw [upd_same, hpl]
    · rw [upd_ne hrc.symm, upd_ne tcl.symm, upd_ne ocl.symm]; exact hcl5
    · rw [upd_ne orr, upd_ne to'.symm]; exact upd_same
    · rw [upd_ne hrr, upd_ne th.symm, upd_ne hoo]; exact hh5
    · rw [upd_ne crr, upd_ne tc.symm, upd_ne hco]; exact hc5
    · rw [upd_ne tr]; exact upd_same
  unfold bgChoice at q
  unfold Kx at q
  rw [Rs.kn_bind] at q
  refine ⟨_, rfl, r, dx, _, rfl, ra.h, rfl, ⟨r, dx, nl, cl, tx, pl, x, HB, 44, rfl, ra, ?_⟩⟩
  have in1 := tkSign_in 44 x
  cases e1 : tkSign 44 x with
  | fin => rw [e1] at q; exact q
  | tok y => rw [e1] at q; exact q
  | ok u x1 =>
  rw [e1] at q in1
  have ra1 := ra.mv (List.IsSuffix.trans in1 ra.f)
  have q1 := q
  rw [Rs.kn_ok, Rs.kn_bind] at q1
  refine ⟨_, rfl, r, dx, _, rfl, ra1.h, rfl, ⟨r, dx, nl, cl, tx, pl, x1, HB, rfl, ra1, ?_⟩⟩
  have in2 := tkKind_in x1
  cases e2 : tkKind x1 with
  | fin => rw [e2] at q1; exact q1
  | tok y => rw [e2] at q1; exact q1
  | ok b x2 =>
  rw [e2] at q1 in2
  have ra2 := ra1.mv (List.IsSuffix.trans in2 ra1.f)
  rw [mv_mv] at ra2
  have q2 := q1
  rw [Rs.kn_ok, Rs.kn_bind] at q2
  intro H1 s1
  rw [mv_mv] at s1
  have hR1 := s1 _ _ ra2.h
  have k1' : Kp r cl H H1 := ((Kp.refl H).r _).s s1
  have hcl1 : H1 cl = some (.lst c0) := s1 _ _ ((upd_ne hrc.symm).trans hcl)
  have raA : RA C r dx tx nl cl pl x2 H1 HB := ⟨hR1, ra2.f, ra.l, ra2.s.trans s1, ra.b⟩
  refine ⟨_, rfl, r, dx, _, rfl, hR1, rfl, ⟨r, dx, nl, cl, tx, pl, x2, HB, 44, rfl, raA, ?_⟩⟩
  have in3 := tkSign_in 44 x2
  cases e3 : tkSign 44 x2 with
  | fin => rw [e3] at q2; exact q2
  | tok y => rw [e3] at q2; exact q2
  | ok u x3 =>
  rw [e3] at q2 in3
  have q3 := q2
  rw [Rs.kn_ok, Rs.kn_bind] at q3
  have ra3 := raA.mv (List.IsSuffix.trans in3 raA.f)
  refine ⟨_, rfl, _, rfl, by show 2 ≤ sizeLine; decide, fun t1 ht1 => ?_⟩
  have ka : Kp r cl H (mv C r dx tx nl cl pl H1 x3) := k1'.r _
  have hca : mv C r dx tx nl cl pl H1 x3 cl = some (.lst c0) := (upd_ne hrc.symm).trans hcl1
  have ht10 : H t1 = none := ka.free ra3.h hca ht1
  have sb : Same (mv C r dx tx nl cl pl H1 x3) (upd (mv C r dx tx nl cl pl H1 x3) t1 (.tup [.str (kindS b), .str nm])) := same_new ht1 _
  have kb := ka.s sb
  have raB : RA C r dx tx nl cl pl x3 (upd (mv C r dx tx nl cl pl H1 x3) t1 (.tup [.str (kindS b), .str nm])) HB := ⟨sb _ _ ra3.h, ra3.f, ra.l, ra3.s.trans sb, ra.b⟩
  refine ⟨_, rfl, rfl, _, rfl, ?_⟩
  cases b with
  | false =>
    rw [show decide (V.str (kindS false) = V.str "plural") = false from rfl]
    exact fin _ t1 pl x3 false 0 rfl ra3.f q3 kb raB.h (sb _ _ hca) upd_same ht10
  | true =>
    rw [show decide (V.str (kindS true) = V.str "plural") = true from rfl]
    rw [if_pos rfl] at q3 ⊢
    refine ⟨_, rfl, _, rfl, _, rfl, r, dx, _, rfl, raB.h, rfl, ⟨r, dx, nl, cl, tx, pl, x3, HB, rfl, raB, ?_⟩⟩
    have in4 := tkOff_in x3
    cases e4 : tkOff x3 with
    | fin => rw [e4] at q3; exact q3
    | tok y => rw [e4] at q3; exact q3
    | ok n x4 =>
    rw [e4] at q3 in4
    have q4 := q3
    rw [Rs.kn_ok] at q4
    have ra4 := raB.mv (List.IsSuffix.trans in4 raB.f)
    have kc := kb.r (.ins C dx (rdF tx (ps tx x4) nl cl pl))
    have hcc : mv C r dx tx nl cl pl (upd (mv C r dx tx nl cl pl H1 x3) t1 (.tup [.str (kindS true), .str nm])) x4 cl = some (.lst c0) := (upd_ne hrc.symm).trans (sb _ _ hca)
    refine ⟨by show 3 ≤ sizeLine; decide, fun t2 ht2 => ?_⟩
    have sd : Same _ (upd (mv C r dx tx nl cl pl (upd (mv C r dx tx nl cl pl H1 x3) t1 (.tup [.str (kindS true), .str nm])) x4) t2 (.tup [.str (kindS true), .str nm, .int n])) := same_new ht2 _
    have ht20 : H t2 = none := Kp.free kc ra4.h hcc ht2
    have t2r : t2 ≠ r := fun z => by rw [z, ra4.h] at ht2; cases ht2
    refine ⟨_, rfl, r, C, dx, _, .int pl, rfl, sd _ _ ra4.h, R.c, R.nu, rfl, _, _, rfl, rfl, dx, _, sd _ _ ra4.h, by show 5 < 1000; omega, ?_⟩
    rw [put_plurals]
    exact fin _ t2 (pl + 1) x4 true n rfl ra4.f q4 ((Kp.s kc sd).r _) upd_same ((upd_ne hrc.symm).trans (sd _ _ hcc)) ((upd_ne t2r).trans upd_same) ht20
end
end Mw

namespace Mw
open PySem L2
section
variable {P : Program} {w : World} {K : PySem.W.Frag} {mg : Str → Option Value} {base : Heap} {C C2 CT fT CE fE : Addr} {fdT fdE : FuncData}
theorem Opened.mv {r dx : Addr} {tx : Str} {nl cl : Addr} {pl : Int} {nm : Str} {c0 : List V} {H : Hp} {Q : VK} {q : Bool × Int × L2.Key} {y z : List Nat} (h : Opened C C2 r dx tx nl cl pl nm c0 H Q q y) : Opened C C2 r dx tx nl cl pl nm c0 (Mw.mv C r dx tx nl cl pl H z) Q q y :=
  fun H' o dx2 hd cs t k h1 h2 h3 h4 => h H' o dx2 hd cs t (fun a u e z1 z2 => k a u ((upd_ne z1).trans e) z1 z2) (upd_none h1) (upd_none h2) (upd_none h3) (upd_none h4)
abbrev sRa : Stmt := mth (top 19) 12
theorem scRa : FnScope ["self", "name"] ["self"] (defScope sRa) := ⟨rfl, rfl, rfl, by decide +kernel, rfl, by decide +kernel, by decide +kernel⟩
def ArgK (C C2 r dx : Addr) (tx : Str) (nl cl : Addr) (pl : Int) (ns c0 : List V) (H : Hp) (Q : VK) (a : Arg) (y : List Nat) : Prop := match a with
  | .shw n => ∀ H' t, Put C r dx tx nl cl pl H ns [.str "show", .str (mkS n)] y H' t → Q .non H'
  | .cho n q => Opened C C2 r dx tx nl cl pl (mkS n) c0 H Q q y
def spRa (C C2 CT CE : Addr) : Sp := fun vs H Q E => ∃ (r dx nl cl : Addr) (tx : Str) (pl : Int) (x : List Nat) (HB : Hp) (ns c0 : List V), vs = [.ref r] ∧ RA C r dx tx nl cl pl x H HB ∧ H nl = some (.lst ns) ∧ ns.length < sizeLine ∧ H cl = some (.lst c0) ∧ c0.length < sizeLine ∧ HB cl = none ∧
  Kx CT CE tx HB E (rdArg x) (ArgK C C2 r dx tx nl cl pl ns c0 H Q)
theorem ok_ra {f fS fK fN fG fB : Addr} {fd fdS fdK fdN fdG fdB : FuncData} (F : Fun K "read_argument" "Reader.read_argument" sRa f fd) (R : RC K C)
    (GS : FnOk P w K mg base (L2.CX P w) 4 fS fdS ["self", "sign"] (spTs C CT CE)) (bS : Binds K fdS ["self", "sign"] []) (mS : Meth K C "take_sign" fS)
    (GK : FnOk P w K mg base CX0 1 fK fdK ["self"] (spSk C)) (bK : Binds K fdK ["self"] []) (mK : Meth K C "skip_spaces" fK)
    (GN : FnOk P w K mg base (L2.CX P w) 5 fN fdN ["self"] (spNa C CT CE)) (bN : Binds K fdN ["self"] []) (mN : Meth K C "take_name" fN)
    (GG : FnOk P w K mg base (L2.CX P w) 3 fG fdG ["self"] (spSg C CT CE)) (bG : Binds K fdG ["self"] []) (mG : Meth K C "sign_ahead" fG)
    (GB : FnOk P w K mg base (L2.CX P w) 8 fB fdB ["self", "name"] (spBh C C2 CT CE)) (bB : Binds K fdB ["self", "name"] []) (mB : Meth K C "begin_choice" fB) : FnOk P w K mg base (L2.CX P w) 9 f fd ["self"] (spRa C C2 CT CE) := by
  refine F.okX scRa (fun vs H Q E h => ?_) (fun cdv A outer s H vs Q E hr h => ?_)
  · obtain ⟨r, dx, nl, cl, tx, pl, x, HB, ns, c0, rfl, _⟩ := h
    rfl
  obtain ⟨r, dx, nl, cl, tx, pl, x, HB, ns, c0, rfl, ra, hn, hnl, hcl, hcz, hBc, q⟩ := h
  have nd := scRa.nd
  refine ⟨_, pss_cons (ps_expr (pe_meth (pv 0) R.c mS GS (hr.mono (by decide)) bS .nil (Ca.passA (Ca.takesA_of (takes_of rfl rfl rfl rfl))) (pa_cons pe_str pa_nil)))
    (pss_cons (ps_expr (pe_meth0 (pv 0) R.c mK GK (hr.mono (by decide)) bK .nil pass0))
    (pss_cons (ps_set (i := 1) nd rfl (.inl rfl) (pe_meth0 (pv 0) R.c mN GN (hr.mono (by decide)) bN .nil (Ca.passA (Ca.takesA_of (takes_of rfl rfl rfl rfl)))))
    (pss_cons (ps_expr (pe_meth0 (pv 0) R.c mK GK (hr.mono (by decide)) bK .nil pass0))
    (pss_one (ps_if (pt_cmpR op_eq (pe_meth0 (pv 0) R.c mG GG (hr.mono (by decide)) bG .nil (Ca.passA (Ca.takesA_of (takes_of rfl rfl rfl rfl)))) pe_str (nomark _))
      (pss_cons (ps_fldaug (pv 0) pe_int in_add) (pss_one (ps_expr (pe_bm PySem.F.plainAttrs_list PySem.F.slot_list_append PySem.F.type_list_append mt_append (pe_fld (pv 0) rfl) (pa_cons (pe_tup (pa_cons pe_str (pa_cons (pv 1) pa_nil))) pa_nil)))))
      (pss_one (ps_expr (pe_meth (pv 0) R.c mB GB hr bB .nil (Ca.passA (Ca.takesA_of (takes_of rfl rfl rfl rfl))) (pa_cons (pv 1) pa_nil))))))))), ?_⟩
  have hnr : nl ≠ r := fun z => by have := ra.h; rw [← z, hn] at this; cases this
  have hcr : cl ≠ r := fun z => by have := ra.h; rw [← z, hcl] at this; cases this
  unfold rdArg Kx at q
  rw [Rs.kn_bind] at q
  refine ⟨_, rfl, r, dx, _, rfl, ra.h, rfl, ⟨r, dx, nl, cl, tx, pl, x, HB, 123, rfl, ra, ?_⟩⟩
  have in1 := tkSign_in 123 x
  cases e1 : tkSign 123 x with
  | fin => rw [e1] at q; exact q
  | tok y => rw [e1] at q; exact q
  | ok u x1 =>
  rw [e1] at q in1
  have q1 := q
  rw [Rs.kn_ok, Rs.kn_bind] at q1
  have ra1 := ra.mv (List.IsSuffix.trans in1 ra.f)
  refine ⟨_, rfl, r, dx, _, rfl, ra1.h, rfl, ⟨r, dx, nl, cl, tx, pl, x1, HB, rfl, ra1, ?_⟩⟩
  rw [mv_mv]
  have ra2 := ra.mv ((skip_suf x1).trans ra1.f)
  refine ⟨_, rfl, r, dx, _, rfl, ra2.h, rfl, ⟨r, dx, nl, cl, tx, pl, skip x1, HB, rfl, ra2, ?_⟩⟩
  have in2 := tkName_in (skip x1)
  cases e2 : tkName (skip x1) with
  | fin => rw [e2] at q1; exact q1
  | tok y => rw [e2] at q1; exact q1
  | ok n x2 =>
  rw [e2] at q1 in2
  have q2 := q1
  rw [Rs.kn_ok] at q2
  have ra3 := ra.mv (List.IsSuffix.trans in2 ra2.f)
  dsimp only [Mv, Kx, Rs.Kn]
  rw [mv_mv]
  refine ⟨_, rfl, r, dx, _, rfl, ra3.h, rfl, ⟨r, dx, nl, cl, tx, pl, x2, HB, rfl, ra3, ?_⟩⟩
  rw [mv_mv]
  have ra4 := ra.mv ((skip_suf x2).trans ra3.f)
  refine ⟨_, rfl, r, dx, _, rfl, ra4.h, rfl, ⟨r, dx, nl, cl, tx, pl, skip x2, HB, rfl, ra4, ?_⟩⟩
  cases e3 : skip x2 with
  | nil => rw [e3] at q2; exact q2
  | cons c y =>
  rw [e3] at q2 ra4
  have q3 : (if c = 125 then .ok (.shw n) y else (bgChoice (c :: y)).bind fun q z => (.ok (.cho n q) z : Rs Arg)).Kn (ArgK C C2 r dx tx nl cl pl ns c0 H Q) (TErr CT tx HB E) (EErr CE HB E) := q2
  refine ⟨rfl, _, rfl, ?_⟩
  rw [show decide (V.str ⟨#[c]⟩ = V.str "}") = decide (c = 125) from str1_eq c 125]
  by_cases hc : c = 125
  · rw [if_pos hc] at q3
    rw [decide_eq_true hc]
    refine ⟨_, rfl, r, C, dx, _, .int (ps tx (c :: y)), rfl, ra4.h, R.c, R.np, rfl, _, _, rfl, rfl, dx, _, ra4.h, by show 5 < 1000; omega, ?_⟩
    rw [put_place, ps_cons ra4.f]
    have em : upd (mv C r dx tx nl cl pl H (c :: y)) r (.ins C dx (rdF tx (ps tx y) nl cl pl)) = mv C r dx tx nl cl pl H y := mv_mv
    rw [em]
    have ra5 := ra.mv (List.IsSuffix.trans (List.suffix_cons c y) ra4.f)
    have hn3 : mv C r dx tx nl cl pl H y nl = some (.lst ns) := (upd_ne hnr).trans hn
    refine ⟨_, rfl, r, C, dx, _, .ref nl, rfl, ra5.h, R.c, R.nn, rfl, .inl ⟨rfl, _, SqL.of hn3⟩, _, rfl, by show 2 ≤ sizeLine; decide, fun t ht => ⟨nl, ns, _, rfl, rfl, ?_, hnl, ?_⟩⟩
    · rw [upd_ne (fun z => by rw [← z, hn3] at ht; cases ht)]
      exact hn3
    · have t0 : H t = none := upd_none ht
      have tr : t ≠ r := fun e => by rw [e, ra.h] at t0; cases t0
      have tn : t ≠ nl := fun e => by rw [e, hn] at t0; cases t0
      exact q3 _ t ⟨t0, by rw [upd_ne tn, upd_same], upd_same, by rw [upd_ne hnr.symm, upd_ne tr.symm]; exact ra5.h, fun a o h z1 z2 => by rw [upd_ne z2, upd_ne (ne_of_none h t0)]; exact (upd_ne z1).trans h⟩
  · rw [if_neg hc, Rs.kn_bind] at q3
    rw [decide_eq_false hc]
    refine ⟨_, rfl, r, dx, _, rfl, ra4.h, rfl, _, rfl, ⟨r, dx, nl, cl, tx, mkS n, pl, c :: y, HB, c0, rfl, ra4, (upd_ne hcr).trans hcl, hcz, hBc, ?_⟩⟩
    exact q3.imp (fun q y h => Opened.mv h) (fun _ h => h) (fun h => h)
end
end Mw

namespace Mw
open PySem L2
theorem last_pop (c0 : List V) (v : V) : (c0 ++ [v])[(c0 ++ [v]).length - 1]? = some v := by
  rw [List.length_append, List.length_singleton, Nat.add_sub_cancel]
  simp
theorem kV_oth (k : L2.Key) : decide (kV k = V.str "other") = decide (k = othK) := by
  by_cases e : k = othK
  · rw [decide_eq_true e, e]
    exact decide_eq_true rfl
  · rw [decide_eq_false e]
    refine decide_eq_false fun z => e ?_
    cases k with
    | inl i => cases z
    | inr s => injection z with z; rw [z]
section
variable {P : Program} {w : World} {K : PySem.W.Frag} {mg : Str → Option Value} {base : Heap} {C C2 CT fT CE fE : Addr} {fdT fdE : FuncData}
abbrev sEm : Stmt := mth (top 19) 13
theorem scEm : FnScope ["self", "choice", "message"] ["self"] (defScope sEm) := ⟨rfl, rfl, rfl, by decide +kernel, rfl, by decide +kernel, by decide +kernel⟩
/-- behind the end of a message: the next case, or the choice is closed -/
def Ended (C C2 r dx : Addr) (tx : Str) (nl cl : Addr) (pl : Int) (o dx2 hd ar cs : Addr) (c0 hs : List V) (key : L2.Key) (kvs : List (L2.Key × V)) (b : Bool) (ns : List V) (H0 H : Hp) (t : T) (Q : VK) (k : Option L2.Key) (y : List Nat) : Prop :=
  ∀ (ml : Addr) (H1 : Hp) (ws : List V) (x1 : List Nat), Sf tx x1 → H ml = none → Same (mv C r dx tx nl cl pl H x1) H1 → H1 ml = some (.lst ws) → Nodes (mix H0 H1) (jt [] t) ws → match k with
    | some k => ∀ t2, H1 t2 = none → Q .non (upd (upd (upd (upd H1 cs (.dK (putK kvs key (.ref ml)))) o (.ins C2 dx2 (ocF hd ar cs (kV k)))) t2 (.lst [])) r (.ins C dx (rdF tx (ps tx y) t2 cl pl)))
    | none => ∀ (H6 : Hp) (u l : Addr) (ts : List Addr), Same (upd (upd H1 cl (.lst c0)) r (.ins C dx (rdF tx (ps tx y) ar cl (if b then pl - 1 else pl)))) H6 → H1 u = none → H1 l = none → (∀ z ∈ ts, H1 z = none) → l ∉ ts → H6 u = some (.tup (.str (kindS b) :: hs ++ [.ref l, .ref ml])) → H6 l = some (.lst (ts.map V.ref)) →
          Paired (fun (z : Addr) (q : L2.Key × V) => H6 z = some (.tup [kV q.1, q.2])) ts kvs → Q .non (upd H6 ar (.lst (ns ++ [.ref u])))
def spEm (C C2 CT CE : Addr) : Sp := fun vs H Q E => ∃ (r dx nl cl o dx2 hd ar cs : Addr) (tx : Str) (pl : Int) (x : List Nat) (HB : Hp) (c0 hs : List V) (key : L2.Key) (kvs : List (L2.Key × V)) (b : Bool) (ns : List V) (H0 : Hp) (t : T),
  vs = [.ref r] ∧ RA C r dx tx nl cl pl x H HB ∧ H cl = some (.lst (c0 ++ [.ref o])) ∧ H o = some (.ins C2 dx2 (ocF hd ar cs (kV key))) ∧ H hd = some (.tup (.str (kindS b) :: hs)) ∧ hs.length ≤ 2 ∧ H cs = some (.dK kvs) ∧ kvs.length < 9000000 ∧ valV kvs key = none ∧ o ≠ r ∧ HB o = none ∧ HB cs = none ∧ HB cl = none ∧
  H ar = some (.lst ns) ∧ ns.length < sizeLine ∧ ar ≠ cl ∧ Same H0 H ∧ H0 r = none ∧ At H0 nl t ∧ Wf t false ∧ t.sz < 4900000 ∧
  Kx CT CE tx HB E (rdEndK key b (kvs.map (·.1)) x) (Ended C C2 r dx tx nl cl pl o dx2 hd ar cs c0 hs key kvs b ns H0 H t Q)
theorem putK_keys {kvs : List (L2.Key × V)} {key : L2.Key} (v : V) (h : valV kvs key = none) : (putK kvs key v).map (·.1) = kvs.map (·.1) ++ [key] := by
  rw [putK_new v h, List.map_append]
  rfl
theorem ok_em {f fS fJ fB fO : Addr} {fd fdS fdJ fdB fdO : FuncData} (F : Fun K "end_message" "Reader.end_message" sEm f fd) (R : RC K C) (R2 : OC K C2)
    (GS : FnOk P w K mg base (L2.CX P w) 4 fS fdS ["self", "sign"] (spTs C CT CE)) (bS : Binds K fdS ["self", "sign"] []) (mS : Meth K C "take_sign" fS)
    (GJ : FnOk P w K mg base CX0 2 fJ fdJ ["message"] spJt) (bJ : Binds K fdJ ["message"] []) (kJ : PySem.W.keepIn K (.ref fJ) = true) (mJ : mg "joined_texts" = some (.ref fJ))
    (GB : FnOk P w K mg base (L2.CX P w) 7 fB fdB ["self"] (spBc C C2 CT CE)) (bB : Binds K fdB ["self"] []) (mB : Meth K C "begin_case" fB)
    (GO : FnOk P w K mg base CX0 1 fO fdO ["self", "other"] (spOd C2)) (bO : Binds K fdO ["self", "other"] []) (mO : Meth K C2 "closed" fO) : FnOk P w K mg base (L2.CX P w) 9 f fd ["self"] (spEm C C2 CT CE) := by
  refine F.okX scEm (fun vs H Q E h => ?_) (fun cdv A outer s H vs Q E hr h => ?_)
  · obtain ⟨r, dx, nl, cl, o, dx2, hd, ar, cs, tx, pl, x, HB, c0, hs, key, kvs, b, ns, H0, t, rfl, _⟩ := h
    rfl
  obtain ⟨r, dx, nl, cl, o, dx2, hd, ar, cs, tx, pl, x, HB, c0, hs, key, kvs, b, ns, H0, t, rfl, ra, hcl, ho, hh, hhs, hcs, hkl, hkv, hor, hBo, hBs, hBc, har, hnl, harc, s0, hr0, hat, hw, hz, q⟩ := h
  have nd := scEm.nd
  have hu := Nat.lt_of_le_of_lt (Nat.add_le_add_left (show 1 ≤ 64 from by decide) _) hr.units
  refine ⟨_, pss_cons (ps_expr (pe_meth (pv 0) R.c mS GS (hr.mono (by decide)) bS .nil (Ca.passA (Ca.takesA_of (takes_of rfl rfl rfl rfl))) (pa_cons pe_str pa_nil)))
    (pss_cons (ps_set (i := 1) nd rfl (.inl rfl) (pe_ix ix_list (pe_fld (pv 0) rfl) (pe_un un_neg pe_int) (fun _ _ => rfl)))
    (pss_cons (ps_set (i := 2) nd rfl (.inl rfl) (pe_call GJ (hr.mono (by decide)) rfl mJ kJ bJ .nil pass0 (pa_cons (pe_fld (pv 0) rfl) pa_nil)))
    (pss_cons (ps_if (pt_cmpR op_ne (pe_fld (pv 1) rfl) pe_str (nomark _))
      (pss_cons (ps_dput hu (pe_fld (pv 1) rfl) (pe_fld (pv 1) rfl) (pv 2) rfl)
      (pss_cons (ps_expr (pe_meth0 (pv 0) R.c mB GB (hr.mono (by decide)) bB .nil (Ca.passA (Ca.takesA_of (takes_of rfl rfl rfl rfl)))))
      (pss_one ps_retN))) pss_nil)
    (pss_cons (ps_expr (pe_meth (pv 0) R.c mS GS (hr.mono (by decide)) bS .nil (Ca.passA (Ca.takesA_of (takes_of rfl rfl rfl rfl))) (pa_cons pe_str pa_nil)))
    (pss_cons (ps_expr (pe_bm0 PySem.F.plainAttrs_list PySem.F.slot_list_pop PySem.F.type_list_pop mt_pop (pe_fld (pv 0) rfl)))
    (pss_cons (ps_if (pt_cmpR op_eq (pe_ix ix_tup (pe_fld (pv 1) rfl) pe_int (fun _ _ => rfl)) pe_str (nomark _)) (pss_one (ps_fldaug (pv 0) pe_int in_sub)) pss_nil)
    (pss_cons (ps_fld (pv 0) (pe_fld (pv 1) rfl) rfl)
    (pss_one (ps_expr (pe_bm PySem.F.plainAttrs_list PySem.F.slot_list_append PySem.F.type_list_append mt_append (pe_fld (pv 0) rfl) (pa_cons (pe_meth (pv 1) R2.c mO GO (hr.mono (by decide)) bO .nil pass0 (pa_cons (pv 2) pa_nil)) pa_nil))))))))))), ?_⟩
  have ne : ∀ {a : Addr} {u : HO}, H a = some u → (∀ C dx fs, u ≠ .ins C dx fs) → a ≠ r := fun h z e => by
    rw [e, ra.h] at h
    cases h
    exact z _ _ _ rfl
  have hclr : cl ≠ r := ne hcl fun _ _ _ z => by cases z
  have hhr : hd ≠ r := ne hh fun _ _ _ z => by cases z
  have hcr : cs ≠ r := ne hcs fun _ _ _ z => by cases z
  unfold rdEndK Kx at q
  rw [Rs.kn_bind] at q
  refine ⟨_, rfl, r, dx, _, rfl, ra.h, rfl, ⟨r, dx, nl, cl, tx, pl, x, HB, 125, rfl, ra, ?_⟩⟩
  have in1 := tkSign_in 125 x
  cases e1 : tkSign 125 x with
  | fin => rw [e1] at q; exact q
  | tok y => rw [e1] at q; exact q
  | ok u1 x1 =>
  rw [e1] at q in1
  rw [Rs.kn_ok] at q
  have hx1 : Sf tx x1 := List.IsSuffix.trans in1 ra.f
  have raa := ra.mv hx1
  dsimp only [Mv, Kx, Rs.Kn]
  generalize hHa : mv C r dx tx nl cl pl H x1 = Ha at raa ⊢
  have keep : ∀ {a : Addr} {u : HO}, H a = some u → a ≠ r → Ha a = some u := fun h z => by rw [← hHa]; exact (upd_ne z).trans h
  have hcla := keep hcl hclr
  refine ⟨_, rfl, r, C, dx, _, .ref cl, rfl, raa.h, R.c, R.nc, rfl, 1, rfl, cl, _, -1, .ref o, rfl, rfl, SqL.of hcla, last_ix _ _, ?_⟩
  have s0a : Same H0 Ha := fun a u h => keep (s0 _ _ h) (by rintro rfl; rw [hr0] at h; cases h)
  refine ⟨_, rfl, r, C, dx, _, .ref nl, rfl, raa.h, R.c, R.nn, rfl, nl, H0, t, rfl, s0a, hat, hw, hz, fun ml H1 ws hml s1 hw1 hn => ?_⟩
  have hml0 : H ml = none := by rw [← hHa] at hml; exact upd_none hml
  have ho1 := s1 _ _ (keep ho hor)
  have hh1 := s1 _ _ (keep hh hhr)
  have hcs1 := s1 _ _ (keep hcs hcr)
  have hcl1 := s1 _ _ hcla
  have hR1 := s1 _ _ raa.h
  have hoc : o ≠ cs := fun e => by rw [e, hcs1] at ho1; cases ho1
  have s1' : Same (mv C r dx tx nl cl pl H x1) H1 := by rw [hHa]; exact s1
  have sB1 : Same HB H1 := raa.s.trans s1
  refine ⟨_, rfl, o, C2, dx2, _, kV key, rfl, ho1, R2.c, R2.nk, rfl, ?_⟩
  refine ⟨by cases key <;> rfl, _, rfl, ?_⟩
  rw [kV_oth]
  by_cases hk : key = othK
  · rw [if_pos hk, Rs.kn_bind] at q
    rw [decide_eq_true hk]
    have ra1 : RA C r dx tx nl cl pl x1 H1 HB := ⟨hR1, hx1, ra.l, sB1, ra.b⟩
    refine ⟨_, rfl, r, dx, _, rfl, hR1, rfl, ⟨r, dx, nl, cl, tx, pl, x1, HB, 125, rfl, ra1, ?_⟩⟩
    refine q.imp (fun u2 y q => ?_) (fun _ h => h) (fun h => h)
    have q : Ended C C2 r dx tx nl cl pl o dx2 hd ar cs c0 hs key kvs b ns H0 H t Q none y := q
    have q := q ml H1 ws x1 hx1 hml0 s1' hw1 hn
    dsimp only at q
    let H2 : Hp := upd H1 r (.ins C dx (rdF tx (ps tx y) nl cl pl))
    have hR2 : H2 r = some (.ins C dx (rdF tx (ps tx y) nl cl pl)) := upd_same
    have hcl2 : H2 cl = some (.lst (c0 ++ [.ref o])) := (upd_ne hclr).trans hcl1
    refine ⟨_, rfl, r, C, dx, _, .ref cl, rfl, hR2, R.c, R.nc, rfl, .inl ⟨rfl, _, SqL.of hcl2⟩, cl, _, .ref o, rfl, rfl, hcl2, last_pop _ _, ?_⟩
    rw [List.dropLast_concat]
    let H3 : Hp := upd H2 cl (.lst c0)
    have hR3 : H3 r = some (.ins C dx (rdF tx (ps tx y) nl cl pl)) := (upd_ne hclr.symm).trans hR2
    have nocl : ∀ {a : Addr} {u : HO}, H1 a = some u → (∀ xs, u ≠ .lst xs) → a ≠ cl := fun h z e => by
      rw [e, hcl1] at h
      cases h
      exact z _ rfl
    have k3 : ∀ {a : Addr} {u : HO}, H1 a = some u → a ≠ r → a ≠ cl → H3 a = some u := fun h z1 z2 => (upd_ne z2).trans ((upd_ne z1).trans h)
    have ho3 := k3 ho1 hor (nocl ho1 fun _ z => by cases z)
    have hh3 := k3 hh1 hhr (nocl hh1 fun _ z => by cases z)
    have hcs3 := k3 hcs1 hcr (nocl hcs1 fun _ z => by cases z)
    have harr : ar ≠ r := ne har fun _ _ _ z => by cases z
    have har3 := k3 (s1 _ _ (keep har harr)) harr harc
    refine ⟨_, rfl, o, C2, dx2, _, .ref hd, rfl, ho3, R2.c, R2.nh, rfl, hd, _, 0, .str (kindS b), rfl, rfl, SqT.of hh3, atI_nat (j := 0) rfl, rfl, _, rfl, ?_⟩
    -- what follows, with the number of plurals
    have fin : ∀ (H4 : Hp), H4 = upd H3 r (.ins C dx (rdF tx (ps tx y) nl cl (if b then pl - 1 else pl))) →
        tSeq (sFld K (tVar 0) (tFld K (tVar 1) "around") "nodes") (tDrop (tBM K "list" rAppend (tFld K (tVar 0) "nodes") (tCons (tMeth C2 "closed" (spOd C2) [] E (tVar 1) (tCons (tVar 2) tNil)) tNil)))
          { nx := fun _ H' => Q V.non H', rt := Q } [some (.ref r), some (.ref o), some (.ref ml)] H4 := by
      rintro H4 rfl
      generalize (if b then pl - 1 else pl) = pl' at q ⊢
      have hR4 : upd H3 r (.ins C dx (rdF tx (ps tx y) nl cl pl')) r = some (.ins C dx (rdF tx (ps tx y) nl cl pl')) := upd_same
      refine ⟨_, rfl, o, C2, dx2, _, .ref ar, rfl, (upd_ne hor).trans ho3, R2.c, R2.na, rfl, _, rfl, r, C, dx, _, rfl, hR4, R.c, R.nn, by show 5 < 1000; omega, ?_⟩
      rw [put_nodes, upd_upd']
      have ex : upd H3 r (.ins C dx (rdF tx (ps tx y) ar cl pl')) = upd (upd H1 cl (.lst c0)) r (.ins C dx (rdF tx (ps tx y) ar cl pl')) := by
        funext z
        by_cases e1 : z = r
        · rw [e1, upd_same, upd_same]
        · rw [upd_ne e1, upd_ne e1]
          show upd H2 cl _ z = _
          by_cases e2 : z = cl
          · rw [e2, upd_same, upd_same]
          · rw [upd_ne e2, upd_ne e2]
            exact upd_ne e1
      have hRx : upd H3 r (.ins C dx (rdF tx (ps tx y) ar cl pl')) r = some (.ins C dx (rdF tx (ps tx y) ar cl pl')) := upd_same
      have hox : upd H3 r (.ins C dx (rdF tx (ps tx y) ar cl pl')) o = some (.ins C2 dx2 (ocF hd ar cs (kV key))) := (upd_ne hor).trans ho3
      have hhx : upd H3 r (.ins C dx (rdF tx (ps tx y) ar cl pl')) hd = some (.tup (.str (kindS b) :: hs)) := (upd_ne hhr).trans hh3
      have hcx : upd H3 r (.ins C dx (rdF tx (ps tx y) ar cl pl')) cs = some (.dK kvs) := (upd_ne hcr).trans hcs3
      have hax : upd H3 r (.ins C dx (rdF tx (ps tx y) ar cl pl')) ar = some (.lst ns) := (upd_ne harr).trans har3
      rw [ex] at hRx hox hhx hcx hax ⊢
      refine ⟨_, rfl, r, C, dx, _, .ref ar, rfl, hRx, R.c, R.nn, rfl, .inl ⟨rfl, _, SqL.of hax⟩, _, rfl, o, dx2, _, rfl, hox, rfl, _, rfl, ?_⟩
      refine ⟨o, dx2, hd, ar, cs, ml, _, .str (kindS b) :: hs, kvs, rfl, hox, hhx, List.cons_ne_nil _ _, by rw [List.length_cons]; omega, hcx, fun H6 u l ts s6 hu6 hl6 hts hnt h6u h6l hp6 => ?_⟩
      refine ⟨ar, ns, _, rfl, rfl, s6 _ _ hax, hnl, ?_⟩
      exact q H6 u l ts s6 (upd_none (upd_none hu6)) (upd_none (upd_none hl6)) (fun z hz => upd_none (upd_none (hts z hz))) hnt h6u h6l hp6
    cases b with
    | false =>
      rw [show decide (V.str (kindS false) = V.str "plural") = false from rfl]
      refine fin _ ?_
      show H3 = upd H3 r _
      funext z
      by_cases e : z = r
      · rw [e, upd_same, hR3]
        rfl
      · rw [upd_ne e]
    | true =>
      rw [show decide (V.str (kindS true) = V.str "plural") = true from rfl]
      refine ⟨_, rfl, r, C, dx, _, .int pl, rfl, hR3, R.c, R.nu, rfl, _, _, rfl, rfl, dx, _, hR3, by show 5 < 1000; omega, ?_⟩
      rw [put_plurals]
      exact fin _ rfl
  · rw [if_neg hk, ← putK_keys (.ref ml) hkv, Rs.kn_bind] at q
    rw [decide_eq_false hk]
    refine ⟨_, rfl, _, rfl, o, C2, dx2, _, .ref cs, rfl, ho1, R2.c, R2.nc, rfl, _, rfl, o, C2, dx2, _, kV key, rfl, ho1, R2.c, R2.nk, rfl, cs, _, rfl, DPut.k hcs1 (sz_line (by omega)), ?_⟩
    let H2 : Hp := upd H1 cs (.dK (putK kvs key (.ref ml)))
    have hR2 : H2 r = some (.ins C dx (rdF tx (ps tx x1) nl cl pl)) := (upd_ne hcr.symm).trans hR1
    have hcl2 : H2 cl = some (.lst (c0 ++ [.ref o])) := (upd_ne (fun e => by rw [e, hcs1] at hcl1; cases hcl1)).trans hcl1
    have ho2 : H2 o = some (.ins C2 dx2 (ocF hd ar cs (kV key))) := (upd_ne hoc).trans ho1
    have hh2 : H2 hd = some (.tup (.str (kindS b) :: hs)) := (upd_ne (fun e => by rw [e, hcs1] at hh1; cases hh1)).trans hh1
    have hcs2 : H2 cs = some (.dK (putK kvs key (.ref ml))) := upd_same
    have ra2 : RA C r dx tx nl cl pl x1 H2 HB := ⟨hR2, hx1, ra.l, same_mut sB1 hBs _, ra.b⟩
    refine ⟨_, rfl, r, dx, _, rfl, hR2, rfl, ⟨r, dx, nl, cl, o, dx2, hd, ar, cs, tx, pl, x1, HB, c0, hs, kV key, _, b, rfl, ra2, hcl2, ho2, hh2, hcs2, hor, hBo, ?_⟩⟩
    refine q.imp (fun k y q t2 ht2 => ?_) (fun _ h => h) (fun h => h)
    have q : Ended C C2 r dx tx nl cl pl o dx2 hd ar cs c0 hs key kvs b ns H0 H t Q (some k) y := q
    exact q ml H1 ws x1 hx1 hml0 s1' hw1 hn t2 (upd_none ht2)
end
end Mw

namespace Mw
open PySem L2
section
variable {C C2 CT CE : Addr}
theorem ra_mono {vs : List V} {H : Hp} {Q Q' : VK} {E : XK} (m : ∀ v H', Q v H' → Q' v H') (h : spRa C C2 CT CE vs H Q E) : spRa C C2 CT CE vs H Q' E := by
  obtain ⟨r, dx, nl, cl, tx, pl, x, HB, ns, c0, h1, h2, h3, h4, h5, h6, h7, q⟩ := h
  refine ⟨r, dx, nl, cl, tx, pl, x, HB, ns, c0, h1, h2, h3, h4, h5, h6, h7, q.imp (fun a y h => ?_) (fun _ h => h) (fun h => h)⟩
  cases a with
  | shw n => exact fun H' t z => m _ _ (h H' t z)
  | cho n q => exact fun H' o dx2 hd cs t z1 z2 z3 z4 z5 z6 z7 z8 z9 z10 z11 => m _ _ (h H' o dx2 hd cs t z1 z2 z3 z4 z5 z6 z7 z8 z9 z10 z11)
theorem re_mono {vs : List V} {H : Hp} {Q Q' : VK} {E : XK} (m : ∀ v H', Q v H' → Q' v H') (h : spRe C CT CE vs H Q E) : spRe C CT CE vs H Q' E := by
  obtain ⟨r, dx, nl, cl, tx, pl, x, HB, ns, h1, h2, h3, h4, q⟩ := h
  exact ⟨r, dx, nl, cl, tx, pl, x, HB, ns, h1, h2, h3, h4, q.imp (fun a y h H' t z => m _ _ (h H' t z)) (fun _ h => h) (fun h => h)⟩
theorem rs_mono {vs : List V} {H : Hp} {Q Q' : VK} {E : XK} (m : ∀ v H', Q v H' → Q' v H') (h : spRs C CT CE vs H Q E) : spRs C CT CE vs H Q' E := by
  obtain ⟨r, dx, nl, cl, tx, pl, x, HB, ns, h1, h2, h3, h4, q⟩ := h
  exact ⟨r, dx, nl, cl, tx, pl, x, HB, ns, h1, h2, h3, h4, q.imp (fun a y h H' t z => m _ _ (h H' t z)) (fun _ h => h) (fun h => h)⟩
theorem em_mono {vs : List V} {H : Hp} {Q Q' : VK} {E : XK} (m : ∀ v H', Q v H' → Q' v H') (h : spEm C C2 CT CE vs H Q E) : spEm C C2 CT CE vs H Q' E := by
  obtain ⟨r, dx, nl, cl, o, dx2, hd, ar, cs, tx, pl, x, HB, c0, hs, key, kvs, b, ns, H0, t, h1, h2, h3, h4, h5, h6, h7, h8, h9, h10, h11, h12, h13, h14, h15, h16, h17, h18, h19, h20, h21, q⟩ := h
  refine ⟨r, dx, nl, cl, o, dx2, hd, ar, cs, tx, pl, x, HB, c0, hs, key, kvs, b, ns, H0, t, h1, h2, h3, h4, h5, h6, h7, h8, h9, h10, h11, h12, h13, h14, h15, h16, h17, h18, h19, h20, h21, q.imp (fun k y h => ?_) (fun _ h => h) (fun h => h)⟩
  intro ml H1 ws x1 z1 z2 z3 z4 z5
  have h := h ml H1 ws x1 z1 z2 z3 z4 z5
  cases k with
  | some k => exact fun t2 z => m _ _ (h t2 z)
  | none => exact fun H6 u l ts y1 y2 y3 y4 y5 y6 y7 y8 => m _ _ (h H6 u l ts y1 y2 y3 y4 y5 y6 y7 y8)
end
section
variable {P : Program} {w : World} {K : PySem.W.Frag} {mg : Str → Option Value} {base : Heap} {C C2 CT fT CE fE : Addr} {fdT fdE : FuncData}
abbrev sRn : Stmt := mth (top 19) 16
theorem scRn : FnScope ["self", "sign"] ["self"] (defScope sRn) := ⟨rfl, rfl, rfl, by decide +kernel, rfl, by decide +kernel, by decide +kernel⟩
/-- by the sign ahead: what the four readers promise -/
def spRn (C C2 CT CE : Addr) : Sp := fun vs H Q E => ∃ (r dx nl cl : Addr) (tx : Str) (pl : Int) (c : Nat) (y : List Nat) (HB : Hp) (c0 : List V), vs = [.ref r] ∧ RA C r dx tx nl cl pl (c :: y) H HB ∧ H cl = some (.lst c0) ∧
  ((c = 123 ∧ spRa C C2 CT CE [.ref r] H (fun _ H' => Q .non H') E) ∨ (c = 125 ∧ c0 ≠ [] ∧ spEm C C2 CT CE [.ref r] H (fun _ H' => Q .non H') E) ∨ (c = 39 ∧ spRe C CT CE [.ref r] H (fun _ H' => Q .non H') E) ∨ (c ≠ 123 ∧ ¬ (c = 125 ∧ c0 ≠ []) ∧ c ≠ 39 ∧ spRs C CT CE [.ref r] H (fun _ H' => Q .non H') E))
theorem rn_mono {vs : List V} {H : Hp} {Q Q' : VK} {E : XK} (m : ∀ v H', Q v H' → Q' v H') (h : spRn C C2 CT CE vs H Q E) : spRn C C2 CT CE vs H Q' E := by
  obtain ⟨r, dx, nl, cl, tx, pl, c, y, HB, c0, h1, h2, h3, h4⟩ := h
  refine ⟨r, dx, nl, cl, tx, pl, c, y, HB, c0, h1, h2, h3, ?_⟩
  have m' : ∀ v H', (fun _ H' => Q V.non H' : VK) v H' → (fun _ H' => Q' V.non H' : VK) v H' := fun _ H' z => m _ H' z
  rcases h4 with ⟨z1, z2⟩ | ⟨z1, z2, z3⟩ | ⟨z1, z2⟩ | ⟨z1, z2, z3, z4⟩
  · exact .inl ⟨z1, ra_mono m' z2⟩
  · exact .inr (.inl ⟨z1, z2, em_mono m' z3⟩)
  · exact .inr (.inr (.inl ⟨z1, re_mono m' z2⟩))
  · exact .inr (.inr (.inr ⟨z1, z2, z3, rs_mono m' z4⟩))
theorem ok_rn {f fG fA fE' fX fS : Addr} {fd fdG fdA fdE' fdX fdS : FuncData} (F : Fun K "read_next" "Reader.read_next" sRn f fd) (R : RC K C)
    (GG : FnOk P w K mg base (L2.CX P w) 3 fG fdG ["self"] (spSg C CT CE)) (bG : Binds K fdG ["self"] []) (mG : Meth K C "sign_ahead" fG)
    (GA : FnOk P w K mg base (L2.CX P w) 9 fA fdA ["self"] (spRa C C2 CT CE)) (bA : Binds K fdA ["self"] []) (mA : Meth K C "read_argument" fA)
    (GE : FnOk P w K mg base (L2.CX P w) 9 fE' fdE' ["self"] (spEm C C2 CT CE)) (bE : Binds K fdE' ["self"] []) (mE : Meth K C "end_message" fE')
    (GX : FnOk P w K mg base (L2.CX P w) 3 fX fdX ["self"] (spRe C CT CE)) (bX : Binds K fdX ["self"] []) (mX : Meth K C "read_escape" fX)
    (GS : FnOk P w K mg base (L2.CX P w) 4 fS fdS ["self"] (spRs C CT CE)) (bS : Binds K fdS ["self"] []) (mS : Meth K C "read_sign" fS) : FnOk P w K mg base (L2.CX P w) 10 f fd ["self"] (spRn C C2 CT CE) := by
  refine F.okX scRn (fun vs H Q E h => ?_) (fun cdv A outer s H vs Q E hr h => ?_)
  · obtain ⟨r, dx, nl, cl, tx, pl, c, y, HB, c0, rfl, _⟩ := h
    rfl
  obtain ⟨r, dx, nl, cl, tx, pl, c, y, HB, c0, rfl, ra, hcl, h⟩ := h
  have nd := scRn.nd
  refine ⟨_, pss_cons (ps_set (i := 1) nd rfl (.inl rfl) (pe_meth0 (pv 0) R.c mG GG (hr.mono (by decide)) bG .nil (Ca.passA (Ca.takesA_of (takes_of rfl rfl rfl rfl)))))
    (pss_one (ps_if (pt_cmpR op_eq (pv 1) pe_str (nomark _)) (pss_one (ps_expr (pe_meth0 (pv 0) R.c mA GA hr bA .nil (Ca.passA (Ca.takesA_of (takes_of rfl rfl rfl rfl))))))
      (pss_one (ps_if (PW.pt (pw_and (pt_cmpR op_eq (pv 1) pe_str (nomark _)) (pw_and1 (pt_truth (pe_fld (pv 0) rfl) (by intro _; rfl))))) (pss_one (ps_expr (pe_meth0 (pv 0) R.c mE GE hr bE .nil (Ca.passA (Ca.takesA_of (takes_of rfl rfl rfl rfl))))))
        (pss_one (ps_if (pt_cmpR op_eq (pv 1) pe_str (nomark _)) (pss_one (ps_expr (pe_meth0 (pv 0) R.c mX GX (hr.mono (by decide)) bX .nil (Ca.passA (Ca.takesA_of (takes_of rfl rfl rfl rfl))))))
          (pss_one (ps_expr (pe_meth0 (pv 0) R.c mS GS (hr.mono (by decide)) bS .nil (Ca.passA (Ca.takesA_of (takes_of rfl rfl rfl rfl)))))))))))), ?_⟩
  refine ⟨_, rfl, r, dx, _, rfl, ra.h, rfl, ⟨r, dx, nl, cl, tx, pl, c :: y, HB, rfl, ra, ?_⟩⟩
  refine ⟨_, rfl, rfl, _, rfl, ?_⟩
  show (if decide (V.str ⟨#[c]⟩ = V.str ⟨#[123]⟩) = true then _ else _)
  rw [str1_eq]
  have tr : tyV K "list" (.ref cl) H := .inl ⟨rfl, _, SqL.of hcl⟩
  rcases h with ⟨rfl, q⟩ | ⟨rfl, hne, q⟩ | ⟨rfl, q⟩ | ⟨n1, n2, n3, q⟩
  · exact ⟨_, rfl, r, dx, _, rfl, ra.h, rfl, q⟩
  · rw [decide_eq_false (by decide)]
    refine ⟨_, rfl, rfl, _, rfl, ?_⟩
    rw [show decide (V.str ⟨#[125]⟩ = V.str "}") = true from rfl]
    refine ⟨_, rfl, r, C, dx, _, .ref cl, rfl, ra.h, R.c, R.nc, rfl, !c0.isEmpty, .inl ⟨c0, SqL.of hcl, rfl⟩, ?_⟩
    cases c0 with
    | nil => exact absurd rfl hne
    | cons _ _ => exact ⟨_, rfl, r, dx, _, rfl, ra.h, rfl, q⟩
  · rw [decide_eq_false (by decide)]
    refine ⟨_, rfl, rfl, _, rfl, ?_⟩
    rw [show decide (V.str ⟨#[39]⟩ = V.str "}") = false from rfl]
    refine ⟨_, rfl, rfl, _, rfl, ?_⟩
    rw [show decide (V.str ⟨#[39]⟩ = V.str "'") = true from rfl]
    exact ⟨_, rfl, r, dx, _, rfl, ra.h, rfl, q⟩
  · rw [decide_eq_false n1]
    have fin : tIfS (tTest (tOp rEq (tVar 1) (tC (.str "'")))) (tDrop (tMeth C "read_escape" (spRe C CT CE) [] E (tVar 0) tNil)) (tDrop (tMeth C "read_sign" (spRs C CT CE) [] E (tVar 0) tNil)) { nx := fun _ H' => Q V.non H', rt := Q } [some (.ref r), some (.str ⟨#[c]⟩)] H := by
      refine ⟨_, rfl, rfl, _, rfl, ?_⟩
      rw [show decide (V.str ⟨#[c]⟩ = V.str "'") = false from (str1_eq c 39).trans (decide_eq_false n3)]
      exact ⟨_, rfl, r, dx, _, rfl, ra.h, rfl, q⟩
    refine ⟨_, rfl, rfl, _, rfl, ?_⟩
    rw [show decide (V.str ⟨#[c]⟩ = V.str "}") = decide (c = 125) from str1_eq c 125]
    by_cases h125 : c = 125
    · rw [decide_eq_true h125]
      refine ⟨_, rfl, r, C, dx, _, .ref cl, rfl, ra.h, R.c, R.nc, rfl, !c0.isEmpty, .inl ⟨c0, SqL.of hcl, rfl⟩, ?_⟩
      cases c0 with
      | nil => exact fin
      | cons _ _ => exact absurd ⟨h125, List.cons_ne_nil _ _⟩ n2
    · rw [decide_eq_false h125]
      exact fin
/-! ### Reader.__init__ -/
abbrev sRi : Stmt := mth (top 19) 0
theorem scRi : FnScope ["self", "text"] ["self", "text"] (defScope sRi) := ⟨rfl, rfl, rfl, by decide +kernel, rfl, by decide +kernel, by decide +kernel⟩
def spRi (C : Addr) : Sp := fun vs H Q _ => ∃ (r dx : Addr) (tx : Str), vs = [.ref r, .str tx] ∧ H r = some (.ins C dx []) ∧
  ∀ (H' : Hp) (nl cl : Addr), (∀ a u, H a = some u → a ≠ r → H' a = some u) → H nl = none → H cl = none → H' nl = some (.lst []) → H' cl = some (.lst []) → nl ≠ cl → H' r = some (.ins C dx (rdF tx 0 nl cl 0)) → Q .non H'
theorem ok_ri {f : Addr} {fd : FuncData} (F : Fun K "__init__" "Reader.__init__" sRi f fd) (R : RC K C) : FnOk P w K mg base CX0 1 f fd ["self", "text"] (spRi C) := by
  refine F.ok scRi (fun vs H Q E h => ?_) (fun cdv A outer s H vs Q E hr h => ?_)
  · obtain ⟨r, dx, tx, rfl, _⟩ := h
    rfl
  obtain ⟨r, dx, tx, rfl, hR, q⟩ := h
  refine ⟨_, pss_cons (ps_fld (pv 0) (pv 1) rfl) (pss_cons (ps_fld (pv 0) pe_int rfl) (pss_cons (ps_fld (pv 0) (pe_lst pa_nil) rfl) (pss_cons (ps_fld (pv 0) (pe_lst pa_nil) rfl) (pss_one (ps_fld (pv 0) pe_int rfl))))), ?_⟩
  refine ⟨_, rfl, _, rfl, r, C, dx, _, rfl, hR, R.c, R.nt, by show 0 < 1000; decide, ?_⟩
  refine ⟨_, rfl, r, C, dx, _, rfl, upd_same, R.c, R.np, by show 1 < 1000; decide, ?_⟩
  rw [upd_upd']
  refine ⟨by decide, fun nl hn => ?_⟩
  have hn0 : H nl = none := upd_none hn
  have hnr : r ≠ nl := fun e => by rw [← e, hR] at hn0; cases hn0
  refine ⟨_, rfl, r, C, dx, _, rfl, by rw [upd_ne hnr]; exact upd_same, R.c, R.nn, by show 2 < 1000; decide, ?_⟩
  refine ⟨by decide, fun cl hc => ?_⟩
  have hc1 := upd_none hc
  have hc2 := upd_none hc1
  have hc0 : H cl = none := upd_none hc2
  have hcr : r ≠ cl := fun e => by rw [← e, hR] at hc0; cases hc0
  have hnc : nl ≠ cl := fun e => by rw [← e, upd_same] at hc1; cases hc1
  refine ⟨_, rfl, r, C, dx, _, rfl, by rw [upd_ne hcr]; exact upd_same, R.c, R.nc, by show 3 < 1000; decide, ?_⟩
  refine ⟨_, rfl, r, C, dx, _, rfl, upd_same, R.c, R.nu, by show 4 < 1000; decide, ?_⟩
  refine q _ nl cl (fun a u h hne => ?_) hn0 hc0 ?_ ?_ hnc upd_same
  · have h1 : a ≠ nl := fun e => by rw [e, hn0] at h; cases h
    have h2 : a ≠ cl := fun e => by rw [e, hc0] at h; cases h
    rw [upd_ne hne, upd_ne hne, upd_ne h2, upd_ne hne, upd_ne h1, upd_ne hne]
    exact h
  · rw [upd_ne hnr.symm, upd_ne hnr.symm, upd_ne hnc, upd_ne hnr.symm, upd_same]
  · rw [upd_ne hcr.symm, upd_ne hcr.symm, upd_same]
/-! ### parse_message -/
/-- the end of the text -/
def FinAt (C CE r dx : Addr) (tx : Str) (HB : Hp) (Q : VK) (E : XK) (H : Hp) : Prop := ∃ (nl cl : Addr) (pl : Int) (c0 : List V), RA C r dx tx nl cl pl [] H HB ∧ H cl = some (.lst c0) ∧
  ((c0 = [] ∧ ∃ (H0 : Hp) (t : T), Same H0 H ∧ At H0 nl t ∧ Wf t false ∧ t.sz < 4900000 ∧ ∀ l H' ws, H l = none → Same H H' → H' l = some (.lst ws) → Nodes (mix H0 H') (jt [] t) ws → Q (.ref l) H') ∨ (c0 ≠ [] ∧ EErr CE HB E))
/-- from here the reading goes on to its end in fewer than so many steps -/
def Goes (C C2 CT CE r dx : Addr) (tx : Str) (HB : Hp) (Q : VK) (E : XK) : Nat → Hp → Prop
  | 0, _ => False
  | m + 1, H => FinAt C CE r dx tx HB Q E H ∨ ∃ (c : Nat) (y : List Nat) (nl cl : Addr) (pl : Int), RA C r dx tx nl cl pl (c :: y) H HB ∧ spRn C C2 CT CE [.ref r] H (fun _ H' => Goes C C2 CT CE r dx tx HB Q E m H') E
abbrev sPm : Stmt := top 20
theorem scPm : FnScope ["text", "reader"] ["text"] (defScope sPm) := ⟨rfl, rfl, rfl, by decide +kernel, rfl, by decide +kernel, by decide +kernel⟩
def spPm (C C2 CT CE : Addr) : Sp := fun vs H Q E => ∃ (tx : Str), vs = [.str tx] ∧ tx.length < 10000000 ∧
  ∀ (r dx nl cl : Addr) (H1 : Hp), Same H H1 → H r = none → H nl = none → H cl = none → H1 r = some (.ins C dx (rdF tx 0 nl cl 0)) → H1 nl = some (.lst []) → H1 cl = some (.lst []) → nl ≠ cl → ∃ m, Goes C C2 CT CE r dx tx H Q E m H1
theorem ok_pm {f fI fN fJ : Addr} {fd fdI fdN fdJ : FuncData} (F : Fun K "parse_message" "parse_message" sPm f fd) (R : RC K C) (EC : EC P w K mg base CT fT fdT CE fE fdE)
    (M : Mk K C fI) (mC : mg "Reader" = some (.ref C)) (GI : FnOk P w K mg base CX0 1 fI fdI ["self", "text"] (spRi C)) (bI : Binds K fdI ["self", "text"] [])
    (GN : FnOk P w K mg base (L2.CX P w) 10 fN fdN ["self"] (spRn C C2 CT CE)) (bN : Binds K fdN ["self"] []) (mN : Meth K C "read_next" fN)
    (GJ : FnOk P w K mg base CX0 2 fJ fdJ ["message"] spJt) (bJ : Binds K fdJ ["message"] []) (kJ : PySem.W.keepIn K (.ref fJ) = true) (mJ : mg "joined_texts" = some (.ref fJ))
    (ml : mg "len" = none) : FnOk P w K mg base (L2.CX P w) 11 f fd ["text"] (spPm C C2 CT CE) := by
  refine F.okX scPm (fun vs H Q E h => ?_) (fun cdv A outer s H vs Q E hr h => ?_)
  · obtain ⟨tx, rfl, _⟩ := h
    rfl
  obtain ⟨tx, rfl, hl, q⟩ := h
  have nd := scPm.nd
  refine ⟨_, pss_cons (ps_set (i := 1) nd rfl (.inl rfl) (pe_make M GI (hr.mono (by decide)) rfl mC bI .nil pass0 (pa_cons (pv 0) pa_nil)))
    (pss_cons (ps_while (passes_of rfl) (pt_cmpR op_lt (pe_fld (pv 1) rfl) (pe_callB call_len_str (by rfl) ml PySem.boot_len (pa_cons (pv 0) pa_nil)) (nomark _))
      (pss_one (ps_expr (pe_meth0 (pv 1) R.c mN GN hr bN .nil (Ca.passA (Ca.takesA_of (takes_of rfl rfl rfl rfl)))))))
    (pss_cons (ps_if (pt_truth (pe_fld (pv 1) rfl) (by intro _; rfl)) (pss_one (ps_raise rfl (takes_of rfl rfl rfl rfl) (Ex0.pmk_oex0 (k := 1) EC.E EC.iE EC.tE EC.GE (hr.mono (by decide)) EC.bE passL rfl EC.mE))) pss_nil)
    (pss_one (ps_ret (pe_call GJ (hr.mono (by decide)) rfl mJ kJ bJ .nil pass0 (pa_cons (pe_fld (pv 1) rfl) pa_nil)))))), ?_⟩
  refine ⟨_, rfl, fun r dx hr0 hdx ne => ⟨r, dx, tx, rfl, upd_same, fun H1 nl cl k1 hn hc hn1 hc1 hnc hR1 => ⟨rfl, ?_⟩⟩⟩
  have S1 : Same H H1 := fun a u h => k1 a u (by rw [upd_ne (ne_of_none h hr0), upd_ne (ne_of_none h hdx)]; exact h) (ne_of_none h hr0)
  have hn0 : H nl = none := upd_none (upd_none hn)
  have hc0 : H cl = none := upd_none (upd_none hc)
  obtain ⟨m, hm⟩ := q r dx nl cl H1 S1 hr0 hn0 hc0 hR1 hn1 hc1 hnc
  refine ⟨fun m σ H' => σ = [some (.str tx), some (.ref r)] ∧ Goes C C2 CT CE r dx tx H Q E m H', ⟨m, rfl, hm⟩, ?_⟩
  rintro m σ H' ⟨rfl, hm⟩
  cases m with
  | zero => exact hm.elim
  | succ m =>
    rcases hm with ⟨nl, cl, pl, c0, ra, hcl, hq⟩ | ⟨c, y, nl, cl, pl, ra, hn⟩
    · refine ⟨_, rfl, r, C, dx, _, .int (ps tx []), rfl, ra.h, R.c, R.np, rfl, _, rfl, tx, rfl, le_line hl, _, _, rfl, rfl, _, rfl, ?_⟩
      rw [show decide (ps tx [] < (tx.length : Int)) = false from decide_eq_false (by show ¬ ((tx.length - 0 : Nat) : Int) < (tx.length : Int); omega)]
      refine ⟨_, rfl, r, C, dx, _, .ref cl, rfl, ra.h, R.c, R.nc, rfl, !c0.isEmpty, .inl ⟨c0, SqL.of hcl, rfl⟩, ?_⟩
      rcases hq with ⟨rfl, H0, t, s0, hat, hw, hz, q⟩ | ⟨hne, he⟩
      · exact ⟨_, rfl, r, C, dx, _, .ref nl, rfl, ra.h, R.c, R.nn, rfl, nl, H0, t, rfl, s0, hat, hw, hz, q⟩
      · cases c0 with
        | nil => exact absurd rfl hne
        | cons _ _ => exact ee_at (σ := []) he ra.s
    · refine ⟨_, rfl, r, C, dx, _, .int (ps tx (c :: y)), rfl, ra.h, R.c, R.np, rfl, _, rfl, tx, rfl, le_line hl, _, _, rfl, rfl, _, rfl, ?_⟩
      have hlen := ra.f.len
      simp only [List.length_cons] at hlen
      rw [show decide (ps tx (c :: y) < (tx.length : Int)) = true from decide_eq_true (by show ((tx.length - (y.length + 1) : Nat) : Int) < (tx.length : Int); omega)]
      refine ⟨fun σ H2 => σ = [some (.str tx), some (.ref r)] ∧ Goes C C2 CT CE r dx tx H Q E m H2, fun σ' H2 h => ⟨m, by omega, h⟩, ?_⟩
      refine ⟨_, rfl, r, dx, _, rfl, ra.h, rfl, ?_⟩
      show spRn C C2 CT CE [.ref r] H' (fun _ H1 => [some (V.str tx), some (V.ref r)] = [some (V.str tx), some (V.ref r)] ∧ Goes C C2 CT CE r dx tx H Q E m H1) E
      exact rn_mono (Q := fun _ H1 => Goes C C2 CT CE r dx tx H Q E m H1) (fun _ H' z => ⟨rfl, z⟩) hn
end
end Mw

namespace Mw
open PySem L2
/-! ### messages in a heap whose lists change: all tuples, and the lists that do not change -/
def dv (L : List Addr) (H : Hp) : Hp := fun a => if a ∈ L then none else match H a with
  | some (.tup xs) => some (.tup xs)
  | some (.lst xs) => some (.lst xs)
  | _ => none
def AllL (L : List Addr) (H : Hp) : Prop := ∀ b ∈ L, ∃ xs, H b = some (.lst xs)
theorem dv_in {L : List Addr} {H : Hp} {a : Addr} {o : HO} (h : dv L H a = some o) : a ∉ L ∧ H a = some o ∧ ((∃ xs, o = .tup xs) ∨ ∃ xs, o = .lst xs) := by
  unfold dv at h
  split at h
  · cases h
  · rename_i hn
    split at h
    · cases h
      exact ⟨hn, by assumption, .inl ⟨_, rfl⟩⟩
    · cases h
      exact ⟨hn, by assumption, .inr ⟨_, rfl⟩⟩
    · cases h
theorem dv_out {L : List Addr} {H : Hp} : Same (dv L H) H := fun _ _ h => (dv_in h).2.1
theorem dv_lst {L : List Addr} {H : Hp} {a : Addr} {xs : List V} (h : a ∉ L) (e : H a = some (.lst xs)) : dv L H a = some (.lst xs) := by
  unfold dv
  rw [if_neg h, e]
theorem dv_tup' {L : List Addr} {H : Hp} {a : Addr} {xs : List V} (h : a ∉ L) (e : H a = some (.tup xs)) : dv L H a = some (.tup xs) := by
  unfold dv
  rw [if_neg h, e]
theorem dv_tup {L : List Addr} {H : Hp} {a : Addr} {xs : List V} (al : AllL L H) (e : H a = some (.tup xs)) : dv L H a = some (.tup xs) :=
  dv_tup' (fun h => by obtain ⟨ys, h1⟩ := al a h; rw [e] at h1; cases h1) e
theorem dv_mono {L L' : List Addr} {H H' : Hp} (m : ∀ a o, a ∉ L → H a = some o → ((∃ xs, o = .tup xs) ∨ ∃ xs, o = .lst xs) → a ∉ L' ∧ H' a = some o) : Same (dv L H) (dv L' H') := fun a o h => by
  obtain ⟨h1, h2, h3⟩ := dv_in h
  obtain ⟨h4, h5⟩ := m a o h1 h2 h3
  rcases h3 with ⟨xs, rfl⟩ | ⟨xs, rfl⟩
  · exact dv_tup' h4 h5
  · exact dv_lst h4 h5
theorem dv_same {L : List Addr} {H H' : Hp} (s : Same H H') : Same (dv L H) (dv L H') := dv_mono fun a o h1 h2 _ => ⟨h1, s _ _ h2⟩
theorem dv_free {L : List Addr} {H : Hp} {a : Addr} (h : H a = none) : dv L H a = none := by
  unfold dv
  rw [h]
  simp
/-- one more that is new -/
theorem dv_add {L : List Addr} {n : Addr} {H H' : Hp} (hn : H n = none) (s : Same (dv L H) (dv L H')) : Same (dv L H) (dv (n :: L) H') := fun a o h => by
  obtain ⟨h1, h2, h3⟩ := dv_in (s a o h)
  obtain ⟨_, h5, _⟩ := dv_in h
  have ne : a ≠ n := by rintro rfl; rw [hn] at h5; cases h5
  have hm : a ∉ n :: L := by simp [ne, h1]
  rcases h3 with ⟨xs, rfl⟩ | ⟨xs, rfl⟩
  · exact dv_tup' hm h2
  · exact dv_lst hm h2
theorem dv_sub {L : List Addr} {n : Addr} {H : Hp} : Same (dv (n :: L) H) (dv L H) := dv_mono fun a o h1 h2 _ => ⟨fun z => h1 (List.mem_cons_of_mem _ z), h2⟩
/-- the cases that are read -/
def Dn (Hd : Hp) : T → List (L2.Key × V) → Prop
  | .nil, kvs => kvs = []
  | .cas k m r, kvs => ∃ y a ks, kvs = (y, .ref a) :: ks ∧ k = kV y ∧ At Hd a m ∧ Dn Hd r ks
  | _, _ => False
theorem Dn.same {H H' : Hp} (s : Same H H') : ∀ {D : T} {kvs : List (L2.Key × V)}, Dn H D kvs → Dn H' D kvs
  | .nil, _, h => h
  | .text _ _, _, h => h.elim
  | .shw _ _, _, h => h.elim
  | .num _, _, h => h.elim
  | .cho _ _ _ _, _, h => h.elim
  | .cas k m r, _, h => by
    obtain ⟨y, a, ks, e, e2, h1, h2⟩ := h
    exact ⟨y, a, ks, e, e2, h1.same s, Dn.same s h2⟩
theorem Dn.snoc {H : Hp} {y : L2.Key} {a : Addr} {m : T} (ha : At H a m) : ∀ {D : T} {kvs : List (L2.Key × V)}, Dn H D kvs → Dn H (D.app (.cas (kV y) m .nil)) (kvs ++ [(y, .ref a)])
  | .nil, _, h => by
    rw [show _ = [] from h]
    exact ⟨y, a, [], rfl, rfl, ha, rfl⟩
  | .text _ _, _, h => h.elim
  | .shw _ _, _, h => h.elim
  | .num _, _, h => h.elim
  | .cho _ _ _ _, _, h => h.elim
  | .cas k m' r, _, h => by
    obtain ⟨y', a', ks, rfl, e2, h1, h2⟩ := h
    exact ⟨y', a', ks ++ [(y, .ref a)], rfl, e2, h1, Dn.snoc ha h2⟩
theorem Dn.nodes {L : List Addr} {H H' : Hp} (al : AllL L H') (s : Same H (dv L H')) : ∀ {D : T} {kvs : List (L2.Key × V)} {ts : List Addr}, Dn H D kvs → Paired (fun (z : Addr) (q : L2.Key × V) => H' z = some (.tup [kV q.1, q.2])) ts kvs → Nodes (dv L H') D (ts.map V.ref)
  | .nil, _, _, h, p => by
    rw [show _ = [] from h] at p
    cases p
    exact rfl
  | .text _ _, _, _, h, _ => h.elim
  | .shw _ _, _, _, h, _ => h.elim
  | .num _, _, _, h, _ => h.elim
  | .cho _ _ _ _, _, _, h, _ => h.elim
  | .cas k m r, _, _, h, p => by
    obtain ⟨y, a, ks, rfl, rfl, ⟨mvs, h1, h3⟩, h2⟩ := h
    cases p with
    | cons x t => exact ⟨_, _, a, mvs, rfl, dv_tup al x, s _ _ h1, Nodes.same s h3, Dn.nodes al s h2 t⟩
theorem kV_inj {y y' : L2.Key} (h : kV y = kV y') : y = y' := by
  cases y <;> cases y' <;> first | (injection h with h; rw [h]) | cases h
theorem val_none {kvs : List (L2.Key × V)} {y : L2.Key} (h : kV y ∉ kvs.map fun q => kV q.1) : valV kvs y = none := by
  induction kvs with
  | nil => rfl
  | cons q kvs ih =>
    rw [valV_neg fun e => h (by rw [List.map_cons, e]; exact List.mem_cons_self)]
    exact ih fun z => h (by rw [List.map_cons]; exact List.mem_cons_of_mem _ z)

/-! ### the choices that are open -/
structure FA where
  f : Fm
  o : Addr
  ar : Addr
  cs : Addr
def FOk (C2 : Addr) (L : List Addr) (H : Hp) (a : FA) : Prop := ∃ (dx2 hd : Addr) (kvs : List (L2.Key × V)) (ns : List V), H a.o = some (.ins C2 dx2 (ocF hd a.ar a.cs (kV a.f.key))) ∧ H hd = some (.tup (hdV a.f.b (mkS a.f.nm) a.f.off)) ∧ H a.cs = some (.dK kvs) ∧ Dn (dv L H) (casT a.f.kv) kvs ∧ a.f.key ∉ a.f.kv.map (·.1) ∧
  H a.ar = some (.lst ns) ∧ Nodes (dv L H) a.f.ar ns
theorem casT_app (q : L2.Key × T) : ∀ kv : List (L2.Key × T), casT (kv ++ [q]) = (casT kv).app (.cas (kV q.1) q.2 .nil)
  | [] => rfl
  | p :: kv => by
    show T.cas _ _ (casT (kv ++ [q])) = T.cas _ _ ((casT kv).app _)
    rw [casT_app q kv]
theorem dn_keys {Hd : Hp} : ∀ {kv : List (L2.Key × T)} {kvs : List (L2.Key × V)}, Dn Hd (casT kv) kvs → kvs.map (·.1) = kv.map (·.1)
  | [], _, h => by
    rw [show _ = [] from h]
    rfl
  | p :: kv, _, h => by
    obtain ⟨y, a, ks, rfl, e, _, h2⟩ := h
    rw [List.map_cons, List.map_cons, dn_keys h2, kV_inj e]
theorem val_of {kvs : List (L2.Key × V)} {ks : List L2.Key} {k : L2.Key} (e : kvs.map (·.1) = ks) (h : k ∉ ks) : valV kvs k = none := by
  refine val_none fun z => h ?_
  obtain ⟨q, hq, he⟩ := List.mem_map.mp z
  rw [← e, ← kV_inj he]
  exact List.mem_map_of_mem hq
/-! #### sizes and forms -/
def kvz (kv : List (L2.Key × T)) : Nat := (casT kv).sz
def fz (f : Fm) : Nat := f.ar.sz + kvz f.kv + 1
def Fm.Wf (f : Fm) : Prop := Mw.Wf f.ar false ∧ Mw.Wf (casT f.kv) true
def ysz (ys : List Str) : Nat := (ys.map fun y => 1 + y.length).sum
theorem ysz_snoc (ys : List Str) (s : Str) : ysz (ys ++ [s]) = ysz ys + (1 + s.length) := by
  unfold ysz
  rw [List.map_append, List.sum_append]
  simp
theorem ysz_ge (ys : List Str) : (ys.map (·.length)).sum + ys.length = ysz ys := by
  induction ys with
  | nil => rfl
  | cons y ys ih =>
    show y.length + (ys.map (·.length)).sum + (ys.length + 1) = 1 + y.length + ysz ys
    omega
theorem txt_sz (ys : List Str) (u : T) : (txt (catS ys) u).sz ≤ ysz ys + u.sz := by
  unfold txt
  split
  · omega
  · rename_i h
    cases ys with
    | nil => exact absurd rfl h
    | cons y ys =>
      have := cat_len (y :: ys)
      have h2 := ysz_ge (y :: ys)
      simp only [List.length_cons] at h2
      show 1 + (catS (y :: ys)).length + u.sz ≤ _
      omega
theorem jt_sz : ∀ (t : T) (ys : List Str), (jt ys t).sz ≤ t.sz + ysz ys
  | .nil, ys => by
    have := txt_sz ys .nil
    show (txt (catS ys) .nil).sz ≤ 0 + _
    simp only [T.sz] at this
    omega
  | .text s r, ys => by
    have := jt_sz r (ys ++ [s])
    rw [ysz_snoc] at this
    show (jt (ys ++ [s]) r).sz ≤ 1 + s.length + r.sz + _
    omega
  | .shw n r, ys => by
    have h := jt_sz r []
    have := txt_sz ys (.shw n (jt [] r))
    rw [show ysz [] = 0 from rfl] at h
    show (txt (catS ys) (.shw n (jt [] r))).sz ≤ 1 + r.sz + _
    have e : (T.shw n (jt [] r)).sz = 1 + (jt [] r).sz := rfl
    omega
  | .num r, ys => by
    have h := jt_sz r []
    have := txt_sz ys (.num (jt [] r))
    rw [show ysz [] = 0 from rfl] at h
    show (txt (catS ys) (.num (jt [] r))).sz ≤ 1 + r.sz + _
    have e : (T.num (jt [] r)).sz = 1 + (jt [] r).sz := rfl
    omega
  | .cho hd cs o r, ys => by
    have h := jt_sz r []
    have := txt_sz ys (.cho hd cs o (jt [] r))
    rw [show ysz [] = 0 from rfl] at h
    show (txt (catS ys) (.cho hd cs o (jt [] r))).sz ≤ 1 + cs.sz + o.sz + r.sz + _
    have e : (T.cho hd cs o (jt [] r)).sz = 1 + cs.sz + o.sz + (jt [] r).sz := rfl
    omega
  | .cas k m r, ys => by
    have h := jt_sz r []
    have := txt_sz ys (.cas k m (jt [] r))
    rw [show ysz [] = 0 from rfl] at h
    show (txt (catS ys) (.cas k m (jt [] r))).sz ≤ 1 + m.sz + r.sz + _
    have e : (T.cas k m (jt [] r)).sz = 1 + m.sz + (jt [] r).sz := rfl
    omega
theorem jt0_sz (t : T) : (jt [] t).sz ≤ t.sz := jt_sz t []
theorem txt_wf {s : Str} {u : T} (h : Wf u false) : Wf (txt s u) false := by
  unfold txt
  split
  · exact h
  · exact ⟨rfl, h⟩
theorem jt_wf : ∀ (t : T) (ys : List Str), Wf t false → Wf (jt ys t) false
  | .nil, _, _ => txt_wf trivial
  | .text s r, _, h => jt_wf r _ h.2
  | .shw n r, _, h => txt_wf ⟨rfl, jt_wf r _ h.2⟩
  | .num r, _, h => txt_wf ⟨rfl, jt_wf r _ h.2⟩
  | .cho hd cs o r, _, h => txt_wf ⟨rfl, h.2.1, h.2.2.1, h.2.2.2.1, jt_wf r _ h.2.2.2.2⟩
  | .cas k m r, _, h => by cases h.1
theorem wf_app {u : T} {c : Bool} (hu : Wf u c) : ∀ {t : T}, Wf t c → Wf (t.app u) c
  | .nil, _ => hu
  | .text s r, h => ⟨h.1, wf_app hu h.2⟩
  | .shw s r, h => ⟨h.1, wf_app hu h.2⟩
  | .num r, h => ⟨h.1, wf_app hu h.2⟩
  | .cho hd cs o r, h => ⟨h.1, h.2.1, h.2.2.1, h.2.2.2.1, wf_app hu h.2.2.2.2⟩
  | .cas k m r, h => ⟨h.1, h.2.1, h.2.2.1, wf_app hu h.2.2.2⟩
theorem kV_w (k : L2.Key) : KeyW (kV k) := by
  cases k with
  | inl i => exact .inr ⟨i, rfl⟩
  | inr s => exact .inl ⟨s, rfl⟩
theorem hdV_w (b : Bool) (nm : Str) (n : Int) : HdW (hdV b nm n) := by
  cases b with
  | false => exact .inl ⟨nm, rfl⟩
  | true => exact .inr ⟨nm, n, rfl⟩
/-! #### the state that is being read -/
structure HI (C C2 r dx cl : Addr) (tx : Str) (HB : Hp) (nl : Addr) (t : T) (fa : List FA) (pl : Int) (x : List Nat) (H : Hp) : Prop where
  ra : RA C r dx tx nl cl pl x H HB
  n : ∃ vs, H nl = some (.lst vs) ∧ Nodes (dv (nl :: cl :: fa.map (·.ar)) H) t vs
  c : H cl = some (.lst ((fa.reverse).map fun a => V.ref a.o))
  fo : ∀ a ∈ fa, FOk C2 (nl :: cl :: fa.map (·.ar)) H a
  nd : (nl :: cl :: fa.map (·.ar)).Nodup
  no : (fa.map (·.o)).Nodup
  ns : (fa.map (·.cs)).Nodup
  hn : HB nl = none
  hc : HB cl = none
  hb : ∀ a ∈ fa, HB a.o = none ∧ HB a.ar = none ∧ HB a.cs = none
  pl : pl = ((fa.filter (·.f.b)).length : Int)
  wt : Wf t false
  wf : ∀ a ∈ fa, a.f.Wf
  sz : t.sz + (fa.map fun a => fz a.f).sum + 2 * x.length ≤ 2 * tx.length
  tl : tx.length < 2400000
theorem Nodes.len_le {H : Hp} {t : T} {vs : List V} (h : Nodes H t vs) : vs.length ≤ t.sz := by
  rw [h.length]
  exact len_sz t
theorem sum_mem {α : Type} {f : α → Nat} {a : α} : ∀ {l : List α}, a ∈ l → f a ≤ (l.map f).sum
  | b :: l, h => by
    rw [List.map_cons, List.sum_cons]
    rcases List.mem_cons.mp h with rfl | h
    · omega
    · have := sum_mem (f := f) h
      omega
theorem len_sum {α : Type} {f : α → Nat} (hf : ∀ a, 1 ≤ f a) : ∀ l : List α, l.length ≤ (l.map f).sum
  | [] => Nat.zero_le _
  | a :: l => by
    have := len_sum hf l
    have := hf a
    rw [List.map_cons, List.sum_cons, List.length_cons]
    omega
theorem kind_of {H : Hp} {a r C dx : Addr} {fs : List (Str × V)} {o : HO} (hr : H r = some (.ins C dx fs)) (h : H a = some o) (k : (∃ xs, o = .tup xs) ∨ ∃ xs, o = .lst xs) : a ≠ r := by
  rintro rfl
  rw [hr] at h
  cases h
  rcases k with ⟨_, e⟩ | ⟨_, e⟩ <;> cases e
theorem kind_dk {H : Hp} {a c : Addr} {kvs : List (L2.Key × V)} {o : HO} (hr : H c = some (.dK kvs)) (h : H a = some o) (k : (∃ xs, o = .tup xs) ∨ ∃ xs, o = .lst xs) : a ≠ c := by
  rintro rfl
  rw [hr] at h
  cases h
  rcases k with ⟨_, e⟩ | ⟨_, e⟩ <;> cases e
/-- a frame stays where its parts and the messages stay -/
theorem FOk.keep {C2 : Addr} {L L' : List Addr} {H H' : Hp} {a : FA} (h : FOk C2 L H a) (ho : ∀ u, H a.o = some u → H' a.o = some u) (hs : ∀ u, H a.cs = some u → H' a.cs = some u) (hr : ∀ u, H a.ar = some u → H' a.ar = some u) (ht : ∀ p xs, H p = some (.tup xs) → H' p = some (.tup xs)) (hd : Same (dv L H) (dv L' H')) : FOk C2 L' H' a := by
  obtain ⟨dx2, hd', kvs, ns, h1, h2, h3, h4, h5, h6, h7⟩ := h
  exact ⟨dx2, hd', kvs, ns, ho _ h1, ht _ _ h2, hs _ h3, Dn.same hd h4, h5, hr _ h6, Nodes.same hd h7⟩
section
variable {C C2 CT CE r dx cl : Addr} {tx : Str} {HB : Hp} {nl : Addr} {t : T} {fa : List FA} {pl : Int} {x : List Nat} {H : Hp}
theorem HI.cr (h : HI C C2 r dx cl tx HB nl t fa pl x H) : cl ≠ r := fun e => by
  have := h.c
  rw [e, h.ra.h] at this
  cases this
theorem HI.nr (h : HI C C2 r dx cl tx HB nl t fa pl x H) : nl ≠ r := fun e => by
  obtain ⟨vs, this, _⟩ := h.n
  rw [e, h.ra.h] at this
  cases this
theorem HI.nc (h : HI C C2 r dx cl tx HB nl t fa pl x H) : nl ≠ cl := fun e => (List.nodup_cons.mp h.nd).1 (by rw [e]; exact List.mem_cons_self)
theorem HI.all (h : HI C C2 r dx cl tx HB nl t fa pl x H) : AllL (nl :: cl :: fa.map (·.ar)) H := fun b hb => by
  rcases List.mem_cons.mp hb with rfl | hb
  · obtain ⟨vs, e, _⟩ := h.n
    exact ⟨vs, e⟩
  · rcases List.mem_cons.mp hb with rfl | hb
    · exact ⟨_, h.c⟩
    · obtain ⟨a, ha, rfl⟩ := List.mem_map.mp hb
      obtain ⟨_, _, _, ns, _, _, _, _, _, e, _⟩ := h.fo a ha
      exact ⟨ns, e⟩
theorem HI.tsz (h : HI C C2 r dx cl tx HB nl t fa pl x H) : t.sz < 4800000 := by
  have := h.sz
  have := h.tl
  omega
/-- a node has been put behind -/
theorem HI.put (h : HI C C2 r dx cl tx HB nl t fa pl x H) {ns xs : List V} {y : List Nat} {H' : Hp} {p : Addr} {u : T} (hns : H nl = some (.lst ns)) (P : Put C r dx tx nl cl pl H ns xs y H' p) (hy : Sf tx y) (hl : y.length < x.length) (hu : u.sz ≤ 2) (wu : Wf u false)
    (hN : ∀ Hd : Hp, Hd p = some (.tup xs) → Nodes Hd u [.ref p]) : HI C C2 r dx cl tx HB nl (t.app u) fa pl y H' := by
  obtain ⟨vs, hv, hN0⟩ := h.n
  rw [hns] at hv
  cases hv
  have al := h.all
  have ke : ∀ a o, H a = some o → a ≠ r → a ≠ nl → H' a = some o := P.k
  have tup : ∀ q ys, H q = some (.tup ys) → H' q = some (.tup ys) := fun q ys e => ke q _ e (kind_of h.ra.h e (.inl ⟨_, rfl⟩)) (by rintro rfl; rw [hns] at e; cases e)
  have sd : Same (dv (nl :: cl :: fa.map (·.ar)) H) (dv (nl :: cl :: fa.map (·.ar)) H') := dv_mono fun a o h1 h2 h3 => ⟨h1, ke a o h2 (kind_of h.ra.h h2 h3) (fun e => h1 (by rw [e]; exact List.mem_cons_self))⟩
  have pm : p ∉ nl :: cl :: fa.map (·.ar) := fun z => by obtain ⟨ys, e⟩ := al p z; rw [P.t0] at e; cases e
  have arm : ∀ a ∈ fa, a.ar ≠ nl := fun a ha e => (List.nodup_cons.mp h.nd).1 (by rw [← e]; exact List.mem_cons_of_mem _ (List.mem_map_of_mem ha))
  refine ⟨⟨P.hr, hy, h.ra.l, fun b o e => ke b o (h.ra.s b o e) (ne_of_none e h.ra.b) (ne_of_none e h.hn), h.ra.b⟩, ⟨_, P.hn, Nodes.app (hN _ (dv_tup' pm P.ht)) (Nodes.same sd hN0)⟩, ke _ _ h.c h.cr h.nc.symm, fun a ha => ?_, h.nd, h.no, h.ns, h.hn, h.hc, h.hb, h.pl, wf_app wu h.wt, h.wf, ?_, h.tl⟩
  · have fo := h.fo a ha
    obtain ⟨dx2, hd, kvs, ns', f1, f2, f3, f4, f5, f6, f7⟩ := id fo
    refine fo.keep (fun u e => ke _ _ e ?_ ?_) (fun u e => ke _ _ e ?_ ?_) (fun u e => ke _ _ e ?_ (arm a ha)) tup sd
    · intro z
      have hob := (h.hb a ha).1
      rw [z] at f1
      rw [h.ra.h] at f1
      injection f1 with f1
      injection f1 with _ _ f1
      unfold ocF rdF at f1
      injection f1 with f1 _
      injection f1 with f1 _
      exact absurd f1 (by decide)
    · rintro z
      rw [z, hns] at f1
      cases f1
    · rintro z
      rw [z, h.ra.h] at f3
      cases f3
    · rintro z
      rw [z, hns] at f3
      cases f3
    · rintro z
      rw [z, h.ra.h] at f6
      cases f6
  · have := h.sz
    rw [T.app_sz]
    omega
end
end Mw

namespace Mw
open PySem L2
theorem kin_new {b : Bool} {ks : List L2.Key} {x y : List Nat} {k : L2.Key} (h : bgCase b ks x = .ok k y) : k ∉ ks := by
  unfold bgCase at h
  cases e : bgKey b (skip x) with
  | fin => rw [e] at h; cases h
  | tok z => rw [e] at h; cases h
  | ok k' z =>
    rw [e] at h
    have h : (if kin k' ks = true then .tok (skip x) else (tkSign 123 z).bind fun _ w => (.ok k' w : Rs L2.Key)) = .ok k y := h
    split at h
    · cases h
    · rename_i hk
      cases e2 : tkSign 123 z with
      | fin => rw [e2] at h; cases h
      | tok w => rw [e2] at h; cases h
      | ok u w =>
        rw [e2] at h
        have h : (Rs.ok k' w) = .ok k y := h
        injection h with h1 h2
        rw [← h1]
        exact fun z => hk (kin_iff.mpr z)
theorem endK_some {key : L2.Key} {b : Bool} {ks : List L2.Key} {x y : List Nat} {k : L2.Key} (h : rdEndK key b ks x = .ok (some k) y) : key ≠ othK ∧ k ∉ ks ++ [key] := by
  unfold rdEndK at h
  cases e : tkSign 125 x with
  | fin => rw [e] at h; cases h
  | tok z => rw [e] at h; cases h
  | ok u x1 =>
    rw [e] at h
    have h : (if key = othK then (tkSign 125 x1).bind fun _ y => .ok none y else (bgCase b (ks ++ [key]) x1).bind fun k y => (.ok (some k) y : Rs (Option L2.Key))) = .ok (some k) y := h
    split at h
    · cases e2 : tkSign 125 x1 with
      | fin => rw [e2] at h; cases h
      | tok z => rw [e2] at h; cases h
      | ok u z =>
        rw [e2] at h
        have h : (Rs.ok none z) = .ok (some k) y := h
        injection h with h
        cases h
    · rename_i hk
      cases e2 : bgCase b (ks ++ [key]) x1 with
      | fin => rw [e2] at h; cases h
      | tok z => rw [e2] at h; cases h
      | ok k' z =>
        rw [e2] at h
        have h : (Rs.ok (some k') z) = .ok (some k) y := h
        injection h with h
        injection h with h
        rw [← h]
        exact ⟨hk, kin_new e2⟩
section
variable {C C2 CT CE r dx cl : Addr} {tx : Str} {HB : Hp} {nl : Addr} {t : T} {fa : List FA} {pl : Int} {x : List Nat} {H : Hp}
theorem ins_ne {r o C dx C2 dx2 : Addr} {tx : Str} {p : Int} {nl cl : Addr} {pl : Int} {hd ar cs : Addr} {k : V} {H : Hp} (h : H r = some (.ins C dx (rdF tx p nl cl pl))) (ho : H o = some (.ins C2 dx2 (ocF hd ar cs k))) : o ≠ r := fun z => by
  rw [z, h] at ho
  injection ho with f1
  injection f1 with _ _ f1
  unfold ocF rdF at f1
  injection f1 with f1 _
  injection f1 with f1 _
  exact absurd f1 (by decide)
/-- a choice has been opened -/
theorem HI.open (h : HI C C2 r dx cl tx HB nl t fa pl x H) {q : Bool × Int × L2.Key} {n : List Nat} {y : List Nat} {H' : Hp} {o dx2 hd cs p : Addr} (hy : Sf tx y) (hl : y.length < x.length) (k : Kp r cl H H') (ho0 : H o = none) (hh0 : H hd = none) (hs0 : H cs = none) (hp0 : H p = none)
    (hr : H' r = some (.ins C dx (rdF tx (ps tx y) p cl (if q.1 then pl + 1 else pl)))) (hcl : H' cl = some (.lst (((fa.reverse).map fun a => V.ref a.o) ++ [.ref o]))) (ho : H' o = some (.ins C2 dx2 (ocF hd nl cs (kV q.2.2)))) (hh : H' hd = some (.tup (hdV q.1 (mkS n) q.2.1))) (hs : H' cs = some (.dK [])) (hp : H' p = some (.lst [])) :
    HI C C2 r dx cl tx HB p .nil (⟨⟨q.1, n, q.2.1, [], q.2.2, t⟩, o, nl, cs⟩ :: fa) (if q.1 then pl + 1 else pl) y H' := by
  obtain ⟨vs, hv, hN0⟩ := h.n
  have al := h.all
  have tup : ∀ q ys, H q = some (.tup ys) → H' q = some (.tup ys) := fun q ys e => k q _ e (kind_of h.ra.h e (.inl ⟨_, rfl⟩)) (by rintro rfl; rw [h.c] at e; cases e)
  have pm : p ∉ nl :: cl :: fa.map (·.ar) := fun z => by obtain ⟨ys, e⟩ := al p z; rw [hp0] at e; cases e
  have sub : ∀ a, a ∈ p :: cl :: nl :: fa.map (·.ar) → a = p ∨ a ∈ nl :: cl :: fa.map (·.ar) := fun a ha => by
    simp only [List.mem_cons] at ha ⊢
    rcases ha with z | z | z | z
    · exact .inl z
    · exact .inr (.inr (.inl z))
    · exact .inr (.inl z)
    · exact .inr (.inr (.inr z))
  have sd : Same (dv (nl :: cl :: fa.map (·.ar)) H) (dv (p :: cl :: nl :: fa.map (·.ar)) H') := dv_mono fun a u h1 h2 h3 => ⟨fun z => by
      rcases sub a z with z | z
      · rw [z, hp0] at h2
        cases h2
      · exact h1 z, k a u h2 (kind_of h.ra.h h2 h3) (fun e => h1 (by rw [e]; exact List.mem_cons_of_mem _ List.mem_cons_self))⟩
  have hv' : H' nl = some (.lst vs) := k _ _ hv h.nr h.nc
  refine ⟨⟨hr, hy, h.ra.l, k.sb h.ra.s h.ra.b h.hc, h.ra.b⟩, ⟨[], hp, rfl⟩, ?_, ?_, ?_, ?_, ?_, h.ra.s.free hp0, h.hc, ?_, ?_, trivial, ?_, ?_, h.tl⟩
  · rw [hcl, List.reverse_cons, List.map_append]
    rfl
  · intro a ha
    rcases List.mem_cons.mp ha with rfl | ha
    · exact ⟨dx2, hd, [], vs, ho, hh, hs, rfl, List.not_mem_nil, hv', Nodes.same sd hN0⟩
    · have fo := h.fo a ha
      obtain ⟨dx2', hd', kvs, ns', f1, f2, f3, f4, f5, f6, f7⟩ := id fo
      refine fo.keep (fun u e => k _ _ e (ins_ne h.ra.h f1) ?_) (fun u e => k _ _ e ?_ ?_) (fun u e => k _ _ e ?_ ?_) tup sd
      · rintro z
        rw [z, h.c] at f1
        cases f1
      · rintro z
        rw [z, h.ra.h] at f3
        cases f3
      · rintro z
        rw [z, h.c] at f3
        cases f3
      · rintro z
        rw [z, h.ra.h] at f6
        cases f6
      · intro z
        have := (List.nodup_cons.mp (List.nodup_cons.mp h.nd).2).1
        exact this (by rw [← z]; exact List.mem_map_of_mem ha)
  · have nd := h.nd
    have n1 := List.nodup_cons.mp nd
    have n2 := List.nodup_cons.mp n1.2
    refine List.nodup_cons.mpr ⟨fun z => ?_, List.nodup_cons.mpr ⟨fun z => ?_, List.nodup_cons.mpr ⟨fun z => n1.1 (List.mem_cons_of_mem _ z), n2.2⟩⟩⟩
    · rcases sub p (List.mem_cons_of_mem _ z) with _ | z'
      · exact pm (by
          have z : p ∈ cl :: nl :: fa.map (·.ar) := z
          simp only [List.mem_cons] at z ⊢
          rcases z with z | z | z
          · exact .inr (.inl z)
          · exact .inl z
          · exact .inr (.inr z))
      · exact pm z'
    · have z : cl ∈ nl :: fa.map (·.ar) := z
      rcases List.mem_cons.mp z with z | z
      · exact h.nc z.symm
      · exact n2.1 z
  · refine List.nodup_cons.mpr ⟨fun z => ?_, h.no⟩
    obtain ⟨a, ha, e⟩ := List.mem_map.mp z
    obtain ⟨_, _, _, _, f1, _⟩ := h.fo a ha
    have e : a.o = o := e
    rw [e, ho0] at f1
    cases f1
  · refine List.nodup_cons.mpr ⟨fun z => ?_, h.ns⟩
    obtain ⟨a, ha, e⟩ := List.mem_map.mp z
    obtain ⟨_, _, _, _, _, _, f3, _⟩ := h.fo a ha
    have e : a.cs = cs := e
    rw [e, hs0] at f3
    cases f3
  · intro a ha
    rcases List.mem_cons.mp ha with rfl | ha
    · exact ⟨h.ra.s.free ho0, h.hn, h.ra.s.free hs0⟩
    · exact h.hb a ha
  · have := h.pl
    rw [List.filter_cons]
    cases q.1 with
    | false => exact this
    | true =>
      show pl + 1 = ((_ :: _ : List FA).length : Int)
      rw [List.length_cons]
      omega
  · intro a ha
    rcases List.mem_cons.mp ha with rfl | ha
    · exact ⟨h.wt, trivial⟩
    · exact h.wf a ha
  · have := h.sz
    rw [List.map_cons, List.sum_cons]
    show 0 + (t.sz + 0 + 1 + _) + _ ≤ _
    omega
/-- the data that end_message is told of -/
theorem HI.own (h : HI C C2 r dx cl tx HB nl t fa pl x H) {vs : List V} (hv : H nl = some (.lst vs)) (hN : Nodes (dv (nl :: cl :: fa.map (·.ar)) H) t vs) :
    Same (upd (dv (nl :: cl :: fa.map (·.ar)) H) nl (.lst vs)) H ∧ (upd (dv (nl :: cl :: fa.map (·.ar)) H) nl (.lst vs)) r = none ∧ At (upd (dv (nl :: cl :: fa.map (·.ar)) H) nl (.lst vs)) nl t := by
  have hn : dv (nl :: cl :: fa.map (·.ar)) H nl = none := by
    unfold dv
    rw [if_pos List.mem_cons_self]
  refine ⟨fun a o e => ?_, ?_, ⟨vs, upd_same, Nodes.same (same_new hn _) hN⟩⟩
  · by_cases z : a = nl
    · rw [z, upd_same] at e
      cases e
      rw [z]
      exact hv
    · rw [upd_ne z] at e
      exact dv_out _ _ e
  · rw [upd_ne h.nr.symm]
    unfold dv
    rw [h.ra.h]
    simp
/-- the joined message in a later heap -/
theorem HI.msg (h : HI C C2 r dx cl tx HB nl t fa pl x H) {vs ws : List V} {L' : List Addr} {H1 H' : Hp} {x1 : List Nat} {ml : Addr} {m : T} (hv : H nl = some (.lst vs)) (nm : nl ∉ L') (hL : ∀ b ∈ L', b ∈ (cl :: fa.map (·.ar)) ∨ H1 b = none) (hml : H ml = none) (s1 : Same (mv C r dx tx nl cl pl H x1) H1)
    (hw : H1 ml = some (.lst ws)) (hN : Nodes (mix (upd (dv (nl :: cl :: fa.map (·.ar)) H) nl (.lst vs)) H1) m ws) (k : ∀ a o, H1 a = some o → ((∃ xs, o = .tup xs) ∨ ∃ xs, o = .lst xs) → a ∉ (cl :: fa.map (·.ar)) → H' a = some o) : At (dv L' H') ml m := by
  have ke : ∀ a o, H a = some o → a ≠ r → H1 a = some o := fun a o h z => s1 a o ((upd_ne z).trans h)
  have al := h.all
  have nm2 : nl ∉ cl :: fa.map (·.ar) := (List.nodup_cons.mp h.nd).1
  have mlo : ml ∉ cl :: fa.map (·.ar) := fun h => by obtain ⟨xs, e⟩ := al ml (List.mem_cons_of_mem _ h); rw [hml] at e; cases e
  have nL : ∀ {a : Addr} {o : HO}, a ∉ cl :: fa.map (·.ar) → H1 a = some o → a ∉ L' := fun h1 h2 z => by
    rcases hL _ z with z | z
    · exact h1 z
    · rw [z] at h2
      cases h2
  refine ⟨ws, dv_lst (nL mlo hw) (k _ _ hw (.inr ⟨_, rfl⟩) mlo), Nodes.same (fun a o e => ?_) hN⟩
  rcases mix_in e with e | ⟨h0, xs, rfl, h1⟩
  · by_cases ea : a = nl
    · rw [ea, upd_same] at e
      cases e
      rw [ea]
      exact dv_lst nm (k _ _ (ke _ _ hv h.nr) (.inr ⟨_, rfl⟩) nm2)
    · rw [upd_ne ea] at e
      obtain ⟨h1, h2, h3⟩ := dv_in e
      have ar : a ≠ r := kind_of h.ra.h h2 h3
      have ao : a ∉ cl :: fa.map (·.ar) := fun z => h1 (List.mem_cons_of_mem _ z)
      have := k _ _ (ke _ _ h2 ar) h3 ao
      rcases h3 with ⟨xs, rfl⟩ | ⟨xs, rfl⟩
      · exact dv_tup' (nL ao (ke _ _ h2 ar)) this
      · exact dv_lst (nL ao (ke _ _ h2 ar)) this
  · have ao : a ∉ cl :: fa.map (·.ar) := fun z => by
      obtain ⟨ys, e⟩ := al a (List.mem_cons_of_mem _ z)
      have := ke _ _ e (kind_of h.ra.h e (.inr ⟨_, rfl⟩))
      rw [h1] at this
      cases this
    exact dv_tup' (nL ao h1) (k _ _ h1 (.inl ⟨_, rfl⟩) ao)
end
end Mw

namespace Mw
open PySem L2
section
variable {C C2 CT CE r dx cl : Addr} {tx : Str} {HB : Hp} {nl : Addr} {t : T} {fr : List FA} {a : FA} {pl : Int} {x : List Nat} {H : Hp}
def nextF (f : Fm) (m : T) (k : L2.Key) : Fm := { f with kv := f.kv ++ [(f.key, m)], key := k }
theorem HI.next (h : HI C C2 r dx cl tx HB nl t (a :: fr) pl x H) {dx2 hd : Addr} {kvs : List (L2.Key × V)} {ns vs ws : List V} {x1 y : List Nat} {ml p : Addr} {H1 : Hp} {k : L2.Key} (hv : H nl = some (.lst vs)) (hN : Nodes (dv (nl :: cl :: (a :: fr).map (·.ar)) H) t vs)
    (ho : H a.o = some (.ins C2 dx2 (ocF hd a.ar a.cs (kV a.f.key)))) (hh : H hd = some (.tup (hdV a.f.b (mkS a.f.nm) a.f.off))) (hs : H a.cs = some (.dK kvs)) (hD : Dn (dv (nl :: cl :: (a :: fr).map (·.ar)) H) (casT a.f.kv) kvs) (hk : a.f.key ∉ a.f.kv.map (·.1)) (har : H a.ar = some (.lst ns)) (hNa : Nodes (dv (nl :: cl :: (a :: fr).map (·.ar)) H) a.f.ar ns)
    (hy : Sf tx y) (hl : y.length < x.length) (hml : H ml = none) (s1 : Same (mv C r dx tx nl cl pl H x1) H1) (hw : H1 ml = some (.lst ws)) (hNm : Nodes (mix (upd (dv (nl :: cl :: (a :: fr).map (·.ar)) H) nl (.lst vs)) H1) (jt [] t) ws) (hp0 : H1 p = none) (hkn : k ∉ a.f.kv.map (·.1) ++ [a.f.key]) :
    HI C C2 r dx cl tx HB p .nil (⟨nextF a.f (jt [] t) k, a.o, a.ar, a.cs⟩ :: fr) pl y (upd (upd (upd (upd H1 a.cs (.dK (putK kvs a.f.key (.ref ml)))) a.o (.ins C2 dx2 (ocF hd a.ar a.cs (kV k)))) p (.lst [])) r (.ins C dx (rdF tx (ps tx y) p cl pl))) := by
  have al := h.all
  have ke : ∀ a u, H a = some u → a ≠ r → H1 a = some u := fun a u h z => s1 a u ((upd_ne z).trans h)
  have hor : a.o ≠ r := ins_ne h.ra.h ho
  have hcr : a.cs ≠ r := fun z => by rw [z, h.ra.h] at hs; cases hs
  have hco : a.cs ≠ a.o := fun z => by rw [z, ho] at hs; cases hs
  have hp : H p = none := by
    cases e : H p with
    | none => rfl
    | some u =>
      by_cases z : p = r
      · rw [z] at hp0
        rw [s1 _ _ upd_same] at hp0
        cases hp0
      · rw [ke _ _ e z] at hp0
        cases hp0
  have tr : p ≠ r := fun z => by rw [z, h.ra.h] at hp; cases hp
  have to' : p ≠ a.o := fun z => by rw [z, ho] at hp; cases hp
  have tc : p ≠ a.cs := fun z => by rw [z, hs] at hp; cases hp
  have hvk := val_of (dn_keys hD) hk
  generalize hH' : upd (upd (upd (upd H1 a.cs (.dK (putK kvs a.f.key (.ref ml)))) a.o (.ins C2 dx2 (ocF hd a.ar a.cs (kV k)))) p (.lst [])) r (.ins C dx (rdF tx (ps tx y) p cl pl)) = H'
  have fin : ∀ b u, H1 b = some u → b ≠ r → b ≠ a.o → b ≠ a.cs → H' b = some u := fun b u h z1 z2 z3 => by
    rw [← hH', upd_ne z1, upd_ne (ne_of_none h hp0), upd_ne z2, upd_ne z3]
    exact h
  have all : ∀ b u, H b = some u → b ≠ r → b ≠ a.o → b ≠ a.cs → H' b = some u := fun b u h z1 z2 z3 => fin b u (ke b u h z1) z1 z2 z3
  have hr' : H' r = some (.ins C dx (rdF tx (ps tx y) p cl pl)) := by rw [← hH']; exact upd_same
  have ho' : H' a.o = some (.ins C2 dx2 (ocF hd a.ar a.cs (kV k))) := by rw [← hH', upd_ne hor, upd_ne to'.symm]; exact upd_same
  have hs' : H' a.cs = some (.dK (kvs ++ [(a.f.key, .ref ml)])) := by rw [← hH', upd_ne hcr, upd_ne tc.symm, upd_ne hco, upd_same, putK_new _ hvk]
  have hp' : H' p = some (.lst []) := by rw [← hH', upd_ne tr]; exact upd_same
  clear hH'
  have kk : ∀ b o, H b = some o → ((∃ xs, o = .tup xs) ∨ ∃ xs, o = .lst xs) → H' b = some o := fun b o e z => all b o e (kind_of h.ra.h e z) (kind_of ho e z) (kind_dk hs e z)
  have tup : ∀ q ys, H q = some (.tup ys) → H' q = some (.tup ys) := fun q ys e => kk q _ e (.inl ⟨_, rfl⟩)
  have pm : p ∉ nl :: cl :: (a :: fr).map (·.ar) := fun z => by obtain ⟨ys, e⟩ := al p z; rw [hp] at e; cases e
  have sd : Same (dv (nl :: cl :: (a :: fr).map (·.ar)) H) (dv (p :: cl :: (a :: fr).map (·.ar)) H') := dv_mono fun b u h1 h2 h3 => ⟨fun z => by
      rcases List.mem_cons.mp z with z | z
      · rw [z, hp] at h2
        cases h2
      · exact h1 (List.mem_cons_of_mem _ z), kk b u h2 h3⟩
  have msg : At (dv (p :: cl :: (a :: fr).map (·.ar)) H') ml (jt [] t) := h.msg hv (fun z => by
      rcases List.mem_cons.mp z with z | z
      · rw [← z, hv] at hp
        cases hp
      · exact (List.nodup_cons.mp h.nd).1 z) (fun b hb => by
      rcases List.mem_cons.mp hb with z | z
      · rw [z]; exact .inr hp0
      · exact .inl z) hml s1 hw hNm fun b o e z _ => fin b o e (by
        rintro rfl
        rw [s1 _ _ upd_same] at e
        cases e
        rcases z with ⟨_, z⟩ | ⟨_, z⟩ <;> cases z) (by
        rintro rfl
        rw [ke _ _ ho hor] at e
        cases e
        rcases z with ⟨_, z⟩ | ⟨_, z⟩ <;> cases z) (by
        rintro rfl
        rw [ke _ _ hs hcr] at e
        cases e
        rcases z with ⟨_, z⟩ | ⟨_, z⟩ <;> cases z)
  have ndo := List.nodup_cons.mp h.no
  have nds := List.nodup_cons.mp h.ns
  have hba := h.hb a List.mem_cons_self
  refine ⟨⟨hr', hy, h.ra.l, fun b u e => all b u (h.ra.s b u e) (ne_of_none e h.ra.b) (ne_of_none e hba.1) (ne_of_none e hba.2.2), h.ra.b⟩, ⟨[], hp', rfl⟩, ?_, ?_, ?_, h.no, h.ns, h.ra.s.free hp, h.hc, ?_, ?_, trivial, ?_, ?_, h.tl⟩
  · rw [kk _ _ h.c (.inr ⟨_, rfl⟩), List.reverse_cons, List.reverse_cons, List.map_append, List.map_append]
    rfl
  · intro b hb
    rcases List.mem_cons.mp hb with rfl | hb
    · refine ⟨dx2, hd, _, ns, ho', tup _ _ hh, hs', ?_, (by show k ∉ (a.f.kv ++ [(a.f.key, jt [] t)]).map (·.1); rw [List.map_append]; exact hkn), kk _ _ har (.inr ⟨_, rfl⟩), Nodes.same sd hNa⟩
      show Dn _ (casT (a.f.kv ++ [(a.f.key, jt [] t)])) _
      rw [casT_app]
      exact Dn.snoc msg (Dn.same sd hD)
    · have fo := h.fo b (List.mem_cons_of_mem _ hb)
      obtain ⟨dx2', hd', kvs', ns', f1, f2, f3, f4, f5, f6, f7⟩ := id fo
      refine fo.keep (fun u e => all _ _ e (ins_ne h.ra.h f1) (fun z => ?_) ?_) (fun u e => all _ _ e ?_ ?_ (fun z => ?_)) (fun u e => ?_) tup sd
      · exact ndo.1 (by show a.o ∈ fr.map (·.o); rw [← z]; exact List.mem_map_of_mem hb)
      · rintro z
        rw [z, hs] at f1
        cases f1
      · rintro z
        rw [z, h.ra.h] at f3
        cases f3
      · rintro z
        rw [z, ho] at f3
        cases f3
      · exact nds.1 (by show a.cs ∈ fr.map (·.cs); rw [← z]; exact List.mem_map_of_mem hb)
      · rw [f6] at e
        cases e
        exact kk _ _ f6 (.inr ⟨_, rfl⟩)
  · exact List.nodup_cons.mpr ⟨fun z => pm (List.mem_cons_of_mem _ z), (List.nodup_cons.mp h.nd).2⟩
  · intro b hb
    rcases List.mem_cons.mp hb with rfl | hb
    · exact hba
    · exact h.hb b (List.mem_cons_of_mem _ hb)
  · have := h.pl
    rw [List.filter_cons] at this ⊢
    have e : ∀ (m : T) (k : L2.Key), (nextF a.f m k).b = a.f.b := fun _ _ => rfl
    show pl = ((if (nextF a.f (jt [] t) k).b = true then _ else _ : List FA).length : Int)
    rw [e]
    cases hb : a.f.b with
    | true =>
      rw [hb] at this
      exact this
    | false =>
      rw [hb] at this
      exact this
  · intro b hb
    rcases List.mem_cons.mp hb with rfl | hb
    · have w := h.wf a List.mem_cons_self
      refine ⟨w.1, ?_⟩
      show Wf (casT (a.f.kv ++ [(a.f.key, jt [] t)])) true
      rw [casT_app]
      exact wf_app (show Wf (.cas (kV a.f.key) (jt [] t) .nil) true from ⟨rfl, kV_w _, jt_wf _ _ h.wt, trivial⟩) w.2
    · exact h.wf b (List.mem_cons_of_mem _ hb)
  · have := h.sz
    rw [List.map_cons, List.sum_cons] at this ⊢
    have e : fz (nextF a.f (jt [] t) k) = fz a.f + (1 + (jt [] t).sz) := by
      show a.f.ar.sz + (casT (a.f.kv ++ [(a.f.key, jt [] t)])).sz + 1 = a.f.ar.sz + (casT a.f.kv).sz + 1 + _
      rw [casT_app, T.app_sz]
      show a.f.ar.sz + ((casT a.f.kv).sz + (1 + (jt [] t).sz + 0)) + 1 = _
      omega
    have ej := jt0_sz t
    show 0 + (fz (nextF a.f (jt [] t) k) + _) + _ ≤ _
    omega
theorem HI.close (h : HI C C2 r dx cl tx HB nl t (a :: fr) pl x H) {dx2 hd : Addr} {kvs : List (L2.Key × V)} {ns vs ws : List V} {x1 y : List Nat} {ml u l : Addr} {ts : List Addr} {H1 H6 : Hp} (hv : H nl = some (.lst vs)) (hN : Nodes (dv (nl :: cl :: (a :: fr).map (·.ar)) H) t vs)
    (ho : H a.o = some (.ins C2 dx2 (ocF hd a.ar a.cs (kV a.f.key)))) (hs : H a.cs = some (.dK kvs)) (hD : Dn (dv (nl :: cl :: (a :: fr).map (·.ar)) H) (casT a.f.kv) kvs) (har : H a.ar = some (.lst ns)) (hNa : Nodes (dv (nl :: cl :: (a :: fr).map (·.ar)) H) a.f.ar ns)
    (hy : Sf tx y) (hl : y.length < x.length) (hml : H ml = none) (s1 : Same (mv C r dx tx nl cl pl H x1) H1) (hw : H1 ml = some (.lst ws)) (hNm : Nodes (mix (upd (dv (nl :: cl :: (a :: fr).map (·.ar)) H) nl (.lst vs)) H1) (jt [] t) ws)
    (s6 : Same (upd (upd H1 cl (.lst ((fr.reverse).map fun a => V.ref a.o))) r (.ins C dx (rdF tx (ps tx y) a.ar cl (if a.f.b then pl - 1 else pl)))) H6) (hu : H1 u = none) (hl1 : H1 l = none) (hts : ∀ z ∈ ts, H1 z = none) (h6u : H6 u = some (.tup (hdV a.f.b (mkS a.f.nm) a.f.off ++ [.ref l, .ref ml]))) (h6l : H6 l = some (.lst (ts.map V.ref)))
    (hpr : Paired (fun (z : Addr) (q : L2.Key × V) => H6 z = some (.tup [kV q.1, q.2])) ts kvs) :
    HI C C2 r dx cl tx HB a.ar (a.f.ar.app (a.f.cho (jt [] t))) fr (if a.f.b then pl - 1 else pl) y (upd H6 a.ar (.lst (ns ++ [.ref u]))) := by
  have al := h.all
  have ke : ∀ a u, H a = some u → a ≠ r → H1 a = some u := fun a u h z => s1 a u ((upd_ne z).trans h)
  have n1 := List.nodup_cons.mp h.nd
  have n2 := List.nodup_cons.mp n1.2
  have n3 := List.nodup_cons.mp n2.2
  have arm : a.ar ∈ (a :: fr).map (·.ar) := List.mem_cons_self
  have aoc : a.ar ≠ cl := fun e => n2.1 (by rw [← e]; exact arm)
  have harr : a.ar ≠ r := fun z => by rw [z, h.ra.h] at har; cases har
  have hor : a.o ≠ r := ins_ne h.ra.h ho
  have hcr : a.cs ≠ r := fun z => by rw [z, h.ra.h] at hs; cases hs
  have har1 := ke _ _ har harr
  have hcl1 := ke _ _ h.c h.cr
  have ua : u ≠ a.ar := fun z => by rw [z, har1] at hu; cases hu
  have la : l ≠ a.ar := fun z => by rw [z, har1] at hl1; cases hl1
  generalize hH' : upd H6 a.ar (.lst (ns ++ [.ref u])) = H'
  have fin : ∀ b v, H1 b = some v → b ≠ r → b ≠ cl → b ≠ a.ar → H' b = some v := fun b v h z1 z2 z3 => by
    rw [← hH', upd_ne z3]
    exact s6 b v (by rw [upd_ne z1, upd_ne z2]; exact h)
  have all : ∀ b v, H b = some v → b ≠ r → b ≠ cl → b ≠ a.ar → H' b = some v := fun b u h z1 z2 z3 => fin b u (ke b u h z1) z1 z2 z3
  have hr' : H' r = some (.ins C dx (rdF tx (ps tx y) a.ar cl (if a.f.b then pl - 1 else pl))) := by rw [← hH', upd_ne harr.symm]; exact s6 _ _ upd_same
  have hcl' : H' cl = some (.lst ((fr.reverse).map fun a => V.ref a.o)) := by rw [← hH', upd_ne aoc.symm]; exact s6 _ _ (by rw [upd_ne h.cr, upd_same])
  have har' : H' a.ar = some (.lst (ns ++ [.ref u])) := by rw [← hH']; exact upd_same
  have hu' : H' u = some (.tup (hdV a.f.b (mkS a.f.nm) a.f.off ++ [.ref l, .ref ml])) := by rw [← hH', upd_ne ua]; exact h6u
  have hl' : H' l = some (.lst (ts.map V.ref)) := by rw [← hH', upd_ne la]; exact h6l
  have pm : ∀ {ts : List Addr} {kvs : List (L2.Key × V)}, (∀ z ∈ ts, H1 z = none) → Paired (fun (z : Addr) (q : L2.Key × V) => H6 z = some (.tup [kV q.1, q.2])) ts kvs → Paired (fun (z : Addr) (q : L2.Key × V) => H' z = some (.tup [kV q.1, q.2])) ts kvs := by
    intro ts kvs h1 h2
    induction h2 with
    | nil => exact .nil
    | cons x t ih =>
      refine .cons ?_ (ih fun z hz => h1 z (List.mem_cons_of_mem _ hz))
      rw [← hH', upd_ne (fun z => by have := h1 _ List.mem_cons_self; rw [z, har1] at this; cases this)]
      exact x
  have hpr' := pm hts hpr
  clear hH'
  have fr0 : ∀ b, H1 b = none → H b = none := fun b hb => by
    cases e : H b with
    | none => rfl
    | some v =>
      by_cases z : b = r
      · rw [z] at hb
        rw [s1 _ _ upd_same] at hb
        cases hb
      · rw [ke _ _ e z] at hb
        cases hb
  have sub : ∀ b ∈ a.ar :: cl :: fr.map (·.ar), b ∈ cl :: (a :: fr).map (·.ar) := fun b hb => by
    simp only [List.mem_cons, List.map_cons] at hb ⊢
    rcases hb with z | z | z
    · exact .inr (.inl z)
    · exact .inl z
    · exact .inr (.inr z)
  have sd : Same (dv (nl :: cl :: (a :: fr).map (·.ar)) H) (dv (a.ar :: cl :: fr.map (·.ar)) H') := dv_mono fun b v h1 h2 h3 => ⟨fun z => h1 (List.mem_cons_of_mem _ (sub b z)),
    all b v h2 (kind_of h.ra.h h2 h3) (fun e => h1 (by rw [e]; exact List.mem_cons_of_mem _ List.mem_cons_self)) (fun e => h1 (by rw [e]; exact List.mem_cons_of_mem _ (List.mem_cons_of_mem _ arm)))⟩
  have msg : At (dv (a.ar :: cl :: fr.map (·.ar)) H') ml (jt [] t) := h.msg hv (fun z => n1.1 (sub nl z)) (fun b hb => .inl (sub b hb)) hml s1 hw hNm fun b o e z hb => fin b o e (by
      rintro rfl
      rw [s1 _ _ upd_same] at e
      cases e
      rcases z with ⟨_, z⟩ | ⟨_, z⟩ <;> cases z) (fun e => hb (by rw [e]; exact List.mem_cons_self)) (fun e => hb (by rw [e]; exact List.mem_cons_of_mem _ arm))
  have al' : AllL (a.ar :: cl :: fr.map (·.ar)) H' := fun b hb => by
    rcases List.mem_cons.mp hb with rfl | hb
    · exact ⟨_, har'⟩
    rcases List.mem_cons.mp hb with rfl | hb
    · exact ⟨_, hcl'⟩
    obtain ⟨c, hc, rfl⟩ := List.mem_map.mp hb
    obtain ⟨_, _, _, ns', _, _, _, _, _, e, _⟩ := h.fo c (List.mem_cons_of_mem _ hc)
    refine ⟨ns', all _ _ e (kind_of h.ra.h e (.inr ⟨_, rfl⟩)) (fun z => n2.1 (by rw [← z]; exact List.mem_cons_of_mem _ (List.mem_map_of_mem hc))) (fun z => n3.1 (by show a.ar ∈ fr.map (·.ar); rw [← z]; exact List.mem_map_of_mem hc))⟩
  have lno : l ∉ a.ar :: cl :: fr.map (·.ar) := fun z => by obtain ⟨xs, e⟩ := al l (List.mem_cons_of_mem _ (sub l z)); rw [fr0 l hl1] at e; cases e
  have tup : ∀ q ys, H q = some (.tup ys) → H' q = some (.tup ys) := fun q ys e => all q _ e (kind_of h.ra.h e (.inl ⟨_, rfl⟩)) (by rintro rfl; rw [h.c] at e; cases e) (by rintro rfl; rw [har] at e; cases e)
  have hba := h.hb a List.mem_cons_self
  refine ⟨⟨hr', hy, h.ra.l, fun b v e => all b v (h.ra.s b v e) (ne_of_none e h.ra.b) (ne_of_none e h.hc) (ne_of_none e hba.2.1), h.ra.b⟩, ⟨_, har', ?_⟩, hcl', ?_, ?_, (List.nodup_cons.mp h.no).2, (List.nodup_cons.mp h.ns).2, hba.2.1, h.hc, fun b hb => h.hb b (List.mem_cons_of_mem _ hb), ?_, ?_, fun b hb => h.wf b (List.mem_cons_of_mem _ hb), ?_, h.tl⟩
  · obtain ⟨ws', hm1, hm2⟩ := msg
    exact Nodes.app (show Nodes (dv (a.ar :: cl :: fr.map (·.ar)) H') (a.f.cho (jt [] t)) [.ref u] from ⟨u, [], l, ts.map V.ref, ml, ws', rfl, dv_tup al' hu', dv_lst lno hl', Dn.nodes al' sd hD hpr', hm1, hm2, rfl⟩) (Nodes.same sd hNa)
  · intro b hb
    have fo := h.fo b (List.mem_cons_of_mem _ hb)
    obtain ⟨dx2', hd', kvs', ns', f1, f2, f3, f4, f5, f6, f7⟩ := id fo
    refine fo.keep (fun v e => all _ _ e (ins_ne h.ra.h f1) ?_ ?_) (fun v e => all _ _ e ?_ ?_ ?_) (fun v e => all _ _ e ?_ (fun z => n2.1 (by rw [← z]; exact List.mem_cons_of_mem _ (List.mem_map_of_mem hb))) (fun z => n3.1 (by show a.ar ∈ fr.map (·.ar); rw [← z]; exact List.mem_map_of_mem hb))) tup sd
    · rintro z
      rw [z, h.c] at f1
      cases f1
    · rintro z
      rw [z, har] at f1
      cases f1
    · rintro z
      rw [z, h.ra.h] at f3
      cases f3
    · rintro z
      rw [z, h.c] at f3
      cases f3
    · rintro z
      rw [z, har] at f3
      cases f3
    · rintro z
      rw [z, h.ra.h] at f6
      cases f6
  · refine List.nodup_cons.mpr ⟨fun z => ?_, List.nodup_cons.mpr ⟨fun z => n2.1 (List.mem_cons_of_mem _ z), n3.2⟩⟩
    rcases List.mem_cons.mp z with z | z
    · exact aoc z
    · exact n3.1 z
  · have := h.pl
    rw [List.filter_cons] at this
    cases hb : a.f.b with
    | true =>
      rw [hb, if_pos rfl, List.length_cons] at this
      show pl - 1 = _
      omega
    | false =>
      rw [hb] at this
      exact this
  · have w := h.wf a List.mem_cons_self
    exact wf_app (show Wf (a.f.cho (jt [] t)) false from ⟨rfl, hdV_w _ _ _, w.2, jt_wf _ _ h.wt, trivial⟩) w.1
  · have := h.sz
    rw [List.map_cons, List.sum_cons] at this
    have ej := jt0_sz t
    have e : (a.f.cho (jt [] t)).sz = 1 + (casT a.f.kv).sz + (jt [] t).sz + 0 := rfl
    have e2 : fz a.f = a.f.ar.sz + (casT a.f.kv).sz + 1 := rfl
    rw [T.app_sz]
    omega
end
end Mw

namespace Mw
open PySem L2
theorem rdArg_lt (x : List Nat) : (rdArg x).Lt x := by
  unfold rdArg
  refine (tkSign_lt 123 x).bind fun _ x1 _ => ((tkName_in (skip x1)).bind fun n x2 _ => ?_).mono (skip_suf x1)
  have s := skip_suf x2
  cases e : skip x2 with
  | nil => trivial
  | cons c y =>
    rw [e] at s
    dsimp only
    split
    · exact (List.suffix_cons c y).trans s
    · refine Rs.In.mono (Rs.In.bind (bgChoice_in (c :: y)) fun q z _ => ?_) s
      exact List.suffix_refl _
theorem rdEndK_lt (key : L2.Key) (b : Bool) (ks : List L2.Key) (x : List Nat) : (rdEndK key b ks x).Lt x := by
  unfold rdEndK
  refine (tkSign_lt 125 _).bind fun _ x1 _ => ?_
  split
  · exact (tkSign_in 125 x1).bind fun _ y _ => List.suffix_refl _
  · exact (bgCase_in _ _ x1).bind fun _ y _ => List.suffix_refl _
theorem rdEsc_lt (c : Nat) (y : List Nat) : (rdEsc (c :: y)).Lt (c :: y) := by
  unfold rdEsc
  split
  · rename_i d _
    show ((c :: y).drop (escC d).length).length < (c :: y).length
    rw [List.length_drop]
    have := escC_pos d
    simp only [List.length_cons]
    omega
  · trivial
theorem rdSign_lt (pl : Bool) (c : Nat) (y : List Nat) : (rdSign pl (c :: y)).Lt (c :: y) := by
  unfold rdSign
  dsimp only
  split
  · exact Nat.lt_succ_self _
  · split
    · trivial
    · exact Nat.lt_succ_self _
theorem rdSign_u {pl : Bool} {c : Nat} {y z : List Nat} {u : T} (h : rdSign pl (c :: y) = .ok u z) : u.sz ≤ 2 ∧ Wf u false ∧ ∀ (p : Addr) (Hd : Hp), Hd p = some (.tup (tupOf u)) → Nodes Hd u [.ref p] := by
  unfold rdSign at h
  dsimp only at h
  split at h
  · injection h with h1 h2
    rw [← h1]
    exact ⟨by decide, ⟨rfl, trivial⟩, fun p Hd hp => ⟨p, [], rfl, hp, rfl⟩⟩
  · split at h
    · cases h
    · injection h with h1 h2
      rw [← h1]
      exact ⟨by show 1 + 1 + 0 ≤ 2; decide, ⟨rfl, trivial⟩, fun p Hd hp => ⟨p, [], rfl, hp, rfl⟩⟩
theorem fz_pos (a : FA) : 1 ≤ fz a.f := by
  unfold fz
  omega
section
variable {C C2 CT CE r dx cl : Addr} {tx : Str} {HB : Hp} {Q : VK} {E : XK}
theorem HI.any {nl : Addr} {t : T} {fa : List FA} {pl : Int} {x : List Nat} {H : Hp} (h : HI C C2 r dx cl tx HB nl t fa pl x H) : (fa.map (·.f)).any (·.b) = decide (0 < pl) := by
  have := h.pl
  rw [List.any_map, Bool.eq_iff_iff, decide_eq_true_iff, List.any_eq_true, this]
  constructor
  · rintro ⟨a, ha, hb⟩
    have : a ∈ fa.filter (·.f.b) := List.mem_filter.mpr ⟨ha, hb⟩
    have := List.length_pos_of_mem this
    omega
  · intro hp
    have : 0 < (fa.filter (·.f.b)).length := by omega
    obtain ⟨a, ha⟩ := List.exists_mem_of_length_pos this
    obtain ⟨h1, h2⟩ := List.mem_filter.mp ha
    exact ⟨a, h1, h2⟩
theorem goes : ∀ (n : Nat) (nl : Addr) (t : T) (fa : List FA) (pl : Int) (x : List Nat) (H : Hp), HI C C2 r dx cl tx HB nl t fa pl x H → x.length < n →
    (run n t (fa.map (·.f)) x).Kn (fun t' _ => ∀ l H', Same HB H' → At H' l t' → Q (.ref l) H') (TErr CT tx HB E) (EErr CE HB E) → Goes C C2 CT CE r dx tx HB Q E n H
  | 0, _, _, _, _, _, _, _, h, _ => absurd h (Nat.not_lt_zero _)
  | n + 1, nl, t, fa, pl, [], H, h, _, q => by
    refine .inl ⟨nl, cl, pl, _, h.ra, h.c, ?_⟩
    cases fa with
    | nil =>
      obtain ⟨vs, hv, hN⟩ := h.n
      obtain ⟨w1, w2, w3⟩ := h.own hv hN
      refine .inl ⟨rfl, _, t, w1, w3, h.wt, by have := h.tsz; omega, fun l H' ws hl s' hw hNm => ?_⟩
      exact q l H' (h.ra.s.trans s') ⟨ws, hw, Nodes.same (mix_out (w1.trans s')) hNm⟩
    | cons a fr => exact .inr ⟨by simp, q⟩
  | n + 1, nl, t, fa, pl, c :: y, H, h, hlen, q => by
    have hlen : (c :: y).length < n + 1 := hlen
    have q0 : ((rdNext t (fa.map (·.f)) (c :: y)).bind fun s z => run n s.1 s.2 z).Kn (fun t' _ => ∀ l H', Same HB H' → At H' l t' → Q (.ref l) H') (TErr CT tx HB E) (EErr CE HB E) := q
    rw [Rs.kn_bind] at q0
    obtain ⟨vs, hv, hN⟩ := h.n
    have hsz := h.sz
    have htl := h.tl
    have hvl : vs.length < sizeLine := sz_line (by have := hN.len_le; omega)
    have hcl : ((fa.reverse).map fun a => V.ref a.o).length < sizeLine := sz_line (by
      rw [List.length_map, List.length_reverse]
      have := len_sum (f := fun a : FA => fz a.f) fz_pos fa
      omega)
    refine .inr ⟨c, y, nl, cl, pl, h.ra, r, dx, nl, cl, tx, pl, c, y, HB, _, rfl, h.ra, h.c, ?_⟩
    unfold rdNext at q0
    dsimp only at q0
    by_cases h1 : c = 123
    · rw [if_pos h1, Rs.kn_bind] at q0
      refine .inl ⟨h1, r, dx, nl, cl, tx, pl, c :: y, HB, vs, _, rfl, h.ra, hv, hvl, h.c, hcl, h.hc, ?_⟩
      have hin := rdArg_in (c :: y)
      have hlt := rdArg_lt (c :: y)
      cases e : rdArg (c :: y) with
      | fin => rw [e] at q0; exact q0
      | tok z => rw [e] at q0; exact q0
      | ok a z =>
      rw [e] at q0 hin hlt
      rw [Rs.kn_ok] at q0
      have hz : Sf tx z := List.IsSuffix.trans hin h.ra.f
      have hlt : z.length < (c :: y).length := hlt
      cases a with
      | shw m => exact fun H' p P => goes n nl _ fa pl z H' (h.put hv P hz hlt (u := .shw (mkS m) .nil) (by show 1 + 0 ≤ 2; decide) ⟨rfl, trivial⟩ fun Hd hp => ⟨p, [], rfl, hp, rfl⟩) (by omega) q0
      | cho m g => exact fun H' o dx2 hd cs p z1 z2 z3 z4 z5 z6 z7 z8 z9 z10 z11 => goes n p .nil _ _ z H' (h.open (n := m) hz hlt z1 z2 z3 z4 z5 z6 z7 z8 z9 z10 z11) (by omega) q0
    · rw [if_neg h1] at q0
      by_cases h2 : c = 125 ∧ fa.map (·.f) ≠ []
      · rw [if_pos h2] at q0
        cases fa with
        | nil => exact absurd rfl h2.2
        | cons a fr =>
        have q1 : (rdEnd a.f (fr.map (·.f)) t (c :: y)).Kn (fun s z => (run n s.1 s.2 z).Kn (fun t' _ => ∀ l H', Same HB H' → At H' l t' → Q (.ref l) H') (TErr CT tx HB E) (EErr CE HB E)) (TErr CT tx HB E) (EErr CE HB E) := q0
        unfold rdEnd at q1
        rw [Rs.kn_bind] at q1
        obtain ⟨dx2, hd, kvs, ns, f1, f2, f3, f4, f5, f6, f7⟩ := h.fo a List.mem_cons_self
        obtain ⟨w1, w2, w3⟩ := h.own hv hN
        have hba := h.hb a List.mem_cons_self
        have ek := dn_keys f4
        have nd2 := List.nodup_cons.mp (List.nodup_cons.mp h.nd).2
        have hns : ns.length ≤ a.f.ar.sz := f7.len_le
        have hfz := sum_mem (f := fun a : FA => fz a.f) (List.mem_cons_self (a := a) (l := fr))
        have hfz' : fz a.f = a.f.ar.sz + (casT a.f.kv).sz + 1 := rfl
        have hkl : kvs.length ≤ (casT a.f.kv).sz := by
          have e1 : kvs.length = a.f.kv.length := by
            have := congrArg List.length ek
            simpa using this
          rw [e1]
          generalize a.f.kv = kv
          induction kv with
          | nil => exact Nat.le_refl _
          | cons p kv ih =>
            show kv.length + 1 ≤ 1 + p.2.sz + (casT kv).sz
            omega
        have hc' : H cl = some (.lst (((fr.reverse).map fun a => V.ref a.o) ++ [.ref a.o])) := by
          have := h.c
          rw [List.reverse_cons, List.map_append] at this
          exact this
        have hhs : ((.str (mkS a.f.nm) :: (if a.f.b then [V.int a.f.off] else [])) : List V).length ≤ 2 := by
          cases a.f.b
          · show 1 ≤ 2
            decide
          · show 2 ≤ 2
            decide
        refine .inr (.inl ⟨h2.1, by simp, r, dx, nl, cl, a.o, dx2, hd, a.ar, a.cs, tx, pl, c :: y, HB, _, _, a.f.key, kvs, a.f.b, ns, _, t, rfl, h.ra, hc', f1, f2, hhs, f3, by omega, val_of ek f5, ins_ne h.ra.h f1, hba.1, hba.2.2, h.hc, f6, sz_line (by omega), (fun e => nd2.1 (by rw [← e]; exact List.mem_cons_self)), w1, w2, w3, h.wt, by have := h.tsz; omega, ?_⟩)
        rw [ek]
        have hin := rdEndK_in a.f.key a.f.b (a.f.kv.map (·.1)) (c :: y)
        have hlt := rdEndK_lt a.f.key a.f.b (a.f.kv.map (·.1)) (c :: y)
        cases e : rdEndK a.f.key a.f.b (a.f.kv.map (·.1)) (c :: y) with
        | fin => rw [e] at q1; exact q1
        | tok z => rw [e] at q1; exact q1
        | ok k z =>
        rw [e] at q1 hin hlt
        rw [Rs.kn_ok] at q1
        have hz : Sf tx z := List.IsSuffix.trans hin h.ra.f
        have hlt : z.length < (c :: y).length := hlt
        intro ml H1 ws x1 hx1 hml s1 hw hNm
        cases k with
        | some k =>
          intro p hp0
          exact goes n p .nil (⟨nextF a.f (jt [] t) k, a.o, a.ar, a.cs⟩ :: fr) pl z _ (h.next hv hN f1 f2 f3 f4 f5 f6 f7 hz hlt hml s1 hw hNm hp0 (endK_some e).2) (by omega) q1
        | none =>
          intro H6 u l ts s6 hu hl1 hts hnt h6u h6l hpr
          exact goes n a.ar _ fr _ z _ (h.close hv hN f1 f3 f4 f6 f7 hz hlt hml s1 hw hNm s6 hu hl1 hts h6u h6l hpr) (by omega) q1
      · rw [if_neg h2] at q0
        by_cases h3 : c = 39
        · rw [if_pos h3, Rs.kn_bind] at q0
          refine .inr (.inr (.inl ⟨h3, r, dx, nl, cl, tx, pl, c :: y, HB, vs, rfl, h.ra, hv, hvl, ?_⟩))
          have hin := rdEsc_in (c :: y)
          have hlt := rdEsc_lt c y
          cases e : rdEsc (c :: y) with
          | fin => rw [e] at q0; exact q0
          | tok z => rw [e] at q0; exact q0
          | ok d z =>
          rw [e] at q0 hin hlt
          rw [Rs.kn_ok] at q0
          have hz : Sf tx z := List.IsSuffix.trans hin h.ra.f
          have hlt : z.length < (c :: y).length := hlt
          exact fun H' p P => goes n nl _ fa pl z H' (h.put hv P hz hlt (u := .text ⟨#[d]⟩ .nil) (by show 1 + 1 + 0 ≤ 2; decide) ⟨rfl, trivial⟩ fun Hd hp => ⟨p, [], rfl, hp, rfl⟩) (by omega) q0
        · rw [if_neg h3, Rs.kn_bind, h.any] at q0
          refine .inr (.inr (.inr ⟨h1, (fun z => h2 ⟨z.1, fun e => z.2 (by rw [List.map_eq_nil_iff] at e; rw [e]; rfl)⟩), h3, r, dx, nl, cl, tx, pl, c :: y, HB, vs, rfl, h.ra, hv, hvl, ?_⟩))
          have hin := rdSign_in (decide (0 < pl)) (c :: y)
          have hlt := rdSign_lt (decide (0 < pl)) c y
          cases e : rdSign (decide (0 < pl)) (c :: y) with
          | fin => rw [e] at q0; exact q0
          | tok z => rw [e] at q0; exact q0
          | ok u z =>
          rw [e] at q0 hin hlt
          rw [Rs.kn_ok] at q0
          have hz : Sf tx z := List.IsSuffix.trans hin h.ra.f
          have hlt : z.length < (c :: y).length := hlt
          obtain ⟨u1, u2, u3⟩ := rdSign_u e
          exact fun H' p P => goes n nl _ fa pl z H' (h.put hv P hz hlt (u := u) u1 u2 fun Hd hp => u3 p Hd hp) (by omega) q0
end
/-- reading any text: what is read, told, or lacks -/
def spPt (CT CE : Addr) : Sp := fun vs H Q E => ∃ (tx : Str), vs = [.str tx] ∧ tx.length < 2400000 ∧ (pm (tl tx)).Kn (fun t _ => ∀ l H', Same H H' → At H' l t → Q (.ref l) H') (TErr CT tx H E) (EErr CE H E)
theorem pt_pm {C C2 CT CE : Addr} {vs : List V} {H : Hp} {Q : VK} {E : XK} (h : spPt CT CE vs H Q E) : spPm C C2 CT CE vs H Q E := by
  obtain ⟨tx, rfl, hl, q⟩ := h
  refine ⟨tx, rfl, by omega, fun r dx nl cl H1 s1 hr0 hn0 hc0 hr hn hc hnc => ⟨(tl tx).length + 1, ?_⟩⟩
  have el : tx.length = (tl tx).length := len_tl' tx
  refine goes (cl := cl) _ nl .nil [] 0 (tl tx) H1 ⟨⟨?_, List.suffix_refl _, by omega, s1, hr0⟩, ⟨[], hn, rfl⟩, hc, ?_, ?_, List.nodup_nil, List.nodup_nil, hn0, hc0, ?_, rfl, trivial, ?_, ?_, by omega⟩ (Nat.lt_succ_self _) q
  · rw [hr]
    have : ps tx (tl tx) = 0 := by
      show ((tx.length - (tl tx).length : Nat) : Int) = 0
      omega
    rw [this]
  · intro a ha
    cases ha
  · simp [hnc]
  · intro a ha
    cases ha
  · intro a ha
    cases ha
  · show 0 + 0 + _ ≤ _
    omega
end Mw

namespace Mw
open PySem L2
/-! ### what the law writes is read, piece by piece -/
/-- the first sign, if there is one -/
def hdn (P : Nat → Prop) (s : List Nat) : Prop := ∀ c, s.head? = some c → P c
theorem hdn_cons {P : Nat → Prop} {c : Nat} {s : List Nat} (h : P c) : hdn P (c :: s) := fun d hd => by
  injection hd with hd
  rw [← hd]
  exact h
theorem hdn_app {P : Nat → Prop} {a s : List Nat} (ha : a ≠ []) (h : ∀ c ∈ a, P c) : hdn P (a ++ s) := fun d hd => by
  cases a with
  | nil => exact absurd rfl ha
  | cons c a =>
    injection hd with hd
    rw [← hd]
    exact h c List.mem_cons_self
theorem hdn_gap {P : Nat → Prop} {g s : List Nat} (hg : Gp g) (h1 : P 32) (h2 : P 10) (hs : hdn P s) : hdn P (g ++ s) := fun c hc => by
  cases g with
  | nil => exact hs c hc
  | cons a g =>
    injection hc with hc
    subst hc
    rcases hg a List.mem_cons_self with h | h
    · rw [h]; exact h1
    · rw [h]; exact h2
theorem skip_hd : ∀ {s : List Nat}, hdn (fun c => isSp c = false) s → skip s = s
  | [], _ => rfl
  | c :: s, h => by
    show (if isSp c = true then skip s else c :: s) = _
    rw [h c rfl]
    rfl
theorem skip_gap : ∀ {g s : List Nat}, Gp g → hdn (fun c => isSp c = false) s → skip (g ++ s) = s
  | [], _, _, h => skip_hd h
  | c :: g, s, hg, h => by
    show (if isSp c = true then skip (g ++ s) else _) = _
    have : isSp c = true := decide_eq_true (hg c List.mem_cons_self)
    rw [this, if_pos rfl]
    exact skip_gap (fun d hd => hg d (List.mem_cons_of_mem _ hd)) h
theorem row_app {f : Nat → Bool} {a s : List Nat} (ha : a.all f = true) (hne : a ≠ []) (hs : hdn (fun c => f c = false) s) : tkRow f (a ++ s) = .ok a s := by
  have tw : ∀ a : List Nat, a.all f = true → (a ++ s).takeWhile f = a ∧ (a ++ s).dropWhile f = s := by
    intro a
    induction a with
    | nil =>
      intro _
      cases s with
      | nil => exact ⟨rfl, rfl⟩
      | cons c s =>
        have := hs c rfl
        exact ⟨List.takeWhile_cons_of_neg (by rw [this]; exact Bool.false_ne_true), List.dropWhile_cons_of_neg (by rw [this]; exact Bool.false_ne_true)⟩
    | cons c a ih =>
      intro h
      rw [List.all_cons, Bool.and_eq_true] at h
      obtain ⟨h1, h2⟩ := ih h.2
      refine ⟨?_, ?_⟩
      · rw [List.cons_append, List.takeWhile_cons_of_pos h.1, h1]
      · rw [List.cons_append, List.dropWhile_cons_of_pos h.1, h2]
  cases a with
  | nil => exact absurd rfl hne
  | cons c a =>
    rw [List.all_cons, Bool.and_eq_true] at ha
    obtain ⟨h1, h2⟩ := tw a ha.2
    show (if f c = true then Rs.ok (c :: (a ++ s).takeWhile f) ((a ++ s).dropWhile f) else _) = _
    rw [if_pos ha.1, h1, h2]
def Nam (n : List Nat) : Prop := n ≠ [] ∧ n.length ≤ 8 ∧ n.all isLet = true
theorem name_ok {n s : List Nat} (h : Nam n) (hs : hdn (fun c => isLet c = false) s) : tkName (n ++ s) = .ok n s := by
  unfold tkName
  rw [row_app h.2.2 h.1 hs]
  show (if 8 < n.length then _ else _) = _
  rw [if_neg (by have := h.2.1; omega)]
theorem sign_ok {c : Nat} {g s : List Nat} (hg : Gp g) (hc : isSp c = false) : tkSign c (g ++ c :: s) = .ok () s := by
  unfold tkSign
  rw [skip_gap hg (hdn_cons hc)]
  show (if c = c then _ else _) = _
  rw [if_pos rfl]
theorem let_sp {c : Nat} (h : isLet c = true) : isSp c = false := by
  unfold isLet at h
  unfold isSp
  rw [Bool.and_eq_true, decide_eq_true_iff, decide_eq_true_iff] at h
  exact decide_eq_false (by omega)
theorem nam_sp {n s : List Nat} (h : Nam n) : hdn (fun c => isSp c = false) (n ++ s) := hdn_app h.1 fun c hc => let_sp (List.all_eq_true.mp h.2.2 c hc)
theorem gap_let {g s : List Nat} (hg : Gp g) (hs : hdn (fun c => isLet c = false) s) : hdn (fun c => isLet c = false) (g ++ s) := hdn_gap hg rfl rfl hs
theorem kind_eq (b : Bool) : tl (kindS b) = if b then pluL else selL := by
  cases b <;> decide +kernel
theorem kind_ok {b : Bool} {g s : List Nat} (hg : Gp g) (hs : hdn (fun c => isLet c = false) s) : tkKind (g ++ (tl (kindS b) ++ s)) = .ok b s := by
  have hn : (tl (kindS b)).all isLet = true ∧ tl (kindS b) ≠ [] := by cases b <;> decide +kernel
  unfold tkKind
  rw [skip_gap hg (hdn_app hn.2 fun c hc => let_sp (List.all_eq_true.mp hn.1 c hc)), row_app hn.1 hn.2 hs, kind_eq]
  cases b <;> rfl
/-- keys that may stand in a choice (b: a plural) -/
def KeyG (b : Bool) (k : V) : Prop := (∃ s : Str, k = .str s ∧ Nam (tl s) ∧ (b = true → tl s = othL ∨ tl s ∈ catL)) ∨ (b = true ∧ ∃ i ∈ nums4, k = .int i)
def keyOf : V → L2.Key
  | .int i => .inl i
  | .str s => .inr s
  | _ => .inl 0
theorem keyOf_v {b : Bool} {k : V} (h : KeyG b k) : kV (keyOf k) = k := by
  rcases h with ⟨s, rfl, _⟩ | ⟨_, i, _, rfl⟩ <;> rfl
theorem fig_ok : ∀ i ∈ nums4, (tl (toString i : Str)).all isFig = true ∧ tl (toString i : Str) ≠ [] ∧ (tl (toString i : Str)).length ≤ 3 ∧ ¬ (1 < (tl (toString i : Str)).length ∧ (tl (toString i : Str)).head? = some 48) ∧ numOf (tl (toString i : Str)) = i := by decide +kernel
theorem key_ok {b : Bool} {k : V} {s : List Nat} (hk : KeyG b k) (hs : hdn (fun c => c = 32 ∨ c = 10 ∨ c = 123) s) : bgKey b (keyL k ++ s) = .ok (keyOf k) s := by
  have hl : hdn (fun c => isLet c = false) s := fun c hc => by
    rcases hs c hc with h | h | h <;> rw [h] <;> rfl
  have hf : hdn (fun c => isFig c = false) s := fun c hc => by
    rcases hs c hc with h | h | h <;> rw [h] <;> rfl
  rcases hk with ⟨x, rfl, hn, ho⟩ | ⟨rfl, i, hi, rfl⟩
  · show bgKey b (tl x ++ s) = .ok (.inr x) s
    have e := name_ok hn hl
    unfold bgKey
    cases b with
    | false =>
      rw [if_neg Bool.false_ne_true, e]
      rfl
    | true =>
      rw [if_pos rfl]
      obtain ⟨c, r, hx⟩ : ∃ c r, tl x = c :: r := by
        cases h : tl x with
        | nil => exact absurd h hn.1
        | cons c r => exact ⟨c, r, rfl⟩
      have hc : isLet c = true := List.all_eq_true.mp hn.2.2 c (by rw [hx]; exact List.mem_cons_self)
      have h61 : c ≠ 61 := by rintro rfl; cases hc
      rw [hx] at e ho ⊢
      show tkPKey (c :: (r ++ s)) = _
      unfold tkPKey
      dsimp only
      rw [if_neg h61]
      have e : tkName (c :: (r ++ s)) = .ok (c :: r) s := e
      rw [e]
      show (if c :: r = othL ∨ c :: r ∈ catL then Rs.ok (Sum.inr (mkS (c :: r))) s else _) = _
      rw [if_pos (ho rfl), ← hx]
      rfl
  · obtain ⟨f1, f2, f3, f4, f5⟩ := fig_ok i hi
    show (if true = true then tkPKey (61 :: (tl (toString i : Str) ++ s)) else _) = _
    rw [if_pos rfl]
    unfold tkPKey
    dsimp only
    rw [if_pos rfl]
    have e : tkNum 3 (tl (toString i : Str) ++ s) = .ok i s := by
      unfold tkNum
      rw [row_app f1 f2 hf]
      show (if 3 < (tl (toString i : Str)).length ∨ (1 < (tl (toString i : Str)).length ∧ (tl (toString i : Str)).head? = some 48) then _ else Rs.ok (numOf (tl (toString i : Str))) s) = _
      rw [if_neg (fun z => z.elim (fun z => by omega) f4), f5]
    rw [e]
    rfl
theorem key_sp {b : Bool} {k : V} (hk : KeyG b k) (s : List Nat) : hdn (fun c => isSp c = false) (keyL k ++ s) := by
  rcases hk with ⟨x, rfl, hn, _⟩ | ⟨_, i, _, rfl⟩
  · exact nam_sp hn
  · exact hdn_cons rfl
theorem gap_key {g s : List Nat} (hg : Gp g) : hdn (fun c => c = 32 ∨ c = 10 ∨ c = 123) (g ++ 123 :: s) := hdn_gap hg (.inl rfl) (.inr (.inl rfl)) (hdn_cons (.inr (.inr rfl)))
theorem case_ok {b : Bool} {k : V} {ks : List L2.Key} {g5 g6 s : List Nat} (hk : KeyG b k) (hn : keyOf k ∉ ks) (h5 : Gp g5) (h6 : Gp g6) : bgCase b ks (g5 ++ (keyL k ++ (g6 ++ 123 :: s))) = .ok (keyOf k) s := by
  unfold bgCase
  rw [skip_gap h5 (key_sp hk _), key_ok hk (gap_key h6)]
  show (if kin (keyOf k) ks = true then _ else (tkSign 123 (g6 ++ 123 :: s)).bind _) = _
  rw [if_neg (fun z => hn (kin_iff.mp z)), sign_ok h6 rfl]
  rfl
/-- no key begins like the mark of an offset -/
theorem key_off {k : V} (hk : KeyG true k) (s : List Nat) : ofsL.isPrefixOf (keyL k ++ s) = false := by
  have a : ∀ k ∈ ([othL] ++ catL ++ nums4.map fun i => keyL (.int i)), 2 ≤ k.length ∧ ¬(k[0]? = some 111 ∧ k[1]? = some 102) := by decide +kernel
  have hm : keyL k ∈ ([othL] ++ catL ++ nums4.map fun i => keyL (.int i)) := by
    rcases hk with ⟨x, rfl, _, ho⟩ | ⟨_, i, hi, rfl⟩
    · show tl x ∈ _
      rcases ho rfl with z | z
      · rw [z]; exact List.mem_append_left _ (List.mem_append_left _ List.mem_cons_self)
      · exact List.mem_append_left _ (List.mem_append_right _ z)
    · exact List.mem_append_right _ (List.mem_map_of_mem (f := fun i => keyL (.int i)) hi)
  obtain ⟨h2, h3⟩ := a _ hm
  rw [Bool.eq_false_iff]
  intro z
  obtain ⟨w, hw⟩ := List.isPrefixOf_iff_prefix.mp z
  have e0 : (ofsL ++ w)[0]? = some 111 := rfl
  have e1 : (ofsL ++ w)[1]? = some 102 := rfl
  rw [hw, List.getElem?_append_left (by omega)] at e0 e1
  exact h3 ⟨e0, e1⟩
theorem off_ok : ∀ off ∈ ([1, 2] : List Int), (tl (toString off : Str)).all isFig = true ∧ tl (toString off : Str) ≠ [] ∧ (tl (toString off : Str)).length ≤ 1 ∧ numOf (tl (toString off : Str)) = off := by decide +kernel
theorem ofs_ok {off : Int} {e g5 s : List Nat} {k : V} (ho : off = 0 ∨ off = 1 ∨ off = 2) (hk : KeyG true k) (h5 : Gp1 g5) (he : (off = 0 ∧ e = []) ∨ (off ≠ 0 ∧ ∃ g, Gq1 g ∧ e = g ++ offW off)) : ∃ g, Gp g ∧ tkOff (e ++ (g5 ++ (keyL k ++ s))) = .ok off (g ++ (keyL k ++ s)) := by
  rcases he with ⟨rfl, rfl⟩ | ⟨hne, g, hg, rfl⟩
  · refine ⟨[], (fun _ h => by cases h), ?_⟩
    unfold tkOff
    rw [List.nil_append, List.nil_append, skip_gap h5.2 (key_sp hk _), key_off hk]
    rfl
  · have hm : off ∈ ([1, 2] : List Int) := by
      rcases ho with z | z | z
      · exact absurd z hne
      · rw [z]; decide
      · rw [z]; decide
    obtain ⟨o1, o2, o3, o4⟩ := off_ok off hm
    refine ⟨g5, h5.2, ?_⟩
    have e7 : tl ("offset:" : Str) = ofsL := by decide +kernel
    have e1 : g ++ offW off ++ (g5 ++ (keyL k ++ s)) = g ++ (ofsL ++ (tl (toString off : Str) ++ (g5 ++ (keyL k ++ s)))) := by
      unfold offW
      rw [e7]
      simp
    have hs : skip (g ++ (ofsL ++ (tl (toString off : Str) ++ (g5 ++ (keyL k ++ s))))) = ofsL ++ (tl (toString off : Str) ++ (g5 ++ (keyL k ++ s))) := skip_gap hg.1.2 (hdn_cons (show isSp 111 = false from rfl))
    unfold tkOff
    rw [e1, hs, if_pos (List.isPrefixOf_iff_prefix.mpr ⟨_, rfl⟩)]
    show tkNum 1 (tl (toString off : Str) ++ (g5 ++ (keyL k ++ s))) = _
    unfold tkNum
    have hf : hdn (fun c => isFig c = false) (g5 ++ (keyL k ++ s)) := hdn_app h5.1 fun c hc => by rcases h5.2 c hc with h | h <;> rw [h] <;> rfl
    rw [row_app o1 o2 hf]
    show (if 1 < (tl (toString off : Str)).length ∨ _ then _ else Rs.ok (numOf (tl (toString off : Str))) _) = _
    rw [if_neg (fun z => z.elim (fun z => by omega) fun z => by omega), o4]
def HdG (b : Bool) (nm : Str) (off : Int) : Prop := Nam (tl nm) ∧ (if b then off = 0 ∨ off = 1 ∨ off = 2 else off = 0)
theorem head_ok {b : Bool} {nm : Str} {off : Int} {k : V} {h g5 g6 s : List Nat} (hG : HdG b nm off) (hk : KeyG b k) (hh : Hl (hdV b nm off) h) (h5 : Gp1 g5) (h6 : Gp g6) : rdArg (h ++ (g5 ++ (keyL k ++ (g6 ++ 123 :: s)))) = .ok (.cho (tl nm) (b, off, keyOf k)) s := by
  obtain ⟨hnm, hoff⟩ := hG
  have parts : ∃ g1 g2 g3 g4 e, Gp g1 ∧ Gp g2 ∧ Gp g3 ∧ Gp g4 ∧ h = [123] ++ g1 ++ tl nm ++ g2 ++ [44] ++ g3 ++ tl (kindS b) ++ g4 ++ [44] ++ e ∧ (b = false → e = []) ∧ (b = true → (off = 0 ∧ e = []) ∨ (off ≠ 0 ∧ ∃ g, Gq1 g ∧ e = g ++ offW off)) := by
    cases b with
    | false =>
      obtain ⟨g1, g2, g3, g4, a1, a2, a3, a4, a5⟩ := hh
      exact ⟨g1, g2, g3, g4, [], a1.1, a2.1, a3.1.2, a4.1, by rw [a5, List.append_nil], fun _ => rfl, fun z => by cases z⟩
    | true =>
      obtain ⟨g1, g2, g3, g4, e, a1, a2, a3, a4, a5, a6⟩ := hh
      exact ⟨g1, g2, g3, g4, e, a1.1, a2.1, a3.1.2, a4.1, a5, (fun z => by cases z), fun _ => a6⟩
  obtain ⟨g1, g2, g3, g4, e, a1, a2, a3, a4, rfl, a6, a7⟩ := parts
  have ex : [123] ++ g1 ++ tl nm ++ g2 ++ [44] ++ g3 ++ tl (kindS b) ++ g4 ++ [44] ++ e ++ (g5 ++ (keyL k ++ (g6 ++ 123 :: s))) = [] ++ 123 :: (g1 ++ (tl nm ++ (g2 ++ 44 :: (g3 ++ (tl (kindS b) ++ (g4 ++ 44 :: (e ++ (g5 ++ (keyL k ++ (g6 ++ 123 :: s)))))))))) := by simp
  rw [ex]
  unfold rdArg
  rw [sign_ok (fun _ h => by cases h) rfl]
  show ((tkName (skip (g1 ++ _))).bind _) = _
  rw [skip_gap a1 (nam_sp hnm), name_ok hnm (gap_let a2 (hdn_cons rfl))]
  show (match skip (g2 ++ 44 :: (g3 ++ (tl (kindS b) ++ (g4 ++ 44 :: (e ++ (g5 ++ (keyL k ++ (g6 ++ 123 :: s)))))))) with
    | [] => Rs.fin
    | c :: y => if c = 125 then Rs.ok (Arg.shw (tl nm)) y else (bgChoice (c :: y)).bind fun q z => Rs.ok (Arg.cho (tl nm) q) z) = _
  rw [skip_gap a2 (hdn_cons rfl)]
  show (if 44 = 125 then _ else (bgChoice (44 :: _)).bind _) = _
  rw [if_neg (by decide)]
  have eb : bgChoice (44 :: (g3 ++ (tl (kindS b) ++ (g4 ++ 44 :: (e ++ (g5 ++ (keyL k ++ (g6 ++ 123 :: s)))))))) = .ok (b, off, keyOf k) s := by
    unfold bgChoice
    have z := sign_ok (c := 44) (g := []) (s := g3 ++ (tl (kindS b) ++ (g4 ++ 44 :: (e ++ (g5 ++ (keyL k ++ (g6 ++ 123 :: s))))))) (fun _ h => by cases h) rfl
    rw [List.nil_append] at z
    rw [z]
    show ((tkKind (g3 ++ (tl (kindS b) ++ (g4 ++ 44 :: (e ++ (g5 ++ (keyL k ++ (g6 ++ 123 :: s)))))))).bind _) = _
    rw [kind_ok a3 (gap_let a4 (hdn_cons rfl))]
    show ((tkSign 44 (g4 ++ 44 :: (e ++ (g5 ++ (keyL k ++ (g6 ++ 123 :: s)))))).bind _) = _
    rw [sign_ok a4 rfl]
    show ((if b = true then tkOff (e ++ (g5 ++ (keyL k ++ (g6 ++ 123 :: s)))) else .ok 0 (e ++ (g5 ++ (keyL k ++ (g6 ++ 123 :: s))))).bind _) = _
    have last : ∀ g, Gp g → (((Rs.ok off (g ++ (keyL k ++ (g6 ++ 123 :: s)))) : Rs Int).bind fun n x4 => (bgCase b [] x4).bind fun k x5 => (Rs.ok (b, n, k) x5 : Rs (Bool × Int × L2.Key))) = .ok (b, off, keyOf k) s := fun g hg => by
      show ((bgCase b [] (g ++ (keyL k ++ (g6 ++ 123 :: s)))).bind _) = _
      rw [case_ok hk List.not_mem_nil hg h6]
      rfl
    cases b with
    | false =>
      rw [if_neg Bool.false_ne_true, a6 rfl, List.nil_append]
      have ho : off = 0 := hoff
      have := last g5 h5.2
      rw [ho] at this ⊢
      exact this
    | true =>
      rw [if_pos rfl]
      obtain ⟨g, hg, e⟩ := ofs_ok (s := g6 ++ 123 :: s) hoff hk h5 (a7 rfl)
      rw [e]
      exact last g hg
  rw [eb]
  rfl
theorem show_ok {nm g1 g2 s : List Nat} (hn : Nam nm) (h1 : Gp g1) (h2 : Gp g2) : rdArg ([123] ++ g1 ++ nm ++ g2 ++ [125] ++ s) = .ok (.shw nm) s := by
  have ex : [123] ++ g1 ++ nm ++ g2 ++ [125] ++ s = [] ++ 123 :: (g1 ++ (nm ++ (g2 ++ 125 :: s))) := by simp
  rw [ex]
  unfold rdArg
  rw [sign_ok (fun _ h => by cases h) rfl]
  show ((tkName (skip (g1 ++ _))).bind _) = _
  rw [skip_gap h1 (nam_sp hn), name_ok hn (gap_let h2 (hdn_cons rfl))]
  show (match skip (g2 ++ 125 :: s) with
    | [] => Rs.fin
    | c :: y => if c = 125 then Rs.ok (Arg.shw nm) y else (bgChoice (c :: y)).bind fun q z => Rs.ok (Arg.cho nm q) z) = _
  rw [skip_gap h2 (hdn_cons rfl)]
  show (if 125 = 125 then _ else _) = _
  rw [if_pos rfl]
/-! #### one step -/
theorem next_show {t : T} {fs : List Fm} {nm : Str} {g1 g2 s : List Nat} (hn : Nam (tl nm)) (h1 : Gp g1) (h2 : Gp g2) : rdNext t fs ([123] ++ g1 ++ tl nm ++ g2 ++ [125] ++ s) = .ok (t.app (.shw nm .nil), fs) s := by
  have e := show_ok (s := s) hn h1 h2
  have ex : [123] ++ g1 ++ tl nm ++ g2 ++ [125] ++ s = 123 :: (g1 ++ tl nm ++ g2 ++ [125] ++ s) := by simp
  rw [ex] at e ⊢
  unfold rdNext
  dsimp only
  rw [if_pos rfl, e]
  rfl
theorem next_head {t : T} {fs : List Fm} {b : Bool} {nm : Str} {off : Int} {k : V} {h g5 g6 s : List Nat} (hG : HdG b nm off) (hk : KeyG b k) (hh : Hl (hdV b nm off) h) (h5 : Gp1 g5) (h6 : Gp g6) : rdNext t fs (h ++ (g5 ++ (keyL k ++ (g6 ++ 123 :: s)))) = .ok (.nil, ⟨b, tl nm, off, [], keyOf k, t⟩ :: fs) s := by
  have e := head_ok (s := s) hG hk hh h5 h6
  obtain ⟨r, hr⟩ : ∃ r, h = 123 :: r := by
    cases b with
    | false =>
      obtain ⟨g1, g2, g3, g4, a1, a2, a3, a4, a5⟩ := hh
      exact ⟨g1 ++ tl nm ++ g2 ++ [44] ++ g3 ++ tl (kindS false) ++ g4 ++ [44], by rw [a5]; simp [kindS]⟩
    | true =>
      obtain ⟨g1, g2, g3, g4, e, a1, a2, a3, a4, a5, a6⟩ := hh
      exact ⟨g1 ++ tl nm ++ g2 ++ [44] ++ g3 ++ tl (kindS true) ++ g4 ++ [44] ++ e, by rw [a5]; simp [kindS]⟩
  rw [hr, List.cons_append] at e ⊢
  unfold rdNext
  dsimp only
  rw [if_pos rfl, e]
  rfl
theorem next_num {t : T} {fs : List Fm} {s : List Nat} (h : fs.any (·.b) = true) : rdNext t fs (35 :: s) = .ok (t.app (.num .nil), fs) s := by
  unfold rdNext
  dsimp only
  rw [if_neg (by decide), if_neg (fun z => by have := z.1; exact absurd this (by decide)), if_neg (by decide)]
  unfold rdSign
  dsimp only
  rw [if_pos ⟨rfl, h⟩]
  rfl
theorem next_case {t : T} {f : Fm} {fs : List Fm} {k : V} {g5 g6 s : List Nat} (hk : KeyG f.b k) (ho : f.key ≠ othK) (hn : keyOf k ∉ f.kv.map (·.1) ++ [f.key]) (h5 : Gp g5) (h6 : Gp g6) :
    rdNext t (f :: fs) (125 :: (g5 ++ (keyL k ++ (g6 ++ 123 :: s)))) = .ok (.nil, nextF f (jt [] t) (keyOf k) :: fs) s := by
  unfold rdNext
  dsimp only
  rw [if_neg (by decide), if_pos ⟨rfl, List.cons_ne_nil _ _⟩]
  unfold rdEnd rdEndK
  have z := sign_ok (c := 125) (g := []) (s := g5 ++ (keyL k ++ (g6 ++ 123 :: s))) (fun _ h => by cases h) rfl
  rw [List.nil_append] at z
  rw [z]
  show Rs.bind (if f.key = othK then _ else (bgCase f.b (f.kv.map (·.1) ++ [f.key]) (g5 ++ (keyL k ++ (g6 ++ 123 :: s)))).bind fun k y => Rs.ok (some k) y) _ = _
  rw [if_neg ho, case_ok hk hn h5 h6]
  rfl
theorem next_close {t : T} {f : Fm} {fs : List Fm} {g7 s : List Nat} (ho : f.key = othK) (h7 : Gp g7) : rdNext t (f :: fs) (125 :: (g7 ++ 125 :: s)) = .ok (f.ar.app (f.cho (jt [] t)), fs) s := by
  unfold rdNext
  dsimp only
  rw [if_neg (by decide), if_pos ⟨rfl, List.cons_ne_nil _ _⟩]
  unfold rdEnd rdEndK
  have z := sign_ok (c := 125) (g := []) (s := g7 ++ 125 :: s) (fun _ h => by cases h) rfl
  rw [List.nil_append] at z
  rw [z]
  show Rs.bind (if f.key = othK then (tkSign 125 (g7 ++ 125 :: s)).bind fun _ y => Rs.ok none y else _) _ = _
  rw [if_pos ho, sign_ok h7 rfl]
  rfl
theorem esc_cases (c : Nat) : (c ∈ escN ∧ ∃ s, escC c = 39 :: c :: s) ∨ (c ≠ 39 ∧ c ≠ 123 ∧ c ≠ 125 ∧ c ≠ 35 ∧ escC c = [c]) := by
  unfold escC escN
  by_cases h1 : c = 39
  · subst h1
    exact .inl ⟨by decide, [], rfl⟩
  by_cases h2 : c = 123
  · subst h2
    exact .inl ⟨by decide, [39], rfl⟩
  by_cases h3 : c = 125
  · subst h3
    exact .inl ⟨by decide, [39], rfl⟩
  by_cases h4 : c = 35
  · subst h4
    exact .inl ⟨by decide, [39], rfl⟩
  rw [if_neg h1, if_neg h2, if_neg h3, if_neg h4]
  exact .inr ⟨h1, h2, h3, h4, rfl⟩
theorem next_sign {t : T} {fs : List Fm} {c : Nat} {s : List Nat} (hc : okB c = true) : rdNext t fs (escC c ++ s) = .ok (t.app (.text ⟨#[c]⟩ .nil), fs) s := by
  rcases esc_cases c with ⟨hm, s', e⟩ | ⟨n1, n2, n3, n4, e⟩
  · have key : rdEsc (escC c ++ s) = .ok c s := by
      unfold rdEsc
      have hf : escN.find? (fun d => (escC d).isPrefixOf (escC c ++ s)) = some c := by
        have hm' : c = 39 ∨ c = 123 ∨ c = 125 ∨ c = 35 := by
          unfold escN at hm
          simpa using hm
        rcases hm' with rfl | rfl | rfl | rfl <;> rfl
      rw [hf]
      show Rs.ok c ((escC c ++ s).drop (escC c).length) = _
      rw [List.drop_left]
    rw [e, List.cons_append] at key ⊢
    unfold rdNext
    dsimp only
    rw [if_neg (by decide), if_neg (fun z => by have := z.1; exact absurd this (by decide)), if_pos rfl, key]
    rfl
  · rw [e]
    show rdNext t fs (c :: s) = _
    unfold rdNext
    dsimp only
    rw [if_neg n2, if_neg (fun z => n3 z.1), if_neg n1]
    unfold rdSign
    dsimp only
    rw [if_neg (fun z => n4 z.1), if_neg (fun z => z.elim n3 fun z => z.elim n4 fun z => by rw [hc] at z; cases z)]
    rfl
end Mw

namespace Mw
open PySem L2
/-! ### a message's notation is read -/
def fuel (t : T) (fs : List Fm) (x : List Nat) : Rs T := run (x.length + 1) t fs x
theorem fuel_step {t t' : T} {fs fs' : List Fm} {x y : List Nat} (h : rdNext t fs x = .ok (t', fs') y) : fuel t fs x = fuel t' fs' y := by
  have lt := rdNext_lt t fs x
  rw [h] at lt
  have lt : y.length < x.length := lt
  cases x with
  | nil => exact absurd lt (Nat.not_lt_zero _)
  | cons c x =>
    show run ((c :: x).length + 1) t fs (c :: x) = _
    unfold run
    dsimp only
    rw [h]
    show run (c :: x).length t' fs' y = run (y.length + 1) t' fs' y
    exact run_fuel _ _ _ _ _ lt (Nat.lt_succ_self _)
def sgn : List Nat → T → T
  | [], r => r
  | c :: cs, r => .text ⟨#[c]⟩ (sgn cs r)
/-- a message as it is read, ahead of the joining -/
def T.spl : T → T
  | .nil => .nil
  | .text s r => sgn (tl s) r.spl
  | .shw n r => .shw n r.spl
  | .num r => .num r.spl
  | .cho hd cs o r => .cho hd cs o r.spl
  | .cas k m r => .cas k m r.spl
theorem catS_snoc (ys : List Str) (s : Str) : catS (ys ++ [s]) = catS ys ++ s := by
  refine TL.ext_tl ?_
  rw [TL.tl_append]
  show ((ys ++ [s]).map tl).flatten = (ys.map tl).flatten ++ tl s
  simp
theorem jt_sgn (r : T) : ∀ (cs : List Nat) (ys : List Str), jt ys (sgn cs r) = jt (ys ++ cs.map fun c => ⟨#[c]⟩) r
  | [], ys => by simp [sgn]
  | c :: cs, ys => by
    show jt (ys ++ [⟨#[c]⟩]) (sgn cs r) = _
    rw [jt_sgn r cs]
    simp
theorem catS_sgn (ys : List Str) (cs : List Nat) : tl (catS (ys ++ cs.map fun c => ⟨#[c]⟩)) = tl (catS ys) ++ cs := by
  show ((ys ++ cs.map fun c => (⟨#[c]⟩ : Str)).map tl).flatten = (ys.map tl).flatten ++ cs
  rw [List.map_append, List.flatten_append, List.map_map]
  congr 1
  induction cs with
  | nil => rfl
  | cons c cs ih =>
    show [c] ++ _ = _
    rw [ih]
    rfl
/-- plain: no empty text, no two beside one another -/
def Pl : T → Prop
  | .nil => True
  | .text s r => tl s ≠ [] ∧ r.notText = true ∧ Pl r
  | .shw _ r => Pl r
  | .num r => Pl r
  | .cho _ _ _ r => Pl r
  | .cas _ _ r => Pl r
theorem txt_nt {u : T} (e : txt (catS []) u = u) : True := trivial
theorem txt_e (u : T) : txt (catS []) u = u := by
  unfold txt
  rw [if_pos (show catS [] = ("" : Str) from rfl)]
theorem jt_spl2 : ∀ t : T, Pl t → (∀ ys, t.notText = true → jt ys t.spl = txt (catS ys) t) ∧ jt [] t.spl = t
  | .nil, _ => ⟨fun ys _ => rfl, txt_e _⟩
  | .text s r, h => by
    refine ⟨fun ys e => (by exact Bool.noConfusion e), ?_⟩
    show jt [] (sgn (tl s) r.spl) = _
    rw [jt_sgn, (jt_spl2 r h.2.2).1 _ h.2.1]
    have e : catS ([] ++ (tl s).map fun c => (⟨#[c]⟩ : Str)) = s := TL.ext_tl (catS_sgn [] (tl s))
    rw [e]
    unfold txt
    rw [if_neg fun z => h.1 (by rw [z]; rfl)]
  | .shw n r, h => by
    have i := (jt_spl2 r h).2
    refine ⟨fun ys _ => ?_, ?_⟩
    · show txt (catS ys) (.shw n (jt [] r.spl)) = _
      rw [i]
    · show txt (catS []) (.shw n (jt [] r.spl)) = _
      rw [i, txt_e]
  | .num r, h => by
    have i := (jt_spl2 r h).2
    refine ⟨fun ys _ => ?_, ?_⟩
    · show txt (catS ys) (.num (jt [] r.spl)) = _
      rw [i]
    · show txt (catS []) (.num (jt [] r.spl)) = _
      rw [i, txt_e]
  | .cho hd cs o r, h => by
    have i := (jt_spl2 r h).2
    refine ⟨fun ys _ => ?_, ?_⟩
    · show txt (catS ys) (.cho hd cs o (jt [] r.spl)) = _
      rw [i]
    · show txt (catS []) (.cho hd cs o (jt [] r.spl)) = _
      rw [i, txt_e]
  | .cas k m r, h => by
    have i := (jt_spl2 r h).2
    refine ⟨fun ys _ => ?_, ?_⟩
    · show txt (catS ys) (.cas k m (jt [] r.spl)) = _
      rw [i]
    · show txt (catS []) (.cas k m (jt [] r.spl)) = _
      rw [i, txt_e]
theorem jt_spl (t : T) (h : Pl t) : jt [] t.spl = t := (jt_spl2 t h).2
/-- messages that can be read -/
def Rg : T → Bool → Prop
  | .nil, _ => True
  | .text s r, i => (∀ c ∈ tl s, okB c = true) ∧ Rg r i
  | .shw n r, i => Nam (tl n) ∧ Rg r i
  | .num r, i => i = true ∧ Rg r i
  | .cho hd cs o r, i => (∃ b nm off, hd = hdV b nm off ∧ HdG b nm off ∧ cs.keys.Nodup ∧ (∀ k ∈ cs.keys, KeyG b k ∧ k ≠ .str "other") ∧ Rg cs (i || b) ∧ Rg o (i || b)) ∧ Pl o ∧ Rg r i
  | .cas _ m r, i => Pl m ∧ Rg m i ∧ Rg r i
def fk : T → V
  | .cas k _ _ => k
  | _ => .str "other"
/-- from behind the first key's brace on -/
def Lb : T → T → List Nat → Prop
  | .cas _ m r, o, x => ∃ ml g5 g6 x', Ln m ml ∧ Gq1 g5 ∧ Gq1 g6 ∧ Lb r o x' ∧ x = ml ++ 125 :: (g5 ++ (keyL (fk r) ++ (g6 ++ 123 :: x')))
  | _, o, x => ∃ ol g7, Ln o ol ∧ Gq g7 ∧ x = ol ++ 125 :: (g7 ++ [125])
theorem lb_of {o : T} {ol g5 g6 g7 : List Nat} (ho : Ln o ol) (h5 : Gq1 g5) (h6 : Gq1 g6) (h7 : Gq g7) : ∀ {cs : T} {cl : List Nat}, Wf cs true → Ln cs cl → ∃ ga gb x, Gq1 ga ∧ Gq1 gb ∧ Lb cs o x ∧ cl ++ (g5 ++ (tl "other" ++ (g6 ++ 123 :: (ol ++ 125 :: (g7 ++ [125]))))) = ga ++ (keyL (fk cs) ++ (gb ++ 123 :: x))
  | .nil, _, _, h => by
    subst h
    exact ⟨g5, g6, _, h5, h6, ⟨ol, g7, ho, h7, rfl⟩, rfl⟩
  | .text _ _, _, w, _ => by cases w.1
  | .shw _ _, _, w, _ => by cases w.1
  | .num _, _, w, _ => by cases w.1
  | .cho _ _ _ _, _, w, _ => by cases w.1
  | .cas k m r, _, w, h => by
    obtain ⟨a5, a6, ml, l', z5, z6, hm, rfl, hr⟩ := h
    obtain ⟨ga, gb, x, y1, y2, y3, y4⟩ := lb_of ho h5 h6 h7 w.2.2.2 hr
    refine ⟨a5, a6, _, z5, z6, ⟨ml, ga, gb, x, hm, y1, y2, y3, rfl⟩, ?_⟩
    rw [← y4]
    simp [fk]
theorem key_other (b : Bool) : KeyG b (.str "other") := .inl ⟨"other", rfl, by unfold Nam; exact ⟨by decide +kernel, by decide +kernel, by decide +kernel⟩, fun _ => .inl (by decide +kernel)⟩
theorem sgn_app (u : T) : ∀ cs : List Nat, (sgn cs .nil).app u = sgn cs u
  | [] => rfl
  | c :: cs => congrArg (T.text _) (sgn_app u cs)
theorem rd_signs {t : T} {fs : List Fm} : ∀ (cs : List Nat) (t : T) {s : List Nat}, (∀ c ∈ cs, okB c = true) → fuel t fs (escL cs ++ s) = fuel (t.app (sgn cs .nil)) fs s
  | [], t, s, _ => by
    show fuel t fs s = fuel (t.app .nil) fs s
    rw [app_nil]
  | c :: cs, t, s, h => by
    have e : escL (c :: cs) ++ s = escC c ++ (escL cs ++ s) := by simp [escL]
    rw [e, fuel_step (next_sign (h c List.mem_cons_self)), rd_signs (t := t) cs _ fun d hd => h d (List.mem_cons_of_mem _ hd), app_assoc]
    rfl
def anyB (fs : List Fm) : Bool := fs.any (·.b)
def RdM (t : T) : Prop := ∀ (fs : List Fm) (t0 : T) (l s : List Nat), Rg t (anyB fs) → Wf t false → Ln t l → fuel t0 fs (l ++ s) = fuel (t0.app t.spl) fs s
/-- kv: the cases that are read; the key that is open is that of cs -/
def RdC (cs : T) : Prop := ∀ (o : T) (f : Fm) (fs : List Fm) (x s : List Nat), RdM o → Rg cs (anyB (f :: fs)) → Wf cs true → Rg o (anyB (f :: fs)) → Wf o false → Pl o → ((f.kv.map fun q => kV q.1) ++ cs.keys).Nodup → (∀ k ∈ (f.kv.map fun q => kV q.1) ++ cs.keys, KeyG f.b k ∧ k ≠ .str "other") → f.key = keyOf (fk cs) → Lb cs o x →
  fuel .nil (f :: fs) (x ++ s) = fuel (f.ar.app (.cho (hdV f.b (mkS f.nm) f.off) ((casT f.kv).app cs) o .nil)) fs s
theorem rdC_nil : RdC .nil := by
  intro o f fs x s Mo _ _ Ro Wo Po nd ks hk hLb
  obtain ⟨ol, g7, hol, hg7, rfl⟩ := hLb
  have ex : ol ++ 125 :: (g7 ++ [125]) ++ s = ol ++ (125 :: (g7 ++ 125 :: s)) := by simp
  rw [ex, Mo (f :: fs) .nil ol _ Ro Wo hol, fuel_step (next_close hk hg7.1)]
  show fuel (f.ar.app (.cho _ _ (jt [] o.spl) .nil)) fs s = _
  rw [jt_spl o Po, app_nil]
theorem rdC_cas {k : V} {m r : T} (Mm : RdM m) (Cr : RdC r) : RdC (.cas k m r) := by
  intro o f fs x s Mo Rc Wc Ro Wo Po nd ks hk hLb
  obtain ⟨ml, g5, g6, x', hml, hg5, hg6, hLr, rfl⟩ := hLb
  obtain ⟨Pm, Rm, Rr⟩ := Rc
  have kk : KeyG f.b k ∧ k ≠ .str "other" := ks k (List.mem_append_right _ (by show k ∈ k :: r.keys; exact List.mem_cons_self))
  have nd' : ((f.kv.map fun q => kV q.1) ++ k :: r.keys).Nodup := nd
  have kf : KeyG f.b (fk r) ∧ k ≠ fk r ∧ fk r ∉ f.kv.map fun q => kV q.1 := by
    have other : KeyG f.b (.str "other") ∧ k ≠ .str "other" ∧ V.str "other" ∉ f.kv.map fun q => kV q.1 := ⟨key_other f.b, kk.2, fun z => (ks _ (List.mem_append_left _ z)).2 rfl⟩
    cases r with
    | cas k2 m2 r2 =>
      have hk2 : k2 ∈ k :: (T.cas k2 m2 r2).keys := List.mem_cons_of_mem _ (by show k2 ∈ k2 :: r2.keys; exact List.mem_cons_self)
      refine ⟨(ks k2 (List.mem_append_right _ hk2)).1, ?_, fun z => ?_⟩
      · have := (List.nodup_append.mp nd').2.1
        rintro rfl
        exact (List.nodup_cons.mp this).1 (by show k ∈ k :: r2.keys; exact List.mem_cons_self)
      · exact (List.nodup_append.mp nd').2.2 k2 z k2 hk2 rfl
    | nil => exact other
    | text _ _ => exact other
    | shw _ _ => exact other
    | num _ => exact other
    | cho _ _ _ _ => exact other
  have hk : f.key = keyOf k := hk
  have kvk : kV f.key = k := by rw [hk, keyOf_v kk.1]
  have hno : f.key ≠ othK := fun z => kk.2 (by rw [← kvk, z]; rfl)
  have hnew : keyOf (fk r) ∉ f.kv.map (·.1) ++ [f.key] := fun z => by
    rcases List.mem_append.mp z with z | z
    · obtain ⟨q, hq, e⟩ := List.mem_map.mp z
      exact kf.2.2 (by rw [← keyOf_v kf.1, ← e]; exact List.mem_map_of_mem (f := fun q => kV q.1) hq)
    · have z : keyOf (fk r) = f.key := by simpa using z
      exact kf.2.1 (by rw [← kvk, ← z, keyOf_v kf.1])
  have ex : ml ++ 125 :: (g5 ++ (keyL (fk r) ++ (g6 ++ 123 :: x'))) ++ s = ml ++ (125 :: (g5 ++ (keyL (fk r) ++ (g6 ++ 123 :: (x' ++ s))))) := by simp
  rw [ex, Mm (f :: fs) .nil ml _ Rm Wc.2.2.1 hml, fuel_step (next_case kf.1 hno hnew hg5.1.2 hg6.1.2)]
  have ej : jt [] (T.nil.app m.spl) = m := jt_spl m Pm
  rw [ej]
  have ek : (f.kv ++ [(f.key, m)]).map (fun q => kV q.1) = (f.kv.map fun q => kV q.1) ++ [k] := by
    rw [List.map_append]
    show _ ++ [kV f.key] = _
    rw [kvk]
  have := Cr o (nextF f m (keyOf (fk r))) fs x' s Mo Rr Wc.2.2.2 Ro Wo Po (by
      show (((f.kv ++ [(f.key, m)]).map fun q => kV q.1) ++ r.keys).Nodup
      rw [ek, List.append_assoc]
      exact nd') (by
      intro q hq
      have hq : q ∈ ((f.kv ++ [(f.key, m)]).map fun q => kV q.1) ++ r.keys := hq
      rw [ek, List.append_assoc] at hq
      exact ks q hq) rfl hLr
  rw [this]
  show fuel (f.ar.app (.cho _ ((casT (f.kv ++ [(f.key, m)])).app r) o .nil)) fs s = _
  rw [casT_app, app_assoc]
  show fuel (f.ar.app (.cho _ ((casT f.kv).app (.cas (kV f.key) m (T.nil.app r))) o .nil)) fs s = _
  rw [kvk]
  rfl
theorem fk_key {b : Bool} {cs : T} (hk : ∀ k ∈ cs.keys, KeyG b k ∧ k ≠ .str "other") : KeyG b (fk cs) := by
  cases cs with
  | cas k m r => exact (hk k List.mem_cons_self).1
  | nil => exact key_other b
  | text _ _ => exact key_other b
  | shw _ _ => exact key_other b
  | num _ => exact key_other b
  | cho _ _ _ _ => exact key_other b
theorem rdM_cho {hd : List V} {cs o r : T} (IHc : RdC cs) (IHo : RdM o) (IH : RdM r) : RdM (.cho hd cs o r) := by
  intro fs t0 l s R W hL
  obtain ⟨⟨b, nm, off, rfl, hG, nd, hk, Rc, Ro⟩, Po, Rr⟩ := R
  obtain ⟨h, clx, g5, g6, ol, g7, l', hH, hC, hg5, hg6, hO, hg7, rfl, hL'⟩ := hL
  obtain ⟨ga, gb, x, hga, hgb, hLb, hx⟩ := lb_of hO hg5 hg6 hg7 W.2.2.1 hC
  have ex : h ++ clx ++ g5 ++ tl "other" ++ g6 ++ [123] ++ ol ++ [125] ++ g7 ++ [125] ++ l' ++ s = h ++ ((clx ++ (g5 ++ (tl "other" ++ (g6 ++ 123 :: (ol ++ 125 :: (g7 ++ [125])))))) ++ (l' ++ s)) := by simp
  have ex2 : h ++ ((ga ++ (keyL (fk cs) ++ (gb ++ 123 :: x))) ++ (l' ++ s)) = h ++ (ga ++ (keyL (fk cs) ++ (gb ++ 123 :: (x ++ (l' ++ s))))) := by simp
  rw [ex, hx, ex2, fuel_step (next_head hG (fk_key hk) hH hga.1 hgb.1.2)]
  have eb : anyB (⟨b, tl nm, off, [], keyOf (fk cs), t0⟩ :: fs) = (anyB fs || b) := by
    show (b || anyB fs) = _
    rw [Bool.or_comm]
  rw [IHc o ⟨b, tl nm, off, [], keyOf (fk cs), t0⟩ fs x (l' ++ s) IHo (by rw [eb]; exact Rc) W.2.2.1 (by rw [eb]; exact Ro) W.2.2.2.1 Po nd hk rfl hLb, IH fs _ l' s Rr W.2.2.2.2 hL', app_assoc]
  rfl
theorem rdC_no {t : T} (h : ¬ Wf t true) : RdC t := fun _ _ _ _ _ _ _ W => absurd W h
theorem rd_all : ∀ t : T, RdM t ∧ RdC t
  | .nil => ⟨fun fs t0 l s _ _ h => by
      rw [show l = [] from h]
      show fuel t0 fs s = fuel (t0.app .nil) fs s
      rw [app_nil], rdC_nil⟩
  | .text x r => ⟨fun fs t0 l s R W h => by
      obtain ⟨l', rfl, hL'⟩ := h
      rw [List.append_assoc, rd_signs (t := t0) (tl x) t0 R.1, (rd_all r).1 fs _ l' s R.2 W.2 hL', app_assoc, sgn_app]
      rfl, rdC_no fun w => by cases w.1⟩
  | .shw n r => ⟨fun fs t0 l s R W h => by
      obtain ⟨g1, g2, l', hg1, hg2, rfl, hL'⟩ := h
      rw [List.append_assoc, fuel_step (next_show R.1 hg1.1 hg2.1), (rd_all r).1 fs _ l' s R.2 W.2 hL', app_assoc]
      rfl, rdC_no fun w => by cases w.1⟩
  | .num r => ⟨fun fs t0 l s R W h => by
      obtain ⟨l', rfl, hL'⟩ := h
      show fuel t0 fs (35 :: (l' ++ s)) = _
      rw [fuel_step (next_num R.1), (rd_all r).1 fs _ l' s R.2 W.2 hL', app_assoc]
      rfl, rdC_no fun w => by cases w.1⟩
  | .cho hd cs o r => ⟨rdM_cho (rd_all cs).2 (rd_all o).1 (rd_all r).1, rdC_no fun w => by cases w.1⟩
  | .cas k m r => ⟨(fun _ _ _ _ _ W => by cases W.1), rdC_cas (rd_all m).1 (rd_all r).2⟩
/-- a message's notation, and what stands behind it -/
theorem pm_behind {t : T} {l s : List Nat} (R : Rg t false) (W : Wf t false) (h : Ln t l) : pm (l ++ s) = fuel t.spl [] s := (rd_all t).1 [] .nil l s R W h
/-! ### what is told does not hang on what has been read -/
def Sim (f g : Fm) : Prop := f.b = g.b ∧ f.key = g.key ∧ f.kv.map (·.1) = g.kv.map (·.1)
def Sims : List Fm → List Fm → Prop
  | [], [] => True
  | f :: fs, g :: gs => Sim f g ∧ Sims fs gs
  | _, _ => False
def SimR : Rs T → Rs T → Prop
  | .ok _ _, .ok _ _ => True
  | .tok y, .tok z => y = z
  | .fin, .fin => True
  | _, _ => False
def SimN : Rs (T × List Fm) → Rs (T × List Fm) → Prop
  | .ok s y, .ok s' y' => Sims s.2 s'.2 ∧ y = y'
  | .tok y, .tok z => y = z
  | .fin, .fin => True
  | _, _ => False
theorem Sims.any : ∀ {fs gs : List Fm}, Sims fs gs → anyB fs = anyB gs
  | [], [], _ => rfl
  | f :: fs, g :: gs, h => by
    show (f.b || anyB fs) = (g.b || anyB gs)
    rw [h.1.1, Sims.any h.2]
  | [], _ :: _, h => h.elim
  | _ :: _, [], h => h.elim
theorem sim_next {t t' : T} {fs gs : List Fm} (h : Sims fs gs) (x : List Nat) : SimN (rdNext t fs x) (rdNext t' gs x) := by
  cases x with
  | nil => trivial
  | cons c y =>
    unfold rdNext
    dsimp only
    by_cases h1 : c = 123
    · rw [if_pos h1, if_pos h1]
      cases e : rdArg (c :: y) with
      | fin => trivial
      | tok z => exact rfl
      | ok a z =>
        cases a with
        | shw n => exact ⟨h, rfl⟩
        | cho n q => exact ⟨⟨⟨rfl, rfl, rfl⟩, h⟩, rfl⟩
    · rw [if_neg h1, if_neg h1]
      have he : (c = 125 ∧ fs ≠ []) ↔ (c = 125 ∧ gs ≠ []) := by
        cases fs <;> cases gs <;> first | exact Iff.rfl | exact h.elim | simp
      by_cases h2 : c = 125 ∧ fs ≠ []
      · rw [if_pos h2, if_pos (he.mp h2)]
        cases fs with
        | nil => exact absurd rfl h2.2
        | cons f fr =>
          cases gs with
          | nil => exact h.elim
          | cons g gr =>
            obtain ⟨⟨e1, e2, e3⟩, hr⟩ := h
            show SimN (rdEnd f fr t (c :: y)) (rdEnd g gr t' (c :: y))
            unfold rdEnd
            rw [e1, e2, e3]
            cases e : rdEndK g.key g.b (g.kv.map (·.1)) (c :: y) with
            | fin => trivial
            | tok z => exact rfl
            | ok k z =>
              cases k with
              | none => exact ⟨hr, rfl⟩
              | some k =>
                refine ⟨⟨⟨rfl, rfl, ?_⟩, hr⟩, rfl⟩
                show (f.kv ++ [(g.key, jt [] t)]).map (·.1) = (g.kv ++ [(g.key, jt [] t')]).map (·.1)
                rw [List.map_append, List.map_append, e3]
                rfl
      · rw [if_neg h2, if_neg (fun z => h2 (he.mpr z))]
        by_cases h3 : c = 39
        · rw [if_pos h3, if_pos h3]
          cases e : rdEsc (c :: y) with
          | fin => trivial
          | tok z => exact rfl
          | ok d z => exact ⟨h, rfl⟩
        · rw [if_neg h3, if_neg h3]
          have ha : fs.any (·.b) = gs.any (·.b) := h.any
          rw [ha]
          cases e : rdSign (gs.any (·.b)) (c :: y) with
          | fin => trivial
          | tok z => exact rfl
          | ok d z => exact ⟨h, rfl⟩
theorem sim_run : ∀ (n : Nat) {t t' : T} {fs gs : List Fm} (x : List Nat), Sims fs gs → SimR (run n t fs x) (run n t' gs x)
  | 0, _, _, _, _, _, _ => trivial
  | n + 1, t, t', fs, gs, [], h => by
    unfold run
    cases fs <;> cases gs <;> first | trivial | exact h.elim
  | n + 1, t, t', fs, gs, c :: y, h => by
    unfold run
    dsimp only
    have z := sim_next (t := t) (t' := t') h (c :: y)
    cases e1 : rdNext t fs (c :: y) with
    | fin =>
      rw [e1] at z
      cases e2 : rdNext t' gs (c :: y) with
      | fin => trivial
      | tok y2 => rw [e2] at z; exact z.elim
      | ok s2 y2 => rw [e2] at z; exact z.elim
    | tok y1 =>
      rw [e1] at z
      cases e2 : rdNext t' gs (c :: y) with
      | fin => rw [e2] at z; exact z.elim
      | tok y2 => rw [e2] at z; exact z
      | ok s2 y2 => rw [e2] at z; exact z.elim
    | ok s1 y1 =>
      rw [e1] at z
      cases e2 : rdNext t' gs (c :: y) with
      | fin => rw [e2] at z; exact z.elim
      | tok y2 => rw [e2] at z; exact z.elim
      | ok s2 y2 =>
        rw [e2] at z
        obtain ⟨z1, rfl⟩ := z
        exact sim_run n y1 z1
theorem fuel_tok {t : T} {x y : List Nat} (h : pm x = .tok y) : fuel t [] x = .tok y := by
  have z := sim_run (x.length + 1) (t := t) (t' := .nil) (fs := []) (gs := []) x trivial
  have h : run (x.length + 1) .nil [] x = .tok y := h
  rw [h] at z
  show run (x.length + 1) t [] x = _
  cases e : run (x.length + 1) t [] x with
  | fin => rw [e] at z; exact z.elim
  | tok y1 => rw [e] at z; exact congrArg Rs.tok z
  | ok s1 y1 => rw [e] at z; exact z.elim
end Mw

namespace Mw
open PySem L2
/-! ### isinstance(e, D), e an exception of just the class C, with fields -/
structure IsC (K : PySem.W.Frag) (C : Addr) : Prop where
  cl : (PySem.W.clsIn K C).isSome = true
  ga : PySem.W.findIn K (.ref C) "__getattribute__" = some (some (.builtin "BaseException.__getattribute__"))
  gg : PySem.W.findIn K (.ref C) "__getattr__" = some none
  eb : PySem.W.subIn K (.ref C) (.type "BaseException") = some true
  ca : PySem.W.findIn K (.ref C) "__class__" = some (some (.builtin "object.__class__"))
  cg : PySem.W.specialIn K (.builtin "object.__class__") "__get__" = some (some (.builtin "getset_descriptor.__get__"))
  ct : PySem.W.takesIn K (.builtin "object.__class__") = some true
  ob : PySem.W.mroIn K C (.type "object") = some true
def rIsY (K : PySem.W.Frag) (D a : Addr) (cls : Value) (d : Option Addr) : List V → Hp → VK → Prop := fun xs H Q => ∃ (C : Addr) (b : Bool), xs = [.ref a, .ref D] ∧ cls = .ref C ∧ IsC K C ∧ PySem.W.kitOne K (.ref C) (.ref D) = some b ∧ ∃ dd fs, d = some dd ∧ H dd = some (.xd fs) ∧ Q (.bl b) H
theorem call_isY {X : Cx} {a D : Addr} {oe : Obj} {cls : Value} {d : Option Addr} {pn : List (Addr × Obj)} (hz : Zc cls d oe) (hf : ∃ vs, oe.data = .fields vs) : CallR (X.suite a ((a, oe) :: pn)) (.builtin "isinstance") (rIsY X.K D a cls d) := by
  intro pins s σ H xs us Q I r h
  obtain ⟨C, b, rfl, rfl, T, e1, dd, fs, rfl, hdd, q⟩ := h
  cases r with
  | cons rx rr =>
    cases rr with
    | cons rt rr =>
      cases rr
      cases rx
      cases rt
      obtain ⟨hget, _⟩ := I.pin (a, oe) (List.mem_append.mpr (.inl List.mem_cons_self))
      obtain ⟨vs, hv⟩ := hf
      have hx : ObjOk X.prog X.w H s.heap dd (.xd fs) := I.hok dd _ hdd
      obtain ⟨mA, hns, _⟩ := hx
      obtain ⟨od, ho, _⟩ := lookIn_ns hns
      have J : PySem.W.InstAt s.heap a oe C (some od) := ⟨hget, hz.1, by unfold PySem.W.notCls; rw [hv] <;> rfl, by rw [hz.2]; exact ho⟩
      exact PySem.W.kia_one (PySem.W.kitx_exc T.cl T.ga T.gg T.eb T.ca T.cg T.ct T.ob) I.kIn J e1 (fun z => nomatch z) fun tk => ⟨.bl b, H, I.kept (t' := tk) fun _ _ z => z, rfl, q⟩
/-- what the row says of an error's class, read -/
structure EX (K : PySem.W.Frag) (mg : Str → Option Value) (x : Str) (C M : Addr) : Prop where
  m : mg x = some (.ref C)
  I : IsC K C
  F : XfC K C
  no : PySem.W.findIn K (.ref C) "place" = some none
  ex : PySem.W.exmOne K (.ref C) (.ref M) = some true
end Mw

namespace Mw
open PySem L2
/-! ### the law's messages can be read -/
theorem menu_rd : ∀ s ∈ menu, (tl s).all okB = true ∧ tl s ≠ [] := by decide +kernel
theorem names_rd : ∀ n ∈ names4, Nam (tl n) := by
  unfold Nam
  decide +kernel
theorem hn_rd : ∀ n ∈ (["w", "kind", "n", "count"] : List Str), Nam (tl n) := by
  unfold Nam
  decide +kernel
theorem words_rd : ∀ n ∈ words3, Nam (tl n) ∧ n ≠ "other" := by
  unfold Nam
  decide +kernel
theorem cats_rd : ∀ n ∈ cats5, Nam (tl n) ∧ n ≠ "other" ∧ tl n ∈ catL := by
  unfold Nam
  decide +kernel
theorem skeys_rd {k : V} (h : k ∈ skeys) : KeyG false k ∧ k ≠ .str "other" := by
  obtain ⟨n, hn, rfl⟩ := List.mem_map.mp h
  obtain ⟨h1, h2⟩ := words_rd n hn
  exact ⟨.inl ⟨n, rfl, h1, fun z => by cases z⟩, fun z => by injection z with z; exact h2 z⟩
theorem pkeys_rd {k : V} (h : k ∈ pkeys) : KeyG true k ∧ k ≠ .str "other" := by
  rcases List.mem_append.mp h with h | h
  · obtain ⟨n, hn, rfl⟩ := List.mem_map.mp h
    exact ⟨.inr ⟨rfl, n, hn, rfl⟩, fun z => by cases z⟩
  · obtain ⟨n, hn, rfl⟩ := List.mem_map.mp h
    obtain ⟨h1, h2, h3⟩ := cats_rd n hn
    exact ⟨.inl ⟨n, rfl, h1, fun _ => .inr h3⟩, fun z => by injection z with z; exact h2 z⟩
theorem nd_keys : skeys.Nodup ∧ pkeys.Nodup ∧ pkeys.reverse.Nodup := by
  refine ⟨?_, ?_, ?_⟩
  · unfold skeys words3
    decide +kernel
  · unfold pkeys nums4 cats5
    decide +kernel
  · unfold pkeys nums4 cats5
    decide +kernel

theorem hdok_rd {hd ks : List V} {i j : Bool} (h : HdOk hd i j ks) : ∃ b nm off, hd = hdV b nm off ∧ HdG b nm off ∧ ks.Nodup ∧ (∀ k ∈ ks, KeyG b k ∧ k ≠ .str "other") ∧ j = (i || b) := by
  cases h with
  | sel hn hk =>
    rename_i n
    exact ⟨false, n, 0, rfl, ⟨hn_rd n (by rcases hn with rfl | rfl <;> decide), rfl⟩, hk.nodup nd_keys.1, fun k h => skeys_rd (hk.subset h), by simp⟩
  | plu hn ho hk =>
    rename_i n off
    refine ⟨true, n, off, rfl, ⟨hn_rd n (by rcases hn with rfl | rfl <;> decide), ho⟩, ?_, ?_, by simp⟩
    · rcases hk with hk | hk
      · exact hk.nodup nd_keys.2.1
      · exact hk.nodup nd_keys.2.2
    · rcases hk with hk | hk
      · exact fun k h => pkeys_rd (hk.subset h)
      · exact fun k h => pkeys_rd (List.mem_reverse.mp (hk.subset h))

theorem Gd.pl : ∀ {t : T} {c : Bool} {d : Nat} {i : Bool}, Gd t c d i → Pl t
  | .nil, _, _, _, _ => trivial
  | .text s r, _, _, _, h => ⟨(menu_rd s h.2.1).2, h.2.2.1, Gd.pl h.2.2.2⟩
  | .shw n r, _, _, _, h => Gd.pl (t := r) h.2.2
  | .num r, _, _, _, h => Gd.pl (t := r) h.2.2
  | .cho hd cs o r, _, _, _, h => Gd.pl (t := r) h.2.2
  | .cas k m r, _, _, _, h => Gd.pl (t := r) h.2.2
theorem Gd.rg : ∀ {t : T} {c : Bool} {d : Nat} {i : Bool}, Gd t c d i → Rg t i
  | .nil, _, _, _, _ => trivial
  | .text s r, c, d, i, h => ⟨fun q hq => List.all_eq_true.mp (menu_rd s h.2.1).1 q hq, Gd.rg h.2.2.2⟩
  | .shw n r, c, d, i, h => ⟨names_rd n h.2.1, Gd.rg h.2.2⟩
  | .num r, c, d, i, h => ⟨h.2.1, Gd.rg h.2.2⟩
  | .cho hd cs o r, c, d, i, h => by
    obtain ⟨h0, ⟨e, j, _, hh, hc, ho⟩, hr⟩ := h
    obtain ⟨b, nm, off, h1, h2, h3, h4, rfl⟩ := hdok_rd hh
    exact ⟨⟨b, nm, off, h1, h2, h3, h4, Gd.rg hc, Gd.rg ho⟩, Gd.pl ho, Gd.rg hr⟩
  | .cas k m r, c, d, i, h => ⟨Gd.pl h.2.1, Gd.rg h.2.1, Gd.rg h.2.2⟩

theorem hdok_w {hd ks : List V} {i j : Bool} (h : HdOk hd i j ks) : HdW hd ∧ ∀ k ∈ ks, KeyW k := by
  cases h with
  | sel hn hk =>
    rename_i n
    refine ⟨.inl ⟨n, rfl⟩, fun k h => ?_⟩
    obtain ⟨s, _, rfl⟩ := List.mem_map.mp (hk.subset h)
    exact .inl ⟨s, rfl⟩
  | plu hn ho hk =>
    rename_i n off
    refine ⟨.inr ⟨n, off, rfl⟩, fun k h => ?_⟩
    have : k ∈ pkeys := by
      rcases hk with hk | hk
      · exact hk.subset h
      · exact List.mem_reverse.mp (hk.subset h)
    rcases List.mem_append.mp this with h | h
    · obtain ⟨s, _, rfl⟩ := List.mem_map.mp h
      exact .inr ⟨s, rfl⟩
    · obtain ⟨s, _, rfl⟩ := List.mem_map.mp h
      exact .inl ⟨s, rfl⟩
theorem Gd.w : ∀ {t : T} {c : Bool} {d : Nat} {i : Bool}, Gd t c d i → (c = true → ∀ k ∈ t.keys, KeyW k) → Wf t c ∧ t.dep ≤ d
  | .nil, _, _, _, _, _ => ⟨trivial, Nat.zero_le _⟩
  | .text s r, c, d, i, h, _ => by
    obtain ⟨h1, h3⟩ := Gd.w h.2.2.2 fun e => by rw [h.1] at e; cases e
    exact ⟨⟨h.1, h1⟩, h3⟩
  | .shw n r, c, d, i, h, _ => by
    obtain ⟨h1, h3⟩ := Gd.w h.2.2 fun e => by rw [h.1] at e; cases e
    exact ⟨⟨h.1, h1⟩, h3⟩
  | .num r, c, d, i, h, _ => by
    obtain ⟨h1, h3⟩ := Gd.w h.2.2 fun e => by rw [h.1] at e; cases e
    exact ⟨⟨h.1, h1⟩, h3⟩
  | .cho hd cs o r, c, d, i, h, _ => by
    obtain ⟨e, j, rfl, hh, g1, g2⟩ := h.2.1
    obtain ⟨a1, a4⟩ := hdok_w hh
    obtain ⟨h1, h3⟩ := Gd.w h.2.2 fun e => by rw [h.1] at e; cases e
    obtain ⟨b1, b3⟩ := Gd.w g1 fun _ => a4
    obtain ⟨c1, c3⟩ := Gd.w g2 fun e => by cases e
    refine ⟨⟨h.1, a1, b1, c1, h1⟩, ?_⟩
    simp only [T.dep]
    omega
  | .cas k m r, c, d, i, h, hk => by
    have hk' := hk h.1
    obtain ⟨h1, h3⟩ := Gd.w h.2.2 fun _ v hv => hk' v (by simp [T.keys, hv])
    obtain ⟨b1, b3⟩ := Gd.w h.2.1 fun e => by cases e
    have hkk := hk' k (by simp [T.keys])
    refine ⟨⟨h.1, hkk, b1, h1⟩, ?_⟩
    simp only [T.dep]
    omega
theorem names_len : ∀ n ∈ (["w", "kind", "n", "count", "who"] : List Str), n.length ≤ 20 := by decide +kernel
theorem keys_sm : (∀ k ∈ words3 ++ cats5, k.length ≤ 20) ∧ ∀ i ∈ nums4, 0 ≤ i ∧ i ≤ 999 := by decide +kernel
theorem skey_sm {k : V} (h : k ∈ skeys ∨ k ∈ pkeys) : KeyS k := by
  rcases h with h | h
  · obtain ⟨n, hn, rfl⟩ := List.mem_map.mp h
    exact .inl ⟨n, rfl, keys_sm.1 n (List.mem_append_left _ hn)⟩
  · rcases List.mem_append.mp h with h | h
    · obtain ⟨n, hn, rfl⟩ := List.mem_map.mp h
      exact .inr ⟨n, rfl, keys_sm.2 n hn⟩
    · obtain ⟨n, hn, rfl⟩ := List.mem_map.mp h
      exact .inl ⟨n, rfl, keys_sm.1 n (List.mem_append_right _ hn)⟩
theorem hdok_sm {hd ks : List V} {i j : Bool} (h : HdOk hd i j ks) : HdS hd ∧ ∀ k ∈ ks, KeyS k := by
  cases h with
  | sel hn hk =>
    rename_i n
    exact ⟨.inl ⟨n, rfl, names_len n (by rcases hn with rfl | rfl <;> decide)⟩, fun k h => skey_sm (.inl (hk.subset h))⟩
  | plu hn ho hk =>
    rename_i n off
    refine ⟨.inr ⟨n, off, rfl, names_len n (by rcases hn with rfl | rfl <;> decide), by omega, by omega⟩, ?_⟩
    rcases hk with hk | hk
    · exact fun k h => skey_sm (.inr (hk.subset h))
    · exact fun k h => skey_sm (.inr (List.mem_reverse.mp (hk.subset h)))
theorem Gd.sm : ∀ {t : T} {c : Bool} {d : Nat} {i : Bool}, Gd t c d i → (c = true → ∀ k ∈ t.keys, KeyS k) → Sm t
  | .nil, _, _, _, _, _ => trivial
  | .text s r, c, _, _, h, _ => ⟨by have := menu_len h.2.1; omega, Gd.sm h.2.2.2 fun e => by rw [h.1] at e; cases e⟩
  | .shw n r, c, _, _, h, _ => ⟨names_len n (by have := h.2.1; unfold names4 at this; simp only [List.mem_cons, List.not_mem_nil, or_false] at this ⊢; rcases this with z | z | z | z <;> simp [z]), Gd.sm h.2.2 fun e => by rw [h.1] at e; cases e⟩
  | .num r, c, _, _, h, _ => Gd.sm (t := r) h.2.2 fun e => by rw [h.1] at e; cases e
  | .cho hd cs o r, c, _, _, h, _ => by
    obtain ⟨h0, ⟨e, j, _, hh, hc, ho⟩, hr⟩ := h
    obtain ⟨h1, h2⟩ := hdok_sm hh
    exact ⟨h1, Gd.sm hc fun _ => h2, Gd.sm ho (fun e => by cases e), Gd.sm hr fun e => by rw [h0] at e; cases e⟩
  | .cas k m r, c, _, _, h, hk => ⟨hk h.1 k List.mem_cons_self, Gd.sm h.2.1 (fun e => by cases e), Gd.sm h.2.2 fun e q hq => hk e q (List.mem_cons_of_mem _ hq)⟩

/-! ### the law's rows: a text, and the place that is told -/
def rows : List (Str × Nat) := [("a }", 2), ("{n, plurals, other {}}", 4), ("{n, plural, three {} other {}}", 12), ("{n, plural, =1 {a} =1 {b} other {}}", 19),
  ("{w, select, a {} a {} other {}}", 17), ("{n, plural, =01 {} other {}}", 13), ("{n, plural, =1000 {} other {}}", 13),
  ("{n, plural, = 1 {} other {}}", 13), ("{n, plural, offset:10 other {}}", 19), ("{n, plural, offset: 1 other {}}", 19),
  ("{abcdefghi}", 1), ("{n plural, other {}}", 3), ("{n, select other {}}", 11), ("{w, select, other {} a {}}", 21), ("{}", 1),
  ("{N}", 1), ("{n,}", 3), ("# files", 0), ("{w, select, other {#}}", 19), ("it's", 2), ("a '{ b", 2), ("end'", 3),
  ("{n, plural, other {}}}", 21), ("{w, select, =1 {} other {}}", 12), ("{n, plural, other}", 17), ("a\tb", 1), ("{n, plural, other {{m, selec, other {}}}}", 23),
  ("{w, select, a b {} other {}}", 14), ("{n, plural, offset:1 offset:2 other {}}", 21), ("{n, plural, =-1 {} other {}}", 13)]
def tails : List Str := ["", " and more", "{", "}"]
def chk (r : Str × Nat) (b : Str) : Bool := match pm (tl r.1 ++ tl b) with
  | .tok y => decide (y.length + r.2 = (tl r.1 ++ tl b).length)
  | _ => false
theorem all_chk : ∀ r ∈ rows, ∀ b ∈ tails, (r.1 = ("end'" : Str) → b = ("" : Str)) → chk r b = true := by decide +kernel
theorem rows_len : ∀ r ∈ rows, r.1.length ≤ 50 := by decide +kernel
theorem tails_len : ∀ r ∈ tails, r.length ≤ 10 := by decide +kernel
/-- what is told of a text behind a notation -/
theorem told {t : T} {l : List Nat} {r : Str × Nat} {b : Str} (R : Rg t false) (W : Wf t false) (h : Ln t l) (hr : r ∈ rows) (hb : b ∈ tails) (he : r.1 = ("end'" : Str) → b = ("" : Str)) :
    ∃ y, pm (l ++ (tl r.1 ++ tl b)) = .tok y ∧ y.length + (l.length + r.2) = (l ++ (tl r.1 ++ tl b)).length := by
  have c := all_chk r hr b hb he
  unfold chk at c
  cases e : pm (tl r.1 ++ tl b) with
  | fin => rw [e] at c; cases c
  | ok a y => rw [e] at c; cases c
  | tok y =>
    rw [e] at c
    have c := of_decide_eq_true c
    refine ⟨y, ?_, by rw [List.length_append]; omega⟩
    rw [pm_behind R W h]
    exact fuel_tok e
end Mw

namespace Mw
open PySem L2
/-! ### the law's own look at a beginning -/
def b2i (b : Bool) : Int := if b then 1 else 0
/-- how deep it ends, and where an escape begins that is not whole -/
def opn : Nat → List Nat → Int → Int × Option (List Nat)
  | 0, _, d => (d, none)
  | _ + 1, [], d => (d, none)
  | n + 1, c :: y, d => if c = 39 then (if y.head? = some 39 then opn n (y.drop 1) d else if 2 ≤ y.length then opn n (y.drop 2) d else (d, some (c :: y))) else opn n y (d + b2i (decide (c = 123)) - b2i (decide (c = 125)))
theorem opn_fuel : ∀ (n m : Nat) (x : List Nat) (d : Int), x.length ≤ n → x.length ≤ m → opn n x d = opn m x d
  | 0, 0, _, _, _, _ => rfl
  | 0, m + 1, x, d, h, _ => by
    have : x = [] := List.length_eq_zero_iff.mp (Nat.le_zero.mp h)
    subst this
    rfl
  | n + 1, 0, x, d, _, h => by
    have : x = [] := List.length_eq_zero_iff.mp (Nat.le_zero.mp h)
    subst this
    rfl
  | n + 1, m + 1, [], d, _, _ => rfl
  | n + 1, m + 1, c :: y, d, h1, h2 => by
    simp only [List.length_cons] at h1 h2
    unfold opn
    split
    · split
      · exact opn_fuel n m _ d (by rw [List.length_drop]; omega) (by rw [List.length_drop]; omega)
      · split
        · exact opn_fuel n m _ d (by rw [List.length_drop]; omega) (by rw [List.length_drop]; omega)
        · rfl
    · exact opn_fuel n m _ _ (by omega) (by omega)
def opF (x : List Nat) (d : Int) : Int × Option (List Nat) := opn x.length x d
theorem opF_nil (d : Int) : opF [] d = (d, none) := rfl
theorem opF_cons {c : Nat} {y : List Nat} {d : Int} (h : c ≠ 39) : opF (c :: y) d = opF y (d + b2i (decide (c = 123)) - b2i (decide (c = 125))) := by
  show opn (y.length + 1) (c :: y) d = _
  unfold opn
  rw [if_neg h]
  rfl
theorem opF_two {y : List Nat} {d : Int} : opF (39 :: 39 :: y) d = opF y d := by
  show opn (y.length + 1 + 1) (39 :: 39 :: y) d = _
  unfold opn
  rw [if_pos rfl, if_pos (show (39 :: y).head? = some 39 from rfl)]
  exact opn_fuel _ _ _ _ (Nat.le_succ _) (Nat.le_refl _)
theorem opF_three {a b : Nat} {y : List Nat} {d : Int} (h : a ≠ 39) : opF (39 :: a :: b :: y) d = opF y d := by
  show opn (y.length + 1 + 1 + 1) (39 :: a :: b :: y) d = _
  unfold opn
  rw [if_pos rfl, if_neg (by simpa using h), if_pos (by simp)]
  exact opn_fuel _ _ _ _ (by simp) (Nat.le_refl _)
def bal : List Nat → Int
  | [] => 0
  | c :: y => b2i (decide (c = 123)) - b2i (decide (c = 125)) + bal y
theorem opF_bal : ∀ (x : List Nat) (d : Int) (s : List Nat), 39 ∉ x → opF (x ++ s) d = opF s (d + bal x)
  | [], d, s, _ => by
    show opF s d = opF s (d + 0)
    rw [Int.add_zero]
  | c :: y, d, s, h => by
    have hc : c ≠ 39 := fun e => h (by rw [e]; exact List.mem_cons_self)
    rw [List.cons_append, opF_cons hc, opF_bal y _ s fun z => h (List.mem_cons_of_mem _ z)]
    congr 1
    show _ = d + (_ + bal y)
    omega
/-! ### the beginnings of a notation -/
def small (r : Rs T) : Prop := r = .fin ∨ ∃ y, r = .tok y ∧ y.length ≤ 8
def Cut (t : T) (fs : List Fm) (x : List Nat) : Prop := match opF x (2 * (fs.length : Int)) with
  | (_, some z) => fuel t fs x = .tok z
  | (d, none) => 0 ≤ d ∧ (d = 0 → ∃ u y, fuel t fs x = .ok u y) ∧ (0 < d → small (fuel t fs x))
theorem cut_nil (t : T) (fs : List Fm) : Cut t fs [] := by
  unfold Cut
  rw [opF_nil]
  refine ⟨by omega, fun h => ?_, fun h => ?_⟩
  · cases fs with
    | nil => exact ⟨_, _, rfl⟩
    | cons f fs =>
      simp only [List.length_cons] at h
      omega
  · cases fs with
    | nil => exact absurd h (by decide)
    | cons f fs => exact .inl rfl
theorem fuel_bad {t : T} {fs : List Fm} {x : List Nat} (hx : x ≠ []) (h : rdNext t fs x = .fin ∨ ∃ y, rdNext t fs x = .tok y ∧ y.length ≤ 8) : small (fuel t fs x) := by
  cases x with
  | nil => exact absurd rfl hx
  | cons c y =>
    show small (run (y.length + 1 + 1) t fs (c :: y))
    unfold run
    dsimp only
    rcases h with h | ⟨z, h, hz⟩
    · rw [h]; exact .inl rfl
    · rw [h]; exact .inr ⟨z, rfl, hz⟩
/-- within a piece without an escape -/
theorem cut_in {t : T} {fs : List Fm} {x : List Nat} (hx : x ≠ []) (h39 : 39 ∉ x) (hd : 0 < 2 * (fs.length : Int) + bal x) (h : rdNext t fs x = .fin ∨ ∃ y, rdNext t fs x = .tok y ∧ y.length ≤ 8) : Cut t fs x := by
  unfold Cut
  have e := opF_bal x (2 * (fs.length : Int)) [] h39
  rw [List.append_nil, opF_nil] at e
  rw [e]
  exact ⟨by omega, fun z => by omega, fun _ => fuel_bad hx h⟩
/-- the beginnings of what begins with a piece -/
theorem cut_piece {t t' : T} {fs fs' : List Fm} {p s : List Nat} (hp : ∀ r, rdNext t fs (p ++ r) = .ok (t', fs') r) (ho : ∀ r, opF (p ++ r) (2 * (fs.length : Int)) = opF r (2 * (fs'.length : Int)))
    (hc : ∀ i, 0 < i → i < p.length → Cut t fs (p.take i)) (hs : ∀ x, x <+: s → Cut t' fs' x) : ∀ x, x <+: p ++ s → Cut t fs x := by
  intro x hx
  have ex : x = (p ++ s).take x.length := List.prefix_iff_eq_take.mp hx
  by_cases h : p.length ≤ x.length
  · rw [List.take_append, List.take_of_length_le h] at ex
    have h2 := hs (s.take (x.length - p.length)) (List.take_prefix _ _)
    rw [ex]
    unfold Cut at h2 ⊢
    rw [ho, fuel_step (hp _)]
    exact h2
  · have h : x.length < p.length := by omega
    rw [List.take_append_of_le_length (by omega)] at ex
    by_cases h0 : x.length = 0
    · rw [List.length_eq_zero_iff.mp h0]
      exact cut_nil t fs
    · rw [ex]
      exact hc _ (by omega) h
/-! #### the pieces -/
theorem take_pre {p : List Nat} {i : Nat} {c : Nat} (h : c ∉ p) : c ∉ p.take i := fun z => h (List.mem_of_mem_take z)
theorem sub1 (a b : Int) : a + b = a + b := rfl
theorem cut_sign {t : T} {fs : List Fm} {c : Nat} {s : List Nat} (hc : okB c = true) (hs : ∀ x, x <+: s → Cut (t.app (.text ⟨#[c]⟩ .nil)) fs x) : ∀ x, x <+: escC c ++ s → Cut t fs x := by
  refine cut_piece (fun r => next_sign hc) (fun r => ?_) ?_ hs
  · unfold escC
    by_cases h1 : c = 39
    · rw [if_pos h1]; exact opF_two
    rw [if_neg h1]
    by_cases h2 : c = 123
    · rw [if_pos h2]; exact opF_three (by decide)
    rw [if_neg h2]
    by_cases h3 : c = 125
    · rw [if_pos h3]; exact opF_three (by decide)
    rw [if_neg h3]
    by_cases h4 : c = 35
    · rw [if_pos h4]; exact opF_three (by decide)
    rw [if_neg h4]
    show opF (c :: r) _ = _
    rw [opF_cons h1, decide_eq_false h2, decide_eq_false h3]
    exact congrArg (opF r) (by show _ + 0 - 0 = _; omega)
  · intro i h0 hi
    have bad : ∀ x : List Nat, x ≠ [] → (∀ d : Int, opF x d = (d, some x)) → rdEsc x = .tok x → x.head? = some 39 → Cut t fs x := fun x hx e1 e2 e3 => by
      unfold Cut
      rw [e1]
      cases x with
      | nil => exact absurd rfl hx
      | cons c y =>
        have e3 : c = 39 := by simpa using e3
        subst e3
        show run (y.length + 1 + 1) t fs (39 :: y) = _
        unfold run rdNext
        dsimp only
        rw [if_neg (by decide), if_neg (fun z => by have := z.1; exact absurd this (by decide)), if_pos rfl, e2]
        rfl
    have one : Cut t fs [39] := bad [39] (by simp) (fun _ => rfl) rfl rfl
    have two : ∀ a, a ≠ 39 → Cut t fs [39, a] := fun a ha => by
      refine bad [39, a] (by simp) (fun d => ?_) ?_ rfl
      · show opn 2 [39, a] d = _
        unfold opn
        rw [if_pos rfl, if_neg (by simpa using ha), if_neg (by simp)]
      · have n1 : (39 == a) = false := by rw [beq_eq_false_iff_ne]; exact fun e => ha e.symm
        have h1 : ([39, 39] : List Nat).isPrefixOf [39, a] = false := by simp [List.isPrefixOf, n1]
        have h2 : ∀ b, ([39, b, 39] : List Nat).isPrefixOf [39, a] = false := fun b => by simp [List.isPrefixOf]
        unfold rdEsc
        have : escN.find? (fun c => (escC c).isPrefixOf [39, a]) = none := by
          rw [List.find?_eq_none]
          intro c hc
          unfold escN at hc
          simp only [List.mem_cons, List.not_mem_nil, or_false] at hc
          rcases hc with rfl | rfl | rfl | rfl
          · show ¬ ([39, 39] : List Nat).isPrefixOf [39, a] = true
            rw [h1]; exact Bool.false_ne_true
          · show ¬ ([39, 123, 39] : List Nat).isPrefixOf [39, a] = true
            rw [h2]; exact Bool.false_ne_true
          · show ¬ ([39, 125, 39] : List Nat).isPrefixOf [39, a] = true
            rw [h2]; exact Bool.false_ne_true
          · show ¬ ([39, 35, 39] : List Nat).isPrefixOf [39, a] = true
            rw [h2]; exact Bool.false_ne_true
        rw [this]
    unfold escC at hi ⊢
    by_cases h1 : c = 39
    · rw [if_pos h1] at hi ⊢
      have : i = 1 := by simp at hi; omega
      subst this
      exact one
    rw [if_neg h1] at hi ⊢
    by_cases h2 : c = 123
    · rw [if_pos h2] at hi ⊢
      have : i = 1 ∨ i = 2 := by simp at hi; omega
      rcases this with rfl | rfl
      · exact one
      · exact two 123 (by decide)
    rw [if_neg h2] at hi ⊢
    by_cases h3 : c = 125
    · rw [if_pos h3] at hi ⊢
      have : i = 1 ∨ i = 2 := by simp at hi; omega
      rcases this with rfl | rfl
      · exact one
      · exact two 125 (by decide)
    rw [if_neg h3] at hi ⊢
    by_cases h4 : c = 35
    · rw [if_pos h4] at hi ⊢
      have : i = 1 ∨ i = 2 := by simp at hi; omega
      rcases this with rfl | rfl
      · exact one
      · exact two 35 (by decide)
    rw [if_neg h4] at hi
    simp at hi
    omega
theorem cut_signs : ∀ (cs : List Nat) {t : T} {fs : List Fm} {s : List Nat}, (∀ c ∈ cs, okB c = true) → (∀ x, x <+: s → Cut (t.app (sgn cs .nil)) fs x) → ∀ x, x <+: escL cs ++ s → Cut t fs x
  | [], t, fs, s, _, hs => fun x hx => by
    have := hs x hx
    rw [show sgn [] T.nil = .nil from rfl, app_nil] at this
    exact this
  | c :: cs, t, fs, s, h, hs => by
    have e : escL (c :: cs) ++ s = escC c ++ (escL cs ++ s) := by simp [escL]
    rw [e]
    refine cut_sign (h c List.mem_cons_self) (cut_signs cs (fun d hd => h d (List.mem_cons_of_mem _ hd)) ?_)
    intro x hx
    rw [app_assoc]
    exact hs x hx
theorem cut_num {t : T} {fs : List Fm} {s : List Nat} (h : fs.any (·.b) = true) (hs : ∀ x, x <+: s → Cut (t.app (.num .nil)) fs x) : ∀ x, x <+: [35] ++ s → Cut t fs x := by
  refine cut_piece (fun r => next_num h) (fun r => ?_) (fun i h0 hi => by simp at hi; omega) hs
  show opF (35 :: r) _ = _
  rw [opF_cons (by decide)]
  exact congrArg (opF r) (by show _ + 0 - 0 = _; omega)
theorem let_39 {n : List Nat} (h : n.all isLet = true) : 39 ∉ n ∧ bal n = 0 := by
  induction n with
  | nil => exact ⟨List.not_mem_nil, rfl⟩
  | cons c n ih =>
    rw [List.all_cons, Bool.and_eq_true] at h
    obtain ⟨h1, h2⟩ := ih h.2
    have hc : 97 ≤ c ∧ c ≤ 122 := by
      have := h.1
      unfold isLet at this
      rw [Bool.and_eq_true, decide_eq_true_iff, decide_eq_true_iff] at this
      exact this
    refine ⟨fun z => ?_, ?_⟩
    · rcases List.mem_cons.mp z with z | z
      · omega
      · exact h1 z
    · show b2i (decide (c = 123)) - b2i (decide (c = 125)) + bal n = 0
      rw [h2, decide_eq_false (by omega), decide_eq_false (by omega)]
      rfl
theorem bal_app : ∀ a b : List Nat, bal (a ++ b) = bal a + bal b
  | [], b => by
    show bal b = 0 + bal b
    omega
  | c :: a, b => by
    show _ + bal (a ++ b) = _ + bal a + bal b
    rw [bal_app a b]
    omega
theorem cut_show {t : T} {fs : List Fm} {nm : Str} {s : List Nat} (hn : Nam (tl nm)) (hs : ∀ x, x <+: s → Cut (t.app (.shw nm .nil)) fs x) : ∀ x, x <+: [123] ++ tl nm ++ [125] ++ s → Cut t fs x := by
  obtain ⟨m1, m2⟩ := let_39 hn.2.2
  refine cut_piece (fun r => ?_) (fun r => ?_) (fun i h0 hi => ?_) hs
  · have := next_show (t := t) (fs := fs) (g1 := []) (g2 := []) (s := r) hn (fun _ h => by cases h) (fun _ h => by cases h)
    simp only [List.append_nil] at this
    exact this
  · rw [opF_bal _ _ _ (by simp [m1])]
    congr 1
    rw [bal_app, bal_app, m2]
    show _ + (1 + 0 + (-1)) = _
    omega
  · obtain ⟨j, rfl⟩ : ∃ j, i = j + 1 := ⟨i - 1, by omega⟩
    have hj : j ≤ (tl nm).length := by rw [List.length_append, List.length_append, List.length_singleton, List.length_singleton] at hi; omega
    have ex : ([123] ++ tl nm ++ [125]).take (j + 1) = 123 :: (tl nm).take j := by
      show 123 :: (tl nm ++ [125]).take j = _
      rw [List.take_append_of_le_length hj]
    rw [ex]
    have hb : bal ((tl nm).take j) = 0 := (let_39 (List.all_eq_true.mpr fun c hc => List.all_eq_true.mp hn.2.2 c (List.mem_of_mem_take hc))).2
    refine cut_in (by simp) (fun z => ?_) ?_ (.inl ?_)
    · rcases List.mem_cons.mp z with z | z
      · cases z
      · exact take_pre m1 z
    · show 0 < _ + (1 - 0 + bal _)
      rw [hb]
      omega
    · have key : rdArg (123 :: (tl nm).take j) = .fin := by
        unfold rdArg
        have z := sign_ok (c := 123) (g := []) (s := (tl nm).take j) (fun _ h => by cases h) rfl
        rw [List.nil_append] at z
        rw [z]
        show (tkName (skip ((tl nm).take j))).bind _ = _
        by_cases h0 : (tl nm).take j = []
        · rw [h0]; rfl
        · have nm' : Nam ((tl nm).take j) := ⟨h0, by rw [List.length_take]; have := hn.2.1; omega, List.all_eq_true.mpr fun c hc => List.all_eq_true.mp hn.2.2 c (List.mem_of_mem_take hc)⟩
          have e := name_ok (s := []) nm' (fun c hc => by cases hc)
          rw [List.append_nil] at e
          rw [skip_hd (by have := nam_sp (s := []) nm'; rw [List.append_nil] at this; exact this), e]
          rfl
      unfold rdNext
      dsimp only
      rw [if_pos rfl, key]
      rfl
end Mw

namespace Mw
open PySem L2
/-! #### heads and keys, by a look at each -/
def okR {α : Type} : Rs α → Bool
  | .fin => true
  | .tok y => decide (y.length ≤ 8)
  | .ok _ _ => false
theorem okR_iff {α : Type} {r : Rs α} (h : okR r = true) : r = .fin ∨ ∃ y, r = .tok y ∧ y.length ≤ 8 := by
  cases r with
  | fin => exact .inl rfl
  | tok y => exact .inr ⟨y, rfl, of_decide_eq_true h⟩
  | ok a y => cases h
def tailK (k : V) : List Nat := 32 :: (keyL k ++ [32, 123])
/-- a head and its first key: every beginning -/
def chkH (p : List Nat) : Bool := !decide (39 ∈ p) && (List.range p.length).all fun i => decide (i = 0) || (decide (0 < bal (p.take i)) && okR (rdArg (p.take i)) && decide ((p.take i).head? = some 123))
/-- a case's key, behind the brace: every beginning -/
def okK (b : Bool) (z : List Nat) : Bool := match bgKey b (skip z) with
  | .fin => true
  | .tok y => decide (y.length ≤ 8)
  | .ok _ y => decide ((skip z).length ≤ 8) && decide (skip y = [])
def chkK (b : Bool) (p : List Nat) : Bool := !decide (39 ∈ p) && (List.range p.length).all fun i => decide (bal (p.take i) = 0) && okK b (p.take i)
def selHeads : List (List V) := (["w", "kind"] : List Str).map fun n => [.str "select", .str n]
def pluHeads : List (List V) := (["n", "count"] : List Str).flatMap fun n => ([0, 1, 2] : List Int).map fun i => [.str "plural", .str n, .int i]
def selKeys : List V := .str "other" :: skeys
def pluKeys : List V := .str "other" :: pkeys
theorem all_sel : ∀ hd ∈ selHeads, ∀ k ∈ selKeys, chkH (hdT hd ++ tailK k) = true := by
  unfold selHeads selKeys skeys words3
  decide +kernel
theorem all_plu : ∀ hd ∈ pluHeads, ∀ k ∈ pluKeys, chkH (hdT hd ++ tailK k) = true := by
  unfold pluHeads pluKeys pkeys nums4 cats5
  decide +kernel
theorem all_ks : ∀ k ∈ selKeys, chkK false (tailK k) = true := by
  unfold selKeys skeys words3
  decide +kernel
theorem all_kp : ∀ k ∈ pluKeys, chkK true (tailK k) = true := by
  unfold pluKeys pkeys nums4 cats5
  decide +kernel
/-- keys that the law writes -/
def KeyL (b : Bool) (k : V) : Prop := KeyG b k ∧ k ∈ (if b then pluKeys else selKeys)
theorem keyL_chk {b : Bool} {k : V} (h : KeyL b k) : chkK b (tailK k) = true := by
  cases b with
  | false => exact all_ks k h.2
  | true => exact all_kp k h.2
theorem tail_bal {p : List Nat} (h : chkK true p = true ∨ chkK false p = true) : 39 ∉ p := by
  rcases h with h | h <;>
  · unfold chkK at h
    rw [Bool.and_eq_true] at h
    simpa using h.1
theorem cut_head {t : T} {fs : List Fm} {b : Bool} {nm : Str} {off : Int} {k : V} {s : List Nat} (hG : HdG b nm off) (hk : KeyG b k) (hh : Hl (hdV b nm off) (hdT (hdV b nm off))) (hc : chkH (hdT (hdV b nm off) ++ tailK k) = true) (hbal : bal (hdT (hdV b nm off) ++ tailK k) = 2) (hs : ∀ x, x <+: s → Cut .nil (⟨b, tl nm, off, [], keyOf k, t⟩ :: fs) x) :
    ∀ x, x <+: (hdT (hdV b nm off) ++ tailK k) ++ s → Cut t fs x := by
  unfold chkH at hc
  rw [Bool.and_eq_true, List.all_eq_true] at hc
  have h39 : 39 ∉ hdT (hdV b nm off) ++ tailK k := by simpa using hc.1
  refine cut_piece (fun r => ?_) (fun r => ?_) (fun i h0 hi => ?_) hs
  · have := next_head (t := t) (fs := fs) (g5 := [32]) (g6 := [32]) (s := r) hG hk hh ⟨by simp, fun c hc => by simp at hc; exact .inl hc⟩ (fun c hc => by simp at hc; exact .inl hc)
    have e : hdT (hdV b nm off) ++ tailK k ++ r = hdT (hdV b nm off) ++ ([32] ++ (keyL k ++ ([32] ++ 123 :: r))) := by
      unfold tailK
      simp
    rw [e]
    exact this
  · rw [opF_bal _ _ _ h39, hbal]
    exact congrArg (opF r) (by rw [List.length_cons]; omega)
  · have := hc.2 i (List.mem_range.mpr hi)
    rw [Bool.or_eq_true, Bool.and_eq_true, Bool.and_eq_true, decide_eq_true_iff, decide_eq_true_iff, decide_eq_true_iff] at this
    rcases this with z | ⟨⟨z1, z2⟩, z3⟩
    · omega
    · have hne : (hdT (hdV b nm off) ++ tailK k).take i ≠ [] := fun e => by rw [e] at z3; cases z3
      refine cut_in hne (take_pre h39) (by omega) ?_
      generalize (hdT (hdV b nm off) ++ tailK k).take i = x at z2 z3 hne ⊢
      cases x with
      | nil => exact absurd rfl hne
      | cons c y =>
        have z3 : c = 123 := by simpa using z3
        subst z3
        unfold rdNext
        dsimp only
        rw [if_pos rfl]
        rcases okR_iff z2 with e | ⟨y2, e, hy⟩
        · rw [e]; exact .inl rfl
        · rw [e]; exact .inr ⟨y2, rfl, hy⟩
theorem case_bad {b : Bool} {ks : List L2.Key} {z : List Nat} (h : okK b z = true) : okR (bgCase b ks z) = true := by
  unfold okK at h
  unfold bgCase
  cases e : bgKey b (skip z) with
  | fin => rfl
  | tok y => rw [e] at h; exact h
  | ok k y =>
    rw [e] at h
    have h : (decide ((skip z).length ≤ 8) && decide (skip y = [])) = true := h
    rw [Bool.and_eq_true] at h
    show okR (if kin k ks = true then _ else (tkSign 123 y).bind _) = true
    split
    · exact h.1
    · unfold tkSign
      rw [of_decide_eq_true h.2]
      rfl
theorem cut_case {t : T} {f : Fm} {fs : List Fm} {k : V} {s : List Nat} (hk : KeyL f.b k) (ho : f.key ≠ othK) (hn : keyOf k ∉ f.kv.map (·.1) ++ [f.key]) (hbal : bal (tailK k) = 1) (hs : ∀ x, x <+: s → Cut .nil (nextF f (jt [] t) (keyOf k) :: fs) x) :
    ∀ x, x <+: (125 :: tailK k) ++ s → Cut t (f :: fs) x := by
  have hc := keyL_chk hk
  have h39' : 39 ∉ tailK k := tail_bal (by cases hb : f.b <;> rw [hb] at hc <;> simp [hc])
  have h39 : 39 ∉ 125 :: tailK k := fun z => by
    rcases List.mem_cons.mp z with z | z
    · cases z
    · exact h39' z
  unfold chkK at hc
  rw [Bool.and_eq_true, List.all_eq_true] at hc
  refine cut_piece (fun r => ?_) (fun r => ?_) (fun i h0 hi => ?_) hs
  · have := next_case (t := t) (fs := fs) (g5 := [32]) (g6 := [32]) (s := r) hk.1 ho hn (fun c hc => by simp at hc; exact .inl hc) (fun c hc => by simp at hc; exact .inl hc)
    have e : 125 :: tailK k ++ r = 125 :: ([32] ++ (keyL k ++ ([32] ++ 123 :: r))) := by
      unfold tailK
      simp
    rw [e]
    exact this
  · rw [opF_bal _ _ _ h39]
    refine congrArg (opF r) ?_
    show _ + (0 - 1 + bal (tailK k)) = _
    rw [hbal, List.length_cons, List.length_cons]
    omega
  · obtain ⟨j, rfl⟩ : ∃ j, i = j + 1 := ⟨i - 1, by omega⟩
    have hj : j < (tailK k).length := by simpa using hi
    have := hc.2 j (List.mem_range.mpr hj)
    rw [Bool.and_eq_true, decide_eq_true_iff] at this
    obtain ⟨z1, z2⟩ := this
    rw [List.take_succ_cons]
    refine cut_in (by simp) (fun z => ?_) ?_ ?_
    · rcases List.mem_cons.mp z with z | z
      · cases z
      · exact take_pre h39' z
    · show 0 < _ + (0 - 1 + bal _)
      rw [z1, List.length_cons]
      omega
    · unfold rdNext
      dsimp only
      rw [if_neg (by decide), if_pos ⟨rfl, List.cons_ne_nil _ _⟩]
      unfold rdEnd rdEndK
      have z := sign_ok (c := 125) (g := []) (s := (tailK k).take j) (fun _ h => by cases h) rfl
      rw [List.nil_append] at z
      rw [z]
      show (Rs.bind (if f.key = othK then _ else (bgCase f.b (f.kv.map (·.1) ++ [f.key]) ((tailK k).take j)).bind fun k y => Rs.ok (some k) y) _) = _ ∨ ∃ y, (Rs.bind (if f.key = othK then _ else (bgCase f.b (f.kv.map (·.1) ++ [f.key]) ((tailK k).take j)).bind fun k y => Rs.ok (some k) y) _) = _ ∧ _
      rw [if_neg ho]
      rcases okR_iff (case_bad (ks := f.kv.map (·.1) ++ [f.key]) z2) with e | ⟨y2, e, hy⟩
      · rw [e]; exact .inl rfl
      · rw [e]; exact .inr ⟨y2, rfl, hy⟩
theorem cut_close {t : T} {f : Fm} {fs : List Fm} {s : List Nat} (ho : f.key = othK) (hs : ∀ x, x <+: s → Cut (f.ar.app (f.cho (jt [] t))) fs x) : ∀ x, x <+: [125, 125] ++ s → Cut t (f :: fs) x := by
  refine cut_piece (fun r => ?_) (fun r => ?_) (fun i h0 hi => ?_) hs
  · exact next_close (g7 := []) (s := r) ho (fun _ h => by cases h)
  · rw [opF_bal _ _ _ (by decide)]
    refine congrArg (opF r) ?_
    show _ + (0 - 1 + (0 - 1 + 0)) = _
    rw [List.length_cons]
    omega
  · have : i = 1 := by simp at hi; omega
    subst this
    refine cut_in (x := [125]) (by simp) (by decide) ?_ (.inl ?_)
    · show 0 < _ + (0 - 1 + 0)
      rw [List.length_cons]
      omega
    · unfold rdNext
      dsimp only
      rw [if_neg (by decide), if_pos ⟨rfl, List.cons_ne_nil _ _⟩]
      unfold rdEnd rdEndK
      have z := sign_ok (c := 125) (g := []) (s := []) (fun _ h => by cases h) rfl
      rw [List.nil_append] at z
      rw [z]
      show (Rs.bind (if f.key = othK then (tkSign 125 []).bind fun _ y => Rs.ok none y else _) _) = _
      rw [if_pos ho]
      rfl
/-! #### messages -/
def HdL (b : Bool) (nm : Str) (off : Int) : Prop := HdG b nm off ∧ hdV b nm off ∈ (if b then pluHeads else selHeads) ∧ Hl (hdV b nm off) (hdT (hdV b nm off))
def Rgc : T → Bool → Prop
  | .nil, _ => True
  | .text s r, i => (∀ c ∈ tl s, okB c = true) ∧ Rgc r i
  | .shw n r, i => Nam (tl n) ∧ Rgc r i
  | .num r, i => i = true ∧ Rgc r i
  | .cho hd cs o r, i => (∃ b nm off, hd = hdV b nm off ∧ HdL b nm off ∧ cs.keys.Nodup ∧ (∀ k ∈ cs.keys, KeyL b k ∧ k ≠ .str "other") ∧ Rgc cs (i || b) ∧ Rgc o (i || b)) ∧ Pl o ∧ Rgc r i
  | .cas _ m r, i => Pl m ∧ Rgc m i ∧ Rgc r i
/-- from behind the first key's brace on, tight -/
def lbT : T → T → List Nat
  | .cas _ m r, o => m.lw ++ (125 :: tailK (fk r) ++ lbT r o)
  | _, o => o.lw ++ [125, 125]
theorem lb_lw (o : T) : ∀ {cs : T}, Wf cs true → cs.lw ++ (32 :: (tl "other" ++ [32, 123] ++ (o.lw ++ [125, 125]))) = tailK (fk cs) ++ lbT cs o
  | .nil, _ => by simp [T.lw, fk, tailK, lbT, keyL]
  | .text _ _, w => by cases w.1
  | .shw _ _, w => by cases w.1
  | .num _, w => by cases w.1
  | .cho _ _ _ _, w => by cases w.1
  | .cas k m r, w => by
    have := lb_lw o w.2.2.2
    show ([32] ++ keyL k ++ [32] ++ [123] ++ m.lw ++ [125] ++ r.lw) ++ _ = (32 :: (keyL k ++ [32, 123])) ++ (m.lw ++ (125 :: tailK (fk r) ++ lbT r o))
    have e : 125 :: tailK (fk r) ++ lbT r o = 125 :: (tailK (fk r) ++ lbT r o) := rfl
    rw [e, ← this]
    simp
theorem key_otherL (b : Bool) : KeyL b (.str "other") := ⟨key_other b, by cases b <;> exact List.mem_cons_self⟩
theorem tail_one {b : Bool} {k : V} (h : KeyL b k) : bal (tailK k) = 1 := by
  have a : ∀ k ∈ selKeys ++ pluKeys, bal (tailK k) = 1 := by
    unfold selKeys pluKeys skeys words3 pkeys nums4 cats5
    decide +kernel
  refine a k ?_
  cases b with
  | false => exact List.mem_append_left _ h.2
  | true => exact List.mem_append_right _ h.2
theorem head_two {b : Bool} {nm : Str} {off : Int} (h : HdL b nm off) : bal (hdT (hdV b nm off)) = 1 := by
  have a : ∀ hd ∈ selHeads ++ pluHeads, bal (hdT hd) = 1 := by
    unfold selHeads pluHeads
    decide +kernel
  refine a _ ?_
  cases b with
  | false => exact List.mem_append_left _ h.2.1
  | true => exact List.mem_append_right _ h.2.1
def CdM (t : T) : Prop := ∀ (fs : List Fm) (t0 : T) (s : List Nat), Rgc t (anyB fs) → Wf t false → (∀ x, x <+: s → Cut (t0.app t.spl) fs x) → ∀ x, x <+: t.lw ++ s → Cut t0 fs x
def CdC (cs : T) : Prop := ∀ (o : T) (f : Fm) (fs : List Fm) (s : List Nat), CdM o → Rgc cs (anyB (f :: fs)) → Wf cs true → Rgc o (anyB (f :: fs)) → Wf o false → Pl o → ((f.kv.map fun q => kV q.1) ++ cs.keys).Nodup → (∀ k ∈ (f.kv.map fun q => kV q.1) ++ cs.keys, KeyL f.b k ∧ k ≠ .str "other") → f.key = keyOf (fk cs) →
  (∀ x, x <+: s → Cut (f.ar.app (.cho (hdV f.b (mkS f.nm) f.off) ((casT f.kv).app cs) o .nil)) fs x) → ∀ x, x <+: lbT cs o ++ s → Cut .nil (f :: fs) x
theorem cdC_nil : CdC .nil := by
  intro o f fs s Mo _ _ Ro Wo Po nd ks hk hs
  show ∀ x, x <+: o.lw ++ [125, 125] ++ s → _
  rw [List.append_assoc]
  refine Mo (f :: fs) .nil _ Ro Wo (cut_close hk ?_)
  intro x hx
  have := hs x hx
  rw [app_nil] at this
  show Cut (f.ar.app (.cho _ _ (jt [] o.spl) .nil)) fs x
  rw [jt_spl o Po]
  exact this
theorem cdC_cas {k : V} {m r : T} (Mm : CdM m) (Cr : CdC r) : CdC (.cas k m r) := by
  intro o f fs s Mo Rc Wc Ro Wo Po nd ks hk hs
  obtain ⟨Pm, Rm, Rr⟩ := Rc
  have kk : KeyL f.b k ∧ k ≠ .str "other" := ks k (List.mem_append_right _ (by show k ∈ k :: r.keys; exact List.mem_cons_self))
  have nd' : ((f.kv.map fun q => kV q.1) ++ k :: r.keys).Nodup := nd
  have kf : KeyL f.b (fk r) ∧ k ≠ fk r ∧ fk r ∉ f.kv.map fun q => kV q.1 := by
    have other : KeyL f.b (.str "other") ∧ k ≠ .str "other" ∧ V.str "other" ∉ f.kv.map fun q => kV q.1 := ⟨key_otherL f.b, kk.2, fun z => (ks _ (List.mem_append_left _ z)).2 rfl⟩
    cases r with
    | cas k2 m2 r2 =>
      have hk2 : k2 ∈ k :: (T.cas k2 m2 r2).keys := List.mem_cons_of_mem _ (by show k2 ∈ k2 :: r2.keys; exact List.mem_cons_self)
      refine ⟨(ks k2 (List.mem_append_right _ hk2)).1, ?_, fun z => ?_⟩
      · have := (List.nodup_append.mp nd').2.1
        rintro rfl
        exact (List.nodup_cons.mp this).1 (by show k ∈ k :: r2.keys; exact List.mem_cons_self)
      · exact (List.nodup_append.mp nd').2.2 k2 z k2 hk2 rfl
    | nil => exact other
    | text _ _ => exact other
    | shw _ _ => exact other
    | num _ => exact other
    | cho _ _ _ _ => exact other
  have hk : f.key = keyOf k := hk
  have kvk : kV f.key = k := by rw [hk, keyOf_v kk.1.1]
  have hno : f.key ≠ othK := fun z => kk.2 (by rw [← kvk, z]; rfl)
  have hnew : keyOf (fk r) ∉ f.kv.map (·.1) ++ [f.key] := fun z => by
    rcases List.mem_append.mp z with z | z
    · obtain ⟨q, hq, e⟩ := List.mem_map.mp z
      exact kf.2.2 (by rw [← keyOf_v kf.1.1, ← e]; exact List.mem_map_of_mem (f := fun q => kV q.1) hq)
    · have z : keyOf (fk r) = f.key := by simpa using z
      exact kf.2.1 (by rw [← kvk, ← z, keyOf_v kf.1.1])
  have ek : (f.kv ++ [(f.key, m)]).map (fun q => kV q.1) = (f.kv.map fun q => kV q.1) ++ [k] := by
    rw [List.map_append]
    show _ ++ [kV f.key] = _
    rw [kvk]
  show ∀ x, x <+: (m.lw ++ (125 :: tailK (fk r) ++ lbT r o)) ++ s → _
  rw [List.append_assoc, List.append_assoc]
  refine Mm (f :: fs) .nil _ Rm Wc.2.2.1 (cut_case kf.1 hno hnew (tail_one kf.1) ?_)
  have ej : jt [] (T.nil.app m.spl) = m := jt_spl m Pm
  rw [ej]
  refine Cr o (nextF f m (keyOf (fk r))) fs s Mo Rr Wc.2.2.2 Ro Wo Po (by
      show (((f.kv ++ [(f.key, m)]).map fun q => kV q.1) ++ r.keys).Nodup
      rw [ek, List.append_assoc]
      exact nd') (by
      intro q hq
      have hq : q ∈ ((f.kv ++ [(f.key, m)]).map fun q => kV q.1) ++ r.keys := hq
      rw [ek, List.append_assoc] at hq
      exact ks q hq) rfl ?_
  intro x hx
  have := hs x hx
  show Cut (f.ar.app (.cho _ ((casT (f.kv ++ [(f.key, m)])).app r) o .nil)) fs x
  rw [casT_app, app_assoc]
  show Cut (f.ar.app (.cho _ ((casT f.kv).app (.cas (kV f.key) m (T.nil.app r))) o .nil)) fs x
  rw [kvk]
  exact this
theorem fk_keyL {b : Bool} {cs : T} (hk : ∀ k ∈ cs.keys, KeyL b k ∧ k ≠ .str "other") : KeyL b (fk cs) := by
  cases cs with
  | cas k m r => exact (hk k List.mem_cons_self).1
  | nil => exact key_otherL b
  | text _ _ => exact key_otherL b
  | shw _ _ => exact key_otherL b
  | num _ => exact key_otherL b
  | cho _ _ _ _ => exact key_otherL b
theorem cdM_cho {hd : List V} {cs o r : T} (IHc : CdC cs) (IHo : CdM o) (IH : CdM r) : CdM (.cho hd cs o r) := by
  intro fs t0 s R W hs
  obtain ⟨⟨b, nm, off, rfl, hG, nd, hk, Rc, Ro⟩, Po, Rr⟩ := R
  have fkk := fk_keyL hk
  have ex : (T.cho (hdV b nm off) cs o r).lw ++ s = (hdT (hdV b nm off) ++ tailK (fk cs)) ++ (lbT cs o ++ (r.lw ++ s)) := by
    have := lb_lw o W.2.2.1
    show (hdT (hdV b nm off) ++ cs.lw ++ [32] ++ tl "other" ++ [32] ++ [123] ++ o.lw ++ [125] ++ [125] ++ r.lw) ++ s = _
    have e : (hdT (hdV b nm off) ++ tailK (fk cs)) ++ (lbT cs o ++ (r.lw ++ s)) = hdT (hdV b nm off) ++ ((tailK (fk cs) ++ lbT cs o) ++ (r.lw ++ s)) := by simp
    rw [e, ← this]
    simp
  rw [ex]
  have eb : anyB (⟨b, tl nm, off, [], keyOf (fk cs), t0⟩ :: fs) = (anyB fs || b) := by
    show (b || anyB fs) = _
    rw [Bool.or_comm]
  have hc : chkH (hdT (hdV b nm off) ++ tailK (fk cs)) = true := by
    cases b with
    | false => exact all_sel _ hG.2.1 _ fkk.2
    | true => exact all_plu _ hG.2.1 _ fkk.2
  refine cut_head hG.1 fkk.1 hG.2.2 hc (by rw [bal_app, head_two hG, tail_one fkk]; rfl) ?_
  refine IHc o ⟨b, tl nm, off, [], keyOf (fk cs), t0⟩ fs _ IHo (by rw [eb]; exact Rc) W.2.2.1 (by rw [eb]; exact Ro) W.2.2.2.1 Po nd hk rfl ?_
  refine IH fs _ s Rr W.2.2.2.2 ?_
  intro x hx
  rw [app_assoc]
  exact hs x hx
theorem cdC_no {t : T} (h : ¬ Wf t true) : CdC t := fun _ _ _ _ _ _ W => absurd W h
theorem cd_all : ∀ t : T, CdM t ∧ CdC t
  | .nil => ⟨fun fs t0 s _ _ hs => by
      have hs : ∀ x, x <+: s → Cut (t0.app .nil) fs x := hs
      rw [app_nil] at hs
      exact hs, cdC_nil⟩
  | .text x r => ⟨fun fs t0 s R W hs => by
      show ∀ y, y <+: (escL (tl x) ++ r.lw) ++ s → _
      rw [List.append_assoc]
      refine cut_signs (tl x) R.1 ((cd_all r).1 fs _ s R.2 W.2 ?_)
      intro y hy
      rw [app_assoc, sgn_app]
      exact hs y hy, cdC_no fun w => by cases w.1⟩
  | .shw n r => ⟨fun fs t0 s R W hs => by
      show ∀ y, y <+: ([123] ++ tl n ++ [125] ++ r.lw) ++ s → _
      rw [List.append_assoc]
      refine cut_show R.1 ((cd_all r).1 fs _ s R.2 W.2 ?_)
      intro y hy
      rw [app_assoc]
      exact hs y hy, cdC_no fun w => by cases w.1⟩
  | .num r => ⟨fun fs t0 s R W hs => by
      show ∀ y, y <+: ([35] ++ r.lw) ++ s → _
      rw [List.append_assoc]
      refine cut_num R.1 ((cd_all r).1 fs _ s R.2 W.2 ?_)
      intro y hy
      rw [app_assoc]
      exact hs y hy, cdC_no fun w => by cases w.1⟩
  | .cho hd cs o r => ⟨cdM_cho (cd_all cs).2 (cd_all o).1 (cd_all r).1, cdC_no fun w => by cases w.1⟩
  | .cas k m r => ⟨(fun _ _ _ _ W => by cases W.1), cdC_cas (cd_all m).1 (cd_all r).2⟩
/-- every beginning of a message's notation -/
theorem cut_all {t : T} {x : List Nat} (R : Rgc t false) (W : Wf t false) (h : x <+: t.lw) : Cut .nil [] x := by
  refine (cd_all t).1 [] .nil [] R W (fun y hy => ?_) x (by rw [List.append_nil]; exact h)
  rw [List.prefix_nil.mp hy]
  exact cut_nil _ _
/-! #### the law's messages -/
theorem hl_sel : ∀ n ∈ (["w", "kind"] : List Str), Hl (hdV false n 0) (hdT (hdV false n 0)) := fun n _ => by
  refine ⟨[], [], [32], [], ⟨fun _ h => (by cases h), Nat.zero_le _⟩, ⟨fun _ h => (by cases h), Nat.zero_le _⟩, ⟨⟨by simp, fun c hc => by simp at hc; exact .inl hc⟩, by simp⟩, ⟨fun _ h => (by cases h), Nat.zero_le _⟩, ?_⟩
  simp [hdT, hdV, kindS]
theorem hl_plu (n : Str) (off : Int) : Hl (hdV true n off) (hdT (hdV true n off)) := by
  refine ⟨[], [], [32], [], (if off = 0 then [] else [32] ++ offW off), ⟨fun _ h => (by cases h), Nat.zero_le _⟩, ⟨fun _ h => (by cases h), Nat.zero_le _⟩, ⟨⟨by simp, fun c hc => by simp at hc; exact .inl hc⟩, by simp⟩, ⟨fun _ h => (by cases h), Nat.zero_le _⟩, ?_, ?_⟩
  · simp [hdT, hdV, kindS]
  · by_cases h : off = 0
    · exact .inl ⟨h, if_pos h⟩
    · exact .inr ⟨h, [32], ⟨⟨by simp, fun c hc => by simp at hc; exact .inl hc⟩, by simp⟩, if_neg h⟩
theorem hdok_rc {hd ks : List V} {i j : Bool} (h : HdOk hd i j ks) : ∃ b nm off, hd = hdV b nm off ∧ HdL b nm off ∧ ks.Nodup ∧ (∀ k ∈ ks, KeyL b k ∧ k ≠ .str "other") ∧ j = (i || b) := by
  cases h with
  | sel hn hk =>
    rename_i n
    have hm : n ∈ (["w", "kind"] : List Str) := by rcases hn with rfl | rfl <;> decide
    exact ⟨false, n, 0, rfl, ⟨⟨hn_rd n (by rcases hn with rfl | rfl <;> decide), rfl⟩, List.mem_map_of_mem (f := fun n => [V.str "select", V.str n]) hm, hl_sel n hm⟩, hk.nodup nd_keys.1, fun k h => ⟨⟨(skeys_rd (hk.subset h)).1, List.mem_cons_of_mem _ (hk.subset h)⟩, (skeys_rd (hk.subset h)).2⟩, by simp⟩
  | plu hn ho hk =>
    rename_i n off
    have hm : hdV true n off ∈ pluHeads := by
      rcases hn with rfl | rfl <;> rcases ho with rfl | rfl | rfl <;> decide
    refine ⟨true, n, off, rfl, ⟨⟨hn_rd n (by rcases hn with rfl | rfl <;> decide), ho⟩, hm, hl_plu n off⟩, ?_, ?_, by simp⟩
    · rcases hk with hk | hk
      · exact hk.nodup nd_keys.2.1
      · exact hk.nodup nd_keys.2.2
    · intro k h
      have : k ∈ pkeys := by
        rcases hk with hk | hk
        · exact hk.subset h
        · exact List.mem_reverse.mp (hk.subset h)
      exact ⟨⟨(pkeys_rd this).1, List.mem_cons_of_mem _ this⟩, (pkeys_rd this).2⟩
theorem Gd.rgc : ∀ {t : T} {c : Bool} {d : Nat} {i : Bool}, Gd t c d i → Rgc t i
  | .nil, _, _, _, _ => trivial
  | .text s r, c, d, i, h => ⟨fun q hq => List.all_eq_true.mp (menu_rd s h.2.1).1 q hq, Gd.rgc h.2.2.2⟩
  | .shw n r, c, d, i, h => ⟨names_rd n h.2.1, Gd.rgc h.2.2⟩
  | .num r, c, d, i, h => ⟨h.2.1, Gd.rgc h.2.2⟩
  | .cho hd cs o r, c, d, i, h => by
    obtain ⟨h0, ⟨e, j, _, hh, hc, ho⟩, hr⟩ := h
    obtain ⟨b, nm, off, h1, h2, h3, h4, rfl⟩ := hdok_rc hh
    exact ⟨⟨b, nm, off, h1, h2, h3, h4, Gd.rgc hc, Gd.rgc ho⟩, Gd.pl ho, Gd.rgc hr⟩
  | .cas k m r, c, d, i, h => ⟨Gd.pl h.2.1, Gd.rgc h.2.1, Gd.rgc h.2.2⟩
end Mw

namespace Mw
open PySem L2
def stOf (l : List Nat) : Option (List Nat) → Int
  | none => -1
  | some z => ((l.length - z.length : Nat) : Int)
section
variable {P : Program} {w : World} {K : PySem.W.Frag} {mg : Str → Option Value} {base : Heap}
abbrev sOp : Stmt := top 33
theorem scOp : FnScope ["text", "depth", "place", "start", "turn"] ["text"] (defScope sOp) := ⟨rfl, rfl, rfl, by decide +kernel, rfl, by decide +kernel, by decide +kernel⟩
def spOp : Sp := fun vs H Q _ => ∃ (l : List Nat), vs = [.str (mkS l)] ∧ l.length < 5000000 ∧ ∀ p H', H p = none → Same H H' → H' p = some (.lst [.int (opF l 0).1, .int (stOf l (opF l 0).2)]) → Q (.ref p) H'
theorem opn_nil (n : Nat) (d : Int) : opn n [] d = (d, none) := by cases n <;> rfl
theorem suf_at {l y : List Nat} {c : Nat} (h : c :: y <:+ l) : l[l.length - (c :: y).length]? = some c := by
  obtain ⟨p, e⟩ := h
  rw [← e, List.length_append, Nat.add_sub_cancel, List.getElem?_append_right (Nat.le_refl _), Nat.sub_self]
  rfl
theorem cut_two {l x : List Nat} (h : x <:+ l) : cutS (mkS l) (some ((l.length - x.length : Nat) : Int)) (some (((l.length - x.length : Nat) : Int) + 2)) = mkS (x.take 2) := by
  have hl := h.length_le
  obtain ⟨p, e⟩ := h
  unfold cutS
  rw [show (((l.length - x.length : Nat) : Int) + 2) = ((l.length - x.length + 2 : Nat) : Int) from rfl, HT.sIx_nat, HT.sIx_nat, mk_len]
  show (⟨_⟩ : Str) = mkS _
  have hd : (mkS l).cps.toList = l := rfl
  rw [hd]
  have hp : l.length - x.length = p.length := by rw [← e, List.length_append]; omega
  rw [hp, ← e, List.length_append, Nat.min_eq_left (Nat.le_add_right p.length x.length), List.drop_left]
  have : (x.take (min (p.length + 2) (p.length + x.length) - p.length)) = x.take 2 := by
    by_cases h2 : 2 ≤ x.length
    · rw [Nat.min_eq_left (by omega), Nat.add_sub_cancel_left]
    · rw [Nat.min_eq_right (by omega), Nat.add_sub_cancel_left, List.take_of_length_le (Nat.le_refl _), List.take_of_length_le (by omega)]
  rw [this]
  rfl
theorem take2_eq (y : List Nat) : decide (V.str (mkS ((39 :: y).take 2)) = V.str "''") = decide (y.head? = some 39) := by
  have e : ("''" : Str) = mkS [39, 39] := by decide +kernel
  rw [e]
  by_cases h : y.head? = some 39
  · rw [decide_eq_true h]
    cases y with
    | nil => cases h
    | cons a y =>
      have h : a = 39 := by simpa using h
      subst h
      exact decide_eq_true rfl
  · rw [decide_eq_false h]
    refine decide_eq_false fun z => h ?_
    injection z with z
    have z := mk_inj z
    cases y with
    | nil => cases z
    | cons a y =>
      injection z with _ z
      injection z with z
      rw [z]
      rfl
theorem ok_op {f : Addr} {fd : FuncData} (F : Fun K "_law_open" "_law_open" sOp f fd) (mr : mg "range" = none) (ml : mg "len" = none) (mi : mg "int" = none) : FnOk P w K mg base CX0 1 f fd ["text"] spOp := by
  refine F.ok scOp (fun vs H Q E h => ?_) (fun cdv A outer s H vs Q E hr h => ?_)
  · obtain ⟨l, rfl, _⟩ := h
    rfl
  obtain ⟨l, rfl, hl, q⟩ := h
  have nd := scOp.nd
  refine ⟨_, (pss_cons (ps_set (i := 1) nd rfl (.inl rfl) pe_int)
      (pss_cons (ps_set (i := 2) nd rfl (.inl rfl) pe_int)
      (pss_cons (ps_set (i := 3) nd rfl (.inl rfl) (pe_un un_neg pe_int))
      (pss_cons (ps_for PassesOwn.never rfl (pi_range1 rfl mr (pa_cons (pe_callB call_len_str (by rfl) ml PySem.boot_len (pa_cons (pv 0) pa_nil)) pa_nil)) (pg_name (i := 4) nd rfl (.inl rfl)) (pss_one (ps_if (pt_cmpR op_lt (pv 2) (pe_callB call_len_str (by rfl) ml PySem.boot_len (pa_cons (pv 0) pa_nil)) (nomark _)) (pss_one (ps_if (pt_cmpR op_eq (pe_ix ix_str (pv 0) (pv 2) (fun _ _ => rfl)) pe_str (nomark _)) (pss_cons (ps_set (i := 3) nd rfl (.inl rfl) (pv 2))
      (pss_one (ps_set (i := 2) nd rfl (.inl rfl) (pe_op op_add (pe_op op_add (pv 2) pe_int) (pe_callTy call_int1 (by rfl) mi (by decide +kernel) (pa_cons (pe_cmpR op_ne (pe_slice sl_str (pv 0) (po_some (pv 2)) (po_some (pe_op op_add (pv 2) pe_int))) pe_str (nomark _)) pa_nil)))))) (pss_cons (ps_set (i := 1) nd rfl (.inl rfl) (pe_op op_sub (pe_op op_add (pv 1) (pe_callTy call_int1 (by rfl) mi (by decide +kernel) (pa_cons (pe_cmpR op_eq (pe_ix ix_str (pv 0) (pv 2) (fun _ _ => rfl)) pe_str (nomark _)) pa_nil))) (pe_callTy call_int1 (by rfl) mi (by decide +kernel) (pa_cons (pe_cmpR op_eq (pe_ix ix_str (pv 0) (pv 2) (fun _ _ => rfl)) pe_str (nomark _)) pa_nil))))
      (pss_one (ps_set (i := 2) nd rfl (.inl rfl) (pe_op op_add (pv 2) pe_int)))))) pss_nil)))
      (pss_cons (ps_if (pt_cmpR op_le (pv 2) (pe_callB call_len_str (by rfl) ml PySem.boot_len (pa_cons (pv 0) pa_nil)) (nomark _)) (pss_one (ps_set (i := 3) nd rfl (.inl rfl) (pe_un un_neg pe_int))) pss_nil)
      (pss_one (ps_ret (pe_lst (pa_cons (pv 1) (pa_cons (pv 3) pa_nil)))))))))), ?_⟩
  have ll : (mkS l).length ≤ sizeLine := by rw [mk_len]; exact le_line (by omega)
  have len : ((mkS l).length : Int) = (l.length : Int) := by rw [mk_len]
  have op0 : opF l 0 = opn l.length l 0 := rfl
  generalize hres : opF l 0 = res at q op0
  obtain ⟨rd, rs⟩ := res
  refine ⟨1, rfl, _, rfl, _, rfl, ll, _, rfl, by rw [len]; omega, by rw [len]; omega, ?_⟩
  rw [len, Int.toNat_natCast]
  refine for_range (lo := 0) (n := l.length) (fun i σ H' => ∃ (d p st : Int) (o4 : Option V), σ = [some (.str (mkS l)), some (.int d), some (.int p), some (.int st), o4] ∧ H' = H ∧
      ((∃ x, x <:+ l ∧ p = ((l.length - x.length : Nat) : Int) ∧ opn (l.length - i) x d = (rd, rs)) ∨ ((l.length : Int) < p ∧ d = rd ∧ ∃ z, rs = some z ∧ st = ((l.length - z.length : Nat) : Int))))
    ⟨0, 0, -1, none, rfl, rfl, .inl ⟨l, List.suffix_refl _, by rw [Nat.sub_self]; rfl, op0.symm⟩⟩ ?_ ?_
  · rintro i σ H' hi ⟨d, p, st, o4, rfl, rfl, hinv⟩
    refine ⟨_, rfl, _, rfl, _, rfl, ll, _, _, rfl, rfl, _, rfl, ?_⟩
    rw [len]
    obtain ⟨k, hk⟩ : ∃ k, l.length - i = k + 1 := ⟨l.length - i - 1, by omega⟩
    have hk' : l.length - (i + 1) = k := by omega
    rcases hinv with ⟨x, hx, rfl, hop⟩ | ⟨hp, hd, hz⟩
    · have xl := hx.length_le
      rw [hk] at hop
      cases x with
      | nil =>
        rw [decide_eq_false (show ¬ ((l.length - ([] : List Nat).length : Nat) : Int) < (l.length : Int) by show ¬ ((l.length - 0 : Nat) : Int) < _; omega)]
        exact ⟨d, _, st, _, rfl, rfl, .inl ⟨[], hx, rfl, by rw [hk', opn_nil]; exact hop⟩⟩
      | cons c y =>
        simp only [List.length_cons] at xl
        rw [decide_eq_true (show ((l.length - (c :: y).length : Nat) : Int) < (l.length : Int) by rw [List.length_cons]; omega)]
        have hy : y <:+ l := (List.suffix_cons c y).trans hx
        refine ⟨_, rfl, _, rfl, _, _, c, rfl, rfl, ll, atI_nat (suf_at hx), rfl, _, rfl, ?_⟩
        rw [show decide (V.str ⟨#[c]⟩ = V.str "'") = decide (c = 39) from str1_eq c 39]
        unfold opn at hop
        by_cases hc : c = 39
        · rw [if_pos hc] at hop
          rw [decide_eq_true hc]
          subst hc
          refine ⟨_, rfl, _, rfl, _, _, rfl, rfl, ?_⟩
          refine ⟨_, rfl, _, rfl, _, rfl, _, rfl, _, _, rfl, rfl, _, rfl, _, rfl, ll, ?_⟩
          rw [cut_two hx]
          refine ⟨rfl, .inr ⟨_, rfl, _, _, rfl, rfl, ?_⟩⟩
          rw [show (!decide (V.str (mkS ((39 :: y).take 2)) = V.str "''")) = !decide (y.head? = some 39) by rw [take2_eq]]
          by_cases h2 : y.head? = some 39
          · rw [if_pos h2] at hop
            rw [decide_eq_true h2]
            obtain ⟨y', rfl⟩ : ∃ y', y = 39 :: y' := by
              cases y with
              | nil => cases h2
              | cons a y => exact ⟨y, by have : a = 39 := by simpa using h2
                                         rw [this]⟩
            simp only [List.length_cons] at xl
            refine ⟨d, _, _, _, rfl, rfl, .inl ⟨y', (List.suffix_cons 39 y').trans hy, ?_, by rw [hk']; exact hop⟩⟩
            show ((l.length - (39 :: 39 :: y').length : Nat) : Int) + 2 + 0 = _
            simp only [List.length_cons]
            omega
          · rw [if_neg h2] at hop
            rw [decide_eq_false h2]
            by_cases h3 : 2 ≤ y.length
            · rw [if_pos h3] at hop
              refine ⟨d, _, _, _, rfl, rfl, .inl ⟨y.drop 2, (List.drop_suffix 2 y).trans hy, ?_, by rw [hk']; exact hop⟩⟩
              show ((l.length - (39 :: y).length : Nat) : Int) + 2 + 1 = _
              rw [List.length_drop, List.length_cons]
              omega
            · rw [if_neg h3] at hop
              cases hop
              refine ⟨_, _, _, _, rfl, rfl, .inr ⟨?_, rfl, _, rfl, rfl⟩⟩
              show _ < ((l.length - (39 :: y).length : Nat) : Int) + 2 + 1
              rw [List.length_cons]
              omega
        · rw [if_neg hc] at hop
          rw [decide_eq_false hc]
          refine ⟨_, rfl, _, rfl, _, rfl, _, _, c, rfl, rfl, ll, atI_nat (suf_at hx), rfl, .inr ⟨_, rfl, _, _, rfl, rfl, ?_⟩⟩
          refine ⟨_, rfl, _, rfl, _, _, c, rfl, rfl, ll, atI_nat (suf_at hx), rfl, .inr ⟨_, rfl, _, _, rfl, rfl, ?_⟩⟩
          rw [show decide (V.str ⟨#[c]⟩ = V.str "{") = decide (c = 123) from str1_eq c 123, show decide (V.str ⟨#[c]⟩ = V.str "}") = decide (c = 125) from str1_eq c 125]
          refine ⟨_, rfl, _, _, rfl, rfl, ?_⟩
          refine ⟨_, _, _, _, rfl, rfl, .inl ⟨y, hy, ?_, by rw [hk']; exact hop⟩⟩
          rw [List.length_cons]
          omega
    · rw [decide_eq_false (show ¬ p < (l.length : Int) by omega)]
      exact ⟨d, p, st, _, rfl, rfl, .inr ⟨hp, hd, hz⟩⟩
  · rintro σ H' ⟨d, p, st, o4, rfl, rfl, hinv⟩
    refine ⟨_, rfl, _, rfl, _, rfl, ll, _, _, rfl, rfl, _, rfl, ?_⟩
    rw [len]
    rcases hinv with ⟨x, hx, rfl, hop⟩ | ⟨hp, rfl, z, rfl, rfl⟩
    · rw [Nat.sub_self] at hop
      cases hop
      rw [decide_eq_true (show ((l.length - x.length : Nat) : Int) ≤ (l.length : Int) by omega)]
      exact ⟨1, rfl, _, rfl, _, rfl, by show 2 ≤ sizeLine; decide, fun p hp => q p _ hp (same_new hp _) upd_same⟩
    · rw [decide_eq_false (show ¬ p ≤ (l.length : Int) by omega)]
      exact ⟨_, rfl, _, rfl, by show 2 ≤ sizeLine; decide, fun p hp => q p _ hp (same_new hp _) upd_same⟩
end
end Mw

namespace Mw
open PySem L2
/-- isinstance(e, D), e an exception of just the class C, with fields or none -/
def rIsZ (K : PySem.W.Frag) (D a : Addr) (cls : Value) (d : Option Addr) : List V → Hp → VK → Prop := fun xs H Q => ∃ (C : Addr) (b : Bool), xs = [.ref a, .ref D] ∧ cls = .ref C ∧ IsC K C ∧ PySem.W.kitOne K (.ref C) (.ref D) = some b ∧ (d = none ∨ ∃ dd fs, d = some dd ∧ H dd = some (.xd fs)) ∧ Q (.bl b) H
theorem call_isZ {X : Cx} {a D : Addr} {oe : Obj} {cls : Value} {d : Option Addr} {pn : List (Addr × Obj)} (hz : Zc cls d oe) (hf : ∃ vs, oe.data = .fields vs) : CallR (X.suite a ((a, oe) :: pn)) (.builtin "isinstance") (rIsZ X.K D a cls d) := by
  intro pins s σ H xs us Q I r h
  obtain ⟨C, b, rfl, rfl, T, e1, hd, q⟩ := h
  cases r with
  | cons rx rr =>
    cases rr with
    | cons rt rr =>
      cases rr
      cases rx
      cases rt
      obtain ⟨hget, _⟩ := I.pin (a, oe) (List.mem_append.mpr (.inl List.mem_cons_self))
      obtain ⟨vs, hv⟩ := hf
      rcases hd with rfl | ⟨dd, fs, rfl, hdd⟩
      · have J : PySem.W.InstAt s.heap a oe C none := ⟨hget, hz.1, by unfold PySem.W.notCls; rw [hv] <;> rfl, by rw [hz.2]; trivial⟩
        exact PySem.W.kia_one (PySem.W.kitx_exc T.cl T.ga T.gg T.eb T.ca T.cg T.ct T.ob) I.kIn J e1 (fun z => nomatch z) fun tk => ⟨.bl b, H, I.kept (t' := tk) fun _ _ z => z, rfl, q⟩
      · have hx : ObjOk X.prog X.w H s.heap dd (.xd fs) := I.hok dd _ hdd
        obtain ⟨mA, hns, _⟩ := hx
        obtain ⟨od, ho, _⟩ := lookIn_ns hns
        have J : PySem.W.InstAt s.heap a oe C (some od) := ⟨hget, hz.1, by unfold PySem.W.notCls; rw [hv] <;> rfl, by rw [hz.2]; exact ho⟩
        exact PySem.W.kia_one (PySem.W.kitx_exc T.cl T.ga T.gg T.eb T.ca T.cg T.ct T.ob) I.kIn J e1 (fun z => nomatch z) fun tk => ⟨.bl b, H, I.kept (t' := tk) fun _ _ z => z, rfl, q⟩
end Mw

namespace Mw
open PySem L2
section
variable {P : Program} {w : World} {K : PySem.W.Frag} {mg : Str → Option Value} {base : Heap} {C C2 CT CE : Addr}
abbrev sLaw : Stmt := top 34
abbrev nLaw : List Str := ["script", "box", "message", "text", "turn", "cut", "depth", "start", "told", "e"]
theorem scLaw : FnScope nLaw ["script"] (defScope sLaw) := ⟨rfl, rfl, rfl, by decide +kernel, rfl, by decide +kernel, by decide +kernel⟩
def spLaw (K : PySem.W.Frag) : Sp := fun vs H Q _ => ∃ (a : Addr) (ns : List Int), vs = [.ref a] ∧ SqL K H a (ns.map V.int) ∧ ∀ H', Q (.bl true) H'
def toldV (n : Nat) : Rs T → V
  | .ok _ _ => .str "read"
  | .tok y => .int ((n - y.length : Nat) : Int)
  | .fin => .str "end"
theorem cut_to (l : List Nat) (j : Nat) : cutS (mkS l) none (some (j : Int)) = mkS (l.take j) := by
  unfold cutS
  rw [HT.sIx_nat, HT.sIx_none, mk_len]
  show (⟨_⟩ : Str) = mkS _
  have hd : (mkS l).cps.toList = l := rfl
  rw [hd, Nat.sub_zero, List.drop_zero]
  by_cases h : j ≤ l.length
  · rw [Nat.min_eq_left h]
    rfl
  · rw [Nat.min_eq_right (by omega), List.take_of_length_le (Nat.le_refl _), List.take_of_length_le (by omega)]
    rfl
theorem ok_law {f fG fD fM fW fO fP M : Addr} {fd fdG fdD fdM fdW fdO fdP : FuncData} (F : Fun K "law" "law" sLaw f fd)
    (gG : FnOk P w K mg base CX0 2 fG fdG ["script", "first", "last"] (spDigits K)) (bG : Binds K fdG ["script", "first", "last"] []) (kG : PySem.W.keepIn K (.ref fG) = true) (mG : mg "_law_digits" = some (.ref fG))
    (gD : FnOk P w K mg base CX0 1 fD fdD ["box", "many"] spDraw) (bD : Binds K fdD ["box", "many"] []) (kD : PySem.W.keepIn K (.ref fD) = true) (mD : mg "_law_draw" = some (.ref fD))
    (gM : FnOk P w K mg base CX0 7 fM fdM ["box", "depth", "inside"] (spMsg 2)) (bM : Binds K fdM ["box", "depth", "inside"] []) (kM : PySem.W.keepIn K (.ref fM) = true) (mM_ : mg "_law_message" = some (.ref fM))
    (gW : FnOk P w K mg base CX0 5 fW fdW ["box", "message", "loose"] (spWr 3)) (bW : Binds K fdW ["box", "message", "loose"] []) (kW : PySem.W.keepIn K (.ref fW) = true) (mW : mg "_law_written" = some (.ref fW))
    (gO : FnOk P w K mg base CX0 1 fO fdO ["text"] spOp) (bO : Binds K fdO ["text"] []) (kO : PySem.W.keepIn K (.ref fO) = true) (mO : mg "_law_open" = some (.ref fO))
    (GP : FnOk P w K mg base (L2.CX P w) 11 fP fdP ["text"] (spPm C C2 CT CE)) (bP : Binds K fdP ["text"] []) (kP : PySem.W.keepIn K (.ref fP) = true) (mP : mg "parse_message" = some (.ref fP))
    (mM : mg "MessagewaysError" = some (.ref M)) (EX : EX K mg "TokenError" CT M) (EY : Mw.EX K mg "EndError" CE M) (k12 : PySem.W.kitOne K (.ref CT) (.ref CE) = some false) (k21 : PySem.W.kitOne K (.ref CE) (.ref CT) = some false) (mi : mg "isinstance" = none) (mI : mg "int" = none) (mr : mg "range" = none) (ml : mg "len" = none) :
    FnOk P w K mg base CX0 12 f fd ["script"] (spLaw K) := by
  refine F.ok scLaw (fun vs H Q E h => ?_) (fun cdv A outer s H vs Q E hr h => ?_)
  · obtain ⟨a, ns, rfl, _⟩ := h
    rfl
  obtain ⟨a, ns, rfl, hS, q⟩ := h
  have nd := scLaw.nd
  refine ⟨_, (pss_cons (ps_set (i := 1) nd rfl (.inl rfl) (pe_lst (pa_cons (pe_call gG (hr.mono (by decide)) rfl mG kG bG .nil pass0 (pa_cons (pv 0) (pa_cons pe_int (pa_cons pe_int pa_nil)))) (pa_cons pe_int pa_nil))))
      (pss_cons (ps_set (i := 2) nd rfl (.inl rfl) (pe_call gM (hr.mono (by decide)) rfl mM_ kM bM .nil pass0 (pa_cons (pv 1) (pa_cons pe_int (pa_cons (pe_bl) pa_nil)))))
      (pss_cons (ps_set (i := 3) nd rfl (.inl rfl) (pe_call gW (hr.mono (by decide)) rfl mW kW bW .nil pass0 (pa_cons (pv 1) (pa_cons (pv 2) (pa_cons (pe_bl) pa_nil)))))
      (pss_cons (ps_for PassesOwn.never rfl (pi_range1 rfl mr (pa_cons pe_int pa_nil)) (pg_name (i := 4) nd rfl (.inl rfl)) (pss_cons (ps_set (i := 5) nd rfl (.inl rfl) (pe_slice sl_str (pv 3) po_none (po_some (pe_op op_mod (pe_callTy call_int1 (by rfl) mI (by decide +kernel) (pa_cons (pe_call gD (hr.mono (by decide)) rfl mD kD bD .nil pass0 (pa_cons (pv 1) (pa_cons pe_int pa_nil))) pa_nil)) (pe_op op_add (pe_callB (id := "len") (r := rLenS) call_len_str (by rfl) ml PySem.boot_len (pa_cons (pv 3) pa_nil)) pe_int)))))
      (pss_cons (ps_asg (pe_call gO (hr.mono (by decide)) rfl mO kO bO .nil pass0 (pa_cons (pv 5) pa_nil)) (pg_lst rfl (pgs_cons (pg_name (i := 6) nd rfl (.inl rfl)) (pgs_cons (pg_name (i := 7) nd rfl (.inl rfl)) pgs_nil))))
      (pss_cons (ps_set (i := 8) nd rfl (.inl rfl) pe_str)
      (Evl.pss_cut (ps_try_as (i := 9) (tb := fun W => tDrop (tCallS (spPm C C2 CT CE) (WE W) (tCons (tVar 5) tNil)))
    (ts := fun a cls d => tSeq (tAsg (tC (.str "other")) (gName 8)) (tSeq (tIfS (tB (tCB (rIsZ K CE a cls d) (tCons (tVar 9) (tCons (tC (.ref CE)) tNil)))) (tAsg (tC (.str "end")) (gName 8)) tNext) (tIfS (tB (tCB (rIsZ K CT a cls d) (tCons (tVar 9) (tCons (tC (.ref CT)) tNil)))) (tAsg (tXf a cls d CT "place" (tVar 9)) (gName 8)) tNext))) (Wout := fun _ _ _ _ => False) rfl rfl nd rfl rfl ⟨rfl, by decide, .inl mM⟩ takes0
    (fun W pn xe tk _ => pss_one (ps_expr (by exact pe_callS GP (hr.mono (by decide)) rfl mP kP bP (fun σ => passAt tk σ) (by exact (pa_cons (pv 5) pa_nil)))))
    (fun a oe cls d pn hz hf => pss_cons (ps_set (i := 8) nd rfl (.inl rfl) pe_str) (pss_cons (ps_if (pt_val (by exact (pe_callB (call_isZ hz hf) (by rfl) mi PyProof.Rows.boot_isinstance (pa_cons (pv 9) (pa_cons (pe_glob rfl EY.m (v := .ref CE) rfl) pa_nil))))) (pss_one (ps_set (i := 8) nd rfl (.inl rfl) pe_str)) pss_nil) (pss_one (ps_if (pt_val (by exact (pe_callB (call_isZ hz hf) (by rfl) mi PyProof.Rows.boot_isinstance (pa_cons (pv 9) (pa_cons (pe_glob rfl EX.m (v := .ref CT) rfl) pa_nil))))) (pss_one (ps_set (i := 8) nd rfl (.inl rfl) (pe_xf EX.F EX.no hz hf (pv 9)))) pss_nil)))))
      (pss_one (ps_if (pt_cmpR op_ge (pv 7) pe_int (nomark _)) (pss_one (ps_if (pt_cmpR op_ne (pv 8) (pv 7) (nomark _)) (pss_one (ps_ret (pe_bl))) pss_nil)) (pss_one (ps_if (PW.pt (pw_and (pt_cmpR op_eq (pv 6) pe_int (nomark _)) (pw_and1 (pt_cmpR op_ne (pv 8) pe_str (nomark _))))) (pss_one (ps_ret (pe_bl))) (pss_one (ps_if (PW.pt (pw_and (pt_cmpR op_gt (pv 6) pe_int (nomark _)) (pw_and (pt_cmpR op_ne (pv 8) pe_str (nomark _)) (pw_and1 (PW.pt (pw_or (pt_not (pt_val (by exact (pe_callB (id := "isinstance") (r := rIsi K) call_isi (by rfl) mi (by decide +kernel) (pa_cons (pv 8) (pa_cons (pe_bltn (v := .ty "int") (by rfl) mI (by decide +kernel) rfl) pa_nil)))))) (pw_or1 (pt_cmpR op_lt (pv 8) (pe_op op_sub (pe_callB (id := "len") (r := rLenS) call_len_str (by rfl) ml PySem.boot_len (pa_cons (pv 5) pa_nil)) pe_int) (nomark _))))))))) (pss_one (ps_ret (pe_bl))) pss_nil)))))))))))
      (pss_one (ps_ret pe_bl)))))), ?_⟩
  refine ⟨_, rfl, a, ns, rfl, hS, fun d H1 ds hd0 s1 hd => ⟨by show 2 ≤ sizeLine; decide, fun B hB => ?_⟩⟩
  have ndB : d ≠ B := ne_of_none hd hB
  generalize hH0 : upd H1 B (.lst [.ref d, .int 0]) = H0
  have hB0 : H0 B = some (.lst [.ref d, .int 0]) := by rw [← hH0]; exact upd_same
  have hbox : Box H0 B d := ⟨ds, 0, hB0, by rw [← hH0, upd_ne ndB]; exact hd, Int.le_refl 0⟩
  clear hH0
  refine ⟨_, rfl, B, d, false, rfl, hbox, fun r H3 t g3 b3 hat hgd hsz hlen => ?_⟩
  obtain ⟨tw, td⟩ := Gd.w hgd fun e => by cases e
  have tz : t.sz < 30000 := Nat.lt_of_le_of_lt hsz (by decide)
  have tsm : Sm t := Gd.sm hgd fun e => by cases e
  have trc := Gd.rgc hgd
  refine ⟨_, rfl, _, rfl, B, d, r, false, fr H0 H3, t, rfl, b3, fr_out, fr_old hB0, hat, tw, tsm, by omega, tz, fun l H4 hl g4 b4 => ?_⟩
  have el : l = t.lw := hl.2 rfl
  have ll : l.length < 2400000 := by
    have h1 := ln_len tsm hl.1
    have h2 : t.sz ≤ 23000 := Nat.le_trans hsz (by decide)
    omega
  have lS : (mkS l).length ≤ sizeLine := by rw [mk_len]; exact le_line (by omega)
  refine ⟨6, rfl, by decide, by decide, for_range (lo := 0) (n := 6) (fun i σ H' => (∃ o4 o5 o6 o7 o8 o9, σ = [some (.ref a), some (.ref B), some (.ref r), some (.str (mkS l)), o4, o5, o6, o7, o8, o9]) ∧ Box H' B d) ⟨⟨_, _, _, _, _, _, rfl⟩, b4⟩ ?_ ?_⟩
  · rintro i σ H5 hi ⟨⟨o4, o5, o6, o7, o8, o9, rfl⟩, b5⟩
    refine ⟨_, rfl, _, rfl, B, d, 900, rfl, by decide, b5, fun z H6 z0 z1 g6 b6 => ?_⟩
    have lI : ((mkS l).length : Int) = (l.length : Int) := by rw [mk_len]
    refine .inl ⟨_, rfl, _, rfl, _, rfl, lS, _, _, rfl, rfl, _, _, rfl, rfl, by rw [lI]; omega, _, rfl, _, rfl, lS, ?_⟩
    have hj0 : 0 ≤ z % (((mkS l).length : Int) + 1) := Int.emod_nonneg _ (by omega)
    have hj1 : z % (((mkS l).length : Int) + 1) < ((mkS l).length : Int) + 1 := Int.emod_lt_of_pos _ (by omega)
    obtain ⟨j, hj⟩ : ∃ j : Nat, z % (((mkS l).length : Int) + 1) = (j : Int) := ⟨(z % (((mkS l).length : Int) + 1)).toNat, by omega⟩
    rw [hj, lI] at hj1
    rw [hj, cut_to]
    have hx : l.take j <+: l := List.take_prefix _ _
    have xl : (l.take j).length ≤ l.length := by rw [List.length_take]; omega
    have hcut : Cut .nil [] (l.take j) := cut_all trc tw (by rw [← el]; exact hx)
    generalize l.take j = x at xl hcut ⊢
    refine ⟨_, rfl, x, rfl, by omega, fun p H7 hp s7 h7 => ?_⟩
    have b7 := b6.same s7
    refine ⟨p, _, rfl, SqL.of h7, rfl, _, _, rfl, _, _, rfl, rfl, ?_⟩
    have xS : (mkS x).length ≤ sizeLine := by rw [mk_len]; exact le_line (by omega)
    have xI : ((mkS x).length : Int) = (x.length : Int) := by rw [mk_len]
    refine ⟨fun σ' H' => (∃ o9, σ' = [some (.ref a), some (.ref B), some (.ref r), some (.str (mkS l)), some (.int (0 + i)), some (.str (mkS x)), some (.int (opF x 0).1), some (.int (stOf x (opF x 0).2)), some (toldV x.length (pm x)), o9]) ∧ Box H' B d, ?_, ?_⟩
    · refine ⟨_, rfl, ?_⟩
      refine pt_pm ⟨_, rfl, by rw [mk_len]; omega, ?_⟩
      show Kx CT CE (mkS x) H7 _ (pm x) _
      cases e : pm x with
      | ok u y => exact fun l' H8 s8 _ => ⟨⟨_, rfl⟩, b7.same s8⟩
      | tok y =>
        intro dx H8 hdx s8 hxd
        refine ⟨true, EX.ex, fun _ e he => ?_, fun z => Bool.noConfusion z⟩
        refine ⟨_, rfl, CT, false, rfl, rfl, EX.I, k12, .inr ⟨dx, _, rfl, hxd⟩, _, rfl, ?_⟩
        refine ⟨_, rfl, CT, true, rfl, rfl, EX.I, if_pos (by simp), .inr ⟨dx, _, rfl, hxd⟩, _, rfl, ?_⟩
        refine ⟨_, rfl, rfl, rfl, dx, _, _, rfl, hxd, rfl, ?_⟩
        have hp : ps (mkS x) y = ((x.length - y.length : Nat) : Int) := by
          show (((mkS x).length - y.length : Nat) : Int) = _
          rw [mk_len]
        rw [hp]
        exact ⟨⟨_, rfl⟩, b7.same s8⟩
      | fin =>
        intro H8 s8
        refine ⟨true, EY.ex, fun _ e he => ?_, fun z => Bool.noConfusion z⟩
        refine ⟨_, rfl, CE, true, rfl, rfl, EY.I, if_pos (by simp), .inl rfl, _, rfl, ?_⟩
        refine ⟨_, rfl, CE, false, rfl, rfl, EY.I, k21, .inl rfl, _, rfl, ?_⟩
        exact ⟨⟨_, rfl⟩, b7.same s8⟩
    · rintro σ' H8 ⟨⟨o9, rfl⟩, b8⟩
      unfold Cut at hcut
      have hcut : (match opF x 0 with
        | (_, some z) => pm x = .tok z
        | (d, none) => 0 ≤ d ∧ (d = 0 → ∃ u y, pm x = .ok u y) ∧ (0 < d → small (pm x))) := hcut
      generalize opF x 0 = res at hcut ⊢
      obtain ⟨dp, rs⟩ := res
      have fin : ∃ o4 o5 o6 o7 o8 o9', [some (.ref a), some (.ref B), some (.ref r), some (.str (mkS l)), some (.int (0 + i)), some (.str (mkS x)), some (.int dp), some (.int (stOf x rs)), some (toldV x.length (pm x)), o9] = [some (.ref a), some (.ref B), some (.ref r), some (.str (mkS l)), o4, o5, o6, o7, o8, o9'] := ⟨_, _, _, _, _, _, rfl⟩
      cases rs with
      | some z =>
        have hcut : pm x = .tok z := hcut
        refine ⟨_, rfl, _, _, rfl, rfl, _, rfl, ?_⟩
        rw [decide_eq_true (show (0 : Int) ≤ stOf x (some z) from Int.natCast_nonneg _)]
        rw [hcut]
        refine ⟨_, rfl, _, rfl, rfl, _, rfl, ?_⟩
        rw [show (!decide (toldV x.length (.tok z) = V.int (stOf x (some z)))) = false by rw [decide_eq_true (show toldV x.length (.tok z) = V.int (stOf x (some z)) from rfl)]; rfl]
        exact ⟨⟨_, _, _, _, _, _, rfl⟩, b8⟩
      | none =>
        obtain ⟨d0, h0, h1⟩ := (show 0 ≤ dp ∧ (dp = 0 → ∃ u y, pm x = .ok u y) ∧ (0 < dp → small (pm x)) from hcut)
        refine ⟨_, rfl, _, _, rfl, rfl, _, rfl, ?_⟩
        rw [show decide ((0 : Int) ≤ stOf x none) = false from rfl]
        refine ⟨_, rfl, rfl, _, rfl, ?_⟩
        by_cases hd : dp = 0
        · obtain ⟨u, y, e⟩ := h0 hd
          rw [e, hd]
          refine ⟨_, rfl, rfl, _, rfl, ?_⟩
          refine ⟨_, rfl, _, _, rfl, rfl, _, rfl, ?_⟩
          exact ⟨⟨_, _, _, _, _, _, rfl⟩, b8⟩
        · have hpos : 0 < dp := by omega
          rw [show decide (V.int dp = V.int 0) = false from decide_eq_false fun z => hd (by injection z)]
          refine ⟨_, rfl, _, _, rfl, rfl, _, rfl, ?_⟩
          rw [decide_eq_true hpos]
          rcases h1 hpos with e | ⟨y, e, hy⟩
          · rw [e]
            refine ⟨_, rfl, rfl, _, rfl, ?_⟩
            exact ⟨⟨_, _, _, _, _, _, rfl⟩, b8⟩
          · rw [e]
            refine ⟨_, rfl, rfl, _, rfl, ?_⟩
            rw [show (!decide (toldV x.length (.tok y) = V.str "end")) = true by rw [decide_eq_false (fun z => by cases z)]; rfl]
            refine ⟨_, rfl, .int ((x.length - y.length : Nat) : Int), .ty "int", .type "int", .type "int", true, rfl, .ty "int", .base (.int _), kit_ty (by decide +kernel), true, rfl, ?_⟩
            refine ⟨_, rfl, _, rfl, _, rfl, xS, _, _, rfl, rfl, _, _, rfl, rfl, _, rfl, ?_⟩
            rw [xI, decide_eq_false (show ¬ (((x.length - y.length : Nat) : Int) < (x.length : Int) - 8) by omega)]
            exact ⟨⟨_, _, _, _, _, _, rfl⟩, b8⟩
  · rintro σ H5 ⟨⟨o4, o5, o6, o7, o8, o9, rfl⟩, b5⟩
    exact q H5
end
end Mw

namespace Mw
open PySem L2
theorem both {P : Program} {w : World} {K : PySem.W.Frag} {mg : Str → Option Value} {base : Heap} {fD fT fS fP fM : Addr} {fdD fdT fdS fdP fdM : FuncData}
    (GD : FnOk P w K mg base CX0 1 fD fdD ["box", "many"] spDraw) (bD : Binds K fdD ["box", "many"] []) (kD : PySem.W.keepIn K (.ref fD) = true) (mD : mg "_law_draw" = some (.ref fD))
    (GT : FnOk P w K mg base CX0 2 fT fdT ["box"] spString) (bT : Binds K fdT ["box"] []) (kT : PySem.W.keepIn K (.ref fT) = true) (mT : mg "_law_string" = some (.ref fT))
    (FS : Fun K "_law_select" "_law_select" sSel fS fdS) (bS : Binds K fdS ["box", "depth", "inside"] []) (mS : mg "_law_select" = some (.ref fS))
    (FP : Fun K "_law_plural" "_law_plural" sPlu fP fdP) (bP : Binds K fdP ["box", "depth"] []) (mP : mg "_law_plural" = some (.ref fP))
    (FM : Fun K "_law_message" "_law_message" sMsg fM fdM) (bM : Binds K fdM ["box", "depth", "inside"] []) (mM : mg "_law_message" = some (.ref fM)) (mr : mg "range" = none) (ml : mg "len" = none) :
    ∀ d, FnOk P w K mg base CX0 (2 * d + 3) fM fdM ["box", "depth", "inside"] (spMsg d)
  | 0 => ok_msg (k := 2) (Nat.le_refl _) FM GD bD kD mD GT bT kT mT ((none_left fun vs H Q E ⟨_, _, _, e, h, _⟩ => by omega).mono (Nat.zero_le _)) bS FS.kp mS ((none_left fun vs H Q E ⟨_, _, e, h, _⟩ => by omega).mono (Nat.zero_le _)) bP FP.kp mP mr ml
  | d + 1 => by
    have ih := both GD bD kD mD GT bT kT mT FS bS mS FP bP mP FM bM mM mr ml d
    have hs := ok_sel (k := 2 * d + 3) (by omega) FS GD bD kD mD ih bM FM.kp mM
    have hp := ok_plu (k := 2 * d + 3) (by omega) FP GD bD kD mD ih bM FM.kp mM
    exact ok_msg (k := 2 * d + 4) (by omega) FM GD bD kD mD GT bT kT mT hs bS FS.kp mS hp bP FP.kp mP mr ml
def keyS : Value → Option Str
  | .str s _ => some s
  | _ => none
theorem keys_are {es : Array DictEntry} {ks : List Str} (h : es.toList.map (fun e => keyS e.key) = ks.map some) : Kg.KeysAre es ks := by
  have hl : es.size = ks.length := by
    have := congrArg List.length h
    simpa using this
  refine ⟨hl, fun i k hk => ?_⟩
  have hi : i < es.size := by rw [hl]; exact (List.getElem?_eq_some_iff.mp hk).1
  have h1 := congrArg (·[i]?) h
  simp only [List.getElem?_map, hk, Array.getElem?_toList, Array.getElem?_eq_getElem hi, Option.map_some] at h1
  refine ⟨hi, ?_⟩
  injection h1 with h1
  cases e : es[i].key with
  | str s t =>
    rw [e] at h1
    injection h1 with h1
    exact ⟨t, by rw [h1]⟩
  | _ => rw [e] at h1; cases h1
theorem ea_mk {K : PySem.W.Frag} {mg : Str → Option Value} {w : World} {ed : Addr} {es : Array DictEntry} {n : Nat} (g : mg "ESCAPES" = some (.ref ed)) (d : KDict K w ed es n) (hk : Kg.KeysAre es escKs) (A2 : ∀ c ∈ escN, ∃ u, PySem.W.nsIn K ed ⟨#[c]⟩ = some (some u) ∧ RelV (.str (mkS (escC c))) u) : EA K mg w ed es n := by
  refine ⟨g, d, fun c => ?_⟩
  by_cases hc : c ∈ escN
  · obtain ⟨u, h1, h2⟩ := A2 c hc
    exact ⟨some u, h1, fun v e => by injection e with e; rw [← e]; exact h2, fun e => by cases e⟩
  · refine ⟨none, ?_, (fun u e => by cases e), fun _ => ?_⟩
    · have hm : ∀ e ∈ es.toList, ∃ s t, e.key = .str s t ∧ s ∈ escKs := by
        intro e he
        obtain ⟨i, hi, rfl⟩ := List.getElem_of_mem he
        have hi' : i < es.size := by simpa using hi
        have hks : escKs[i]? = some (escKs[i]'(by rw [← hk.1]; exact hi')) := List.getElem?_eq_getElem _
        obtain ⟨hi2, t, ht⟩ := hk.2 i _ hks
        exact ⟨_, t, by simpa using ht, List.getElem_mem _⟩
      unfold PySem.W.nsIn
      rw [d.at_]
      have f1 : es.toList.find? (·.key.isStr ⟨#[c]⟩) = none := by
        rw [List.find?_eq_none]
        intro e he
        obtain ⟨s, t, e1, e2⟩ := hm e he
        rw [e1]
        intro z
        have z' : s = (⟨#[c]⟩ : Str) := eq_of_beq z
        rw [z'] at e2
        obtain ⟨c', h1, h2⟩ := List.mem_map.mp e2
        injection h2 with h2
        injection h2 with h2
        injection h2 with h2
        rw [← h2] at hc
        exact hc h1
      have f2 : es.toList.any (·.refKey) = false := by
        rw [List.any_eq_false]
        intro e he
        obtain ⟨s, t, e1, _⟩ := hm e he
        unfold DictEntry.refKey
        rw [e1]
        exact Bool.false_ne_true
      simp only [f1, f2]
      rfl
    · rcases esc_cases c with ⟨h, _⟩ | ⟨_, _, _, _, h⟩
      · exact absurd h hc
      · exact h

set_option maxHeartbeats 0 in
theorem all_mk {l : PySem.W.OpenLaw} {w : World} {K : PySem.W.Frag} {h : Heap} {mg : Str → Option Value} {fa M f1 f2 f3 f4 f5 f6 f7 f8 f9 f10 f11 f12 f13 f14 f15 f16 f17 C C2 ed ct m1 m2 m3 m4 m5 m6 m7 m8 m9 m10 m11 m12 m13 m14 m15 m16 m17 m18 m19 X1 fB1 cc1 cda1 N1 X2 fB2 cc2 cda2 N2 : Addr} (X : K.In h) (G : h.Ns mainGlobals mg) (hfa : mg "law" = some (.ref fa))
    {od1 an1 od2 an2 od3 an3 od4 an4 od5 an5 od6 an6 od7 an7 od8 an8 od9 an9 od10 an10 od11 an11 od12 an12 od13 an13 od14 an14 od15 an15 od16 an16 od17 an17 mod1 man1 mod2 man2 mod3 man3 mod4 man4 mod5 man5 mod6 man6 mod7 man7 mod8 man8 mod9 man9 mod10 man10 mod11 man11 mod12 man12 mod13 man13 mod14 man14 mod15 man15 mod16 man16 mod17 man17 mod18 man18 mod19 man19 odB1 anB1 cdd1 cd01 dd1 odB2 anB2 cdd2 cd02 dd2 odT : Option Addr} {sl1 sl2 sl3 sl4 sl5 sl6 sl7 sl8 sl9 sl10 sl11 sl12 sl13 sl14 sl15 sl16 sl17 msl1 msl2 msl3 msl4 msl5 msl6 msl7 msl8 msl9 msl10 msl11 msl12 msl13 msl14 msl15 msl16 msl17 msl18 msl19 slB1 ccs1 cs01 slB2 ccs2 cs02 slT : Array (Option Value)} {oc1 kV1 dc1 pm1 cd1 ct1 oc2 kV2 dc2 pm2 cd2 ct2 oc3 kV3 dc3 pm3 cd3 ct3 oc4 kV4 dc4 pm4 cd4 ct4 oc5 kV5 dc5 pm5 cd5 ct5 oc6 kV6 dc6 pm6 cd6 ct6 oc7 kV7 dc7 pm7 cd7 ct7 oc8 kV8 dc8 pm8 cd8 ct8 oc9 kV9 dc9 pm9 cd9 ct9 oc10 kV10 dc10 pm10 cd10 ct10 oc11 kV11 dc11 pm11 cd11 ct11 oc12 kV12 dc12 pm12 cd12 ct12 oc13 kV13 dc13 pm13 cd13 ct13 oc14 kV14 dc14 pm14 cd14 ct14 oc15 kV15 dc15 pm15 cd15 ct15 oc16 kV16 dc16 pm16 cd16 ct16 oc17 kV17 dc17 pm17 cd17 ct17 moc1 mkV1 mdc1 mpm1 mcd1 mct1 moc2 mkV2 mdc2 mpm2 mcd2 mct2 moc3 mkV3 mdc3 mpm3 mcd3 mct3 moc4 mkV4 mdc4 mpm4 mcd4 mct4 moc5 mkV5 mdc5 mpm5 mcd5 mct5 moc6 mkV6 mdc6 mpm6 mcd6 mct6 moc7 mkV7 mdc7 mpm7 mcd7 mct7 moc8 mkV8 mdc8 mpm8 mcd8 mct8 moc9 mkV9 mdc9 mpm9 mcd9 mct9 moc10 mkV10 mdc10 mpm10 mcd10 mct10 moc11 mkV11 mdc11 mpm11 mcd11 mct11 moc12 mkV12 mdc12 mpm12 mcd12 mct12 moc13 mkV13 mdc13 mpm13 mcd13 mct13 moc14 mkV14 mdc14 mpm14 mcd14 mct14 moc15 mkV15 mdc15 mpm15 mcd15 mct15 moc16 mkV16 mdc16 mpm16 mcd16 mct16 moc17 mkV17 mdc17 mpm17 mcd17 mct17 moc18 mkV18 mdc18 mpm18 mcd18 mct18 moc19 mkV19 mdc19 mpm19 mcd19 mct19 ocB1 kVB1 dcB1 pmB1 ctB1 ccl1 ce01 ocB2 kVB2 dcB2 pmB2 ctB2 ccl2 ce02 : Value}
    {t1 t2 t3 t4 t5 t6 t7 u1 u2 u3 u4 : Tok} {es : Array DictEntry} {en nT : Nat} {itT : Array Value}
    {nm1 qn1 file1 nm2 qn2 file2 : Str} {bs1 sub1 bs2 sub2 : List Value} {sn1 sn2 : List Str} {ab1 ab2 : Bool} {col1 col2 : Option Bool} {n01 n11 n21 n31 n51 n02 n12 n22 n32 n52 : Option Value} {cvs1 cvs2 : Array Value} {tf1 tf2 : Tok}
    (a1 : PySem.W.nsIn K mainGlobals "text_nodes" = some (some (.ref f1))) (l1 : K.lookup f1 = some ⟨oc1, od1, .func (PySem.W.fnOf "text_nodes" "text_nodes" (defArgs sTn) (defBody sTn) (defScope sTn) .none kV1 dc1 pm1 an1 cd1 ct1), sl1⟩) (c1 : PySem.W.codeIn K cd1 "text_nodes" = true) (k1 : PySem.W.keepIn K (.ref f1) = true)
    (a2 : PySem.W.nsIn K mainGlobals "joined_texts" = some (some (.ref f2))) (l2 : K.lookup f2 = some ⟨oc2, od2, .func (PySem.W.fnOf "joined_texts" "joined_texts" (defArgs sJt) (defBody sJt) (defScope sJt) .none kV2 dc2 pm2 an2 cd2 ct2), sl2⟩) (c2 : PySem.W.codeIn K cd2 "joined_texts" = true) (k2 : PySem.W.keepIn K (.ref f2) = true)
    (a3 : PySem.W.nsIn K mainGlobals "is_text_sign" = some (some (.ref f3))) (l3 : K.lookup f3 = some ⟨oc3, od3, .func (PySem.W.fnOf "is_text_sign" "is_text_sign" (defArgs sIt) (defBody sIt) (defScope sIt) .none kV3 dc3 pm3 an3 cd3 ct3), sl3⟩) (c3 : PySem.W.codeIn K cd3 "is_text_sign" = true) (k3 : PySem.W.keepIn K (.ref f3) = true)
    (a4 : PySem.W.nsIn K mainGlobals "parse_message" = some (some (.ref f4))) (l4 : K.lookup f4 = some ⟨oc4, od4, .func (PySem.W.fnOf "parse_message" "parse_message" (defArgs sPm) (defBody sPm) (defScope sPm) .none kV4 dc4 pm4 an4 cd4 ct4), sl4⟩) (c4 : PySem.W.codeIn K cd4 "parse_message" = true) (k4 : PySem.W.keepIn K (.ref f4) = true)
    (a5 : PySem.W.nsIn K mainGlobals "_law_cell" = some (some (.ref f5))) (l5 : K.lookup f5 = some ⟨oc5, od5, .func (PySem.W.fnOf "_law_cell" "_law_cell" (defArgs sCell) (defBody sCell) (defScope sCell) .none kV5 dc5 pm5 an5 cd5 ct5), sl5⟩) (c5 : PySem.W.codeIn K cd5 "_law_cell" = true) (k5 : PySem.W.keepIn K (.ref f5) = true)
    (a6 : PySem.W.nsIn K mainGlobals "_law_digits" = some (some (.ref f6))) (l6 : K.lookup f6 = some ⟨oc6, od6, .func (PySem.W.fnOf "_law_digits" "_law_digits" (defArgs sDigits) (defBody sDigits) (defScope sDigits) .none kV6 dc6 pm6 an6 cd6 ct6), sl6⟩) (c6 : PySem.W.codeIn K cd6 "_law_digits" = true) (k6 : PySem.W.keepIn K (.ref f6) = true)
    (a7 : PySem.W.nsIn K mainGlobals "_law_draw" = some (some (.ref f7))) (l7 : K.lookup f7 = some ⟨oc7, od7, .func (PySem.W.fnOf "_law_draw" "_law_draw" (defArgs sDraw) (defBody sDraw) (defScope sDraw) .none kV7 dc7 pm7 an7 cd7 ct7), sl7⟩) (c7 : PySem.W.codeIn K cd7 "_law_draw" = true) (k7 : PySem.W.keepIn K (.ref f7) = true)
    (a8 : PySem.W.nsIn K mainGlobals "_law_string" = some (some (.ref f8))) (l8 : K.lookup f8 = some ⟨oc8, od8, .func (PySem.W.fnOf "_law_string" "_law_string" (defArgs sString) (defBody sString) (defScope sString) .none kV8 dc8 pm8 an8 cd8 ct8), sl8⟩) (c8 : PySem.W.codeIn K cd8 "_law_string" = true) (k8 : PySem.W.keepIn K (.ref f8) = true)
    (a9 : PySem.W.nsIn K mainGlobals "_law_select" = some (some (.ref f9))) (l9 : K.lookup f9 = some ⟨oc9, od9, .func (PySem.W.fnOf "_law_select" "_law_select" (defArgs sSel) (defBody sSel) (defScope sSel) .none kV9 dc9 pm9 an9 cd9 ct9), sl9⟩) (c9 : PySem.W.codeIn K cd9 "_law_select" = true) (k9 : PySem.W.keepIn K (.ref f9) = true)
    (a10 : PySem.W.nsIn K mainGlobals "_law_plural" = some (some (.ref f10))) (l10 : K.lookup f10 = some ⟨oc10, od10, .func (PySem.W.fnOf "_law_plural" "_law_plural" (defArgs sPlu) (defBody sPlu) (defScope sPlu) .none kV10 dc10 pm10 an10 cd10 ct10), sl10⟩) (c10 : PySem.W.codeIn K cd10 "_law_plural" = true) (k10 : PySem.W.keepIn K (.ref f10) = true)
    (a11 : PySem.W.nsIn K mainGlobals "_law_message" = some (some (.ref f11))) (l11 : K.lookup f11 = some ⟨oc11, od11, .func (PySem.W.fnOf "_law_message" "_law_message" (defArgs sMsg) (defBody sMsg) (defScope sMsg) .none kV11 dc11 pm11 an11 cd11 ct11), sl11⟩) (c11 : PySem.W.codeIn K cd11 "_law_message" = true) (k11 : PySem.W.keepIn K (.ref f11) = true)
    (a12 : PySem.W.nsIn K mainGlobals "_law_escaped" = some (some (.ref f12))) (l12 : K.lookup f12 = some ⟨oc12, od12, .func (PySem.W.fnOf "_law_escaped" "_law_escaped" (defArgs sLe) (defBody sLe) (defScope sLe) .none kV12 dc12 pm12 an12 cd12 ct12), sl12⟩) (c12 : PySem.W.codeIn K cd12 "_law_escaped" = true) (k12 : PySem.W.keepIn K (.ref f12) = true)
    (a13 : PySem.W.nsIn K mainGlobals "_law_gap" = some (some (.ref f13))) (l13 : K.lookup f13 = some ⟨oc13, od13, .func (PySem.W.fnOf "_law_gap" "_law_gap" (defArgs sGap) (defBody sGap) (defScope sGap) .none kV13 dc13 pm13 an13 cd13 ct13), sl13⟩) (c13 : PySem.W.codeIn K cd13 "_law_gap" = true) (k13 : PySem.W.keepIn K (.ref f13) = true)
    (a14 : PySem.W.nsIn K mainGlobals "_law_one_gap" = some (some (.ref f14))) (l14 : K.lookup f14 = some ⟨oc14, od14, .func (PySem.W.fnOf "_law_one_gap" "_law_one_gap" (defArgs sOne) (defBody sOne) (defScope sOne) .none kV14 dc14 pm14 an14 cd14 ct14), sl14⟩) (c14 : PySem.W.codeIn K cd14 "_law_one_gap" = true) (k14 : PySem.W.keepIn K (.ref f14) = true)
    (a15 : PySem.W.nsIn K mainGlobals "_law_written" = some (some (.ref f15))) (l15 : K.lookup f15 = some ⟨oc15, od15, .func (PySem.W.fnOf "_law_written" "_law_written" (defArgs sWr) (defBody sWr) (defScope sWr) .none kV15 dc15 pm15 an15 cd15 ct15), sl15⟩) (c15 : PySem.W.codeIn K cd15 "_law_written" = true) (k15 : PySem.W.keepIn K (.ref f15) = true)
    (a16 : PySem.W.nsIn K mainGlobals "_law_open" = some (some (.ref f16))) (l16 : K.lookup f16 = some ⟨oc16, od16, .func (PySem.W.fnOf "_law_open" "_law_open" (defArgs sOp) (defBody sOp) (defScope sOp) .none kV16 dc16 pm16 an16 cd16 ct16), sl16⟩) (c16 : PySem.W.codeIn K cd16 "_law_open" = true) (k16 : PySem.W.keepIn K (.ref f16) = true)
    (a17 : PySem.W.nsIn K mainGlobals "law" = some (some (.ref f17))) (l17 : K.lookup f17 = some ⟨oc17, od17, .func (PySem.W.fnOf "law" "law" (defArgs sLaw) (defBody sLaw) (defScope sLaw) .none kV17 dc17 pm17 an17 cd17 ct17), sl17⟩) (c17 : PySem.W.codeIn K cd17 "law" = true) (k17 : PySem.W.keepIn K (.ref f17) = true)
    (aC : PySem.W.nsIn K mainGlobals "Reader" = some (some (.ref C)))
    (mk1C : PySem.W.makesIn K C = true)
    (mk4C : PySem.W.keepIn K (.ref C) = true)
    (pgC : PySem.W.plainGet K C Str.empty = true)
    (hdC : PySem.W.hasDictIn K C = true)
    (poC : PySem.W.plainOver K C = true)
    (saC : PySem.W.findIn K (.ref C) "__setattr__" = some (some (.builtin "object.__setattr__")))
    (aC2 : PySem.W.nsIn K mainGlobals "OpenChoice" = some (some (.ref C2)))
    (mk1C2 : PySem.W.makesIn K C2 = true)
    (mk4C2 : PySem.W.keepIn K (.ref C2) = true)
    (pgC2 : PySem.W.plainGet K C2 Str.empty = true)
    (hdC2 : PySem.W.hasDictIn K C2 = true)
    (poC2 : PySem.W.plainOver K C2 = true)
    (saC2 : PySem.W.findIn K (.ref C2) "__setattr__" = some (some (.builtin "object.__setattr__")))
    (nC_text : PySem.W.findIn K (.ref C) "text" = some none)
    (nC_place : PySem.W.findIn K (.ref C) "place" = some none)
    (nC_nodes : PySem.W.findIn K (.ref C) "nodes" = some none)
    (nC_choices : PySem.W.findIn K (.ref C) "choices" = some none)
    (nC_plurals : PySem.W.findIn K (.ref C) "plurals" = some none)
    (nO_head : PySem.W.findIn K (.ref C2) "head" = some none)
    (nO_around : PySem.W.findIn K (.ref C2) "around" = some none)
    (nO_cases : PySem.W.findIn K (.ref C2) "cases" = some none)
    (nO_key : PySem.W.findIn K (.ref C2) "key" = some none)
    (ma1 : PySem.W.findIn K (.ref C2) "__init__" = some (some (.ref m1)))
    (ml1 : K.lookup m1 = some ⟨moc1, mod1, .func (PySem.W.fnOf "__init__" "OpenChoice.__init__" (defArgs sOi) (defBody sOi) (defScope sOi) .none mkV1 mdc1 mpm1 man1 mcd1 mct1), msl1⟩)
    (mc1 : PySem.W.codeIn K mcd1 "OpenChoice.__init__" = true)
    (mf1 : PySem.W.isFn K (.ref m1) = true)
    (mk1 : PySem.W.keepIn K (.ref m1) = true)
    (ma2 : PySem.W.findIn K (.ref C2) "closed" = some (some (.ref m2)))
    (ml2 : K.lookup m2 = some ⟨moc2, mod2, .func (PySem.W.fnOf "closed" "OpenChoice.closed" (defArgs sOd) (defBody sOd) (defScope sOd) .none mkV2 mdc2 mpm2 man2 mcd2 mct2), msl2⟩)
    (mc2 : PySem.W.codeIn K mcd2 "OpenChoice.closed" = true)
    (mf2 : PySem.W.isFn K (.ref m2) = true)
    (mk2 : PySem.W.keepIn K (.ref m2) = true)
    (ma3 : PySem.W.findIn K (.ref C) "__init__" = some (some (.ref m3)))
    (ml3 : K.lookup m3 = some ⟨moc3, mod3, .func (PySem.W.fnOf "__init__" "Reader.__init__" (defArgs sRi) (defBody sRi) (defScope sRi) .none mkV3 mdc3 mpm3 man3 mcd3 mct3), msl3⟩)
    (mc3 : PySem.W.codeIn K mcd3 "Reader.__init__" = true)
    (mf3 : PySem.W.isFn K (.ref m3) = true)
    (mk3 : PySem.W.keepIn K (.ref m3) = true)
    (ma4 : PySem.W.findIn K (.ref C) "sign_ahead" = some (some (.ref m4)))
    (ml4 : K.lookup m4 = some ⟨moc4, mod4, .func (PySem.W.fnOf "sign_ahead" "Reader.sign_ahead" (defArgs sSg) (defBody sSg) (defScope sSg) .none mkV4 mdc4 mpm4 man4 mcd4 mct4), msl4⟩)
    (mc4 : PySem.W.codeIn K mcd4 "Reader.sign_ahead" = true)
    (mf4 : PySem.W.isFn K (.ref m4) = true)
    (mk4 : PySem.W.keepIn K (.ref m4) = true)
    (ma5 : PySem.W.findIn K (.ref C) "skip_spaces" = some (some (.ref m5)))
    (ml5 : K.lookup m5 = some ⟨moc5, mod5, .func (PySem.W.fnOf "skip_spaces" "Reader.skip_spaces" (defArgs sSk) (defBody sSk) (defScope sSk) .none mkV5 mdc5 mpm5 man5 mcd5 mct5), msl5⟩)
    (mc5 : PySem.W.codeIn K mcd5 "Reader.skip_spaces" = true)
    (mf5 : PySem.W.isFn K (.ref m5) = true)
    (mk5 : PySem.W.keepIn K (.ref m5) = true)
    (ma6 : PySem.W.findIn K (.ref C) "take_sign" = some (some (.ref m6)))
    (ml6 : K.lookup m6 = some ⟨moc6, mod6, .func (PySem.W.fnOf "take_sign" "Reader.take_sign" (defArgs sTs) (defBody sTs) (defScope sTs) .none mkV6 mdc6 mpm6 man6 mcd6 mct6), msl6⟩)
    (mc6 : PySem.W.codeIn K mcd6 "Reader.take_sign" = true)
    (mf6 : PySem.W.isFn K (.ref m6) = true)
    (mk6 : PySem.W.keepIn K (.ref m6) = true)
    (ma7 : PySem.W.findIn K (.ref C) "take_row" = some (some (.ref m7)))
    (ml7 : K.lookup m7 = some ⟨moc7, mod7, .func (PySem.W.fnOf "take_row" "Reader.take_row" (defArgs sTr) (defBody sTr) (defScope sTr) .none mkV7 mdc7 mpm7 man7 mcd7 mct7), msl7⟩)
    (mc7 : PySem.W.codeIn K mcd7 "Reader.take_row" = true)
    (mf7 : PySem.W.isFn K (.ref m7) = true)
    (mk7 : PySem.W.keepIn K (.ref m7) = true)
    (ma8 : PySem.W.findIn K (.ref C) "take_name" = some (some (.ref m8)))
    (ml8 : K.lookup m8 = some ⟨moc8, mod8, .func (PySem.W.fnOf "take_name" "Reader.take_name" (defArgs sNa) (defBody sNa) (defScope sNa) .none mkV8 mdc8 mpm8 man8 mcd8 mct8), msl8⟩)
    (mc8 : PySem.W.codeIn K mcd8 "Reader.take_name" = true)
    (mf8 : PySem.W.isFn K (.ref m8) = true)
    (mk8 : PySem.W.keepIn K (.ref m8) = true)
    (ma9 : PySem.W.findIn K (.ref C) "take_number" = some (some (.ref m9)))
    (ml9 : K.lookup m9 = some ⟨moc9, mod9, .func (PySem.W.fnOf "take_number" "Reader.take_number" (defArgs sTm) (defBody sTm) (defScope sTm) .none mkV9 mdc9 mpm9 man9 mcd9 mct9), msl9⟩)
    (mc9 : PySem.W.codeIn K mcd9 "Reader.take_number" = true)
    (mf9 : PySem.W.isFn K (.ref m9) = true)
    (mk9 : PySem.W.keepIn K (.ref m9) = true)
    (ma10 : PySem.W.findIn K (.ref C) "take_kind" = some (some (.ref m10)))
    (ml10 : K.lookup m10 = some ⟨moc10, mod10, .func (PySem.W.fnOf "take_kind" "Reader.take_kind" (defArgs sTk) (defBody sTk) (defScope sTk) .none mkV10 mdc10 mpm10 man10 mcd10 mct10), msl10⟩)
    (mc10 : PySem.W.codeIn K mcd10 "Reader.take_kind" = true)
    (mf10 : PySem.W.isFn K (.ref m10) = true)
    (mk10 : PySem.W.keepIn K (.ref m10) = true)
    (ma11 : PySem.W.findIn K (.ref C) "take_offset" = some (some (.ref m11)))
    (ml11 : K.lookup m11 = some ⟨moc11, mod11, .func (PySem.W.fnOf "take_offset" "Reader.take_offset" (defArgs sTo) (defBody sTo) (defScope sTo) .none mkV11 mdc11 mpm11 man11 mcd11 mct11), msl11⟩)
    (mc11 : PySem.W.codeIn K mcd11 "Reader.take_offset" = true)
    (mf11 : PySem.W.isFn K (.ref m11) = true)
    (mk11 : PySem.W.keepIn K (.ref m11) = true)
    (ma12 : PySem.W.findIn K (.ref C) "take_plural_key" = some (some (.ref m12)))
    (ml12 : K.lookup m12 = some ⟨moc12, mod12, .func (PySem.W.fnOf "take_plural_key" "Reader.take_plural_key" (defArgs sTq) (defBody sTq) (defScope sTq) .none mkV12 mdc12 mpm12 man12 mcd12 mct12), msl12⟩)
    (mc12 : PySem.W.codeIn K mcd12 "Reader.take_plural_key" = true)
    (mf12 : PySem.W.isFn K (.ref m12) = true)
    (mk12 : PySem.W.keepIn K (.ref m12) = true)
    (ma13 : PySem.W.findIn K (.ref C) "begin_case" = some (some (.ref m13)))
    (ml13 : K.lookup m13 = some ⟨moc13, mod13, .func (PySem.W.fnOf "begin_case" "Reader.begin_case" (defArgs sBc) (defBody sBc) (defScope sBc) .none mkV13 mdc13 mpm13 man13 mcd13 mct13), msl13⟩)
    (mc13 : PySem.W.codeIn K mcd13 "Reader.begin_case" = true)
    (mf13 : PySem.W.isFn K (.ref m13) = true)
    (mk13 : PySem.W.keepIn K (.ref m13) = true)
    (ma14 : PySem.W.findIn K (.ref C) "begin_choice" = some (some (.ref m14)))
    (ml14 : K.lookup m14 = some ⟨moc14, mod14, .func (PySem.W.fnOf "begin_choice" "Reader.begin_choice" (defArgs sBh) (defBody sBh) (defScope sBh) .none mkV14 mdc14 mpm14 man14 mcd14 mct14), msl14⟩)
    (mc14 : PySem.W.codeIn K mcd14 "Reader.begin_choice" = true)
    (mf14 : PySem.W.isFn K (.ref m14) = true)
    (mk14 : PySem.W.keepIn K (.ref m14) = true)
    (ma15 : PySem.W.findIn K (.ref C) "read_argument" = some (some (.ref m15)))
    (ml15 : K.lookup m15 = some ⟨moc15, mod15, .func (PySem.W.fnOf "read_argument" "Reader.read_argument" (defArgs sRa) (defBody sRa) (defScope sRa) .none mkV15 mdc15 mpm15 man15 mcd15 mct15), msl15⟩)
    (mc15 : PySem.W.codeIn K mcd15 "Reader.read_argument" = true)
    (mf15 : PySem.W.isFn K (.ref m15) = true)
    (mk15 : PySem.W.keepIn K (.ref m15) = true)
    (ma16 : PySem.W.findIn K (.ref C) "end_message" = some (some (.ref m16)))
    (ml16 : K.lookup m16 = some ⟨moc16, mod16, .func (PySem.W.fnOf "end_message" "Reader.end_message" (defArgs sEm) (defBody sEm) (defScope sEm) .none mkV16 mdc16 mpm16 man16 mcd16 mct16), msl16⟩)
    (mc16 : PySem.W.codeIn K mcd16 "Reader.end_message" = true)
    (mf16 : PySem.W.isFn K (.ref m16) = true)
    (mk16 : PySem.W.keepIn K (.ref m16) = true)
    (ma17 : PySem.W.findIn K (.ref C) "read_escape" = some (some (.ref m17)))
    (ml17 : K.lookup m17 = some ⟨moc17, mod17, .func (PySem.W.fnOf "read_escape" "Reader.read_escape" (defArgs sRe) (defBody sRe) (defScope sRe) .none mkV17 mdc17 mpm17 man17 mcd17 mct17), msl17⟩)
    (mc17 : PySem.W.codeIn K mcd17 "Reader.read_escape" = true)
    (mf17 : PySem.W.isFn K (.ref m17) = true)
    (mk17 : PySem.W.keepIn K (.ref m17) = true)
    (ma18 : PySem.W.findIn K (.ref C) "read_sign" = some (some (.ref m18)))
    (ml18 : K.lookup m18 = some ⟨moc18, mod18, .func (PySem.W.fnOf "read_sign" "Reader.read_sign" (defArgs sRs) (defBody sRs) (defScope sRs) .none mkV18 mdc18 mpm18 man18 mcd18 mct18), msl18⟩)
    (mc18 : PySem.W.codeIn K mcd18 "Reader.read_sign" = true)
    (mf18 : PySem.W.isFn K (.ref m18) = true)
    (mk18 : PySem.W.keepIn K (.ref m18) = true)
    (ma19 : PySem.W.findIn K (.ref C) "read_next" = some (some (.ref m19)))
    (ml19 : K.lookup m19 = some ⟨moc19, mod19, .func (PySem.W.fnOf "read_next" "Reader.read_next" (defArgs sRn) (defBody sRn) (defScope sRn) .none mkV19 mdc19 mpm19 man19 mcd19 mct19), msl19⟩)
    (mc19 : PySem.W.codeIn K mcd19 "Reader.read_next" = true)
    (mf19 : PySem.W.isFn K (.ref m19) = true)
    (mk19 : PySem.W.keepIn K (.ref m19) = true)
    (k_LETTERS : PySem.W.nsIn K mainGlobals "LETTERS" = some (some (.str lettersS t1)))
    (k_FIGURES : PySem.W.nsIn K mainGlobals "FIGURES" = some (some (.str figuresS t2)))
    (k_SPACES : PySem.W.nsIn K mainGlobals "SPACES" = some (some (.str " \n" t3)))
    (k_OFFSET_MARK : PySem.W.nsIn K mainGlobals "OFFSET_MARK" = some (some (.str "offset:" t4)))
    (k_MOST_LETTERS : PySem.W.nsIn K mainGlobals "MOST_LETTERS" = some (some (.int 8 t5)))
    (k_OFFSET_FIGURES : PySem.W.nsIn K mainGlobals "OFFSET_FIGURES" = some (some (.int 1 t6)))
    (k_KEY_FIGURES : PySem.W.nsIn K mainGlobals "KEY_FIGURES" = some (some (.int 3 t7)))
    (aE : PySem.W.nsIn K mainGlobals "ESCAPES" = some (some (.ref ed)))
    (xE : K.lookup ed = some ⟨.type "dict", none, .dict es en, #[]⟩)
    (litE : PySem.W.KeysLit w.params es.toList)
    (lowE : (ed == sysModules) = false)
    (keysE : es.toList.map (fun e => keyS e.key) = escKs.map some)
    (q1 : PySem.W.nsIn K ed "'" = some (some (.str "''" u1)))
    (q2 : PySem.W.nsIn K ed "{" = some (some (.str "'{'" u2)))
    (q3 : PySem.W.nsIn K ed "}" = some (some (.str "'}'" u3)))
    (q4 : PySem.W.nsIn K ed "#" = some (some (.str "'#'" u4)))
    (aT : PySem.W.nsIn K mainGlobals "CATEGORIES" = some (some (.ref ct)))
    (xT : K.lookup ct = some ⟨.type "tuple", odT, .seq itT nT, slT⟩)
    (szT : itT.size ≤ sizeLine)
    (vT : Vals catV itT.toList)
    (EaM : PySem.W.nsIn K mainGlobals "MessagewaysError" = some (some (.ref M)))
    (EebM : PySem.W.subIn K (.ref M) (.type "BaseException") = some true)
    (EhdM : PySem.W.hasDictIn K M = true)
    (EtM : PySem.W.typeIn K (.ref M) = some (.type "type"))
    (Eop : PySem.W.nsIn K cStatics "thirdparty.any" = some none)
    (Ecg : PySem.W.specialIn K (.builtin "object.__class__") "__get__" = some (some (.builtin "getset_descriptor.__get__")))
    (Ect : PySem.W.takesIn K (.builtin "object.__class__") = some true)
    (Etop : (l.prog.main.scope.names.lookup ("super" : Str)).isSome = false)
    (EaC1 : PySem.W.nsIn K mainGlobals "TokenError" = some (some (.ref X1)))
    (ExC1 : K.lookup X1 = some (excClassObj nm1 qn1 X1 N1 bs1 [.ref M, .type "ValueError", .type "Exception", .type "BaseException", .type "object"] true sn1 sub1 ab1 col1 dd1 n01 n11 n21 n31 n51 "ValueError.__new__"))
    (Esa1 : PySem.W.findIn K (.ref X1) "__setattr__" = some (some (.builtin "object.__setattr__")))
    (Ega1 : PySem.W.findIn K (.ref X1) "__getattribute__" = some (some (.builtin "BaseException.__getattribute__")))
    (Egg1 : PySem.W.findIn K (.ref X1) "__getattr__" = some none)
    (Eno1 : PySem.W.findIn K (.ref X1) "place" = some none)
    (EiC1 : PySem.W.findIn K (.ref X1) "__init__" = some (some (.ref fB1)))
    (EtI1 : PySem.W.typeIn K (.ref fB1) = some (.type "function"))
    (ElB1 : K.lookup fB1 = some ⟨ocB1, odB1, .func (PySem.W.fnX "__init__" "TokenError.__init__" (defArgs sTe) (defBody sTe) (defScope sTe) [("__class__", cc1)] .none kVB1 dcB1 pmB1 anB1 (.ref cda1) ctB1), slB1⟩)
    (EcB1 : PySem.W.codeIn K (.ref cda1) "TokenError.__init__" = true)
    (Elc1 : K.lookup cda1 = some ⟨ccl1, cdd1, .fields cvs1, ccs1⟩)
    (Ehv1 : cvs1[2]? = some (.str file1 tf1))
    (Ehf1 : ((l.prog.main.file : Str) == file1) = true)
    (Elx1 : K.lookup cc1 = some ⟨ce01, cd01, .cell (some (.ref X1)), cs01⟩)
    (Emr1 : PySem.W.mroIn K X1 (.ref X1) = some true)
    (Esm1 : PySem.W.ks_superIn K X1 X1 "__init__" = some (some (.builtin "ValueError.__init__")))
    (EiV1 : PySem.W.subIn K (.ref X1) (.type "ValueError") = some true)
    (Eeb1 : PySem.W.subIn K (.ref X1) (.type "BaseException") = some true)
    (EtC1 : PySem.W.typeIn K (.ref X1) = some (.type "type"))
    (EkC1 : PySem.W.keepIn K (.ref X1) = true)
    (EhdC1 : PySem.W.hasDictIn K X1 = true)
    (Eca1 : PySem.W.findIn K (.ref X1) "__class__" = some (some (.builtin "object.__class__")))
    (Eob1 : PySem.W.mroIn K X1 (.type "object") = some true)
    (EsCM1 : PySem.W.subIn K (.ref X1) (.ref M) = some true)
    (EaC2 : PySem.W.nsIn K mainGlobals "EndError" = some (some (.ref X2)))
    (ExC2 : K.lookup X2 = some (excClassObj nm2 qn2 X2 N2 bs2 [.ref M, .type "ValueError", .type "Exception", .type "BaseException", .type "object"] true sn2 sub2 ab2 col2 dd2 n02 n12 n22 n32 n52 "ValueError.__new__"))
    (Esa2 : PySem.W.findIn K (.ref X2) "__setattr__" = some (some (.builtin "object.__setattr__")))
    (Ega2 : PySem.W.findIn K (.ref X2) "__getattribute__" = some (some (.builtin "BaseException.__getattribute__")))
    (Egg2 : PySem.W.findIn K (.ref X2) "__getattr__" = some none)
    (Eno2 : PySem.W.findIn K (.ref X2) "place" = some none)
    (EiC2 : PySem.W.findIn K (.ref X2) "__init__" = some (some (.ref fB2)))
    (EtI2 : PySem.W.typeIn K (.ref fB2) = some (.type "function"))
    (ElB2 : K.lookup fB2 = some ⟨ocB2, odB2, .func (PySem.W.fnX "__init__" "EndError.__init__" (defArgs sEe) (defBody sEe) (defScope sEe) [("__class__", cc2)] .none kVB2 dcB2 pmB2 anB2 (.ref cda2) ctB2), slB2⟩)
    (EcB2 : PySem.W.codeIn K (.ref cda2) "EndError.__init__" = true)
    (Elc2 : K.lookup cda2 = some ⟨ccl2, cdd2, .fields cvs2, ccs2⟩)
    (Ehv2 : cvs2[2]? = some (.str file2 tf2))
    (Ehf2 : ((l.prog.main.file : Str) == file2) = true)
    (Elx2 : K.lookup cc2 = some ⟨ce02, cd02, .cell (some (.ref X2)), cs02⟩)
    (Emr2 : PySem.W.mroIn K X2 (.ref X2) = some true)
    (Esm2 : PySem.W.ks_superIn K X2 X2 "__init__" = some (some (.builtin "ValueError.__init__")))
    (EiV2 : PySem.W.subIn K (.ref X2) (.type "ValueError") = some true)
    (Eeb2 : PySem.W.subIn K (.ref X2) (.type "BaseException") = some true)
    (EtC2 : PySem.W.typeIn K (.ref X2) = some (.type "type"))
    (EkC2 : PySem.W.keepIn K (.ref X2) = true)
    (EhdC2 : PySem.W.hasDictIn K X2 = true)
    (Eca2 : PySem.W.findIn K (.ref X2) "__class__" = some (some (.builtin "object.__class__")))
    (Eob2 : PySem.W.mroIn K X2 (.type "object") = some true)
    (EsCM2 : PySem.W.subIn K (.ref X2) (.ref M) = some true)
    (kne : X2 ≠ X1)
    (ks21 : PySem.W.subIn K (.ref X2) (.ref X1) = some false)
    (ks12 : PySem.W.subIn K (.ref X1) (.ref X2) = some false)
    (z1 : PySem.W.nsIn K mainGlobals "len" = some none) (z2 : PySem.W.nsIn K mainGlobals "list" = some none) (z3 : PySem.W.nsIn K mainGlobals "range" = some none) (z4 : PySem.W.nsIn K mainGlobals "int" = some none) (z5 : PySem.W.nsIn K mainGlobals "isinstance" = some none) (z6 : PySem.W.nsIn K mainGlobals "str" = some none) (z7 : PySem.W.nsIn K mainGlobals "bool" = some none) (z8 : PySem.W.nsIn K mainGlobals "super" = some none) :
    ∃ fd : FuncData, (∀ (s : Shared) (v : Value), BindsTo s fd ⟨[v], []⟩ [("script", v)]) ∧ ∀ base : Heap, K.In base → base.Ns mainGlobals mg → FnOk l.prog w K mg base CX0 12 fa fd ["script"] (spLaw K) := by
  have e := hfa.symm.trans (PySem.W.mg_of X G a17)
  cases e
  have F1 := fun_mk (st := sTn) l1 c1 k1
  have b1 := F1.binds (ps := ["strings"]) fun _ _ _ _ _ _ us hl => match us, hl with | [_], _ => rfl
  have g1 := PySem.W.mg_of X G a1
  have F2 := fun_mk (st := sJt) l2 c2 k2
  have b2 := F2.binds (ps := ["message"]) fun _ _ _ _ _ _ us hl => match us, hl with | [_], _ => rfl
  have g2 := PySem.W.mg_of X G a2
  have F3 := fun_mk (st := sIt) l3 c3 k3
  have b3 := F3.binds (ps := ["sign"]) fun _ _ _ _ _ _ us hl => match us, hl with | [_], _ => rfl
  have g3 := PySem.W.mg_of X G a3
  have F4 := fun_mk (st := sPm) l4 c4 k4
  have b4 := F4.binds (ps := ["text"]) fun _ _ _ _ _ _ us hl => match us, hl with | [_], _ => rfl
  have g4 := PySem.W.mg_of X G a4
  have F5 := fun_mk (st := sCell) l5 c5 k5
  have b5 := F5.binds (ps := ["script", "k"]) fun _ _ _ _ _ _ us hl => match us, hl with | [_, _], _ => rfl
  have g5 := PySem.W.mg_of X G a5
  have F6 := fun_mk (st := sDigits) l6 c6 k6
  have b6 := F6.binds (ps := ["script", "first", "last"]) fun _ _ _ _ _ _ us hl => match us, hl with | [_, _, _], _ => rfl
  have g6 := PySem.W.mg_of X G a6
  have F7 := fun_mk (st := sDraw) l7 c7 k7
  have b7 := F7.binds (ps := ["box", "many"]) fun _ _ _ _ _ _ us hl => match us, hl with | [_, _], _ => rfl
  have g7 := PySem.W.mg_of X G a7
  have F8 := fun_mk (st := sString) l8 c8 k8
  have b8 := F8.binds (ps := ["box"]) fun _ _ _ _ _ _ us hl => match us, hl with | [_], _ => rfl
  have g8 := PySem.W.mg_of X G a8
  have F9 := fun_mk (st := sSel) l9 c9 k9
  have b9 := F9.binds (ps := ["box", "depth", "inside"]) fun _ _ _ _ _ _ us hl => match us, hl with | [_, _, _], _ => rfl
  have g9 := PySem.W.mg_of X G a9
  have F10 := fun_mk (st := sPlu) l10 c10 k10
  have b10 := F10.binds (ps := ["box", "depth"]) fun _ _ _ _ _ _ us hl => match us, hl with | [_, _], _ => rfl
  have g10 := PySem.W.mg_of X G a10
  have F11 := fun_mk (st := sMsg) l11 c11 k11
  have b11 := F11.binds (ps := ["box", "depth", "inside"]) fun _ _ _ _ _ _ us hl => match us, hl with | [_, _, _], _ => rfl
  have g11 := PySem.W.mg_of X G a11
  have F12 := fun_mk (st := sLe) l12 c12 k12
  have b12 := F12.binds (ps := ["text"]) fun _ _ _ _ _ _ us hl => match us, hl with | [_], _ => rfl
  have g12 := PySem.W.mg_of X G a12
  have F13 := fun_mk (st := sGap) l13 c13 k13
  have b13 := F13.binds (ps := ["box", "loose"]) fun _ _ _ _ _ _ us hl => match us, hl with | [_, _], _ => rfl
  have g13 := PySem.W.mg_of X G a13
  have F14 := fun_mk (st := sOne) l14 c14 k14
  have b14 := F14.binds (ps := ["box", "loose"]) fun _ _ _ _ _ _ us hl => match us, hl with | [_, _], _ => rfl
  have g14 := PySem.W.mg_of X G a14
  have F15 := fun_mk (st := sWr) l15 c15 k15
  have b15 := F15.binds (ps := ["box", "message", "loose"]) fun _ _ _ _ _ _ us hl => match us, hl with | [_, _, _], _ => rfl
  have g15 := PySem.W.mg_of X G a15
  have F16 := fun_mk (st := sOp) l16 c16 k16
  have b16 := F16.binds (ps := ["text"]) fun _ _ _ _ _ _ us hl => match us, hl with | [_], _ => rfl
  have g16 := PySem.W.mg_of X G a16
  have F17 := fun_mk (st := sLaw) l17 c17 k17
  have b17 := F17.binds (ps := ["script"]) fun _ _ _ _ _ _ us hl => match us, hl with | [_], _ => rfl
  have g17 := PySem.W.mg_of X G a17
  have FM1 := fun_mk (st := sOi) ml1 mc1 mk1
  have bM1 := FM1.binds (ps := ["self", "head", "around"]) fun _ _ _ _ _ _ us hl => match us, hl with | [_, _, _], _ => rfl
  have M1 : Meth K C2 "__init__" m1 := ⟨ma1, mf1, mk1⟩
  have FM2 := fun_mk (st := sOd) ml2 mc2 mk2
  have bM2 := FM2.binds (ps := ["self", "other"]) fun _ _ _ _ _ _ us hl => match us, hl with | [_, _], _ => rfl
  have M2 : Meth K C2 "closed" m2 := ⟨ma2, mf2, mk2⟩
  have FM3 := fun_mk (st := sRi) ml3 mc3 mk3
  have bM3 := FM3.binds (ps := ["self", "text"]) fun _ _ _ _ _ _ us hl => match us, hl with | [_, _], _ => rfl
  have M3 : Meth K C "__init__" m3 := ⟨ma3, mf3, mk3⟩
  have FM4 := fun_mk (st := sSg) ml4 mc4 mk4
  have bM4 := FM4.binds (ps := ["self"]) fun _ _ _ _ _ _ us hl => match us, hl with | [_], _ => rfl
  have M4 : Meth K C "sign_ahead" m4 := ⟨ma4, mf4, mk4⟩
  have FM5 := fun_mk (st := sSk) ml5 mc5 mk5
  have bM5 := FM5.binds (ps := ["self"]) fun _ _ _ _ _ _ us hl => match us, hl with | [_], _ => rfl
  have M5 : Meth K C "skip_spaces" m5 := ⟨ma5, mf5, mk5⟩
  have FM6 := fun_mk (st := sTs) ml6 mc6 mk6
  have bM6 := FM6.binds (ps := ["self", "sign"]) fun _ _ _ _ _ _ us hl => match us, hl with | [_, _], _ => rfl
  have M6 : Meth K C "take_sign" m6 := ⟨ma6, mf6, mk6⟩
  have FM7 := fun_mk (st := sTr) ml7 mc7 mk7
  have bM7 := FM7.binds (ps := ["self", "signs"]) fun _ _ _ _ _ _ us hl => match us, hl with | [_, _], _ => rfl
  have M7 : Meth K C "take_row" m7 := ⟨ma7, mf7, mk7⟩
  have FM8 := fun_mk (st := sNa) ml8 mc8 mk8
  have bM8 := FM8.binds (ps := ["self"]) fun _ _ _ _ _ _ us hl => match us, hl with | [_], _ => rfl
  have M8 : Meth K C "take_name" m8 := ⟨ma8, mf8, mk8⟩
  have FM9 := fun_mk (st := sTm) ml9 mc9 mk9
  have bM9 := FM9.binds (ps := ["self", "most"]) fun _ _ _ _ _ _ us hl => match us, hl with | [_, _], _ => rfl
  have M9 : Meth K C "take_number" m9 := ⟨ma9, mf9, mk9⟩
  have FM10 := fun_mk (st := sTk) ml10 mc10 mk10
  have bM10 := FM10.binds (ps := ["self"]) fun _ _ _ _ _ _ us hl => match us, hl with | [_], _ => rfl
  have M10 : Meth K C "take_kind" m10 := ⟨ma10, mf10, mk10⟩
  have FM11 := fun_mk (st := sTo) ml11 mc11 mk11
  have bM11 := FM11.binds (ps := ["self"]) fun _ _ _ _ _ _ us hl => match us, hl with | [_], _ => rfl
  have M11 : Meth K C "take_offset" m11 := ⟨ma11, mf11, mk11⟩
  have FM12 := fun_mk (st := sTq) ml12 mc12 mk12
  have bM12 := FM12.binds (ps := ["self"]) fun _ _ _ _ _ _ us hl => match us, hl with | [_], _ => rfl
  have M12 : Meth K C "take_plural_key" m12 := ⟨ma12, mf12, mk12⟩
  have FM13 := fun_mk (st := sBc) ml13 mc13 mk13
  have bM13 := FM13.binds (ps := ["self"]) fun _ _ _ _ _ _ us hl => match us, hl with | [_], _ => rfl
  have M13 : Meth K C "begin_case" m13 := ⟨ma13, mf13, mk13⟩
  have FM14 := fun_mk (st := sBh) ml14 mc14 mk14
  have bM14 := FM14.binds (ps := ["self", "name"]) fun _ _ _ _ _ _ us hl => match us, hl with | [_, _], _ => rfl
  have M14 : Meth K C "begin_choice" m14 := ⟨ma14, mf14, mk14⟩
  have FM15 := fun_mk (st := sRa) ml15 mc15 mk15
  have bM15 := FM15.binds (ps := ["self"]) fun _ _ _ _ _ _ us hl => match us, hl with | [_], _ => rfl
  have M15 : Meth K C "read_argument" m15 := ⟨ma15, mf15, mk15⟩
  have FM16 := fun_mk (st := sEm) ml16 mc16 mk16
  have bM16 := FM16.binds (ps := ["self"]) fun _ _ _ _ _ _ us hl => match us, hl with | [_], _ => rfl
  have M16 : Meth K C "end_message" m16 := ⟨ma16, mf16, mk16⟩
  have FM17 := fun_mk (st := sRe) ml17 mc17 mk17
  have bM17 := FM17.binds (ps := ["self"]) fun _ _ _ _ _ _ us hl => match us, hl with | [_], _ => rfl
  have M17 : Meth K C "read_escape" m17 := ⟨ma17, mf17, mk17⟩
  have FM18 := fun_mk (st := sRs) ml18 mc18 mk18
  have bM18 := FM18.binds (ps := ["self"]) fun _ _ _ _ _ _ us hl => match us, hl with | [_], _ => rfl
  have M18 : Meth K C "read_sign" m18 := ⟨ma18, mf18, mk18⟩
  have FM19 := fun_mk (st := sRn) ml19 mc19 mk19
  have bM19 := FM19.binds (ps := ["self"]) fun _ _ _ _ _ _ us hl => match us, hl with | [_], _ => rfl
  have M19 : Meth K C "read_next" m19 := ⟨ma19, mf19, mk19⟩
  have y1 := PySem.W.mg_none_of X G z1
  have y2 := PySem.W.mg_none_of X G z2
  have y3 := PySem.W.mg_none_of X G z3
  have y4 := PySem.W.mg_none_of X G z4
  have y5 := PySem.W.mg_none_of X G z5
  have y6 := PySem.W.mg_none_of X G z6
  have y7 := PySem.W.mg_none_of X G z7
  have y8 := PySem.W.mg_none_of X G z8
  have g_LETTERS := PySem.W.mg_of X G k_LETTERS
  have g_FIGURES := PySem.W.mg_of X G k_FIGURES
  have g_SPACES := PySem.W.mg_of X G k_SPACES
  have g_OFFSET_MARK := PySem.W.mg_of X G k_OFFSET_MARK
  have g_MOST_LETTERS := PySem.W.mg_of X G k_MOST_LETTERS
  have g_OFFSET_FIGURES := PySem.W.mg_of X G k_OFFSET_FIGURES
  have g_KEY_FIGURES := PySem.W.mg_of X G k_KEY_FIGURES
  have gX1 := PySem.W.mg_of X G EaC1
  have TC1 : OexC K X1 := ⟨⟨nm1, qn1, N1, bs1, _, sn1, sub1, ab1, col1, dd1, n01, n11, n21, n31, n51, ExC1, by rfl⟩, Esa1, Eeb1, EtC1, EkC1⟩
  have icl1 : ∃ cd, PySem.W.clsIn K X1 = some cd := ⟨_, by unfold PySem.W.clsIn; rw [ExC1] <;> rfl⟩
  have U1 : Sx.Sup l.prog K mg X1 cc1 cda1 fB1 (nTe cc1 cda1) ["self", "place"] := ⟨TC1, ⟨_, _, _, _, _, _, _, _, _, ElB1⟩, rfl, rfl, EcB1, ⟨_, rfl, rfl⟩, ⟨_, _, _, _, _, _, Elc1, Ehv1, Ehf1⟩, ⟨_, _, _, Elx1⟩, icl1, Emr1, y8, rfl, Etop, Esm1, Eop, EiV1⟩
  have IX1 : IsC K X1 := ⟨by obtain ⟨cd, h⟩ := icl1; rw [h]; rfl, Ega1, Egg1, Eeb1, Eca1, Ecg, Ect, Eob1⟩
  have XX1 : XfC K X1 := ⟨Ega1, Egg1, Eeb1, EhdC1⟩
  have exM1 : PySem.W.exmOne K (.ref X1) (.ref M) = some true := PySem.W.exm_ref EebM EhdM EtM EsCM1
  have EX1 : EX K mg "TokenError" X1 M := ⟨gX1, IX1, XX1, Eno1, exM1⟩
  have bBd1 : Binds K (PySem.W.fnX "__init__" "TokenError.__init__" (defArgs sTe) (defBody sTe) (defScope sTe) [("__class__", cc1)] .none kVB1 dcB1 pmB1 anB1 (.ref cda1) ctB1) ["self", "place"] [] := .all fun us hl => match us, hl with | [_, _], _ => rfl
  have gX2 := PySem.W.mg_of X G EaC2
  have TC2 : OexC K X2 := ⟨⟨nm2, qn2, N2, bs2, _, sn2, sub2, ab2, col2, dd2, n02, n12, n22, n32, n52, ExC2, by rfl⟩, Esa2, Eeb2, EtC2, EkC2⟩
  have icl2 : ∃ cd, PySem.W.clsIn K X2 = some cd := ⟨_, by unfold PySem.W.clsIn; rw [ExC2] <;> rfl⟩
  have U2 : Sx.Sup l.prog K mg X2 cc2 cda2 fB2 (nEe cc2 cda2) ["self"] := ⟨TC2, ⟨_, _, _, _, _, _, _, _, _, ElB2⟩, rfl, rfl, EcB2, ⟨_, rfl, rfl⟩, ⟨_, _, _, _, _, _, Elc2, Ehv2, Ehf2⟩, ⟨_, _, _, Elx2⟩, icl2, Emr2, y8, rfl, Etop, Esm2, Eop, EiV2⟩
  have IX2 : IsC K X2 := ⟨by obtain ⟨cd, h⟩ := icl2; rw [h]; rfl, Ega2, Egg2, Eeb2, Eca2, Ecg, Ect, Eob2⟩
  have XX2 : XfC K X2 := ⟨Ega2, Egg2, Eeb2, EhdC2⟩
  have exM2 : PySem.W.exmOne K (.ref X2) (.ref M) = some true := PySem.W.exm_ref EebM EhdM EtM EsCM2
  have EX2 : EX K mg "EndError" X2 M := ⟨gX2, IX2, XX2, Eno2, exM2⟩
  have bBd2 : Binds K (PySem.W.fnX "__init__" "EndError.__init__" (defArgs sEe) (defBody sEe) (defScope sEe) [("__class__", cc2)] .none kVB2 dcB2 pmB2 anB2 (.ref cda2) ctB2) ["self"] [] := .all fun us hl => match us, hl with | [_], _ => rfl
  have gM := PySem.W.mg_of X G EaM
  have gC := PySem.W.mg_of X G aC
  have gC2 := PySem.W.mg_of X G aC2
  have gE := PySem.W.mg_of X G aE
  have gT := PySem.W.mg_of X G aT
  have RR : RC K C := ⟨⟨pgC, hdC, poC, saC⟩, nC_text, nC_place, nC_nodes, nC_choices, nC_plurals⟩
  have OO : OC K C2 := ⟨⟨pgC2, hdC2, poC2, saC2⟩, nO_head, nO_around, nO_cases, nO_key⟩
  have MR : Mk K C m3 := ⟨mk1C, ma3, mf3, mk4C⟩
  have MO : Mk K C2 m1 := ⟨mk1C2, ma1, mf1, mk4C2⟩
  have hk := keys_are keysE
  have A2 : ∀ c ∈ escN, ∃ u, PySem.W.nsIn K ed ⟨#[c]⟩ = some (some u) ∧ RelV (.str (mkS (escC c))) u := by
    intro c hc
    unfold escN at hc
    simp only [List.mem_cons, List.not_mem_nil, or_false] at hc
    rcases hc with rfl | rfl | rfl | rfl
    · exact ⟨_, q1, _, rfl⟩
    · exact ⟨_, q2, _, rfl⟩
    · exact ⟨_, q3, _, rfl⟩
    · exact ⟨_, q4, _, rfl⟩
  have KD : KDict K w ed es en := ⟨xE, litE, lowE⟩
  have EE : EA K mg w ed es en := ea_mk gE KD hk A2
  have kT : ∀ H : Hp, SqT K H ct catV := fun H => .inr ⟨_, itT, nT, xT, rfl, rfl, szT, vT⟩
  refine ⟨PySem.W.fnOf "law" "law" (defArgs sLaw) (defBody sLaw) (defScope sLaw) .none kV17 dc17 pm17 an17 cd17 ct17, fun s v => .of_eq rfl, fun base _ _ => ?_⟩
  have EC : EC l.prog w K mg base X1 fB1 _ X2 fB2 _ := ⟨TC1, gX1, EiC1, EtI1, ok_te (P := l.prog) (w := w) (mg := mg) (base := base) (CX := L2.CX l.prog w) U1 Eno1 ElB1, bBd1, TC2, gX2, EiC2, EtI2, ok_ee (P := l.prog) (w := w) (mg := mg) (base := base) (CX := L2.CX l.prog w) U2 ElB2, bBd2⟩
  have gTn := ok_tn (P := l.prog) (w := w) (mg := mg) (base := base) F1
  have gJt := ok_jt F2 gTn b1 k1 g1
  have gIt := ok_it (P := l.prog) (w := w) (mg := mg) (base := base) F3
  have gOi := ok_oi (P := l.prog) (w := w) (mg := mg) (base := base) FM1 OO
  have gOd := ok_od (P := l.prog) (w := w) (mg := mg) (base := base) FM2 OO y2
  have gRi := ok_ri (P := l.prog) (w := w) (mg := mg) (base := base) FM3 RR
  have gSg := ok_sg FM4 RR EC y1
  have gSk := ok_sk (P := l.prog) (w := w) (mg := mg) (base := base) FM5 RR y1 g_SPACES
  have gTs := ok_ts FM6 RR EC gSk bM5 M5 gSg bM4 M4
  have gTr := ok_tr FM7 RR EC y1 gSg bM4 M4
  have gNa := ok_na FM8 RR EC y1 g_LETTERS g_MOST_LETTERS gTr bM7 M7
  have gTm := ok_tm FM9 RR EC y1 y4 g_FIGURES gTr bM7 M7
  have gTk := ok_tk FM10 RR EC g_LETTERS gSk bM5 M5 gTr bM7 M7
  have gTo := ok_to FM11 RR y1 g_OFFSET_MARK g_OFFSET_FIGURES gSk bM5 M5 gTm bM9 M9
  have gTq := ok_tq FM12 RR EC gT kT g_KEY_FIGURES gSg bM4 M4 gTm bM9 M9 gNa bM8 M8
  have gBc := ok_bc FM13 RR OO EC gSk bM5 M5 gTq bM12 M12 gNa bM8 M8 gTs bM6 M6
  have gBh := ok_bh FM14 RR OO gTs bM6 M6 gTk bM10 M10 gTo bM11 M11 MO gC2 gOi bM1 gBc bM13 M13
  have gRa := ok_ra FM15 RR gTs bM6 M6 gSk bM5 M5 gNa bM8 M8 gSg bM4 M4 gBh bM14 M14
  have gEm := ok_em FM16 RR OO gTs bM6 M6 gJt b2 k2 g2 gBc bM13 M13 gOd bM2 M2
  have gRe := ok_re FM17 RR EC EE hk A2 y1
  have gRs := ok_rs FM18 RR EC gSg bM4 M4 gIt b3 k3 g3
  have gRn := ok_rn FM19 RR gSg bM4 M4 gRa bM15 M15 gEm bM16 M16 gRe bM17 M17 gRs bM18 M18
  have gPm := ok_pm F4 RR EC MR gC gRi bM3 gRn bM19 M19 gJt b2 k2 g2 y1
  have gCe := ok_cell (P := l.prog) (w := w) (mg := mg) (base := base) F5 y1
  have gDg := ok_digits F6 gCe b5 k5 g5 y3 y4
  have gDr := ok_draw (P := l.prog) (w := w) (mg := mg) (base := base) F7 y1 y4
  have gSt := ok_string F8 gDr b7 k7 g7
  have gM' := both gDr b7 k7 g7 gSt b8 k8 g8 F9 b9 g9 F10 b10 g10 F11 b11 g11 y3 y1 2
  have gLe := ok_le (P := l.prog) (w := w) (mg := mg) (base := base) F12
  have gGa := ok_gap F13 gDr b7 k7 g7
  have gOn := ok_one F14 gDr b7 k7 g7
  have gWr := ok_wr F15 b15 g15 gLe b12 k12 g12 gGa b13 k13 g13 gOn b14 k14 g14 y5 y6 3
  have kit21 : PySem.W.kitOne K (.ref X2) (.ref X1) = some false := by
    unfold PySem.W.kitOne PySem.W.kitCls
    rw [if_neg (by simpa using kne)]
    show (if _ then _ else _) = _
    rw [if_pos (by obtain ⟨cd, h⟩ := icl1; rw [h, EtC1]; rfl)]
    exact ks21
  have kit12 : PySem.W.kitOne K (.ref X1) (.ref X2) = some false := by
    unfold PySem.W.kitOne PySem.W.kitCls
    rw [if_neg (by simpa using fun z => kne z.symm)]
    show (if _ then _ else _) = _
    rw [if_pos (by obtain ⟨cd, h⟩ := icl2; rw [h, EtC2]; rfl)]
    exact ks12
  have gOp := ok_op (P := l.prog) (w := w) (mg := mg) (base := base) F16 y3 y1 y4
  exact ok_law F17 gDg b6 k6 g6 gDr b7 k7 g7 gM' b11 k11 g11 gWr b15 k15 g15 gOp b16 k16 g16 gPm b4 k4 g4 gM EX1 EX2 kit12 kit21 y5 y4 y3 y1
theorem walk {l : PySem.W.OpenLaw} {q : Program} {loose : List Str} {XP : (Str → Option Value) → Heap → Prop} {YP : World → Heap → Prop} {d : DefRec} {K : Params → PySem.W.Frag} (hn : l.most = some 63) (hdf : d.params.defaults = [])
    (hY : ∀ (w : World) (h : Heap), YP w h → (K w.params).In h)
    (F : ∀ (w : World) (mg : Str → Option Value) (fa : Addr) (h : Heap), (K w.params).In h → h.Ns mainGlobals mg → mg d.name = some (.ref fa) →
      ∃ fd : FuncData, (∀ (s : Shared) (u : Value), BindsTo s fd ⟨[u], []⟩ [("script", u)]) ∧ ∀ base : Heap, (K w.params).In base → base.Ns mainGlobals mg → FnOk l.prog w (K w.params) mg base CX0 12 fa fd ["script"] (spLaw (K w.params))) :
    PySem.W.WalkO q loose XP YP l.row.toRowW d [] (fun f vs => PySem.call f vs) :=
  L2.walk_of (n := 63) (k := 12) (x := "script") (CX := fun _ => CX0) (sp := fun w => spLaw (K w.params)) hn (by decide) hdf ⟨rfl, by decide, by decide⟩ hY F (fun _ _ a ns _ _ hS => ⟨a, ns, rfl, hS, fun _ => rfl⟩) fun _ _ _ _ _ z => z
end Mw
open PySem PySem.W PyProof.Rows
set_option maxRecDepth 100000 in
set_option maxHeartbeats 0 in
theorem PySem.Challenge.cw_messageways_k04_notations_that_end_too_e_holds : PySem.Challenge.rw_messageways_k04_notations_that_end_too_e.Holds := by
  w_on; o_law; k_head; (case hw => w_witness2)
  k_fill
  refine Mw.walk (l := PySem.Challenge.rw_messageways_k04_notations_that_end_too_e) rfl rfl (fun w h Y => PySem.W.kIn_of Y) ?F
  case F =>
    intro w mg fa h KX G hmg
    refine' Mw.all_mk KX G hmg ?a1 ?l1 ?c1 ?k1 ?a2 ?l2 ?c2 ?k2 ?a3 ?l3 ?c3 ?k3 ?a4 ?l4 ?c4 ?k4 ?a5 ?l5 ?c5 ?k5 ?a6 ?l6 ?c6 ?k6 ?a7 ?l7 ?c7 ?k7 ?a8 ?l8 ?c8 ?k8 ?a9 ?l9 ?c9 ?k9 ?a10 ?l10 ?c10 ?k10 ?a11 ?l11 ?c11 ?k11 ?a12 ?l12 ?c12 ?k12 ?a13 ?l13 ?c13 ?k13 ?a14 ?l14 ?c14 ?k14 ?a15 ?l15 ?c15 ?k15 ?a16 ?l16 ?c16 ?k16 ?a17 ?l17 ?c17 ?k17 ?aC ?mk1C ?mk4C ?pgC ?hdC ?poC ?saC ?aC2 ?mk1C2 ?mk4C2 ?pgC2 ?hdC2 ?poC2 ?saC2 ?nC_text ?nC_place ?nC_nodes ?nC_choices ?nC_plurals ?nO_head ?nO_around ?nO_cases ?nO_key ?ma1 ?ml1 ?mc1 ?mf1 ?mk1 ?ma2 ?ml2 ?mc2 ?mf2 ?mk2 ?ma3 ?ml3 ?mc3 ?mf3 ?mk3 ?ma4 ?ml4 ?mc4 ?mf4 ?mk4 ?ma5 ?ml5 ?mc5 ?mf5 ?mk5 ?ma6 ?ml6 ?mc6 ?mf6 ?mk6 ?ma7 ?ml7 ?mc7 ?mf7 ?mk7 ?ma8 ?ml8 ?mc8 ?mf8 ?mk8 ?ma9 ?ml9 ?mc9 ?mf9 ?mk9 ?ma10 ?ml10 ?mc10 ?mf10 ?mk10 ?ma11 ?ml11 ?mc11 ?mf11 ?mk11 ?ma12 ?ml12 ?mc12 ?mf12 ?mk12 ?ma13 ?ml13 ?mc13 ?mf13 ?mk13 ?ma14 ?ml14 ?mc14 ?mf14 ?mk14 ?ma15 ?ml15 ?mc15 ?mf15 ?mk15 ?ma16 ?ml16 ?mc16 ?mf16 ?mk16 ?ma17 ?ml17 ?mc17 ?mf17 ?mk17 ?ma18 ?ml18 ?mc18 ?mf18 ?mk18 ?ma19 ?ml19 ?mc19 ?mf19 ?mk19 ?k_LETTERS ?k_FIGURES ?k_SPACES ?k_OFFSET_MARK ?k_MOST_LETTERS ?k_OFFSET_FIGURES ?k_KEY_FIGURES ?aE ?xE ?litE ?lowE ?keysE ?q1 ?q2 ?q3 ?q4 ?aT ?xT ?szT ?vT ?EaM ?EebM ?EhdM ?EtM ?Eop ?Ecg ?Ect ?Etop ?EaC1 ?ExC1 ?Esa1 ?Ega1 ?Egg1 ?Eno1 ?EiC1 ?EtI1 ?ElB1 ?EcB1 ?Elc1 ?Ehv1 ?Ehf1 ?Elx1 ?Emr1 ?Esm1 ?EiV1 ?Eeb1 ?EtC1 ?EkC1 ?EhdC1 ?Eca1 ?Eob1 ?EsCM1 ?EaC2 ?ExC2 ?Esa2 ?Ega2 ?Egg2 ?Eno2 ?EiC2 ?EtI2 ?ElB2 ?EcB2 ?Elc2 ?Ehv2 ?Ehf2 ?Elx2 ?Emr2 ?Esm2 ?EiV2 ?Eeb2 ?EtC2 ?EkC2 ?EhdC2 ?Eca2 ?Eob2 ?EsCM2 ?kne ?ks21 ?ks12 ?z1 ?z2 ?z3 ?z4 ?z5 ?z6 ?z7 ?z8
    (case a1 => k_is); (case l1 => k_is); (case c1 => k_is); (case k1 => k_is)
    (case a2 => k_is); (case l2 => k_is); (case c2 => k_is); (case k2 => k_is)
    (case a3 => k_is); (case l3 => k_is); (case c3 => k_is); (case k3 => k_is)
    (case a4 => k_is); (case l4 => k_is); (case c4 => k_is); (case k4 => k_is)
    (case a5 => k_is); (case l5 => k_is); (case c5 => k_is); (case k5 => k_is)
    (case a6 => k_is); (case l6 => k_is); (case c6 => k_is); (case k6 => k_is)
    (case a7 => k_is); (case l7 => k_is); (case c7 => k_is); (case k7 => k_is)
    (case a8 => k_is); (case l8 => k_is); (case c8 => k_is); (case k8 => k_is)
    (case a9 => k_is); (case l9 => k_is); (case c9 => k_is); (case k9 => k_is)
    (case a10 => k_is); (case l10 => k_is); (case c10 => k_is); (case k10 => k_is)
    (case a11 => k_is); (case l11 => k_is); (case c11 => k_is); (case k11 => k_is)
    (case a12 => k_is); (case l12 => k_is); (case c12 => k_is); (case k12 => k_is)
    (case a13 => k_is); (case l13 => k_is); (case c13 => k_is); (case k13 => k_is)
    (case a14 => k_is); (case l14 => k_is); (case c14 => k_is); (case k14 => k_is)
    (case a15 => k_is); (case l15 => k_is); (case c15 => k_is); (case k15 => k_is)
    (case a16 => k_is); (case l16 => k_is); (case c16 => k_is); (case k16 => k_is)
    (case a17 => k_is); (case l17 => k_is); (case c17 => k_is); (case k17 => k_is)
    (case aC => k_is)
    (case mk1C => k_is)
    (case mk4C => k_is)
    (case pgC => k_is)
    (case hdC => k_is)
    (case poC => k_is)
    (case saC => k_is)
    (case aC2 => k_is)
    (case mk1C2 => k_is)
    (case mk4C2 => k_is)
    (case pgC2 => k_is)
    (case hdC2 => k_is)
    (case poC2 => k_is)
    (case saC2 => k_is)
    (case nC_text => k_is)
    (case nC_place => k_is)
    (case nC_nodes => k_is)
    (case nC_choices => k_is)
    (case nC_plurals => k_is)
    (case nO_head => k_is)
    (case nO_around => k_is)
    (case nO_cases => k_is)
    (case nO_key => k_is)
    (case ma1 => k_is)
    (case ml1 => k_is)
    (case mc1 => k_is)
    (case mf1 => k_is)
    (case mk1 => k_is)
    (case ma2 => k_is)
    (case ml2 => k_is)
    (case mc2 => k_is)
    (case mf2 => k_is)
    (case mk2 => k_is)
    (case ma3 => k_is)
    (case ml3 => k_is)
    (case mc3 => k_is)
    (case mf3 => k_is)
    (case mk3 => k_is)
    (case ma4 => k_is)
    (case ml4 => k_is)
    (case mc4 => k_is)
    (case mf4 => k_is)
    (case mk4 => k_is)
    (case ma5 => k_is)
    (case ml5 => k_is)
    (case mc5 => k_is)
    (case mf5 => k_is)
    (case mk5 => k_is)
    (case ma6 => k_is)
    (case ml6 => k_is)
    (case mc6 => k_is)
    (case mf6 => k_is)
    (case mk6 => k_is)
    (case ma7 => k_is)
    (case ml7 => k_is)
    (case mc7 => k_is)
    (case mf7 => k_is)
    (case mk7 => k_is)
    (case ma8 => k_is)
    (case ml8 => k_is)
    (case mc8 => k_is)
    (case mf8 => k_is)
    (case mk8 => k_is)
    (case ma9 => k_is)
    (case ml9 => k_is)
    (case mc9 => k_is)
    (case mf9 => k_is)
    (case mk9 => k_is)
    (case ma10 => k_is)
    (case ml10 => k_is)
    (case mc10 => k_is)
    (case mf10 => k_is)
    (case mk10 => k_is)
    (case ma11 => k_is)
    (case ml11 => k_is)
    (case mc11 => k_is)
    (case mf11 => k_is)
    (case mk11 => k_is)
    (case ma12 => k_is)
    (case ml12 => k_is)
    (case mc12 => k_is)
    (case mf12 => k_is)
    (case mk12 => k_is)
    (case ma13 => k_is)
    (case ml13 => k_is)
    (case mc13 => k_is)
    (case mf13 => k_is)
    (case mk13 => k_is)
    (case ma14 => k_is)
    (case ml14 => k_is)
    (case mc14 => k_is)
    (case mf14 => k_is)
    (case mk14 => k_is)
    (case ma15 => k_is)
    (case ml15 => k_is)
    (case mc15 => k_is)
    (case mf15 => k_is)
    (case mk15 => k_is)
    (case ma16 => k_is)
    (case ml16 => k_is)
    (case mc16 => k_is)
    (case mf16 => k_is)
    (case mk16 => k_is)
    (case ma17 => k_is)
    (case ml17 => k_is)
    (case mc17 => k_is)
    (case mf17 => k_is)
    (case mk17 => k_is)
    (case ma18 => k_is)
    (case ml18 => k_is)
    (case mc18 => k_is)
    (case mf18 => k_is)
    (case mk18 => k_is)
    (case ma19 => k_is)
    (case ml19 => k_is)
    (case mc19 => k_is)
    (case mf19 => k_is)
    (case mk19 => k_is)
    (case k_LETTERS => k_is)
    (case k_FIGURES => k_is)
    (case k_SPACES => k_is)
    (case k_OFFSET_MARK => k_is)
    (case k_MOST_LETTERS => k_is)
    (case k_OFFSET_FIGURES => k_is)
    (case k_KEY_FIGURES => k_is)
    (case aE => k_is)
    (case xE => k_is)
    (case litE => k_keys)
    (case lowE => decide)
    (case keysE => rfl)
    (case q1 => k_is)
    (case q2 => k_is)
    (case q3 => k_is)
    (case q4 => k_is)
    (case aT => k_is)
    (case xT => k_is)
    (case szT => exact (by decide))
    (case vT => exact .cons ⟨_, rfl⟩ (.cons ⟨_, rfl⟩ (.cons ⟨_, rfl⟩ (.cons ⟨_, rfl⟩ (.cons ⟨_, rfl⟩ .nil)))))
    (case EaM => k_is)
    (case EebM => k_is)
    (case EhdM => k_is)
    (case EtM => k_is)
    (case Eop => k_is)
    (case Ecg => k_is)
    (case Ect => k_is)
    (case Etop => decide +kernel)
    (case EaC1 => k_is)
    (case ExC1 => k_is)
    (case Esa1 => k_is)
    (case Ega1 => k_is)
    (case Egg1 => k_is)
    (case Eno1 => k_is)
    (case EiC1 => k_is)
    (case EtI1 => k_is)
    (case ElB1 => k_is)
    (case EcB1 => k_is)
    (case Elc1 => k_is)
    (case Ehv1 => rfl)
    (case Ehf1 => decide +kernel)
    (case Elx1 => k_is)
    (case Emr1 => k_is)
    (case Esm1 => ks_is)
    (case EiV1 => k_is)
    (case Eeb1 => k_is)
    (case EtC1 => k_is)
    (case EkC1 => k_is)
    (case EhdC1 => k_is)
    (case Eca1 => k_is)
    (case Eob1 => k_is)
    (case EsCM1 => k_is)
    (case EaC2 => k_is)
    (case ExC2 => k_is)
    (case Esa2 => k_is)
    (case Ega2 => k_is)
    (case Egg2 => k_is)
    (case Eno2 => k_is)
    (case EiC2 => k_is)
    (case EtI2 => k_is)
    (case ElB2 => k_is)
    (case EcB2 => k_is)
    (case Elc2 => k_is)
    (case Ehv2 => rfl)
    (case Ehf2 => decide +kernel)
    (case Elx2 => k_is)
    (case Emr2 => k_is)
    (case Esm2 => ks_is)
    (case EiV2 => k_is)
    (case Eeb2 => k_is)
    (case EtC2 => k_is)
    (case EkC2 => k_is)
    (case EhdC2 => k_is)
    (case Eca2 => k_is)
    (case Eob2 => k_is)
    (case EsCM2 => k_is)
    (case kne => decide)
    (case ks21 => k_is)
    (case ks12 => k_is)
    (case z1 => k_is)
    (case z2 => k_is)
    (case z3 => k_is)
    (case z4 => k_is)
    (case z5 => k_is)
    (case z6 => k_is)
    (case z7 => k_is)
    (case z8 => k_is)

