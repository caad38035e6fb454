import PyProof.Rows.All
import Wide.All
import OpenK.AllK
import Wide.FinOn
import HandS.Base
import HandS.Call
import HandS.List
import HandS.Comp
import HandS.Ends
import HandS.Dict
import HandS.Iter
import HandS.Text
import HandS.Words
import HandS.WordsList
import HandS.Evl
import HandS.Style
import HandS.Walk
import HandS.Zip
import KE.KItemsList
import KE.KDictZip
import HandS.ListItems
import HandS.IsInst
import PySem.Challenge.RW_messageways_k00_plain_messages_and_sizes
set_option Elab.async false
set_option maxRecDepth 100000
namespace Mw
open PySem L2
def top (i : Nat) : Stmt := PySem.Challenge.pw_messageways_k00_plain_messages_and_sizes.main.body.getD i (.Pass ⟨0, 0, 0, 0⟩)
/-! ### trees of messages: a message is a chain of nodes, the cases of a choice a chain of cas -/
inductive T where
  | nil
  | text (s : Str) (r : T)
  | shw (n : Str) (r : T)
  | num (r : T)
  | cho (hd : List V) (cs o r : T)
  | cas (k : V) (m r : T)
/-- the values vs are the nodes (the cases) of the tree, as the heap has them -/
def Nodes (H : Hp) : T → List V → Prop
  | .nil, vs => vs = []
  | .text s r, vs => ∃ p ws, vs = .ref p :: ws ∧ H p = some (.tup [.str "text", .str s]) ∧ Nodes H r ws
  | .shw n r, vs => ∃ p ws, vs = .ref p :: ws ∧ H p = some (.tup [.str "show", .str n]) ∧ Nodes H r ws
  | .num r, vs => ∃ p ws, vs = .ref p :: ws ∧ H p = some (.tup [.str "number"]) ∧ Nodes H r ws
  | .cho hd cs o r, vs => ∃ p ws ca cvs oa ovs, vs = .ref p :: ws ∧ H p = some (.tup (hd ++ [.ref ca, .ref oa])) ∧ H ca = some (.lst cvs) ∧ Nodes H cs cvs ∧ H oa = some (.lst ovs) ∧ Nodes H o ovs ∧ Nodes H r ws
  | .cas k m r, vs => ∃ p ws ma mvs, vs = .ref p :: ws ∧ H p = some (.tup [k, .ref ma]) ∧ H ma = some (.lst mvs) ∧ Nodes H m mvs ∧ Nodes H r ws
/-- a list at a that is a message -/
def At (H : Hp) (a : Addr) (t : T) : Prop := ∃ vs, H a = some (.lst vs) ∧ Nodes H t vs
/-- all but the box stays; the box is a list of a ref and an int -/
def IsBox (vs : List V) : Prop := ∃ d i, vs = [.ref d, .int i]
def Ext (B : Addr) (H H' : Hp) : Prop := ∀ b o, b ≠ B → H b = some o → H' b = some o
theorem Ext.refl {B : Addr} (H : Hp) : Ext B H H := fun _ _ _ h => h
theorem Ext.trans {B : Addr} {H H1 H2 : Hp} (a : Ext B H H1) (b : Ext B H1 H2) : Ext B H H2 := fun c o n h => b c o n (a c o n h)
theorem Ext.of {B : Addr} {H H' : Hp} (s : Same H H') : Ext B H H' := fun b o _ h => s b o h
theorem same_new {H : Hp} {p : Addr} (h : H p = none) (o : HO) : Same H (upd H p o) := fun b u q => by
  rw [upd_ne (ne_of_none q h)]
  exact q
theorem same_mut {H H' : Hp} {p : Addr} (s : Same H H') (h : H p = none) (o : HO) : Same H (upd H' p o) := fun b u q => by
  rw [upd_ne (ne_of_none q h)]
  exact s b u q
theorem Nodes.refs {H : Hp} : ∀ {t : T} {vs : List V}, Nodes H t vs → ∀ v ∈ vs, ∃ a, v = .ref a
  | .nil, _, h, v, hv => by
    have h' : _ = [] := h
    subst h'
    cases hv
  | .text s r, _, h, v, hv => by
    obtain ⟨p, ws, rfl, _, hr⟩ := h
    rcases List.mem_cons.mp hv with rfl | hv
    · exact ⟨_, rfl⟩
    · exact Nodes.refs hr v hv
  | .shw n r, _, h, v, hv => by
    obtain ⟨p, ws, rfl, _, hr⟩ := h
    rcases List.mem_cons.mp hv with rfl | hv
    · exact ⟨_, rfl⟩
    · exact Nodes.refs hr v hv
  | .num r, _, h, v, hv => by
    obtain ⟨p, ws, rfl, _, hr⟩ := h
    rcases List.mem_cons.mp hv with rfl | hv
    · exact ⟨_, rfl⟩
    · exact Nodes.refs hr v hv
  | .cho hd cs o r, _, h, v, hv => by
    obtain ⟨p, ws, ca, cvs, oa, ovs, rfl, _, _, _, _, _, hr⟩ := h
    rcases List.mem_cons.mp hv with rfl | hv
    · exact ⟨_, rfl⟩
    · exact Nodes.refs hr v hv
  | .cas k m r, _, h, v, hv => by
    obtain ⟨p, ws, ma, mvs, rfl, _, _, _, hr⟩ := h
    rcases List.mem_cons.mp hv with rfl | hv
    · exact ⟨_, rfl⟩
    · exact Nodes.refs hr v hv
theorem Nodes.notBox {H : Hp} {t : T} {vs : List V} (h : Nodes H t vs) : ¬ IsBox vs := by
  rintro ⟨d, i, rfl⟩
  obtain ⟨a, e⟩ := h.refs (.int i) (by simp)
  cases e
theorem lst_ne {B a : Addr} {H : Hp} {bs vs : List V} (hb : H B = some (.lst bs)) (ib : IsBox bs) (ha : H a = some (.lst vs)) (nv : ¬ IsBox vs) : a ≠ B := by
  intro e
  subst e
  rw [hb] at ha
  cases ha
  exact nv ib
theorem tup_ne {B a : Addr} {H : Hp} {bs vs : List V} (hb : H B = some (.lst bs)) (ha : H a = some (.tup vs)) : a ≠ B := by
  intro e
  subst e
  rw [hb] at ha
  cases ha
/-- a tree stays where all but the box stays -/
theorem Nodes.ext {B : Addr} {H H' : Hp} {bs : List V} (hb : H B = some (.lst bs)) (ib : IsBox bs) (e : Ext B H H') : ∀ {t : T} {vs : List V}, Nodes H t vs → Nodes H' t vs
  | .nil, _, h => h
  | .text s r, _, h => by
    obtain ⟨p, ws, rfl, hp, hr⟩ := h
    exact ⟨p, ws, rfl, e _ _ (tup_ne hb hp) hp, Nodes.ext hb ib e hr⟩
  | .shw n r, _, h => by
    obtain ⟨p, ws, rfl, hp, hr⟩ := h
    exact ⟨p, ws, rfl, e _ _ (tup_ne hb hp) hp, Nodes.ext hb ib e hr⟩
  | .num r, _, h => by
    obtain ⟨p, ws, rfl, hp, hr⟩ := h
    exact ⟨p, ws, rfl, e _ _ (tup_ne hb hp) hp, Nodes.ext hb ib e hr⟩
  | .cho hd cs o r, _, h => by
    obtain ⟨p, ws, ca, cvs, oa, ovs, rfl, hp, hc, hcs, ho, hos, hr⟩ := h
    exact ⟨p, ws, ca, cvs, oa, ovs, rfl, e _ _ (tup_ne hb hp) hp, e _ _ (lst_ne hb ib hc hcs.notBox) hc, Nodes.ext hb ib e hcs, e _ _ (lst_ne hb ib ho hos.notBox) ho, Nodes.ext hb ib e hos, Nodes.ext hb ib e hr⟩
  | .cas k m r, _, h => by
    obtain ⟨p, ws, ma, mvs, rfl, hp, hm, hms, hr⟩ := h
    exact ⟨p, ws, ma, mvs, rfl, e _ _ (tup_ne hb hp) hp, e _ _ (lst_ne hb ib hm hms.notBox) hm, Nodes.ext hb ib e hms, Nodes.ext hb ib e hr⟩
theorem Nodes.same {H H' : Hp} (e : Same H H') : ∀ {t : T} {vs : List V}, Nodes H t vs → Nodes H' t vs
  | .nil, _, h => h
  | .text s r, _, h => by
    obtain ⟨p, ws, rfl, hp, hr⟩ := h
    exact ⟨p, ws, rfl, e _ _ hp, Nodes.same e hr⟩
  | .shw n r, _, h => by
    obtain ⟨p, ws, rfl, hp, hr⟩ := h
    exact ⟨p, ws, rfl, e _ _ hp, Nodes.same e hr⟩
  | .num r, _, h => by
    obtain ⟨p, ws, rfl, hp, hr⟩ := h
    exact ⟨p, ws, rfl, e _ _ hp, Nodes.same e hr⟩
  | .cho hd cs o r, _, h => by
    obtain ⟨p, ws, ca, cvs, oa, ovs, rfl, hp, hc, hcs, ho, hos, hr⟩ := h
    exact ⟨p, ws, ca, cvs, oa, ovs, rfl, e _ _ hp, e _ _ hc, Nodes.same e hcs, e _ _ ho, Nodes.same e hos, Nodes.same e hr⟩
  | .cas k m r, _, h => by
    obtain ⟨p, ws, ma, mvs, rfl, hp, hm, hms, hr⟩ := h
    exact ⟨p, ws, ma, mvs, rfl, e _ _ hp, e _ _ hm, Nodes.same e hms, Nodes.same e hr⟩
/-- two chains, one behind the other -/
def T.app : T → T → T
  | .nil, u => u
  | .text s r, u => .text s (r.app u)
  | .shw n r, u => .shw n (r.app u)
  | .num r, u => .num (r.app u)
  | .cho hd cs o r, u => .cho hd cs o (r.app u)
  | .cas k m r, u => .cas k m (r.app u)
theorem Nodes.app {H : Hp} {u : T} {us : List V} (hu : Nodes H u us) : ∀ {t : T} {vs : List V}, Nodes H t vs → Nodes H (t.app u) (vs ++ us)
  | .nil, _, h => by
    have h' : _ = [] := h
    subst h'
    exact hu
  | .text s r, _, h => by
    obtain ⟨p, ws, rfl, hp, hr⟩ := h
    exact ⟨p, ws ++ us, rfl, hp, Nodes.app hu hr⟩
  | .shw n r, _, h => by
    obtain ⟨p, ws, rfl, hp, hr⟩ := h
    exact ⟨p, ws ++ us, rfl, hp, Nodes.app hu hr⟩
  | .num r, _, h => by
    obtain ⟨p, ws, rfl, hp, hr⟩ := h
    exact ⟨p, ws ++ us, rfl, hp, Nodes.app hu hr⟩
  | .cho hd cs o r, _, h => by
    obtain ⟨p, ws, ca, cvs, oa, ovs, rfl, hp, hc, hcs, ho, hos, hr⟩ := h
    exact ⟨p, ws ++ us, ca, cvs, oa, ovs, rfl, hp, hc, hcs, ho, hos, Nodes.app hu hr⟩
  | .cas k m r, _, h => by
    obtain ⟨p, ws, ma, mvs, rfl, hp, hm, hms, hr⟩ := h
    exact ⟨p, ws ++ us, ma, mvs, rfl, hp, hm, hms, Nodes.app hu hr⟩
section
variable {P : Program} {w : World} {K : PySem.W.Frag} {mg : Str → Option Value} {base : Heap}
/-! ### _law_cell -/
abbrev sCell : Stmt := top 12
theorem scCell : FnScope ["script", "k"] ["script", "k"] (defScope sCell) := ⟨rfl, rfl, rfl, by decide +kernel, rfl, by decide +kernel, by decide +kernel⟩
def spCell (K : PySem.W.Frag) : Sp := fun vs H Q _ => ∃ (a : Addr) (ns : List Int) (k : Int), vs = [.ref a, .int k] ∧ SqL K H a (ns.map V.int) ∧ 0 ≤ k ∧ ∀ z, Q (.int z) H
theorem ok_cell {f : Addr} {fd : FuncData} (F : Fun K "_law_cell" "_law_cell" sCell f fd) (ml : mg "len" = none) : FnOk P w K mg base CX0 1 f fd ["script", "k"] (spCell K) := by
  refine F.ok scCell (fun vs H Q E h => ?_) (fun cdv A outer s H vs Q E hr h => ?_)
  · obtain ⟨a, ns, k, rfl, _⟩ := h
    rfl
  obtain ⟨a, ns, k, rfl, hS, h0, q⟩ := h
  refine ⟨_, pss_cons (ps_if (pt_cmpR op_lt (pv 1) (pe_callB call_len_seq (by rfl) ml PySem.boot_len (pa_cons (pv 0) pa_nil)) (nomark _)) (pss_one (ps_ret (pe_ix ix_list (pv 0) (pv 1) (fun _ _ => rfl)))) pss_nil)
    (pss_one (ps_ret pe_int)), ?_⟩
  refine ⟨_, rfl, _, rfl, a, _, rfl, .inl hS, _, _, rfl, rfl, _, rfl, ?_⟩
  refine ite2 (fun c => ?_) (fun c => ?_)
  · have c' := of_decide_eq_true c
    rw [List.length_map] at c'
    have hk : k.toNat < ns.length := by omega
    refine ⟨_, rfl, _, rfl, a, _, k, .int ns[k.toNat], rfl, rfl, hS, at_of (j := k.toNat) (by omega) (by rw [List.getElem?_map, List.getElem?_eq_getElem hk] <;> rfl), q _⟩
  · exact q _
end
end Mw

namespace Mw
open PySem L2
section
variable {P : Program} {w : World} {K : PySem.W.Frag} {mg : Str → Option Value} {base : Heap}
/-! ### _law_digits: a new list of ints -/
abbrev sDigits : Stmt := top 13
theorem scDigits : FnScope ["script", "first", "last", "digits", "k", "cell", "turn", "seed"] ["script", "first", "last"] (defScope sDigits) := ⟨rfl, rfl, rfl, by decide +kernel, rfl, by decide +kernel, by decide +kernel⟩
def spDigits (K : PySem.W.Frag) : Sp := fun vs H Q _ => ∃ (a : Addr) (ns : List Int), vs = [.ref a, .int 0, .int 63] ∧ SqL K H a (ns.map V.int) ∧ ∀ (d : Addr) (H' : Hp) (ds : List Int), H d = none → Same H H' → H' d = some (.lst (ds.map V.int)) → Q (.ref d) H'
theorem len_ints (ds : List Int) (z : Int) : ds.map V.int ++ [V.int z] = (ds ++ [z]).map V.int := by simp
theorem ok_digits {f fC : Addr} {fd fdC : FuncData} (F : Fun K "_law_digits" "_law_digits" sDigits f fd) (GC : FnOk P w K mg base CX0 1 fC fdC ["script", "k"] (spCell K)) (bC : Binds K fdC ["script", "k"] []) (kC : PySem.W.keepIn K (.ref fC) = true) (mC : mg "_law_cell" = some (.ref fC)) (mr : mg "range" = none) (mi : mg "int" = none) :
    FnOk P w K mg base CX0 2 f fd ["script", "first", "last"] (spDigits K) := by
  refine F.ok scDigits (fun vs H Q E h => ?_) (fun cdv A outer s H vs Q E hr h => ?_)
  · obtain ⟨a, ns, rfl, _⟩ := h
    rfl
  obtain ⟨a, ns, rfl, hS, q⟩ := h
  have nd := scDigits.nd
  refine ⟨_, pss_cons (ps_set (i := 3) nd rfl (.inl rfl) (pe_lst pa_nil))
    (pss_cons (ps_for PassesOwn.never rfl (pi_range2 rfl mr (pa_cons (pv 1) (pa_cons (pv 2) pa_nil))) (pg_name (i := 4) nd rfl (.inl rfl))
      (pss_cons (ps_set (i := 5) nd rfl (.inl rfl) (pe_call GC hr rfl mC kC bC .nil pass0 (pa_cons (pv 0) (pa_cons (pv 4) pa_nil))))
      (Evl.pss_cut (ps_if (pt_cmpR op_lt (pv 5) pe_int (nomark _)) (pss_one (ps_set (i := 5) nd rfl (.inl rfl) (pe_op op_sub pe_int (pe_op op_mul pe_int (pv 5))))) pss_nil)
      (pss_one (ps_if (pt_cmpR op_ge (pv 5) (pe_op op_pow pe_int pe_int) (nomark _))
        (pss_one (ps_for PassesOwn.never rfl (pi_range1 rfl mr (pa_cons pe_int pa_nil)) (pg_name (i := 6) nd rfl (.inl rfl))
          (pss_one (ps_if (pt_cmpR op_gt (pv 5) pe_int (nomark _))
            (pss_cons (ps_expr (pe_bm PySem.F.plainAttrs_list PySem.F.slot_list_append PySem.F.type_list_append mt_append (pv 3) (pa_cons (pe_op op_mod (pe_callTy call_int1 (by rfl) mi (by decide +kernel) (pa_cons (pv 5) pa_nil)) pe_int) pa_nil)))
            (pss_one (ps_set (i := 5) nd rfl (.inl rfl) (pe_op op_fdiv (pv 5) pe_int)))) pss_nil))))
        (pss_cons (ps_set (i := 7) nd rfl (.inl rfl) (pe_op op_mod (pe_callTy call_int1 (by rfl) mi (by decide +kernel) (pa_cons (pe_op op_add (pe_op op_add (pe_op op_mul (pv 5) pe_int) (pe_op op_mul (pv 4) pe_int)) pe_int) pa_nil)) pe_int))
        (pss_one (ps_for PassesOwn.never rfl (pi_range1 rfl mr (pa_cons pe_int pa_nil)) (pg_name (i := 6) nd rfl (.inl rfl))
          (pss_cons (ps_set (i := 7) nd rfl (.inl rfl) (pe_op op_mod (pe_callTy call_int1 (by rfl) mi (by decide +kernel) (pa_cons (pe_op op_add (pe_op op_add (pe_op op_mul (pv 7) pe_int) (pe_op op_mul pe_int (pv 6))) pe_int) pa_nil)) pe_int))
          (pss_one (ps_expr (pe_bm PySem.F.plainAttrs_list PySem.F.slot_list_append PySem.F.type_list_append mt_append (pv 3) (pa_cons (pe_op op_mod (pe_callTy call_int1 (by rfl) mi (by decide +kernel) (pa_cons (pe_op op_fdiv (pv 7) pe_int) pa_nil)) pe_int) pa_nil)))))))))))))
    (pss_one (ps_ret (pv 3)))), ?_⟩
  refine ⟨Nat.zero_le _, fun d nd0 => ?_⟩
  have s1 : Same H (upd H d (.lst [])) := same_new nd0 _
  refine ⟨_, rfl, _, rfl, 0, 63, rfl, by decide, for_range (lo := 0) (n := (63 - 0 : Int).toNat) (fun i σ H' => ∃ (ds : List Int) (o4 o5 o6 o7 : Option V), σ = [some (.ref a), some (.int 0), some (.int 63), some (.ref d), o4, o5, o6, o7] ∧ Same H H' ∧ H' d = some (.lst (ds.map V.int)) ∧ ds.length ≤ 60 * i)
    ⟨[], none, none, none, none, rfl, s1, upd_same, Nat.le_refl _⟩ ?_ ?_⟩
  · rintro i σ H2 hi ⟨ds, o4, o5, o6, o7, rfl, s2, hd, hl⟩
    refine ⟨_, rfl, _, rfl, a, ns, _, rfl, s2.seq hS, by omega, fun z => ?_⟩
    refine ⟨fun σ' H' => ∃ z' : Int, σ' = [some (.ref a), some (.int 0), some (.int 63), some (.ref d), some (.int (0 + i)), some (.int z'), o6, o7] ∧ H' = H2, ?_, ?_⟩
    · refine ⟨_, rfl, _, _, rfl, rfl, _, rfl, ?_⟩
      refine ite2 (fun _ => ?_) (fun _ => ?_)
      · exact ⟨_, rfl, _, _, rfl, rfl, .inl (by decide), _, _, rfl, rfl, _, rfl, rfl⟩
      · exact ⟨_, rfl, rfl⟩
    · rintro σ' H' ⟨z', rfl, rfl⟩
      refine ⟨_, rfl, _, _, rfl, rfl, (by unfold CPow; decide), _, _, rfl, rfl, _, rfl, ?_⟩
      refine ite2 (fun _ => ?_) (fun _ => ?_)
      · refine ⟨60, rfl, by decide, by decide, for_range (lo := 0) (n := 60) (fun j σ H' => ∃ (ds' : List Int) (z' : Int) (o6 : Option V), σ = [some (.ref a), some (.int 0), some (.int 63), some (.ref d), some (.int (0 + i)), some (.int z'), o6, o7] ∧ Same H H' ∧ H' d = some (.lst (ds'.map V.int)) ∧ ds'.length ≤ 60 * i + j)
          ⟨ds, z', o6, rfl, s2, hd, hl⟩ ?_ ?_⟩
        · rintro j σ H3 hj ⟨ds', z'', o6, rfl, s3, hd3, hl3⟩
          refine ⟨_, rfl, _, _, rfl, rfl, _, rfl, ?_⟩
          refine ite2 (fun _ => ?_) (fun _ => ?_)
          · refine ⟨_, rfl, .inl ⟨rfl, _, SqL.of hd3⟩, _, rfl, .inl ⟨_, rfl, _, _, rfl, rfl, (by show (0 : Int) < 1000; decide), d, _, _, rfl, rfl, hd3, ?_, ?_⟩⟩
            · rw [List.length_map]
              exact Nat.lt_of_lt_of_le (show ds'.length < 100000 by omega) (by decide)
            · refine ⟨_, rfl, _, _, rfl, rfl, ⟨by decide, by decide⟩, ds' ++ [z'' % 1000], _, _, rfl, same_mut s3 nd0 _, ?_, ?_⟩
              · rw [upd_same, len_ints]
              · rw [List.length_append, List.length_singleton]
                omega
          · exact ⟨ds', _, _, rfl, s3, hd3, by omega⟩
        · rintro σ H3 ⟨ds', z'', o6, rfl, s3, hd3, hl3⟩
          exact ⟨ds', _, _, _, _, rfl, s3, hd3, by omega⟩
      · refine ⟨_, rfl, _, _, rfl, rfl, .inr (by decide), _, rfl, _, _, rfl, rfl, .inr (by decide), _, _, rfl, rfl, _, _, rfl, rfl, .inl ⟨_, rfl, _, _, rfl, rfl, (by show (0 : Int) < 2147483647; decide), ?_⟩⟩
        refine ⟨12, rfl, by decide, by decide, for_range (lo := 0) (n := 12) (fun j σ H' => ∃ (ds' : List Int) (z7 : Int) (o6 : Option V), σ = [some (.ref a), some (.int 0), some (.int 63), some (.ref d), some (.int (0 + i)), some (.int z'), o6, some (.int z7)] ∧ Same H H' ∧ H' d = some (.lst (ds'.map V.int)) ∧ ds'.length ≤ 60 * i + j)
          ⟨ds, _, o6, rfl, s2, hd, hl⟩ ?_ ?_⟩
        · rintro j σ H3 hj ⟨ds', z7, o6, rfl, s3, hd3, hl3⟩
          refine ⟨_, rfl, _, _, rfl, rfl, .inr (by decide), _, rfl, _, _, rfl, rfl, .inl (by decide), _, _, rfl, rfl, _, _, rfl, rfl, .inl ⟨_, rfl, _, _, rfl, rfl, (by show (0 : Int) < 2147483647; decide), ?_⟩⟩
          refine ⟨_, rfl, .inl ⟨rfl, _, SqL.of hd3⟩, _, rfl, _, _, rfl, rfl, ⟨by decide, by decide⟩, .inl ⟨_, rfl, _, _, rfl, rfl, (by show (0 : Int) < 1000; decide), d, _, _, rfl, rfl, hd3, ?_, ?_⟩⟩
          · rw [List.length_map]
            exact Nat.lt_of_lt_of_le (show ds'.length < 100000 by omega) (by decide)
          · refine ⟨ds' ++ [((z7 * 16807 + 7 * (0 + (j : Int)) + 1) % 2147483647 / 997) % 1000], _, _, rfl, same_mut s3 nd0 _, ?_, ?_⟩
            · rw [upd_same, len_ints]
            · rw [List.length_append, List.length_singleton]
              omega
        · rintro σ H3 ⟨ds', z7, o6, rfl, s3, hd3, hl3⟩
          exact ⟨ds', _, _, _, _, rfl, s3, hd3, by omega⟩
  · rintro σ H2 ⟨ds, o4, o5, o6, o7, rfl, s2, hd, hl⟩
    exact ⟨_, rfl, q d H2 ds nd0 s2 hd⟩
end
end Mw

namespace Mw
open PySem L2
/-! ### how a heap goes on: all but the box stays, nothing is given up -/
structure Go (B : Addr) (H H' : Hp) : Prop where
  ext : ∀ b o, b ≠ B → H b = some o → H' b = some o
  dom : ∀ b, H' b = none → H b = none
theorem Go.refl (B : Addr) (H : Hp) : Go B H H := ⟨fun _ _ _ h => h, fun _ h => h⟩
theorem Go.trans {B : Addr} {H H1 H2 : Hp} (a : Go B H H1) (b : Go B H1 H2) : Go B H H2 := ⟨fun c o n h => b.ext c o n (a.ext c o n h), fun c h => a.dom c (b.dom c h)⟩
theorem upd_none {H : Hp} {p b : Addr} {o : HO} (h : upd H p o b = none) : H b = none := by
  unfold upd at h
  split at h
  · cases h
  · exact h
theorem Go.new {B : Addr} {H : Hp} {p : Addr} (h : H p = none) (o : HO) : Go B H (upd H p o) := ⟨fun b u _ q => same_new h o b u q, fun b q => upd_none q⟩
theorem Go.mut {B : Addr} {H H' : Hp} {p : Addr} (g : Go B H H') (h : H p = none) (o : HO) : Go B H (upd H' p o) :=
  ⟨fun b u n q => by
    rw [upd_ne (ne_of_none q h)]
    exact g.ext b u n q, fun b q => g.dom b (upd_none q)⟩
theorem Go.box (B : Addr) (H : Hp) (o : HO) : Go B H (upd H B o) := ⟨fun b u n q => by rw [upd_ne n]; exact q, fun b q => upd_none q⟩
theorem Go.same {B : Addr} {H H' : Hp} (s : Same H H') : Go B H H' := ⟨fun b o _ h => s b o h, fun b h => s.free h⟩
/-- what is new in H, seen from H0 -/
def fr (H0 H : Hp) : Hp := fun a => match H0 a with
  | none => H a
  | some _ => none
theorem fr_new {H0 H : Hp} {a : Addr} (h : H0 a = none) : fr H0 H a = H a := by
  unfold fr
  rw [h]
theorem fr_old {H0 H : Hp} {a : Addr} {o : HO} (h : H0 a = some o) : fr H0 H a = none := by
  unfold fr
  rw [h]
theorem fr_in {H0 H : Hp} {a : Addr} {o : HO} (h : fr H0 H a = some o) : H0 a = none ∧ H a = some o := by
  unfold fr at h
  split at h
  · exact ⟨by assumption, h⟩
  · cases h
theorem fr_go {B : Addr} {H0 H1 H2 : Hp} {ob : HO} (hb : H0 B = some ob) (g : Go B H1 H2) : Same (fr H0 H1) (fr H0 H2) := fun a o h => by
  obtain ⟨h0, h1⟩ := fr_in h
  rw [fr_new h0]
  exact g.ext a o (by rintro rfl; rw [hb] at h0; cases h0) h1
theorem fr_same {H0 H1 H2 : Hp} (g : Same H1 H2) : Same (fr H0 H1) (fr H0 H2) := fun a o h => by
  obtain ⟨h0, h1⟩ := fr_in h
  rw [fr_new h0]
  exact g a o h1
theorem fr_mut {H0 H1 : Hp} {l : Addr} {ol : HO} (hl : H0 l = some ol) (o : HO) : Same (fr H0 H1) (fr H0 (upd H1 l o)) := fun a u h => by
  obtain ⟨h0, h1⟩ := fr_in h
  rw [fr_new h0, upd_ne (by rintro rfl; rw [hl] at h0; cases h0)]
  exact h1
theorem fr_dom {H0 H1 H2 : Hp} (g : ∀ b, H1 b = none → H0 b = none) : Same (fr H1 H2) (fr H0 H2) := fun a u h => by
  obtain ⟨h0, h1⟩ := fr_in h
  rw [fr_new (g a h0)]
  exact h1
theorem fr_out {H0 H : Hp} : Same (fr H0 H) H := fun a o h => (fr_in h).2
/-- the box: digits and a place -/
def Box (H : Hp) (B d : Addr) : Prop := ∃ (ds : List Int) (i : Int), H B = some (.lst [.ref d, .int i]) ∧ H d = some (.lst (ds.map V.int)) ∧ 0 ≤ i
theorem Box.isB {H : Hp} {B d : Addr} (b : Box H B d) : ∃ o, H B = some o := by
  obtain ⟨ds, i, h, _⟩ := b
  exact ⟨_, h⟩
theorem Box.isD {H : Hp} {B d : Addr} (b : Box H B d) : ∃ o, H d = some o := by
  obtain ⟨ds, i, _, h, _⟩ := b
  exact ⟨_, h⟩
theorem Box.neB {H : Hp} {B d l : Addr} (b : Box H B d) (h : H l = none) : l ≠ B := by
  obtain ⟨o, hB⟩ := b.isB
  exact (ne_of_none hB h).symm
theorem Box.neD {H : Hp} {B d l : Addr} (b : Box H B d) (h : H l = none) : l ≠ d := by
  obtain ⟨o, hB⟩ := b.isD
  exact (ne_of_none hB h).symm
theorem Box.ne {H : Hp} {B d : Addr} {ds : List Int} {i : Int} (h : H B = some (.lst [.ref d, .int i])) (hd : H d = some (.lst (ds.map V.int))) : d ≠ B := by
  rintro rfl
  rw [h] at hd
  cases ds with
  | nil => cases hd
  | cons z r => cases hd
theorem Box.same {H H' : Hp} {B d : Addr} (s : Same H H') (b : Box H B d) : Box H' B d := by
  obtain ⟨ds, i, h, hd, hi⟩ := b
  exact ⟨ds, i, s _ _ h, s _ _ hd, hi⟩
theorem Box.mut {H : Hp} {B d l : Addr} (b : Box H B d) (hB : l ≠ B) (hd : l ≠ d) (o : HO) : Box (upd H l o) B d := by
  obtain ⟨ds, i, h, hd', hi⟩ := b
  exact ⟨ds, i, by rw [upd_ne hB.symm]; exact h, by rw [upd_ne hd.symm]; exact hd', hi⟩
theorem Box.new {H : Hp} {B d l : Addr} (b : Box H B d) (h : H l = none) (o : HO) : Box (upd H l o) B d := b.mut (b.neB h) (b.neD h) o
section
variable {P : Program} {w : World} {K : PySem.W.Frag} {mg : Str → Option Value} {base : Heap}
/-! ### _law_draw -/
abbrev sDraw : Stmt := top 14
theorem scDraw : FnScope ["box", "many", "at"] ["box", "many"] (defScope sDraw) := ⟨rfl, rfl, rfl, by decide +kernel, rfl, by decide +kernel, by decide +kernel⟩
def spDraw : Sp := fun vs H Q _ => ∃ (B d : Addr) (n : Int), vs = [.ref B, .int n] ∧ 0 < n ∧ Box H B d ∧ ∀ z H', 0 ≤ z → z < n → Go B H H' → Box H' B d → Q (.int z) H'
theorem ok_draw {f : Addr} {fd : FuncData} (F : Fun K "_law_draw" "_law_draw" sDraw f fd) (ml : mg "len" = none) (mi : mg "int" = none) : FnOk P w K mg base CX0 1 f fd ["box", "many"] spDraw := by
  refine F.ok scDraw (fun vs H Q E h => ?_) (fun cdv A outer s H vs Q E hr h => ?_)
  · obtain ⟨B, d, n, rfl, _⟩ := h
    rfl
  obtain ⟨B, d, n, rfl, h0, ⟨ds, i, hB, hd, hi⟩, q⟩ := h
  have nd := scDraw.nd
  refine ⟨_, pss_cons (ps_set (i := 2) nd rfl (.inl rfl) (pe_ix ix_list (pv 0) pe_int (fun _ _ => rfl)))
    (pss_cons (ps_asg (pe_op op_add (pv 2) pe_int) (pg_sub (pv 0) pe_int set_list))
    (pss_cons (ps_if (pt_cmpR op_lt (pv 2) (pe_callB call_len_seq (by rfl) ml PySem.boot_len (pa_cons (pe_ix ix_list (pv 0) pe_int (fun _ _ => rfl)) pa_nil)) (nomark _))
      (pss_one (ps_ret (pe_op op_mod (pe_callTy call_int1 (by rfl) mi (by decide +kernel) (pa_cons (pe_ix ix_list (pe_ix ix_list (pv 0) pe_int (fun _ _ => rfl)) (pv 2) (fun _ _ => rfl)) pa_nil)) (pv 1)))) pss_nil)
    (pss_one (ps_ret pe_int)))), ?_⟩
  have ne : d ≠ B := Box.ne hB hd
  refine ⟨_, rfl, B, _, 1, _, rfl, rfl, SqL.of hB, atI_nat (j := 1) rfl, ?_⟩
  refine ⟨_, rfl, _, _, rfl, rfl, _, rfl, B, _, 1, 1, rfl, rfl, hB, rfl, ?_⟩
  have hB' : upd H B (.lst [.ref d, .int (i + 1)]) B = some (.lst [.ref d, .int (i + 1)]) := upd_same
  have hd' : upd H B (.lst [.ref d, .int (i + 1)]) d = some (.lst (ds.map V.int)) := by rw [upd_ne ne]; exact hd
  have hb : Box (upd H B (.lst [.ref d, .int (i + 1)])) B d := ⟨ds, i + 1, hB', hd', by omega⟩
  refine ⟨_, rfl, _, rfl, B, _, 0, _, rfl, rfl, SqL.of hB', atI_nat (j := 0) rfl, d, _, rfl, .inl (SqL.of hd'), _, _, rfl, rfl, _, rfl, ?_⟩
  refine ite2 (fun c => ?_) (fun c => ?_)
  · have c' := of_decide_eq_true c
    rw [List.length_map] at c'
    have hk : i.toNat < ds.length := by omega
    refine ⟨_, rfl, B, _, 0, _, rfl, rfl, SqL.of hB', atI_nat (j := 0) rfl, _, rfl, d, _, i, .int ds[i.toNat], rfl, rfl, SqL.of hd', at_of (j := i.toNat) (by omega) (by rw [List.getElem?_map, List.getElem?_eq_getElem hk] <;> rfl), .inl ⟨_, rfl, _, rfl, _, _, rfl, rfl, h0, ?_⟩⟩
    exact q _ _ (Int.emod_nonneg _ (by omega)) (Int.emod_lt_of_pos _ h0) (Go.box B H _) hb
  · exact q 0 _ (by omega) h0 (Go.box B H _) hb
/-! ### _law_string -/
abbrev sString : Stmt := top 15
theorem scString : FnScope ["box"] ["box"] (defScope sString) := ⟨rfl, rfl, rfl, by decide +kernel, rfl, by decide +kernel, by decide +kernel⟩
def menu : List Str := ["a", "b ", " files", "'", "{x}", "#", "a'{'", "1\n2", "other {", "~"]
def spString : Sp := fun vs H Q _ => ∃ (B d : Addr), vs = [.ref B] ∧ Box H B d ∧ ∀ s H', s ∈ menu → Go B H H' → Box H' B d → Q (.str s) H'
theorem pick {α : Type} {l : List α} {g : α → V} {z : Int} (h0 : 0 ≤ z) (h : z < (l.length : Int)) : ∃ x, x ∈ l ∧ atI (l.map g) z = some (g x) := by
  have hk : z.toNat < l.length := by omega
  exact ⟨l[z.toNat], List.getElem_mem hk, at_of (j := z.toNat) (by omega) (by rw [List.getElem?_map, List.getElem?_eq_getElem hk] <;> rfl)⟩
theorem ok_string {f fD : Addr} {fd fdD : FuncData} (F : Fun K "_law_string" "_law_string" sString f fd) (GD : FnOk P w K mg base CX0 1 fD fdD ["box", "many"] spDraw) (bD : Binds K fdD ["box", "many"] []) (kD : PySem.W.keepIn K (.ref fD) = true) (mD : mg "_law_draw" = some (.ref fD)) :
    FnOk P w K mg base CX0 2 f fd ["box"] spString := by
  refine F.ok scString (fun vs H Q E h => ?_) (fun cdv A outer s H vs Q E hr h => ?_)
  · obtain ⟨B, d, rfl, _⟩ := h
    rfl
  obtain ⟨B, d, rfl, hb, q⟩ := h
  refine ⟨_, pss_one (ps_ret (pe_ix ix_list (pe_lst (pa_cons pe_str (pa_cons pe_str (pa_cons pe_str (pa_cons pe_str (pa_cons pe_str (pa_cons pe_str (pa_cons pe_str (pa_cons pe_str (pa_cons pe_str (pa_cons pe_str pa_nil)))))))))))
    (pe_call GD hr rfl mD kD bD .nil pass0 (pa_cons (pv 0) (pa_cons pe_int pa_nil))) (fun _ _ => rfl))), ?_⟩
  refine ⟨by decide, fun l hl => ?_⟩
  have s1 : Same H (upd H l (.lst (menu.map V.str))) := same_new hl _
  have nB : l ≠ B := hb.neB hl
  refine ⟨_, rfl, B, d, 10, rfl, by decide, hb.same s1, fun z H' h0 h1 g hb' => ?_⟩
  obtain ⟨x, hx, ha⟩ := pick (l := menu) (g := V.str) (z := z) h0 (by show z < ((10 : Nat) : Int); omega)
  refine ⟨l, _, z, .str x, rfl, rfl, SqL.of (g.ext _ _ nB upd_same), ha, ?_⟩
  exact q x _ hx ((Go.new hl _).trans g) hb'
end
end Mw

namespace Mw
open PySem L2
/-! ### what the law's messages are -/
def T.notText : T → Bool
  | .text _ _ => false
  | _ => true
def T.lastText : T → Bool
  | .nil => false
  | .text _ r => match r with | .nil => true | _ => r.lastText
  | .shw _ r => r.lastText
  | .num r => r.lastText
  | .cho _ _ _ r => r.lastText
  | .cas _ _ r => r.lastText
def T.len : T → Nat
  | .nil => 0
  | .text _ r => r.len + 1
  | .shw _ r => r.len + 1
  | .num r => r.len + 1
  | .cho _ _ _ r => r.len + 1
  | .cas _ _ r => r.len + 1
def T.sz : T → Nat
  | .nil => 0
  | .text s r => 1 + s.length + r.sz
  | .shw _ r => 1 + r.sz
  | .num r => 1 + r.sz
  | .cho _ cs o r => 1 + cs.sz + o.sz + r.sz
  | .cas _ m r => 1 + m.sz + r.sz
def T.keys : T → List V
  | .cas k _ r => k :: r.keys
  | _ => []
def words3 : List Str := ["a", "one", "select"]
def nums4 : List Int := [0, 1, 2, 12]
def cats5 : List Str := ["zero", "one", "two", "few", "many"]
def names4 : List Str := ["n", "w", "who", "count"]
def skeys : List V := words3.map V.str
def pkeys : List V := nums4.map V.int ++ cats5.map V.str
/-- a choice's head, and what stands within it: inside a plural or not, its keys -/
inductive HdOk : List V → Bool → Bool → List V → Prop where
  | sel {n : Str} {i : Bool} {ks : List V} (hn : n = "w" ∨ n = "kind") (hk : ks.Sublist skeys) : HdOk [.str "select", .str n] i i ks
  | plu {n : Str} {off : Int} {i : Bool} {ks : List V} (hn : n = "n" ∨ n = "count") (ho : off = 0 ∨ off = 1 ∨ off = 2) (hk : ks.Sublist pkeys ∨ ks.Sublist pkeys.reverse) : HdOk [.str "plural", .str n, .int off] i true ks
/-- c: cases, not a message; d: so many levels of choices; i: inside a plural -/
def Gd : T → Bool → Nat → Bool → Prop
  | .nil, _, _, _ => True
  | .text s r, c, d, i => c = false ∧ s ∈ menu ∧ r.notText = true ∧ Gd r c d i
  | .shw n r, c, d, i => c = false ∧ n ∈ names4 ∧ Gd r c d i
  | .num r, c, d, i => c = false ∧ i = true ∧ Gd r c d i
  | .cho hd cs o r, c, d, i => c = false ∧ (∃ e j, d = e + 1 ∧ HdOk hd i j cs.keys ∧ Gd cs true e j ∧ Gd o false e j) ∧ Gd r c d i
  | .cas _ m r, c, d, i => c = true ∧ Gd m false d i ∧ Gd r c d i
theorem T.app_len (u : T) : ∀ t : T, (t.app u).len = t.len + u.len
  | .nil => by simp [T.app, T.len]
  | .text _ r => by simp [T.app, T.len, T.app_len u r]; omega
  | .shw _ r => by simp [T.app, T.len, T.app_len u r]; omega
  | .num r => by simp [T.app, T.len, T.app_len u r]; omega
  | .cho _ _ _ r => by simp [T.app, T.len, T.app_len u r]; omega
  | .cas _ _ r => by simp [T.app, T.len, T.app_len u r]; omega
theorem T.app_sz (u : T) : ∀ t : T, (t.app u).sz = t.sz + u.sz
  | .nil => by simp [T.app, T.sz]
  | .text _ r => by simp [T.app, T.sz, T.app_sz u r]; omega
  | .shw _ r => by simp [T.app, T.sz, T.app_sz u r]; omega
  | .num r => by simp [T.app, T.sz, T.app_sz u r]; omega
  | .cho _ _ _ r => by simp [T.app, T.sz, T.app_sz u r]; omega
  | .cas _ _ r => by simp [T.app, T.sz, T.app_sz u r]; omega
theorem T.app_keys (k : V) (m u : T) : ∀ (t : T) (d : Nat) (i : Bool), Gd t true d i → (t.app (.cas k m u)).keys = t.keys ++ k :: u.keys
  | .nil, _, _, _ => rfl
  | .text _ r, _, _, h => by cases h.1
  | .shw _ r, _, _, h => by cases h.1
  | .num r, _, _, h => by cases h.1
  | .cho _ _ _ r, _, _, h => by cases h.1
  | .cas _ _ r, d, i, h => by simp [T.app, T.keys, T.app_keys k m u r d i h.2.2]
theorem T.notText_app {r u : T} (h : r.notText = true) (hu : r = .nil → u.notText = true) : (r.app u).notText = true := by
  cases r <;> first | exact hu rfl | rfl | cases h
theorem Gd.app {u : T} {c : Bool} {d : Nat} {i : Bool} (hu : Gd u c d i) : ∀ {t : T}, Gd t c d i → (t.lastText = true → u.notText = true) → Gd (t.app u) c d i
  | .nil, _, _ => hu
  | .text s r, h, l => by
    refine ⟨h.1, h.2.1, T.notText_app h.2.2.1 (fun e => ?_), Gd.app hu h.2.2.2 (fun e => ?_)⟩
    · subst e
      exact l rfl
    · refine l ?_
      cases r <;> first | rfl | exact e
  | .shw n r, h, l => ⟨h.1, h.2.1, Gd.app hu h.2.2 l⟩
  | .num r, h, l => ⟨h.1, h.2.1, Gd.app hu h.2.2 l⟩
  | .cho hd cs o r, h, l => ⟨h.1, h.2.1, Gd.app hu h.2.2 l⟩
  | .cas k m r, h, l => ⟨h.1, h.2.1, Gd.app hu h.2.2 l⟩
theorem Nodes.length {H : Hp} : ∀ {t : T} {vs : List V}, Nodes H t vs → vs.length = t.len
  | .nil, _, h => by
    have h' : _ = [] := h
    subst h'
    rfl
  | .text s r, _, h => by
    obtain ⟨p, ws, rfl, _, hr⟩ := h
    exact congrArg (· + 1) hr.length
  | .shw n r, _, h => by
    obtain ⟨p, ws, rfl, _, hr⟩ := h
    exact congrArg (· + 1) hr.length
  | .num r, _, h => by
    obtain ⟨p, ws, rfl, _, hr⟩ := h
    exact congrArg (· + 1) hr.length
  | .cho hd cs o r, _, h => by
    obtain ⟨p, ws, ca, cvs, oa, ovs, rfl, _, _, _, _, _, hr⟩ := h
    exact congrArg (· + 1) hr.length
  | .cas k m r, _, h => by
    obtain ⟨p, ws, ma, mvs, rfl, _, _, _, hr⟩ := h
    exact congrArg (· + 1) hr.length
/-- a message's last node is a tuple whose first item tells whether it is a text -/
theorem Nodes.last {H : Hp} : ∀ {t : T} {vs : List V} {d : Nat} {i : Bool}, Nodes H t vs → Gd t false d i → vs ≠ [] → ∃ us p x xs, vs = us ++ [.ref p] ∧ H p = some (.tup (.str x :: xs)) ∧ (x = "text" ↔ t.lastText = true)
  | .nil, _, _, _, h, _, n => absurd h n
  | .text s r, _, d, i, h, g, _ => by
    obtain ⟨p, ws, rfl, hp, hr⟩ := h
    by_cases e : ws = []
    · subst e
      have : r = .nil := by
        have := hr.length
        cases r <;> first | rfl | (simp [T.len] at this)
      subst this
      exact ⟨[], p, _, _, rfl, hp, by simp [T.lastText]⟩
    · obtain ⟨us, q, x, xs, e1, e2, e3⟩ := Nodes.last hr g.2.2.2 e
      refine ⟨.ref p :: us, q, x, xs, by rw [e1]; rfl, e2, ?_⟩
      rw [e3]
      cases r <;> first | rfl | (exfalso; exact e hr)
  | .shw s r, _, d, i, h, g, _ => by
    obtain ⟨p, ws, rfl, hp, hr⟩ := h
    by_cases e : ws = []
    · subst e
      have : r = .nil := by
        have := hr.length
        cases r <;> first | rfl | (simp [T.len] at this)
      subst this
      exact ⟨[], p, _, _, rfl, hp, by simp [T.lastText]; decide⟩
    · obtain ⟨us, q, x, xs, e1, e2, e3⟩ := Nodes.last hr g.2.2 e
      exact ⟨.ref p :: us, q, x, xs, by rw [e1]; rfl, e2, e3⟩
  | .num r, _, d, i, h, g, _ => by
    obtain ⟨p, ws, rfl, hp, hr⟩ := h
    by_cases e : ws = []
    · subst e
      have : r = .nil := by
        have := hr.length
        cases r <;> first | rfl | (simp [T.len] at this)
      subst this
      exact ⟨[], p, _, _, rfl, hp, by simp [T.lastText]; decide⟩
    · obtain ⟨us, q, x, xs, e1, e2, e3⟩ := Nodes.last hr g.2.2 e
      exact ⟨.ref p :: us, q, x, xs, by rw [e1]; rfl, e2, e3⟩
  | .cho hd cs o r, _, d, i, h, g, _ => by
    obtain ⟨p, ws, ca, cvs, oa, ovs, rfl, hp, _, _, _, _, hr⟩ := h
    by_cases e : ws = []
    · subst e
      have : r = .nil := by
        have := hr.length
        cases r <;> first | rfl | (simp [T.len] at this)
      subst this
      obtain ⟨_, ⟨e', j, _, hh, _⟩, _⟩ := g
      cases hh with
      | sel => exact ⟨[], p, _, _, rfl, hp, by simp [T.lastText]; decide⟩
      | plu => exact ⟨[], p, _, _, rfl, hp, by simp [T.lastText]; decide⟩
    · obtain ⟨us, q, x, xs, e1, e2, e3⟩ := Nodes.last hr g.2.2 e
      exact ⟨.ref p :: us, q, x, xs, by rw [e1]; rfl, e2, e3⟩
  | .cas k m r, _, _, _, _, g, _ => by cases g.1
/-- the sizes by levels -/
def nodeW : Nat → Nat
  | 0 => 8
  | d + 1 => 10 + 30 * nodeW d
def msgW (d : Nat) : Nat := 3 * nodeW d
theorem nodeW_ge : ∀ d, 8 ≤ nodeW d
  | 0 => Nat.le_refl _
  | d + 1 => by have := nodeW_ge d; show 8 ≤ 10 + 30 * nodeW d; omega
theorem menu_len {s : Str} (h : s ∈ menu) : s.length ≤ 7 := by
  have a : ∀ s ∈ menu, s.length ≤ 7 := by decide +kernel
  exact a s h
end Mw

namespace Mw
open PySem L2
section
variable {P : Program} {w : World} {K : PySem.W.Frag} {mg : Str → Option Value} {base : Heap}
/-! ### the builder's promises -/
abbrev sSel : Stmt := top 16
abbrev sPlu : Stmt := top 17
abbrev sMsg : Stmt := top 18
theorem scSel : FnScope ["box", "depth", "inside", "cases", "word"] ["box", "depth", "inside"] (defScope sSel) := ⟨rfl, rfl, rfl, by decide +kernel, rfl, by decide +kernel, by decide +kernel⟩
theorem scPlu : FnScope ["box", "depth", "cases", "key"] ["box", "depth"] (defScope sPlu) := ⟨rfl, rfl, rfl, by decide +kernel, rfl, by decide +kernel, by decide +kernel⟩
theorem scMsg : FnScope ["box", "depth", "inside", "message", "turn", "kind"] ["box", "depth", "inside"] (defScope sMsg) := ⟨rfl, rfl, rfl, by decide +kernel, rfl, by decide +kernel, by decide +kernel⟩
/-- a new message of at most d levels -/
def spMsg (d : Nat) : Sp := fun vs H Q _ => ∃ (B b : Addr) (i : Bool), vs = [.ref B, .int d, .bl i] ∧ Box H B b ∧
  ∀ r H' t, Go B H H' → Box H' B b → At (fr H H') r t → Gd t false d i → t.sz ≤ msgW d → t.len ≤ 3 → Q (.ref r) H'
/-- a new node: a choice -/
def NodeAt (H H' : Hp) (p : Addr) (d : Nat) (i : Bool) : Prop := ∃ hd cs o, Nodes (fr H H') (.cho hd cs o .nil) [.ref p] ∧ Gd (.cho hd cs o .nil) false d i ∧ (T.cho hd cs o .nil).sz ≤ nodeW d
def spSel (d : Nat) : Sp := fun vs H Q _ => ∃ (B b : Addr) (i : Bool) (e : Nat), d = e + 1 ∧ vs = [.ref B, .int d, .bl i] ∧ Box H B b ∧ ∀ p H', Go B H H' → Box H' B b → NodeAt H H' p d i → Q (.ref p) H'
def spPlu (d : Nat) : Sp := fun vs H Q _ => ∃ (B b : Addr) (e : Nat), d = e + 1 ∧ vs = [.ref B, .int d] ∧ Box H B b ∧ ∀ p H', Go B H H' → Box H' B b → (∀ i, NodeAt H H' p d i) → Q (.ref p) H'
theorem sz_line {n : Nat} (h : n < 10000000) : n < sizeLine := Nat.lt_of_lt_of_le h (by decide)
theorem le_line {n : Nat} (h : n < 10000000) : n ≤ sizeLine := Nat.le_of_lt (sz_line h)
end
end Mw

namespace Mw
open PySem L2
def MsgInv (B b : Addr) (H H1 : Hp) (l : Addr) (d : Nat) (ins : Bool) (i : Nat) (σ : St) (H' : Hp) : Prop :=
  ∃ vs t o4 o5, σ = [some (.ref B), some (.int d), some (.bl ins), some (.ref l), o4, o5] ∧ Go B H H' ∧ Box H' B b ∧ H' l = some (.lst vs) ∧ Nodes (fr H1 H') t vs ∧ Gd t false d ins ∧ t.sz ≤ i * nodeW d ∧ t.len ≤ i
theorem dom1 {B l : Addr} {H H' : Hp} {o o' : HO} (g : Go B H H') (hl : H' l = some o') : ∀ c, H' c = none → upd H l o c = none := fun c hc => by
  rw [upd_ne (by rintro rfl; rw [hl] at hc; cases hc)]
  exact g.dom c hc
theorem MsgInv.grow {B b l p : Addr} {H H' H'' : Hp} {d : Nat} {ins : Bool} {i : Nat} {vs : List V} {t u : T} {o4 o5 : Option V} {o : HO} (hl0 : H l = none) (hlB : l ≠ B) (hlb : l ≠ b) (hB : ∃ o, H B = some o)
    (g : Go B H H') (hl : H' l = some (.lst vs)) (hn : Nodes (fr (upd H l o) H') t vs) (hg : Gd t false d ins) (hs : t.sz ≤ i * nodeW d) (hlen : t.len ≤ i)
    (g2 : Go B H' H'') (hb : Box H'' B b) (hu : Nodes (fr (upd H l o) H'') u [.ref p]) (gu : Gd u false d ins) (su : u.sz ≤ nodeW d) (lu : u.len = 1) (nt : t.lastText = true → u.notText = true) :
    MsgInv B b H (upd H l o) l d ins (i + 1) [some (.ref B), some (.int d), some (.bl ins), some (.ref l), o4, o5] (upd H'' l (.lst (vs ++ [.ref p]))) := by
  obtain ⟨oB, hB⟩ := hB
  have hB1 : upd H l o B = some oB := by rw [upd_ne hlB.symm]; exact hB
  refine ⟨vs ++ [.ref p], t.app u, o4, o5, rfl, (g.trans g2).mut hl0 _, hb.mut hlB hlb _, upd_same, ?_, hg |> fun h => Gd.app gu h nt, ?_, ?_⟩
  · exact Nodes.same (fr_mut upd_same _) (Nodes.app hu (Nodes.same (fr_go hB1 g2) hn))
  · rw [T.app_sz, Nat.add_mul, Nat.one_mul]
    omega
  · rw [T.app_len]
    omega
/-! ### tests that come to a Bool, the heap as it is -/
theorem t_or {t u : TT} {σ : L2.St} {H : Hp} {Q : Bool → Hp → Prop} (a b : Bool) (ht : ∀ Q : Bool → Hp → Prop, Q a H → t σ H Q) (hu : a = false → ∀ Q : Bool → Hp → Prop, Q b H → u σ H Q) (q : Q (a || b) H) : tOr t u σ H Q := by
  refine ht _ ?_
  cases a with
  | true => exact iteT q
  | false => exact iteF (hu rfl _ q)
theorem t_and {t u : TT} {σ : L2.St} {H : Hp} {Q : Bool → Hp → Prop} (a b : Bool) (ht : ∀ Q : Bool → Hp → Prop, Q a H → t σ H Q) (hu : a = true → ∀ Q : Bool → Hp → Prop, Q b H → u σ H Q) (q : Q (a && b) H) : tAnd t u σ H Q := by
  refine ht _ ?_
  cases a with
  | true => exact iteT (hu rfl _ q)
  | false => exact iteF q
theorem i_or {t u : TT} {tu tw : TS} {D : Ends} {σ : L2.St} {H : Hp} (a b : Bool) (ht : ∀ Q : Bool → Hp → Prop, Q a H → t σ H Q) (hu : a = false → ∀ Q : Bool → Hp → Prop, Q b H → u σ H Q) (q : if (a || b) = true then tu D σ H else tw D σ H) : tIfS (tOr t u) tu tw D σ H :=
  t_or (Q := fun c H1 => if c = true then tu D σ H1 else tw D σ H1) a b ht hu q
theorem int_eq {i j : Int} (h : V.int i = V.int j) : i = j := by cases h; rfl
theorem str_eq {i j : Str} (h : V.str i = V.str j) : i = j := by cases h; rfl
section
variable {P : Program} {w : World} {K : PySem.W.Frag} {mg : Str → Option Value} {base : Heap}
theorem pickL {l : List Str} {z : Int} (h0 : 0 ≤ z) (h : z < (l.length : Int)) : ∃ x, x ∈ l ∧ atI (l.map V.str) z = some (V.str x) := pick h0 h
theorem ok_msg {k d : Nat} {f fD fT fS fP : Addr} {fd fdD fdT fdS fdP : FuncData} (hk : 2 ≤ k) (F : Fun K "_law_message" "_law_message" sMsg f fd)
    (GD : FnOk P w K mg base CX0 1 fD fdD ["box", "many"] spDraw) (bD : Binds K fdD ["box", "many"] []) (kD : PySem.W.keepIn K (.ref fD) = true) (mD : mg "_law_draw" = some (.ref fD))
    (GT : FnOk P w K mg base CX0 2 fT fdT ["box"] spString) (bT : Binds K fdT ["box"] []) (kT : PySem.W.keepIn K (.ref fT) = true) (mT : mg "_law_string" = some (.ref fT))
    (GS : FnOk P w K mg base CX0 k fS fdS ["box", "depth", "inside"] (spSel d)) (bS : Binds K fdS ["box", "depth", "inside"] []) (kS : PySem.W.keepIn K (.ref fS) = true) (mS : mg "_law_select" = some (.ref fS))
    (GP : FnOk P w K mg base CX0 k fP fdP ["box", "depth"] (spPlu d)) (bP : Binds K fdP ["box", "depth"] []) (kP : PySem.W.keepIn K (.ref fP) = true) (mP : mg "_law_plural" = some (.ref fP))
    (mr : mg "range" = none) (ml : mg "len" = none) : FnOk P w K mg base CX0 (k + 1) f fd ["box", "depth", "inside"] (spMsg d) := by
  refine F.ok scMsg (fun vs H Q E h => ?_) (fun cdv A outer s H vs Q E hr h => ?_)
  · obtain ⟨B, b, i, rfl, _⟩ := h
    rfl
  obtain ⟨B, b, ins, rfl, hb, q⟩ := h
  have nd := scMsg.nd
  have hr1 : Room 1 _ := hr.mono (by omega)
  have hr2 : Room 2 _ := hr.mono hk
  refine ⟨_, pss_cons (ps_set (i := 3) nd rfl (.inl rfl) (pe_lst pa_nil))
    (pss_cons (ps_for PassesOwn.never rfl (pi_range1 rfl mr (pa_cons (pe_call GD hr1 rfl mD kD bD .nil pass0 (pa_cons (pv 0) (pa_cons pe_int pa_nil))) pa_nil)) (pg_name (i := 4) nd rfl (.inl rfl))
      (pss_cons (ps_set (i := 5) nd rfl (.inl rfl) (pe_call GD hr1 rfl mD kD bD .nil pass0 (pa_cons (pv 0) (pa_cons pe_int pa_nil))))
      (pss_one (ps_if (PW.pt (pw_or (pt_cmpR op_lt (pv 5) pe_int (nomark _)) (pw_or1 (PW.pt (pw_and (pt_cmpR op_eq (pv 1) pe_int (nomark _)) (pw_and1 (pt_cmpR op_gt (pv 5) pe_int (nomark _))))))))
        (pss_one (ps_if (PW.pt (pw_or (pt_cmpR op_eq (pe_callB call_len_seq (by rfl) ml PySem.boot_len (pa_cons (pv 3) pa_nil)) pe_int (nomark _)) (pw_or1 (pt_cmpR op_ne (pe_ix ix_tup (pe_ix ix_list (pv 3) (pe_un un_neg pe_int) (fun _ _ => rfl)) pe_int (fun _ _ => rfl)) pe_str (nomark _)))))
          (pss_one (ps_expr (pe_bm PySem.F.plainAttrs_list PySem.F.slot_list_append PySem.F.type_list_append mt_append (pv 3) (pa_cons (pe_tup (pa_cons pe_str (pa_cons (pe_call GT hr2 rfl mT kT bT .nil pass0 (pa_cons (pv 0) pa_nil)) pa_nil))) pa_nil)))) pss_nil))
        (pss_one (ps_if (pt_cmpR op_eq (pv 5) pe_int (nomark _))
          (pss_one (ps_expr (pe_bm PySem.F.plainAttrs_list PySem.F.slot_list_append PySem.F.type_list_append mt_append (pv 3) (pa_cons (pe_tup (pa_cons pe_str (pa_cons (pe_ix ix_list (pe_lst (pa_cons pe_str (pa_cons pe_str (pa_cons pe_str (pa_cons pe_str pa_nil))))) (pe_call GD hr1 rfl mD kD bD .nil pass0 (pa_cons (pv 0) (pa_cons pe_int pa_nil))) (fun _ _ => rfl)) pa_nil))) pa_nil))))
          (pss_one (ps_if (pt_cmpR op_eq (pv 5) pe_int (nomark _))
            (pss_one (ps_if (pt_val (pv 2)) (pss_one (ps_expr (pe_bm PySem.F.plainAttrs_list PySem.F.slot_list_append PySem.F.type_list_append mt_append (pv 3) (pa_cons (pe_tup (pa_cons pe_str pa_nil)) pa_nil)))) pss_nil))
            (pss_one (ps_if (pt_cmpR op_lt (pv 5) pe_int (nomark _))
              (pss_one (ps_expr (pe_bm PySem.F.plainAttrs_list PySem.F.slot_list_append PySem.F.type_list_append mt_append (pv 3) (pa_cons (pe_call GP hr rfl mP kP bP .nil pass0 (pa_cons (pv 0) (pa_cons (pv 1) pa_nil))) pa_nil))))
              (pss_one (ps_expr (pe_bm PySem.F.plainAttrs_list PySem.F.slot_list_append PySem.F.type_list_append mt_append (pv 3) (pa_cons (pe_call GS hr rfl mS kS bS .nil pass0 (pa_cons (pv 0) (pa_cons (pv 1) (pa_cons (pv 2) pa_nil)))) pa_nil))))))))))))))
    (pss_one (ps_ret (pv 3)))), ?_⟩
  refine ⟨Nat.zero_le _, fun l hl => ?_⟩
  have hlB := hb.neB hl
  have hlb := hb.neD hl
  have hBs := hb.isB
  refine ⟨_, rfl, B, b, 4, rfl, by decide, hb.new hl _, fun z H2 z0 z4 g2 hb2 => ?_⟩
  refine ⟨z, rfl, by omega, by omega, for_range (lo := 0) (n := z.toNat) (MsgInv B b H (upd H l (.lst [])) l d ins) ⟨[], .nil, none, none, rfl, (Go.new hl _).trans g2, hb2, g2.ext _ _ hlB upd_same, rfl, trivial, Nat.zero_le _, Nat.le_refl _⟩ ?_ ?_⟩
  rotate_left
  · rintro σ H' ⟨vs, t, o4, o5, rfl, g, hb', hl', hn, hg, hs, hlen⟩
    refine ⟨_, rfl, q l H' t g hb' ⟨vs, ?_, ?_⟩ hg ?_ (by omega)⟩
    · rw [fr_new hl]
      exact hl'
    · exact Nodes.same (fr_dom fun c hc => upd_none hc) hn
    · have : z.toNat * nodeW d ≤ 3 * nodeW d := Nat.mul_le_mul_right _ (by omega)
      exact Nat.le_trans hs this
  · rintro i σ H' hi ⟨vs, t, o4, o5, rfl, g, hb', hl', hn, hg, hs, hlen⟩
    have hvs : vs.length < 1000 := by
      rw [hn.length]
      omega
    refine ⟨_, rfl, B, b, 8, rfl, by decide, hb', fun kind H3 k0 k8 g3 hb3 => ?_⟩
    have hl3 : H3 l = some (.lst vs) := g3.ext _ _ hlB hl'
    have g03 := g.trans g3
    have hB1 : ∃ o, upd H l (HO.lst []) B = some o := by
      obtain ⟨o, h⟩ := hBs
      exact ⟨o, by rw [upd_ne hlB.symm]; exact h⟩
    have hn3 : Nodes (fr (upd H l (.lst [])) H3) t vs := by
      obtain ⟨o, h⟩ := hB1
      exact Nodes.same (fr_go h g3) hn
    dsimp only [gName]
    refine i_or (decide (kind < 3)) (decide (V.int (d : Int) = V.int 0) && decide (4 < kind)) (fun Q q => ⟨_, rfl, _, _, rfl, rfl, _, rfl, q⟩)
      (fun _ Q q => t_and (decide (V.int (d : Int) = V.int 0)) (decide (4 < kind)) (fun Q q => ⟨_, rfl, rfl, _, rfl, q⟩) (fun _ Q q => ⟨_, rfl, _, _, rfl, rfl, _, rfl, q⟩) q) ?_
    refine ite2 (fun c => ?_) (fun c => ?_)
    · -- a text
      refine i_or (decide (V.int (vs.length : Int) = V.int 0)) (!t.lastText) (fun Q q => ⟨_, rfl, l, _, rfl, .inl (SqL.of hl3), rfl, _, rfl, q⟩) (fun e Q q => ?_) ?_
      · have ne : vs ≠ [] := by
          rintro rfl
          cases e
        obtain ⟨us, p, x, xs, e1, e2, e3⟩ := Nodes.last hn3 hg ne
        refine ⟨_, rfl, 1, rfl, l, _, -1, .ref p, rfl, rfl, SqL.of hl3, by rw [e1]; exact atI_last _ _, p, _, 0, .str x, rfl, rfl, .inl (.inl (fr_out _ _ e2)), atI_nat (j := 0) rfl, rfl, _, rfl, ?_⟩
        have eb : (!t.lastText) = (!decide (V.str x = V.str "text")) := by
          cases ht : t.lastText with
          | true =>
            rw [e3.mpr ht, decide_eq_true rfl]
          | false =>
            rw [decide_eq_false]
            intro z
            rw [e3.mp (str_eq z)] at ht
            cases ht
        rw [← eb]
        exact q
      · refine ite2 (fun c2 => ?_) (fun c2 => ?_)
        · have nl : t.lastText = true → T.notText (.text "" .nil) = true := fun hlt => by
            exfalso
            rw [hlt] at c2
            have c3 := of_decide_eq_true ((Bool.or_false _).symm.trans c2)
            have : vs = [] := List.length_eq_zero_iff.mp (by have := int_eq c3; omega)
            subst this
            have ht : t = .nil := by
              have := hn3.length
              cases t <;> first | rfl | (simp [T.len] at this)
            subst ht
            cases hlt
          refine ⟨_, rfl, .inl ⟨rfl, _, SqL.of hl3⟩, _, rfl, B, b, rfl, hb3, fun x H4 hx g4 hb4 => ⟨by show 2 ≤ sizeLine; decide, fun p hp => ?_⟩⟩
          have hl4 : H4 l = some (.lst vs) := g4.ext _ _ hlB hl3
          have hp1 : upd H l (HO.lst []) p = none := dom1 (g03.trans g4) hl4 p hp
          refine ⟨l, _, _, rfl, rfl, (by rw [upd_ne (ne_of_none hl4 hp)]; exact hl4), sz_line (by omega), ?_⟩
          exact MsgInv.grow (u := .text x .nil) hl hlB hlb hBs g03 hl3 hn3 hg hs hlen (g4.trans (Go.new hp _)) (hb4.new hp _) ⟨p, [], rfl, by rw [fr_new hp1]; exact upd_same, rfl⟩ ⟨rfl, hx, rfl, trivial⟩
            (by have := menu_len hx; have := nodeW_ge d; show 1 + x.length + 0 ≤ _; omega) rfl nl
        · exact ⟨vs, t, _, _, rfl, g03, hb3, hl3, hn3, hg, by rw [Nat.add_mul]; omega, by omega⟩
    · -- another kind of node
      have hd1 : ¬ kind < 3 ∧ ¬ (d = 0 ∧ 4 < kind) := by
        constructor
        · intro h
          exact c (by rw [decide_eq_true h]; rfl)
        · rintro ⟨rfl, h⟩
          refine c ?_
          rw [decide_eq_true h]
          exact Bool.or_true _
      refine ⟨_, rfl, rfl, _, rfl, ite2 (fun c3 => ?_) (fun c3 => ⟨_, rfl, rfl, _, rfl, ite2 (fun c4 => ?_) (fun c4 => ⟨_, rfl, _, _, rfl, rfl, _, rfl, ite2 (fun c5 => ?_) (fun c5 => ?_)⟩)⟩)⟩
      · -- show
        refine ⟨_, rfl, .inl ⟨rfl, _, SqL.of hl3⟩, by decide, fun m hm => ?_⟩
        have hmB := hb3.neB hm
        refine ⟨_, rfl, B, b, 4, rfl, by decide, hb3.new hm _, fun z' H4 z0' z4' g4 hb4 => ?_⟩
        obtain ⟨x, hx, ha⟩ := pickL (l := names4) z0' (by show z' < ((4 : Nat) : Int); omega)
        refine ⟨m, _, z', .str x, rfl, rfl, SqL.of (g4.ext _ _ hmB upd_same), ha, by show 2 ≤ sizeLine; decide, fun p hp => ?_⟩
        have g34 : Go B H3 H4 := (Go.new hm _).trans g4
        have hl4 : H4 l = some (.lst vs) := g34.ext _ _ hlB hl3
        have hp1 : upd H l (HO.lst []) p = none := dom1 (g03.trans g34) hl4 p hp
        refine ⟨l, _, _, rfl, rfl, (by rw [upd_ne (ne_of_none hl4 hp)]; exact hl4), sz_line (by omega), ?_⟩
        exact MsgInv.grow (u := .shw x .nil) hl hlB hlb hBs g03 hl3 hn3 hg hs hlen (g34.trans (Go.new hp _)) (hb4.new hp _) ⟨p, [], rfl, by rw [fr_new hp1]; exact upd_same, rfl⟩ ⟨rfl, hx, trivial⟩
            (by have := nodeW_ge d; show 1 + 0 ≤ _; omega) rfl fun _ => rfl
      · -- number
        refine ⟨_, rfl, _, rfl, ite2 (fun c6 => ?_) (fun c6 => ?_)⟩
        · refine ⟨_, rfl, .inl ⟨rfl, _, SqL.of hl3⟩, by show 1 ≤ sizeLine; decide, fun p hp => ?_⟩
          have hp1 : upd H l (HO.lst []) p = none := dom1 g03 hl3 p hp
          refine ⟨l, _, _, rfl, rfl, (by rw [upd_ne (ne_of_none hl3 hp)]; exact hl3), sz_line (by omega), ?_⟩
          exact MsgInv.grow (u := .num .nil) hl hlB hlb hBs g03 hl3 hn3 hg hs hlen (Go.new hp _) (hb3.new hp _) ⟨p, [], rfl, by rw [fr_new hp1]; exact upd_same, rfl⟩ ⟨rfl, c6, trivial⟩
            (by have := nodeW_ge d; show 1 + 0 ≤ _; omega) rfl fun _ => rfl
        · exact ⟨vs, t, _, _, rfl, g03, hb3, hl3, hn3, hg, by rw [Nat.add_mul]; omega, by omega⟩
      all_goals
        have hk4 : ¬ kind = 4 := fun e => c4 (by rw [e]; rfl)
        have hk3 : ¬ kind = 3 := fun e => c3 (by rw [e]; rfl)
        obtain ⟨e, he⟩ : ∃ e, d = e + 1 := by
          cases d with
          | zero => exact absurd (by omega) (fun h => hd1.2 ⟨rfl, h⟩)
          | succ e => exact ⟨e, rfl⟩
      · refine ⟨_, rfl, .inl ⟨rfl, _, SqL.of hl3⟩, _, rfl, _, rfl, B, b, e, he, rfl, hb3, fun p H4 g4 hb4 hN => ?_⟩
        obtain ⟨hd', cs, o, n1, n2, n3⟩ := hN ins
        have hl4 : H4 l = some (.lst vs) := g4.ext _ _ hlB hl3
        refine ⟨l, _, _, rfl, rfl, hl4, sz_line (by omega), ?_⟩
        exact MsgInv.grow hl hlB hlb hBs g03 hl3 hn3 hg hs hlen g4 hb4 (Nodes.same (fr_dom (dom1 g03 hl3)) n1) n2 n3 rfl fun _ => rfl
      · refine ⟨_, rfl, .inl ⟨rfl, _, SqL.of hl3⟩, _, rfl, _, rfl, _, rfl, B, b, ins, e, he, rfl, hb3, fun p H4 g4 hb4 hN => ?_⟩
        obtain ⟨hd', cs, o, n1, n2, n3⟩ := hN
        have hl4 : H4 l = some (.lst vs) := g4.ext _ _ hlB hl3
        refine ⟨l, _, _, rfl, rfl, hl4, sz_line (by omega), ?_⟩
        exact MsgInv.grow hl hlB hlb hBs g03 hl3 hn3 hg hs hlen g4 hb4 (Nodes.same (fr_dom (dom1 g03 hl3)) n1) n2 n3 rfl fun _ => rfl
end
end Mw

namespace Mw
open PySem L2
def CasInv (B b l wl : Addr) (H H1 : Hp) (ks : List V) (e : Nat) (j : Bool) (i : Nat) (H' : Hp) : Prop :=
  ∃ vs t, Go B H H' ∧ Box H' B b ∧ H' wl = some (.lst ks) ∧ H' l = some (.lst vs) ∧ Nodes (fr H1 H') t vs ∧ Gd t true e j ∧ t.keys.Sublist (ks.take i) ∧ t.sz ≤ i * (1 + msgW e)
theorem CasInv.skip {B b l wl : Addr} {H H1 H' H'' : Hp} {ks : List V} {e : Nat} {j : Bool} {i : Nat} (h : CasInv B b l wl H H1 ks e j i H') (hlB : l ≠ B) (hwB : wl ≠ B) (hB : ∃ o, H1 B = some o) (g : Go B H' H'') (hb : Box H'' B b) : CasInv B b l wl H H1 ks e j i H'' := by
  obtain ⟨vs, t, g1, _, hw, hl, hn, hg, hk, hs⟩ := h
  obtain ⟨o, hB⟩ := hB
  exact ⟨vs, t, g1.trans g, hb, g.ext _ _ hwB hw, g.ext _ _ hlB hl, Nodes.same (fr_go hB g) hn, hg, hk, hs⟩
theorem take_mono {α : Type} {ys xs : List α} {i : Nat} (h : ys.Sublist (xs.take i)) : ys.Sublist (xs.take (i + 1)) :=
  h.trans (by rw [List.take_succ]; exact List.sublist_append_left _ _)
theorem CasInv.next {B b l wl : Addr} {H H1 H' : Hp} {ks : List V} {e : Nat} {j : Bool} {i : Nat} (h : CasInv B b l wl H H1 ks e j i H') : CasInv B b l wl H H1 ks e j (i + 1) H' := by
  obtain ⟨vs, t, g1, hb, hw, hl, hn, hg, hk, hs⟩ := h
  exact ⟨vs, t, g1, hb, hw, hl, hn, hg, take_mono hk, by rw [Nat.add_mul]; omega⟩
theorem CasInv.grow {B b l wl p r : Addr} {H H' H'' : Hp} {ks : List V} {e : Nat} {j : Bool} {i : Nat} {vs : List V} {t m : T} {k : V} {o : HO} (hl0 : H l = none) (hlB : l ≠ B) (hlb : l ≠ b) (hlw : wl ≠ l) (hwB : wl ≠ B) (hB : ∃ o, H B = some o)
    (g : Go B H H') (hl : H' l = some (.lst vs)) (hw : H' wl = some (.lst ks)) (hn : Nodes (fr (upd H l o) H') t vs) (hg : Gd t true e j) (hs : t.sz ≤ i * (1 + msgW e)) (hk : t.keys.Sublist (ks.take i)) (hki : ks[i]? = some k)
    (g2 : Go B H' H'') (hb : Box H'' B b) (hr : At (fr H' H'') r m) (gm : Gd m false e j) (sm : m.sz ≤ msgW e) (hp : H'' p = none) :
    CasInv B b l wl H (upd H l o) ks e j (i + 1) (upd (upd H'' p (.tup [k, .ref r])) l (.lst (vs ++ [.ref p]))) := by
  obtain ⟨oB, hB⟩ := hB
  have hB1 : upd H l o B = some oB := by rw [upd_ne hlB.symm]; exact hB
  have hl2 : H'' l = some (.lst vs) := g2.ext _ _ hlB hl
  have hw2 : H'' wl = some (.lst ks) := g2.ext _ _ hwB hw
  have hp1 : upd H l o p = none := dom1 (g.trans g2) hl2 p hp
  have s3 : Same H'' (upd H'' p (.tup [k, .ref r])) := same_new hp _
  have hu : Nodes (fr (upd H l o) (upd H'' p (.tup [k, .ref r]))) (.cas k m .nil) [.ref p] := by
    obtain ⟨ws, hr1, hr2⟩ := hr
    have sd : Same (fr H' H'') (fr (upd H l o) (upd H'' p (.tup [k, .ref r]))) := Same.trans (fr_dom (dom1 g hl)) (fr_same s3)
    exact ⟨p, [], r, ws, rfl, by rw [fr_new hp1]; exact upd_same, sd _ _ hr1, Nodes.same sd hr2, rfl⟩
  refine ⟨vs ++ [.ref p], t.app (.cas k m .nil), ((g.trans g2).trans (Go.new hp _)).mut hl0 _, (hb.new hp _).mut hlB hlb _, ?_, upd_same, ?_, ?_, ?_, ?_⟩
  · rw [upd_ne hlw]
    exact s3 _ _ hw2
  · exact Nodes.same (fr_mut upd_same _) (Nodes.app hu (Nodes.same (fr_same s3) (Nodes.same (fr_go hB1 g2) hn)))
  · exact Gd.app (show Gd (.cas k m .nil) true e j from ⟨rfl, gm, trivial⟩) hg fun _ => rfl
  · rw [T.app_keys k m .nil t e j hg, List.take_succ, hki]
    exact hk.append (List.Sublist.refl _)
  · rw [T.app_sz, Nat.add_mul, Nat.one_mul]
    have : (T.cas k m .nil).sz = 1 + m.sz := by simp [T.sz]
    omega
/-- the choice at the end -/
theorem cho_end {B l r p : Addr} {H H' H'' : Hp} {hd : List V} {e : Nat} {i j : Bool} {vs : List V} {t o : T} {ol : HO} (hl0 : H l = none) (hlB : l ≠ B) (hB : ∃ o, H B = some o)
    (g : Go B H H') (hl : H' l = some (.lst vs)) (hn : Nodes (fr (upd H l ol) H') t vs) (hg : Gd t true e j) (hs : t.sz ≤ 9 * (1 + msgW e))
    (g2 : Go B H' H'') (hr : At (fr H' H'') r o) (go : Gd o false e j) (so : o.sz ≤ msgW e) (hp : H'' p = none) (hh : HdOk hd i j t.keys) :
    NodeAt H (upd H'' p (.tup (hd ++ [.ref l, .ref r]))) p (e + 1) i := by
  obtain ⟨oB, hB⟩ := hB
  have hB1 : upd H l ol B = some oB := by rw [upd_ne hlB.symm]; exact hB
  have hl2 : H'' l = some (.lst vs) := g2.ext _ _ hlB hl
  have s3 : Same H'' (upd H'' p (.tup (hd ++ [.ref l, .ref r]))) := same_new hp _
  have hp0 : H p = none := (g.trans g2).dom p hp
  obtain ⟨ws, hr1, hr2⟩ := hr
  have sd : Same (fr H' H'') (fr H (upd H'' p (.tup (hd ++ [.ref l, .ref r])))) := Same.trans (fr_dom g.dom) (fr_same s3)
  refine ⟨hd, t, o, ⟨p, [], l, vs, r, ws, rfl, by rw [fr_new hp0]; exact upd_same, ?_, ?_, sd _ _ hr1, Nodes.same sd hr2, rfl⟩, ⟨rfl, ⟨e, j, rfl, hh, hg, go⟩, trivial⟩, ?_⟩
  · rw [fr_new hl0]
    exact s3 _ _ hl2
  · exact Nodes.same (Same.trans (fr_go hB1 g2) (Same.trans (fr_dom fun c hc => upd_none hc) (fr_same s3))) hn
  · show 1 + t.sz + o.sz + 0 ≤ 10 + 30 * nodeW e
    have e1 : msgW e = 3 * nodeW e := rfl
    rw [e1] at hs so
    omega
section
variable {P : Program} {w : World} {K : PySem.W.Frag} {mg : Str → Option Value} {base : Heap}
theorem args_m (B : Addr) (e : Nat) (i : Bool) : [V.ref B, V.int (((e + 1 : Nat) : Int) - 1), V.bl i] = [V.ref B, V.int (e : Int), V.bl i] := by
  rw [show ((e + 1 : Nat) : Int) - 1 = (e : Int) by omega]
theorem cas_len : ∀ (t : T) (d : Nat) (j : Bool), Gd t true d j → t.len = t.keys.length := by
  intro t
  induction t with
  | cas k m r _ ih => intro d j h; simp [T.len, T.keys, ih d j h.2.2]
  | nil => intro d j h; rfl
  | _ => intro d j h; cases h.1
theorem ok_sel {k e : Nat} {f fD fM : Addr} {fd fdD fdM : FuncData} (hk : 1 ≤ k) (F : Fun K "_law_select" "_law_select" sSel f fd)
    (GD : FnOk P w K mg base CX0 1 fD fdD ["box", "many"] spDraw) (bD : Binds K fdD ["box", "many"] []) (kD : PySem.W.keepIn K (.ref fD) = true) (mD : mg "_law_draw" = some (.ref fD))
    (GM : FnOk P w K mg base CX0 k fM fdM ["box", "depth", "inside"] (spMsg e)) (bM : Binds K fdM ["box", "depth", "inside"] []) (kM : PySem.W.keepIn K (.ref fM) = true) (mM : mg "_law_message" = some (.ref fM)) :
    FnOk P w K mg base CX0 (k + 1) f fd ["box", "depth", "inside"] (spSel (e + 1)) := by
  refine F.ok scSel (fun vs H Q E h => ?_) (fun cdv A outer s H vs Q E hr h => ?_)
  · obtain ⟨B, b, i, _, _, rfl, _⟩ := h
    rfl
  obtain ⟨B, b, ins, _, _, rfl, hb, q⟩ := h
  have nd := scSel.nd
  have hr1 : Room 1 _ := hr.mono hk
  refine ⟨_, pss_cons (ps_set (i := 3) nd rfl (.inl rfl) (pe_lst pa_nil))
    (pss_cons (ps_for PassesOwn.never rfl (pi_list (pe_lst (pa_cons pe_str (pa_cons pe_str (pa_cons pe_str pa_nil))))) (pg_name (i := 4) nd rfl (.inl rfl))
      (pss_one (ps_if (pt_cmpR op_eq (pe_call GD hr1 rfl mD kD bD .nil pass0 (pa_cons (pv 0) (pa_cons pe_int pa_nil))) pe_int (nomark _))
        (pss_one (ps_expr (pe_bm PySem.F.plainAttrs_list PySem.F.slot_list_append PySem.F.type_list_append mt_append (pv 3) (pa_cons (pe_tup (pa_cons (pv 4) (pa_cons (pe_call GM hr rfl mM kM bM .nil pass0 (pa_cons (pv 0) (pa_cons (pe_op op_sub (pv 1) pe_int) (pa_cons (pv 2) pa_nil)))) pa_nil))) pa_nil)))) pss_nil)))
    (pss_one (ps_ret (pe_tup (pa_cons pe_str (pa_cons (pe_ix ix_list (pe_lst (pa_cons pe_str (pa_cons pe_str pa_nil))) (pe_call GD hr1 rfl mD kD bD .nil pass0 (pa_cons (pv 0) (pa_cons pe_int pa_nil))) (fun _ _ => rfl)) (pa_cons (pv 3) (pa_cons (pe_call GM hr rfl mM kM bM .nil pass0 (pa_cons (pv 0) (pa_cons (pe_op op_sub (pv 1) pe_int) (pa_cons (pv 2) pa_nil)))) pa_nil)))))))), ?_⟩
  refine ⟨Nat.zero_le _, fun l hl => ?_⟩
  have hlB := hb.neB hl
  have hlb := hb.neD hl
  have hBs := hb.isB
  have hB1 : ∃ o, upd H l (HO.lst []) B = some o := by
    obtain ⟨o, h⟩ := hBs
    exact ⟨o, by rw [upd_ne hlB.symm]; exact h⟩
  refine ⟨by show 3 ≤ sizeLine; decide, fun wl hwl => ?_⟩
  have hb1 := hb.new hl (.lst [])
  have hwB := hb1.neB hwl
  have hwl' : wl ≠ l := by
    rintro rfl
    rw [upd_same] at hwl
    cases hwl
  refine ⟨wl, rfl, ⟨_, SqL.of upd_same⟩, for_list (xs := skeys) (fun i σ H' => ∃ o4, σ = [some (.ref B), some (.int ((e + 1 : Nat) : Int)), some (.bl ins), some (.ref l), o4] ∧ CasInv B b l wl H (upd H l (.lst [])) skeys e ins i H')
    ⟨none, rfl, [], .nil, (Go.new hl _).trans (Go.new hwl _), hb1.new hwl _, upd_same, by rw [upd_ne hwl'.symm]; exact upd_same, rfl, trivial, List.nil_sublist _, Nat.zero_le _⟩
    (fun i σ H' _ ⟨_, _, _, _, _, _, hw, _⟩ => SqL.of hw) ?_ ?_⟩
  · rintro i x σ H' hx ⟨o4, rfl, I⟩
    obtain ⟨vs0, t0, _, hbI, _⟩ := id I
    refine ⟨_, rfl, B, b, 3, rfl, by decide, hbI, fun z H3 z0 z3 g3 hb3 => ?_⟩
    have I3 := I.skip hlB hwB hB1 g3 hb3
    refine ⟨rfl, _, rfl, ite2 (fun c => ?_) (fun c => ?_)⟩
    · obtain ⟨vs, t, g1, _, hw, hl3, hn, hg, hks, hs⟩ := I3
      have hi3 : i < 3 := (List.getElem?_eq_some_iff.mp hx).1
      have hvs : vs.length < 1000 := by
        rw [hn.length]
        rw [cas_len t e ins hg]
        have := hks.length_le
        rw [List.length_take] at this
        omega
      refine ⟨_, rfl, .inl ⟨rfl, _, SqL.of hl3⟩, _, rfl, _, rfl, _, rfl, _, _, rfl, rfl, _, rfl, B, b, ins, args_m B e ins, hb3, fun r H4 m g4 hb4 hr4 gm sm _ => ?_⟩
      refine ⟨by show 2 ≤ sizeLine; decide, fun p hp => ?_⟩
      have hl4 : H4 l = some (.lst vs) := g4.ext _ _ hlB hl3
      refine ⟨l, _, _, rfl, rfl, (by rw [upd_ne (ne_of_none hl4 hp)]; exact hl4), sz_line (by omega), ?_⟩
      exact ⟨_, rfl, CasInv.grow hl hlB hlb hwl' hwB hBs g1 hl3 hw hn hg hs hks hx g4 hb4 hr4 gm sm hp⟩
    · exact ⟨_, rfl, I3.next⟩
  · rintro σ H' ⟨o4, rfl, I⟩
    obtain ⟨vs, t, g1, hb', hw, hl', hn, hg, hks, hs⟩ := I
    refine ⟨by decide, fun m hm => ?_⟩
    have hmB := hb'.neB hm
    refine ⟨_, rfl, B, b, 2, rfl, by decide, hb'.new hm _, fun z H3 z0 z2 g3 hb3 => ?_⟩
    obtain ⟨x, hx, ha⟩ := pickL (l := ["w", "kind"]) z0 (by show z < ((2 : Nat) : Int); omega)
    refine ⟨m, _, z, .str x, rfl, rfl, SqL.of (g3.ext _ _ hmB upd_same), ha, ?_⟩
    refine ⟨_, rfl, _, rfl, _, rfl, _, _, rfl, rfl, _, rfl, B, b, ins, args_m B e ins, hb3, fun r H4 o g4 hb4 hr4 go so _ => ?_⟩
    have g34 : Go B H' H3 := (Go.new hm _).trans g3
    refine ⟨by show 4 ≤ sizeLine; decide, fun p hp => ?_⟩
    refine q p _ ((g1.trans (g34.trans g4)).trans (Go.new hp _)) (hb4.new hp _) ?_
    have hl3 : H3 l = some (.lst vs) := g34.ext _ _ hlB hl'
    obtain ⟨oB, hB1'⟩ := hB1
    have sk : t.keys.Sublist skeys := by
      have : skeys.take skeys.length = skeys := List.take_length
      rw [this] at hks
      exact hks
    have hs9 : t.sz ≤ 9 * (1 + msgW e) := Nat.le_trans hs (Nat.mul_le_mul_right _ (by decide))
    exact cho_end (hd := [.str "select", .str x]) hl hlB hBs (g1.trans g34) hl3 (Nodes.same (fr_go hB1' g34) hn) hg hs9 g4 hr4 go so hp (.sel (by simpa using hx) sk)
end
end Mw

namespace Mw
open PySem L2
/-- cases backwards -/
def T.rev : T → T
  | .cas k m r => r.rev.app (.cas k m .nil)
  | _ => .nil
theorem Gd.rev {e : Nat} {j : Bool} : ∀ {t : T}, Gd t true e j → Gd t.rev true e j ∧ t.rev.keys = t.keys.reverse ∧ t.rev.sz = t.sz ∧ ∀ {H : Hp} {vs : List V}, Nodes H t vs → Nodes H t.rev vs.reverse
  | .nil, _ => ⟨trivial, rfl, rfl, fun {H vs} h => by
    have h' : vs = [] := h
    subst h'
    exact rfl⟩
  | .text _ _, h => by cases h.1
  | .shw _ _, h => by cases h.1
  | .num _, h => by cases h.1
  | .cho _ _ _ _, h => by cases h.1
  | .cas k m r, h => by
    obtain ⟨i1, i2, i3, i4⟩ := Gd.rev h.2.2
    refine ⟨Gd.app (show Gd (.cas k m .nil) true e j from ⟨rfl, h.2.1, trivial⟩) i1 fun _ => rfl, ?_, ?_, fun {H vs} hn => ?_⟩
    · show (r.rev.app (.cas k m .nil)).keys = (k :: r.keys).reverse
      rw [T.app_keys k m .nil r.rev e j i1, i2, List.reverse_cons]
      rfl
    · show (r.rev.app (.cas k m .nil)).sz = 1 + m.sz + r.sz
      rw [T.app_sz, i3]
      simp [T.sz]
      omega
    · obtain ⟨p, ws, ma, mvs, rfl, hp, hm, hms, hr⟩ := hn
      rw [List.reverse_cons]
      exact Nodes.app (show Nodes H (.cas k m .nil) [.ref p] from ⟨p, [], ma, mvs, rfl, hp, hm, hms, rfl⟩) (i4 hr)
section
variable {P : Program} {w : World} {K : PySem.W.Frag} {mg : Str → Option Value} {base : Heap}
theorem args_p (B : Addr) (e : Nat) : [V.ref B, V.int (((e + 1 : Nat) : Int) - 1), V.bl true] = [V.ref B, V.int (e : Int), V.bl true] := args_m B e true
theorem ok_plu {k e : Nat} {f fD fM : Addr} {fd fdD fdM : FuncData} (hk : 1 ≤ k) (F : Fun K "_law_plural" "_law_plural" sPlu f fd)
    (GD : FnOk P w K mg base CX0 1 fD fdD ["box", "many"] spDraw) (bD : Binds K fdD ["box", "many"] []) (kD : PySem.W.keepIn K (.ref fD) = true) (mD : mg "_law_draw" = some (.ref fD))
    (GM : FnOk P w K mg base CX0 k fM fdM ["box", "depth", "inside"] (spMsg e)) (bM : Binds K fdM ["box", "depth", "inside"] []) (kM : PySem.W.keepIn K (.ref fM) = true) (mM : mg "_law_message" = some (.ref fM)) :
    FnOk P w K mg base CX0 (k + 1) f fd ["box", "depth"] (spPlu (e + 1)) := by
  refine F.ok scPlu (fun vs H Q E h => ?_) (fun cdv A outer s H vs Q E hr h => ?_)
  · obtain ⟨B, b, _, _, rfl, _⟩ := h
    rfl
  obtain ⟨B, b, _, _, rfl, hb, q⟩ := h
  have nd := scPlu.nd
  have hr1 : Room 1 _ := hr.mono hk
  refine ⟨_, pss_cons (ps_set (i := 2) nd rfl (.inl rfl) (pe_lst pa_nil))
    (pss_cons (ps_for PassesOwn.never rfl (pi_list (pe_lst (pa_cons pe_int (pa_cons pe_int (pa_cons pe_int (pa_cons pe_int (pa_cons pe_str (pa_cons pe_str (pa_cons pe_str (pa_cons pe_str (pa_cons pe_str pa_nil))))))))))) (pg_name (i := 3) nd rfl (.inl rfl))
      (pss_one (ps_if (pt_cmpR op_eq (pe_call GD hr1 rfl mD kD bD .nil pass0 (pa_cons (pv 0) (pa_cons pe_int pa_nil))) pe_int (nomark _))
        (pss_one (ps_expr (pe_bm PySem.F.plainAttrs_list PySem.F.slot_list_append PySem.F.type_list_append mt_append (pv 2) (pa_cons (pe_tup (pa_cons (pv 3) (pa_cons (pe_call GM hr rfl mM kM bM .nil pass0 (pa_cons (pv 0) (pa_cons (pe_op op_sub (pv 1) pe_int) (pa_cons pe_bl pa_nil)))) pa_nil))) pa_nil)))) pss_nil)))
    (Evl.pss_cut (ps_if (pt_cmpR op_eq (pe_call GD hr1 rfl mD kD bD .nil pass0 (pa_cons (pv 0) (pa_cons pe_int pa_nil))) pe_int (nomark _))
        (pss_one (ps_expr (pe_bm0 PySem.F.plainAttrs_list PySem.F.slot_list_reverse PySem.F.type_list_reverse mt_reverse (pv 2)))) pss_nil)
    (pss_one (ps_ret (pe_tup (pa_cons pe_str (pa_cons (pe_ix ix_list (pe_lst (pa_cons pe_str (pa_cons pe_str pa_nil))) (pe_call GD hr1 rfl mD kD bD .nil pass0 (pa_cons (pv 0) (pa_cons pe_int pa_nil))) (fun _ _ => rfl))
      (pa_cons (pe_ix ix_list (pe_lst (pa_cons pe_int (pa_cons pe_int (pa_cons pe_int (pa_cons pe_int pa_nil))))) (pe_call GD hr1 rfl mD kD bD .nil pass0 (pa_cons (pv 0) (pa_cons pe_int pa_nil))) (fun _ _ => rfl))
      (pa_cons (pv 2) (pa_cons (pe_call GM hr rfl mM kM bM .nil pass0 (pa_cons (pv 0) (pa_cons (pe_op op_sub (pv 1) pe_int) (pa_cons pe_bl pa_nil)))) pa_nil)))))))))), ?_⟩
  refine ⟨Nat.zero_le _, fun l hl => ?_⟩
  have hlB := hb.neB hl
  have hlb := hb.neD hl
  have hBs := hb.isB
  have hB1 : ∃ o, upd H l (HO.lst []) B = some o := by
    obtain ⟨o, h⟩ := hBs
    exact ⟨o, by rw [upd_ne hlB.symm]; exact h⟩
  refine ⟨by show 9 ≤ sizeLine; decide, fun wl hwl => ?_⟩
  have hb1 := hb.new hl (.lst [])
  have hwB := hb1.neB hwl
  have hwl' : wl ≠ l := by
    rintro rfl
    rw [upd_same] at hwl
    cases hwl
  refine ⟨wl, rfl, ⟨_, SqL.of upd_same⟩, for_list (xs := pkeys) (fun i σ H' => ∃ o4, σ = [some (.ref B), some (.int ((e + 1 : Nat) : Int)), some (.ref l), o4] ∧ CasInv B b l wl H (upd H l (.lst [])) pkeys e true i H')
    ⟨none, rfl, [], .nil, (Go.new hl _).trans (Go.new hwl _), hb1.new hwl _, upd_same, by rw [upd_ne hwl'.symm]; exact upd_same, rfl, trivial, List.nil_sublist _, Nat.zero_le _⟩
    (fun i σ H' _ ⟨_, _, _, _, _, _, hw, _⟩ => SqL.of hw) ?_ ?_⟩
  · rintro i x σ H' hx ⟨o4, rfl, I⟩
    obtain ⟨vs0, t0, _, hbI, _⟩ := id I
    refine ⟨_, rfl, B, b, 5, rfl, by decide, hbI, fun z H3 z0 z3 g3 hb3 => ?_⟩
    have I3 := I.skip hlB hwB hB1 g3 hb3
    refine ⟨rfl, _, rfl, ite2 (fun c => ?_) (fun c => ?_)⟩
    · obtain ⟨vs, t, g1, _, hw, hl3, hn, hg, hks, hs⟩ := I3
      have hi3 : i < 9 := (List.getElem?_eq_some_iff.mp hx).1
      have hvs : vs.length < 1000 := by
        rw [hn.length]
        rw [cas_len t e true hg]
        have := hks.length_le
        rw [List.length_take] at this
        omega
      refine ⟨_, rfl, .inl ⟨rfl, _, SqL.of hl3⟩, _, rfl, _, rfl, _, rfl, _, _, rfl, rfl, B, b, true, args_p B e, hb3, fun r H4 m g4 hb4 hr4 gm sm _ => ?_⟩
      refine ⟨by show 2 ≤ sizeLine; decide, fun p hp => ?_⟩
      have hl4 : H4 l = some (.lst vs) := g4.ext _ _ hlB hl3
      refine ⟨l, _, _, rfl, rfl, (by rw [upd_ne (ne_of_none hl4 hp)]; exact hl4), sz_line (by omega), ?_⟩
      exact ⟨_, rfl, CasInv.grow hl hlB hlb hwl' hwB hBs g1 hl3 hw hn hg hs hks hx g4 hb4 hr4 gm sm hp⟩
    · exact ⟨_, rfl, I3.next⟩
  · rintro σ H' ⟨o4, rfl, I⟩
    obtain ⟨vs0, t0, _, hbI, _⟩ := id I
    refine ⟨fun σ' H3 => ∃ o4 vs t, σ' = [some (.ref B), some (.int ((e + 1 : Nat) : Int)), some (.ref l), o4] ∧ Go B H H3 ∧ Box H3 B b ∧ H3 l = some (.lst vs) ∧ Nodes (fr (upd H l (.lst [])) H3) t vs ∧ Gd t true e true ∧ (t.keys.Sublist pkeys ∨ t.keys.Sublist pkeys.reverse) ∧ t.sz ≤ 9 * (1 + msgW e), ?_, ?_⟩
    · refine ⟨_, rfl, B, b, 3, rfl, by decide, hbI, fun z H3 z0 z3 g3 hb3 => ?_⟩
      obtain ⟨vs, t, g1, _, hw, hl', hn, hg, hks, hs⟩ := I.skip hlB hwB hB1 g3 hb3
      have sk : t.keys.Sublist pkeys := by
        have : pkeys.take pkeys.length = pkeys := List.take_length
        rw [this] at hks
        exact hks
      have hs9 : t.sz ≤ 9 * (1 + msgW e) := hs
      refine ⟨rfl, _, rfl, ite2 (fun c => ?_) (fun c => ?_)⟩
      · refine ⟨_, rfl, .inl ⟨rfl, _, SqL.of hl'⟩, l, _, rfl, rfl, hl', ?_⟩
        obtain ⟨r1, r2, r3, r4⟩ := Gd.rev hg
        refine ⟨_, vs.reverse, t.rev, rfl, g1.mut hl _, hb3.mut hlB hlb _, upd_same, Nodes.same (fr_mut upd_same _) (r4 hn), r1, .inr ?_, by rw [r3]; exact hs9⟩
        rw [r2]
        exact sk.reverse
      · exact ⟨_, vs, t, rfl, g1, hb3, hl', hn, hg, .inl sk, hs9⟩
    · rintro σ' H2 ⟨o4, vs, t, rfl, g1, hb', hl', hn, hg, hks, hs9⟩
      refine ⟨by decide, fun m hm => ?_⟩
      have hmB := hb'.neB hm
      refine ⟨_, rfl, B, b, 2, rfl, by decide, hb'.new hm _, fun z H3 z0 z2 g3 hb3 => ?_⟩
      obtain ⟨x, hx, ha⟩ := pickL (l := ["n", "count"]) z0 (by show z < ((2 : Nat) : Int); omega)
      refine ⟨m, _, z, .str x, rfl, rfl, SqL.of (g3.ext _ _ hmB upd_same), ha, ?_⟩
      have g23 : Go B H2 H3 := (Go.new hm _).trans g3
      refine ⟨by decide, fun m' hm' => ?_⟩
      have hmB' := hb3.neB hm'
      refine ⟨_, rfl, B, b, 4, rfl, by decide, hb3.new hm' _, fun z' H4 z0' z2' g4 hb4 => ?_⟩
      obtain ⟨y, hy, ha'⟩ := pick (l := ([0, 0, 1, 2] : List Int)) (g := V.int) z0' (by show z' < ((4 : Nat) : Int); omega)
      refine ⟨m', _, z', .int y, rfl, rfl, SqL.of (g4.ext _ _ hmB' upd_same), ha', ?_⟩
      have g24 : Go B H2 H4 := g23.trans ((Go.new hm' _).trans g4)
      refine ⟨_, rfl, _, rfl, _, rfl, _, _, rfl, rfl, B, b, true, args_p B e, hb4, fun r H5 o g5 hb5 hr5 go so _ => ?_⟩
      refine ⟨by show 5 ≤ sizeLine; decide, fun p hp => ?_⟩
      refine q p _ ((g1.trans (g24.trans g5)).trans (Go.new hp _)) (hb5.new hp _) fun i => ?_
      have hl3 : H4 l = some (.lst vs) := g24.ext _ _ hlB hl'
      obtain ⟨oB, hB1'⟩ := hB1
      exact cho_end (hd := [.str "plural", .str x, .int y]) (i := i) hl hlB hBs (g1.trans g24) hl3 (Nodes.same (fr_go hB1' g24) hn) hg hs9 g5 hr5 go so hp (.plu (by simpa using hx) (by simpa using hy) hks)
end
end Mw

namespace Mw
open PySem L2
/-! ### nodes one by one -/
def HdW (hd : List V) : Prop := (∃ n, hd = [.str "select", .str n]) ∨ ∃ n off, hd = [.str "plural", .str n, .int off]
def KeyW (k : V) : Prop := (∃ s, k = .str s) ∨ ∃ i, k = .int i
/-- what any message is, and any chain of cases (c) -/
def Wf : T → Bool → Prop
  | .nil, _ => True
  | .text _ r, c => c = false ∧ Wf r c
  | .shw _ r, c => c = false ∧ Wf r c
  | .num r, c => c = false ∧ Wf r c
  | .cho hd cs o r, c => c = false ∧ HdW hd ∧ Wf cs true ∧ Wf o false ∧ Wf r c
  | .cas k m r, c => c = true ∧ KeyW k ∧ Wf m false ∧ Wf r c
def T.single : T → Prop
  | .nil => False
  | .text _ r => r = .nil
  | .shw _ r => r = .nil
  | .num r => r = .nil
  | .cho _ _ _ r => r = .nil
  | .cas _ _ r => r = .nil
def T.isCho : T → Bool
  | .cho _ _ _ _ => true
  | _ => false
def T.isText : T → Bool
  | .text _ _ => true
  | _ => false
def T.nodes : T → List T
  | .nil => []
  | .text s r => .text s .nil :: r.nodes
  | .shw n r => .shw n .nil :: r.nodes
  | .num r => .num .nil :: r.nodes
  | .cho hd cs o r => .cho hd cs o .nil :: r.nodes
  | .cas k m r => .cas k m .nil :: r.nodes
def T.msgs : T → List T
  | .cas _ m r => m :: r.msgs
  | _ => []
def T.inner : T → List T
  | .cho _ cs o _ => cs.msgs ++ [o]
  | _ => []
def Ns (H : Hp) : List T → List V → Prop
  | [], vs => vs = []
  | u :: us, vs => ∃ v ws, vs = v :: ws ∧ Nodes H u [v] ∧ Ns H us ws
def Ats (H : Hp) : List T → List V → Prop
  | [], vs => vs = []
  | t :: ts, vs => ∃ a ws, vs = .ref a :: ws ∧ At H a t ∧ Ats H ts ws
theorem At.same {H H' : Hp} {a : Addr} {t : T} (s : Same H H') (h : At H a t) : At H' a t := by
  obtain ⟨vs, h1, h2⟩ := h
  exact ⟨vs, s _ _ h1, Nodes.same s h2⟩
theorem Ns.same {H H' : Hp} (s : Same H H') : ∀ {us : List T} {vs : List V}, Ns H us vs → Ns H' us vs
  | [], _, h => h
  | u :: us, _, h => by
    obtain ⟨v, ws, rfl, h1, h2⟩ := h
    exact ⟨v, ws, rfl, Nodes.same s h1, Ns.same s h2⟩
theorem Ats.same {H H' : Hp} (s : Same H H') : ∀ {us : List T} {vs : List V}, Ats H us vs → Ats H' us vs
  | [], _, h => h
  | u :: us, _, h => by
    obtain ⟨v, ws, rfl, h1, h2⟩ := h
    exact ⟨v, ws, rfl, h1.same s, Ats.same s h2⟩
theorem Ns.length {H : Hp} : ∀ {us : List T} {vs : List V}, Ns H us vs → vs.length = us.length
  | [], _, h => by rw [show _ = [] from h]; rfl
  | u :: us, _, h => by
    obtain ⟨v, ws, rfl, _, h2⟩ := h
    exact congrArg (· + 1) h2.length
theorem Ats.length {H : Hp} : ∀ {us : List T} {vs : List V}, Ats H us vs → vs.length = us.length
  | [], _, h => by rw [show _ = [] from h]; rfl
  | u :: us, _, h => by
    obtain ⟨v, ws, rfl, _, h2⟩ := h
    exact congrArg (· + 1) h2.length
theorem Ns.append {H : Hp} {us' : List T} {vs' : List V} (h' : Ns H us' vs') : ∀ {us : List T} {vs : List V}, Ns H us vs → Ns H (us ++ us') (vs ++ vs')
  | [], _, h => by rw [show _ = [] from h]; exact h'
  | u :: us, _, h => by
    obtain ⟨v, ws, rfl, h1, h2⟩ := h
    exact ⟨v, ws ++ vs', rfl, h1, Ns.append h' h2⟩
theorem Ats.append {H : Hp} {us' : List T} {vs' : List V} (h' : Ats H us' vs') : ∀ {us : List T} {vs : List V}, Ats H us vs → Ats H (us ++ us') (vs ++ vs')
  | [], _, h => by rw [show _ = [] from h]; exact h'
  | u :: us, _, h => by
    obtain ⟨v, ws, rfl, h1, h2⟩ := h
    exact ⟨v, ws ++ vs', rfl, h1, Ats.append h' h2⟩
theorem Ns.get {H : Hp} : ∀ {us : List T} {vs : List V} {i : Nat} {v : V}, Ns H us vs → vs[i]? = some v → ∃ u, us[i]? = some u ∧ Nodes H u [v]
  | [], _, i, v, h, e => by
    rw [show _ = [] from h] at e
    simp at e
  | u :: us, _, 0, v, h, e => by
    obtain ⟨x, ws, rfl, h1, h2⟩ := h
    have : x = v := by simpa using e
    subst this
    exact ⟨u, rfl, h1⟩
  | u :: us, _, i + 1, v, h, e => by
    obtain ⟨x, ws, rfl, h1, h2⟩ := h
    obtain ⟨u', e1, e2⟩ := Ns.get (i := i) h2 (by simpa using e)
    exact ⟨u', by simpa using e1, e2⟩
theorem Ats.get {H : Hp} : ∀ {us : List T} {vs : List V} {i : Nat} {v : V}, Ats H us vs → vs[i]? = some v → ∃ u a, us[i]? = some u ∧ v = .ref a ∧ At H a u
  | [], _, i, v, h, e => by
    rw [show _ = [] from h] at e
    simp at e
  | u :: us, _, 0, v, h, e => by
    obtain ⟨x, ws, rfl, h1, h2⟩ := h
    have : V.ref x = v := by simpa using e
    subst this
    exact ⟨u, x, rfl, rfl, h1⟩
  | u :: us, _, i + 1, v, h, e => by
    obtain ⟨x, ws, rfl, h1, h2⟩ := h
    obtain ⟨u', a, e1, e2⟩ := Ats.get (i := i) h2 (by simpa using e)
    exact ⟨u', a, by simpa using e1, e2⟩
theorem Nodes.ns {H : Hp} : ∀ {t : T} {vs : List V}, Nodes H t vs → Ns H t.nodes vs
  | .nil, _, h => h
  | .text s r, _, h => by
    obtain ⟨p, ws, rfl, hp, hr⟩ := h
    exact ⟨_, ws, rfl, ⟨p, [], rfl, hp, rfl⟩, Nodes.ns hr⟩
  | .shw n r, _, h => by
    obtain ⟨p, ws, rfl, hp, hr⟩ := h
    exact ⟨_, ws, rfl, ⟨p, [], rfl, hp, rfl⟩, Nodes.ns hr⟩
  | .num r, _, h => by
    obtain ⟨p, ws, rfl, hp, hr⟩ := h
    exact ⟨_, ws, rfl, ⟨p, [], rfl, hp, rfl⟩, Nodes.ns hr⟩
  | .cho hd cs o r, _, h => by
    obtain ⟨p, ws, ca, cvs, oa, ovs, rfl, hp, hc, hcs, ho, hos, hr⟩ := h
    exact ⟨_, ws, rfl, ⟨p, [], ca, cvs, oa, ovs, rfl, hp, hc, hcs, ho, hos, rfl⟩, Nodes.ns hr⟩
  | .cas k m r, _, h => by
    obtain ⟨p, ws, ma, mvs, rfl, hp, hm, hms, hr⟩ := h
    exact ⟨_, ws, rfl, ⟨p, [], ma, mvs, rfl, hp, hm, hms, rfl⟩, Nodes.ns hr⟩
theorem Ns.nodes {H : Hp} : ∀ {t : T} {vs : List V}, Ns H t.nodes vs → Nodes H t vs
  | .nil, _, h => h
  | .text s r, _, h => by
    obtain ⟨v, ws, rfl, ⟨p, _, e, hp, _⟩, hr⟩ := h
    cases e
    exact ⟨p, ws, rfl, hp, Ns.nodes hr⟩
  | .shw n r, _, h => by
    obtain ⟨v, ws, rfl, ⟨p, _, e, hp, _⟩, hr⟩ := h
    cases e
    exact ⟨p, ws, rfl, hp, Ns.nodes hr⟩
  | .num r, _, h => by
    obtain ⟨v, ws, rfl, ⟨p, _, e, hp, _⟩, hr⟩ := h
    cases e
    exact ⟨p, ws, rfl, hp, Ns.nodes hr⟩
  | .cho hd cs o r, _, h => by
    obtain ⟨v, ws, rfl, ⟨p, _, ca, cvs, oa, ovs, e, hp, hc, hcs, ho, hos, _⟩, hr⟩ := h
    cases e
    exact ⟨p, ws, ca, cvs, oa, ovs, rfl, hp, hc, hcs, ho, hos, Ns.nodes hr⟩
  | .cas k m r, _, h => by
    obtain ⟨v, ws, rfl, ⟨p, _, ma, mvs, e, hp, hm, hms, _⟩, hr⟩ := h
    cases e
    exact ⟨p, ws, ma, mvs, rfl, hp, hm, hms, Ns.nodes hr⟩
/-- a node of a message: what its tuple begins with -/
theorem node_of {H : Hp} {u : T} {v : V} (h : Nodes H u [v]) (w : Wf u false) : ∃ p x xs, v = .ref p ∧ H p = some (.tup (.str x :: xs)) ∧ u.single ∧
    ((x = "select" ∨ x = "plural") ↔ u.isCho = true) ∧ (x = "text" ↔ u.isText = true) := by
  cases u with
  | nil => cases (show [v] = [] from h)
  | text s r =>
    obtain ⟨p, ws, e, hp, hr⟩ := h
    cases e
    have : r = .nil := by
      have := hr.length
      cases r <;> first | rfl | (simp [T.len] at this)
    exact ⟨p, _, _, rfl, hp, this, by simp [T.isCho]; decide, by simp [T.isText]⟩
  | shw n r =>
    obtain ⟨p, ws, e, hp, hr⟩ := h
    cases e
    have : r = .nil := by
      have := hr.length
      cases r <;> first | rfl | (simp [T.len] at this)
    exact ⟨p, _, _, rfl, hp, this, by simp [T.isCho]; decide, by simp [T.isText]; decide⟩
  | num r =>
    obtain ⟨p, ws, e, hp, hr⟩ := h
    cases e
    have : r = .nil := by
      have := hr.length
      cases r <;> first | rfl | (simp [T.len] at this)
    exact ⟨p, _, _, rfl, hp, this, by simp [T.isCho]; decide, by simp [T.isText]; decide⟩
  | cho hd cs o r =>
    obtain ⟨p, ws, ca, cvs, oa, ovs, e, hp, _, _, _, _, hr⟩ := h
    cases e
    have : r = .nil := by
      have := hr.length
      cases r <;> first | rfl | (simp [T.len] at this)
    rcases w.2.1 with ⟨n, rfl⟩ | ⟨n, off, rfl⟩
    · exact ⟨p, _, _, rfl, hp, this, by simp [T.isCho], by simp [T.isText]; decide⟩
    · exact ⟨p, _, _, rfl, hp, this, by simp [T.isCho], by simp [T.isText]; decide⟩
  | cas k m r => cases w.1
theorem Nodes.msgs {H : Hp} : ∀ {t : T} {vs : List V}, Nodes H t vs → Wf t true → ∃ ms, Ats H t.msgs ms ∧ vs.length = ms.length ∧ ∀ (i : Nat) (v : V), vs[i]? = some v → ∃ (p : Addr) (k : V) (a : Addr), v = V.ref p ∧ H p = some (.tup [k, .ref a]) ∧ ms[i]? = some (V.ref a)
  | .nil, _, h, _ => ⟨[], rfl, by rw [show _ = [] from h], fun i v e => by rw [show _ = [] from h] at e; simp at e⟩
  | .text s r, _, h, w => by cases w.1
  | .shw n r, _, h, w => by cases w.1
  | .num r, _, h, w => by cases w.1
  | .cho hd cs o r, _, h, w => by cases w.1
  | .cas k m r, _, h, w => by
    obtain ⟨p, ws, ma, mvs, rfl, hp, hm, hms, hr⟩ := h
    obtain ⟨ms, h1, h2, h3⟩ := Nodes.msgs hr w.2.2.2
    refine ⟨.ref ma :: ms, ⟨ma, ms, rfl, ⟨mvs, hm, hms⟩, h1⟩, congrArg (· + 1) h2, fun i v e => ?_⟩
    cases i with
    | zero =>
      have : V.ref p = v := by simpa using e
      subst this
      exact ⟨p, k, ma, rfl, hp, rfl⟩
    | succ i =>
      obtain ⟨q, k', a, e1, e2, e3⟩ := h3 i v (by simpa using e)
      exact ⟨q, k', a, e1, e2, by simpa using e3⟩
end Mw

namespace Mw
open PySem L2
theorem atI_m1 {α : Type} (xs : List α) (a b : α) : atI (xs ++ [a, b]) (-1) = some b := by
  rw [show xs ++ [a, b] = (xs ++ [a]) ++ [b] by simp]
  exact atI_last _ _
theorem atI_m2 {α : Type} (xs : List α) (a b : α) : atI (xs ++ [a, b]) (-2) = some a := by
  unfold atI ixN
  have hl : (xs ++ [a, b]).length = xs.length + 2 := by simp
  rw [if_neg (by decide), if_pos (by rw [hl]; omega), hl]
  show (xs ++ [a, b])[((-2 : Int) + ((xs.length + 2 : Nat) : Int)).toNat]? = some a
  rw [show ((-2 : Int) + ((xs.length + 2 : Nat) : Int)).toNat = xs.length by omega]
  rw [List.getElem?_append_right (Nat.le_refl _), Nat.sub_self]
  rfl
section
variable {P : Program} {w : World} {K : PySem.W.Frag} {mg : Str → Option Value} {base : Heap}
/-! ### is_choice -/
abbrev sIs : Stmt := top 1
theorem scIs : FnScope ["node"] ["node"] (defScope sIs) := ⟨rfl, rfl, rfl, by decide +kernel, rfl, by decide +kernel, by decide +kernel⟩
def spIs : Sp := fun vs H Q _ => ∃ (v : V) (u : T), vs = [v] ∧ Nodes H u [v] ∧ Wf u false ∧ ∀ H', Same H H' → Q (.bl u.isCho) H'
theorem in_two (x a b : Str) : inV (.str x) [.str a, .str b] = decide (x = a ∨ x = b) := by
  have h : ∀ c d : Str, (c == d) = decide (d = c) := fun c d => by
    by_cases e : d = c
    · subst e
      simp
    · rw [decide_eq_false e]
      exact beq_eq_false_iff_ne.mpr fun z => e z.symm
  unfold inV
  simp only [List.any_cons, List.any_nil, Bool.or_false, eqV, h]
  exact (Bool.decide_or _ _).symm
theorem ok_is {f : Addr} {fd : FuncData} (F : Fun K "is_choice" "is_choice" sIs f fd) : FnOk P w K mg base CX0 1 f fd ["node"] spIs := by
  refine F.ok scIs (fun vs H Q E h => ?_) (fun cdv A outer s H vs Q E hr h => ?_)
  · obtain ⟨v, u, rfl, _⟩ := h
    rfl
  obtain ⟨v, u, rfl, hn, hw, q⟩ := h
  obtain ⟨p, x, xs, rfl, hp, _, hc, _⟩ := node_of hn hw
  refine ⟨_, pss_one (ps_ret (pe_cmpR op_in_seq (pe_ix ix_tup (pv 0) pe_int (fun _ _ => rfl)) (pe_tup (pa_cons pe_str (pa_cons pe_str pa_nil))) (by rfl))), ?_⟩
  refine ⟨_, rfl, p, _, 0, .str x, rfl, rfl, .inl (.inl hp), atI_nat (j := 0) rfl, by show 2 ≤ sizeLine; decide, fun t ht => ⟨t, _, rfl, .inr (.inl (.inl upd_same)), rfl, rfl, ?_⟩⟩
  have e : inV (V.str x) [.str "select", .str "plural"] = u.isCho := by
    rw [in_two]
    cases hu : u.isCho with
    | true => exact decide_eq_true (hc.mpr hu)
    | false => exact decide_eq_false fun z => by rw [hc.mp z] at hu; cases hu
  show Q (.bl (inV (V.str x) [.str "select", .str "plural"])) _
  rw [e]
  exact q _ (same_new ht _)
/-! ### cases_of, other_of -/
abbrev sCases : Stmt := top 2
abbrev sOther : Stmt := top 3
theorem scCases : FnScope ["node"] ["node"] (defScope sCases) := ⟨rfl, rfl, rfl, by decide +kernel, rfl, by decide +kernel, by decide +kernel⟩
theorem scOther : FnScope ["node"] ["node"] (defScope sOther) := ⟨rfl, rfl, rfl, by decide +kernel, rfl, by decide +kernel, by decide +kernel⟩
def spCases : Sp := fun vs H Q _ => ∃ (p ca oa : Addr) (hd cvs : List V), vs = [.ref p] ∧ H p = some (.tup (hd ++ [.ref ca, .ref oa])) ∧ H ca = some (.lst cvs) ∧ ∀ l, H l = none → Q (.ref l) (upd H l (.lst cvs))
def spOther : Sp := fun vs H Q _ => ∃ (p ca oa : Addr) (hd : List V), vs = [.ref p] ∧ H p = some (.tup (hd ++ [.ref ca, .ref oa])) ∧ Q (.ref oa) H
theorem ok_cases {f : Addr} {fd : FuncData} (F : Fun K "cases_of" "cases_of" sCases f fd) (ml : mg "list" = none) : FnOk P w K mg base CX0 1 f fd ["node"] spCases := by
  refine F.ok scCases (fun vs H Q E h => ?_) (fun cdv A outer s H vs Q E hr h => ?_)
  · obtain ⟨p, ca, oa, hd, cvs, rfl, _⟩ := h
    rfl
  obtain ⟨p, ca, oa, hd, cvs, rfl, hp, hc, q⟩ := h
  refine ⟨_, pss_one (ps_ret (pe_callTy call_list_of (by rfl) ml (by decide +kernel) (pa_cons (pe_ix ix_tup (pv 0) (pe_un un_neg pe_int) (fun _ _ => rfl)) pa_nil))), ?_⟩
  exact ⟨_, rfl, 2, rfl, p, _, -2, .ref ca, rfl, rfl, .inl (.inl hp), atI_m2 _ _ _, ca, _, rfl, .inl (SqL.of hc), q⟩
theorem ok_other {f : Addr} {fd : FuncData} (F : Fun K "other_of" "other_of" sOther f fd) : FnOk P w K mg base CX0 1 f fd ["node"] spOther := by
  refine F.ok scOther (fun vs H Q E h => ?_) (fun cdv A outer s H vs Q E hr h => ?_)
  · obtain ⟨p, ca, oa, hd, rfl, _⟩ := h
    rfl
  obtain ⟨p, ca, oa, hd, rfl, hp, q⟩ := h
  refine ⟨_, pss_one (ps_ret (pe_ix ix_tup (pv 0) (pe_un un_neg pe_int) (fun _ _ => rfl))), ?_⟩
  exact ⟨_, rfl, 1, rfl, p, _, -1, .ref oa, rfl, rfl, .inl (.inl hp), atI_m1 _ _ _, q⟩
/-! ### inner_messages -/
abbrev sInner : Stmt := top 4
theorem scInner : FnScope ["node", "_", "message"] ["node"] (defScope sInner) := ⟨rfl, rfl, rfl, by decide +kernel, rfl, by decide +kernel, by decide +kernel⟩
def spInner : Sp := fun vs H Q _ => ∃ (H0 : Hp) (v : V) (u : T), vs = [v] ∧ Same H0 H ∧ Nodes H0 u [v] ∧ Wf u false ∧ u.sz < 100000 ∧ ∀ l H' ms, H l = none → Same H H' → H' l = some (.lst ms) → Ats H0 u.inner ms → Q (.ref l) H'
theorem len_sz : ∀ t : T, t.len ≤ t.sz
  | .nil => Nat.le_refl _
  | .text s r => by have := len_sz r; simp only [T.len, T.sz]; omega
  | .shw s r => by have := len_sz r; simp only [T.len, T.sz]; omega
  | .num r => by have := len_sz r; simp only [T.len, T.sz]; omega
  | .cho _ _ _ r => by have := len_sz r; simp only [T.len, T.sz]; omega
  | .cas _ _ r => by have := len_sz r; simp only [T.len, T.sz]; omega
theorem ok_inner {f fI fC fO : Addr} {fd fdI fdC fdO : FuncData} (F : Fun K "inner_messages" "inner_messages" sInner f fd)
    (GI : FnOk P w K mg base CX0 1 fI fdI ["node"] spIs) (bI : Binds K fdI ["node"] []) (kI : PySem.W.keepIn K (.ref fI) = true) (mI : mg "is_choice" = some (.ref fI))
    (GC : FnOk P w K mg base CX0 1 fC fdC ["node"] spCases) (bC : Binds K fdC ["node"] []) (kC : PySem.W.keepIn K (.ref fC) = true) (mC : mg "cases_of" = some (.ref fC))
    (GO : FnOk P w K mg base CX0 1 fO fdO ["node"] spOther) (bO : Binds K fdO ["node"] []) (kO : PySem.W.keepIn K (.ref fO) = true) (mO : mg "other_of" = some (.ref fO)) :
    FnOk P w K mg base CX0 2 f fd ["node"] spInner := by
  refine F.ok scInner (fun vs H Q E h => ?_) (fun cdv A outer s H vs Q E hr h => ?_)
  · obtain ⟨H0, v, u, rfl, _⟩ := h
    rfl
  obtain ⟨H0, v, u, rfl, h0, hn, hw, hz, q⟩ := h
  have nd := scInner.nd
  refine ⟨_, pss_cons (ps_if (pt_not (pt_val (pe_call GI hr rfl mI kI bI .nil pass0 (pa_cons (pv 0) pa_nil)))) (pss_one (ps_ret (pe_lst pa_nil))) pss_nil)
    (pss_one (ps_ret (pe_op op_cat
      (pe_lc (own := [("_", 1), ("message", 2)]) (g := gTup K 2 (gCons (gName 1) (gCons (gName 2) gNil))) (tt := tYes) rfl nd (pi_list (pe_call GC hr rfl mC kC bC .nil pass0 (pa_cons (pv 0) pa_nil))) (blkOk_by (N := ["node", "_", "message"]) (sc := defScope sInner) (by decide +kernel))
        (fun _ _ _ _ _ => pg_tup rfl (pgs_cons (pg_name (i := 1) nd rfl (.inl rfl)) (pgs_cons (pg_name (i := 2) nd rfl (.inl rfl)) pgs_nil))) (fun _ _ _ _ _ => pts_nil) (fun _ _ _ _ _ => pv 2))
      (pe_lst (pa_cons (pe_call GO hr rfl mO kO bO .nil pass0 (pa_cons (pv 0) pa_nil)) pa_nil))))), ?_⟩
  refine ⟨_, rfl, v, u, rfl, Nodes.same h0 hn, hw, fun H1 s1 => ⟨_, rfl, ?_⟩⟩
  cases hu : u.isCho with
  | false =>
    refine iteT ⟨Nat.zero_le _, fun l hl => q l _ [] (s1.free hl) (s1.trans (same_new hl _)) upd_same ?_⟩
    cases u <;> first | exact rfl | cases hu
  | true =>
    refine iteF ?_
    cases u with
    | cho hd cs o r =>
      obtain ⟨p, ws, ca, cvs, oa, ovs, e, hp, hc, hcs, ho, hos, hr'⟩ := hn
      cases e
      obtain ⟨ms, m1, m2, m3⟩ := Nodes.msgs hcs hw.2.2.1
      have hlen : ms.length < 99999 := by
        have e1 := hcs.length
        have e2 := len_sz cs
        simp only [T.sz] at hz
        omega
      refine ⟨_, rfl, p, ca, oa, hd, cvs, rfl, s1 _ _ (h0 _ _ hp), s1 _ _ (h0 _ _ hc), fun l hl => ⟨l, rfl, ⟨_, SqL.of upd_same⟩, fun D hD => ?_⟩⟩
      have s2 : Same H (upd H1 l (.lst cvs)) := s1.trans (same_new hl _)
      have s3 : Same (upd H1 l (.lst cvs)) (upd (upd H1 l (.lst cvs)) D (.lst [])) := same_new hD _
      refine lc_list (xs := cvs) (fun i H' => Same (upd H1 l (.lst cvs)) H' ∧ H' D = some (.lst (ms.take i))) ⟨s3, upd_same⟩ (fun i H' _ ⟨s', _⟩ => SqL.of (s' _ _ upd_same)) ?_ ?_
      · rintro i x H' hx ⟨s', hD'⟩
        obtain ⟨p', k, a, rfl, hp', hm'⟩ := m3 i x hx
        refine ⟨p', _, rfl, .inl (.inl (s' _ _ (s2 _ _ (h0 _ _ hp')))), rfl, k, _, rfl, .ref a, [], rfl, rfl, rfl, ?_⟩
        refine ⟨_, rfl, _, hD', sz_line (by rw [List.length_take]; omega), same_mut s' hD _, ?_⟩
        rw [upd_same, List.take_succ, hm']
        rfl
      · rintro H' ⟨s', hD'⟩
        have s4 : Same H H' := s2.trans s'
        rw [m2, List.take_length] at hD'
        refine ⟨_, rfl, p, ca, oa, hd, rfl, s4 _ _ (h0 _ _ hp), by show 1 ≤ sizeLine; decide, fun l2 hl2 => ?_⟩
        refine ⟨D, l2, _, _, rfl, rfl, same_new hl2 _ _ _ hD', upd_same, le_line (by show ms.length + 1 < 10000000; omega), fun l3 hl3 => ?_⟩
        have s5 : Same H (upd (upd H' l2 (.lst [.ref oa])) l3 (.lst (ms ++ [.ref oa]))) := (s4.trans (same_new hl2 _)).trans (same_new hl3 _)
        have ha : Ats H0 (T.cho hd cs o r).inner (ms ++ [.ref oa]) := Ats.append (show Ats H0 [o] [.ref oa] from ⟨oa, [], rfl, ⟨ovs, ho, hos⟩, rfl⟩) m1
        exact q l3 _ (ms ++ [.ref oa]) ((s4.trans (same_new hl2 _)).free hl3) s5 upd_same ha
    | _ => cases hu
end
end Mw

namespace Mw
open PySem L2
abbrev tl (x : Str) : List Nat := x.cps.toList
def catS (ys : List Str) : Str := ⟨((ys.map tl).flatten).toArray⟩
theorem joinL_nil : ∀ ls : List (List Nat), TL.joinL [] ls = ls.flatten
  | [] => rfl
  | [p] => by simp [TL.joinL]
  | p :: q :: r => by
    show p ++ ([] ++ TL.joinL [] (q :: r)) = _
    rw [joinL_nil (q :: r)]
    simp
theorem join_cat (ys : List Str) : Txt.join ("" : Str) ys = catS ys := by
  rw [TL.join_eq]
  refine TL.ext_tl ?_
  rw [TL.tl_join]
  show TL.joinL [] _ = _
  rw [joinL_nil]
  rfl
theorem cat_add (ys : List Str) (s : Str) : catS (ys ++ [s]) = catS ys ++ s := by
  refine TL.ext_tl ?_
  rw [TL.tl_append]
  show ((ys ++ [s]).map tl).flatten = (ys.map tl).flatten ++ tl s
  simp
theorem cat_nil : catS [] = ("" : Str) := rfl
theorem cat_len (ys : List Str) : (catS ys).length = (ys.map (·.length)).sum := by
  rw [TL.len_tl]
  show ((ys.map tl).flatten).length = _
  rw [List.length_flatten]
  congr 1
  rw [List.map_map]
  exact List.map_congr_left fun s _ => (TL.len_tl s).symm
theorem len_zero {s : Str} : s.length = 0 ↔ s = ("" : Str) := by
  constructor
  · intro h
    refine TL.ext_tl ?_
    rw [TL.len_tl] at h
    exact List.length_eq_zero_iff.mp h
  · rintro rfl
    rfl
/-- a text as a chain: none if it is empty -/
def txt (s : Str) (u : T) : T := if s = ("" : Str) then u else .text s u
/-- texts joined, not within choices -/
def jt (a : List Str) : T → T
  | .nil => txt (catS a) .nil
  | .text s r => jt (a ++ [s]) r
  | .shw n r => txt (catS a) (.shw n (jt [] r))
  | .num r => txt (catS a) (.num (jt [] r))
  | .cho hd cs o r => txt (catS a) (.cho hd cs o (jt [] r))
  | .cas k m r => txt (catS a) (.cas k m (jt [] r))
section
variable {P : Program} {w : World} {K : PySem.W.Frag} {mg : Str → Option Value} {base : Heap}
/-! ### text_nodes -/
abbrev sTn : Stmt := top 7
theorem scTn : FnScope ["strings", "joined"] ["strings"] (defScope sTn) := ⟨rfl, rfl, rfl, by decide +kernel, rfl, by decide +kernel, by decide +kernel⟩
def spTn : Sp := fun vs H Q _ => ∃ (a : Addr) (ys : List Str), vs = [.ref a] ∧ H a = some (.lst (ys.map V.str)) ∧ (ys.map (·.length)).sum < 1000000 ∧ ∀ l H' ws, H l = none → Same H H' → H' l = some (.lst ws) → Nodes H' (txt (catS ys) .nil) ws → ws.length ≤ 1 → Q (.ref l) H'
theorem ok_tn {f : Addr} {fd : FuncData} (F : Fun K "text_nodes" "text_nodes" sTn f fd) : FnOk P w K mg base CX0 1 f fd ["strings"] spTn := by
  refine F.ok scTn (fun vs H Q E h => ?_) (fun cdv A outer s H vs Q E hr h => ?_)
  · obtain ⟨a, ys, rfl, _⟩ := h
    rfl
  obtain ⟨a, ys, rfl, ha, hz, q⟩ := h
  have nd := scTn.nd
  refine ⟨_, pss_cons (ps_set (i := 1) nd rfl (.inl rfl) (pe_join pe_str (pv 0)))
    (pss_one (ps_ret (pe_ifExp (pt_truth (pv 1) (by intro _; rfl)) (pe_lst (pa_cons (pe_tup (pa_cons pe_str (pa_cons (pv 1) pa_nil))) pa_nil)) (pe_lst pa_nil)))), ?_⟩
  refine ⟨⟨_, rfl⟩, _, rfl, _, a, ys, rfl, rfl, .inl (SqL.of ha), ?_, ?_⟩
  · show (ys.map (·.length)).sum + ys.length * 0 ≤ 16777216
    omega
  show ∃ v, _ ∧ _
  refine ⟨_, rfl, _, ⟨?_, rfl⟩, ?_⟩
  · rw [join_cat, cat_len]
    exact le_line (by omega)
  rw [join_cat]
  by_cases e : catS ys = ("" : Str)
  · have e0 : (((catS ys).length : Int) != 0) = false := by
      rw [len_zero.mpr e]
      rfl
    rw [e0]
    refine iteF ⟨Nat.zero_le _, fun l hl => ?_⟩
    refine q l _ [] hl (same_new hl _) upd_same ?_ (Nat.zero_le _)
    unfold txt
    rw [if_pos e]
    exact rfl
  · have e0 : (((catS ys).length : Int) != 0) = true := by
      have : (catS ys).length ≠ 0 := fun z => e (len_zero.mp z)
      exact bne_iff_ne.mpr (by omega)
    rw [e0]
    refine iteT ⟨_, rfl, by show 2 ≤ sizeLine; decide, fun p hp => ⟨by show 1 ≤ sizeLine; decide, fun l hl => ?_⟩⟩
    have s1 : Same H (upd H p (.tup [.str "text", .str (catS ys)])) := same_new hp _
    refine q l _ [.ref p] (s1.free hl) (s1.trans (same_new hl _)) upd_same ?_ (Nat.le_refl _)
    unfold txt
    rw [if_neg e]
    exact ⟨p, [], rfl, by rw [upd_ne (ne_of_none upd_same hl)]; exact upd_same, rfl⟩
end
end Mw

namespace Mw
open PySem L2
/-- the old heap, and new tuples -/
def mix (H H1 : Hp) : Hp := fun a => match H a with
  | some o => some o
  | none => match H1 a with
    | some (.tup xs) => some (.tup xs)
    | _ => none
theorem mix_old {H H1 : Hp} : Same H (mix H H1) := fun a o h => by
  unfold mix
  rw [h]
theorem mix_new {H H1 : Hp} {p : Addr} {xs : List V} (s : Same H H1) (h : H1 p = some (.tup xs)) : mix H H1 p = some (.tup xs) := by
  unfold mix
  cases e : H p with
  | none =>
    simp only
    rw [h]
  | some o =>
    simp only
    rw [s _ _ e] at h
    exact h
theorem mix_in {H H1 : Hp} {a : Addr} {o : HO} (h : mix H H1 a = some o) : H a = some o ∨ (H a = none ∧ ∃ xs, o = .tup xs ∧ H1 a = some (.tup xs)) := by
  unfold mix at h
  cases e : H a with
  | some o' =>
    rw [e] at h
    exact .inl h
  | none =>
    rw [e] at h
    simp only at h
    split at h
    · cases h
      exact .inr ⟨rfl, _, rfl, by assumption⟩
    · cases h
theorem mix_same {H H1 H2 : Hp} (s : Same H1 H2) : Same (mix H H1) (mix H H2) := fun a o h => by
  rcases mix_in h with k | ⟨h0, xs, rfl, k⟩
  · exact mix_old _ _ k
  · unfold mix
    rw [h0]
    simp only
    rw [s _ _ k]
theorem mix_mut {H H1 : Hp} {l : Addr} {xs ys : List V} (hl : H1 l = some (.lst xs)) : Same (mix H H1) (mix H (upd H1 l (.lst ys))) := fun a o h => by
  rcases mix_in h with k | ⟨h0, zs, rfl, k⟩
  · exact mix_old _ _ k
  · unfold mix
    rw [h0]
    simp only
    rw [upd_ne (by rintro rfl; rw [hl] at k; cases k), k]
theorem mix_out {H H1 : Hp} (s : Same H H1) : Same (mix H H1) H1 := fun a o h => by
  rcases mix_in h with k | ⟨h0, xs, rfl, k⟩
  · exact s _ _ k
  · exact k
theorem mix_txt {H H1 : Hp} {x : Str} {ws : List V} (s : Same H H1) (h : Nodes H1 (txt x .nil) ws) : Nodes (mix H H1) (txt x .nil) ws := by
  unfold txt at *
  split at h
  · rename_i e
    rw [if_pos e]
    exact h
  · rename_i e
    rw [if_neg e]
    obtain ⟨p, ws', rfl, hp, hr⟩ := h
    exact ⟨p, ws', rfl, mix_new s hp, hr⟩
/-- nodes one behind the other -/
def ch : List T → T
  | [] => .nil
  | u :: us => u.app (ch us)
theorem ch_nodes : ∀ t : T, ch t.nodes = t
  | .nil => rfl
  | .text s r => congrArg (T.text s) (ch_nodes r)
  | .shw s r => congrArg (T.shw s) (ch_nodes r)
  | .num r => congrArg T.num (ch_nodes r)
  | .cho hd cs o r => congrArg (T.cho hd cs o) (ch_nodes r)
  | .cas k m r => congrArg (T.cas k m) (ch_nodes r)
theorem app_nil : ∀ t : T, t.app .nil = t
  | .nil => rfl
  | .text s r => congrArg (T.text s) (app_nil r)
  | .shw s r => congrArg (T.shw s) (app_nil r)
  | .num r => congrArg T.num (app_nil r)
  | .cho hd cs o r => congrArg (T.cho hd cs o) (app_nil r)
  | .cas k m r => congrArg (T.cas k m) (app_nil r)
theorem app_assoc (u v : T) : ∀ t : T, (t.app u).app v = t.app (u.app v)
  | .nil => rfl
  | .text s r => congrArg (T.text s) (app_assoc u v r)
  | .shw s r => congrArg (T.shw s) (app_assoc u v r)
  | .num r => congrArg T.num (app_assoc u v r)
  | .cho hd cs o r => congrArg (T.cho hd cs o) (app_assoc u v r)
  | .cas k m r => congrArg (T.cas k m) (app_assoc u v r)
theorem txt_app (s : Str) (u v : T) : (txt s u).app v = txt s (u.app v) := by
  unfold txt
  split <;> rfl
theorem txt_nil (s : Str) (v : T) : (txt s .nil).app v = txt s v := txt_app s .nil v
theorem nodes_wf : ∀ {t : T} {c : Bool}, Wf t c → ∀ u ∈ t.nodes, Wf u c
  | .nil, _, _, u, h => by cases h
  | .text s r, _, w, u, h => by
    rcases List.mem_cons.mp h with rfl | h
    · exact ⟨w.1, trivial⟩
    · exact nodes_wf w.2 u h
  | .shw s r, _, w, u, h => by
    rcases List.mem_cons.mp h with rfl | h
    · exact ⟨w.1, trivial⟩
    · exact nodes_wf w.2 u h
  | .num r, _, w, u, h => by
    rcases List.mem_cons.mp h with rfl | h
    · exact ⟨w.1, trivial⟩
    · exact nodes_wf w.2 u h
  | .cho hd cs o r, _, w, u, h => by
    rcases List.mem_cons.mp h with rfl | h
    · exact ⟨w.1, w.2.1, w.2.2.1, w.2.2.2.1, trivial⟩
    · exact nodes_wf w.2.2.2.2 u h
  | .cas k m r, _, w, u, h => by
    rcases List.mem_cons.mp h with rfl | h
    · exact ⟨w.1, w.2.1, w.2.2.1, trivial⟩
    · exact nodes_wf w.2.2.2 u h
/-- the joining at one node -/
theorem jt_one (ss : List Str) {u : T} (w : Wf u false) (hs : u.single) (hu : u.isText = false) (r : T) : jt ss (u.app r) = (txt (catS ss) .nil).app (u.app (jt [] r)) := by
  rw [txt_nil]
  cases u with
  | nil => cases hs
  | text s r' => cases hu
  | shw n r' => cases (show r' = .nil from hs); rfl
  | num r' => cases (show r' = .nil from hs); rfl
  | cho hd cs o r' => cases (show r' = .nil from hs); rfl
  | cas k m r' => cases w.1
section
variable {P : Program} {w : World} {K : PySem.W.Frag} {mg : Str → Option Value} {base : Heap}
/-! ### joined_texts -/
abbrev sJt : Stmt := top 8
theorem scJt : FnScope ["message", "nodes", "strings", "node"] ["message"] (defScope sJt) := ⟨rfl, rfl, rfl, by decide +kernel, rfl, by decide +kernel, by decide +kernel⟩
def spJt : Sp := fun vs H Q _ => ∃ (a : Addr) (H0 : Hp) (t : T), vs = [.ref a] ∧ Same H0 H ∧ At H0 a t ∧ Wf t false ∧ t.sz < 100000 ∧ ∀ l H' ws, H l = none → Same H H' → H' l = some (.lst ws) → Nodes (mix H0 H') (jt [] t) ws → Q (.ref l) H'
theorem ok_jt {f fT : Addr} {fd fdT : FuncData} (F : Fun K "joined_texts" "joined_texts" sJt f fd) (GT : FnOk P w K mg base CX0 1 fT fdT ["strings"] spTn) (bT : Binds K fdT ["strings"] []) (kT : PySem.W.keepIn K (.ref fT) = true) (mT : mg "text_nodes" = some (.ref fT)) :
    FnOk P w K mg base CX0 2 f fd ["message"] spJt := by
  refine F.ok scJt (fun vs H Q E h => ?_) (fun cdv A outer s H vs Q E hr h => ?_)
  · obtain ⟨a, H0, t, rfl, _⟩ := h
    rfl
  obtain ⟨a, H0, t, rfl, h0, ⟨vs, ha, hn⟩, hw, hz, q⟩ := h
  have nd := scJt.nd
  refine ⟨_, pss_cons (ps_set (i := 1) nd rfl (.inl rfl) (pe_lst pa_nil)) (pss_cons (ps_set (i := 2) nd rfl (.inl rfl) (pe_lst pa_nil))
    (pss_cons (ps_for PassesOwn.never rfl (pi_list (pv 0)) (pg_name (i := 3) nd rfl (.inl rfl))
      (pss_one (ps_if (pt_cmpR op_eq (pe_ix ix_tup (pv 3) pe_int (fun _ _ => rfl)) pe_str (nomark _))
        (pss_one (ps_expr (pe_bm PySem.F.plainAttrs_list PySem.F.slot_list_append PySem.F.type_list_append mt_append (pv 2) (pa_cons (pe_ix ix_tup (pv 3) pe_int (fun _ _ => rfl)) pa_nil))))
        (pss_cons (ps_expr (pe_bm PySem.F.plainAttrs_list PySem.F.slot_list_extend PySem.F.type_list_extend mt_extend (pv 1) (pa_cons (pe_call GT hr rfl mT kT bT .nil pass0 (pa_cons (pv 2) pa_nil)) pa_nil)))
        (pss_cons (ps_set (i := 2) nd rfl (.inl rfl) (pe_lst pa_nil))
        (pss_one (ps_expr (pe_bm PySem.F.plainAttrs_list PySem.F.slot_list_append PySem.F.type_list_append mt_append (pv 1) (pa_cons (pv 3) pa_nil)))))))))
    (pss_one (ps_ret (pe_op op_cat (pv 1) (pe_call GT hr rfl mT kT bT .nil pass0 (pa_cons (pv 2) pa_nil))))))), ?_⟩
  refine ⟨Nat.zero_le _, fun nl hnl => ⟨Nat.zero_le _, fun sl hsl => ?_⟩⟩
  have s1 : Same H (upd H nl (.lst [])) := same_new hnl _
  have s2 : Same H (upd (upd H nl (.lst [])) sl (.lst [])) := s1.trans (same_new hsl _)
  have hlen : vs.length < 100000 := by
    rw [hn.length]
    exact Nat.lt_of_le_of_lt (len_sz t) hz
  have hns := hn.ns
  refine ⟨_, rfl, a, rfl, ⟨_, SqL.of (s2 _ _ (h0 _ _ ha))⟩, for_list (K := K) (a := a) (xs := vs) (fun i σ H' => ∃ (sl : Addr) (o3 : Option V) (ss : List Str) (ws : List V) (done : T), σ = [some (.ref a), some (.ref nl), some (.ref sl), o3] ∧ Same H H' ∧ H sl = none ∧ sl ≠ nl ∧ H' sl = some (.lst (ss.map V.str)) ∧ H' nl = some (.lst ws) ∧ Nodes (mix H0 H') done ws ∧ jt [] t = done.app (jt ss (ch (t.nodes.drop i))) ∧ (ss.map (·.length)).sum + ss.length + (ch (t.nodes.drop i)).sz ≤ t.sz ∧ ws.length ≤ 2 * i)
    ⟨sl, none, [], [], .nil, rfl, s2, upd_none hsl, (fun e => by rw [e, upd_same] at hsl; cases hsl), upd_same, (by rw [upd_ne (ne_of_none upd_same hsl)]; exact upd_same), rfl, (by rw [List.drop_zero, ch_nodes]; rfl), (by rw [List.drop_zero, ch_nodes]; exact Nat.le_of_eq (Nat.zero_add _)), Nat.le_refl _⟩
    (fun i σ H' _ ⟨_, _, _, _, _, _, s', _⟩ => SqL.of (s' _ _ (h0 _ _ ha))) ?_ ?_⟩
  · rintro i x σ H' hx ⟨sl, o3, ss, ws, done, rfl, s', hs0, hsn, hs, hw', hd, hj, hsz, hwl⟩
    obtain ⟨u, hu, hun⟩ := hns.get hx
    have hi : i < vs.length := (List.getElem?_eq_some_iff.mp hx).1
    have uw : Wf u false := nodes_wf hw u (List.mem_of_getElem? hu)
    obtain ⟨p, y, ys, rfl, hp, hsg, _, htx⟩ := node_of hun uw
    have hdrop : t.nodes.drop i = u :: t.nodes.drop (i + 1) := by
      have e := List.getElem?_eq_some_iff.mp hu
      rw [List.drop_eq_getElem_cons e.1, e.2]
    rw [hdrop] at hj hsz
    have hsz' : (ss.map (·.length)).sum + ss.length + (u.sz + (ch (t.nodes.drop (i + 1))).sz) ≤ t.sz := by
      have := hsz
      rw [show ch (u :: t.nodes.drop (i + 1)) = u.app (ch (t.nodes.drop (i + 1))) from rfl, T.app_sz] at this
      exact this
    refine ⟨_, rfl, p, _, 0, .str y, rfl, rfl, .inl (.inl (s' _ _ (h0 _ _ hp))), atI_nat (j := 0) rfl, rfl, _, rfl, ite2 (fun c => ?_) (fun c => ?_)⟩
    · have ht := htx.mp (str_eq (of_decide_eq_true c))
      cases u with
      | text st r =>
        cases (show r = .nil from hsg)
        obtain ⟨p', _, e, hp', _⟩ := hun
        cases e
        refine ⟨_, rfl, .inl ⟨rfl, _, SqL.of hs⟩, _, rfl, p, _, 1, .str st, rfl, rfl, .inl (.inl (s' _ _ (h0 _ _ hp'))), atI_nat (j := 1) rfl, sl, _, _, rfl, rfl, hs, ?_, ?_⟩
        · rw [List.length_map]
          exact sz_line (by omega)
        · refine ⟨sl, _, ss ++ [st], ws, done, rfl, same_mut s' hs0 _, hs0, hsn, ?_, ?_, Nodes.same (mix_mut hs) hd, hj, ?_, by omega⟩
          · rw [upd_same, List.map_append]
            rfl
          · rw [upd_ne hsn.symm]
            exact hw'
          · rw [List.map_append, List.sum_append, List.length_append]
            simp only [T.sz] at hsz'
            simp only [List.map_cons, List.map_nil, List.sum_cons, List.sum_nil, List.length_singleton]
            omega
      | _ => cases ht
    · have ht : u.isText = false := by
        cases e : u.isText with
        | false => rfl
        | true =>
          refine absurd ?_ c
          rw [htx.mpr e]
          exact decide_eq_true rfl
      have hwb : ws.length < 200000 := by omega
      refine ⟨_, rfl, .inl ⟨rfl, _, SqL.of hw'⟩, _, rfl, sl, ss, rfl, hs, by omega, fun l H2 xs hl s3 hl2 hx2 hx1 => ?_⟩
      refine ⟨nl, l, ws, xs, rfl, rfl, s3 _ _ hw', hl2, le_line (by omega), Nat.zero_le _, fun sl' hsl' => ?_⟩
      have hHl : H l = none := s'.free hl
      have s4 : Same H H2 := s'.trans s3
      have hnl0 : H nl = none := hnl
      have s5 : Same H (upd H2 nl (.lst (ws ++ xs))) := same_mut s4 hnl0 _
      have s6 : Same H (upd (upd H2 nl (.lst (ws ++ xs))) sl' (.lst [])) := s5.trans (same_new hsl' _)
      have hsn' : sl' ≠ nl := fun e => by rw [e, upd_same] at hsl'; cases hsl'
      have hn6 : upd (upd H2 nl (.lst (ws ++ xs))) sl' (.lst []) nl = some (.lst (ws ++ xs)) := by rw [upd_ne hsn'.symm]; exact upd_same
      refine ⟨_, rfl, .inl ⟨rfl, _, SqL.of hn6⟩, _, rfl, nl, _, _, rfl, rfl, hn6, sz_line (by rw [List.length_append]; omega), ?_⟩
      refine ⟨sl', _, [], ws ++ xs ++ [.ref p], (done.app (txt (catS ss) .nil)).app u, rfl, same_mut s6 hnl0 _, s5.free hsl', hsn', ?_, upd_same, ?_, ?_, ?_, ?_⟩
      · rw [upd_ne hsn']
        exact upd_same
      · have d1 : Nodes (mix H0 H2) done ws := Nodes.same (mix_same s3) hd
        have d2 : Nodes (mix H0 H2) (txt (catS ss) .nil) xs := mix_txt (h0.trans s4) hx2
        have d3 : Nodes (mix H0 H2) u [.ref p] := Nodes.same mix_old hun
        have d4 := Nodes.app d3 (Nodes.app d2 d1)
        exact Nodes.same (mix_mut hn6) (Nodes.same (mix_same (same_new hsl' _)) (Nodes.same (mix_mut (s3 _ _ hw')) d4))
      · rw [hj, show ch (u :: t.nodes.drop (i + 1)) = u.app (ch (t.nodes.drop (i + 1))) from rfl, jt_one ss uw hsg ht]
        rw [app_assoc, app_assoc]
      · simp only [List.map_nil, List.sum_nil, List.length_nil]
        omega
      · rw [List.length_append, List.length_append, List.length_singleton]
        omega
  · rintro σ H' ⟨sl, o3, ss, ws, done, rfl, s', hs0, hsn, hs, hw', hd, hj, hsz, hwl⟩
    refine ⟨_, rfl, _, rfl, sl, ss, rfl, hs, by omega, fun l H2 xs hl s3 hl2 hx2 hx1 => ?_⟩
    have s4 : Same H H2 := s'.trans s3
    refine ⟨nl, l, ws, xs, rfl, rfl, s3 _ _ hw', hl2, le_line (by omega), fun r hr => ?_⟩
    refine q r _ (ws ++ xs) (s4.free hr) (s4.trans (same_new hr _)) upd_same ?_
    have e : t.nodes.drop vs.length = [] := by
      rw [hns.length]
      exact List.drop_length
    rw [e] at hj
    rw [hj]
    exact Nodes.same (mix_same (same_new hr _)) (Nodes.app (mix_txt (h0.trans s4) hx2) (Nodes.same (mix_same s3) hd))
end
end Mw

namespace Mw
open PySem L2
/-! ### all nodes, in the order of the notation -/
def T.all : T → List T
  | .nil => []
  | .text s r => .text s .nil :: r.all
  | .shw n r => .shw n .nil :: r.all
  | .num r => .num .nil :: r.all
  | .cho hd cs o r => .cho hd cs o .nil :: (cs.all ++ o.all ++ r.all)
  | .cas _ m r => m.all ++ r.all
def allOf (us : List T) : List T := us.flatMap T.all
theorem all_nodes_eq : ∀ {t : T}, Wf t false → allOf t.nodes = t.all
  | .nil, _ => rfl
  | .text s r, w => by
    show (T.text s .nil).all ++ allOf r.nodes = _
    rw [all_nodes_eq w.2]
    rfl
  | .shw s r, w => by
    show (T.shw s .nil).all ++ allOf r.nodes = _
    rw [all_nodes_eq w.2]
    rfl
  | .num r, w => by
    show (T.num .nil).all ++ allOf r.nodes = _
    rw [all_nodes_eq w.2]
    rfl
  | .cho hd cs o r, w => by
    show (T.cho hd cs o .nil).all ++ allOf r.nodes = _
    rw [all_nodes_eq w.2.2.2.2]
    simp [T.all]
  | .cas _ _ _, w => by cases w.1
theorem all_msgs : ∀ {t : T}, Wf t true → t.msgs.flatMap T.all = t.all
  | .nil, _ => rfl
  | .cas _ m r, w => by
    show m.all ++ r.msgs.flatMap T.all = _
    rw [all_msgs w.2.2.2]
    rfl
  | .text _ _, w => by cases w.1
  | .shw _ _, w => by cases w.1
  | .num _, w => by cases w.1
  | .cho _ _ _ _, w => by cases w.1
theorem wf_msgs : ∀ {t : T}, Wf t true → ∀ m ∈ t.msgs, Wf m false
  | .nil, _, m, h => by cases h
  | .cas _ m r, w, m', h => by
    rcases List.mem_cons.mp h with rfl | h
    · exact w.2.2.1
    · exact wf_msgs w.2.2.2 m' h
  | .text _ _, w, _, _ => by cases w.1
  | .shw _ _, w, _, _ => by cases w.1
  | .num _, w, _, _ => by cases w.1
  | .cho _ _ _ _, w, _, _ => by cases w.1
theorem wf_inner {u : T} (w : Wf u false) : ∀ m ∈ u.inner, Wf m false := by
  cases u with
  | cho hd cs o r =>
    intro m h
    rcases List.mem_append.mp h with h | h
    · exact wf_msgs w.2.2.1 m h
    · rw [List.mem_singleton.mp h]
      exact w.2.2.2.1
  | _ => intro m h; cases h
/-- a node, then what is within it -/
theorem all_one {u : T} (w : Wf u false) (hs : u.single) : u.all = u :: u.inner.flatMap T.all := by
  cases u with
  | nil => cases hs
  | text s r => cases (show r = .nil from hs); rfl
  | shw n r => cases (show r = .nil from hs); rfl
  | num r => cases (show r = .nil from hs); rfl
  | cho hd cs o r =>
    cases (show r = .nil from hs)
    show T.cho hd cs o .nil :: (cs.all ++ o.all ++ T.nil.all) = T.cho hd cs o .nil :: (cs.msgs ++ [o]).flatMap T.all
    rw [List.flatMap_append, all_msgs w.2.2.1]
    simp [T.all]
  | cas k m r => cases w.1
theorem all_sz : ∀ t : T, t.all.length ≤ t.sz
  | .nil => Nat.le_refl _
  | .text s r => by have := all_sz r; simp only [T.all, T.sz, List.length_cons]; omega
  | .shw s r => by have := all_sz r; simp only [T.all, T.sz, List.length_cons]; omega
  | .num r => by have := all_sz r; simp only [T.all, T.sz, List.length_cons]; omega
  | .cho _ cs o r => by
    have h1 := all_sz cs
    have h2 := all_sz o
    have h3 := all_sz r
    simp only [T.all, T.sz, List.length_cons, List.length_append]
    omega
  | .cas _ m r => by
    have h1 := all_sz m
    have h3 := all_sz r
    simp only [T.all, T.sz, List.length_append]
    omega
/-- a pending forest: every tree well made, its first node apart -/
def szs (us : List T) : Nat := (us.map T.sz).sum
theorem szs_append (us vs : List T) : szs (us ++ vs) = szs us + szs vs := by
  unfold szs
  rw [List.map_append, List.sum_append]
theorem szs_nodes : ∀ t : T, szs t.nodes = t.sz
  | .nil => rfl
  | .text s r => by have := szs_nodes r; simp only [szs, T.nodes, T.sz, List.map_cons, List.sum_cons] at *; omega
  | .shw s r => by have := szs_nodes r; simp only [szs, T.nodes, T.sz, List.map_cons, List.sum_cons] at *; omega
  | .num r => by have := szs_nodes r; simp only [szs, T.nodes, T.sz, List.map_cons, List.sum_cons] at *; omega
  | .cho _ cs o r => by have := szs_nodes r; simp only [szs, T.nodes, T.sz, List.map_cons, List.sum_cons] at *; omega
  | .cas _ m r => by have := szs_nodes r; simp only [szs, T.nodes, T.sz, List.map_cons, List.sum_cons] at *; omega
theorem szs_msgs : ∀ {t : T}, szs t.msgs ≤ t.sz
  | .cas _ m r => by have := @szs_msgs r; simp only [szs, T.msgs, T.sz, List.map_cons, List.sum_cons] at *; omega
  | .nil => Nat.le_refl _
  | .text _ _ => Nat.zero_le _
  | .shw _ _ => Nat.zero_le _
  | .num _ => Nat.zero_le _
  | .cho _ _ _ _ => Nat.zero_le _
theorem szs_inner {u : T} (hs : u.single) : szs u.inner < u.sz := by
  cases u with
  | cho hd cs o r =>
    have := @szs_msgs cs
    show szs (cs.msgs ++ [o]) < 1 + cs.sz + o.sz + r.sz
    rw [szs_append]
    simp only [szs, List.map_cons, List.map_nil, List.sum_cons, List.sum_nil] at *
    omega
  | nil => cases hs
  | text s r => show 0 < 1 + s.length + r.sz; omega
  | shw s r => show 0 < 1 + r.sz; omega
  | num r => show 0 < 1 + r.sz; omega
  | cas k m r => show 0 < 1 + m.sz + r.sz; omega
theorem szs_fm : ∀ l : List T, szs (l.flatMap T.nodes) = szs l
  | [] => rfl
  | m :: l => by
    rw [List.flatMap_cons, szs_append, szs_fm l, szs_nodes]
    rfl
theorem szs_rev (l : List T) : szs l.reverse = szs l := by
  unfold szs
  rw [List.map_reverse, List.sum_reverse]
theorem szs_take (l : List T) (i : Nat) : szs (l.take i) ≤ szs l := by
  have := szs_append (l.take i) (l.drop i)
  rw [List.take_append_drop] at this
  omega
theorem Ns.szs {H : Hp} : ∀ {us : List T} {vs : List V}, Ns H us vs → vs.length ≤ szs us
  | [], _, h => by rw [show _ = [] from h]; exact Nat.le_refl _
  | u :: us, _, h => by
    obtain ⟨v, ws, rfl, h1, h2⟩ := h
    have := h1.length
    have := len_sz u
    have := h2.szs
    show ws.length + 1 ≤ u.sz + Mw.szs us
    simp only [List.length_singleton] at *
    omega
section
variable {P : Program} {w : World} {K : PySem.W.Frag} {mg : Str → Option Value} {base : Heap}
/-! ### all_nodes -/
abbrev sAll : Stmt := top 6
theorem scAll : FnScope ["message", "found", "ahead", "node", "inner"] ["message"] (defScope sAll) := ⟨rfl, rfl, rfl, by decide +kernel, rfl, by decide +kernel, by decide +kernel⟩
def spAll : Sp := fun vs H Q _ => ∃ (a : Addr) (t : T), vs = [.ref a] ∧ At H a t ∧ Wf t false ∧ t.sz < 80000 ∧ ∀ l H' ws, H l = none → Same H H' → H' l = some (.lst ws) → Ns H t.all ws → Q (.ref l) H'
theorem ok_all {f fI : Addr} {fd fdI : FuncData} (F : Fun K "all_nodes" "all_nodes" sAll f fd) (GI : FnOk P w K mg base CX0 2 fI fdI ["node"] spInner) (bI : Binds K fdI ["node"] []) (kI : PySem.W.keepIn K (.ref fI) = true) (mI : mg "inner_messages" = some (.ref fI)) :
    FnOk P w K mg base CX0 3 f fd ["message"] spAll := by
  refine F.ok scAll (fun vs H Q E h => ?_) (fun cdv A outer s H vs Q E hr h => ?_)
  · obtain ⟨a, t, rfl, _⟩ := h
    rfl
  obtain ⟨a, t, rfl, ⟨vs, ha, hn⟩, hw, hz, q⟩ := h
  have nd := scAll.nd
  refine ⟨_, pss_cons (ps_set (i := 1) nd rfl (.inl rfl) (pe_lst pa_nil)) (pss_cons (ps_set (i := 2) nd rfl (.inl rfl) (pe_revL (pv 0)))
    (pss_cons (ps_while PassesOwn.never (pt_truth (pv 2) (by intro _; rfl))
      (pss_cons (ps_set (i := 3) nd rfl (.inl rfl) (pe_bm0 PySem.F.plainAttrs_list PySem.F.slot_list_pop PySem.F.type_list_pop mt_pop (pv 2)))
      (pss_cons (ps_expr (pe_bm PySem.F.plainAttrs_list PySem.F.slot_list_append PySem.F.type_list_append mt_append (pv 1) (pa_cons (pv 3) pa_nil)))
      (pss_one (ps_for PassesOwn.never rfl (pi_list (pe_revL (pe_call GI hr rfl mI kI bI .nil pass0 (pa_cons (pv 3) pa_nil)))) (pg_name (i := 4) nd rfl (.inl rfl))
        (pss_one (ps_expr (pe_bm PySem.F.plainAttrs_list PySem.F.slot_list_extend PySem.F.type_list_extend mt_extend (pv 2) (pa_cons (pe_revL (pv 4)) pa_nil)))))))))
    (pss_one (ps_ret (pv 1))))), ?_⟩
  refine ⟨Nat.zero_le _, fun fl hfl => ?_⟩
  have s1 : Same H (upd H fl (.lst [])) := same_new hfl _
  refine ⟨_, rfl, a, vs, rfl, SqL.of (s1 _ _ ha), fun al hal => ?_⟩
  have s2 : Same H (upd (upd H fl (.lst [])) al (.lst vs.reverse)) := s1.trans (same_new hal _)
  have hal0 : H al = none := upd_none hal
  have hne : al ≠ fl := fun e => by rw [e, upd_same] at hal; cases hal
  refine ⟨fun m σ H' => ∃ (ws as : List V) (us done : List T) (o3 o4 : Option V), σ = [some (.ref a), some (.ref fl), some (.ref al), o3, o4] ∧ Same H H' ∧ H' fl = some (.lst ws) ∧ Ns H done ws ∧ H' al = some (.lst as) ∧ Ns H us as.reverse ∧ (∀ u ∈ us, Wf u false) ∧ t.all = done ++ allOf us ∧ szs us ≤ t.sz ∧ m = szs us, ⟨t.sz, [], vs.reverse, t.nodes, [], none, none, rfl, s2, (by rw [upd_ne hne.symm]; exact upd_same), rfl, upd_same, (by rw [List.reverse_reverse]; exact hn.ns), nodes_wf hw, (by rw [all_nodes_eq hw]; rfl), (by rw [szs_nodes]; exact Nat.le_refl _), (szs_nodes t).symm⟩, ?_⟩
  rintro m σ H' ⟨ws, as, us, done, o3, o4, rfl, s', hf, hd, ha', hu, huw, hall, hsz, rfl⟩
  have hdl : done.length < 80000 := by
    have e := congrArg List.length hall
    rw [List.length_append] at e
    have := all_sz t
    omega
  refine ⟨.ref al, rfl, !as.isEmpty, .inl ⟨as, SqL.of ha', rfl⟩, ?_⟩
  cases us with
  | nil =>
    have e : as = [] := List.reverse_eq_nil_iff.mp (show as.reverse = [] from hu)
    subst e
    refine iteF ?_
    rw [show t.all = done by rw [hall]; exact List.append_nil _] at q
    exact ⟨_, rfl, q fl H' ws hfl s' hf hd⟩
  | cons u us =>
    obtain ⟨v, vr, e, hu1, hu2⟩ := hu
    have e' : as = vr.reverse ++ [v] := by
      rw [← List.reverse_reverse as, e, List.reverse_cons]
    subst e'
    have hT : (!(vr.reverse ++ [v]).isEmpty) = true := by simp
    rw [hT]
    refine iteT ?_
    have uw := huw u (by simp)
    obtain ⟨p, x, xs, rfl, hp, hsg, _, _⟩ := node_of hu1 uw
    have hszu : u.sz + szs us ≤ t.sz := hsz
    -- node = ahead.pop(); found.append(node)
    refine ⟨fun σ' H'' => ∃ m', m' < szs (u :: us) ∧ ∃ (ws as : List V) (us done : List T) (o3 o4 : Option V), σ' = [some (.ref a), some (.ref fl), some (.ref al), o3, o4] ∧ Same H H'' ∧ H'' fl = some (.lst ws) ∧ Ns H done ws ∧ H'' al = some (.lst as) ∧ Ns H us as.reverse ∧ (∀ u ∈ us, Wf u false) ∧ t.all = done ++ allOf us ∧ szs us ≤ t.sz ∧ m' = szs us, fun σ' H'' z => z, ?_⟩
    refine ⟨.ref al, rfl, .inl ⟨rfl, _, SqL.of ha'⟩, al, _, .ref p, rfl, rfl, ha', by simp, ?_⟩
    rw [List.dropLast_concat]
    have s3 : Same H (upd H' al (.lst vr.reverse)) := same_mut s' hal0 _
    have hf3 : upd H' al (.lst vr.reverse) fl = some (.lst ws) := by rw [upd_ne hne.symm]; exact hf
    refine ⟨_, rfl, .inl ⟨rfl, _, SqL.of hf3⟩, _, rfl, fl, _, _, rfl, rfl, hf3, sz_line (by rw [hd.length]; omega), ?_⟩
    have s4 : Same H (upd (upd H' al (.lst vr.reverse)) fl (.lst (ws ++ [.ref p]))) := same_mut s3 hfl _
    -- inner_messages(node)[::-1]
    refine ⟨_, rfl, H, .ref p, u, rfl, s4, hu1, uw, by omega, fun il H5 ms hil s5 hil5 hms => ?_⟩
    refine ⟨il, ms, rfl, SqL.of hil5, fun rl hrl => ?_⟩
    have hal4 : upd (upd H' al (.lst vr.reverse)) fl (.lst (ws ++ [.ref p])) al = some (.lst vr.reverse) := by rw [upd_ne hne]; exact upd_same
    have hrl5 : H5 rl = none := hrl
    have s6 : Same H (upd H5 rl (.lst ms.reverse)) := (s4.trans s5).trans (same_new hrl _)
    have nra : rl ≠ al := (ne_of_none (s5 _ _ hal4) hrl).symm
    have hdone : Ns H (done ++ [u]) (ws ++ [.ref p]) := Ns.append (show Ns H [u] [.ref p] from ⟨_, [], rfl, hu1, rfl⟩) hd
    have hml : ms.length = u.inner.length := hms.length
    refine ⟨rl, rfl, ⟨_, SqL.of upd_same⟩, for_list (xs := ms.reverse) (fun i σ' H'' => ∃ (o4 : Option V) (as : List V), σ' = [some (.ref a), some (.ref fl), some (.ref al), some (.ref p), o4] ∧ Same H H'' ∧ H'' fl = some (.lst (ws ++ [.ref p])) ∧ H'' rl = some (.lst ms.reverse) ∧ H'' al = some (.lst as) ∧ Ns H (((u.inner.reverse.take i).reverse).flatMap T.nodes ++ us) as.reverse)
      ⟨o4, vr.reverse, rfl, s6, s6 |> fun _ => (by rw [upd_ne (ne_of_none (s5 _ _ upd_same) hrl)]; exact s5 _ _ upd_same), upd_same, (by rw [upd_ne nra.symm]; exact s5 _ _ hal4), (by rw [List.reverse_reverse]; exact hu2)⟩
      (fun i σ' H'' _ ⟨_, _, _, _, _, h, _⟩ => SqL.of h) ?_ ?_⟩
    · rintro i x' σ' H'' hx ⟨o4, as, rfl, s7, hf7, hr7, ha7, hn7⟩
      have hi : i < ms.length := by
        have := (List.getElem?_eq_some_iff.mp hx).1
        rw [List.length_reverse] at this
        exact this
      have hx2 : ms[ms.length - 1 - i]? = some x' := by
        rw [List.getElem?_reverse hi] at hx
        exact hx
      obtain ⟨m, ma, hm1, rfl, ⟨mvs, hma, hmn⟩⟩ := hms.get hx2
      have hm2 : u.inner.reverse[i]? = some m := by
        rw [List.getElem?_reverse (by omega), ← hml]
        exact hm1
      have hmem : m ∈ u.inner := List.mem_of_getElem? hm1
      refine ⟨_, rfl, .inl ⟨rfl, _, SqL.of ha7⟩, _, rfl, ma, mvs, rfl, SqL.of (s7 _ _ hma), fun nl hnl => ?_⟩
      have nna : nl ≠ al := (ne_of_none ha7 hnl).symm
      have hn1 : m.nodes ++ (((u.inner.reverse.take i).reverse).flatMap T.nodes ++ us) = ((u.inner.reverse.take (i + 1)).reverse).flatMap T.nodes ++ us := by
        rw [List.take_succ, hm2]
        simp
      have hns : Ns H (m.nodes ++ (((u.inner.reverse.take i).reverse).flatMap T.nodes ++ us)) (mvs ++ as.reverse) := Ns.append hn7 hmn.ns
      have hbound : as.length + mvs.length < 1000000 := by
        have b1 := hns.szs
        rw [hn1, szs_append, szs_fm, szs_rev, List.length_append, List.length_reverse] at b1
        have b2 := szs_take u.inner.reverse (i + 1)
        rw [szs_rev] at b2
        have b3 := szs_inner hsg
        omega
      refine ⟨al, nl, as, mvs.reverse, rfl, rfl, by rw [upd_ne nna.symm]; exact ha7, upd_same, Nat.le_trans (Nat.le_of_lt (by rw [List.length_reverse]; exact hbound)) (by decide), ?_⟩
      refine ⟨_, as ++ mvs.reverse, rfl, same_mut (s7.trans (same_new hnl _)) hal0 _, ?_, ?_, upd_same, ?_⟩
      · rw [upd_ne hne.symm, upd_ne (ne_of_none hf7 hnl)]
        exact hf7
      · rw [upd_ne nra, upd_ne (ne_of_none hr7 hnl)]
        exact hr7
      · rw [List.reverse_append, List.reverse_reverse, ← hn1]
        exact hns
    · rintro σ' H'' ⟨o4, as, rfl, s7, hf7, hr7, ha7, hn7⟩
      have e1 : (u.inner.reverse.take ms.reverse.length).reverse = u.inner := by
        rw [List.length_reverse, hml, show u.inner.length = u.inner.reverse.length from (List.length_reverse).symm, List.take_length, List.reverse_reverse]
      rw [e1] at hn7
      have e2 : szs (u.inner.flatMap T.nodes) = szs u.inner := szs_fm _
      have e3 : allOf (u.inner.flatMap T.nodes) = u.inner.flatMap T.all := by
        have : ∀ l : List T, (∀ m ∈ l, Wf m false) → allOf (l.flatMap T.nodes) = l.flatMap T.all := by
          intro l
          induction l with
          | nil => intro _; rfl
          | cons m l ih =>
            intro h
            rw [List.flatMap_cons, List.flatMap_cons, ← ih fun x hx => h x (List.mem_cons_of_mem _ hx), ← all_nodes_eq (h m (by simp))]
            simp [allOf]
        exact this _ (wf_inner uw)
      have hlt := szs_inner hsg
      refine ⟨szs (u.inner.flatMap T.nodes ++ us), ?_, _, as, _, done ++ [u], _, o4, rfl, s7, hf7, hdone, ha7, hn7, ?_, ?_, ?_, rfl⟩
      · rw [szs_append, e2]
        show _ < u.sz + szs us
        omega
      · intro x hx
        rcases List.mem_append.mp hx with hx | hx
        · obtain ⟨m, hm, hx⟩ := List.mem_flatMap.mp hx
          exact nodes_wf (wf_inner uw m hm) x hx
        · exact huw x (List.mem_cons_of_mem _ hx)
      · rw [hall]
        show done ++ (u.all ++ allOf us) = _
        rw [all_one uw hsg]
        simp only [allOf, List.flatMap_append] at *
        rw [e3]
        simp
      · rw [szs_append, e2]
        omega
end
end Mw

namespace Mw
open PySem L2
/-- a node's own size, and a message's -/
def T.nw : T → Int
  | .text s _ => (s.length : Int)
  | _ => 1
def T.size : T → Int
  | .nil => 0
  | .text s r => (s.length : Int) + r.size
  | .shw _ r => 1 + r.size
  | .num r => 1 + r.size
  | .cho _ cs o r => 1 + cs.size + o.size + r.size
  | .cas _ m r => m.size + r.size
theorem all_size : ∀ t : T, (t.all.map T.nw).sum = t.size
  | .nil => rfl
  | .text s r => by simp [T.all, T.size, T.nw, all_size r]
  | .shw n r => by simp [T.all, T.size, T.nw, all_size r]
  | .num r => by simp [T.all, T.size, T.nw, all_size r]
  | .cho hd cs o r => by
    simp only [T.all, T.size, List.map_cons, List.sum_cons, List.map_append, List.sum_append, all_size cs, all_size o, all_size r]
    show (1 : Int) + _ = _
    omega
  | .cas _ m r => by simp [T.all, T.size, all_size m, all_size r]
theorem all_wf : ∀ {t : T} {c : Bool}, Wf t c → ∀ u ∈ t.all, Wf u false
  | .nil, _, _, u, h => by cases h
  | .text s r, _, w, u, h => by
    rcases List.mem_cons.mp h with rfl | h
    · exact ⟨rfl, trivial⟩
    · exact all_wf w.2 u h
  | .shw s r, _, w, u, h => by
    rcases List.mem_cons.mp h with rfl | h
    · exact ⟨rfl, trivial⟩
    · exact all_wf w.2 u h
  | .num r, _, w, u, h => by
    rcases List.mem_cons.mp h with rfl | h
    · exact ⟨rfl, trivial⟩
    · exact all_wf w.2 u h
  | .cho hd cs o r, _, w, u, h => by
    rcases List.mem_cons.mp h with rfl | h
    · exact ⟨rfl, w.2.1, w.2.2.1, w.2.2.2.1, trivial⟩
    · rcases List.mem_append.mp h with h | h
      · rcases List.mem_append.mp h with h | h
        · exact all_wf w.2.2.1 u h
        · exact all_wf w.2.2.2.1 u h
      · exact all_wf w.2.2.2.2 u h
  | .cas k m r, _, w, u, h => by
    rcases List.mem_append.mp h with h | h
    · exact all_wf w.2.2.1 u h
    · exact all_wf w.2.2.2 u h
theorem all_le : ∀ {t : T}, ∀ u ∈ t.all, u.sz ≤ t.sz
  | .nil, u, h => by cases h
  | .text s r, u, h => by
    rcases List.mem_cons.mp h with rfl | h
    · simp only [T.sz]
      omega
    · have := all_le u h
      simp only [T.sz]
      omega
  | .shw s r, u, h => by
    rcases List.mem_cons.mp h with rfl | h
    · simp only [T.sz]
      omega
    · have := all_le u h
      simp only [T.sz]
      omega
  | .num r, u, h => by
    rcases List.mem_cons.mp h with rfl | h
    · simp only [T.sz]
      omega
    · have := all_le u h
      simp only [T.sz]
      omega
  | .cho hd cs o r, u, h => by
    rcases List.mem_cons.mp h with rfl | h
    · simp only [T.sz]
      omega
    · rcases List.mem_append.mp h with h | h
      · rcases List.mem_append.mp h with h | h
        · have := all_le u h
          simp only [T.sz]
          omega
        · have := all_le u h
          simp only [T.sz]
          omega
      · have := all_le u h
        simp only [T.sz]
        omega
  | .cas k m r, u, h => by
    rcases List.mem_append.mp h with h | h
    · have := all_le u h
      simp only [T.sz]
      omega
    · have := all_le u h
      simp only [T.sz]
      omega
section
variable {P : Program} {w : World} {K : PySem.W.Frag} {mg : Str → Option Value} {base : Heap}
/-! ### size_of -/
abbrev sSize : Stmt := top 10
theorem scSize : FnScope ["message", "node"] ["message"] (defScope sSize) := ⟨rfl, rfl, rfl, by decide +kernel, rfl, by decide +kernel, by decide +kernel⟩
def spSize : Sp := fun vs H Q _ => ∃ (a : Addr) (t : T), vs = [.ref a] ∧ At H a t ∧ Wf t false ∧ t.sz < 80000 ∧ ∀ H', Same H H' → Q (.int t.size) H'
theorem ok_size {f fA : Addr} {fd fdA : FuncData} (F : Fun K "size_of" "size_of" sSize f fd) (GA : FnOk P w K mg base CX0 3 fA fdA ["message"] spAll) (bA : Binds K fdA ["message"] []) (kA : PySem.W.keepIn K (.ref fA) = true) (mA : mg "all_nodes" = some (.ref fA)) (ml : mg "len" = none) (ms : mg "sum" = none) :
    FnOk P w K mg base CX0 4 f fd ["message"] spSize := by
  refine F.ok scSize (fun vs H Q E h => ?_) (fun cdv A outer s H vs Q E hr h => ?_)
  · obtain ⟨a, t, rfl, _⟩ := h
    rfl
  obtain ⟨a, t, rfl, ha, hw, hz, q⟩ := h
  have nd := scSize.nd
  refine ⟨_, pss_one (ps_ret (pe_callB (cr_sum rfl) (by rfl) ms (by decide +kernel) (pa_cons
      (pe_lc (own := [("node", 1)]) (g := gName 1) (tt := tYes) rfl nd (pi_list (pe_call GA hr rfl mA kA bA .nil pass0 (pa_cons (pv 0) pa_nil))) (blkOk_by (N := ["message", "node"]) (sc := defScope sSize) (by decide +kernel))
        (fun _ _ _ _ _ => pg_name (i := 1) nd rfl (.inl rfl)) (fun _ _ _ _ _ => pts_nil)
        (fun _ _ _ _ _ => pe_ifExp (pt_cmpR op_eq (pe_ix (r := rIxT K) ix_tup (pv 1) pe_int (fun _ _ => rfl)) pe_str (nomark _)) (pe_callB call_len_str (by rfl) ml PySem.boot_len (pa_cons (pe_ix (r := rIxT K) ix_tup (pv 1) pe_int (fun _ _ => rfl)) pa_nil)) pe_int)) pa_nil))), ?_⟩
  refine ⟨_, rfl, a, t, rfl, ha, hw, hz, fun l H1 ws hl s1 hl1 hns => ?_⟩
  refine ⟨l, rfl, ⟨_, SqL.of hl1⟩, fun D hD => ?_⟩
  have hwl : ws.length < 80000 := by
    rw [hns.length]
    exact Nat.lt_of_le_of_lt (all_sz t) hz
  refine lc_list (xs := ws) (fun i H' => Same H1 H' ∧ H' D = some (.lst (((t.all.take i).map T.nw).map V.int))) ⟨same_new hD _, upd_same⟩ (fun i H' _ ⟨s', _⟩ => SqL.of (s' _ _ hl1)) ?_ ?_
  · rintro i x H' hx ⟨s', hD'⟩
    obtain ⟨u, hu, hun⟩ := hns.get hx
    have hi : i < ws.length := (List.getElem?_eq_some_iff.mp hx).1
    obtain ⟨p, y, ys, rfl, hp, hsg, _, htx⟩ := node_of hun (all_wf hw u (List.mem_of_getElem? hu))
    have hlen : (((t.all.take i).map T.nw).map V.int).length < sizeLine := by
      rw [List.length_map, List.length_map, List.length_take]
      exact sz_line (by omega)
    have hnext : ∀ v, V.int u.nw = v → Same H1 (upd H' D (.lst (((t.all.take i).map T.nw).map V.int ++ [v]))) ∧ upd H' D (.lst (((t.all.take i).map T.nw).map V.int ++ [v])) D = some (.lst (((t.all.take (i + 1)).map T.nw).map V.int)) := by
      rintro v rfl
      refine ⟨same_mut s' hD _, ?_⟩
      rw [upd_same, List.take_succ, hu]
      simp
    refine ⟨rfl, ?_⟩
    refine ⟨_, rfl, p, _, 0, .str y, rfl, rfl, .inl (.inl (s' _ _ (s1 _ _ hp))), atI_nat (j := 0) rfl, rfl, _, rfl, ite2 (fun c => ?_) (fun c => ?_)⟩
    · have ht := htx.mp (str_eq (of_decide_eq_true c))
      cases u with
      | text st r =>
        have hst : st.length ≤ sizeLine := by
          have h1 := all_le _ (List.mem_of_getElem? hu)
          simp only [T.sz] at h1
          exact le_line (by omega)
        obtain ⟨p', _, e, hp', _⟩ := hun
        cases e
        exact ⟨_, rfl, p, _, 1, .str st, rfl, rfl, .inl (.inl (s' _ _ (s1 _ _ hp'))), atI_nat (j := 1) rfl, st, rfl, hst, _, hD', hlen, hnext _ rfl⟩
      | _ => cases ht
    · refine ⟨_, hD', hlen, hnext _ ?_⟩
      cases u with
      | text st r =>
        refine absurd ?_ c
        rw [htx.mpr rfl]
        exact decide_eq_true rfl
      | _ => rfl
  · rintro H' ⟨s', hD'⟩
    rw [hns.length, List.take_length] at hD'
    refine ⟨D, _, rfl, SqL.of hD', ?_⟩
    rw [all_size]
    exact q _ (s1.trans s')
end
end Mw

namespace Mw
open PySem L2
def T.dep : T → Nat
  | .nil => 0
  | .text _ r => r.dep
  | .shw _ r => r.dep
  | .num r => r.dep
  | .cho _ cs o r => max (max cs.dep o.dep + 1) r.dep
  | .cas _ m r => max m.dep r.dep
theorem dep_nodes : ∀ {t : T}, ∀ u ∈ t.nodes, u.dep ≤ t.dep
  | .nil, u, h => by cases h
  | .text s r, u, h => by
    rcases List.mem_cons.mp h with rfl | h
    · exact Nat.zero_le _
    · exact dep_nodes (t := r) u h
  | .shw s r, u, h => by
    rcases List.mem_cons.mp h with rfl | h
    · exact Nat.zero_le _
    · exact dep_nodes (t := r) u h
  | .num r, u, h => by
    rcases List.mem_cons.mp h with rfl | h
    · exact Nat.zero_le _
    · exact dep_nodes (t := r) u h
  | .cho hd cs o r, u, h => by
    rcases List.mem_cons.mp h with rfl | h
    · simp only [T.dep]
      omega
    · have := dep_nodes u h
      simp only [T.dep]
      omega
  | .cas k m r, u, h => by
    rcases List.mem_cons.mp h with rfl | h
    · simp only [T.dep]
      omega
    · have := dep_nodes u h
      simp only [T.dep]
      omega
theorem dep_msgs : ∀ {t : T}, ∀ m ∈ t.msgs, m.dep ≤ t.dep
  | .nil, u, h => by cases h
  | .text s r, u, h => by cases h
  | .shw s r, u, h => by cases h
  | .num r, u, h => by cases h
  | .cho hd cs o r, u, h => by cases h
  | .cas k m r, u, h => by
    rcases List.mem_cons.mp h with rfl | h
    · simp only [T.dep]
      omega
    · have := dep_msgs u h
      simp only [T.dep]
      omega
theorem size_nodes : ∀ t : T, (t.nodes.map T.size).sum = t.size
  | .nil => rfl
  | .text s r => by simp [T.nodes, T.size, size_nodes r]
  | .shw n r => by simp [T.nodes, T.size, size_nodes r]
  | .num r => by simp [T.nodes, T.size, size_nodes r]
  | .cho hd cs o r => by
    simp only [T.nodes, T.size, List.map_cons, List.sum_cons, size_nodes r]
    omega
  | .cas _ m r => by simp [T.nodes, T.size, size_nodes r]
theorem size_msgs : ∀ {t : T}, Wf t true → (t.msgs.map T.size).sum = t.size
  | .nil, _ => rfl
  | .cas _ m r, w => by simp [T.msgs, T.size, size_msgs w.2.2.2]
  | .text _ _, w => by cases w.1
  | .shw _ _, w => by cases w.1
  | .num _, w => by cases w.1
  | .cho _ _ _ _, w => by cases w.1
theorem sum_take' {l : List T} {i : Nat} {u : T} (h : l[i]? = some u) : ((l.take (i + 1)).map T.size).sum = ((l.take i).map T.size).sum + u.size := by
  rw [List.take_succ, h]
  simp
section
variable {P : Program} {w : World} {K : PySem.W.Frag} {mg : Str → Option Value} {base : Heap}
theorem none_left {f : Addr} {fd : FuncData} {ps : List Str} {sp : Sp} (no : ∀ vs H Q E, ¬ sp vs H Q E) : FnOk P w K mg base CX0 0 f fd ps sp :=
  ⟨fun vs H Q E h => absurd h (no vs H Q E), fun A outer s H args us vs Q E _ _ _ _ h => absurd h (no vs H Q E)⟩
/-! ### _law_size -/
abbrev sLs : Stmt := top 20
theorem scLs : FnScope ["message", "size", "node", "key", "inner"] ["message"] (defScope sLs) := ⟨rfl, rfl, rfl, by decide +kernel, rfl, by decide +kernel, by decide +kernel⟩
def spLs (n : Nat) : Sp := fun vs H Q _ => ∃ (a : Addr) (t : T), vs = [.ref a] ∧ At H a t ∧ Wf t false ∧ t.dep < n ∧ t.sz < 80000 ∧ ∀ H', Same H H' → Q (.int t.size) H'
theorem sz_nodes : ∀ {t : T}, ∀ u ∈ t.nodes, u.sz ≤ t.sz
  | .nil, u, h => by cases h
  | .text s r, u, h => by
    rcases List.mem_cons.mp h with rfl | h
    · simp only [T.sz]
      omega
    · have := sz_nodes u h
      simp only [T.sz]
      omega
  | .shw s r, u, h => by
    rcases List.mem_cons.mp h with rfl | h
    · simp only [T.sz]
      omega
    · have := sz_nodes u h
      simp only [T.sz]
      omega
  | .num r, u, h => by
    rcases List.mem_cons.mp h with rfl | h
    · simp only [T.sz]
      omega
    · have := sz_nodes u h
      simp only [T.sz]
      omega
  | .cho hd cs o r, u, h => by
    rcases List.mem_cons.mp h with rfl | h
    · simp only [T.sz]
      omega
    · have := sz_nodes u h
      simp only [T.sz]
      omega
  | .cas k m r, u, h => by
    rcases List.mem_cons.mp h with rfl | h
    · simp only [T.sz]
      omega
    · have := sz_nodes u h
      simp only [T.sz]
      omega
theorem sz_msgs : ∀ {t : T}, ∀ m ∈ t.msgs, m.sz ≤ t.sz
  | .nil, u, h => by cases h
  | .text s r, u, h => by cases h
  | .shw s r, u, h => by cases h
  | .num r, u, h => by cases h
  | .cho hd cs o r, u, h => by cases h
  | .cas k m r, u, h => by
    rcases List.mem_cons.mp h with rfl | h
    · simp only [T.sz]
      omega
    · have := sz_msgs u h
      simp only [T.sz]
      omega
theorem ok_ls_turn {n : Nat} {f : Addr} {fd : FuncData} (F : Fun K "_law_size" "_law_size" sLs f fd) (G : FnOk P w K mg base CX0 n f fd ["message"] (spLs n)) (b : Binds K fd ["message"] []) (m : mg "_law_size" = some (.ref f)) (ml : mg "len" = none) :
    FnOk P w K mg base CX0 (n + 1) f fd ["message"] (spLs (n + 1)) := by
  refine F.ok scLs (fun vs H Q E h => ?_) (fun cdv A outer s H vs Q E hr h => ?_)
  · obtain ⟨a, t, rfl, _⟩ := h
    rfl
  obtain ⟨a, t, rfl, ⟨vs, ha, hn⟩, hw, hd, hz, q⟩ := h
  have nd := scLs.nd
  have k := F.kp
  refine ⟨_, pss_cons (ps_set (i := 1) nd rfl (.inl rfl) pe_int)
    (pss_cons (ps_for PassesOwn.never rfl (pi_list (pv 0)) (pg_name (i := 2) nd rfl (.inl rfl))
      (Evl.pss_cut (ps_if (pt_cmpR op_eq (pe_ix ix_tup (pv 2) pe_int (fun _ _ => rfl)) pe_str (nomark _))
          (pss_one (ps_set (i := 1) nd rfl (.inl rfl) (pe_op op_add (pv 1) (pe_callB call_len_str (by rfl) ml PySem.boot_len (pa_cons (pe_ix ix_tup (pv 2) pe_int (fun _ _ => rfl)) pa_nil)))))
          (pss_one (ps_set (i := 1) nd rfl (.inl rfl) (pe_op op_add (pv 1) pe_int))))
      (pss_one (ps_if (pt_cmpR op_in_seq (pe_ix ix_tup (pv 2) pe_int (fun _ _ => rfl)) (pe_tup (pa_cons pe_str (pa_cons pe_str pa_nil))) (by rfl))
        (pss_cons (ps_for PassesOwn.never rfl (pi_list (pe_ix ix_tup (pv 2) (pe_un un_neg pe_int) (fun _ _ => rfl))) (pg_tup rfl (pgs_cons (pg_name (i := 3) nd rfl (.inl rfl)) (pgs_cons (pg_name (i := 4) nd rfl (.inl rfl)) pgs_nil)))
          (pss_one (ps_set (i := 1) nd rfl (.inl rfl) (pe_op op_add (pv 1) (pe_call G hr rfl m k b .nil pass0 (pa_cons (pv 4) pa_nil))))))
        (pss_one (ps_set (i := 1) nd rfl (.inl rfl) (pe_op op_add (pv 1) (pe_call G hr rfl m k b .nil pass0 (pa_cons (pe_ix ix_tup (pv 2) (pe_un un_neg pe_int) (fun _ _ => rfl)) pa_nil))))))
        pss_nil))))
    (pss_one (ps_ret (pv 1)))), ?_⟩
  have hns := hn.ns
  refine ⟨_, rfl, a, rfl, ⟨_, SqL.of ha⟩, for_list (K := K) (a := a) (xs := vs) (fun i σ H' => ∃ o2 o3 o4, σ = [some (.ref a), some (.int (((t.nodes.take i).map T.size).sum)), o2, o3, o4] ∧ Same H H') ⟨none, none, none, rfl, Same.refl _⟩ (fun i σ H' _ ⟨_, _, _, _, s'⟩ => SqL.of (s' _ _ ha)) ?_ ?_⟩
  · rintro i x σ H' hx ⟨o2, o3, o4, rfl, s'⟩
    obtain ⟨u, hu, hun⟩ := hns.get hx
    have um : u ∈ t.nodes := List.mem_of_getElem? hu
    have uw : Wf u false := nodes_wf hw u um
    obtain ⟨p, y, ys, rfl, hp, hsg, hch, htx⟩ := node_of hun uw
    have hud := dep_nodes u um
    have husz := sz_nodes u um
    generalize hS : ((t.nodes.take i).map T.size).sum = S
    have hnext : ((t.nodes.take (i + 1)).map T.size).sum = S + u.size := by rw [← hS]; exact sum_take' hu
    refine ⟨fun σ' H2 => ∃ o3 o4, σ' = [some (.ref a), some (.int (S + u.nw)), some (.ref p), o3, o4] ∧ H2 = H', ?_, ?_⟩
    · refine ⟨_, rfl, p, _, 0, .str y, rfl, rfl, .inl (.inl (s' _ _ hp)), atI_nat (j := 0) rfl, rfl, _, rfl, ite2 (fun c => ?_) (fun c => ?_)⟩
      · have ht := htx.mp (str_eq (of_decide_eq_true c))
        cases u with
        | text st r =>
          obtain ⟨p', _, e, hp', _⟩ := hun
          cases e
          exact ⟨_, rfl, _, rfl, p, _, 1, .str st, rfl, rfl, .inl (.inl (s' _ _ hp')), atI_nat (j := 1) rfl, st, rfl, le_line (by simp only [T.sz] at husz; omega), _, _, rfl, rfl, _, _, rfl, rfl⟩
        | _ => cases ht
      · refine ⟨_, rfl, _, _, rfl, rfl, o3, o4, ?_, rfl⟩
        cases u with
        | text st r =>
          refine absurd ?_ c
          rw [htx.mpr rfl]
          exact decide_eq_true rfl
        | _ => rfl
    · rintro σ' H2 ⟨o3, o4, rfl, rfl⟩
      refine ⟨_, rfl, p, _, 0, .str y, rfl, rfl, .inl (.inl (s' _ _ hp)), atI_nat (j := 0) rfl, by show 2 ≤ sizeLine; decide, fun tp htp => ⟨tp, _, rfl, .inr (.inl (.inl upd_same)), rfl, rfl, _, rfl, ?_⟩⟩
      have e : inV (V.str y) [.str "select", .str "plural"] = u.isCho := by
        rw [in_two]
        cases hu : u.isCho with
        | true => exact decide_eq_true (hch.mpr hu)
        | false => exact decide_eq_false fun z => by rw [hch.mp z] at hu; cases hu
      have s2 : Same H (upd H2 tp (.tup [.str "select", .str "plural"])) := s'.trans (same_new htp _)
      show if inV (V.str y) [.str "select", .str "plural"] = true then _ else _
      rw [e]
      cases hc : u.isCho with
      | false =>
        refine iteF ⟨some (.ref p), o3, o4, ?_, s2⟩
        rw [hnext]
        cases u with
        | cho hd cs o r => cases hc
        | nil => cases hsg
        | text s r => cases (show r = .nil from hsg); rw [show (T.text s .nil).size = (T.text s .nil).nw by simp [T.size, T.nw]]
        | shw s r => cases (show r = .nil from hsg); rfl
        | num r => cases (show r = .nil from hsg); rfl
        | cas k m r => cases uw.1
      | true =>
        refine iteT ?_
        cases u with
        | cho hd' cs o r =>
          cases (show r = .nil from hsg)
          obtain ⟨p', ws, ca, cvs, oa, ovs, e, hp, hc, hcs, ho, hos, hr'⟩ := hun
          cases e
          obtain ⟨ms, m1, m2, m3⟩ := Nodes.msgs hcs uw.2.2.1
          have hd1 : cs.dep < n ∧ o.dep < n := by
            simp only [T.dep] at hud
            omega
          simp only [T.sz] at husz
          refine ⟨_, rfl, 2, rfl, p, _, -2, .ref ca, rfl, rfl, .inl (.inl (s2 _ _ hp)), atI_m2 _ _ _, ca, rfl, ⟨_, SqL.of (s2 _ _ hc)⟩, for_list (K := K) (a := ca) (xs := cvs) (fun j σ' H3 => ∃ o3 o4, σ' = [some (.ref a), some (.int (S + 1 + ((cs.msgs.take j).map T.size).sum)), some (.ref p), o3, o4] ∧ Same H H3)
            ⟨o3, o4, by rw [List.take_zero]; show _ = [some (V.ref a), some (V.int (S + 1 + 0)), _, _, _]; rw [Int.add_zero]; rfl, s2⟩ (fun j σ' H3 _ ⟨_, _, _, s3⟩ => SqL.of (s3 _ _ hc)) ?_ ?_⟩
          · rintro j x σ' H3 hx3 ⟨o3, o4, rfl, s3⟩
            obtain ⟨q1, k1, a1, rfl, hq1, hm1⟩ := m3 j x hx3
            obtain ⟨mt, ma, hmt, e, hma⟩ := m1.get hm1
            cases e
            have mm : mt ∈ cs.msgs := List.mem_of_getElem? hmt
            have md := dep_msgs mt mm
            have mz := sz_msgs mt mm
            refine ⟨q1, _, rfl, .inl (.inl (s3 _ _ hq1)), rfl, k1, _, rfl, .ref a1, [], rfl, rfl, ?_⟩
            refine ⟨_, rfl, _, rfl, a1, mt, rfl, hma.same s3, wf_msgs uw.2.2.1 mt mm, by omega, by omega, fun H4 s4 => ?_⟩
            refine ⟨_, _, rfl, rfl, some k1, some (.ref a1), ?_, s3.trans s4⟩
            rw [sum_take' hmt]
            have e3 : S + 1 + ((cs.msgs.take j).map T.size).sum + mt.size = S + 1 + (((cs.msgs.take j).map T.size).sum + mt.size) := by omega
            rw [← e3]
            rfl
          · rintro σ' H3 ⟨o3, o4, rfl, s3⟩
            refine ⟨_, rfl, _, rfl, 1, rfl, p, _, -1, .ref oa, rfl, rfl, .inl (.inl (s3 _ _ hp)), atI_m1 _ _ _, oa, o, rfl, At.same s3 ⟨ovs, ho, hos⟩, uw.2.2.2.1, by omega, by omega, fun H4 s4 => ?_⟩
            refine ⟨_, _, rfl, rfl, some (.ref p), o3, o4, ?_, s3.trans s4⟩
            rw [hnext, m2, m1.length, List.take_length, size_msgs uw.2.2.1]
            have e3 : S + 1 + cs.size + o.size = S + (1 + cs.size + o.size + 0) := by omega
            show _ = [some (V.ref a), some (V.int (S + (1 + cs.size + o.size + 0))), _, _, _]
            rw [← e3]
            rfl
        | _ => cases hc
  · rintro σ H' ⟨o2, o3, o4, rfl, s'⟩
    refine ⟨_, rfl, ?_⟩
    rw [hns.length, List.take_length, size_nodes]
    exact q H' s'
theorem ok_ls {f : Addr} {fd : FuncData} (F : Fun K "_law_size" "_law_size" sLs f fd) (b : Binds K fd ["message"] []) (m : mg "_law_size" = some (.ref f)) (ml : mg "len" = none) : ∀ n, FnOk P w K mg base CX0 n f fd ["message"] (spLs n)
  | 0 => none_left fun vs H Q E ⟨_, _, _, _, _, h, _⟩ => Nat.not_lt_zero _ h
  | n + 1 => ok_ls_turn F (ok_ls F b m ml n) b m ml
end
end Mw

namespace Mw
open PySem L2
/-! ### the whole plain form -/
def pl (a : Str) : T → T
  | .nil => txt a .nil
  | .text s r => pl (a ++ s) r
  | .shw n r => txt a (.shw n (pl ("" : Str) r))
  | .num r => txt a (.num (pl ("" : Str) r))
  | .cho hd cs o r => txt a (.cho hd (pl ("" : Str) cs) (pl ("" : Str) o) (pl ("" : Str) r))
  | .cas k m r => txt a (.cas k (pl ("" : Str) m) (pl ("" : Str) r))
theorem pl_left : ∀ (y : T) {u v : T}, (∀ a, pl a u = pl a v) → ∀ a, pl a (y.app u) = pl a (y.app v)
  | .nil, _, _, h, a => h a
  | .text s r, _, _, h, a => pl_left r h (a ++ s)
  | .shw n r, _, _, h, a => congrArg (fun z => txt a (.shw n z)) (pl_left r h _)
  | .num r, _, _, h, a => congrArg (fun z => txt a (.num z)) (pl_left r h _)
  | .cho hd cs o r, _, _, h, a => congrArg (fun z => txt a (.cho hd (pl _ cs) (pl _ o) z)) (pl_left r h _)
  | .cas k m r, _, _, h, a => congrArg (fun z => txt a (.cas k (pl _ m) z)) (pl_left r h _)
/-- two chains that come to the same, whatever stands around them -/
def Eqv (x y : T) : Prop := ∀ (r : T) (a : Str), pl a (x.app r) = pl a (y.app r)
theorem Eqv.refl (x : T) : Eqv x x := fun _ _ => rfl
theorem Eqv.app {x y x' y' : T} (h : Eqv x y) (h' : Eqv x' y') : Eqv (x.app x') (y.app y') := fun r a => by
  rw [app_assoc, app_assoc, h]
  exact pl_left y (h' r) a
theorem Eqv.pl {x y : T} (h : Eqv x y) (a : Str) : Mw.pl a x = Mw.pl a y := by
  have := h .nil a
  rw [app_nil, app_nil] at this
  exact this
theorem str_nil (a : Str) : a ++ ("" : Str) = a := by
  refine TL.ext_tl ?_
  rw [TL.tl_append]
  exact List.append_nil _
theorem nil_str (a : Str) : ("" : Str) ++ a = a := by
  refine TL.ext_tl ?_
  rw [TL.tl_append]
  exact List.nil_append _
theorem str_assoc (a b c : Str) : a ++ b ++ c = a ++ (b ++ c) := by
  refine TL.ext_tl ?_
  rw [TL.tl_append, TL.tl_append, TL.tl_append, TL.tl_append]
  exact List.append_assoc _ _ _
theorem Eqv.empty : Eqv (.text ("" : Str) .nil) .nil := fun r a => by
  show Mw.pl (a ++ ("" : Str)) r = Mw.pl a r
  rw [str_nil]
theorem Eqv.two {s1 s2 s : Str} (h : s1 ++ s2 = s) : Eqv (.text s1 (.text s2 .nil)) (.text s .nil) := fun r a => by
  show Mw.pl (a ++ s1 ++ s2) r = Mw.pl (a ++ s) r
  rw [str_assoc, h]
theorem Eqv.cho {hd : List V} {cs cs' o o' : T} (h1 : Mw.pl ("" : Str) cs = Mw.pl ("" : Str) cs') (h2 : Mw.pl ("" : Str) o = Mw.pl ("" : Str) o') : Eqv (.cho hd cs o .nil) (.cho hd cs' o' .nil) := fun r a => by
  show txt a (.cho hd (Mw.pl _ cs) (Mw.pl _ o) _) = txt a (.cho hd (Mw.pl _ cs') (Mw.pl _ o') _)
  rw [h1, h2]
theorem Eqv.cas {k : V} {m m' : T} (h1 : Mw.pl ("" : Str) m = Mw.pl ("" : Str) m') : Eqv (.cas k m .nil) (.cas k m' .nil) := fun r a => by
  show txt a (.cas k (Mw.pl _ m) _) = txt a (.cas k (Mw.pl _ m') _)
  rw [h1]
theorem Wf.app {u : T} {c : Bool} (hu : Wf u c) : ∀ {t : T}, Wf t c → Wf (t.app u) c
  | .nil, _ => hu
  | .text _ r, h => ⟨h.1, Wf.app hu h.2⟩
  | .shw _ r, h => ⟨h.1, Wf.app hu h.2⟩
  | .num r, h => ⟨h.1, Wf.app hu h.2⟩
  | .cho _ _ _ r, h => ⟨h.1, h.2.1, h.2.2.1, h.2.2.2.1, Wf.app hu h.2.2.2.2⟩
  | .cas _ _ r, h => ⟨h.1, h.2.1, h.2.2.1, Wf.app hu h.2.2.2⟩
theorem dep_app (u : T) : ∀ t : T, (t.app u).dep = max t.dep u.dep
  | .nil => by simp [T.app, T.dep]
  | .text _ r => dep_app u r
  | .shw _ r => dep_app u r
  | .num r => dep_app u r
  | .cho _ cs o r => by
    simp only [T.app, T.dep, dep_app u r]
    omega
  | .cas _ m r => by
    simp only [T.app, T.dep, dep_app u r]
    omega
theorem ch_take {us : List T} {i : Nat} {u : T} (h : us[i]? = some u) : ch (us.take (i + 1)) = (ch (us.take i)).app u := by
  rw [List.take_succ, h]
  generalize us.take i = l
  show ch (l ++ [u]) = _
  induction l with
  | nil => exact app_nil u
  | cons x l ih =>
    show x.app (ch (l ++ [u])) = (x.app (ch l)).app u
    rw [ih, app_assoc]
/-! ### the heap of a cut: what it was given, and what is new -/
def cb (H0 H H1 : Hp) : Hp := fun a => match H a with
  | some _ => H0 a
  | none => H1 a
theorem cb_in {H0 H H1 : Hp} {a : Addr} {o : HO} (h : cb H0 H H1 a = some o) : ((∃ u, H a = some u) ∧ H0 a = some o) ∨ (H a = none ∧ H1 a = some o) := by
  unfold cb at h
  split at h
  · rename_i u e
    exact .inl ⟨⟨u, e⟩, h⟩
  · rename_i e
    exact .inr ⟨e, h⟩
theorem cb_new {H0 H H1 : Hp} {a : Addr} (h : H a = none) : cb H0 H H1 a = H1 a := by
  unfold cb
  rw [h]
theorem cb_old {H0 H H1 : Hp} {a : Addr} {u : HO} (h : H a = some u) : cb H0 H H1 a = H0 a := by
  unfold cb
  rw [h]
theorem cb_base {H0 H H1 : Hp} (s : Same H0 H) : Same H0 (cb H0 H H1) := fun a o h => by
  rw [cb_old (s _ _ h)]
  exact h
theorem cb_go {B : Addr} {H0 H H1 H2 : Hp} {ob : HO} (hb : H B = some ob) (g : Go B H1 H2) : Same (cb H0 H H1) (cb H0 H H2) := fun a o h => by
  rcases cb_in h with ⟨⟨u, e⟩, h0⟩ | ⟨e, h1⟩
  · rw [cb_old e]
    exact h0
  · rw [cb_new e]
    exact g.ext a o (by rintro rfl; rw [hb] at e; cases e) h1
theorem cb_up {H0 H H1 H2 : Hp} (g : ∀ b, H1 b = none → H b = none) (s : Same H0 H) (s' : Same H0 H1) : Same (cb H0 H1 H2) (cb H0 H H2) := fun a o h => by
  rcases cb_in h with ⟨⟨u, e⟩, h0⟩ | ⟨e, h1⟩
  · rw [cb_old (s _ _ h0)]
    exact h0
  · rw [cb_new (g a e)]
    exact h1
theorem cb_out {B : Addr} {H0 H H1 : Hp} (s : Same H0 H) (hB : H0 B = none) (g : Go B H H1) : Same (cb H0 H H1) H1 := fun a o h => by
  rcases cb_in h with ⟨⟨u, e⟩, h0⟩ | ⟨e, h1⟩
  · exact g.ext a o (by rintro rfl; rw [hB] at h0; cases h0) (s _ _ h0)
  · exact h1
/-- without one address -/
def hid (l : Addr) (H : Hp) : Hp := fun a => if a = l then none else H a
theorem hid_ne {l a : Addr} {H : Hp} (h : a ≠ l) : hid l H a = H a := by
  unfold hid
  rw [if_neg h]
theorem hid_in {l a : Addr} {H : Hp} {o : HO} (h : hid l H a = some o) : a ≠ l ∧ H a = some o := by
  unfold hid at h
  split at h
  · cases h
  · exact ⟨by assumption, h⟩
theorem hid_out {l : Addr} {H : Hp} : Same (hid l H) H := fun a o h => (hid_in h).2
theorem hid_same {l : Addr} {H H1 : Hp} (s : Same H H1) : Same (hid l H) (hid l H1) := fun a o h => by
  obtain ⟨h1, h2⟩ := hid_in h
  rw [hid_ne h1]
  exact s _ _ h2
theorem hid_free {l : Addr} {H : Hp} (h : H l = none) : Same H (hid l H) := fun a o e => by
  rw [hid_ne (ne_of_none e h)]
  exact e
/-- a change at the hidden address -/
theorem cb_mut {H0 H H1 : Hp} {l : Addr} (o : HO) : Same (hid l (cb H0 H H1)) (hid l (cb H0 H (upd H1 l o))) := fun a u h => by
  obtain ⟨h1, h2⟩ := hid_in h
  rw [hid_ne h1]
  rcases cb_in h2 with ⟨⟨u', e⟩, h0⟩ | ⟨e, h3⟩
  · rw [cb_old e]
    exact h0
  · rw [cb_new e, upd_ne h1]
    exact h3
end Mw

namespace Mw
open PySem L2
theorem cut_two (z : Str) {i : Int} (h0 : 0 ≤ i) (h : i ≤ (z.length : Int)) : cutS z none (some i) ++ cutS z (some i) none = z := by
  have e : i = ((i.toNat : Nat) : Int) := by omega
  refine TL.ext_tl ?_
  rw [TL.tl_append]
  show ((z.cps.toList.drop (HT.sIx z.length 0 none)).take (HT.sIx z.length z.length (some i) - HT.sIx z.length 0 none)) ++ ((z.cps.toList.drop (HT.sIx z.length 0 (some i))).take (HT.sIx z.length z.length none - HT.sIx z.length 0 (some i))) = z.cps.toList
  rw [HT.sIx_none, HT.sIx_none, e, HT.sIx_nat, HT.sIx_nat, Nat.min_eq_left (by omega), List.drop_zero, Nat.sub_zero]
  have hl : z.cps.toList.length = z.length := (TL.len_tl z).symm
  rw [List.take_of_length_le (l := z.cps.toList.drop i.toNat) (by rw [List.length_drop, hl]; exact Nat.le_refl _)]
  exact List.take_append_drop _ _
theorem cut_hd (xs : List V) (a b : V) : cutV (xs ++ [a, b]) none (some (-2)) = xs := by
  unfold cutV
  rw [HT.sIx_none, List.drop_zero, Nat.sub_zero]
  have e : HT.sIx (xs ++ [a, b]).length (xs ++ [a, b]).length (some (-2)) = xs.length := by
    show (if (-2 : Int) < 0 then ((-2 : Int) + ((xs ++ [a, b]).length : Int)).toNat else min (-2 : Int).toNat (xs ++ [a, b]).length) = xs.length
    rw [if_pos (by decide), List.length_append]
    show ((-2 : Int) + ((xs.length + 2 : Nat) : Int)).toNat = xs.length
    omega
  rw [e]
  simp
theorem cut_ne (xs : List V) (a b : V) : ¬ (HT.sIx (xs ++ [a, b]).length 0 none = 0 ∧ HT.sIx (xs ++ [a, b]).length (xs ++ [a, b]).length (some (-2)) = (xs ++ [a, b]).length) := by
  rintro ⟨_, h⟩
  have e : HT.sIx (xs ++ [a, b]).length (xs ++ [a, b]).length (some (-2)) = xs.length := by
    show (if (-2 : Int) < 0 then ((-2 : Int) + ((xs ++ [a, b]).length : Int)).toNat else min (-2 : Int).toNat (xs ++ [a, b]).length) = xs.length
    rw [if_pos (by decide), List.length_append]
    show ((-2 : Int) + ((xs.length + 2 : Nat) : Int)).toNat = xs.length
    omega
  rw [e, List.length_append] at h
  simp at h
theorem hdW_ne {hd : List V} (h : HdW hd) : hd ≠ [] ∧ hd.length ≤ 3 := by
  rcases h with ⟨n, rfl⟩ | ⟨n, off, rfl⟩
  · exact ⟨by simp, by simp⟩
  · exact ⟨by simp, by simp⟩
/-- the old chain under a new list, found anew -/
theorem tr_new {B fl r : Addr} {H0 H H1 H2 : Hp} {ob : HO} (hb : H B = some ob) (h0 : Same H0 H) (g : Go B H1 H2) (hr : H2 r = none) (hr0 : H r = none) (o : HO) : Same (hid fl (cb H0 H H1)) (hid r (cb H0 H (upd H2 r o))) := fun a u h => by
  obtain ⟨h1, h2⟩ := hid_in h
  rcases cb_in h2 with ⟨⟨u', e⟩, h3⟩ | ⟨e, h3⟩
  · rw [hid_ne (ne_of_none e hr0), cb_old e]
    exact h3
  · have h4 := g.ext a u (by rintro rfl; rw [hb] at e; cases e) h3
    rw [hid_ne (ne_of_none h4 hr), cb_new e, upd_ne (ne_of_none h4 hr)]
    exact h4
/-- what a call has made, out of the way of l -/
theorem tr_call {l : Addr} {H0 H H1 H2 H3 : Hp} {ol : HO} (h0 : Same H0 H) (dm : ∀ b, H1 b = none → H b = none) (s : Same H2 H3) (hl1 : H1 l = some ol) (hl : H l = none) : Same (cb H0 H1 H2) (hid l (cb H0 H H3)) := fun a u h => by
  rcases cb_in h with ⟨⟨u', e⟩, h3⟩ | ⟨e, h3⟩
  · rw [hid_ne (ne_of_none (h0 _ _ h3) hl), cb_old (h0 _ _ h3)]
    exact h3
  · rw [hid_ne (by rintro rfl; rw [hl1] at e; cases e), cb_new (dm a e)]
    exact s _ _ h3
theorem tr_base {l : Addr} {H0 H H1 : Hp} (h0 : Same H0 H) (hl : H l = none) : Same H0 (hid l (cb H0 H H1)) := fun a u h => by
  rw [hid_ne (ne_of_none (h0 _ _ h) hl), cb_old (h0 _ _ h)]
  exact h
theorem hid_hid {l m : Addr} {G H : Hp} (h1 : Same G (hid l H)) (h2 : Same G (hid m H)) : Same G (hid l (hid m H)) := fun a u h => by
  rw [hid_ne (hid_in (h1 _ _ h)).1]
  exact h2 _ _ h
theorem cb_mut2 {l m : Addr} {H0 H H1 : Hp} (o : HO) : Same (hid l (hid m (cb H0 H H1))) (hid l (hid m (cb H0 H (upd H1 l o)))) := fun a u h => by
  obtain ⟨h1, h2⟩ := hid_in h
  obtain ⟨h3, h4⟩ := hid_in h2
  rw [hid_ne h1, hid_ne h3]
  rcases cb_in h4 with ⟨⟨u', e⟩, h0⟩ | ⟨e, h5⟩
  · rw [cb_old e]
    exact h0
  · rw [cb_new e, upd_ne h1]
    exact h5
section
variable {P : Program} {w : World} {K : PySem.W.Frag} {mg : Str → Option Value} {base : Heap}
/-! ### _law_cut -/
abbrev sCut : Stmt := top 19
theorem scCut : FnScope ["box", "message", "found", "node", "at", "cases", "key", "inner"] ["box", "message"] (defScope sCut) := ⟨rfl, rfl, rfl, by decide +kernel, rfl, by decide +kernel, by decide +kernel⟩
def spCut (n : Nat) : Sp := fun vs H Q _ => ∃ (B d a : Addr) (H0 : Hp) (t : T), vs = [.ref B, .ref a] ∧ Box H B d ∧ Same H0 H ∧ H0 B = none ∧ At H0 a t ∧ Wf t false ∧ t.dep < n ∧ t.sz < 30000 ∧
  ∀ r H' c, Go B H H' → Box H' B d → H r = none → At (cb H0 H H') r c → Wf c false → pl ("" : Str) c = pl ("" : Str) t → c.dep ≤ t.dep → c.sz ≤ 3 * t.sz → Q (.ref r) H'
/-- between two turns -/
def CutInv (B d a : Addr) (H0 H : Hp) (t : T) (i : Nat) (σ : L2.St) (H' : Hp) : Prop :=
  ∃ (fl : Addr) (o3 o4 o5 o6 o7 : Option V) (vs : List V) (c : T), σ = [some (.ref B), some (.ref a), some (.ref fl), o3, o4, o5, o6, o7] ∧ Go B H H' ∧ Box H' B d ∧ H fl = none ∧ H' fl = some (.lst vs) ∧ Nodes (hid fl (cb H0 H H')) c vs ∧
    Wf c false ∧ Eqv c (ch (t.nodes.take i)) ∧ c.dep ≤ t.dep ∧ c.sz ≤ 3 * (ch (t.nodes.take i)).sz
def CutMid (B d a : Addr) (H0 H : Hp) (t : T) (i : Nat) (x : V) (σ : L2.St) (H' : Hp) : Prop :=
  ∃ (fl : Addr) (o4 o5 o6 o7 : Option V) (vs : List V) (c : T), σ = [some (.ref B), some (.ref a), some (.ref fl), some x, o4, o5, o6, o7] ∧ Go B H H' ∧ Box H' B d ∧ H fl = none ∧ H' fl = some (.lst vs) ∧ Nodes (hid fl (cb H0 H H')) c vs ∧
    Wf c false ∧ Eqv c (ch (t.nodes.take (i + 1))) ∧ c.dep ≤ t.dep ∧ c.sz + 1 ≤ 3 * (ch (t.nodes.take (i + 1))).sz
theorem ch_sz : ∀ us : List T, (ch us).sz = szs us
  | [] => rfl
  | u :: us => by
    rw [show ch (u :: us) = u.app (ch us) from rfl, T.app_sz, ch_sz us]
    rfl
theorem ch_take_sz (t : T) (i : Nat) : (ch (t.nodes.take i)).sz ≤ t.sz := by
  rw [ch_sz]
  have := szs_take t.nodes i
  rw [szs_nodes] at this
  exact this
theorem ok_cut_turn {lv n : Nat} {f fD : Addr} {fd fdD : FuncData} (hk : 1 ≤ lv) (F : Fun K "_law_cut" "_law_cut" sCut f fd) (G : FnOk P w K mg base CX0 lv f fd ["box", "message"] (spCut n)) (b : Binds K fd ["box", "message"] []) (m : mg "_law_cut" = some (.ref f))
    (GD : FnOk P w K mg base CX0 1 fD fdD ["box", "many"] spDraw) (bD : Binds K fdD ["box", "many"] []) (kD : PySem.W.keepIn K (.ref fD) = true) (mD : mg "_law_draw" = some (.ref fD)) (ml : mg "len" = none) :
    FnOk P w K mg base CX0 (lv + 1) f fd ["box", "message"] (spCut (n + 1)) := by
  refine F.ok scCut (fun vs H Q E h => ?_) (fun cdv A outer s H vs Q E hr h => ?_)
  · obtain ⟨B, d, a, H0, t, rfl, _⟩ := h
    rfl
  obtain ⟨B, d, a, H0, t, rfl, hb, h0, hB0, ⟨vs, ha, hn⟩, hw, hdp, hz, q⟩ := h
  have nd := scCut.nd
  have k := F.kp
  have hr1 : Room 1 _ := hr.mono hk
  refine ⟨_, pss_cons (ps_set (i := 2) nd rfl (.inl rfl) (pe_lst pa_nil))
    (pss_cons (ps_for PassesOwn.never rfl (pi_list (pv 1)) (pg_name (i := 3) nd rfl (.inl rfl))
      (Evl.pss_cut (ps_if (pt_cmpR op_eq (pe_ix ix_tup (pv 3) pe_int (fun _ _ => rfl)) pe_str (nomark _))
          (pss_cons (ps_set (i := 4) nd rfl (.inl rfl) (pe_call GD hr1 rfl mD kD bD .nil pass0 (pa_cons (pv 0) (pa_cons (pe_op op_add (pe_callB call_len_str (by rfl) ml PySem.boot_len (pa_cons (pe_ix ix_tup (pv 3) pe_int (fun _ _ => rfl)) pa_nil)) pe_int) pa_nil))))
          (pss_one (ps_set (i := 2) nd rfl (.inl rfl) (pe_op op_cat (pv 2) (pe_lst (pa_cons
            (pe_tup (pa_cons pe_str (pa_cons (pe_slice sl_str (pe_ix ix_tup (pv 3) pe_int (fun _ _ => rfl)) po_none (po_some (pv 4))) pa_nil))) (pa_cons
            (pe_tup (pa_cons pe_str (pa_cons (pe_slice sl_str (pe_ix ix_tup (pv 3) pe_int (fun _ _ => rfl)) (po_some (pv 4)) po_none) pa_nil))) pa_nil)))))))
          (pss_one (ps_if (pt_cmpR op_in_seq (pe_ix ix_tup (pv 3) pe_int (fun _ _ => rfl)) (pe_tup (pa_cons pe_str (pa_cons pe_str pa_nil))) (by rfl))
            (pss_cons (ps_setLc (i := 5) (own := [("key", 6), ("inner", 7)]) (g := gTup K 2 (gCons (gName 6) (gCons (gName 7) gNil))) (tt := tYes) rfl nd rfl rfl (sw_true rfl rfl rfl (by decide +kernel)) (pi_list (pe_ix ix_tup (pv 3) (pe_un un_neg pe_int) (fun _ _ => rfl)))
              (blkOk_by (N := ["box", "message", "found", "node", "at", "cases", "key", "inner"]) (sc := defScope sCut) (by decide +kernel))
              (fun _ _ _ _ _ => pg_tup rfl (pgs_cons (pg_name (i := 6) nd rfl (.inl rfl)) (pgs_cons (pg_name (i := 7) nd rfl (.inl rfl)) pgs_nil))) (fun _ _ _ _ _ => pts_nil)
              (fun _ _ _ _ _ => pe_tup (pa_cons (pv 6) (pa_cons (pe_call G hr rfl m k b .nil pass0 (pa_cons (pv 0) (pa_cons (pv 7) pa_nil))) pa_nil))))
            (pss_one (ps_expr (pe_bm PySem.F.plainAttrs_list PySem.F.slot_list_append PySem.F.type_list_append mt_append (pv 2) (pa_cons (pe_op op_catT (pe_slice sl_tup (pv 3) po_none (po_some (pe_un un_neg pe_int)))
              (pe_tup (pa_cons (pv 5) (pa_cons (pe_call G hr rfl m k b .nil pass0 (pa_cons (pv 0) (pa_cons (pe_ix ix_tup (pv 3) (pe_un un_neg pe_int) (fun _ _ => rfl)) pa_nil))) pa_nil)))) pa_nil)))))
            (pss_one (ps_expr (pe_bm PySem.F.plainAttrs_list PySem.F.slot_list_append PySem.F.type_list_append mt_append (pv 2) (pa_cons (pv 3) pa_nil)))))))
      (pss_one (ps_if (pt_cmpR op_eq (pe_call GD hr1 rfl mD kD bD .nil pass0 (pa_cons (pv 0) (pa_cons pe_int pa_nil))) pe_int (nomark _))
        (pss_one (ps_expr (pe_bm PySem.F.plainAttrs_list PySem.F.slot_list_append PySem.F.type_list_append mt_append (pv 2) (pa_cons (pe_tup (pa_cons pe_str (pa_cons pe_str pa_nil))) pa_nil)))) pss_nil))))
    (pss_one (ps_ret (pv 2)))), ?_⟩
  refine ⟨Nat.zero_le _, fun fl hfl => ?_⟩
  obtain ⟨oB, hB⟩ := hb.isB
  have hns := hn.ns
  have old0 : ∀ {H' : Hp}, Go B H H' → Same H0 H' := fun {H'} g b o e => g.ext b o (by rintro rfl; rw [hB0] at e; cases e) (h0 _ _ e)
  refine ⟨_, rfl, a, rfl, ⟨_, SqL.of (old0 (Go.new hfl _) _ _ ha)⟩, for_list (K := K) (a := a) (xs := vs) (CutInv B d a H0 H t)
    ⟨fl, none, none, none, none, none, [], .nil, rfl, Go.new hfl _, hb.new hfl _, hfl, upd_same, rfl, trivial, Eqv.refl _, Nat.zero_le _, Nat.zero_le _⟩
    (fun i σ H' _ ⟨_, _, _, _, _, _, _, _, _, g, _⟩ => SqL.of (old0 g _ _ ha)) ?_ ?_⟩
  rotate_left
  · rintro σ H' ⟨fl, o3, o4, o5, o6, o7, ws, c, rfl, g, hb', hfl, hfl', hn', hwc, he, hdc, hsc⟩
    refine ⟨_, rfl, q fl H' c g hb' hfl ⟨ws, ?_, Nodes.same hid_out hn'⟩ hwc ?_ hdc (Nat.le_trans hsc (Nat.mul_le_mul_left _ (ch_take_sz t _)))⟩
    · rw [cb_new hfl]
      exact hfl'
    · rw [hns.length, List.take_length, ch_nodes] at he
      exact he.pl _
  rintro i x σ H' hx ⟨fl, o3, o4, o5, o6, o7, ws, c, rfl, g, hb', hfl, hfl', hn', hwc, he, hdc, hsc⟩
  obtain ⟨u, hu, hun⟩ := hns.get hx
  have um : u ∈ t.nodes := List.mem_of_getElem? hu
  have uw : Wf u false := nodes_wf hw u um
  obtain ⟨p, y, ys, rfl, hp, hsg, hch, htx⟩ := node_of hun uw
  have hud := dep_nodes u um
  have husz := sz_nodes u um
  have hp' : H' p = some (.tup (.str y :: ys)) := old0 g _ _ hp
  have hwsl : ws.length < 100000 := by
    have h1 := (Nodes.same hid_out hn').length
    have h2 := len_sz c
    have h3 := ch_take_sz t i
    omega
  have htake := ch_take hu
  have hszt : (ch (t.nodes.take (i + 1))).sz = (ch (t.nodes.take i)).sz + u.sz := by rw [htake, T.app_sz]
  have hflB : fl ≠ B := (ne_of_none hB hfl).symm
  have hfld : fl ≠ d := by
    obtain ⟨od, hd⟩ := hb.isD
    exact (ne_of_none hd hfl).symm
  refine ⟨CutMid B d a H0 H t i (.ref p), ?_, ?_⟩
  · refine ⟨_, rfl, p, _, 0, .str y, rfl, rfl, .inl (.inl hp'), atI_nat (j := 0) rfl, rfl, _, rfl, ite2 (fun cc => ?_) (fun cc => ?_)⟩
    · -- a text
      have ht := htx.mp (str_eq (of_decide_eq_true cc))
      cases u with
      | text st r =>
        cases (show r = .nil from hsg)
        obtain ⟨pp, _, e, hpp, _⟩ := hun
        cases e
        have hst : st.length < 100000 := by
          simp only [T.sz] at husz
          omega
        have tg : ∀ {H2 : Hp}, Go B H H2 → SqT K H2 p [.str "text", .str st] := fun g2 => .inl (.inl (old0 g2 _ _ hpp))
        refine ⟨_, rfl, _, rfl, p, _, 1, .str st, rfl, rfl, tg g, atI_nat (j := 1) rfl, st, rfl, le_line (by omega), _, _, rfl, rfl, B, d, _, rfl, by omega, hb', fun z H3 z0 zn g3 hb3 => ?_⟩
        have g03 := g.trans g3
        refine ⟨_, rfl, _, rfl, p, _, 1, .str st, rfl, rfl, tg g03, atI_nat (j := 1) rfl, _, rfl, z, rfl, st, rfl, le_line (by omega), by show 2 ≤ sizeLine; decide, fun p1 hp1 => ?_⟩
        have g04 := g03.trans (Go.new hp1 (.tup [.str "text", .str (cutS st none (some z))]))
        refine ⟨_, rfl, p, _, 1, .str st, rfl, rfl, tg g04, atI_nat (j := 1) rfl, _, rfl, z, rfl, st, rfl, le_line (by omega), by show 2 ≤ sizeLine; decide, fun p2 hp2 => ?_⟩
        have g05 := g04.trans (Go.new hp2 (.tup [.str "text", .str (cutS st (some z) none)]))
        refine ⟨by show 2 ≤ sizeLine; decide, fun l hl => ?_⟩
        have g35 : Go B H' _ := (g3.trans (Go.new hp1 _)).trans ((Go.new hp2 _).trans (Go.new hl (.lst [.ref p1, .ref p2])))
        refine ⟨fl, l, ws, _, rfl, rfl, g35.ext _ _ hflB hfl', upd_same, le_line (by simp only [List.length_cons, List.length_nil]; omega), fun r hr => ?_⟩
        have g06 := g05.trans (Go.new hl (.lst [.ref p1, .ref p2]))
        have hr0 : H r = none := g06.dom r hr
        have e2 : cutS st none (some z) ++ cutS st (some z) none = st := cut_two st z0 (by omega)
        refine ⟨r, _, _, _, _, _, c.app (.text (cutS st none (some z)) (.text (cutS st (some z) none) .nil)), rfl, g06.trans (Go.new hr _), ((hb3.new hp1 _).new hp2 _ |>.new hl _).new hr _, hr0, upd_same, ?_, ?_, ?_, ?_, ?_⟩
        · refine Nodes.app (t := c) ?_ (Nodes.same (tr_new hB h0 g35 hr hr0 _) hn')
          have hp1' : H p1 = none := g03.dom _ hp1
          have hp2' : H p2 = none := g04.dom _ hp2
          have n21 : p1 ≠ p2 := ne_of_none upd_same hp2
          have n1l : p1 ≠ l := ne_of_none (by rw [upd_ne n21]; exact upd_same) hl
          have n2l : p2 ≠ l := ne_of_none upd_same hl
          have n1r : p1 ≠ r := ne_of_none (by rw [upd_ne n1l, upd_ne n21]; exact upd_same) hr
          have n2r : p2 ≠ r := ne_of_none (by rw [upd_ne n2l]; exact upd_same) hr
          refine ⟨p1, [.ref p2], rfl, ?_, p2, [], rfl, ?_, rfl⟩
          · rw [hid_ne n1r, cb_new hp1', upd_ne n1r, upd_ne n1l, upd_ne n21]
            exact upd_same
          · rw [hid_ne n2r, cb_new hp2', upd_ne n2r, upd_ne n2l]
            exact upd_same
        · exact Wf.app (u := .text _ (.text _ .nil)) ⟨rfl, rfl, trivial⟩ hwc
        · rw [htake]
          exact he.app (Eqv.two e2)
        · rw [dep_app]
          show max c.dep 0 ≤ _
          omega
        · rw [T.app_sz, hszt]
          have e3 : (cutS st none (some z)).length + (cutS st (some z) none).length = st.length := by
            have := congrArg (fun x => (tl x).length) e2
            simp only [TL.tl_append, List.length_append] at this
            rw [TL.len_tl, TL.len_tl, TL.len_tl]
            exact this
          simp only [T.sz]
          omega
      | _ => cases ht
    · have ht : u.isText = false := by
        cases e : u.isText with
        | false => rfl
        | true =>
          refine absurd ?_ cc
          rw [htx.mpr e]
          exact decide_eq_true rfl
      refine ⟨_, rfl, p, _, 0, .str y, rfl, rfl, .inl (.inl hp'), atI_nat (j := 0) rfl, by show 2 ≤ sizeLine; decide, fun tp htp => ⟨tp, _, rfl, .inr (.inl (.inl upd_same)), rfl, rfl, _, rfl, ?_⟩⟩
      have e : inV (V.str y) [.str "select", .str "plural"] = u.isCho := by
        rw [in_two]
        cases hu : u.isCho with
        | true => exact decide_eq_true (hch.mpr hu)
        | false => exact decide_eq_false fun z => by rw [hch.mp z] at hu; cases hu
      have g1 : Go B H' (upd H' tp (.tup [.str "select", .str "plural"])) := Go.new htp _
      have g01 := g.trans g1
      have hb1 := hb'.new htp (.tup [.str "select", .str "plural"])
      have hfl1 : upd H' tp (.tup [.str "select", .str "plural"]) fl = some (.lst ws) := g1.ext _ _ hflB hfl'
      have hupos : 1 ≤ u.sz := by
        have h1 := hun.length
        have h2 := len_sz u
        simp only [List.length_singleton] at h1
        omega
      show if inV (V.str y) [.str "select", .str "plural"] = true then _ else _
      rw [e]
      cases hc : u.isCho with
      | false =>
        refine iteF ⟨_, rfl, .inl ⟨rfl, _, SqL.of hfl1⟩, _, rfl, fl, ws, _, rfl, rfl, hfl1, sz_line (by omega), ?_⟩
        refine ⟨fl, _, _, _, _, ws ++ [.ref p], c.app u, rfl, g01.mut hfl _, hb1.mut hflB hfld _, hfl, upd_same, ?_, Wf.app uw hwc, ?_, ?_, ?_⟩
        · exact Nodes.app (Nodes.same (tr_base h0 hfl) hun) (Nodes.same (Same.trans (hid_same (cb_go hB g1)) (cb_mut _)) hn')
        · rw [htake]
          exact he.app (Eqv.refl u)
        · rw [dep_app]
          omega
        · rw [T.app_sz, hszt]
          omega
      | true =>
        cases u with
        | cho hd' cs o r =>
          cases (show r = .nil from hsg)
          obtain ⟨pp, _, ca, cvs, oa, ovs, e1, hpp, hca, hcs, hoa, hos, _⟩ := hun
          cases e1
          have hcns := hcs.ns
          simp only [T.dep] at hud
          simp only [T.sz] at husz hszt
          refine iteT ?_
          refine ⟨_, rfl, 2, rfl, p, _, -2, .ref ca, rfl, rfl, .inl (.inl (old0 g01 _ _ hpp)), atI_m2 _ _ _, ca, rfl, ⟨_, SqL.of (old0 g01 _ _ hca)⟩, fun D hD => ?_⟩
          have hD' : H' D = none := upd_none hD
          have hD0 : H D = none := g.dom _ hD'
          have hDB : D ≠ B := hb'.neB hD'
          have hDd : D ≠ d := hb'.neD hD'
          have hDf : fl ≠ D := ne_of_none hfl' hD'
          refine lc_list (K := K) (a := ca) (xs := cvs) (fun j H'' => ∃ (acc : List V) (cc : T), Go B H' H'' ∧ Box H'' B d ∧ H'' D = some (.lst acc) ∧ Nodes (hid D (hid fl (cb H0 H H''))) cc acc ∧ Wf cc true ∧ Eqv cc (ch (cs.nodes.take j)) ∧ cc.dep ≤ cs.dep ∧ cc.sz ≤ 3 * (ch (cs.nodes.take j)).sz)
            ⟨[], .nil, g1.trans (Go.new hD _), hb1.new hD _, upd_same, rfl, trivial, Eqv.refl _, Nat.zero_le _, Nat.zero_le _⟩ (fun j H'' _ ⟨_, _, g2, _⟩ => SqL.of (old0 (g.trans g2) _ _ hca)) ?_ ?_
          · rintro j x H'' hx ⟨acc, cc, g2, hb2, hD2, hn2, hwcc, hec, hdcc, hscc⟩
            have g02 := g.trans g2
            obtain ⟨v, hv, hvn⟩ := hcns.get hx
            have vm : v ∈ cs.nodes := List.mem_of_getElem? hv
            have vw : Wf v true := nodes_wf uw.2.2.1 v vm
            have vd := dep_nodes v vm
            have vz := sz_nodes v vm
            have vt := ch_take hv
            cases v with
            | cas kk mm r' =>
              obtain ⟨qq, _, ma, mvs, e2, hq, hma, hmv, hr2⟩ := hvn
              cases e2
              have : r' = .nil := by
                have := hr2.length
                cases r' <;> first | rfl | (simp [T.len] at this)
              subst this
              simp only [T.dep, T.sz] at vd vz
              have haccl : acc.length < 100000 := by
                have h1 := (Nodes.same (Same.trans hid_out hid_out) hn2).length
                have h2 := len_sz cc
                have h3 := ch_take_sz cs j
                omega
              refine ⟨qq, _, rfl, .inl (.inl (old0 g02 _ _ hq)), rfl, kk, _, rfl, .ref ma, [], rfl, rfl, rfl, ?_⟩
              refine ⟨_, rfl, _, rfl, _, rfl, B, d, ma, H0, mm, rfl, hb2, old0 g02, hB0, ⟨mvs, hma, hmv⟩, vw.2.2.1, by omega, by omega, fun r H3 cm g3 hb3 hr3 hat hwf hpl hdp' hsz' => ⟨by show 2 ≤ sizeLine; decide, fun p' hp' => ?_⟩⟩
              have hD3 : H3 D = some (.lst acc) := g3.ext _ _ hDB hD2
              have nDp : D ≠ p' := ne_of_none hD3 hp'
              have hfl3 : H3 fl = some (.lst ws) := (g2.trans g3).ext _ _ hflB hfl'
              have nfp : fl ≠ p' := ne_of_none hfl3 hp'
              have hp0 : H p' = none := (g02.trans g3).dom _ hp'
              have g4 : Go B H3 (upd H3 p' (.tup [kk, .ref r])) := Go.new hp' _
              refine ⟨acc, by rw [upd_ne nDp]; exact hD3, sz_line (by omega), acc ++ [.ref p'], cc.app (.cas kk cm .nil), ((g2.trans g3).trans g4).mut hD' _, (hb3.new hp' _).mut hDB hDd _, upd_same, ?_, Wf.app (u := .cas _ _ .nil) ⟨rfl, vw.2.1, hwf, trivial⟩ hwcc, ?_, ?_, ?_⟩
              · have t1 : Same (cb H0 H'' H3) (hid D (hid fl (cb H0 H (upd H3 p' (.tup [kk, .ref r]))))) := hid_hid (tr_call h0 g02.dom (same_new hp' _) hD2 hD0) (tr_call h0 g02.dom (same_new hp' _) (g2.ext _ _ hflB hfl') hfl)
                obtain ⟨rvs, hrv1, hrv2⟩ := hat
                have t2 : Nodes (hid D (hid fl (cb H0 H (upd H3 p' (.tup [kk, .ref r]))))) (.cas kk cm .nil) [.ref p'] := by
                  refine ⟨p', [], r, rvs, rfl, ?_, t1 _ _ hrv1, Nodes.same t1 hrv2, rfl⟩
                  rw [hid_ne nDp.symm, hid_ne nfp.symm, cb_new hp0]
                  exact upd_same
                exact Nodes.same (cb_mut2 _) (Nodes.app t2 (Nodes.same (hid_same (hid_same (cb_go hB (g3.trans g4)))) hn2))
              · rw [vt]
                exact hec.app (Eqv.cas hpl)
              · rw [dep_app]
                simp only [T.dep]
                omega
              · rw [vt, T.app_sz, T.app_sz]
                simp only [T.sz]
                omega
            | nil => cases (show [x] = [] from hvn)
            | text s r => cases vw.1
            | shw s r => cases vw.1
            | num r => cases vw.1
            | cho _ _ _ _ => cases vw.1
          · rintro H'' ⟨acc, cc, g2, hb2, hD2, hn2, hwcc, hec, hdcc, hscc⟩
            have g02 := g.trans g2
            rw [hcns.length, List.take_length, ch_nodes] at hec hscc
            have hfl2 := g2.ext _ _ hflB hfl'
            refine ⟨_, rfl, .inl ⟨rfl, _, SqL.of hfl2⟩, _, rfl, 2, rfl, _, rfl, p, _, rfl, .inl (.inl (old0 g02 _ _ hpp)), cut_ne _ _ _, fun p1 hp1 => ?_⟩
            rw [cut_hd]
            have g3 : Go B H'' (upd H'' p1 (.tup hd')) := Go.new hp1 _
            have g03 := g02.trans g3
            refine ⟨_, rfl, _, rfl, _, rfl, 1, rfl, p, _, -1, .ref oa, rfl, rfl, .inl (.inl (old0 g03 _ _ hpp)), atI_m1 _ _ _, B, d, oa, H0, o, rfl, hb2.new hp1 _, old0 g03, hB0, ⟨ovs, hoa, hos⟩, uw.2.2.2.1, by omega, by omega, fun r H4 co g4 hb4 hr4 hat hwf hpl hdp' hsz' => ⟨by show 2 ≤ sizeLine; decide, fun p2 hp2 => ?_⟩⟩
            have hp1B : p1 ≠ B := hb2.neB hp1
            have h41 : H4 p1 = some (.tup hd') := g4.ext _ _ hp1B upd_same
            have n12 : p1 ≠ p2 := ne_of_none h41 hp2
            obtain ⟨hne, hhl⟩ := hdW_ne uw.2.1
            have g5 : Go B H4 (upd H4 p2 (.tup [.ref D, .ref r])) := Go.new hp2 _
            refine ⟨p1, p2, hd', _, rfl, rfl, .inl (.inl (by rw [upd_ne n12]; exact h41)), .inl (.inl upd_same), hne, le_line (by show hd'.length + 2 < 10000000; omega), (fun z => nomatch z), fun _ p3 hp3 => ?_⟩
            have hfl4 : H4 fl = some (.lst ws) := (g3.trans g4).ext _ _ hflB hfl2
            have hD4 : H4 D = some (.lst acc) := (g3.trans g4).ext _ _ hDB hD2
            have nf2 : fl ≠ p2 := ne_of_none hfl4 hp2
            have hfl5 : upd H4 p2 (.tup [.ref D, .ref r]) fl = some (.lst ws) := by rw [upd_ne nf2]; exact hfl4
            have nf3 : fl ≠ p3 := ne_of_none hfl5 hp3
            have hp30 : H p3 = none := ((g03.trans g4).trans g5).dom _ hp3
            have g6 : Go B (upd H4 p2 (.tup [.ref D, .ref r])) (upd (upd H4 p2 (.tup [.ref D, .ref r])) p3 (.tup (hd' ++ [.ref D, .ref r]))) := Go.new hp3 _
            have g26 : Go B H'' _ := ((g3.trans g4).trans g5).trans g6
            have s46 : Same H4 _ := (same_new hp2 (.tup [.ref D, .ref r])).trans (same_new hp3 (.tup (hd' ++ [.ref D, .ref r])))
            refine ⟨fl, ws, _, rfl, rfl, (by rw [upd_ne nf3]; exact hfl5), sz_line (by omega), ?_⟩
            refine ⟨fl, _, _, _, _, ws ++ [.ref p3], c.app (.cho hd' cc co .nil), rfl, (g02.trans g26).mut hfl _, ((hb4.new hp2 _).new hp3 _).mut hflB hfld _, hfl, upd_same, ?_, Wf.app (u := .cho _ _ _ .nil) ⟨rfl, uw.2.1, hwcc, hwf, trivial⟩ hwc, ?_, ?_, ?_⟩
            · refine Nodes.same (cb_mut _) (Nodes.app (t := c) ?_ (Nodes.same (hid_same (cb_go hB (g2.trans g26))) hn'))
              have t1 : Same (cb H0 (upd H'' p1 (.tup hd')) H4) (hid fl (cb H0 H (upd (upd H4 p2 (.tup [.ref D, .ref r])) p3 (.tup (hd' ++ [.ref D, .ref r]))))) := tr_call h0 g03.dom s46 (g3.ext _ _ hflB hfl2) hfl
              obtain ⟨rvs, hrv1, hrv2⟩ := hat
              refine ⟨p3, [], D, acc, r, rvs, rfl, ?_, ?_, ?_, t1 _ _ hrv1, Nodes.same t1 hrv2, rfl⟩
              · rw [hid_ne nf3.symm, cb_new hp30]
                exact upd_same
              · rw [hid_ne hDf.symm, cb_new hD0]
                exact s46 _ _ hD4
              · exact Nodes.same (Same.trans hid_out (hid_same (cb_go hB g26))) hn2
            · rw [htake]
              exact he.app (Eqv.cho (hec.pl _) hpl)
            · rw [dep_app]
              simp only [T.dep]
              omega
            · rw [T.app_sz, hszt]
              simp only [T.sz]
              omega
        | _ => cases hc
  · rintro σ' H2 ⟨fl, o4, o5, o6, o7, ws, c, rfl, g, hb2, hfl, hfl', hn', hwc, he, hdc, hsc⟩
    have hflB : fl ≠ B := (ne_of_none hB hfl).symm
    have hfld : fl ≠ d := by
      obtain ⟨od, hd⟩ := hb.isD
      exact (ne_of_none hd hfl).symm
    have hwsl : ws.length < 100000 := by
      have h1 := (Nodes.same hid_out hn').length
      have h2 := len_sz c
      have h3 := ch_take_sz t (i + 1)
      omega
    refine ⟨_, rfl, B, d, 4, rfl, by decide, hb2, fun z H3 z0 z4 g3 hb3 => ⟨rfl, _, rfl, ite2 (fun c2 => ?_) (fun c2 => ?_)⟩⟩
    · have hfl3 := g3.ext _ _ hflB hfl'
      refine ⟨_, rfl, .inl ⟨rfl, _, SqL.of hfl3⟩, by show 2 ≤ sizeLine; decide, fun p' hp' => ?_⟩
      have np : fl ≠ p' := ne_of_none hfl3 hp'
      have g4 : Go B H2 _ := g3.trans (Go.new hp' (.tup [.str "text", .str ""]))
      refine ⟨fl, ws, _, rfl, rfl, (by rw [upd_ne np]; exact hfl3), sz_line (by omega), ?_⟩
      have hp0 : H p' = none := (g.trans g3).dom _ hp'
      refine ⟨fl, _, _, _, _, _, ws ++ [.ref p'], c.app (.text "" .nil), rfl, (g.trans g4).mut hfl _, (hb3.new hp' _).mut hflB hfld _, hfl, upd_same, ?_, Wf.app (u := .text _ .nil) ⟨rfl, trivial⟩ hwc, ?_, ?_, ?_⟩
      · refine Nodes.app (t := c) ?_ (Nodes.same (Same.trans (hid_same (cb_go hB g4)) (cb_mut _)) hn')
        refine ⟨p', [], rfl, ?_, rfl⟩
        rw [hid_ne np.symm, cb_new hp0, upd_ne np.symm]
        exact upd_same
      · have := he.app Eqv.empty
        rw [app_nil] at this
        exact this
      · rw [dep_app]
        show max c.dep 0 ≤ _
        omega
      · rw [T.app_sz]
        show c.sz + (1 + 0 + 0) ≤ _
        omega
    · exact ⟨fl, _, _, _, _, _, ws, c, rfl, g.trans g3, hb3, hfl, g3.ext _ _ hflB hfl', Nodes.same (hid_same (cb_go hB g3)) hn', hwc, he, hdc, by omega⟩
theorem ok_cut {f fD : Addr} {fd fdD : FuncData} (F : Fun K "_law_cut" "_law_cut" sCut f fd) (b : Binds K fd ["box", "message"] []) (m : mg "_law_cut" = some (.ref f))
    (GD : FnOk P w K mg base CX0 1 fD fdD ["box", "many"] spDraw) (bD : Binds K fdD ["box", "many"] []) (kD : PySem.W.keepIn K (.ref fD) = true) (mD : mg "_law_draw" = some (.ref fD)) (ml : mg "len" = none) : ∀ n, FnOk P w K mg base CX0 (n + 1) f fd ["box", "message"] (spCut n)
  | 0 => (none_left fun vs H Q E ⟨_, _, _, _, _, _, _, _, _, _, _, h, _⟩ => Nat.not_lt_zero _ h).mono (Nat.le_succ 0)
  | n + 1 => ok_cut_turn (Nat.le_add_left 1 n) F (ok_cut F b m GD bD kD mD ml n) b m GD bD kD mD ml
end
end Mw

namespace Mw
open PySem L2
section
variable {P : Program} {w : World} {K : PySem.W.Frag} {mg : Str → Option Value} {base : Heap}
/-! ### with_inner -/
abbrev sWith : Stmt := top 5
theorem scWith : FnScope ["node", "messages", "cases", "case", "message"] ["node", "messages"] (defScope sWith) := ⟨rfl, rfl, rfl, by decide +kernel, rfl, by decide +kernel, by decide +kernel⟩
/-- the cases at cvs have the keys ks -/
def KeysAt (H : Hp) (cvs ks : List V) : Prop := cvs.length = ks.length ∧ ∀ (i : Nat) (v : V), cvs[i]? = some v → ∃ (q : Addr) (k x : V), v = V.ref q ∧ ks[i]? = some k ∧ H q = some (.tup [k, x])
/-- new cases of these keys and values -/
def CasesAt (H : Hp) (tvs ks fs : List V) : Prop := tvs.length = ks.length ∧ ∀ (i : Nat) (v : V), tvs[i]? = some v → ∃ (q : Addr) (k f : V), v = V.ref q ∧ ks[i]? = some k ∧ fs[i]? = some f ∧ H q = some (.tup [k, f])
def spWith : Sp := fun vs H Q _ => ∃ (p ca oa m : Addr) (hd cvs ks fs : List V) (z : V), vs = [.ref p, .ref m] ∧ H p = some (.tup (hd ++ [.ref ca, .ref oa])) ∧ HdW hd ∧ H ca = some (.lst cvs) ∧ KeysAt H cvs ks ∧ H m = some (.lst (fs ++ [z])) ∧ fs.length = ks.length ∧ ks.length < 100000 ∧
  ∀ (p' D : Addr) (H' : Hp) (tvs : List V), H p' = none → H D = none → Same H H' → H' p' = some (.tup (hd ++ [.ref D, z])) → H' D = some (.lst tvs) → CasesAt H' tvs ks fs → Q (.ref p') H'
theorem ok_with {f fC : Addr} {fd fdC : FuncData} (F : Fun K "with_inner" "with_inner" sWith f fd) (GC : FnOk P w K mg base CX0 1 fC fdC ["node"] spCases) (bC : Binds K fdC ["node"] []) (kC : PySem.W.keepIn K (.ref fC) = true) (mC : mg "cases_of" = some (.ref fC)) (mz : mg "zip" = none) :
    FnOk P w K mg base CX0 2 f fd ["node", "messages"] spWith := by
  refine F.ok scWith (fun vs H Q E h => ?_) (fun cdv A outer s H vs Q E hr h => ?_)
  · obtain ⟨p, ca, oa, m, hd, cvs, ks, fs, z, rfl, _⟩ := h
    rfl
  obtain ⟨p, ca, oa, m, hd, cvs, ks, fs, z, rfl, hp, hhd, hca, hks, hm, hfl, hkl, q⟩ := h
  have nd := scWith.nd
  refine ⟨_, pss_cons (ps_setLc (i := 2) (own := [("case", 3), ("message", 4)]) (g := gTup K 2 (gCons (gName 3) (gCons (gName 4) gNil))) (tt := tYes) rfl nd rfl rfl (sw_true rfl rfl rfl (by decide +kernel)) (pi_zip (by rfl) mz (pa_cons (pe_call GC hr rfl mC kC bC .nil pass0 (pa_cons (pv 0) pa_nil)) (pa_cons (pv 1) pa_nil)))
      (blkOk_by (N := ["node", "messages", "cases", "case", "message"]) (sc := defScope sWith) (by decide +kernel))
      (fun _ _ _ _ _ => pg_tup rfl (pgs_cons (pg_name (i := 3) nd rfl (.inl rfl)) (pgs_cons (pg_name (i := 4) nd rfl (.inl rfl)) pgs_nil))) (fun _ _ _ _ _ => pts_nil)
      (fun _ _ _ _ _ => pe_tup (pa_cons (pe_ix (r := rIxT K) ix_tup (pv 3) pe_int (fun _ _ => rfl)) (pa_cons (pv 4) pa_nil))))
    (pss_one (ps_ret (pe_op op_catT (pe_slice sl_tup (pv 0) po_none (po_some (pe_un un_neg pe_int))) (pe_tup (pa_cons (pv 2) (pa_cons (pe_ix ix_list (pv 1) (pe_un un_neg pe_int) (fun _ _ => rfl)) pa_nil)))))), ?_⟩
  refine ⟨_, rfl, p, ca, oa, hd, cvs, rfl, hp, hca, fun l hl => ⟨_, rfl, l, m, cvs, fs ++ [z], rfl, .inl (.inl upd_same), .inl (.inl (same_new hl _ _ _ hm)), fun D hD => ?_⟩⟩
  have s1 : Same H (upd H l (.lst cvs)) := same_new hl _
  have s2 : Same (upd H l (.lst cvs)) (upd (upd H l (.lst cvs)) D (.lst [])) := same_new hD _
  have hD0 : H D = none := upd_none hD
  refine lc_it (walk_zip (K := K) (a := l) (b := m) (xs := cvs) (ys := fs ++ [z]) (n := cvs.length) (by rw [List.length_append, hks.1, hfl]; omega)) (fun j H'' => ∃ tvs : List V, Same (upd H l (.lst cvs)) H'' ∧ H'' D = some (.lst tvs) ∧ tvs.length = j ∧ ∀ (i : Nat) (v : V), tvs[i]? = some v → ∃ (q : Addr) (k f : V), v = V.ref q ∧ ks[i]? = some k ∧ fs[i]? = some f ∧ q ≠ D ∧ H'' q = some (.tup [k, f]))
    ⟨[], s2, upd_same, rfl, fun i v e => by simp at e⟩ (fun j H'' _ ⟨_, s', _⟩ => ⟨.inl (.inl (s' _ _ upd_same)), .inl (.inl (s' _ _ (s1 _ _ hm)))⟩) ?_ ?_
  · rintro j x H'' H3 hj ⟨tvs, s', hD', hlen, hall⟩ ⟨T, x1, y1, rfl, hT, rfl, hx1, hy1⟩
    obtain ⟨qq, k, x2, rfl, hk, hqq⟩ := hks.2 j x1 hx1
    have hjf : j < fs.length := by
      have := (List.getElem?_eq_some_iff.mp hk).1
      omega
    have hy2 : fs[j]? = some y1 := by
      rw [← hy1]
      exact (List.getElem?_append_left hjf).symm
    have s3 : Same H'' (upd H'' T (.tup [.ref qq, y1])) := same_new hT _
    refine ⟨T, _, rfl, .inl (.inl upd_same), rfl, .ref qq, _, rfl, y1, [], rfl, rfl, rfl, ?_⟩
    refine ⟨_, rfl, qq, _, 0, k, rfl, rfl, .inl (.inl (s3 _ _ (s' _ _ (s1 _ _ hqq)))), atI_nat (j := 0) rfl, _, rfl, by show 2 ≤ sizeLine; decide, fun p2 hp2 => ?_⟩
    have s4 : Same H'' (upd (upd H'' T (.tup [.ref qq, y1])) p2 (.tup [k, y1])) := s3.trans (same_new hp2 _)
    have np2 : p2 ≠ D := (ne_of_none (s3 _ _ hD') hp2).symm
    refine ⟨tvs, s4 _ _ hD', sz_line (by rw [hlen]; have := hks.1; omega), tvs ++ [.ref p2], same_mut (s'.trans s4) hD _, upd_same, by rw [List.length_append, hlen]; rfl, fun i v e => ?_⟩
    by_cases hi : i < tvs.length
    · rw [List.getElem?_append_left hi] at e
      obtain ⟨q2, k2, f2, e1, e2, e3, e4, e5⟩ := hall i v e
      exact ⟨q2, k2, f2, e1, e2, e3, e4, by rw [upd_ne e4]; exact s4 _ _ e5⟩
    · have hi2 : i = j := by
        have := (List.getElem?_eq_some_iff.mp e).1
        rw [List.length_append, List.length_singleton] at this
        omega
      subst hi2
      rw [← hlen, List.getElem?_append_right (Nat.le_refl _), Nat.sub_self] at e
      have e' : V.ref p2 = v := by simpa using e
      subst e'
      refine ⟨p2, k, y1, rfl, hk, hy2, np2, ?_⟩
      rw [upd_ne np2]
      exact upd_same
  · rintro H'' ⟨tvs, s', hD', hlen, hall⟩
    have s03 := s1.trans s'
    refine ⟨_, rfl, 2, rfl, _, rfl, p, _, rfl, .inl (.inl (s03 _ _ hp)), cut_ne _ _ _, fun p1 hp1 => ?_⟩
    rw [cut_hd]
    have s4 : Same H (upd H'' p1 (.tup hd)) := s03.trans (same_new hp1 _)
    refine ⟨_, rfl, _, rfl, 1, rfl, m, _, -1, z, rfl, rfl, .inl (.inl (s4 _ _ hm)), atI_last _ _, by show 2 ≤ sizeLine; decide, fun p2 hp2 => ?_⟩
    have n12 : p1 ≠ p2 := ne_of_none upd_same hp2
    obtain ⟨hne, hhl⟩ := hdW_ne hhd
    have s5 : Same H'' (upd (upd H'' p1 (.tup hd)) p2 (.tup [.ref D, z])) := (same_new hp1 _).trans (same_new hp2 _)
    refine ⟨p1, p2, hd, _, rfl, rfl, .inl (.inl (by rw [upd_ne n12]; exact upd_same)), .inl (.inl upd_same), hne, le_line (by show hd.length + 2 < 10000000; omega), (fun z => nomatch z), fun _ p3 hp3 => ?_⟩
    have s6 : Same H'' (upd (upd (upd H'' p1 (.tup hd)) p2 (.tup [.ref D, z])) p3 (.tup (hd ++ [.ref D, z]))) := s5.trans (same_new hp3 _)
    refine q p3 D _ tvs ((s03.trans s5).free hp3) hD0 (s03.trans s6) upd_same (s6 _ _ hD') ⟨by rw [hlen, hks.1], fun i v e => ?_⟩
    obtain ⟨q2, k2, f2, e1, e2, e3, e4, e5⟩ := hall i v e
    exact ⟨q2, k2, f2, e1, e2, e3, s6 _ _ e5⟩
end
end Mw

set_option linter.all false
set_option maxHeartbeats 2000000
/-! list(zip(xs, ys)) of two lists -/
namespace Zl
open PySem PySem.Spec PyProof.Rows L2 PySem.W
theorem no_len : typeLookup (.type "zip") "__len__" = pure none := am_miss_of_fast (by decide +kernel)
theorem no_hint : typeLookup (.type "zip") "__length_hint__" = pure none := am_miss_of_fast (by decide +kernel)
/-- the zip ahead of turn i; S: the list that is filled -/
structure Zst (h : Heap) (z TI TO i1 i2 l1 l2 S : Addr) (i : Nat) : Prop where
  pair : IsPair h TI (.ref i1) (.ref i2)
  it1 : h.IsListIter i1 l1 i
  it2 : h.IsListIter i2 l2 i
  out : (IsZip h z TI TO .none ∧ ∃ a b, IsPair h TO a b) ∨ ∃ (t : Addr) (f : Bool) (ot : Obj), IsZipHeld h z TI TO t f ∧ h.get? t = some ot ∧ t ≠ z ∧ t ≠ i1 ∧ t ≠ i2 ∧ t ≠ S
theorem Zst.keep {h h' : Heap} {z TI TO i1 i2 l1 l2 S : Addr} {i : Nat} (st : Zst h z TI TO i1 i2 l1 l2 S i) (hs : S ≠ z ∧ S ≠ TI ∧ S ≠ TO ∧ S ≠ i1 ∧ S ≠ i2)
    (k : ∀ b o, b ≠ S → h.get? b = some o → h'.get? b = some o) : Zst h' z TI TO i1 i2 l1 l2 S i := by
  refine ⟨k _ _ hs.2.1.symm st.pair, st.it1.at fun o e => k _ o hs.2.2.2.1.symm e, st.it2.at fun o e => k _ o hs.2.2.2.2.symm e, ?_⟩
  rcases st.out with ⟨a, x, y, b⟩ | ⟨t, f, ot, a, b, c⟩
  · exact .inl ⟨k _ _ hs.1.symm a, x, y, k _ _ hs.2.2.1.symm b⟩
  · exact .inr ⟨t, f, ot, k _ _ hs.1.symm a, k _ _ c.2.2.2 b, c⟩
section
variable {prog : Program} {w : World} {A : Around} {E : Value → Shared → Prop} {s : Shared} {z TI TO i1 i2 l1 l2 S : Addr} {xs ys : Array Value} {i : Nat}
theorem zl_item {x y : Value} {Q : Option Value → Shared → Prop} (D : ZipApart z TI TO i1 i2 l1 l2) (st : Zst s.heap z TI TO i1 i2 l1 l2 S i) (hS : S < s.heap.objs.size)
    (hl1 : s.heap.IsList l1 xs) (hl2 : s.heap.IsList l2 ys) (hx : xs[i]? = some x) (hy : ys[i]? = some y)
    (q : ∀ h', Zst h' z TI TO i1 i2 l1 l2 S (i + 1) → IsPair h' s.heap.objs.size x y → h'.objs.size = s.heap.objs.size + 1 →
      (∀ c o, c ≠ z → c ≠ TO → c ≠ i1 → c ≠ i2 → s.heap.get? c = some o → h'.get? c = some o) → Q (some (.ref s.heap.objs.size)) { s with heap := h' }) :
    wpAny (model prog w) A (pyNext (.ref z)) Q E s := by
  obtain ⟨o1, e1, c1, d1⟩ := id st.it1
  obtain ⟨o2, e2, c2, d2⟩ := id st.it2
  have n1 : s.heap.objs.size ≠ i1 := Nat.ne_of_gt (Heap.lt_size e1)
  have n2 : s.heap.objs.size ≠ i2 := Nat.ne_of_gt (Heap.lt_size e2)
  have nS : s.heap.objs.size ≠ S := Nat.ne_of_gt hS
  rcases st.out with ⟨hz, a, b, hTO⟩ | ⟨t, f, ot, hz, ht, nt⟩
  · have nz : s.heap.objs.size ≠ z := Nat.ne_of_gt (Heap.lt_size hz)
    refine wpAny_pyNext_zip_item D hz st.pair hTO st.it1 st.it2 hl1 hl2 hx hy fun h' a1 a2 a3 a4 a5 a6 k => ?_
    exact q h' ⟨k _ _ D.TIz D.TITO D.TIi1 D.TIi2 st.pair, a3, a4, .inr ⟨_, false, _, a1, a5, nz, n1, n2, nS⟩⟩ a5 a6 k
  · have nz : s.heap.objs.size ≠ z := Nat.ne_of_gt (Heap.lt_size hz)
    refine wpAny_pyNext_zip_item_held D hz ht st.pair st.it1 st.it2 hl1 hl2 hx hy fun h' a1 a3 a4 a5 a6 k => ?_
    exact q h' ⟨k _ _ D.TIz D.TIi1 D.TIi2 st.pair, a3, a4, .inr ⟨t, true, ot, a1, k _ _ nt.1 nt.2.1 nt.2.2.1 ht, nt⟩⟩ a5 a6 fun c o b1 _ b3 b4 e => k c o b1 b3 b4 e
theorem zl_end {Q : Option Value → Shared → Prop} (hh : A.handled = none) (D : ZipApart z TI TO i1 i2 l1 l2) (st : Zst s.heap z TI TO i1 i2 l1 l2 S i)
    (hl1 : s.heap.IsList l1 xs) (hl2 : s.heap.IsList l2 ys) (he : xs[i]? = none ∨ ys[i]? = none)
    (q : ∀ h', (∀ c o, c ≠ z → c ≠ TO → c ≠ i1 → c ≠ i2 → s.heap.get? c = some o → h'.get? c = some o) → Q none { s with heap := h' }) : wpAny (model prog w) A (pyNext (.ref z)) Q E s := by
  rcases st.out with ⟨hz, a, b, hTO⟩ | ⟨t, f, ot, hz, ht, nt⟩
  · exact wpAny_pyNext_zip_end hh D hz st.pair hTO st.it1 st.it2 hl1 hl2 he q
  · exact wpAny_pyNext_zip_end_held hh D hz ht st.pair st.it1 st.it2 hl1 hl2 he fun h' k => q h' fun c o b1 _ b3 b4 e => k c o b1 b3 b4 e
/-- the pairs made so far, one after the other, above lo -/
structure Made (xs ys : Array Value) (lo : Addr) (h : Heap) (as : List Addr) : Prop where
  rise : as.Pairwise (· < ·)
  above : ∀ a ∈ as, lo < a
  pairs : ∀ (j : Nat) (a : Addr), as[j]? = some a → ∃ x y, xs[j]? = some x ∧ ys[j]? = some y ∧ IsPair h a x y
theorem Made.there {lo : Addr} {h : Heap} {as : List Addr} (m : Made xs ys lo h as) {a : Addr} (ha : a ∈ as) : a < h.objs.size := by
  obtain ⟨j, hj⟩ := List.mem_iff_getElem?.mp ha
  obtain ⟨_, _, _, _, e⟩ := m.pairs j a hj
  exact Heap.lt_size e
theorem zl_loop {R : Result → Shared → Prop} {n : Nat} {lo : Addr} {h₁ : Heap} (hh : A.handled = none) (D : ZipApart z TI TO i1 i2 l1 l2) (hs : S ≠ z ∧ S ≠ TI ∧ S ≠ TO ∧ S ≠ i1 ∧ S ≠ i2) (hsl : S ≠ l1 ∧ S ≠ l2) (hlo : S ≤ lo ∧ z ≤ lo ∧ TO ≤ lo ∧ i1 ≤ lo ∧ i2 ≤ lo)
    (hnx : n = min xs.size ys.size) (hn : n ≤ sizeLine) (res : Value)
    (hR : ∀ h' tk acc c as, (∀ b o, b ≠ S → b ≠ z → b ≠ TO → b ≠ i1 → b ≠ i2 → h₁.get? b = some o → h'.get? b = some o) → h'.get? S = some { cls := .type "list", dict := none, data := .seq acc c, slots := #[] } →
      as.length = n → Made xs ys lo h' as → acc.toList = as.map Value.ref → R (.ok (.ret res)) { s with heap := h', toks := tk }) :
    ∀ (k i : Nat) (h : Heap) (tk c : Nat) (acc : Array Value) (as : List Addr), n - i = k → i ≤ n → Zst h z TI TO i1 i2 l1 l2 S i → h.IsList l1 xs → h.IsList l2 ys →
      (∀ b o, b ≠ S → b ≠ z → b ≠ TO → b ≠ i1 → b ≠ i2 → h₁.get? b = some o → h.get? b = some o) →
      h.get? S = some { cls := .type "list", dict := none, data := .seq acc c, slots := #[] } → acc.toList = as.map Value.ref → as.length = i → Made xs ys lo h as → lo < h.objs.size →
      codeAny (model prog w) A (.builtin "list.extend.loop" ⟨[.ref S, .ref z, res], []⟩) R { s with heap := h, toks := tk } := by
  intro k
  induction k with
  | zero =>
    intro i h tk c acc as hk hi st hl1 hl2 keep hS hacc hal hG hlt
    have he : xs[i]? = none ∨ ys[i]? = none := by
      rcases Nat.le_total xs.size ys.size with q | q
      · exact .inl (Array.getElem?_eq_none (by omega))
      · exact .inr (Array.getElem?_eq_none (by omega))
    refine codeAny_builtin F.entry_extend_loop ?_
    rw [Around.under_plainId F.plain_extend_loop _]
    refine wpAny_bind (zl_end (s := { s with heap := h, toks := tk }) (A := A.in1) hh D st hl1 hl2 he fun h' kp => ?_)
    have am : ∀ a ∈ as, a ≠ z ∧ a ≠ TO ∧ a ≠ i1 ∧ a ≠ i2 := fun a ha => by
      have := hG.above a ha
      exact ⟨Nat.ne_of_gt (Nat.lt_of_le_of_lt hlo.2.1 this), Nat.ne_of_gt (Nat.lt_of_le_of_lt hlo.2.2.1 this), Nat.ne_of_gt (Nat.lt_of_le_of_lt hlo.2.2.2.1 this), Nat.ne_of_gt (Nat.lt_of_le_of_lt hlo.2.2.2.2 this)⟩
    refine wpAny_pure (hR h' tk acc c as (fun b o b1 b2 b3 b4 b5 e => kp b o b2 b3 b4 b5 (keep b o b1 b2 b3 b4 b5 e)) (kp S _ hs.1 hs.2.2.1 hs.2.2.2.1 hs.2.2.2.2 hS) (by omega) ⟨hG.rise, hG.above, fun j a hj => ?_⟩ hacc)
    obtain ⟨x, y, e1, e2, e3⟩ := hG.pairs j a hj
    have na := am a (List.mem_of_getElem? hj)
    exact ⟨x, y, e1, e2, kp a _ na.1 na.2.1 na.2.2.1 na.2.2.2 e3⟩
  | succ k ih =>
    intro i h tk c acc as hk hi st hl1 hl2 keep hS hacc hal hG hlt
    have hin : i < n := by omega
    obtain ⟨x, hx⟩ : ∃ x, xs[i]? = some x := ⟨xs[i]'(by omega), Array.getElem?_eq_getElem (by omega)⟩
    obtain ⟨y, hy⟩ : ∃ y, ys[i]? = some y := ⟨ys[i]'(by omega), Array.getElem?_eq_getElem (by omega)⟩
    have hsz : acc.size = i := by rw [← Array.length_toList, hacc, List.length_map, hal]
    have hSl : S < h.objs.size := Heap.lt_size hS
    refine codeAny_builtin F.entry_extend_loop ?_
    rw [Around.under_plainId F.plain_extend_loop _]
    refine wpAny_bind (zl_item (s := { s with heap := h, toks := tk }) (S := S) D st hSl hl1 hl2 hx hy fun h' st' ht hz kp => ?_)
    dsimp only at ht hz kp ⊢
    have hS' := kp S _ hs.1 hs.2.2.1 hs.2.2.2.1 hs.2.2.2.2 hS
    have up : ∀ b o, b ≠ S → h'.get? b = some o → (h'.update S (Obj.mapSeq (·.push (Value.ref h.objs.size)))).get? b = some o := fun b o hb e => by
      rw [Heap.get?_update_other _ _ (Ne.symm hb)]
      exact e
    have ext : Heap.IsList h' l1 xs ∧ Heap.IsList h' l2 ys := ⟨hl1.at fun o e => kp _ o D.l1z D.l1TO D.l1i1 D.l1i2 e, hl2.at fun o e => kp _ o D.l2z D.l2TO D.l2i1 D.l2i2 e⟩
    have am : ∀ a ∈ as, a ≠ z ∧ a ≠ TO ∧ a ≠ i1 ∧ a ≠ i2 ∧ a ≠ S := fun a ha => by
      have := hG.above a ha
      exact ⟨Nat.ne_of_gt (Nat.lt_of_le_of_lt hlo.2.1 this), Nat.ne_of_gt (Nat.lt_of_le_of_lt hlo.2.2.1 this), Nat.ne_of_gt (Nat.lt_of_le_of_lt hlo.2.2.2.1 this), Nat.ne_of_gt (Nat.lt_of_le_of_lt hlo.2.2.2.2 this), Nat.ne_of_gt (Nat.lt_of_le_of_lt hlo.1 this)⟩
    show wpAny _ A.in1 (updateSeq S (·.push (Value.ref h.objs.size)) >>= _) _ _ _
    refine wpAny_bind ?_
    refine wpAny_updateSeq hS' rfl (wpAny_pure ⟨plainId_quiet F.plain_extend_loop _, ih (i + 1) _ tk _ (acc.push (Value.ref h.objs.size)) (as ++ [h.objs.size]) (by omega) hin (st'.keep hs up)
      (ext.1.at fun o e => up _ o hsl.1.symm e) (ext.2.at fun o e => up _ o hsl.2.symm e) (fun b o b1 b2 b3 b4 b5 e => up b o b1 (kp b o b2 b3 b4 b5 (keep b o b1 b2 b3 b4 b5 e)))
      (Heap.get?_update_self _ hS' rfl) (by rw [Array.toList_push, hacc, List.map_append]; rfl) (by rw [List.length_append, hal]; rfl) ⟨?_, ?_, ?_⟩ ?_⟩)
      (by rw [hsz]; omega) (by show (acc.push (Value.ref h.objs.size)).size ≤ sizeLine + 1; rw [Array.size_push, hsz]; omega)
    · refine List.pairwise_append.mpr ⟨hG.rise, List.pairwise_singleton _ _, fun a ha b hb => ?_⟩
      rw [List.mem_singleton.mp hb]
      exact hG.there ha
    · intro a ha
      rcases List.mem_append.mp ha with ha | ha
      · exact hG.above a ha
      · rw [List.mem_singleton.mp ha]
        exact hlt
    · intro j b hj
      by_cases h1 : j < as.length
      · rw [List.getElem?_append_left h1] at hj
        obtain ⟨x', y', e1, e2, e3⟩ := hG.pairs j b hj
        have na := am b (List.mem_of_getElem? hj)
        exact ⟨x', y', e1, e2, up b _ na.2.2.2.2 (kp b _ na.1 na.2.1 na.2.2.1 na.2.2.2.1 e3)⟩
      · have h2 : j = as.length := by
          have := (List.getElem?_eq_some_iff.mp hj).1
          rw [List.length_append, List.length_singleton] at this
          omega
        subst h2
        have hb : h.objs.size = b := by simpa using hj
        subst hb
        exact ⟨x, y, by rw [hal]; exact hx, by rw [hal]; exact hy, up _ _ (Nat.ne_of_gt hSl) ht⟩
    · have e := up _ _ (Nat.ne_of_gt hSl) ht
      exact Nat.lt_trans hlt (Heap.lt_size e)
theorem zl_hint (hT : s.TypeIs (.ref z) "zip") {Q : Bool → Shared → Prop} (h : Q true s) : wpAny (model prog w) A (Builtin.List.listLengthHint (.ref z)) Q E s := by
  unfold Builtin.List.listLengthHint
  refine wpAny_bind (wpAny_specialOf hT no_len ?_)
  refine wpAny_ite_split (fun hab => absurd hab (by decide)) (fun _ => ?_)
  refine wpAny_ite_split (fun hab => absurd hab (by decide)) (fun _ => ?_)
  exact wpAny_bind (wpAny_specialOf hT no_hint (wpAny_pure h))
end
end Zl

set_option linter.all false
set_option maxHeartbeats 2000000
namespace Zl
open PySem PySem.Spec PyProof.Rows L2 PySem.W
section
variable {prog : Program} {w : World} {A : Around} {E : Value → Shared → Prop} {s : Shared} {z TI TO i1 i2 l1 l2 S : Addr} {xs ys : Array Value}
/-- list's own filling by the zip -/
theorem zl_fill {R : Result → Shared → Prop} (hh : A.handled = none) (D : ZipApart z TI TO i1 i2 l1 l2) (hs : S ≠ z ∧ S ≠ TI ∧ S ≠ TO ∧ S ≠ i1 ∧ S ≠ i2) (hsl : S ≠ l1 ∧ S ≠ l2) (hlo : z ≤ S ∧ TO ≤ S ∧ i1 ≤ S ∧ i2 ≤ S)
    (hz : IsZip s.heap z TI TO .none) (hTI : IsPair s.heap TI (.ref i1) (.ref i2)) {a b : Value} (hTO : IsPair s.heap TO a b) (h1 : s.heap.IsListIter i1 l1 0) (h2 : s.heap.IsListIter i2 l2 0) (hl1 : s.heap.IsList l1 xs) (hl2 : s.heap.IsList l2 ys)
    (hS : s.heap.get? S = some { cls := .type "list", data := .seq #[] }) (hn : min xs.size ys.size ≤ sizeLine)
    (hR : ∀ h' tk acc c as, (∀ b o, b ≠ S → b ≠ z → b ≠ TO → b ≠ i1 → b ≠ i2 → s.heap.get? b = some o → h'.get? b = some o) → h'.get? S = some { cls := .type "list", dict := none, data := .seq acc c, slots := #[] } →
      as.length = min xs.size ys.size → Made xs ys S h' as → acc.toList = as.map Value.ref → R (.ok (.ret .none)) { s with heap := h', toks := tk }) :
    wpAny (model prog w) A.in1 (Builtin.«list.__init__» ⟨[.ref S, .ref z], []⟩)
      (fun fin s' => match fin with | .done f => R (.ok f) s' | .again c' => c'.quiet = true ∧ codeAny (model prog w) A c' R s') (fun e s' => R (.error e) s') s := by
  show wpAny _ _ (do let old ← Builtin.List.listItems (.ref S); Builtin.List.listUpdate (.ref S) (fun _ => #[]); letGo old.toList.reverse; Builtin.List.listExtendWith (.ref S) (.ref z) .none) _ _ s
  refine wpAny_bind ?_
  unfold Builtin.List.listItems
  refine wpAny_bind (wpAny_seqItems hS rfl (wpAny_pure ?_))
  refine wpAny_bind (wpAny_updateSeq hS rfl ?_)
  have hS2 := Heap.get?_update_self (Obj.mapSeq (fun _ => (#[] : Array Value))) hS rfl
  have oth : ∀ b o, b ≠ S → s.heap.get? b = some o → (s.heap.update S (Obj.mapSeq (fun _ => (#[] : Array Value)))).get? b = some o := fun b o hb e => by
    rw [Heap.get?_update_other _ _ (Ne.symm hb)]
    exact e
  refine wpAny_bind (wpAny_letGo ?_)
  have hz2 := oth _ _ hs.1.symm hz
  have key : ∀ (h : Heap) (c tk : Nat), (∀ b o, b ≠ S → s.heap.get? b = some o → h.get? b = some o) → h.get? S = some { cls := .type "list", data := .seq #[] c } →
      codeAny (model prog w) A (.builtin "list.extend.loop" ⟨[.ref S, .ref z, .none], []⟩) R { s with heap := h, toks := tk } := fun h c tk k hS3 =>
    zl_loop (s := s) (h₁ := s.heap) (lo := S) hh D hs hsl ⟨Nat.le_refl _, hlo⟩ rfl hn .none hR _ 0 h tk c #[] [] rfl (Nat.zero_le _)
      ⟨k _ _ hs.2.1.symm hTI, h1.at fun o e => k _ o hs.2.2.2.1.symm e, h2.at fun o e => k _ o hs.2.2.2.2.symm e, .inl ⟨k _ _ hs.1.symm hz, a, b, k _ _ hs.2.2.1.symm hTO⟩⟩ (hl1.at fun o e => k _ o hsl.1.symm e) (hl2.at fun o e => k _ o hsl.2.symm e)
      (fun b o b1 _ _ _ _ e => k b o b1 e) hS3 rfl rfl ⟨List.Pairwise.nil, (fun _ ha => nomatch ha), (fun j a hj => by simp at hj)⟩ (Heap.lt_size hS3)
  unfold Builtin.List.listExtendWith
  refine wpAny_bind (wpAny_typeOf (T := "zip") ⟨_, hz2, rfl⟩ ?_)
  have n1 : Builtin.List.listSameRef (.ref S) (.ref z) = false := by simp [Builtin.List.listSameRef, hs.1]
  have n2 : (Value.type "zip" == Value.type "list") = false := by decide
  have n3 : (Value.type "zip" == Value.type "tuple") = false := by decide
  simp only [n1, n2, n3, Bool.or_false, Bool.false_eq_true, if_false]
  refine wpAny_bind (wpAny_pyIter_zip hz2 ?_)
  refine wpAny_bind (wpAny_holding (zl_hint ⟨_, hz2, rfl⟩ ?_))
  refine wpAny_ite_split (fun _ => ?_) (fun hab => absurd rfl hab)
  refine wpAny_bind (wpAny_rule ?_)
  refine wpAny_bind ?_
  show wpAny _ _ (updateSeq S (·.push .none) >>= fun _ => updateSeq S (·.pop)) _ _ _
  refine wpAny_bind (wpAny_updateSeq hS2 rfl ?_)
  have hS4 := Heap.get?_update_self (Obj.mapSeq (·.push Value.none)) hS2 rfl
  refine wpAny_updateSeq (hz := by seq_fits) hS4 rfl ?_
  have hS5 := Heap.get?_update_self (Obj.mapSeq (·.pop)) hS4 rfl
  refine wpAny_pure ⟨plainId_quiet F.plain_extend_loop _, key _ _ _ (fun b o hb e => ?_) hS5⟩
  rw [Heap.get?_update_other _ _ (Ne.symm hb), Heap.get?_update_other _ _ (Ne.symm hb)]
  exact oth b o hb e
theorem zl_call {Q : Value → Shared → Prop} (hh : A.handled = none) (D : ZipApart z TI TO i1 i2 l1 l2) (hz : IsZip s.heap z TI TO .none) (hTI : IsPair s.heap TI (.ref i1) (.ref i2)) {a b : Value} (hTO : IsPair s.heap TO a b)
    (h1 : s.heap.IsListIter i1 l1 0) (h2 : s.heap.IsListIter i2 l2 0) (hl1 : s.heap.IsList l1 xs) (hl2 : s.heap.IsList l2 ys) (hn : min xs.size ys.size ≤ sizeLine)
    (q : ∀ h' tk acc c as, (∀ b o, b ≠ z → b ≠ TO → b ≠ i1 → b ≠ i2 → s.heap.get? b = some o → h'.get? b = some o) → h'.get? s.heap.objs.size = some { cls := .type "list", dict := none, data := .seq acc c, slots := #[] } →
      as.length = min xs.size ys.size → Made xs ys s.heap.objs.size h' as → acc.toList = as.map Value.ref → Q (.ref s.heap.objs.size) { s with heap := h', toks := tk }) :
    wpAny (model prog w) A (call (.type "list") [.ref z]) Q E s := by
  refine callType_codes (Q₁ := fun obj s₁ => obj = .ref s.heap.objs.size ∧ s₁ = { s with heap := s.heap.push { cls := .type "list", data := .seq #[] } }) F.called_list (F.typeCall_list_1 _) F.entry_list_init
    (code_list_new _ ⟨rfl, rfl⟩) fun obj s₁ e1 => ?_
  obtain ⟨rfl, rfl⟩ := e1
  have hS : (s.heap.push { cls := .type "list", data := .seq #[] }).get? s.heap.objs.size = some { cls := .type "list", data := .seq #[] } := Heap.get?_push_size _ rfl
  have up : ∀ c o, s.heap.get? c = some o → (s.heap.push { cls := .type "list", data := .seq #[] }).get? c = some o := fun c o e => Heap.get?_push_of_some _ e
  obtain ⟨o1, e1, _⟩ := id h1
  obtain ⟨o2, e2, _⟩ := id h2
  obtain ⟨p1, g1, _⟩ := id hl1
  obtain ⟨p2, g2, _⟩ := id hl2
  have lz := Heap.lt_size hz
  have lTO := Heap.lt_size hTO
  have li1 := Heap.lt_size e1
  have li2 := Heap.lt_size e2
  refine ⟨⟨_, hS, rfl⟩, F.args_list_init_2 _ _, zl_fill (A := A.in1) hh D ⟨Nat.ne_of_gt lz, Nat.ne_of_gt (Heap.lt_size hTI), Nat.ne_of_gt lTO, Nat.ne_of_gt li1, Nat.ne_of_gt li2⟩ ⟨Nat.ne_of_gt (Heap.lt_size g1), Nat.ne_of_gt (Heap.lt_size g2)⟩
    ⟨Nat.le_of_lt lz, Nat.le_of_lt lTO, Nat.le_of_lt li1, Nat.le_of_lt li2⟩ (up _ _ hz) (up _ _ hTI) (up _ _ hTO) (h1.at fun o e => up _ o e) (h2.at fun o e => up _ o e) (hl1.at fun o e => up _ o e) (hl2.at fun o e => up _ o e) hS hn
    fun h' tk acc c as k hS' hl hG hacc => ?_⟩
  exact ⟨rfl, q h' tk acc c as (fun b o b1 b2 b3 b4 e => k b o (Nat.ne_of_lt (Heap.lt_size e)) b1 b2 b3 b4 (up b o e)) hS' hl hG hacc⟩
end
/-! ### the rule of the layer -/
def tListZip (K : PySem.W.Frag) (ta : TA) : TE := fun σ H Q => ta σ H fun vs H1 => ∃ a b xs ys, vs = [.ref a, .ref b] ∧ SqL K H1 a xs ∧ SqL K H1 b ys ∧
  ∀ (H' : Hp) (p : Addr) (ts : List Addr), Same H1 H' → H1 p = none → (∀ t ∈ ts, H1 t = none) → p ∉ ts → H' p = some (.lst (ts.map V.ref)) → ts.length = min xs.length ys.length →
    (∀ (i : Nat) (t : Addr), ts[i]? = some t → ∃ x y, xs[i]? = some x ∧ ys[i]? = some y ∧ H' t = some (.tup [x, y])) → Q (.ref p) H'
/-- pairs tracked at their addresses -/
def put2 : Hp → List Addr → List V → List V → Hp
  | H, a :: as, x :: xs, y :: ys => put2 (upd H a (.tup [x, y])) as xs ys
  | H, _, _, _ => H
theorem put2_off {b : Addr} : ∀ (as : List Addr) (xs ys : List V) (H : Hp), b ∉ as → put2 H as xs ys b = H b
  | [], _, _, _, _ => rfl
  | _ :: _, [], _, _, _ => rfl
  | _ :: _, _ :: _, [], _, _ => rfl
  | a :: as, x :: xs, y :: ys, H, h => by
    show put2 (upd H a (.tup [x, y])) as xs ys b = H b
    rw [put2_off as xs ys _ (fun q => h (List.mem_cons_of_mem _ q)), upd_ne (fun q => h (by rw [q]; exact List.mem_cons_self))]
theorem put2_at : ∀ (as : List Addr) (xs ys : List V) (H : Hp), as.length = min xs.length ys.length → as.Nodup → ∀ (i : Nat) (t : Addr), as[i]? = some t → ∃ x y, xs[i]? = some x ∧ ys[i]? = some y ∧ put2 H as xs ys t = some (.tup [x, y])
  | [], _, _, _, _, _, i, t, e => by simp at e
  | _ :: _, [], _, _, h, _, _, _, _ => by simp at h
  | _ :: _, _ :: _, [], _, h, _, _, _, _ => by simp at h
  | a :: as, x :: xs, y :: ys, H, h, hn, i, t, e => by
    have hn' := List.nodup_cons.mp hn
    have ih := put2_at as xs ys (upd H a (.tup [x, y])) (by simp only [List.length_cons] at h; omega) hn'.2
    cases i with
    | zero =>
      have e' : a = t := by simpa using e
      subst e'
      refine ⟨x, y, rfl, rfl, ?_⟩
      show put2 (upd H a (.tup [x, y])) as xs ys a = _
      rw [put2_off as xs ys _ hn'.1, upd_same]
    | succ i => exact ih i t (by simpa using e)
section
variable {X : Cx} {e e2 : Expr} {ta : TA} {p p2 pos q : Pos}
theorem pe_listZip (hc : X.calm = true) (hg : Gl X "list") (hm : X.mg "list" = none) (hg2 : Gl X "zip") (hm2 : X.mg "zip" = none) (ha : PA X [e, e2] ta)
    (hs : starEach [e, e2] X.env = (false, eval e X.env) :: starEach [e2] X.env := by rfl) (hpl : (backTo q (starEach [e2] X.env)).any (·.1) = false := by rfl)
    (hs2 : starEach [.Call (.Name "zip" p2) [e, e2] [] q] X.env = (false, eval (.Call (.Name "zip" p2) [e, e2] [] q) X.env) :: starEach [] X.env := by rfl) :
    PE X (.Call (.Name "list" p) [.Call (.Name "zip" p2) [e, e2] [] q] [] pos) (tListZip X.K ta) := by
  refine ⟨fun pins s σ H Q I h => ?_⟩
  refine wpAny_Call_Name_kw (ld_blt I hg hm (by decide +kernel : bootBuiltins "list" = some (.type "list")) ?_)
  refine PyProof.Rows.callWith_type1 ?_ hs2 rfl
  rw [hs2]
  refine Calls.spliced_cons ?_
  refine Call_ (ld_blt I hg2 hm2 PyProof.Rows.boot_zip (PyProof.Rows.callWith_type1 (thn (ha.run q pins s σ H _ I h) fun us s1 ⟨vs, H1, I1, r1, q1⟩ => ?_) hs hpl))
  obtain ⟨a, b, xs, ys, ex, hqx, hqy, k0⟩ := q1
  subst ex
  cases r1 with
  | cons r rr =>
    cases rr with
    | cons r' rr =>
      cases rr
      cases r
      cases r'
      obtain ⟨its, rv, pl1, hz1⟩ := I1.list hqx
      obtain ⟨its2, rv2, pl2, hz2⟩ := I1.list hqy
      have la : a < s1.heap.objs.size := pl1.lt
      have lb : b < s1.heap.objs.size := pl2.lt
      have D := PySem.W.ktu_apart s1.heap.objs.size a b la lb
      have e1 := rv.length
      have e2' := rv2.length
      refine call_zip_2 pl1.isList pl2.isList fun h' hz hTI hTO h1 h2 hsz hk => Calls.spliced_nil ?_
      refine zl_call (s := { s1 with heap := h' }) (I1.ok.hd hc) D hz hTI hTO h1 h2 (pl1.isList.at fun o e => hk _ o e) (pl2.isList.at fun o e => hk _ o e) (by simp only [List.size_toArray]; omega) fun h3 tk acc c as k hS hl hG hacc => ?_
      dsimp only at hS k hG ⊢
      have hlo : s1.heap.objs.size ≤ h'.objs.size := by rw [hsz]; exact Nat.le_add_right _ _
      have old : ∀ b o, s1.heap.get? b = some o → h3.get? b = some o := fun b o eb => by
        have hb := Heap.lt_size eb
        refine k b o ?_ ?_ ?_ ?_ (hk b o eb)
        · exact Nat.ne_of_lt (Nat.lt_of_lt_of_le hb (Nat.le_add_right _ _))
        · exact Nat.ne_of_lt (Nat.lt_of_lt_of_le hb (Nat.le_add_right _ _))
        · exact Nat.ne_of_lt hb
        · exact Nat.ne_of_lt (Nat.lt_of_lt_of_le hb (Nat.le_add_right _ _))
      have hSn : h'.objs.size ∉ as := fun m => Nat.lt_irrefl _ (hG.above _ m)
      have nd : as.Nodup := List.Pairwise.imp (fun {a b} (h : a < b) => Nat.ne_of_lt h) hG.rise
      have new : ∀ t ∈ as, H1 t = none := fun t ht => I1.hok.fresh (Nat.le_trans hlo (Nat.le_of_lt (hG.above t ht)))
      have newS : H1 h'.objs.size = none := I1.hok.fresh hlo
      generalize hF : put2 (upd H1 h'.objs.size (.lst (as.map V.ref))) as xs ys = F
      have atP := put2_at as xs ys (upd H1 h'.objs.size (.lst (as.map V.ref))) (by rw [hl]; simp only [List.size_toArray]; omega) nd
      rw [hF] at atP
      have off : ∀ b, b ∉ as → b ≠ h'.objs.size → F b = H1 b := fun b b1 b2 => by rw [← hF, put2_off as xs ys _ b1, upd_ne b2]
      have kp : ∀ b u, H1 b = some u → F b = some u := fun b u eb => by
        rw [off b (fun m => by rw [new b m] at eb; cases eb) (fun m => by rw [m, newS] at eb; cases eb)]
        exact eb
      have eS : F h'.objs.size = some (.lst (as.map V.ref)) := by rw [← hF, put2_off as xs ys _ hSn, upd_same]
      have J : Inv X pins σ F { s1 with heap := h3, toks := tk } := by
        refine I1.call' (ch := []) rfl ⟨fun b o q _ _ _ => old b o q, fun b o q _ _ _ => ⟨o.slots, old b o q⟩, fun b o q n _ => ?_, fun b o q _ => ⟨o, old b o q⟩, fun b xs q => kp b _ q, fun b o u q => kp b _ q, fun b ps q => ⟨#[], by rw [kp b _ q]; simp⟩⟩ (fun b u q => ?_) I1.bare fun b m => by simp at m
        · have hb := Heap.lt_size q
          rw [off b (fun m => Nat.lt_irrefl _ (Nat.lt_trans hb (Nat.lt_of_le_of_lt hlo (hG.above b m)))) (Nat.ne_of_lt (Nat.lt_of_lt_of_le hb hlo))]
          exact n
        · by_cases hb : b ∈ as
          · obtain ⟨j, hj⟩ := List.mem_iff_getElem?.mp hb
            obtain ⟨x, y, f1, f2, f3⟩ := atP j b hj
            rw [f3] at q
            cases q
            obtain ⟨u1, u2, g1, g2, g3⟩ := hG.pairs j b hj
            obtain ⟨v1, m1, m2⟩ := rv.get f1
            obtain ⟨v2, m3, m4⟩ := rv2.get f2
            have w1 : v1 = u1 := by
              have : its.toArray[j]? = some v1 := by simpa using m1
              rw [this] at g1
              exact Option.some.inj g1
            have w2 : v2 = u2 := by
              have : its2.toArray[j]? = some v2 := by simpa using m3
              rw [this] at g2
              exact Option.some.inj g2
            subst w1 w2
            exact ⟨by show 2 ≤ sizeLine; decide, [v1, v2], .cons m2 (.cons m4 .nil), ⟨_, g3, rfl, _, rfl⟩⟩
          · by_cases hb2 : b = h'.objs.size
            · subst hb2
              rw [eS] at q
              cases q
              refine ⟨by rw [List.length_map, hl]; simp only [List.size_toArray]; omega, acc.toList, c, by rw [hacc]; exact LiI.vals_refs as, ?_⟩
              rw [Array.toArray_toList]
              exact hS
            · rw [off b hb hb2] at q
              exact (I1.hok b u q).stay (fun d v _ y => old d v y) (fun d y => kp d _ y) fun d zs y => kp d _ y
      exact ⟨.ref _, F, J, rfl, k0 F _ as kp newS new hSn eS (by rw [hl]; simp only [List.size_toArray]; omega) atP⟩
end
end Zl

namespace Mw
open PySem L2
/-! ### the plain form by levels -/
def dm : T → T
  | .nil => .nil
  | .text s r => .text s (dm r)
  | .shw n r => .shw n (dm r)
  | .num r => .num (dm r)
  | .cho hd cs o r => .cho hd (pl ("" : Str) cs) (pl ("" : Str) o) (dm r)
  | .cas k m r => .cas k m (dm r)
theorem txt_e (u : T) : txt ("" : Str) u = u := if_pos rfl
theorem dm_txt (s : Str) (u : T) : dm (txt s u) = txt s (dm u) := by
  unfold txt
  split <;> rfl
theorem pl_dm : ∀ {t : T}, Wf t false → ∀ ss, pl (catS ss) t = dm (jt ss t)
  | .nil, _, ss => by
    show txt (catS ss) .nil = dm (txt (catS ss) .nil)
    rw [dm_txt]
    rfl
  | .text s r, w, ss => by
    show pl (catS ss ++ s) r = dm (jt (ss ++ [s]) r)
    rw [← cat_add]
    exact pl_dm w.2 _
  | .shw n r, w, ss => by
    have := pl_dm w.2 []
    show txt (catS ss) (.shw n (pl ("" : Str) r)) = dm (txt (catS ss) (.shw n (jt [] r)))
    rw [dm_txt]
    rw [cat_nil] at this
    rw [this]
    rfl
  | .num r, w, ss => by
    have := pl_dm w.2 []
    show txt (catS ss) (.num (pl ("" : Str) r)) = dm (txt (catS ss) (.num (jt [] r)))
    rw [dm_txt]
    rw [cat_nil] at this
    rw [this]
    rfl
  | .cho hd cs o r, w, ss => by
    have := pl_dm w.2.2.2.2 []
    show txt (catS ss) (.cho hd (pl ("" : Str) cs) (pl ("" : Str) o) (pl ("" : Str) r)) = dm (txt (catS ss) (.cho hd cs o (jt [] r)))
    rw [dm_txt]
    rw [cat_nil] at this
    rw [this]
    rfl
  | .cas _ _ _, w, _ => by cases w.1
theorem dm_app (u : T) : ∀ t : T, dm (t.app u) = (dm t).app (dm u)
  | .nil => rfl
  | .text s r => congrArg (T.text s) (dm_app u r)
  | .shw s r => congrArg (T.shw s) (dm_app u r)
  | .num r => congrArg T.num (dm_app u r)
  | .cho hd cs o r => congrArg (T.cho hd _ _) (dm_app u r)
  | .cas k m r => congrArg (T.cas k m) (dm_app u r)
theorem txt_wf {s : Str} {u : T} (w : Wf u false) : Wf (txt s u) false := by
  unfold txt
  split
  · exact w
  · exact ⟨rfl, w⟩
theorem jt_wf : ∀ {t : T}, Wf t false → ∀ ss, Wf (jt ss t) false
  | .nil, _, ss => txt_wf trivial
  | .text s r, w, ss => jt_wf w.2 _
  | .shw n r, w, ss => txt_wf ⟨rfl, jt_wf w.2 _⟩
  | .num r, w, ss => txt_wf ⟨rfl, jt_wf w.2 _⟩
  | .cho hd cs o r, w, ss => txt_wf ⟨rfl, w.2.1, w.2.2.1, w.2.2.2.1, jt_wf w.2.2.2.2 _⟩
  | .cas _ _ _, w, _ => by cases w.1
/-- what texts that wait weigh -/
def wt (ss : List Str) : Nat := if catS ss = ("" : Str) then 0 else 1 + (catS ss).length
theorem txt_sz (ss : List Str) (u : T) : (txt (catS ss) u).sz = wt ss + u.sz := by
  unfold txt wt
  split
  · omega
  · rfl
theorem str_len (a b : Str) : (a ++ b).length = a.length + b.length := by
  rw [TL.len_tl, TL.tl_append, List.length_append, ← TL.len_tl, ← TL.len_tl]
theorem wt_add (ss : List Str) (s : Str) : wt (ss ++ [s]) ≤ wt ss + (1 + s.length) := by
  unfold wt
  rw [cat_add]
  split
  · omega
  · rw [str_len]
    split
    · rename_i h
      rw [len_zero.mpr h]
      omega
    · omega
theorem jt_sz : ∀ {t : T}, Wf t false → ∀ ss, (jt ss t).sz ≤ wt ss + t.sz
  | .nil, _, ss => by
    show (txt (catS ss) .nil).sz ≤ _
    rw [txt_sz]
    exact Nat.le_refl _
  | .text s r, w, ss => by
    have h1 := jt_sz w.2 (ss ++ [s])
    have h2 := wt_add ss s
    show (jt (ss ++ [s]) r).sz ≤ wt ss + (1 + s.length + r.sz)
    omega
  | .shw n r, w, ss => by
    have h1 : (jt [] r).sz ≤ 0 + r.sz := jt_sz w.2 []
    show (txt (catS ss) (.shw n (jt [] r))).sz ≤ wt ss + (1 + r.sz)
    rw [txt_sz]
    simp only [T.sz]
    omega
  | .num r, w, ss => by
    have h1 : (jt [] r).sz ≤ 0 + r.sz := jt_sz w.2 []
    show (txt (catS ss) (.num (jt [] r))).sz ≤ wt ss + (1 + r.sz)
    rw [txt_sz]
    simp only [T.sz]
    omega
  | .cho hd cs o r, w, ss => by
    have h1 : (jt [] r).sz ≤ 0 + r.sz := jt_sz w.2.2.2.2 []
    show (txt (catS ss) (.cho hd cs o (jt [] r))).sz ≤ wt ss + (1 + cs.sz + o.sz + r.sz)
    rw [txt_sz]
    simp only [T.sz]
    omega
  | .cas _ _ _, w, _ => by cases w.1
/-! ### the lists that are being filled: G tells what each will be; L is the list of what waits -/
abbrev Gh := Addr → Option T
def Loc (H : Hp) (G : Gh) (L : Addr) : T → List V → Prop
  | .nil, vs => vs = []
  | .text s r, vs => ∃ p ws, vs = .ref p :: ws ∧ H p = some (.tup [.str "text", .str s]) ∧ Loc H G L r ws
  | .shw n r, vs => ∃ p ws, vs = .ref p :: ws ∧ H p = some (.tup [.str "show", .str n]) ∧ Loc H G L r ws
  | .num r, vs => ∃ p ws, vs = .ref p :: ws ∧ H p = some (.tup [.str "number"]) ∧ Loc H G L r ws
  | .cho hd cs o r, vs => ∃ p ws ca cvs oa, vs = .ref p :: ws ∧ H p = some (.tup (hd ++ [.ref ca, .ref oa])) ∧ H ca = some (.lst cvs) ∧ G ca = none ∧ ca ≠ L ∧ Loc H G L cs cvs ∧ G oa = some o ∧ Loc H G L r ws
  | .cas k m r, vs => ∃ p ws ma, vs = .ref p :: ws ∧ H p = some (.tup [k, .ref ma]) ∧ G ma = some m ∧ Loc H G L r ws
theorem Loc.app {H : Hp} {G : Gh} {L : Addr} {u : T} {us : List V} (hu : Loc H G L u us) : ∀ {t : T} {vs : List V}, Loc H G L t vs → Loc H G L (t.app u) (vs ++ us)
  | .nil, _, h => by rw [show _ = [] from h]; exact hu
  | .text s r, _, h => by
    obtain ⟨p, ws, rfl, hp, hr⟩ := h
    exact ⟨p, ws ++ us, rfl, hp, Loc.app hu hr⟩
  | .shw n r, _, h => by
    obtain ⟨p, ws, rfl, hp, hr⟩ := h
    exact ⟨p, ws ++ us, rfl, hp, Loc.app hu hr⟩
  | .num r, _, h => by
    obtain ⟨p, ws, rfl, hp, hr⟩ := h
    exact ⟨p, ws ++ us, rfl, hp, Loc.app hu hr⟩
  | .cho hd cs o r, _, h => by
    obtain ⟨p, ws, ca, cvs, oa, rfl, hp, hc, h1, h2, h3, h4, hr⟩ := h
    exact ⟨p, ws ++ us, ca, cvs, oa, rfl, hp, hc, h1, h2, h3, h4, Loc.app hu hr⟩
  | .cas k m r, _, h => by
    obtain ⟨p, ws, ma, rfl, hp, hm, hr⟩ := h
    exact ⟨p, ws ++ us, ma, rfl, hp, hm, Loc.app hu hr⟩
/-- once all is filled, the lists are the messages -/
theorem Loc.nodes {H : Hp} {G : Gh} {L : Addr} (fin : ∀ a t, G a = some t → ∃ vs, H a = some (.lst vs) ∧ Loc H G L t vs) : ∀ {t : T} {vs : List V}, Loc H G L t vs → Nodes H t vs
  | .nil, _, h => h
  | .text s r, _, h => by
    obtain ⟨p, ws, rfl, hp, hr⟩ := h
    exact ⟨p, ws, rfl, hp, Loc.nodes fin hr⟩
  | .shw n r, _, h => by
    obtain ⟨p, ws, rfl, hp, hr⟩ := h
    exact ⟨p, ws, rfl, hp, Loc.nodes fin hr⟩
  | .num r, _, h => by
    obtain ⟨p, ws, rfl, hp, hr⟩ := h
    exact ⟨p, ws, rfl, hp, Loc.nodes fin hr⟩
  | .cho hd cs o r, _, h => by
    obtain ⟨p, ws, ca, cvs, oa, rfl, hp, hc, h1, h2, h3, h4, hr⟩ := h
    obtain ⟨ovs, ho, hol⟩ := fin oa o h4
    exact ⟨p, ws, ca, cvs, oa, ovs, rfl, hp, hc, Loc.nodes fin h3, ho, Loc.nodes fin hol, Loc.nodes fin hr⟩
  | .cas k m r, _, h => by
    obtain ⟨p, ws, ma, rfl, hp, hm, hr⟩ := h
    obtain ⟨mvs, hmv, hml⟩ := fin ma m hm
    exact ⟨p, ws, ma, mvs, rfl, hp, hmv, Loc.nodes fin hml, Loc.nodes fin hr⟩
/-- a step: d (a list that is filled) and L may change, G may grow -/
structure Stp (H : Hp) (G : Gh) (H' : Hp) (G' : Gh) (d L : Addr) : Prop where
  dl : ∃ xs, H d = some (.lst xs)
  dg : ∃ t, G d = some t
  ll : ∃ xs, H L = some (.lst xs)
  ext : ∀ b o, b ≠ d → b ≠ L → H b = some o → H' b = some o
  grow : ∀ b t, G b = some t → G' b = some t
  stay : ∀ b o, H b = some o → G b = none → G' b = none
theorem Stp.tup {H H' : Hp} {G G' : Gh} {d L p : Addr} {xs : List V} (s : Stp H G H' G' d L) (h : H p = some (.tup xs)) : H' p = some (.tup xs) := by
  refine s.ext p _ ?_ ?_ h
  · rintro rfl
    obtain ⟨ys, e⟩ := s.dl
    rw [h] at e
    cases e
  · rintro rfl
    obtain ⟨ys, e⟩ := s.ll
    rw [h] at e
    cases e
theorem Loc.step {H H' : Hp} {G G' : Gh} {d L : Addr} (s : Stp H G H' G' d L) : ∀ {t : T} {vs : List V}, Loc H G L t vs → Loc H' G' L t vs
  | .nil, _, h => h
  | .text _ r, _, h => by
    obtain ⟨p, ws, rfl, hp, hr⟩ := h
    exact ⟨p, ws, rfl, s.tup hp, Loc.step s hr⟩
  | .shw n r, _, h => by
    obtain ⟨p, ws, rfl, hp, hr⟩ := h
    exact ⟨p, ws, rfl, s.tup hp, Loc.step s hr⟩
  | .num r, _, h => by
    obtain ⟨p, ws, rfl, hp, hr⟩ := h
    exact ⟨p, ws, rfl, s.tup hp, Loc.step s hr⟩
  | .cho hd cs o r, _, h => by
    obtain ⟨p, ws, ca, cvs, oa, rfl, hp, hc, h1, h2, h3, h4, hr⟩ := h
    refine ⟨p, ws, ca, cvs, oa, rfl, s.tup hp, s.ext _ _ ?_ h2 hc, s.stay _ _ hc h1, h2, Loc.step s h3, s.grow _ _ h4, Loc.step s hr⟩
    rintro rfl
    obtain ⟨t, e⟩ := s.dg
    rw [h1] at e
    cases e
  | .cas k m r, _, h => by
    obtain ⟨p, ws, ma, rfl, hp, hm, hr⟩ := h
    exact ⟨p, ws, ma, rfl, s.tup hp, s.grow _ _ hm, Loc.step s hr⟩
/-- G with the new lists -/
def asg (G : Gh) : List Addr → List T → Gh
  | a :: as, t :: ts => fun b => if b = a then some t else asg G as ts b
  | _, _ => G
theorem asg_off {G : Gh} {b : Addr} : ∀ {as : List Addr} {ts : List T}, b ∉ as → asg G as ts b = G b
  | [], _, _ => rfl
  | _ :: _, [], _ => rfl
  | a :: as, t :: ts, h => by
    show (if b = a then some t else asg G as ts b) = G b
    rw [if_neg fun e => h (by rw [e]; exact List.mem_cons_self), asg_off fun e => h (List.mem_cons_of_mem _ e)]
theorem asg_at {G : Gh} : ∀ {as : List Addr} {ts : List T} {i : Nat} {a : Addr} {t : T}, as.Nodup → as[i]? = some a → ts[i]? = some t → asg G as ts a = some t
  | [], _, _, _, _, _, h, _ => by simp at h
  | _ :: _, [], _, _, _, _, _, h => by simp at h
  | a :: as, t :: ts, 0, a', t', _, h, h' => by
    have e1 : a = a' := by simpa using h
    have e2 : t = t' := by simpa using h'
    subst e1 e2
    exact if_pos rfl
  | a :: as, t :: ts, i + 1, a', t', n, h, h' => by
    have n' := List.nodup_cons.mp n
    have h1 : as[i]? = some a' := by simpa using h
    show (if a' = a then some t else asg G as ts a') = some t'
    rw [if_neg (by rintro rfl; exact n'.1 (List.mem_of_getElem? h1))]
    exact asg_at n'.2 h1 (by simpa using h')
theorem asg_in {G : Gh} {b : Addr} {t : T} {as : List Addr} {ts : List T} (h : asg G as ts b = some t) : b ∈ as ∨ G b = some t := by
  by_cases e : b ∈ as
  · exact .inl e
  · rw [asg_off e] at h
    exact .inr h
/-- what waits: a source and the list that it goes to -/
def Pd (H H' : Hp) (G : Gh) (x : T × Addr) (v : V) : Prop := ∃ q s, v = .ref q ∧ H' q = some (.tup [.ref s, .ref x.2]) ∧ At (mix H H') s x.1 ∧ Wf x.1 false ∧ H' x.2 = some (.lst []) ∧ G x.2 = some (pl ("" : Str) x.1)
theorem pd_step {H H1 H2 : Hp} {G G' : Gh} {d L : Addr} {x : T × Addr} {v : V} (s : Stp H1 G H2 G' d L) (m : Same (mix H H1) (mix H H2)) (hd : x.2 ≠ d) (hL : x.2 ≠ L) (h : Pd H H1 G x v) : Pd H H2 G' x v := by
  obtain ⟨q, a, e, hq, ha, hw, hx, hg⟩ := h
  exact ⟨q, a, e, s.tup hq, ha.same m, hw, s.ext _ _ hd hL hx, s.grow _ _ hg⟩
def Pds (H H' : Hp) (G : Gh) : List (T × Addr) → List V → Prop
  | [], vs => vs = []
  | x :: xs, vs => ∃ v ws, vs = v :: ws ∧ Pd H H' G x v ∧ Pds H H' G xs ws
theorem Pds.length {H H' : Hp} {G : Gh} : ∀ {xs : List (T × Addr)} {vs : List V}, Pds H H' G xs vs → vs.length = xs.length
  | [], _, h => by rw [show _ = [] from h]; rfl
  | x :: xs, _, h => by
    obtain ⟨v, ws, rfl, _, h2⟩ := h
    exact congrArg (· + 1) h2.length
theorem Pds.app {H H' : Hp} {G : Gh} {xs' : List (T × Addr)} {vs' : List V} (h' : Pds H H' G xs' vs') : ∀ {xs : List (T × Addr)} {vs : List V}, Pds H H' G xs vs → Pds H H' G (xs ++ xs') (vs ++ vs')
  | [], _, h => by rw [show _ = [] from h]; exact h'
  | x :: xs, _, h => by
    obtain ⟨v, ws, rfl, h1, h2⟩ := h
    exact ⟨v, ws ++ vs', rfl, h1, Pds.app h' h2⟩
theorem Pds.last {H H' : Hp} {G : Gh} : ∀ {xs : List (T × Addr)} {vs : List V}, Pds H H' G xs vs → xs ≠ [] → ∃ ys x us v, xs = ys ++ [x] ∧ vs = us ++ [v] ∧ Pds H H' G ys us ∧ Pd H H' G x v
  | [], _, _, n => absurd rfl n
  | x :: xs, _, h, _ => by
    obtain ⟨v, ws, rfl, h1, h2⟩ := h
    by_cases e : xs = []
    · subst e
      rw [show ws = [] from h2]
      exact ⟨[], x, [], v, rfl, rfl, rfl, h1⟩
    · obtain ⟨ys, y, us, u, e1, e2, h3, h4⟩ := Pds.last h2 e
      exact ⟨x :: ys, y, v :: us, u, by rw [e1]; rfl, by rw [e2]; rfl, ⟨v, us, rfl, h1, h3⟩, h4⟩
theorem pds_step {H H1 H2 : Hp} {G G' : Gh} {d L : Addr} (s : Stp H1 G H2 G' d L) (m : Same (mix H H1) (mix H H2)) : ∀ {xs : List (T × Addr)} {vs : List V}, (∀ x ∈ xs, x.2 ≠ d ∧ x.2 ≠ L) → Pds H H1 G xs vs → Pds H H2 G' xs vs
  | [], _, _, h => h
  | x :: xs, _, hx, h => by
    obtain ⟨v, ws, rfl, h1, h2⟩ := h
    have := hx x (by simp)
    exact ⟨v, ws, rfl, pd_step s m this.1 this.2 h1, pds_step s m (fun y hy => hx y (List.mem_cons_of_mem _ hy)) h2⟩
def pw (xs : List (T × Addr)) : Nat := (xs.map fun x => x.1.sz + 1).sum
theorem pw_app (xs ys : List (T × Addr)) : pw (xs ++ ys) = pw xs + pw ys := by
  unfold pw
  rw [List.map_append, List.sum_append]
theorem pw_len : ∀ xs : List (T × Addr), xs.length ≤ pw xs
  | [] => Nat.le_refl _
  | x :: xs => by
    have := pw_len xs
    show xs.length + 1 ≤ x.1.sz + 1 + pw xs
    omega
theorem mix_mix {H H1 H2 : Hp} (s : Same H1 H2) : Same (mix (mix H H1) H2) (mix H H2) := fun a o h => by
  have base : ∀ {xs : List V}, H a = none → H2 a = some (.tup xs) → mix H H2 a = some (.tup xs) := fun {xs} e1 e2 => by
    unfold mix
    rw [e1]
    simp only
    rw [e2]
  rcases mix_in h with k | ⟨k, xs, rfl, k2⟩
  · rcases mix_in k with k3 | ⟨k3, ys, rfl, k4⟩
    · exact mix_old _ _ k3
    · exact base k3 (s _ _ k4)
  · refine base ?_ k2
    cases e : H a with
    | none => rfl
    | some u =>
      rw [mix_old _ _ e] at k
      cases k
/-- the cases of a chain, by its keys -/
theorem keys_at {H : Hp} : ∀ {cs : T} {cvs : List V}, Nodes H cs cvs → Wf cs true → KeysAt H cvs cs.keys
  | .nil, _, h, _ => by
    rw [show _ = [] from h]
    exact ⟨rfl, fun i v e => by simp at e⟩
  | .cas k m r, _, h, w => by
    obtain ⟨p, ws, ma, mvs, rfl, hp, hm, hms, hr⟩ := h
    obtain ⟨i1, i2⟩ := keys_at hr w.2.2.2
    refine ⟨congrArg (· + 1) i1, fun i v e => ?_⟩
    cases i with
    | zero =>
      have e' : V.ref p = v := by simpa using e
      subst e'
      exact ⟨p, k, .ref ma, rfl, rfl, hp⟩
    | succ i =>
      obtain ⟨q, k', x, e1, e2, e3⟩ := i2 i v (by simpa using e)
      exact ⟨q, k', x, e1, by simpa [T.keys] using e2, e3⟩
  | .text _ _, _, _, w => by cases w.1
  | .shw _ _, _, _, w => by cases w.1
  | .num _, _, _, w => by cases w.1
  | .cho _ _ _ _, _, _, w => by cases w.1
theorem msgs_len : ∀ {cs : T}, Wf cs true → cs.msgs.length = cs.keys.length ∧ cs.keys.length = cs.len
  | .nil, _ => ⟨rfl, rfl⟩
  | .cas k m r, w => by
    obtain ⟨h1, h2⟩ := msgs_len w.2.2.2
    exact ⟨congrArg (· + 1) h1, congrArg (· + 1) h2⟩
  | .text _ _, w => by cases w.1
  | .shw _ _, w => by cases w.1
  | .num _, w => by cases w.1
  | .cho _ _ _ _, w => by cases w.1
/-- the new cases, their messages still to be filled -/
theorem cases_loc {H : Hp} {G : Gh} {L : Addr} : ∀ {cs : T} {tvs : List V} {fs : List Addr}, Wf cs true → CasesAt H tvs cs.keys (fs.map V.ref) → (∀ (i : Nat) (a : Addr) (m : T), fs[i]? = some a → cs.msgs[i]? = some m → G a = some (pl ("" : Str) m)) → Loc H G L (pl ("" : Str) cs) tvs
  | .nil, tvs, fs, _, h, _ => by
    have : tvs = [] := List.length_eq_zero_iff.mp h.1
    subst this
    exact (txt_e .nil).symm ▸ rfl
  | .cas k m r, tvs, fs, w, h, hg => by
    show Loc H G L (txt ("" : Str) (.cas k (pl ("" : Str) m) (pl ("" : Str) r))) tvs
    rw [txt_e]
    cases tvs with
    | nil => cases h.1
    | cons v tvs =>
      obtain ⟨q, k', f, e1, e2, e3, e4⟩ := h.2 0 v rfl
      have e2' : k = k' := by simpa [T.keys] using e2
      subst e1 e2'
      cases fs with
      | nil => simp at e3
      | cons a fs =>
        have e3' : V.ref a = f := by simpa using e3
        subst e3'
        refine ⟨q, tvs, a, rfl, e4, hg 0 a m rfl rfl, cases_loc w.2.2.2 ⟨Nat.succ.inj h.1, fun i v e => ?_⟩ fun i a' m' h1 h2 => hg (i + 1) a' m' (by simpa using h1) (by simpa [T.msgs] using h2)⟩
        obtain ⟨q2, k2, f2, g1, g2, g3, g4⟩ := h.2 (i + 1) v (by simpa using e)
        exact ⟨q2, k2, f2, g1, by simpa [T.keys] using g2, by simpa using g3, g4⟩
  | .text _ _, _, _, w, _, _ => by cases w.1
  | .shw _ _, _, _, w, _, _ => by cases w.1
  | .num _, _, _, w, _, _ => by cases w.1
  | .cho _ _ _ _, _, _, w, _, _ => by cases w.1
end Mw

namespace Mw
open PySem L2
structure PSt (H H' : Hp) (rl al : Addr) (t0 : T) (as : List V) (pend : List (T × Addr)) (G : Gh) (cur : Option Addr) : Prop where
  same : Same H H'
  al0 : H al = none
  lst : H' al = some (.lst as)
  pds : Pds H H' G pend as
  nod : (pend.map (·.2)).Nodup
  gfr : ∀ b t, G b = some t → H b = none ∧ b ≠ al ∧ ∃ xs, H' b = some (.lst xs)
  fin : ∀ b t, G b = some t → b ∈ pend.map (·.2) ∨ cur = some b ∨ ∃ vs, H' b = some (.lst vs) ∧ Loc H' G al t vs
  root : G rl = some (pl ("" : Str) t0)
theorem Pds.ghost {H H' : Hp} {G : Gh} : ∀ {xs : List (T × Addr)} {vs : List V}, Pds H H' G xs vs → ∀ x ∈ xs, G x.2 = some (pl ("" : Str) x.1)
  | [], _, _, _, hm => by cases hm
  | x :: xs, _, h, y, hm => by
    obtain ⟨v, ws, rfl, ⟨_, _, _, _, _, _, _, hg⟩, h2⟩ := h
    rcases List.mem_cons.mp hm with rfl | hm
    · exact hg
    · exact Pds.ghost h2 y hm
/-- a step in which nothing is added to what waits -/
theorem PSt.go {H H1 H2 : Hp} {rl al d : Addr} {t0 : T} {as as' : List V} {pend : List (T × Addr)} {G G' : Gh} (p : PSt H H1 rl al t0 as pend G (some d)) (s : Stp H1 G H2 G' d al) (hs : Same H H2) (m : Same (mix H H1) (mix H H2)) (hd : d ∉ pend.map (·.2))
    (dl : ∃ xs, H2 d = some (.lst xs)) (hl : H2 al = some (.lst as')) (more : List (T × Addr)) (mv : List V) (ea : as' = as ++ mv) (hm : Pds H H2 G' more mv) (nm : ((pend ++ more).map (·.2)).Nodup)
    (new : ∀ b t, G' b = some t → G b = some t ∨ (b ∈ more.map (·.2) ∧ H b = none ∧ b ≠ al ∧ ∃ xs, H2 b = some (.lst xs))) : PSt H H2 rl al t0 as' (pend ++ more) G' (some d) := by
  have hx : ∀ x ∈ pend, x.2 ≠ d ∧ x.2 ≠ al := fun x hx => by
    refine ⟨fun e => hd (by rw [← e]; exact List.mem_map_of_mem hx), ?_⟩
    exact (p.gfr _ _ (p.pds.ghost x hx)).2.1
  subst ea
  refine ⟨hs, p.al0, hl, Pds.app hm (pds_step s m hx p.pds), nm, fun b t hb => ?_, fun b t hb => ?_, s.grow _ _ p.root⟩
  · rcases new b t hb with h | h
    · obtain ⟨h1, h2, xs, h3⟩ := p.gfr b t h
      by_cases e : b = d
      · subst e
        exact ⟨h1, h2, dl⟩
      · exact ⟨h1, h2, xs, s.ext b _ e h2 h3⟩
    · exact h.2
  · rcases new b t hb with h | h
    · rcases p.fin b t h with h1 | h1 | ⟨vs, h1, h2⟩
      · left
        rw [List.map_append]
        exact List.mem_append_left _ h1
      · exact .inr (.inl h1)
      · by_cases e : b = d
        · subst e
          exact .inr (.inl rfl)
        · exact .inr (.inr ⟨vs, s.ext b _ e (p.gfr b t h).2.1 h1, Loc.step s h2⟩)
    · left
      rw [List.map_append]
      exact List.mem_append_right _ h.1
theorem pds_of {H H' : Hp} {G : Gh} : ∀ {xs : List (T × Addr)} {vs : List V}, vs.length = xs.length → (∀ (i : Nat) (x : T × Addr) (v : V), xs[i]? = some x → vs[i]? = some v → Pd H H' G x v) → Pds H H' G xs vs
  | [], vs, h, _ => List.length_eq_zero_iff.mp h
  | x :: xs, [], h, _ => by cases h
  | x :: xs, v :: vs, h, k => ⟨v, vs, rfl, k 0 x v rfl rfl, pds_of (Nat.succ.inj h) fun i y u h1 h2 => k (i + 1) y u (by simpa using h1) (by simpa using h2)⟩
theorem pw_msgs : ∀ {cs : T}, Wf cs true → (cs.msgs.map fun m => m.sz + 1).sum = cs.sz
  | .nil, _ => rfl
  | .cas k m r, w => by
    have := pw_msgs w.2.2.2
    simp only [T.msgs, T.sz, List.map_cons, List.sum_cons, this]
    omega
  | .text _ _, w => by cases w.1
  | .shw _ _, w => by cases w.1
  | .num _, w => by cases w.1
  | .cho _ _ _ _, w => by cases w.1
theorem pw_zip : ∀ (ms : List T) (fs : List Addr), pw (ms.zip fs) ≤ (ms.map fun m => m.sz + 1).sum
  | [], _ => Nat.le_refl _
  | _ :: _, [] => Nat.zero_le _
  | m :: ms, f :: fs => by
    have := pw_zip ms fs
    show m.sz + 1 + pw (ms.zip fs) ≤ _
    rw [List.map_cons, List.sum_cons]
    omega
theorem pw_inner {u : T} (w : Wf u false) (hs : u.single) (fs : List Addr) : pw (u.inner.zip fs) ≤ u.sz := by
  refine Nat.le_trans (pw_zip _ _) ?_
  cases u with
  | cho hd cs o r =>
    have := pw_msgs w.2.2.1
    simp only [T.inner, T.sz, List.map_append, List.sum_append, List.map_cons, List.map_nil, List.sum_cons, List.sum_nil, this]
    omega
  | _ => exact Nat.zero_le _
theorem cases_up {H H' : Hp} {tvs ks fs : List V} (k : ∀ q xs, H q = some (.tup xs) → H' q = some (.tup xs)) (h : CasesAt H tvs ks fs) : CasesAt H' tvs ks fs := by
  refine ⟨h.1, fun i v e => ?_⟩
  obtain ⟨q, a, f, e1, e2, e3, e4⟩ := h.2 i v e
  exact ⟨q, a, f, e1, e2, e3, k _ _ e4⟩
/-- what a node comes to, once all is filled -/
def Nn (H4 H5 : Hp) (al d p' : Addr) (u : T) (fs : List Addr) : Prop := ∀ (Hf : Hp) (G' : Gh), (∀ b o, b ≠ d → b ≠ al → H5 b = some o → Hf b = some o) → (∀ b, H4 b = none → G' b = none) →
  (∀ (i : Nat) (a : Addr) (m : T), fs[i]? = some a → u.inner[i]? = some m → G' a = some (pl ("" : Str) m)) → Loc Hf G' al (dm u) [.ref p']
section
variable {P : Program} {w : World} {K : PySem.W.Frag} {mg : Str → Option Value} {base : Heap}
/-! ### plain -/
abbrev sPlain : Stmt := top 9
theorem scPlain : FnScope ["message", "result", "ahead", "source", "target", "node", "inner", "fresh", "_"] ["message"] (defScope sPlain) := ⟨rfl, rfl, rfl, by decide +kernel, rfl, by decide +kernel, by decide +kernel⟩
def spPlain : Sp := fun vs H Q _ => ∃ (a : Addr) (t : T), vs = [.ref a] ∧ At H a t ∧ Wf t false ∧ t.sz < 90000 ∧ ∀ r H', H r = none → Same H H' → At H' r (pl ("" : Str) t) → Q (.ref r) H'
theorem ok_plain {f fJ fI fW : Addr} {fd fdJ fdI fdW : FuncData} (F : Fun K "plain" "plain" sPlain f fd)
    (GJ : FnOk P w K mg base CX0 2 fJ fdJ ["message"] spJt) (bJ : Binds K fdJ ["message"] []) (kJ : PySem.W.keepIn K (.ref fJ) = true) (mJ : mg "joined_texts" = some (.ref fJ))
    (GI : FnOk P w K mg base CX0 2 fI fdI ["node"] spInner) (bI : Binds K fdI ["node"] []) (kI : PySem.W.keepIn K (.ref fI) = true) (mI : mg "inner_messages" = some (.ref fI))
    (GW : FnOk P w K mg base CX0 2 fW fdW ["node", "messages"] spWith) (bW : Binds K fdW ["node", "messages"] []) (kW : PySem.W.keepIn K (.ref fW) = true) (mW : mg "with_inner" = some (.ref fW))
    (ml : mg "list" = none) (mz : mg "zip" = none) : FnOk P w K mg base CX0 3 f fd ["message"] spPlain := by
  refine F.ok scPlain (fun vs H Q E h => ?_) (fun cdv A outer s H vs Q E hr h => ?_)
  · obtain ⟨a, t, rfl, _⟩ := h
    rfl
  obtain ⟨a, t0, rfl, ha, hw, hz, q⟩ := h
  have nd := scPlain.nd
  refine ⟨_, pss_cons (ps_set (i := 1) nd rfl (.inl rfl) (pe_lst pa_nil))
    (pss_cons (ps_set (i := 2) nd rfl (.inl rfl) (pe_lst (pa_cons (pe_tup (pa_cons (pv 0) (pa_cons (pv 1) pa_nil))) pa_nil)))
    (pss_cons (ps_while PassesOwn.never (pt_truth (pv 2) (by intro _; rfl))
      (pss_cons (ps_asg (pe_bm0 PySem.F.plainAttrs_list PySem.F.slot_list_pop PySem.F.type_list_pop mt_pop (pv 2)) (pg_tup rfl (pgs_cons (pg_name (i := 3) nd rfl (.inl rfl)) (pgs_cons (pg_name (i := 4) nd rfl (.inl rfl)) pgs_nil))))
      (pss_one (ps_for PassesOwn.never rfl (pi_list (pe_call GJ hr rfl mJ kJ bJ .nil pass0 (pa_cons (pv 3) pa_nil))) (pg_name (i := 5) nd rfl (.inl rfl))
        (pss_cons (ps_set (i := 6) nd rfl (.inl rfl) (pe_call GI hr rfl mI kI bI .nil pass0 (pa_cons (pv 5) pa_nil)))
        (pss_cons (ps_setLc (i := 7) (own := [("_", 8)]) (g := gName 8) (tt := tYes) rfl nd rfl rfl (sw_true rfl rfl rfl (by decide +kernel)) (pi_list (pv 6))
          (blkOk_by (N := ["message", "result", "ahead", "source", "target", "node", "inner", "fresh", "_"]) (sc := defScope sPlain) (by decide +kernel))
          (fun _ _ _ _ _ => pg_name (i := 8) nd rfl (.inl rfl)) (fun _ _ _ _ _ => pts_nil) (fun _ _ _ _ _ => pe_lst pa_nil))
        (Evl.pss_cut (ps_expr (pe_bm PySem.F.plainAttrs_list PySem.F.slot_list_append PySem.F.type_list_append mt_append (pv 4) (pa_cons (pe_ifExp (pt_truth (pv 6) (by intro _; rfl)) (pe_call GW hr rfl mW kW bW .nil pass0 (pa_cons (pv 5) (pa_cons (pv 7) pa_nil))) (pv 5)) pa_nil)))
        (pss_one (ps_expr (pe_bm PySem.F.plainAttrs_list PySem.F.slot_list_extend PySem.F.type_list_extend mt_extend (pv 2) (pa_cons (Zl.pe_listZip rfl (by rfl) ml (by rfl) mz (pa_cons (pv 6) (pa_cons (pv 7) pa_nil))) pa_nil)))))))))))
    (pss_one (ps_ret (pv 1))))), ?_⟩
  refine ⟨Nat.zero_le _, fun rl hrl => ?_⟩
  refine ⟨_, rfl, _, rfl, by show 2 ≤ sizeLine; decide, fun q0 hq0 => ⟨by show 1 ≤ sizeLine; decide, fun al hal => ?_⟩⟩
  have s1 : Same H (upd H rl (.lst [])) := same_new hrl _
  have s2 := s1.trans (same_new hq0 (.tup [.ref a, .ref rl]))
  have s3 := s2.trans (same_new hal (.lst [.ref q0]))
  have nqr : rl ≠ q0 := ne_of_none upd_same hq0
  have nra : rl ≠ al := ne_of_none (by rw [upd_ne nqr]; exact upd_same) hal
  have nqa : q0 ≠ al := ne_of_none upd_same hal
  have hal0 : H al = none := s2.free hal
  refine ⟨fun m σ H' => ∃ (as : List V) (pend : List (T × Addr)) (G : Gh) (o3 o4 o5 o6 o7 o8 : Option V), σ = [some (.ref a), some (.ref rl), some (.ref al), o3, o4, o5, o6, o7, o8] ∧ PSt H H' rl al t0 as pend G none ∧ pw pend ≤ t0.sz + 1 ∧ m = pw pend,
    ⟨t0.sz + 1, [.ref q0], [(t0, rl)], fun b => if b = rl then some (pl ("" : Str) t0) else none, none, none, none, none, none, none, rfl, ⟨s3, hal0, upd_same, ?_, ?_, fun b t hb => ?_, fun b t hb => ?_, if_pos rfl⟩, Nat.le_refl _, rfl⟩, ?_⟩
  · refine ⟨_, [], rfl, ⟨q0, a, rfl, by rw [upd_ne nqa]; exact upd_same, ha.same mix_old, hw, ?_, if_pos rfl⟩, rfl⟩
    show upd _ al _ rl = _
    rw [upd_ne nra, upd_ne nqr]
    exact upd_same
  · simp
  · split at hb
    · rename_i e
      subst e
      exact ⟨hrl, nra, [], by rw [upd_ne nra, upd_ne nqr]; exact upd_same⟩
    · cases hb
  · split at hb
    · rename_i e
      subst e
      left
      simp
    · cases hb
  rintro m σ H' ⟨as, pend, G, o3, o4, o5, o6, o7, o8, rfl, p, hpw, rfl⟩
  refine ⟨.ref al, rfl, !as.isEmpty, .inl ⟨as, SqL.of p.lst, rfl⟩, ?_⟩
  by_cases he : pend = []
  · subst he
    have e : as = [] := p.pds
    subst e
    refine iteF ⟨_, rfl, q rl H' hrl p.same ?_⟩
    have fin : ∀ b t, G b = some t → ∃ vs, H' b = some (.lst vs) ∧ Loc H' G al t vs := fun b t hb => by
      rcases p.fin b t hb with h | h | h
      · cases h
      · cases h
      · exact h
    obtain ⟨vs, h1, h2⟩ := fin rl _ p.root
    exact ⟨vs, h1, Loc.nodes fin h2⟩
  obtain ⟨pd, ⟨src, d⟩, us, v, e1, e2, hpd, q1, sa, e3, hq1, hsa, hsw, hd0, hgd⟩ := p.pds.last he
  subst e1 e2 e3
  have hT : (!(us ++ [V.ref q1]).isEmpty) = true := by simp
  rw [hT]
  refine iteT ?_
  have hwe : pw (pd ++ [(src, d)]) = pw pd + (src.sz + 1) := by rw [pw_app]; rfl
  refine ⟨fun σ' H'' => ∃ m', m' < pw (pd ++ [(src, d)]) ∧ ∃ (as : List V) (pend : List (T × Addr)) (G : Gh) (o3 o4 o5 o6 o7 o8 : Option V), σ' = [some (.ref a), some (.ref rl), some (.ref al), o3, o4, o5, o6, o7, o8] ∧ PSt H H'' rl al t0 as pend G none ∧ pw pend ≤ t0.sz + 1 ∧ m' = pw pend, fun σ' H'' z => z, ?_⟩
  obtain ⟨hd00, hda, _⟩ := p.gfr d _ hgd
  have hq1a : q1 ≠ al := ne_of hq1 p.lst (by intro z; cases z)
  refine ⟨.ref al, rfl, .inl ⟨rfl, _, SqL.of p.lst⟩, al, _, .ref q1, rfl, rfl, p.lst, by simp, ?_⟩
  rw [List.dropLast_concat]
  have hq1' : upd H' al (.lst us) q1 = some (.tup [.ref sa, .ref d]) := by rw [upd_ne hq1a]; exact hq1
  refine ⟨q1, _, rfl, .inl (.inl hq1'), rfl, .ref sa, _, rfl, .ref d, [], rfl, rfl, ?_⟩
  -- the state behind the pop
  have hnod := p.nod
  rw [List.map_append, List.nodup_append] at hnod
  have hdn : d ∉ pd.map (·.2) := fun hm => hnod.2.2 d hm d (by simp) rfl
  have sp : Stp H' G (upd H' al (.lst us)) G d al := ⟨⟨_, hd0⟩, ⟨_, hgd⟩, ⟨_, p.lst⟩, fun b o _ h2 e => by rw [upd_ne h2]; exact e, fun _ _ h => h, fun _ _ _ h => h⟩
  have m1 : Same (mix H H') (mix H (upd H' al (.lst us))) := mix_mut p.lst
  have sH1 : Same H (upd H' al (.lst us)) := same_mut p.same hal0 _
  have p1 : PSt H (upd H' al (.lst us)) rl al t0 us pd G (some d) := by
    have hx : ∀ x ∈ pd, x.2 ≠ d ∧ x.2 ≠ al := fun x hx => ⟨fun e => hdn (by rw [← e]; exact List.mem_map_of_mem hx), (p.gfr _ _ (hpd.ghost x hx)).2.1⟩
    refine ⟨sH1, hal0, upd_same, pds_step sp m1 hx hpd, hnod.1, fun b t hb => ?_, fun b t hb => ?_, p.root⟩
    · obtain ⟨h1, h2, xs, h3⟩ := p.gfr b t hb
      exact ⟨h1, h2, xs, by rw [upd_ne h2]; exact h3⟩
    · rcases p.fin b t hb with h | h | ⟨ws, h1, h2⟩
      · rw [List.map_append] at h
        rcases List.mem_append.mp h with h | h
        · exact .inl h
        · have e : b = d := by simpa using h
          subst e
          exact .inr (.inl rfl)
      · cases h
      · exact .inr (.inr ⟨ws, by rw [upd_ne (p.gfr b t hb).2.1]; exact h1, Loc.step sp h2⟩)
  have hsz : src.sz ≤ t0.sz := by omega
  -- joined_texts(source)
  refine ⟨_, rfl, sa, mix H (upd H' al (.lst us)), src, rfl, mix_out sH1, hsa.same m1, hsw, by omega, fun l H2 ws hl sJ hl2 hws => ?_⟩
  have hws2 : Nodes (mix H H2) (jt [] src) ws := Nodes.same (mix_mix sJ) hws
  have hns := hws2.ns
  have jw : Wf (jt [] src) false := jt_wf hsw []
  have jz : (jt [] src).sz ≤ src.sz := by
    have : (jt [] src).sz ≤ 0 + src.sz := jt_sz hsw []
    omega
  have hwl : ws.length ≤ src.sz := by
    rw [hws2.length]
    exact Nat.le_trans (len_sz _) jz
  have hd1 : upd H' al (.lst us) d = some (.lst []) := by rw [upd_ne hda]; exact hd0
  have nld : l ≠ d := (ne_of_none hd1 hl).symm
  have nla : l ≠ al := (ne_of_none upd_same hl).symm
  have sp2 : Stp (upd H' al (.lst us)) G H2 G d al := ⟨⟨_, hd1⟩, ⟨_, hgd⟩, ⟨_, upd_same⟩, fun b o _ _ e => sJ _ _ e, fun _ _ h => h, fun _ _ _ h => h⟩
  have p2 : PSt H H2 rl al t0 us (pd ++ []) G (some d) := p1.go sp2 (sH1.trans sJ) (mix_same sJ) hdn ⟨_, sJ _ _ hd1⟩ (sJ _ _ upd_same) [] [] (List.append_nil _).symm rfl (by rw [List.append_nil]; exact hnod.1) fun b t h => .inl h
  rw [List.append_nil] at p2
  refine ⟨l, rfl, ⟨_, SqL.of hl2⟩, for_list (xs := ws) (fun i σ' H'' => ∃ (as : List V) (pend : List (T × Addr)) (G : Gh) (vs : List V) (done : T) (o5 o6 o7 o8 : Option V), σ' = [some (.ref a), some (.ref rl), some (.ref al), some (.ref sa), some (.ref d), o5, o6, o7, o8] ∧
      PSt H H'' rl al t0 as pend G (some d) ∧ H'' l = some (.lst ws) ∧ H'' d = some (.lst vs) ∧ Loc H'' G al done vs ∧ d ∉ pend.map (·.2) ∧ G d = some (pl ("" : Str) src) ∧ pl ("" : Str) src = done.app (dm (ch ((jt [] src).nodes.drop i))) ∧
      pw pend + szs ((jt [] src).nodes.drop i) ≤ pw pd + src.sz ∧ vs.length = i ∧ Same (mix H H2) (mix H H'') ∧ G l = none)
    ⟨us, pd, G, [], .nil, _, _, _, _, rfl, p2, hl2, sJ _ _ hd1, rfl, hdn, hgd, ?_, ?_, rfl, Same.refl _, ?_⟩ (fun i σ' H'' _ ⟨_, _, _, _, _, _, _, _, _, _, _, h, _⟩ => SqL.of h) ?_ ?_⟩
  · rw [List.drop_zero, ch_nodes]
    exact pl_dm hsw []
  · rw [List.drop_zero, szs_nodes]
    omega
  · cases e : G l with
    | none => rfl
    | some t =>
      obtain ⟨_, _, xs, h⟩ := p1.gfr l t e
      rw [hl] at h
      cases h
  · rintro i x σ' H'' hx ⟨as, pend, G5, vs5, done, o5, o6, o7, o8, rfl, p5, hl5, hd5, hloc, hdn5, hgd5, hpl5, hpw5, hvl, hmx, hgl⟩
    obtain ⟨u, hu, hun⟩ := hns.get hx
    have um : u ∈ (jt [] src).nodes := List.mem_of_getElem? hu
    have uw : Wf u false := nodes_wf jw u um
    have usz := sz_nodes u um
    have hun5 : Nodes (mix H H'') u [x] := Nodes.same hmx hun
    obtain ⟨pn, y, ys, rfl, hpn, hsg, hch, htx⟩ := node_of hun5 uw
    have hdrop : (jt [] src).nodes.drop i = u :: (jt [] src).nodes.drop (i + 1) := by
      have e := List.getElem?_eq_some_iff.mp hu
      rw [List.drop_eq_getElem_cons e.1, e.2]
    rw [hdrop] at hpl5 hpw5
    have hpw6 : pw pend + (u.sz + szs ((jt [] src).nodes.drop (i + 1))) ≤ pw pd + src.sz := hpw5
    have hi : i < ws.length := (List.getElem?_eq_some_iff.mp hx).1
    refine ⟨_, rfl, mix H H'', .ref pn, u, rfl, mix_out p5.same, hun5, uw, by omega, fun il H3 ms hil s53 hil3 hms => ?_⟩
    have hml := hms.length
    refine ⟨_, rfl, il, rfl, ⟨_, SqL.of hil3⟩, fun D hD => ?_⟩
    refine lc_list (K := K) (a := il) (xs := ms) (fun j Hx => ∃ fs : List Addr, Same H3 Hx ∧ Hx D = some (.lst (fs.map V.ref)) ∧ fs.length = j ∧ fs.Nodup ∧ ∀ a ∈ fs, H3 a = none ∧ a ≠ D ∧ Hx a = some (.lst []))
      ⟨[], same_new hD _, upd_same, rfl, List.nodup_nil, fun a h => by cases h⟩ (fun j Hx _ ⟨_, s', _⟩ => SqL.of (s' _ _ hil3)) ?_ ?_
    · rintro j xj Hx hxj ⟨fs, s', hD', hlen, hnd, hall⟩
      have hjm : j < ms.length := (List.getElem?_eq_some_iff.mp hxj).1
      have hmb : ms.length < 100000 := by
        rw [hml]
        have h1 := szs_inner hsg
        have h2 : u.inner.length ≤ u.sz := by
          cases u with
          | cho hd cs o r =>
            have h3 := (msgs_len uw.2.2.1).1
            have h4 := (msgs_len uw.2.2.1).2
            have h5 := len_sz cs
            simp only [T.inner, T.sz, List.length_append, List.length_singleton]
            omega
          | _ => exact Nat.zero_le _
        omega
      refine ⟨rfl, Nat.zero_le _, fun nl hnl => ⟨_, by rw [upd_ne (ne_of_none hD' hnl)]; exact hD', sz_line (by rw [List.length_map]; omega), fs ++ [nl], same_mut (s'.trans (same_new hnl _)) hD _, by rw [upd_same, List.map_append]; rfl, by rw [List.length_append, hlen]; rfl, ?_, fun a h => ?_⟩⟩
      · rw [List.nodup_append]
        refine ⟨hnd, by simp, fun a ha b hb => ?_⟩
        rw [List.mem_singleton.mp hb]
        exact ne_of_none (hall a ha).2.2 hnl
      · rcases List.mem_append.mp h with h | h
        · obtain ⟨h1, h2, h3⟩ := hall a h
          exact ⟨h1, h2, by rw [upd_ne h2, upd_ne (ne_of_none h3 hnl)]; exact h3⟩
        · rw [List.mem_singleton.mp h]
          have nD : nl ≠ D := (ne_of_none hD' hnl).symm
          exact ⟨s'.free hnl, nD, by rw [upd_ne nD]; exact upd_same⟩
    rintro H4 ⟨fs, s34, hD4, hfl, hfn, hfa⟩
    have s54 : Same H'' H4 := s53.trans s34
    have hd4 : H4 d = some (.lst vs5) := s54 _ _ hd5
    have hal4 : H4 al = some (.lst as) := s54 _ _ p5.lst
    have hfd : ∀ a ∈ fs, ∀ b o, H'' b = some o → b ≠ a := fun a h b o e => ne_of_none (s53 _ _ e) (hfa a h).1
    refine ⟨fun σ6 Hx => ∃ o8', σ6 = [some (.ref a), some (.ref rl), some (.ref al), some (.ref sa), some (.ref d), some (.ref pn), some (.ref il), some (.ref D), o8'] ∧ ∃ (p' : Addr) (H5 : Hp), Hx = upd H5 d (.lst (vs5 ++ [.ref p'])) ∧ Same H4 H5 ∧ Nn H4 H5 al d p' u fs, ?_, ?_⟩
    · refine ⟨_, rfl, .inl ⟨rfl, _, SqL.of hd4⟩, _, rfl, _, .inl ⟨ms, SqL.of (s34 _ _ hil3), rfl⟩, ?_⟩
      have hlb : vs5.length < 10000000 := by omega
      cases hc : u.isCho with
      | false =>
        have e0 : u.inner = [] := by
          cases u <;> first | rfl | cases hc
        have em : ms = [] := List.length_eq_zero_iff.mp (by rw [hml, e0]; rfl)
        subst em
        refine iteF ⟨_, rfl, d, vs5, _, rfl, rfl, hd4, sz_line hlb, _, rfl, pn, H4, rfl, Same.refl _, ?_⟩
        intro Hf G' ext _ _
        have tup : ∀ {xs : List V}, mix H H'' pn = some (.tup xs) → Hf pn = some (.tup xs) := fun {xs} e => by
          have e' := mix_out p5.same _ _ e
          exact ext pn _ (ne_of e' hd5 (by intro z; cases z)) (ne_of e' p5.lst (by intro z; cases z)) (s54 _ _ e')
        cases u with
        | nil => cases hsg
        | text st r =>
          cases (show r = .nil from hsg)
          obtain ⟨pp, _, e, hpp, _⟩ := hun5
          cases e
          exact ⟨_, [], rfl, tup hpp, rfl⟩
        | shw n r =>
          cases (show r = .nil from hsg)
          obtain ⟨pp, _, e, hpp, _⟩ := hun5
          cases e
          exact ⟨_, [], rfl, tup hpp, rfl⟩
        | num r =>
          cases (show r = .nil from hsg)
          obtain ⟨pp, _, e, hpp, _⟩ := hun5
          cases e
          exact ⟨_, [], rfl, tup hpp, rfl⟩
        | cho hd cs o r => cases hc
        | cas k m r => cases uw.1
      | true =>
        cases u with
        | cho hd cs o r =>
          cases (show r = .nil from hsg)
          obtain ⟨pp, _, ca, cvs, oa, ovs, e, hpp, hca, hcs, hoa, hos, _⟩ := hun5
          cases e
          have out : Same (mix H H'') H4 := (mix_out p5.same).trans s54
          have hl1 : ms.length = cs.keys.length + 1 := by
            rw [hml]
            show (cs.msgs ++ [o]).length = _
            rw [List.length_append, (msgs_len uw.2.2.1).1]
            rfl
          have hfne : fs ≠ [] := fun e => by
            rw [e] at hfl
            simp only [List.length_nil] at hfl
            omega
          obtain ⟨fi, fz, efs⟩ : ∃ fi fz, fs = fi ++ [fz] := ⟨fs.dropLast, fs.getLast hfne, (List.dropLast_concat_getLast hfne).symm⟩
          have hfil : fi.length = cs.keys.length := by
            rw [efs, List.length_append, List.length_singleton] at hfl
            omega
          have hemp : (!ms.isEmpty) = true := by
            cases ms with
            | nil => simp only [List.length_nil] at hl1; omega
            | cons _ _ => rfl
          rw [hemp]
          refine iteT ⟨_, rfl, _, rfl, pn, ca, oa, D, hd, cvs, cs.keys, fi.map V.ref, .ref fz, rfl, out _ _ hpp, uw.2.1, out _ _ hca, ?_, ?_, by rw [List.length_map]; exact hfil, ?_, fun p' D' H5 tvs hp' hD' s5 hp5 hDv hcs5 => ?_⟩
          · have k1 := keys_at hcs uw.2.2.1
            refine ⟨k1.1, fun i v e => ?_⟩
            obtain ⟨q2, k2, x2, g1, g2, g3⟩ := k1.2 i v e
            exact ⟨q2, k2, x2, g1, g2, out _ _ g3⟩
          · rw [hD4, efs, List.map_append]
            rfl
          · have h4 := (msgs_len uw.2.2.1).2
            have h5 := len_sz cs
            simp only [T.sz] at usz
            omega
          · have hd5' : H5 d = some (.lst vs5) := s5 _ _ hd4
            have hal5 : H5 al = some (.lst as) := s5 _ _ hal4
            refine ⟨d, vs5, _, rfl, rfl, hd5', sz_line hlb, _, rfl, p', H5, rfl, s5, ?_⟩
            intro Hf G' ext hno hat
            have tup : ∀ q xs, H5 q = some (.tup xs) → Hf q = some (.tup xs) := fun q xs e => ext q _ (ne_of e hd5' (by intro z; cases z)) (ne_of e hal5 (by intro z; cases z)) e
            have nDd : D' ≠ d := (ne_of_none hd4 hD').symm
            have nDa : D' ≠ al := (ne_of_none hal4 hD').symm
            have hcm : cs.msgs.length = fi.length := by rw [hfil]; exact (msgs_len uw.2.2.1).1
            refine ⟨p', [], D', tvs, fz, rfl, tup _ _ hp5, ext _ _ nDd nDa hDv, hno _ hD', nDa, cases_loc uw.2.2.1 (cases_up tup hcs5) fun i a m h1 h2 => ?_, ?_, rfl⟩
            · refine hat i a m ?_ ?_
              · rw [efs, List.getElem?_append_left (List.getElem?_eq_some_iff.mp h1).1]
                exact h1
              · show (cs.msgs ++ [o])[i]? = some m
                rw [List.getElem?_append_left (List.getElem?_eq_some_iff.mp h2).1]
                exact h2
            · refine hat fi.length fz o ?_ ?_
              · rw [efs, List.getElem?_append_right (Nat.le_refl _), Nat.sub_self]
                rfl
              · show (cs.msgs ++ [o])[fi.length]? = some o
                rw [← hcm, List.getElem?_append_right (Nat.le_refl _), Nat.sub_self]
                rfl
        | _ => cases hc
    · rintro σ6 Hx ⟨o8', rfl, p', H5, rfl, s45, NN⟩
      have hd5' : H5 d = some (.lst vs5) := s45 _ _ hd4
      have nald : al ≠ d := hda.symm
      have hal6 : upd H5 d (.lst (vs5 ++ [.ref p'])) al = some (.lst as) := by rw [upd_ne nald]; exact s45 _ _ hal4
      have nild : il ≠ d := (ne_of_none hd5 hil).symm
      have nDd : D ≠ d := (ne_of_none (s53 _ _ hd5) hD).symm
      have up6 : ∀ b o, b ≠ d → H5 b = some o → upd H5 d (.lst (vs5 ++ [.ref p'])) b = some o := fun b o h e => by rw [upd_ne h]; exact e
      refine ⟨_, rfl, .inl ⟨rfl, _, SqL.of hal6⟩, _, rfl, _, rfl, il, D, ms, fs.map V.ref, rfl, SqL.of (up6 _ _ nild (s45 _ _ (s34 _ _ hil3))), SqL.of (up6 _ _ nDd (s45 _ _ hD4)), fun H7 zp zts s7 hzp hzt hzn hz7 hzl hzall => ?_⟩
      have hal7 : H7 al = some (.lst as) := s7 _ _ hal6
      have hflen : fs.length = ms.length := hfl
      rw [List.length_map, hflen, Nat.min_self] at hzl
      have hasl : as.length ≤ pw pend := by
        rw [p5.pds.length]
        exact pw_len _
      have hzb : ms.length ≤ u.sz := by
        rw [hml]
        cases u with
        | cho hd cs o r =>
          have h3 := (msgs_len uw.2.2.1).1
          have h4 := (msgs_len uw.2.2.1).2
          have h5 := len_sz cs
          simp only [T.inner, T.sz, List.length_append, List.length_singleton]
          omega
        | _ => exact Nat.zero_le _
      refine ⟨al, zp, as, zts.map V.ref, rfl, rfl, hal7, hz7, le_line (by rw [List.length_map, hzl]; omega), ?_⟩
      generalize hHf : upd H7 al (.lst (as ++ zts.map V.ref)) = Hf
      have hfal : Hf al = some (.lst (as ++ zts.map V.ref)) := by rw [← hHf]; exact upd_same
      have ext5 : ∀ b o, b ≠ d → b ≠ al → H5 b = some o → Hf b = some o := fun b o h1 h2 e => by
        rw [← hHf, upd_ne h2]
        exact s7 _ _ (up6 _ _ h1 e)
      have hfd' : Hf d = some (.lst (vs5 ++ [.ref p'])) := by
        rw [← hHf, upd_ne hda]
        exact s7 _ _ upd_same
      have off : ∀ b o, H'' b = some o → b ∉ fs := fun b o e hm => hfd b hm b o e rfl
      have stp : Stp H'' G5 Hf (asg G5 fs (u.inner.map (pl ("" : Str)))) d al := by
        refine ⟨⟨_, hd5⟩, ⟨_, hgd5⟩, ⟨_, p5.lst⟩, fun b o h1 h2 e => ext5 b o h1 h2 (s45 _ _ (s54 _ _ e)), fun b t hb => ?_, fun b o e hb => ?_⟩
        · obtain ⟨_, _, xs, h⟩ := p5.gfr b t hb
          rw [asg_off (off b _ h)]
          exact hb
        · rw [asg_off (off b _ e)]
          exact hb
      have mx : Same (mix H H'') (mix H Hf) := by
        have m2 : Same (mix H H5) (mix H (upd H5 d (.lst (vs5 ++ [.ref p'])))) := mix_mut hd5'
        have m4 : Same (mix H H7) (mix H Hf) := by rw [← hHf]; exact mix_mut hal7
        exact (mix_same (s54.trans s45)).trans (m2.trans ((mix_same s7).trans m4))
      have hsf : Same H Hf := fun b o e => by
        have h1 : b ≠ d := ne_of_none e hd00
        have h2 : b ≠ al := ne_of_none e hal0
        exact ext5 b o h1 h2 (s45 _ _ (s54 _ _ (p5.same _ _ e)))
      have ezs : (u.inner.zip fs).map (·.2) = fs := List.map_snd_zip (by rw [hflen, hml]; exact Nat.le_refl _)
      have hfs5 : ∀ f ∈ fs, H5 f = some (.lst []) := fun f h => s45 _ _ (hfa f h).2.2
      have hmore : Pds H Hf (asg G5 fs (u.inner.map (pl ("" : Str)))) (u.inner.zip fs) (zts.map V.ref) := by
        refine pds_of (by rw [List.length_map, hzl, List.length_zip, hflen, hml, Nat.min_self]) fun i x v h1 h2 => ?_
        obtain ⟨m, f⟩ := x
        obtain ⟨hm1, hf1⟩ := List.getElem?_zip_eq_some.mp h1
        rw [List.getElem?_map] at h2
        cases hz : zts[i]? with
        | none => rw [hz] at h2; cases h2
        | some tt =>
          rw [hz] at h2
          have e2 : V.ref tt = v := by simpa using h2
          subst e2
          obtain ⟨x1, y1, hx1, hy1, htt⟩ := hzall i tt hz
          obtain ⟨m', sm, hm2, e3, hat⟩ := hms.get hx1
          rw [hm1] at hm2
          cases hm2
          subst e3
          have ey : y1 = V.ref f := by
            rw [List.getElem?_map, hf1] at hy1
            exact (Option.some.inj hy1).symm
          subst ey
          have fm : f ∈ fs := List.mem_of_getElem? hf1
          refine ⟨tt, sm, rfl, ?_, hat.same mx, wf_inner uw m (List.mem_of_getElem? hm1), ext5 f _ (hfd f fm _ _ hd5).symm (hfd f fm _ _ p5.lst).symm (hfs5 f fm), asg_at hfn hf1 (by rw [List.getElem?_map, hm1]; rfl)⟩
          rw [← hHf, upd_ne (ne_of htt hal7 (by intro z; cases z))]
          exact htt
      have hpn' : (pend ++ u.inner.zip fs).map (·.2) = pend.map (·.2) ++ fs := by rw [List.map_append, ezs]
      have htr : ∀ b ∈ pend.map (·.2), ∃ o, H'' b = some o := fun b hb => by
        obtain ⟨x, hx, rfl⟩ := List.mem_map.mp hb
        obtain ⟨_, _, xs, h⟩ := p5.gfr _ _ (p5.pds.ghost x hx)
        exact ⟨_, h⟩
      have p6 : PSt H Hf rl al t0 (as ++ zts.map V.ref) (pend ++ u.inner.zip fs) (asg G5 fs (u.inner.map (pl ("" : Str)))) (some d) := by
        refine p5.go stp hsf mx hdn5 ⟨_, hfd'⟩ hfal _ _ rfl hmore ?_ fun b t hb => ?_
        · rw [hpn', List.nodup_append]
          refine ⟨p5.nod, hfn, fun b hb c hc e => ?_⟩
          subst e
          obtain ⟨o, h⟩ := htr b hb
          exact off b o h hc
        · rcases asg_in hb with h | h
          · refine .inr ⟨by rw [ezs]; exact h, ?_, (hfd b h _ _ p5.lst).symm, _, ext5 b _ (hfd b h _ _ hd5).symm (hfd b h _ _ p5.lst).symm (hfs5 b h)⟩
            exact (p5.same.trans s53).free (hfa b h).1
          · exact .inl h
      refine ⟨_, _, _, vs5 ++ [.ref p'], done.app (dm u), _, _, _, _, rfl, p6, ?_, hfd', ?_, ?_, ?_, ?_, ?_, ?_, hmx.trans mx, ?_⟩
      · exact ext5 l _ nld nla (s45 _ _ (s54 _ _ hl5))
      · refine Loc.app (NN Hf _ ext5 (fun b hb => ?_) fun i a m h1 h2 => asg_at hfn h1 (by rw [List.getElem?_map, h2]; rfl)) (Loc.step stp hloc)
        have hbf : b ∉ fs := fun hm => by rw [(hfa b hm).2.2] at hb; cases hb
        rw [asg_off hbf]
        cases e : G5 b with
        | none => rfl
        | some t =>
          obtain ⟨_, _, xs, h⟩ := p5.gfr b t e
          rw [s54 _ _ h] at hb
          cases hb
      · rw [hpn']
        intro hm
        rcases List.mem_append.mp hm with hm | hm
        · exact hdn5 hm
        · exact off d _ hd5 hm
      · rw [asg_off (off d _ hd5)]
        exact hgd5
      · rw [hpl5, show ch (u :: (jt [] src).nodes.drop (i + 1)) = u.app (ch ((jt [] src).nodes.drop (i + 1))) from rfl, dm_app, app_assoc]
      · rw [pw_app]
        have := pw_inner uw hsg fs
        omega
      · rw [List.length_append, hvl]
        rfl
      · rw [asg_off (off l _ hl5)]
        exact hgl
  · rintro σ' H'' ⟨as, pend, G', vs', done, o5, o6, o7, o8, rfl, p5, hl5, hd5, hloc, hdn5, hgd5, hpl5, hpw5, hvl, hmx, hgl⟩
    refine ⟨pw pend, ?_, as, pend, G', _, _, _, _, _, _, rfl, ⟨p5.same, p5.al0, p5.lst, p5.pds, p5.nod, p5.gfr, fun b t hb => ?_, p5.root⟩, ?_, rfl⟩
    · omega
    · rcases p5.fin b t hb with h | h | h
      · exact .inl h
      · have e : d = b := Option.some.inj h
        subst e
        rw [hgd5] at hb
        cases hb
        refine .inr (.inr ⟨vs', hd5, ?_⟩)
        rw [hns.length, List.drop_length] at hpl5
        rw [hpl5]
        show Loc H'' G' al (done.app .nil) vs'
        rw [app_nil]
        exact hloc
      · exact .inr (.inr h)
    · omega
end
end Mw

set_option linter.all false
/-! the law's own def, run where the caller runs it: nothing is being shown there -/
namespace Gy
open PySem PySem.Spec PyProof.Rows L2
/-- a def's promise around A alone -/
def RunAt (A : Around) (P : Program) (w : World) (K : PySem.W.Frag) (mg : Str → Option Value) (base : Heap) (CX : CXT) (k : Nat) (f : Addr) (fd : FuncData) (ps : List Str) (sp : Sp) : Prop :=
  ∀ (outer : List Env) (s : Shared) (H : Hp) (args : Args) (us : List Value) (vs : List V) (Q : VK) (E : XK), Room k A → Env0 P w K mg base A outer s H → BindsTo s fd args (ps.zip us) → Vals vs us → sp vs H Q E →
    codeAny (model P w) A (.call (.ref f) args) (CR CX outer P w H s Q E) s
section
variable {P : Program} {w : World} {K : PySem.W.Frag} {mg : Str → Option Value} {base : Heap}
theorem run_at {A : Around} {x qual : Str} {st : Stmt} {f : Addr} {fd : FuncData} {N ps : List Str} {k : Nat} {sp : Sp} (F : Fun K x qual st f fd) (S : FnScope N ps (defScope st)) (len : ∀ vs H Q E, sp vs H Q E → vs.length = ps.length)
    (body : ∀ (cdv : Value) (outer : List Env) (s : Shared) (H : Hp) (vs : List V) (Q : VK) (E : XK), Room k (A.deeper (envOfC qual (defScope st) s.heap.objs.size f cdv)) → sp vs H Q E →
      ∃ t, PSs (cxOf CX0 P w K mg base N qual (defScope st) f cdv A outer s H E).nox (defBody st) t ∧ t { nx := fun _ H' => Q .non H', rt := Q } (start N vs) H) : RunAt A P w K mg base CX0 (k + 1) f fd ps sp := by
  obtain ⟨oc, od, kV, doc, pm, an, cdv, ct, osl, rfl, lk, hcd⟩ := F.ex
  intro outer s H args us vs Q E hr e0 hb r hsp
  have hl : vs.length = ps.length := len _ _ _ _ hsp
  have keepK : ∀ b o, base.get? b = some o → s.heap.get? b = some o := fun b o e => (e0.bs b o e).1
  have KX : K.In s.heap := e0.mod.kin.keeps keepK
  have lim : s.heap.NoLimit := e0.mod.nolimit.keeps keepK
  have kinds : ∀ y ∈ ps.zip us, (defScope st).names.lookup y.1 = some .local ∨ ((defScope st).names.lookup y.1 = some .cell ∧ ((cellsFrom (s.heap.objs.size + 1) (defScope st).names []).lookup y.1).isSome = true) := by
    rintro ⟨n, v⟩ hy
    rcases S.par n (List.of_mem_zip hy).1 with q | q
    · exact Or.inl q
    · exact Or.inr ⟨q, PySem.W.cellsFrom_some _ _ _ (Or.inl q)⟩
  refine codeAny_call_function hr.depth (KX _ _ lk) rfl S.co S.gen rfl (PySem.W.codeRec_of KX hcd) (hb _ _ _ _ ?_)
  refine wpAny_newFunctionEnv_cells S.kind kinds fun env he s1 x1 => ?_
  subst he
  refine ⟨lim.keeps x1.toInCall.keep, codeAny_func ?_⟩
  obtain ⟨t, ht, hq⟩ := body cdv outer s H vs Q E (hr.deeper _) hsp
  have I := inv_start (CX := CX0) (E := E) S hr.hd e0 hl r x1
  refine wpAny_mono (ht.nox.run [] s1 (start N vs) H _ I hq) (fun fl s' hs => ?_) fun e s' hs => hs
  cases fl with
  | ret u =>
    obtain ⟨v, σ', H', J, rv, q⟩ := hs
    exact ⟨v, H', J.os, J.bare, J.base, J.hok, rv, q⟩
  | next =>
    obtain ⟨σ', H', J, q⟩ := hs
    exact ⟨V.non, H', J.os, J.bare, J.base, J.hok, rfl, q⟩
  | brk =>
    obtain ⟨_, _, _, q⟩ := hs
    exact q.elim
  | cont =>
    obtain ⟨_, _, _, q⟩ := hs
    exact q.elim
/-- from one abstract heap H that knows the script and nothing else -/
theorem heap_at {mb : Str → Option Value} {k : Nat} {fa a : Addr} {fd : FuncData} {x : Str} {sp : Sp} {s₁ : Shared} {vs : List Value} {ns : List Int} (KX : K.In s₁.heap) (hns : s₁.heap.Ns mainGlobals mg) (hb : s₁.heap.Ns builtinsNs mb)
    (hbb : ∀ x : Str, x ≠ "__name__" → mb x = bootBuiltins x) (hlim : s₁.heap.NoLimit) (hg : s₁.gens = #[]) (ha : s₁.heap.get? a = some { cls := .type "list", data := .seq vs.toArray }) (hr : Room k callerA)
    (F : ∀ base : Heap, K.In base → base.Ns mainGlobals mg → RunAt callerA P w K mg base CX0 k fa fd [x] sp) (hbind : ∀ (s : Shared) (u : Value), BindsTo s fd ⟨[u], []⟩ [(x, u)])
    (H : Hp) (hO : Only H) (hsp : sp [.ref a] H (fun v _ => v = .bl true) fun _ _ _ => False) (hok : HOk P w H s₁.heap) (hA : ∀ b u, H b = some u → b = a ∧ K.lookup a = none) :
    codeAny (model P w) callerA (.call (.ref fa) ⟨[.ref a], []⟩) (fun r s' => r = .ok (.ret (.bool true)) ∧ OldK s₁.heap s'.heap ∧ s'.os = s₁.os ∧ AllBare s'.gens) s₁ := by
  have dict : ∀ {b : Addr} {o : Obj} {es : Array DictEntry} {ep : Nat}, s₁.heap.get? b = some o → o.data = .dict es ep → H b = none := fun {b o es ep} e hd => by
    cases q : H b with
    | none => rfl
    | some u =>
      rw [(hA b u q).1, ha] at e
      cases e
      cases (show Data.seq vs.toArray _ = Data.dict es ep from hd)
  have ns0 : ∀ {b : Addr} {m : Str → Option Value}, s₁.heap.Ns b m → (hidT s₁.heap H).Ns b m := fun {b m} ⟨o, es, ep, e, hd, r⟩ => ⟨o, es, ep, hidT_get e (dict e hd), hd, r⟩
  have kb : K.In (hidT s₁.heap H) := fun b o e => hidT_get (KX b o e) (by
    cases q : H b with
    | none => rfl
    | some u =>
      obtain ⟨h1, h2⟩ := hA b u q
      rw [h1, h2] at e
      cases e)
  obtain ⟨mc, l1, l2⟩ := hlim
  have md : Mod K mg (hidT s₁.heap H) := ⟨kb, ns0 hns, ⟨mb, ns0 hb, hbb⟩, ⟨mc, ns0 l1, l2⟩⟩
  have nomem : ∀ b : Addr, b ∉ ([] : List Addr) := fun b h => by cases h
  have e0 : Env0 P w K mg (hidT s₁.heap H) callerA [] s₁ H :=
    { frames := rfl, mod := md, bs := fun b o e => of_hidT e, bsz := Nat.le_of_eq (hidT_size _ _), funs := trivial, frf := fun b h => absurd h (nomem b), hok := hok, bare := .of_eq hg }
  have run := (F _ kb (ns0 hns)) [] s₁ H ⟨[.ref a], []⟩ [.ref a] [.ref a] _ _ hr e0 (hbind s₁ (.ref a)) (.cons rfl .nil) hsp
  refine codeAny_mono run fun r s' h => ?_
  match r, h with
  | .error _, h => exact False.elim h
  | .ok .next, h => exact False.elim h
  | .ok .brk, h => exact False.elim h
  | .ok .cont, h => exact False.elim h
  | .ok (.ret u), h =>
    obtain ⟨v, H', os, bare, un, hok', rv, q⟩ := h
    have ev : v = .bl true := q
    subst ev
    have eu : u = Value.bool true := rv
    subst eu
    refine ⟨rfl, OldK.of_keep fun b o e => ?_, os, bare⟩
    cases hb : H b with
    | none => exact un.keep b o e hb (nomem b) (nomem b)
    | some y =>
      rcases hO b with z | ⟨ob, xs, z⟩
      · rw [hb] at z
        cases z
      · obtain ⟨g1, _⟩ := hok b _ z
        obtain ⟨g2, _⟩ := hok' b _ (un.frzs b ob _ z)
        rw [e] at g1
        cases g1
        exact g2
theorem call_at {mb : Str → Option Value} {k : Nat} {fa a : Addr} {fd : FuncData} {x : Str} {sp : Sp} {s₁ : Shared} {vs : List Value} {ns : List Int} (KX : K.In s₁.heap) (hns : s₁.heap.Ns mainGlobals mg) (hb : s₁.heap.Ns builtinsNs mb)
    (hbb : ∀ x : Str, x ≠ "__name__" → mb x = bootBuiltins x) (hlim : s₁.heap.NoLimit) (hg : s₁.gens = #[]) (ha : s₁.heap.get? a = some { cls := .type "list", data := .seq vs.toArray }) (hi : IntsAre vs ns) (hl : ns.length ≤ sizeLine) (hr : Room k callerA)
    (F : ∀ base : Heap, K.In base → base.Ns mainGlobals mg → RunAt callerA P w K mg base CX0 k fa fd [x] sp) (hbind : ∀ (s : Shared) (u : Value), BindsTo s fd ⟨[u], []⟩ [(x, u)])
    (hsp : ∀ H : Hp, Only H → SqL K H a (ns.map V.int) → sp [.ref a] H (fun v _ => v = .bl true) fun _ _ _ => False) :
    codeAny (model P w) callerA (.call (.ref fa) ⟨[.ref a], []⟩) (fun r s' => r = .ok (.ret (.bool true)) ∧ OldK s₁.heap s'.heap ∧ s'.os = s₁.os ∧ AllBare s'.gens) s₁ := by
  have rv := vals_ints hi
  have lv := hi.length
  cases hk : K.lookup a with
  | some o =>
    have e := KX a o hk
    rw [ha] at e
    cases e
    have hO : Only fun _ => none := fun _ => .inl rfl
    exact heap_at (ns := ns) KX hns hb hbb hlim hg ha hr F hbind (fun _ => none) hO (hsp _ hO (.inr ⟨_, vs.toArray, _, hk, rfl, rfl, rfl, by rw [List.size_toArray, lv]; exact hl, by simpa using rv⟩)) (fun b u z => nomatch z) fun b u z => nomatch z
  | none =>
    let ob : Obj := { cls := .type "list", data := .seq vs.toArray }
    let H : Hp := fun b => if b = a then some (.frz ob (.lst (ns.map V.int))) else none
    have at_ : H a = some (.frz ob (.lst (ns.map V.int))) := if_pos rfl
    have off : ∀ b u, H b = some u → b = a := fun b u z => by
      by_cases h : b = a
      · exact h
      · have z' : (if b = a then some (HO.frz ob (.lst (ns.map V.int))) else none) = some u := z
        rw [if_neg h] at z'
        cases z'
    have hO : Only H := fun b => by
      by_cases h : b = a
      · subst h
        exact .inr ⟨_, _, at_⟩
      · exact .inl (if_neg h)
    refine heap_at (ns := ns) KX hns hb hbb hlim hg ha hr F hbind H hO (hsp H hO (.inl (.inr ⟨ob, at_⟩))) (fun b u z => ?_) fun b u z => ⟨off b u z, hk⟩
    have h := off b u z
    subst h
    rw [at_] at z
    cases z
    exact ⟨ha, by rw [List.length_map]; exact hl, vs, _, rv, ha⟩
end
/-- the law's end, its promise asked where the caller calls it -/
theorem walk_at {l : PySem.W.OpenLaw} {n k : Nat} {q : Program} {loose : List Str} {XP : (Str → Option Value) → Heap → Prop} {YP : World → Heap → Prop} {d : DefRec} {K : Params → PySem.W.Frag} {sp : World → Sp} {x : Str}
    (hn : l.most = some n) (hn2 : n ≤ sizeLine) (hdf : d.params.defaults = []) (hr : Room k callerA) (hY : ∀ (w : World) (h : Heap), YP w h → (K w.params).In h)
    (F : ∀ (w : World) (mg : Str → Option Value) (fa : Addr) (h : Heap), (K w.params).In h → h.Ns mainGlobals mg → mg d.name = some (.ref fa) →
      ∃ fd : FuncData, (∀ (s : Shared) (u : Value), BindsTo s fd ⟨[u], []⟩ [(x, u)]) ∧ ∀ base : Heap, (K w.params).In base → base.Ns mainGlobals mg → RunAt callerA l.prog w (K w.params) mg base CX0 k fa fd [x] (sp w))
    (hsp : ∀ (w : World) (H : Hp) (a : Addr) (ns : List Int), ns.length ≤ n → Only H → SqL (K w.params) H a (ns.map V.int) → sp w [.ref a] H (fun v _ => v = .bl true) fun _ _ _ => False) :
    PySem.W.WalkO q loose XP YP l.row.toRowW d [] (fun f vs => PySem.call f vs) :=
  Att.attach_call hn hdf fun w s₀ s₁ mg mb fa o pm cd doc a vs ns G Y ho hd hcd hmg hobj hints hlen hg => by
    have KX := hY w _ Y
    obtain ⟨fd, hb, hF⟩ := F w mg fa _ KX G.T.g hmg
    exact call_at KX G.T.g G.T.b G.T.builtins G.T.nolimit hg hobj hints (Nat.le_trans hlen hn2) hr hF hb fun H hO hS => hsp w H a ns hlen hO hS
end Gy

namespace Mw
open PySem L2
/-! ### a message as plain data: what == and repr look at -/
def vD : V → PyData
  | .str s => .str s
  | .int i => .int i
  | _ => .none
def dat : T → List PyData
  | .nil => []
  | .text s r => .tuple [.str "text", .str s] :: dat r
  | .shw n r => .tuple [.str "show", .str n] :: dat r
  | .num r => .tuple [.str "number"] :: dat r
  | .cho hd cs o r => .tuple (hd.map vD ++ [.list (dat cs), .list (dat o)]) :: dat r
  | .cas k m r => .tuple [vD k, .list (dat m)] :: dat r
/-- small leaves: texts of a few signs, small numbers -/
def VOk : V → Prop
  | .str s => PyData.strOk s = true ∧ (reprText s).length ≤ 12
  | .int i => i = 0 ∨ i = 1 ∨ i = 2 ∨ i = 12
  | _ => False
def SOk : T → Prop
  | .nil => True
  | .text s r => PyData.strOk s = true ∧ SOk r
  | .shw n r => VOk (.str n) ∧ SOk r
  | .num r => SOk r
  | .cho hd cs o r => (∀ v ∈ hd, VOk v) ∧ hd.length ≤ 3 ∧ SOk cs ∧ SOk o ∧ SOk r
  | .cas k m r => VOk k ∧ SOk m ∧ SOk r
theorem dp_flat {K : PySem.W.Frag} {H : Hp} {v : V} (h : VOk v) : Dp K H v (vD v) := by
  cases v with
  | str s => exact .str s
  | int i => exact .int i
  | _ => cases h
theorem dpa_app {K : PySem.W.Frag} {H : Hp} {ys : List V} {es : List PyData} (h' : DpAll K H ys es) : ∀ {xs : List V} {ds : List PyData}, DpAll K H xs ds → DpAll K H (xs ++ ys) (ds ++ es)
  | _, _, .nil => h'
  | _, _, .cons a b => .cons a (dpa_app h' b)
theorem dpa_flat {K : PySem.W.Frag} {H : Hp} : ∀ {hd : List V}, (∀ v ∈ hd, VOk v) → DpAll K H hd (hd.map vD)
  | [], _ => .nil
  | v :: r, h => .cons (dp_flat (h v (by simp))) (dpa_flat fun x hx => h x (List.mem_cons_of_mem _ hx))
theorem Nodes.dp {K : PySem.W.Frag} {H : Hp} : ∀ {t : T} {vs : List V}, Nodes H t vs → SOk t → DpAll K H vs (dat t)
  | .nil, _, h, _ => by rw [show _ = [] from h]; exact .nil
  | .text s r, _, h, w => by
    obtain ⟨p, ws, rfl, hp, hr⟩ := h
    exact .cons (.tup (.inl (.inl hp)) (.cons (.str _) (.cons (.str _) .nil))) (Nodes.dp hr w.2)
  | .shw n r, _, h, w => by
    obtain ⟨p, ws, rfl, hp, hr⟩ := h
    exact .cons (.tup (.inl (.inl hp)) (.cons (.str _) (.cons (.str _) .nil))) (Nodes.dp hr w.2)
  | .num r, _, h, w => by
    obtain ⟨p, ws, rfl, hp, hr⟩ := h
    exact .cons (.tup (.inl (.inl hp)) (.cons (.str _) .nil)) (Nodes.dp hr w)
  | .cho hd cs o r, _, h, w => by
    obtain ⟨p, ws, ca, cvs, oa, ovs, rfl, hp, hc, hcs, ho, hos, hr⟩ := h
    exact .cons (.tup (.inl (.inl hp)) (dpa_app (.cons (.lst (SqL.of hc) (Nodes.dp hcs w.2.2.1)) (.cons (.lst (SqL.of ho) (Nodes.dp hos w.2.2.2.1)) .nil)) (dpa_flat w.1))) (Nodes.dp hr w.2.2.2.2)
  | .cas k m r, _, h, w => by
    obtain ⟨p, ws, ma, mvs, rfl, hp, hm, hms, hr⟩ := h
    exact .cons (.tup (.inl (.inl hp)) (.cons (dp_flat w.1) (.cons (.lst (SqL.of hm) (Nodes.dp hms w.2.1)) .nil))) (Nodes.dp hr w.2.2)
theorem At.dp {K : PySem.W.Frag} {H : Hp} {a : Addr} {t : T} (h : At H a t) (w : SOk t) : Dp K H (.ref a) (.list (dat t)) := by
  obtain ⟨vs, h1, h2⟩ := h
  exact .lst (SqL.of h1) (h2.dp w)
theorem vd_ok {v : V} (h : VOk v) : (vD v).canLay0 = true ∧ (vD v).showable = true ∧ (vD v).hasDict = false ∧ (vD v).depth = 0 ∧ (vD v).shown.length ≤ 12 := by
  cases v with
  | str s =>
    exact ⟨h.1, rfl, rfl, rfl, h.2⟩
  | int i =>
    have hi : ∀ i : Int, i = 0 ∨ i = 1 ∨ i = 2 ∨ i = 12 → (PyData.int i).showable = true ∧ (PyData.int i).shown.length ≤ 12 := by
      rintro i (rfl | rfl | rfl | rfl) <;> exact ⟨by decide +kernel, by decide +kernel⟩
    exact ⟨rfl, (hi i h).1, rfl, rfl, (hi i h).2⟩
  | _ => cases h
theorem hd_ok : ∀ {hd : List V}, (∀ v ∈ hd, VOk v) → PyData.canLayAll0 (hd.map vD) = true ∧ PyData.showableAll (hd.map vD) = true ∧ PyData.hasDictAll (hd.map vD) = false ∧ PyData.depthAll (hd.map vD) = 0
  | [], _ => ⟨rfl, rfl, rfl, rfl⟩
  | v :: r, h => by
    obtain ⟨a1, a2, a3, a4, _⟩ := vd_ok (h v (by simp))
    obtain ⟨b1, b2, b3, b4⟩ := hd_ok (hd := r) fun x hx => h x (List.mem_cons_of_mem _ hx)
    refine ⟨?_, ?_, ?_, ?_⟩
    · simp only [List.map_cons, PyData.canLayAll0, a1, b1, Bool.and_self]
    · simp only [List.map_cons, PyData.showableAll, a2, b2, Bool.and_self]
    · simp only [List.map_cons, PyData.hasDictAll, a3, b3, Bool.or_self]
    · simp only [List.map_cons, PyData.depthAll, a4, b4, Nat.max_self]
theorem cl_app : ∀ (xs ys : List PyData), PyData.canLayAll0 (xs ++ ys) = (PyData.canLayAll0 xs && PyData.canLayAll0 ys)
  | [], _ => rfl
  | x :: xs, ys => by simp only [List.cons_append, PyData.canLayAll0, cl_app xs ys, Bool.and_assoc]
theorem sh_app : ∀ (xs ys : List PyData), PyData.showableAll (xs ++ ys) = (PyData.showableAll xs && PyData.showableAll ys)
  | [], _ => rfl
  | x :: xs, ys => by simp only [List.cons_append, PyData.showableAll, sh_app xs ys, Bool.and_assoc]
theorem hs_app : ∀ (xs ys : List PyData), PyData.hasDictAll (xs ++ ys) = (PyData.hasDictAll xs || PyData.hasDictAll ys)
  | [], _ => rfl
  | x :: xs, ys => by simp only [List.cons_append, PyData.hasDictAll, hs_app xs ys, Bool.or_assoc]
theorem dp_app : ∀ (xs ys : List PyData), PyData.depthAll (xs ++ ys) = max (PyData.depthAll xs) (PyData.depthAll ys)
  | [], _ => by simp [PyData.depthAll]
  | x :: xs, ys => by simp only [List.cons_append, PyData.depthAll, dp_app xs ys, Nat.max_assoc]
theorem sa_app : ∀ (xs ys : List PyData), PyData.shownAll (xs ++ ys) = PyData.shownAll xs ++ PyData.shownAll ys
  | [], _ => rfl
  | x :: xs, ys => by simp only [List.cons_append, PyData.shownAll, sa_app xs ys]
theorem dat_ok : ∀ {t : T}, SOk t → PyData.canLayAll0 (dat t) = true ∧ PyData.showableAll (dat t) = true ∧ PyData.hasDictAll (dat t) = false
  | .nil, _ => ⟨rfl, rfl, rfl⟩
  | .text s r, w => by
    obtain ⟨a1, a2, a3⟩ := dat_ok w.2
    have h : PyData.strOk ("text" : Str) = true := by decide +kernel
    refine ⟨?_, ?_, ?_⟩
    · simp only [dat, PyData.canLayAll0, PyData.canLay0, h, w.1, a1, Bool.and_self]
    · simp only [dat, PyData.showableAll, PyData.showable, a2, Bool.and_self]
    · simp only [dat, PyData.hasDictAll, PyData.hasDict, a3, Bool.or_self]
  | .shw n r, w => by
    obtain ⟨a1, a2, a3⟩ := dat_ok w.2
    have h : PyData.strOk ("show" : Str) = true := by decide +kernel
    have h2 : PyData.strOk n = true := w.1.1
    refine ⟨?_, ?_, ?_⟩
    · simp only [dat, PyData.canLayAll0, PyData.canLay0, h, h2, a1, Bool.and_self]
    · simp only [dat, PyData.showableAll, PyData.showable, a2, Bool.and_self]
    · simp only [dat, PyData.hasDictAll, PyData.hasDict, a3, Bool.or_self]
  | .num r, w => by
    obtain ⟨a1, a2, a3⟩ := dat_ok (t := r) w
    have h : PyData.strOk ("number" : Str) = true := by decide +kernel
    refine ⟨?_, ?_, ?_⟩
    · simp only [dat, PyData.canLayAll0, PyData.canLay0, h, a1, Bool.and_self]
    · simp only [dat, PyData.showableAll, PyData.showable, a2, Bool.and_self]
    · simp only [dat, PyData.hasDictAll, PyData.hasDict, a3, Bool.or_self]
  | .cho hd cs o r, w => by
    obtain ⟨a1, a2, a3⟩ := dat_ok w.2.2.2.2
    obtain ⟨b1, b2, b3⟩ := dat_ok w.2.2.1
    obtain ⟨c1, c2, c3⟩ := dat_ok w.2.2.2.1
    obtain ⟨d1, d2, d3, _⟩ := hd_ok w.1
    refine ⟨?_, ?_, ?_⟩
    · simp only [dat, PyData.canLayAll0, PyData.canLay0, cl_app, a1, b1, c1, d1, Bool.and_self]
    · simp only [dat, PyData.showableAll, PyData.showable, sh_app, a2, b2, c2, d2, Bool.and_self]
    · simp only [dat, PyData.hasDictAll, PyData.hasDict, hs_app, a3, b3, c3, d3, Bool.or_self]
  | .cas k m r, w => by
    obtain ⟨a1, a2, a3⟩ := dat_ok w.2.2
    obtain ⟨b1, b2, b3⟩ := dat_ok w.2.1
    obtain ⟨d1, d2, d3, _⟩ := vd_ok w.1
    refine ⟨?_, ?_, ?_⟩
    · simp only [dat, PyData.canLayAll0, PyData.canLay0, a1, b1, d1, Bool.and_self]
    · simp only [dat, PyData.showableAll, PyData.showable, a2, b2, d2, Bool.and_self]
    · simp only [dat, PyData.hasDictAll, PyData.hasDict, a3, b3, d3, Bool.or_self]
theorem dat_depth : ∀ {t : T} {c : Bool}, Wf t c → SOk t → PyData.depthAll (dat t) ≤ 4 * t.dep + (if c then 3 else 1)
  | .nil, c, _, _ => Nat.zero_le _
  | .text s r, c, w, s' => by
    have hc := w.1
    subst hc
    have h := dat_depth w.2 s'.2
    simp only [dat, PyData.depthAll, PyData.depth, T.dep, Bool.false_eq_true, if_false] at h ⊢
    omega
  | .shw n r, c, w, s' => by
    have hc := w.1
    subst hc
    have h := dat_depth w.2 s'.2
    simp only [dat, PyData.depthAll, PyData.depth, T.dep, Bool.false_eq_true, if_false] at h ⊢
    omega
  | .num r, c, w, s' => by
    have hc := w.1
    subst hc
    have h := dat_depth w.2 (show SOk r from s')
    simp only [dat, PyData.depthAll, PyData.depth, T.dep, Bool.false_eq_true, if_false] at h ⊢
    omega
  | .cho hd cs o r, c, w, s' => by
    have hc := w.1
    subst hc
    have h1 := dat_depth w.2.2.1 s'.2.2.1
    have h2 := dat_depth w.2.2.2.1 s'.2.2.2.1
    have h3 := dat_depth w.2.2.2.2 s'.2.2.2.2
    obtain ⟨_, _, _, h4⟩ := hd_ok s'.1
    simp only [dat, PyData.depthAll, PyData.depth, T.dep, dp_app, h4]
    simp only [if_true, Bool.false_eq_true, if_false] at h1 h2 h3 ⊢
    omega
  | .cas k m r, c, w, s' => by
    have h1 := dat_depth w.2.2.1 s'.2.1
    have h3 := dat_depth w.2.2.2 s'.2.2
    obtain ⟨_, _, _, h4, _⟩ := vd_ok s'.1
    have hc := w.1
    subst hc
    simp only [dat, PyData.depthAll, PyData.depth, T.dep, h4]
    simp only [if_true, Bool.false_eq_true, if_false] at h1 h3 ⊢
    omega
/-! ### how long repr is -/
def slen (ts : List Str) : Nat := (ts.map fun t => t.length + 2).sum
theorem from_len : ∀ (ts : List Str) (k : Nat) (acc : Str), (textFrom k acc ts).length ≤ acc.length + slen ts
  | [], _, acc => Nat.le_refl _
  | t :: r, k, acc => by
    have h := from_len r (k + 1) (acc ++ (if k > 0 then ", " else "" : String) ++ t)
    rw [str_len, str_len] at h
    have e : (Str.ofString (if k > 0 then ", " else "" : String)).length ≤ 2 := by
      split <;> decide +kernel
    show (textFrom (k + 1) (acc ++ (if k > 0 then ", " else "" : String) ++ t) r).length ≤ acc.length + (t.length + 2 + slen r)
    omega
theorem list_len (ts : List Str) : (listText ts).length ≤ slen ts + 2 := by
  have h := from_len ts 0 ("[" : Str)
  have e1 : ("[" : Str).length = 1 := by decide +kernel
  have e2 : ("]" : Str).length = 1 := by decide +kernel
  show (textFrom 0 ("[" : Str) ts ++ ("]" : Str)).length ≤ _
  rw [str_len]
  omega
theorem sum_two : ∀ ts : List Str, (ts.map (·.length)).sum + ts.length * 2 = slen ts
  | [] => rfl
  | t :: r => by
    have := sum_two r
    show t.length + (r.map (·.length)).sum + (r.length + 1) * 2 = t.length + 2 + slen r
    omega
theorem tup_len (ts : List Str) : (tupleText ts).length ≤ slen ts + 3 := by
  have h := StrLaws.join_length_le (", " : Str) ts
  have e0 : (", " : Str).length = 2 := by decide +kernel
  have e1 : ("(" : Str).length = 1 := by decide +kernel
  have e2 : (Str.ofString (if ts.length == 1 then ",)" else ")" : String)).length ≤ 2 := by
    split <;> decide +kernel
  rw [e0, sum_two] at h
  show (("(" : Str) ++ Str.join (", " : Str) ts ++ Str.ofString (if ts.length == 1 then ",)" else ")" : String)).length ≤ _
  rw [str_len, str_len]
  omega
theorem slen_app (xs ys : List Str) : slen (xs ++ ys) = slen xs + slen ys := by
  unfold slen
  rw [List.map_append, List.sum_append]
theorem hd_len : ∀ {hd : List V}, (∀ v ∈ hd, VOk v) → slen (PyData.shownAll (hd.map vD)) ≤ 14 * hd.length
  | [], _ => Nat.le_refl _
  | v :: r, h => by
    have h1 := hd_len (hd := r) fun x hx => h x (List.mem_cons_of_mem _ hx)
    obtain ⟨_, _, _, _, h2⟩ := vd_ok (h v (by simp))
    show (vD v).shown.length + 2 + slen (PyData.shownAll (r.map vD)) ≤ 14 * (r.length + 1)
    omega
end Mw

namespace Mw
open PySem L2
theorem txt_len {s : Str} (h : PyData.strOk s = true) : (reprText s).length ≤ 10 * s.length + 2 :=
  PySem.StrLaws.reprText_len s fun c hc => by
    unfold PyData.strOk at h
    rw [Array.all_eq_true'] at h
    have := of_decide_eq_true (h c (by simpa using hc))
    omega
theorem slen_cons (t : Str) (r : List Str) : slen (t :: r) = t.length + 2 + slen r := rfl
theorem slen_nil : slen [] = 0 := rfl
theorem dat_len : ∀ {t : T}, SOk t → slen (PyData.shownAll (dat t)) ≤ 60 * t.sz
  | .nil, _ => Nat.le_refl _
  | .text s r, w => by
    have h := dat_len w.2
    have h1 := txt_len w.1
    have h2 : (reprText ("text" : Str)).length ≤ 10 := by decide +kernel
    have h3 := tup_len [reprText ("text" : Str), reprText s]
    simp only [dat, PyData.shownAll, slen_cons, slen_nil, PyData.shown, T.sz] at h3 ⊢
    omega
  | .shw n r, w => by
    have h := dat_len w.2
    have h1 : (reprText n).length ≤ 12 := w.1.2
    have h2 : (reprText ("show" : Str)).length ≤ 10 := by decide +kernel
    have h3 := tup_len [reprText ("show" : Str), reprText n]
    simp only [dat, PyData.shownAll, slen_cons, slen_nil, PyData.shown, T.sz] at h3 ⊢
    omega
  | .num r, w => by
    have h := dat_len (t := r) w
    have h2 : (reprText ("number" : Str)).length ≤ 10 := by decide +kernel
    have h3 := tup_len [reprText ("number" : Str)]
    simp only [dat, PyData.shownAll, slen_cons, slen_nil, PyData.shown, T.sz] at h3 ⊢
    omega
  | .cho hd cs o r, w => by
    have h := dat_len w.2.2.2.2
    have h1 := dat_len w.2.2.1
    have h2 := dat_len w.2.2.2.1
    have h0 := hd_len w.1
    have hl := w.2.1
    have a1 := list_len (PyData.shownAll (dat cs))
    have a2 := list_len (PyData.shownAll (dat o))
    have h3 := tup_len (PyData.shownAll (hd.map vD) ++ [listText (PyData.shownAll (dat cs)), listText (PyData.shownAll (dat o))])
    simp only [dat, PyData.shownAll, slen_cons, slen_nil, PyData.shown, T.sz, sa_app, slen_app] at h3 ⊢
    omega
  | .cas k m r, w => by
    have h := dat_len w.2.2
    have h1 := dat_len w.2.1
    obtain ⟨_, _, _, _, h0⟩ := vd_ok w.1
    have a1 := list_len (PyData.shownAll (dat m))
    have h3 := tup_len [(vD k).shown, listText (PyData.shownAll (dat m))]
    simp only [dat, PyData.shownAll, slen_cons, slen_nil, PyData.shown, T.sz] at h3 ⊢
    omega
/-! ### from the plain form back, and from the builder on -/
theorem ok_app {a b : Str} (h : PyData.strOk (a ++ b) = true) : PyData.strOk a = true ∧ PyData.strOk b = true := by
  unfold PyData.strOk at *
  rw [Array.all_eq_true'] at *
  have e : (a ++ b).cps = a.cps ++ b.cps := Str.cps_append _ _
  rw [e] at h
  rw [Array.all_eq_true']
  exact ⟨fun c hc => h c (Array.mem_append.mpr (.inl hc)), fun c hc => h c (Array.mem_append.mpr (.inr hc))⟩
theorem sok_txt {a : Str} {u : T} (h : SOk (txt a u)) : PyData.strOk a = true ∧ SOk u := by
  unfold txt at h
  split at h
  · rename_i e
    subst e
    exact ⟨by decide +kernel, h⟩
  · exact h
theorem sok_pl : ∀ {t : T} {a : Str}, SOk (pl a t) → PyData.strOk a = true ∧ SOk t
  | .nil, _, h => ⟨(sok_txt h).1, trivial⟩
  | .text s r, a, h => by
    obtain ⟨h1, h2⟩ := sok_pl (t := r) h
    obtain ⟨h3, h4⟩ := ok_app h1
    exact ⟨h3, h4, h2⟩
  | .shw n r, a, h => by
    obtain ⟨h1, h2, h3⟩ := sok_txt h
    exact ⟨h1, h2, (sok_pl h3).2⟩
  | .num r, a, h => by
    obtain ⟨h1, h3⟩ := sok_txt h
    exact ⟨h1, (sok_pl (t := r) h3).2⟩
  | .cho hd cs o r, a, h => by
    obtain ⟨h1, h2, h3, h4, h5, h6⟩ := sok_txt h
    exact ⟨h1, h2, h3, (sok_pl h4).2, (sok_pl h5).2, (sok_pl h6).2⟩
  | .cas k m r, a, h => by
    obtain ⟨h1, h2, h3, h4⟩ := sok_txt h
    exact ⟨h1, h2, (sok_pl h3).2, (sok_pl h4).2⟩
instance (v : V) : Decidable (VOk v) := by
  unfold VOk
  split <;> infer_instance
theorem menu_ok {s : Str} (h : s ∈ menu) : PyData.strOk s = true ∧ s ≠ ("" : Str) := by
  have a : ∀ s ∈ menu, PyData.strOk s = true ∧ s ≠ ("" : Str) := by decide +kernel
  exact a s h
theorem keys_ok : (∀ v ∈ skeys, VOk v ∧ KeyW v) ∧ ∀ v ∈ pkeys, VOk v ∧ KeyW v := by
  have a : (∀ v ∈ skeys, VOk v) ∧ ∀ v ∈ pkeys, VOk v := by decide +kernel
  refine ⟨fun v h => ⟨a.1 v h, ?_⟩, fun v h => ⟨a.2 v h, ?_⟩⟩
  · obtain ⟨s, _, rfl⟩ := List.mem_map.mp h
    exact .inl ⟨s, rfl⟩
  · rcases List.mem_append.mp h with h | h
    · obtain ⟨i, _, rfl⟩ := List.mem_map.mp h
      exact .inr ⟨i, rfl⟩
    · obtain ⟨s, _, rfl⟩ := List.mem_map.mp h
      exact .inl ⟨s, rfl⟩
theorem hdok_all {hd ks : List V} {i j : Bool} (h : HdOk hd i j ks) : HdW hd ∧ (∀ v ∈ hd, VOk v) ∧ hd.length ≤ 3 ∧ ∀ v ∈ ks, VOk v ∧ KeyW v := by
  cases h with
  | @sel n _ _ hn hk =>
    refine ⟨.inl ⟨n, rfl⟩, ?_, by simp, fun v h => keys_ok.1 v (hk.subset h)⟩
    have a : ∀ n : Str, n ∈ (["w", "kind"] : List Str) → ∀ v ∈ [V.str "select", V.str n], VOk v := by decide +kernel
    exact a n (by simpa using hn)
  | @plu n off _ _ hn ho hk =>
    refine ⟨.inr ⟨n, off, rfl⟩, ?_, by simp, fun v h => keys_ok.2 v ?_⟩
    · have a : ∀ n : Str, n ∈ (["n", "count"] : List Str) → ∀ v ∈ [V.str "plural", V.str n], VOk v := by decide +kernel
      intro v hv
      simp only [List.mem_cons, List.not_mem_nil, or_false] at hv
      rcases hv with rfl | rfl | rfl
      · exact a n (by simpa using hn) _ (by simp)
      · exact a n (by simpa using hn) _ (by simp)
      · rcases ho with rfl | rfl | rfl <;> decide +kernel
    · rcases hk with hk | hk
      · exact hk.subset h
      · exact List.mem_reverse.mp (hk.subset h)
theorem Gd.all : ∀ {t : T} {c : Bool} {d : Nat} {i : Bool}, Gd t c d i → (c = true → ∀ v ∈ t.keys, VOk v ∧ KeyW v) → Wf t c ∧ SOk t ∧ t.dep ≤ d
  | .nil, _, _, _, _, _ => ⟨trivial, trivial, Nat.zero_le _⟩
  | .text s r, c, d, i, h, _ => by
    obtain ⟨h1, h2, h3⟩ := Gd.all h.2.2.2 fun e => by rw [h.1] at e; cases e
    exact ⟨⟨h.1, h1⟩, ⟨(menu_ok h.2.1).1, h2⟩, h3⟩
  | .shw n r, c, d, i, h, _ => by
    obtain ⟨h1, h2, h3⟩ := Gd.all h.2.2 fun e => by rw [h.1] at e; cases e
    have a : ∀ n ∈ names4, VOk (.str n) := by decide +kernel
    exact ⟨⟨h.1, h1⟩, ⟨a n h.2.1, h2⟩, h3⟩
  | .num r, c, d, i, h, _ => by
    obtain ⟨h1, h2, h3⟩ := Gd.all h.2.2 fun e => by rw [h.1] at e; cases e
    exact ⟨⟨h.1, h1⟩, h2, h3⟩
  | .cho hd cs o r, c, d, i, h, _ => by
    obtain ⟨e, j, rfl, hh, g1, g2⟩ := h.2.1
    obtain ⟨a1, a2, a3, a4⟩ := hdok_all hh
    obtain ⟨h1, h2, h3⟩ := Gd.all h.2.2 fun e => by rw [h.1] at e; cases e
    obtain ⟨b1, b2, b3⟩ := Gd.all g1 fun _ => a4
    obtain ⟨c1, c2, c3⟩ := Gd.all g2 fun e => by cases e
    refine ⟨⟨h.1, a1, b1, c1, h1⟩, ⟨a2, a3, b2, c2, h2⟩, ?_⟩
    simp only [T.dep]
    omega
  | .cas k m r, c, d, i, h, hk => by
    have hk' := hk h.1
    obtain ⟨h1, h2, h3⟩ := Gd.all h.2.2 fun _ v hv => hk' v (by simp [T.keys, hv])
    obtain ⟨b1, b2, b3⟩ := Gd.all h.2.1 fun e => by cases e
    have hkk := hk' k (by simp [T.keys])
    refine ⟨⟨h.1, hkk.2, b1, h1⟩, ⟨hkk.1, b2, h2⟩, ?_⟩
    simp only [T.dep]
    omega
/-- the builder's messages are in plain form -/
theorem Gd.plain : ∀ {t : T} {c : Bool} {d : Nat} {i : Bool}, Gd t c d i → pl ("" : Str) t = t ∧ (t.notText = true → ∀ a, pl a t = txt a t)
  | .nil, _, _, _, _ => ⟨txt_e _, fun _ _ => rfl⟩
  | .text s r, c, d, i, h => by
    refine ⟨?_, fun e => by cases e⟩
    obtain ⟨_, h2⟩ := Gd.plain h.2.2.2
    show pl (("" : Str) ++ s) r = .text s r
    rw [nil_str, h2 h.2.2.1]
    exact if_neg (menu_ok h.2.1).2
  | .shw n r, c, d, i, h => by
    have e := (Gd.plain h.2.2).1
    have f : ∀ a, pl a (.shw n r) = txt a (.shw n r) := fun a => by
      show txt a (.shw n (pl ("" : Str) r)) = _
      rw [e]
    exact ⟨by rw [f, txt_e], fun _ => f⟩
  | .num r, c, d, i, h => by
    have e := (Gd.plain h.2.2).1
    have f : ∀ a, pl a (.num r) = txt a (.num r) := fun a => by
      show txt a (.num (pl ("" : Str) r)) = _
      rw [e]
    exact ⟨by rw [f, txt_e], fun _ => f⟩
  | .cho hd cs o r, c, d, i, h => by
    obtain ⟨e', j, _, _, g1, g2⟩ := h.2.1
    have e := (Gd.plain h.2.2).1
    have e1 := (Gd.plain g1).1
    have e2 := (Gd.plain g2).1
    have f : ∀ a, pl a (.cho hd cs o r) = txt a (.cho hd cs o r) := fun a => by
      show txt a (.cho hd (pl ("" : Str) cs) (pl ("" : Str) o) (pl ("" : Str) r)) = _
      rw [e, e1, e2]
    exact ⟨by rw [f, txt_e], fun _ => f⟩
  | .cas k m r, c, d, i, h => by
    have e := (Gd.plain h.2.2).1
    have e1 := (Gd.plain h.2.1).1
    have f : ∀ a, pl a (.cas k m r) = txt a (.cas k m r) := fun a => by
      show txt a (.cas k (pl ("" : Str) m) (pl ("" : Str) r)) = _
      rw [e, e1]
    exact ⟨by rw [f, txt_e], fun _ => f⟩
end Mw

namespace Mw
open PySem L2
theorem call_reprD {X : Cx} (hg : X.A.guards = some []) (hu : X.A.units + 100 < cLine) : CallR X (.builtin "repr") (fun xs H Q => ∃ a t, xs = [.ref a] ∧ At H a t ∧ SOk t ∧ Wf t false ∧ t.dep ≤ 10 ∧ t.sz ≤ 200000 ∧ Q (.str (PyData.list (dat t)).shown) H) := by
  intro pins s σ H xs us Q I r h
  obtain ⟨a, t, rfl, ha, hs, hw, hd, hz, q⟩ := h
  obtain ⟨u, rfl, ru⟩ := vals1 r
  have ru' : u = Value.ref a := ru
  subst ru'
  obtain ⟨as, rd⟩ := Dp.reads I _ _ _ (ha.dp (K := X.K) hs) (show RelV (.ref a) (.ref a) from rfl)
  obtain ⟨_, h2, h3⟩ := dat_ok hs
  have h4 := dat_depth hw hs
  simp only [Bool.false_eq_true, if_false] at h4
  have h5 := dat_len hs
  have h6 := list_len (PyData.shownAll (dat t))
  refine repr_of_reads' rd h2 (PyData.noDict_hsm h3) hg ?_ (fun _ _ e => e) (fun h' u tk hk => ⟨.str _, H, I.kept (t' := tk) hk, ⟨_, rfl⟩, q⟩) ?_
  · show X.A.units + (PyData.depthAll (dat t) + 1 + 1) < cLine
    omega
  · show (listText (PyData.shownAll (dat t))).length ≤ sizeLine
    exact Nat.le_trans (show _ ≤ 16000000 by omega) (by decide)
theorem shaped_of {t : T} (hs : SOk t) (hw : Wf t false) (hd : t.dep ≤ 10) : SeqAt.shaped (.list (dat t)) = true := by
  have h4 := dat_depth hw hs
  simp only [Bool.false_eq_true, if_false] at h4
  unfold SeqAt.shaped
  rw [Bool.and_eq_true]
  refine ⟨(dat_ok hs).1, decide_eq_true ?_⟩
  show PyData.depthAll (dat t) + 1 ≤ 64
  omega
theorem shaped_cs {t : T} (hs : SOk t) (hw : Wf t true) (hd : t.dep ≤ 10) : SeqAt.shaped (.list (dat t)) = true := by
  have h4 := dat_depth hw hs
  simp only [if_true] at h4
  unfold SeqAt.shaped
  rw [Bool.and_eq_true]
  refine ⟨(dat_ok hs).1, decide_eq_true ?_⟩
  show PyData.depthAll (dat t) + 1 ≤ 64
  omega
theorem eqv_self {d : PyData} (h : SeqAt.shaped d = true) : PyData.eqv d d = true := SeqAt.eqv_refl d (SeqAt.canLay_of_shaped h)
/-- the messages within a node, as data -/
def ind (ms : List T) : List PyData := ms.map fun m => .list (dat m)
theorem Ats.dp {K : PySem.W.Frag} {H : Hp} : ∀ {ms : List T} {vs : List V}, Ats H ms vs → (∀ m ∈ ms, SOk m) → DpAll K H vs (ind ms)
  | [], _, h, _ => by rw [show _ = [] from h]; exact .nil
  | m :: ms, _, h, w => by
    obtain ⟨a, ws, rfl, h1, h2⟩ := h
    exact .cons (h1.dp (w m (by simp))) (Ats.dp h2 fun x hx => w x (List.mem_cons_of_mem _ hx))
theorem shaped_ind {ms : List T} (hs : ∀ m ∈ ms, SOk m) (hw : ∀ m ∈ ms, Wf m false) (hd : ∀ m ∈ ms, m.dep ≤ 10) : SeqAt.shaped (.list (ind ms)) = true := by
  have key : ∀ ms : List T, (∀ m ∈ ms, SOk m) → (∀ m ∈ ms, Wf m false) → (∀ m ∈ ms, m.dep ≤ 10) → PyData.canLayAll0 (ind ms) = true ∧ PyData.depthAll (ind ms) ≤ 50 := by
    intro ms
    induction ms with
    | nil => intro _ _ _; exact ⟨rfl, Nat.zero_le _⟩
    | cons m ms ih =>
      intro h1 h2 h3
      obtain ⟨i1, i2⟩ := ih (fun x hx => h1 x (List.mem_cons_of_mem _ hx)) (fun x hx => h2 x (List.mem_cons_of_mem _ hx)) fun x hx => h3 x (List.mem_cons_of_mem _ hx)
      have h4 := dat_depth (h2 m (by simp)) (h1 m (by simp))
      simp only [Bool.false_eq_true, if_false] at h4
      have h5 := h3 m (by simp)
      have h6 := (dat_ok (h1 m (by simp))).1
      refine ⟨?_, ?_⟩
      · show (PyData.canLayAll0 (dat m) && PyData.canLayAll0 (ind ms)) = true
        rw [h6, i1]
        rfl
      · show max (PyData.depthAll (dat m) + 1) (PyData.depthAll (ind ms)) ≤ 50
        omega
  obtain ⟨h1, h2⟩ := key ms hs hw hd
  unfold SeqAt.shaped
  rw [Bool.and_eq_true]
  refine ⟨h1, decide_eq_true ?_⟩
  show PyData.depthAll (ind ms) + 1 ≤ 64
  omega
theorem sok_nodes : ∀ {t : T}, SOk t → ∀ u ∈ t.nodes, SOk u
  | .nil, _, u, h => by cases h
  | .text s r, w, u, h => by
    rcases List.mem_cons.mp h with rfl | h
    · exact ⟨w.1, trivial⟩
    · exact sok_nodes w.2 u h
  | .shw s r, w, u, h => by
    rcases List.mem_cons.mp h with rfl | h
    · exact ⟨w.1, trivial⟩
    · exact sok_nodes w.2 u h
  | .num r, w, u, h => by
    rcases List.mem_cons.mp h with rfl | h
    · exact trivial
    · exact sok_nodes (t := r) w u h
  | .cho hd cs o r, w, u, h => by
    rcases List.mem_cons.mp h with rfl | h
    · exact ⟨w.1, w.2.1, w.2.2.1, w.2.2.2.1, trivial⟩
    · exact sok_nodes w.2.2.2.2 u h
  | .cas k m r, w, u, h => by
    rcases List.mem_cons.mp h with rfl | h
    · exact ⟨w.1, w.2.1, trivial⟩
    · exact sok_nodes w.2.2 u h
theorem sok_msgs : ∀ {t : T}, SOk t → ∀ m ∈ t.msgs, SOk m
  | .cas k m r, w, u, h => by
    rcases List.mem_cons.mp h with rfl | h
    · exact w.2.1
    · exact sok_msgs w.2.2 u h
  | .nil, _, _, h => by cases h
  | .text _ _, _, _, h => by cases h
  | .shw _ _, _, _, h => by cases h
  | .num _, _, _, h => by cases h
  | .cho _ _ _ _, _, _, h => by cases h
section
variable {P : Program} {w : World} {K : PySem.W.Frag} {mg : Str → Option Value} {base : Heap}
/-! ### the law -/
abbrev sLaw : Stmt := top 21
theorem scLaw : FnScope ["script", "box", "message", "cut", "kept", "told", "node", "inner", "key", "one"] ["script"] (defScope sLaw) := ⟨rfl, rfl, rfl, by decide +kernel, rfl, by decide +kernel, by decide +kernel⟩
def spLaw (K : PySem.W.Frag) : Sp := fun vs H Q _ => ∃ (a : Addr) (ns : List Int), vs = [.ref a] ∧ SqL K H a (ns.map V.int) ∧ ∀ H', Q (.bl true) H'
/-- the defs of the text, as they stand and what they promise -/
structure Defs (P : Program) (w : World) (K : PySem.W.Frag) (mg : Str → Option Value) (base : Heap) where
  fDg : Addr
  fdDg : FuncData
  gDg : FnOk P w K mg base CX0 2 fDg fdDg ["script", "first", "last"] (spDigits K)
  bDg : Binds K fdDg ["script", "first", "last"] []
  kDg : PySem.W.keepIn K (.ref fDg) = true
  mDg : mg "_law_digits" = some (.ref fDg)
  fM : Addr
  fdM : FuncData
  gM : FnOk P w K mg base CX0 7 fM fdM ["box", "depth", "inside"] (spMsg 2)
  bM : Binds K fdM ["box", "depth", "inside"] []
  kM : PySem.W.keepIn K (.ref fM) = true
  mM : mg "_law_message" = some (.ref fM)
  fCt : Addr
  fdCt : FuncData
  gCt : FnOk P w K mg base CX0 4 fCt fdCt ["box", "message"] (spCut 3)
  bCt : Binds K fdCt ["box", "message"] []
  kCt : PySem.W.keepIn K (.ref fCt) = true
  mCt : mg "_law_cut" = some (.ref fCt)
  fPl : Addr
  fdPl : FuncData
  gPl : FnOk P w K mg base CX0 3 fPl fdPl ["message"] spPlain
  bPl : Binds K fdPl ["message"] []
  kPl : PySem.W.keepIn K (.ref fPl) = true
  mPl : mg "plain" = some (.ref fPl)
  fSz : Addr
  fdSz : FuncData
  gSz : FnOk P w K mg base CX0 4 fSz fdSz ["message"] spSize
  bSz : Binds K fdSz ["message"] []
  kSz : PySem.W.keepIn K (.ref fSz) = true
  mSz : mg "size_of" = some (.ref fSz)
  fLs : Addr
  fdLs : FuncData
  gLs : FnOk P w K mg base CX0 3 fLs fdLs ["message"] (spLs 3)
  bLs : Binds K fdLs ["message"] []
  kLs : PySem.W.keepIn K (.ref fLs) = true
  mLs : mg "_law_size" = some (.ref fLs)
  fCo : Addr
  fdCo : FuncData
  gCo : FnOk P w K mg base CX0 1 fCo fdCo ["node"] spCases
  bCo : Binds K fdCo ["node"] []
  kCo : PySem.W.keepIn K (.ref fCo) = true
  mCo : mg "cases_of" = some (.ref fCo)
  fOo : Addr
  fdOo : FuncData
  gOo : FnOk P w K mg base CX0 1 fOo fdOo ["node"] spOther
  bOo : Binds K fdOo ["node"] []
  kOo : PySem.W.keepIn K (.ref fOo) = true
  mOo : mg "other_of" = some (.ref fOo)
  fIm : Addr
  fdIm : FuncData
  gIm : FnOk P w K mg base CX0 2 fIm fdIm ["node"] spInner
  bIm : Binds K fdIm ["node"] []
  kIm : PySem.W.keepIn K (.ref fIm) = true
  mIm : mg "inner_messages" = some (.ref fIm)
  mRepr : mg "repr" = none
  mIsi : mg "isinstance" = none
  mList : mg "list" = none
theorem ok_law {f : Addr} {fd : FuncData} (F : Fun K "law" "law" sLaw f fd) (S : Defs P w K mg base) : Gy.RunAt PySem.callerA P w K mg base CX0 8 f fd ["script"] (spLaw K) := by
  refine Gy.run_at F scLaw (fun vs H Q E h => ?_) (fun cdv outer s H vs Q E hr h => ?_)
  · obtain ⟨a, ns, rfl, _⟩ := h
    rfl
  obtain ⟨a, ns, rfl, hS, q⟩ := h
  have nd := scLaw.nd
  have hu : (PySem.callerA.deeper (PyProof.Rows.envOfC "law" (defScope sLaw) s.heap.objs.size f cdv)).units + 100 < cLine := by
    have := hr.un
    omega
  have hu2 : (PySem.callerA.deeper (PyProof.Rows.envOfC "law" (defScope sLaw) s.heap.objs.size f cdv)).units + 64 < cLine := by omega
  refine ⟨_, pss_cons (ps_set (i := 1) nd rfl (.inl rfl) (pe_lst (pa_cons (pe_call S.gDg (hr.mono (by decide)) rfl S.mDg S.kDg S.bDg .nil pass0 (pa_cons (pv 0) (pa_cons pe_int (pa_cons pe_int pa_nil)))) (pa_cons pe_int pa_nil))))
    (pss_cons (ps_set (i := 2) nd rfl (.inl rfl) (pe_call S.gM (hr.mono (by decide)) rfl S.mM S.kM S.bM .nil pass0 (pa_cons (pv 1) (pa_cons pe_int (pa_cons pe_bl pa_nil)))))
    (pss_cons (ps_set (i := 3) nd rfl (.inl rfl) (pe_call S.gCt (hr.mono (by decide)) rfl S.mCt S.kCt S.bCt .nil pass0 (pa_cons (pv 1) (pa_cons (pv 2) pa_nil))))
    (pss_cons (ps_set (i := 4) nd rfl (.inl rfl) (pe_callB (call_reprD rfl hu) (by rfl) S.mRepr (by decide +kernel) (pa_cons (pv 3) pa_nil)))
    (pss_cons (ps_set (i := 5) nd rfl (.inl rfl) (pe_call S.gPl (hr.mono (by decide)) rfl S.mPl S.kPl S.bPl .nil pass0 (pa_cons (pv 3) pa_nil)))
    (pss_cons (ps_if (PW.pt (pw_or (pt_not (pt_val (pe_callB call_isi (by rfl) S.mIsi (by decide +kernel) (pa_cons (pv 5) (pa_cons (pe_bltn (v := .ty "list") (by rfl) S.mList (by decide +kernel) rfl) pa_nil)))))
        (pw_or (pt_cmpR (op_neD hu2) (pv 5) (pv 2) (nomark _))
        (pw_or (pt_cmpR (op_neD hu2) (pe_call S.gPl (hr.mono (by decide)) rfl S.mPl S.kPl S.bPl .nil pass0 (pa_cons (pv 2) pa_nil)) (pv 2) (nomark _))
        (pw_or1 (pt_cmpR op_ne (pe_callB (call_reprD rfl hu) (by rfl) S.mRepr (by decide +kernel) (pa_cons (pv 3) pa_nil)) (pv 4) (nomark _)))))))
      (pss_one (ps_ret pe_bl)) pss_nil)
    (pss_cons (ps_if (pt_cmpR op_ne (pe_call S.gSz (hr.mono (by decide)) rfl S.mSz S.kSz S.bSz .nil pass0 (pa_cons (pv 2) pa_nil)) (pe_call S.gLs (hr.mono (by decide)) rfl S.mLs S.kLs S.bLs .nil pass0 (pa_cons (pv 2) pa_nil)) (nomark _)) (pss_one (ps_ret pe_bl)) pss_nil)
    (pss_cons (ps_for PassesOwn.never rfl (pi_list (pv 2)) (pg_name (i := 6) nd rfl (.inl rfl))
      (pss_cons (ps_set (i := 7) nd rfl (.inl rfl) (pe_lst pa_nil))
      (Evl.pss_cut (ps_if (pt_cmpR op_in_seq (pe_ix ix_tup (pv 6) pe_int (fun _ _ => rfl)) (pe_tup (pa_cons pe_str (pa_cons pe_str pa_nil))) (by rfl))
        (pss_cons (ps_set (i := 7) nd rfl (.inl rfl) (pe_op op_cat
            (pe_lc (own := [("key", 8), ("one", 9)]) (g := gTup K 2 (gCons (gName 8) (gCons (gName 9) gNil))) (tt := tYes) rfl nd (pi_list (pe_ix ix_tup (pv 6) (pe_un un_neg pe_int) (fun _ _ => rfl)))
              (blkOk_by (N := ["script", "box", "message", "cut", "kept", "told", "node", "inner", "key", "one"]) (sc := defScope sLaw) (by decide +kernel))
              (fun _ _ _ _ _ => pg_tup rfl (pgs_cons (pg_name (i := 8) nd rfl (.inl rfl)) (pgs_cons (pg_name (i := 9) nd rfl (.inl rfl)) pgs_nil))) (fun _ _ _ _ _ => pts_nil) (fun _ _ _ _ _ => pv 9))
            (pe_lst (pa_cons (pe_ix ix_tup (pv 6) (pe_un un_neg pe_int) (fun _ _ => rfl)) pa_nil))))
        (pss_one (ps_if (PW.pt (pw_or (pt_cmpR (op_neD hu2) (pe_call S.gCo (hr.mono (by decide)) rfl S.mCo S.kCo S.bCo .nil pass0 (pa_cons (pv 6) pa_nil)) (pe_ix ix_tup (pv 6) (pe_un un_neg pe_int) (fun _ _ => rfl)) (nomark _))
            (pw_or1 (pt_cmpR (op_neD hu2) (pe_call S.gOo (hr.mono (by decide)) rfl S.mOo S.kOo S.bOo .nil pass0 (pa_cons (pv 6) pa_nil)) (pe_ix ix_tup (pv 6) (pe_un un_neg pe_int) (fun _ _ => rfl)) (nomark _)))))
          (pss_one (ps_ret pe_bl)) pss_nil))) pss_nil)
      (pss_one (ps_if (pt_cmpR (op_neD hu2) (pe_call S.gIm (hr.mono (by decide)) rfl S.mIm S.kIm S.bIm .nil pass0 (pa_cons (pv 6) pa_nil)) (pv 7) (nomark _)) (pss_one (ps_ret pe_bl)) pss_nil)))))
    (pss_one (ps_ret pe_bl))))))))), ?_⟩
  -- box, message, cut
  refine ⟨_, rfl, a, ns, rfl, hS, fun d H1 ds hd0 s1 hd => ⟨by show 2 ≤ sizeLine; decide, fun B hB => ?_⟩⟩
  have ndB : d ≠ B := ne_of_none hd hB
  have hbox : Box (upd H1 B (.lst [.ref d, .int 0])) B d := ⟨ds, 0, upd_same, by rw [upd_ne ndB]; exact hd, Int.le_refl 0⟩
  refine ⟨_, rfl, B, d, false, rfl, hbox, fun r H3 t g3 hb3 hat hgd hsz hlen => ?_⟩
  obtain ⟨tw, tk, td⟩ := Gd.all hgd fun e => by cases e
  have tp := (Gd.plain hgd).1
  have tz : t.sz < 30000 := Nat.lt_of_le_of_lt hsz (by decide)
  have hfrB : fr (upd H1 B (.lst [.ref d, .int 0])) H3 B = none := fr_old upd_same
  refine ⟨_, rfl, _, rfl, B, d, r, fr (upd H1 B (.lst [.ref d, .int 0])) H3, t, rfl, hb3, fr_out, hfrB, hat, tw, by omega, tz, fun c H4 ct g4 hb4 hc0 hct hwc hpl hdc hsc => ?_⟩
  rw [tp] at hpl
  have cok : SOk ct := (sok_pl (a := ("" : Str)) (by rw [hpl]; exact tk)).2
  have hatc : At H4 c ct := hct.same (cb_out fr_out hfrB g4)
  have h34 : Same (fr (upd H1 B (.lst [.ref d, .int 0])) H3) H4 := fun b o e => g4.ext b o (by rintro rfl; rw [hfrB] at e; cases e) (fr_out _ _ e)
  have hat4 : At H4 r t := hat.same h34
  -- kept, told
  refine ⟨_, rfl, c, ct, rfl, hatc, cok, hwc, by omega, by omega, ?_⟩
  refine ⟨_, rfl, c, ct, rfl, hatc, hwc, by omega, fun p H5 hp0 s5 hat5 => ?_⟩
  rw [hpl] at hat5
  obtain ⟨pvs, hp5, hpn5⟩ := id hat5
  have tsh := shaped_of tk tw (by omega)
  have teq : (!PyData.eqv (.list (dat t)) (.list (dat t))) = false := by rw [eqv_self tsh]; rfl
  refine ⟨_, rfl, .ref p, .ty "list", .type "list", .type "list", true, rfl, .ty "list", .base (.lst hp5), kit_ty (by decide +kernel), true, rfl, ?_⟩
  refine iteF ⟨_, rfl, _, rfl, _, _, hat5.dp tk, (hat4.same s5).dp tk, tsh, tsh, _, rfl, ?_⟩
  rw [teq]
  refine iteF ⟨_, rfl, r, t, rfl, hat4.same s5, tw, by omega, fun p2 H6 hp2 s6 hat6 => ?_⟩
  rw [tp] at hat6
  refine ⟨_, rfl, _, _, hat6.dp tk, ((hat4.same s5).same s6).dp tk, tsh, tsh, _, rfl, ?_⟩
  rw [teq]
  refine iteF ⟨_, rfl, c, ct, rfl, (hatc.same s5).same s6, cok, hwc, by omega, by omega, _, rfl, rfl, _, rfl, ?_⟩
  rw [decide_eq_true rfl]
  refine iteF ?_
  have hat6' : At H6 r t := (hat4.same s5).same s6
  -- size_of(message) != _law_size(message)
  refine ⟨_, rfl, r, t, rfl, hat6', tw, by omega, fun H7 s7 => ⟨_, rfl, r, t, rfl, hat6'.same s7, tw, by omega, by omega, fun H8 s8 => ⟨rfl, _, rfl, ?_⟩⟩⟩
  rw [decide_eq_true rfl]
  refine iteF ?_
  -- the nodes
  obtain ⟨vs, hr8, hn8⟩ := (hat6'.same s7).same s8
  have hns := hn8.ns
  refine ⟨_, rfl, r, rfl, ⟨_, SqL.of hr8⟩, for_list (K := K) (a := r) (xs := vs) (fun i σ H' => ∃ (o4 o5 o6 o7 o8 o9 : Option V), σ = [some (.ref a), some (.ref B), some (.ref r), some (.ref c), o4, o5, o6, o7, o8, o9] ∧ Same H8 H')
    ⟨_, _, _, _, _, _, rfl, Same.refl _⟩ (fun i σ H' _ ⟨_, _, _, _, _, _, _, s'⟩ => SqL.of (s' _ _ hr8)) ?_ (fun σ H' _ => q H')⟩
  rintro i x σ H' hx ⟨o4, o5, o6, o7, o8, o9, rfl, s'⟩
  obtain ⟨u, hu, hun⟩ := hns.get hx
  have um : u ∈ t.nodes := List.mem_of_getElem? hu
  have uw : Wf u false := nodes_wf tw u um
  have uk : SOk u := sok_nodes tk u um
  have ud := dep_nodes u um
  have uz := sz_nodes u um
  obtain ⟨pn, y, ys, rfl, hpn, hsg, hch, htx⟩ := node_of hun uw
  refine ⟨Nat.zero_le _, fun il hil => ?_⟩
  have s1' : Same H8 (upd H' il (.lst [])) := s'.trans (same_new hil _)
  refine ⟨fun σ' H'' => ∃ (ia : Addr) (ivs : List V) (o8 o9 : Option V), σ' = [some (.ref a), some (.ref B), some (.ref r), some (.ref c), o4, o5, some (.ref pn), some (.ref ia), o8, o9] ∧ Same H8 H'' ∧ H'' ia = some (.lst ivs) ∧ Ats H8 u.inner ivs, ?_, ?_⟩
  · refine ⟨_, rfl, pn, _, 0, .str y, rfl, rfl, .inl (.inl (s1' _ _ hpn)), atI_nat (j := 0) rfl, by show 2 ≤ sizeLine; decide, fun tp htp => ⟨tp, _, rfl, .inr (.inl (.inl upd_same)), rfl, rfl, _, rfl, ?_⟩⟩
    have e : inV (V.str y) [.str "select", .str "plural"] = u.isCho := by
      rw [in_two]
      cases hu : u.isCho with
      | true => exact decide_eq_true (hch.mpr hu)
      | false => exact decide_eq_false fun z => by rw [hch.mp z] at hu; cases hu
    have s2' : Same H8 (upd (upd H' il (.lst [])) tp (.tup [.str "select", .str "plural"])) := s1'.trans (same_new htp _)
    show if inV (V.str y) [.str "select", .str "plural"] = true then _ else _
    rw [e]
    cases hc : u.isCho with
    | false =>
      have e0 : u.inner = [] := by
        cases u <;> first | rfl | cases hc
      refine iteF ⟨il, [], _, _, rfl, s2', same_new htp _ _ _ upd_same, ?_⟩
      rw [e0]
      exact rfl
    | true =>
      cases u with
      | cho hd' cs o r' =>
        cases (show r' = .nil from hsg)
        obtain ⟨pp, _, ca, cvs, oa, ovs, e1, hpp, hca, hcs, hoa, hos, _⟩ := hun
        cases e1
        obtain ⟨ms, m1, m2, m3⟩ := Nodes.msgs hcs uw.2.2.1
        have hmb : ms.length < 100000 := by
          have h1 := hcs.length
          have h2 := len_sz cs
          simp only [T.sz] at uz
          omega
        have tg : ∀ {Hx : Hp}, Same H8 Hx → SqT K Hx pn (hd' ++ [.ref ca, .ref oa]) := fun sx => .inl (.inl (sx _ _ hpp))
        refine iteT ⟨_, rfl, 2, rfl, pn, _, -2, .ref ca, rfl, rfl, tg s2', atI_m2 _ _ _, ca, rfl, ⟨_, SqL.of (s2' _ _ hca)⟩, fun D hD => ?_⟩
        generalize upd (upd H' il (.lst [])) tp (.tup [.str "select", .str "plural"]) = H9 at s2' hD ⊢
        refine lc_list (K := K) (a := ca) (xs := cvs) (fun j Hx => Same H9 Hx ∧ Hx D = some (.lst (ms.take j))) ⟨same_new hD _, upd_same⟩ (fun j Hx _ ⟨sx, _⟩ => SqL.of (sx _ _ (s2' _ _ hca))) ?_ ?_
        · rintro j xj Hx hxj ⟨sx, hDx⟩
          obtain ⟨q1, k1, a1, rfl, hq1, hm1⟩ := m3 j xj hxj
          refine ⟨q1, _, rfl, .inl (.inl (sx _ _ (s2' _ _ hq1))), rfl, k1, _, rfl, .ref a1, [], rfl, rfl, rfl, ?_⟩
          refine ⟨_, rfl, _, hDx, sz_line (by rw [List.length_take]; omega), same_mut sx hD _, ?_⟩
          rw [upd_same, List.take_succ, hm1]
          rfl
        · rintro Hx ⟨sx, hDx⟩
          rw [m2, List.take_length] at hDx
          have s9 : Same H8 Hx := s2'.trans sx
          refine ⟨_, rfl, 1, rfl, pn, _, -1, .ref oa, rfl, rfl, tg s9, atI_m1 _ _ _, by show 1 ≤ sizeLine; decide, fun l1 hl1 => ?_⟩
          refine ⟨D, l1, _, _, rfl, rfl, same_new hl1 _ _ _ hDx, upd_same, le_line (by show ms.length + 1 < 10000000; omega), fun l2 hl2 => ?_⟩
          have s10 : Same H8 (upd (upd Hx l1 (.lst [.ref oa])) l2 (.lst (ms ++ [.ref oa]))) := (s9.trans (same_new hl1 _)).trans (same_new hl2 _)
          generalize hHy : upd (upd Hx l1 (.lst [.ref oa])) l2 (.lst (ms ++ [.ref oa])) = Hy at s10 ⊢
          have hy2 : Hy l2 = some (.lst (ms ++ [.ref oa])) := by rw [← hHy]; exact upd_same
          have csh := shaped_cs uk.2.2.1 uw.2.2.1 (by simp only [T.dep] at ud; omega)
          have osh := shaped_of uk.2.2.2.1 uw.2.2.2.1 (by simp only [T.dep] at ud; omega)
          refine ⟨_, rfl, pn, ca, oa, hd', cvs, rfl, s10 _ _ hpp, s10 _ _ hca, fun l3 hl3 => ?_⟩
          have s11 : Same H8 (upd Hy l3 (.lst cvs)) := s10.trans (same_new hl3 _)
          refine ⟨_, rfl, 2, rfl, pn, _, -2, .ref ca, rfl, rfl, tg s11, atI_m2 _ _ _, _, _, .lst (SqL.of upd_same) (Nodes.dp (Nodes.same s11 hcs) uk.2.2.1), .lst (SqL.of (s11 _ _ hca)) (Nodes.dp (Nodes.same s11 hcs) uk.2.2.1), csh, csh, _, rfl, ?_⟩
          rw [eqv_self csh]
          refine iteF ⟨_, rfl, pn, ca, oa, hd', rfl, s11 _ _ hpp, ?_⟩
          refine ⟨_, rfl, 1, rfl, pn, _, -1, .ref oa, rfl, rfl, tg s11, atI_m1 _ _ _, _, _, .lst (SqL.of (s11 _ _ hoa)) (Nodes.dp (Nodes.same s11 hos) uk.2.2.2.1), .lst (SqL.of (s11 _ _ hoa)) (Nodes.dp (Nodes.same s11 hos) uk.2.2.2.1), osh, osh, _, rfl, ?_⟩
          rw [eqv_self osh]
          have ha : Ats H8 (T.cho hd' cs o .nil).inner (ms ++ [.ref oa]) := Ats.append (show Ats H8 [o] [.ref oa] from ⟨oa, [], rfl, ⟨ovs, hoa, hos⟩, rfl⟩) m1
          exact iteF ⟨l2, _, _, _, rfl, s11, same_new hl3 _ _ _ hy2, ha⟩
      | _ => cases hc
  · rintro σ' H'' ⟨ia, ivs, o8, o9, rfl, s2, hia, hats⟩
    refine ⟨_, rfl, H8, .ref pn, u, rfl, s2, hun, uw, by omega, fun l Hx ms hl sx hlx hms => ?_⟩
    have hk : ∀ m ∈ u.inner, SOk m := by
      cases u with
      | cho hd' cs o r' =>
        intro m hm
        rcases List.mem_append.mp hm with hm | hm
        · exact sok_msgs uk.2.2.1 m hm
        · rw [List.mem_singleton.mp hm]
          exact uk.2.2.2.1
      | _ => intro m hm; cases hm
    have hdp : ∀ m ∈ u.inner, m.dep ≤ 10 := by
      cases u with
      | cho hd' cs o r' =>
        intro m hm
        simp only [T.dep] at ud
        rcases List.mem_append.mp hm with hm | hm
        · have := dep_msgs m hm
          omega
        · rw [List.mem_singleton.mp hm]
          omega
      | _ => intro m hm; cases hm
    have ish := shaped_ind hk (wf_inner uw) hdp
    refine ⟨_, rfl, _, _, .lst (SqL.of hlx) ((hms.same (s2.trans sx)).dp hk), .lst (SqL.of (sx _ _ hia)) ((hats.same (s2.trans sx)).dp hk), ish, ish, _, rfl, ?_⟩
    rw [eqv_self ish]
    exact iteF ⟨_, _, _, _, _, _, rfl, s2.trans sx⟩
end
end Mw

namespace Mw
open PySem L2
theorem both {P : Program} {w : World} {K : PySem.W.Frag} {mg : Str → Option Value} {base : Heap} {fD fT fS fP fM : Addr} {fdD fdT fdS fdP fdM : FuncData}
    (GD : FnOk P w K mg base CX0 1 fD fdD ["box", "many"] spDraw) (bD : Binds K fdD ["box", "many"] []) (kD : PySem.W.keepIn K (.ref fD) = true) (mD : mg "_law_draw" = some (.ref fD))
    (GT : FnOk P w K mg base CX0 2 fT fdT ["box"] spString) (bT : Binds K fdT ["box"] []) (kT : PySem.W.keepIn K (.ref fT) = true) (mT : mg "_law_string" = some (.ref fT))
    (FS : Fun K "_law_select" "_law_select" sSel fS fdS) (bS : Binds K fdS ["box", "depth", "inside"] []) (mS : mg "_law_select" = some (.ref fS))
    (FP : Fun K "_law_plural" "_law_plural" sPlu fP fdP) (bP : Binds K fdP ["box", "depth"] []) (mP : mg "_law_plural" = some (.ref fP))
    (FM : Fun K "_law_message" "_law_message" sMsg fM fdM) (bM : Binds K fdM ["box", "depth", "inside"] []) (mM : mg "_law_message" = some (.ref fM)) (mr : mg "range" = none) (ml : mg "len" = none) :
    ∀ d, FnOk P w K mg base CX0 (2 * d + 3) fM fdM ["box", "depth", "inside"] (spMsg d)
  | 0 => ok_msg (k := 2) (Nat.le_refl _) FM GD bD kD mD GT bT kT mT ((none_left fun vs H Q E ⟨_, _, _, e, h, _⟩ => by omega).mono (Nat.zero_le _)) bS FS.kp mS ((none_left fun vs H Q E ⟨_, _, e, h, _⟩ => by omega).mono (Nat.zero_le _)) bP FP.kp mP mr ml
  | d + 1 => by
    have ih := both GD bD kD mD GT bT kT mT FS bS mS FP bP mP FM bM mM mr ml d
    have hs := ok_sel (k := 2 * d + 3) (by omega) FS GD bD kD mD ih bM FM.kp mM
    have hp := ok_plu (k := 2 * d + 3) (by omega) FP GD bD kD mD ih bM FM.kp mM
    exact ok_msg (k := 2 * d + 4) (by omega) FM GD bD kD mD GT bT kT mT hs bS FS.kp mS hp bP FP.kp mP mr ml
theorem all_mk {l : PySem.W.OpenLaw} {w : World} {K : PySem.W.Frag} {h : Heap} {mg : Str → Option Value} {fa f1 f2 f3 f4 f5 f6 f7 f8 f9 f10 f11 f12 f13 f14 f15 f16 f17 f18 f19 f20 : Addr} (X : K.In h) (G : h.Ns mainGlobals mg) (hfa : mg "law" = some (.ref fa))
    {od1 an1 od2 an2 od3 an3 od4 an4 od5 an5 od6 an6 od7 an7 od8 an8 od9 an9 od10 an10 od11 an11 od12 an12 od13 an13 od14 an14 od15 an15 od16 an16 od17 an17 od18 an18 od19 an19 od20 an20 : Option Addr} {sl1 sl2 sl3 sl4 sl5 sl6 sl7 sl8 sl9 sl10 sl11 sl12 sl13 sl14 sl15 sl16 sl17 sl18 sl19 sl20 : Array (Option Value)} {oc1 kV1 dc1 pm1 cd1 ct1 oc2 kV2 dc2 pm2 cd2 ct2 oc3 kV3 dc3 pm3 cd3 ct3 oc4 kV4 dc4 pm4 cd4 ct4 oc5 kV5 dc5 pm5 cd5 ct5 oc6 kV6 dc6 pm6 cd6 ct6 oc7 kV7 dc7 pm7 cd7 ct7 oc8 kV8 dc8 pm8 cd8 ct8 oc9 kV9 dc9 pm9 cd9 ct9 oc10 kV10 dc10 pm10 cd10 ct10 oc11 kV11 dc11 pm11 cd11 ct11 oc12 kV12 dc12 pm12 cd12 ct12 oc13 kV13 dc13 pm13 cd13 ct13 oc14 kV14 dc14 pm14 cd14 ct14 oc15 kV15 dc15 pm15 cd15 ct15 oc16 kV16 dc16 pm16 cd16 ct16 oc17 kV17 dc17 pm17 cd17 ct17 oc18 kV18 dc18 pm18 cd18 ct18 oc19 kV19 dc19 pm19 cd19 ct19 oc20 kV20 dc20 pm20 cd20 ct20 : Value}
    (a1 : PySem.W.nsIn K mainGlobals "is_choice" = some (some (.ref f1))) (l1 : K.lookup f1 = some ⟨oc1, od1, .func (PySem.W.fnOf "is_choice" "is_choice" (defArgs sIs) (defBody sIs) (defScope sIs) .none kV1 dc1 pm1 an1 cd1 ct1), sl1⟩) (c1 : PySem.W.codeIn K cd1 "is_choice" = true) (k1 : PySem.W.keepIn K (.ref f1) = true)
    (a2 : PySem.W.nsIn K mainGlobals "cases_of" = some (some (.ref f2))) (l2 : K.lookup f2 = some ⟨oc2, od2, .func (PySem.W.fnOf "cases_of" "cases_of" (defArgs sCases) (defBody sCases) (defScope sCases) .none kV2 dc2 pm2 an2 cd2 ct2), sl2⟩) (c2 : PySem.W.codeIn K cd2 "cases_of" = true) (k2 : PySem.W.keepIn K (.ref f2) = true)
    (a3 : PySem.W.nsIn K mainGlobals "other_of" = some (some (.ref f3))) (l3 : K.lookup f3 = some ⟨oc3, od3, .func (PySem.W.fnOf "other_of" "other_of" (defArgs sOther) (defBody sOther) (defScope sOther) .none kV3 dc3 pm3 an3 cd3 ct3), sl3⟩) (c3 : PySem.W.codeIn K cd3 "other_of" = true) (k3 : PySem.W.keepIn K (.ref f3) = true)
    (a4 : PySem.W.nsIn K mainGlobals "inner_messages" = some (some (.ref f4))) (l4 : K.lookup f4 = some ⟨oc4, od4, .func (PySem.W.fnOf "inner_messages" "inner_messages" (defArgs sInner) (defBody sInner) (defScope sInner) .none kV4 dc4 pm4 an4 cd4 ct4), sl4⟩) (c4 : PySem.W.codeIn K cd4 "inner_messages" = true) (k4 : PySem.W.keepIn K (.ref f4) = true)
    (a5 : PySem.W.nsIn K mainGlobals "with_inner" = some (some (.ref f5))) (l5 : K.lookup f5 = some ⟨oc5, od5, .func (PySem.W.fnOf "with_inner" "with_inner" (defArgs sWith) (defBody sWith) (defScope sWith) .none kV5 dc5 pm5 an5 cd5 ct5), sl5⟩) (c5 : PySem.W.codeIn K cd5 "with_inner" = true) (k5 : PySem.W.keepIn K (.ref f5) = true)
    (a6 : PySem.W.nsIn K mainGlobals "all_nodes" = some (some (.ref f6))) (l6 : K.lookup f6 = some ⟨oc6, od6, .func (PySem.W.fnOf "all_nodes" "all_nodes" (defArgs sAll) (defBody sAll) (defScope sAll) .none kV6 dc6 pm6 an6 cd6 ct6), sl6⟩) (c6 : PySem.W.codeIn K cd6 "all_nodes" = true) (k6 : PySem.W.keepIn K (.ref f6) = true)
    (a7 : PySem.W.nsIn K mainGlobals "text_nodes" = some (some (.ref f7))) (l7 : K.lookup f7 = some ⟨oc7, od7, .func (PySem.W.fnOf "text_nodes" "text_nodes" (defArgs sTn) (defBody sTn) (defScope sTn) .none kV7 dc7 pm7 an7 cd7 ct7), sl7⟩) (c7 : PySem.W.codeIn K cd7 "text_nodes" = true) (k7 : PySem.W.keepIn K (.ref f7) = true)
    (a8 : PySem.W.nsIn K mainGlobals "joined_texts" = some (some (.ref f8))) (l8 : K.lookup f8 = some ⟨oc8, od8, .func (PySem.W.fnOf "joined_texts" "joined_texts" (defArgs sJt) (defBody sJt) (defScope sJt) .none kV8 dc8 pm8 an8 cd8 ct8), sl8⟩) (c8 : PySem.W.codeIn K cd8 "joined_texts" = true) (k8 : PySem.W.keepIn K (.ref f8) = true)
    (a9 : PySem.W.nsIn K mainGlobals "plain" = some (some (.ref f9))) (l9 : K.lookup f9 = some ⟨oc9, od9, .func (PySem.W.fnOf "plain" "plain" (defArgs sPlain) (defBody sPlain) (defScope sPlain) .none kV9 dc9 pm9 an9 cd9 ct9), sl9⟩) (c9 : PySem.W.codeIn K cd9 "plain" = true) (k9 : PySem.W.keepIn K (.ref f9) = true)
    (a10 : PySem.W.nsIn K mainGlobals "size_of" = some (some (.ref f10))) (l10 : K.lookup f10 = some ⟨oc10, od10, .func (PySem.W.fnOf "size_of" "size_of" (defArgs sSize) (defBody sSize) (defScope sSize) .none kV10 dc10 pm10 an10 cd10 ct10), sl10⟩) (c10 : PySem.W.codeIn K cd10 "size_of" = true) (k10 : PySem.W.keepIn K (.ref f10) = true)
    (a11 : PySem.W.nsIn K mainGlobals "_law_cell" = some (some (.ref f11))) (l11 : K.lookup f11 = some ⟨oc11, od11, .func (PySem.W.fnOf "_law_cell" "_law_cell" (defArgs sCell) (defBody sCell) (defScope sCell) .none kV11 dc11 pm11 an11 cd11 ct11), sl11⟩) (c11 : PySem.W.codeIn K cd11 "_law_cell" = true) (k11 : PySem.W.keepIn K (.ref f11) = true)
    (a12 : PySem.W.nsIn K mainGlobals "_law_digits" = some (some (.ref f12))) (l12 : K.lookup f12 = some ⟨oc12, od12, .func (PySem.W.fnOf "_law_digits" "_law_digits" (defArgs sDigits) (defBody sDigits) (defScope sDigits) .none kV12 dc12 pm12 an12 cd12 ct12), sl12⟩) (c12 : PySem.W.codeIn K cd12 "_law_digits" = true) (k12 : PySem.W.keepIn K (.ref f12) = true)
    (a13 : PySem.W.nsIn K mainGlobals "_law_draw" = some (some (.ref f13))) (l13 : K.lookup f13 = some ⟨oc13, od13, .func (PySem.W.fnOf "_law_draw" "_law_draw" (defArgs sDraw) (defBody sDraw) (defScope sDraw) .none kV13 dc13 pm13 an13 cd13 ct13), sl13⟩) (c13 : PySem.W.codeIn K cd13 "_law_draw" = true) (k13 : PySem.W.keepIn K (.ref f13) = true)
    (a14 : PySem.W.nsIn K mainGlobals "_law_string" = some (some (.ref f14))) (l14 : K.lookup f14 = some ⟨oc14, od14, .func (PySem.W.fnOf "_law_string" "_law_string" (defArgs sString) (defBody sString) (defScope sString) .none kV14 dc14 pm14 an14 cd14 ct14), sl14⟩) (c14 : PySem.W.codeIn K cd14 "_law_string" = true) (k14 : PySem.W.keepIn K (.ref f14) = true)
    (a15 : PySem.W.nsIn K mainGlobals "_law_select" = some (some (.ref f15))) (l15 : K.lookup f15 = some ⟨oc15, od15, .func (PySem.W.fnOf "_law_select" "_law_select" (defArgs sSel) (defBody sSel) (defScope sSel) .none kV15 dc15 pm15 an15 cd15 ct15), sl15⟩) (c15 : PySem.W.codeIn K cd15 "_law_select" = true) (k15 : PySem.W.keepIn K (.ref f15) = true)
    (a16 : PySem.W.nsIn K mainGlobals "_law_plural" = some (some (.ref f16))) (l16 : K.lookup f16 = some ⟨oc16, od16, .func (PySem.W.fnOf "_law_plural" "_law_plural" (defArgs sPlu) (defBody sPlu) (defScope sPlu) .none kV16 dc16 pm16 an16 cd16 ct16), sl16⟩) (c16 : PySem.W.codeIn K cd16 "_law_plural" = true) (k16 : PySem.W.keepIn K (.ref f16) = true)
    (a17 : PySem.W.nsIn K mainGlobals "_law_message" = some (some (.ref f17))) (l17 : K.lookup f17 = some ⟨oc17, od17, .func (PySem.W.fnOf "_law_message" "_law_message" (defArgs sMsg) (defBody sMsg) (defScope sMsg) .none kV17 dc17 pm17 an17 cd17 ct17), sl17⟩) (c17 : PySem.W.codeIn K cd17 "_law_message" = true) (k17 : PySem.W.keepIn K (.ref f17) = true)
    (a18 : PySem.W.nsIn K mainGlobals "_law_cut" = some (some (.ref f18))) (l18 : K.lookup f18 = some ⟨oc18, od18, .func (PySem.W.fnOf "_law_cut" "_law_cut" (defArgs sCut) (defBody sCut) (defScope sCut) .none kV18 dc18 pm18 an18 cd18 ct18), sl18⟩) (c18 : PySem.W.codeIn K cd18 "_law_cut" = true) (k18 : PySem.W.keepIn K (.ref f18) = true)
    (a19 : PySem.W.nsIn K mainGlobals "_law_size" = some (some (.ref f19))) (l19 : K.lookup f19 = some ⟨oc19, od19, .func (PySem.W.fnOf "_law_size" "_law_size" (defArgs sLs) (defBody sLs) (defScope sLs) .none kV19 dc19 pm19 an19 cd19 ct19), sl19⟩) (c19 : PySem.W.codeIn K cd19 "_law_size" = true) (k19 : PySem.W.keepIn K (.ref f19) = true)
    (a20 : PySem.W.nsIn K mainGlobals "law" = some (some (.ref f20))) (l20 : K.lookup f20 = some ⟨oc20, od20, .func (PySem.W.fnOf "law" "law" (defArgs sLaw) (defBody sLaw) (defScope sLaw) .none kV20 dc20 pm20 an20 cd20 ct20), sl20⟩) (c20 : PySem.W.codeIn K cd20 "law" = true) (k20 : PySem.W.keepIn K (.ref f20) = true)
    (z1 : PySem.W.nsIn K mainGlobals "len" = some none) (z2 : PySem.W.nsIn K mainGlobals "list" = some none) (z3 : PySem.W.nsIn K mainGlobals "range" = some none) (z4 : PySem.W.nsIn K mainGlobals "int" = some none) (z5 : PySem.W.nsIn K mainGlobals "zip" = some none) (z6 : PySem.W.nsIn K mainGlobals "sum" = some none) (z7 : PySem.W.nsIn K mainGlobals "repr" = some none) (z8 : PySem.W.nsIn K mainGlobals "isinstance" = some none) :
    ∃ fd : FuncData, (∀ (s : Shared) (v : Value), BindsTo s fd ⟨[v], []⟩ [("script", v)]) ∧ ∀ base : Heap, K.In base → base.Ns mainGlobals mg → Gy.RunAt PySem.callerA l.prog w K mg base CX0 8 fa fd ["script"] (spLaw K) := by
  have e := hfa.symm.trans (PySem.W.mg_of X G a20)
  cases e
  have F1 := fun_mk (st := sIs) l1 c1 k1
  have F2 := fun_mk (st := sCases) l2 c2 k2
  have F3 := fun_mk (st := sOther) l3 c3 k3
  have F4 := fun_mk (st := sInner) l4 c4 k4
  have F5 := fun_mk (st := sWith) l5 c5 k5
  have F6 := fun_mk (st := sAll) l6 c6 k6
  have F7 := fun_mk (st := sTn) l7 c7 k7
  have F8 := fun_mk (st := sJt) l8 c8 k8
  have F9 := fun_mk (st := sPlain) l9 c9 k9
  have F10 := fun_mk (st := sSize) l10 c10 k10
  have F11 := fun_mk (st := sCell) l11 c11 k11
  have F12 := fun_mk (st := sDigits) l12 c12 k12
  have F13 := fun_mk (st := sDraw) l13 c13 k13
  have F14 := fun_mk (st := sString) l14 c14 k14
  have F15 := fun_mk (st := sSel) l15 c15 k15
  have F16 := fun_mk (st := sPlu) l16 c16 k16
  have F17 := fun_mk (st := sMsg) l17 c17 k17
  have F18 := fun_mk (st := sCut) l18 c18 k18
  have F19 := fun_mk (st := sLs) l19 c19 k19
  have F20 := fun_mk (st := sLaw) l20 c20 k20
  have b1 := F1.binds (ps := ["node"]) fun _ _ _ _ _ _ us hl => match us, hl with | [_], _ => rfl
  have b2 := F2.binds (ps := ["node"]) fun _ _ _ _ _ _ us hl => match us, hl with | [_], _ => rfl
  have b3 := F3.binds (ps := ["node"]) fun _ _ _ _ _ _ us hl => match us, hl with | [_], _ => rfl
  have b4 := F4.binds (ps := ["node"]) fun _ _ _ _ _ _ us hl => match us, hl with | [_], _ => rfl
  have b5 := F5.binds (ps := ["node", "messages"]) fun _ _ _ _ _ _ us hl => match us, hl with | [_, _], _ => rfl
  have b6 := F6.binds (ps := ["message"]) fun _ _ _ _ _ _ us hl => match us, hl with | [_], _ => rfl
  have b7 := F7.binds (ps := ["strings"]) fun _ _ _ _ _ _ us hl => match us, hl with | [_], _ => rfl
  have b8 := F8.binds (ps := ["message"]) fun _ _ _ _ _ _ us hl => match us, hl with | [_], _ => rfl
  have b9 := F9.binds (ps := ["message"]) fun _ _ _ _ _ _ us hl => match us, hl with | [_], _ => rfl
  have b10 := F10.binds (ps := ["message"]) fun _ _ _ _ _ _ us hl => match us, hl with | [_], _ => rfl
  have b11 := F11.binds (ps := ["script", "k"]) fun _ _ _ _ _ _ us hl => match us, hl with | [_, _], _ => rfl
  have b12 := F12.binds (ps := ["script", "first", "last"]) fun _ _ _ _ _ _ us hl => match us, hl with | [_, _, _], _ => rfl
  have b13 := F13.binds (ps := ["box", "many"]) fun _ _ _ _ _ _ us hl => match us, hl with | [_, _], _ => rfl
  have b14 := F14.binds (ps := ["box"]) fun _ _ _ _ _ _ us hl => match us, hl with | [_], _ => rfl
  have b15 := F15.binds (ps := ["box", "depth", "inside"]) fun _ _ _ _ _ _ us hl => match us, hl with | [_, _, _], _ => rfl
  have b16 := F16.binds (ps := ["box", "depth"]) fun _ _ _ _ _ _ us hl => match us, hl with | [_, _], _ => rfl
  have b17 := F17.binds (ps := ["box", "depth", "inside"]) fun _ _ _ _ _ _ us hl => match us, hl with | [_, _, _], _ => rfl
  have b18 := F18.binds (ps := ["box", "message"]) fun _ _ _ _ _ _ us hl => match us, hl with | [_, _], _ => rfl
  have b19 := F19.binds (ps := ["message"]) fun _ _ _ _ _ _ us hl => match us, hl with | [_], _ => rfl
  have b20 := F20.binds (ps := ["script"]) fun _ _ _ _ _ _ us hl => match us, hl with | [_], _ => rfl
  have m1 := PySem.W.mg_of X G a1
  have m2 := PySem.W.mg_of X G a2
  have m3 := PySem.W.mg_of X G a3
  have m4 := PySem.W.mg_of X G a4
  have m5 := PySem.W.mg_of X G a5
  have m6 := PySem.W.mg_of X G a6
  have m7 := PySem.W.mg_of X G a7
  have m8 := PySem.W.mg_of X G a8
  have m9 := PySem.W.mg_of X G a9
  have m10 := PySem.W.mg_of X G a10
  have m11 := PySem.W.mg_of X G a11
  have m12 := PySem.W.mg_of X G a12
  have m13 := PySem.W.mg_of X G a13
  have m14 := PySem.W.mg_of X G a14
  have m15 := PySem.W.mg_of X G a15
  have m16 := PySem.W.mg_of X G a16
  have m17 := PySem.W.mg_of X G a17
  have m18 := PySem.W.mg_of X G a18
  have m19 := PySem.W.mg_of X G a19
  have m20 := PySem.W.mg_of X G a20
  have y1 := PySem.W.mg_none_of X G z1
  have y2 := PySem.W.mg_none_of X G z2
  have y3 := PySem.W.mg_none_of X G z3
  have y4 := PySem.W.mg_none_of X G z4
  have y5 := PySem.W.mg_none_of X G z5
  have y6 := PySem.W.mg_none_of X G z6
  have y7 := PySem.W.mg_none_of X G z7
  have y8 := PySem.W.mg_none_of X G z8
  refine ⟨PySem.W.fnOf "law" "law" (defArgs sLaw) (defBody sLaw) (defScope sLaw) .none kV20 dc20 pm20 an20 cd20 ct20, fun s v => .of_eq rfl, fun base _ _ => ?_⟩
  have gIs := ok_is (P := l.prog) (w := w) (mg := mg) (base := base) F1
  have gCo := ok_cases (P := l.prog) (w := w) (mg := mg) (base := base) F2 y2
  have gOo := ok_other (P := l.prog) (w := w) (mg := mg) (base := base) F3
  have gIm := ok_inner F4 gIs b1 k1 m1 gCo b2 k2 m2 gOo b3 k3 m3
  have gWi := ok_with F5 gCo b2 k2 m2 y5
  have gAl := ok_all F6 gIm b4 k4 m4
  have gTn := ok_tn (P := l.prog) (w := w) (mg := mg) (base := base) F7
  have gJt := ok_jt F8 gTn b7 k7 m7
  have gPl := ok_plain F9 gJt b8 k8 m8 gIm b4 k4 m4 gWi b5 k5 m5 y2 y5
  have gSz := ok_size F10 gAl b6 k6 m6 y1 y6
  have gCe := ok_cell (P := l.prog) (w := w) (mg := mg) (base := base) F11 y1
  have gDg := ok_digits F12 gCe b11 k11 m11 y3 y4
  have gDr := ok_draw (P := l.prog) (w := w) (mg := mg) (base := base) F13 y1 y4
  have gSt := ok_string F14 gDr b13 k13 m13
  have gM := both gDr b13 k13 m13 gSt b14 k14 m14 F15 b15 m15 F16 b16 m16 F17 b17 m17 y3 y1 2
  have gCt := ok_cut F18 b18 m18 gDr b13 k13 m13 y1 3
  have gLs := ok_ls (P := l.prog) (w := w) (base := base) F19 b19 m19 y1 3
  exact ok_law F20 ⟨_, _, gDg, b12, k12, m12, _, _, gM, b17, k17, m17, _, _, gCt, b18, k18, m18, _, _, gPl, b9, k9, m9, _, _, gSz, b10, k10, m10, _, _, gLs, b19, k19, m19, _, _, gCo, b2, k2, m2, _, _, gOo, b3, k3, m3, _, _, gIm, b4, k4, m4, y7, y8, y2⟩
theorem walk {l : PySem.W.OpenLaw} {q : Program} {loose : List Str} {XP : (Str → Option Value) → Heap → Prop} {YP : World → Heap → Prop} {d : DefRec} {K : Params → PySem.W.Frag} (hn : l.most = some 63) (hdf : d.params.defaults = [])
    (hY : ∀ (w : World) (h : Heap), YP w h → (K w.params).In h)
    (F : ∀ (w : World) (mg : Str → Option Value) (fa : Addr) (h : Heap), (K w.params).In h → h.Ns mainGlobals mg → mg d.name = some (.ref fa) →
      ∃ fd : FuncData, (∀ (s : Shared) (u : Value), BindsTo s fd ⟨[u], []⟩ [("script", u)]) ∧ ∀ base : Heap, (K w.params).In base → base.Ns mainGlobals mg → Gy.RunAt PySem.callerA l.prog w (K w.params) mg base CX0 8 fa fd ["script"] (spLaw (K w.params))) :
    PySem.W.WalkO q loose XP YP l.row.toRowW d [] (fun f vs => PySem.call f vs) :=
  Gy.walk_at (n := 63) (k := 8) (x := "script") (sp := fun w => spLaw (K w.params)) hn (by decide) hdf ⟨rfl, by decide, by decide⟩ hY F fun _ _ a ns _ _ hS => ⟨a, ns, rfl, hS, fun _ => rfl⟩
end Mw
open PySem PySem.W PyProof.Rows
set_option maxRecDepth 100000 in
set_option maxHeartbeats 0 in
theorem PySem.Challenge.cw_messageways_k00_plain_messages_and_sizes_holds : PySem.Challenge.rw_messageways_k00_plain_messages_and_sizes.Holds := by
  w_on; o_law; k_head; (case hw => w_witness2)
  k_fill
  refine Mw.walk (l := PySem.Challenge.rw_messageways_k00_plain_messages_and_sizes) rfl rfl (fun w h Y => PySem.W.kIn_of Y) ?F
  case F =>
    intro w mg fa h KX G hmg
    refine' Mw.all_mk KX G hmg ?a1 ?l1 ?c1 ?k1 ?a2 ?l2 ?c2 ?k2 ?a3 ?l3 ?c3 ?k3 ?a4 ?l4 ?c4 ?k4 ?a5 ?l5 ?c5 ?k5 ?a6 ?l6 ?c6 ?k6 ?a7 ?l7 ?c7 ?k7 ?a8 ?l8 ?c8 ?k8 ?a9 ?l9 ?c9 ?k9 ?a10 ?l10 ?c10 ?k10 ?a11 ?l11 ?c11 ?k11 ?a12 ?l12 ?c12 ?k12 ?a13 ?l13 ?c13 ?k13 ?a14 ?l14 ?c14 ?k14 ?a15 ?l15 ?c15 ?k15 ?a16 ?l16 ?c16 ?k16 ?a17 ?l17 ?c17 ?k17 ?a18 ?l18 ?c18 ?k18 ?a19 ?l19 ?c19 ?k19 ?a20 ?l20 ?c20 ?k20 ?z1 ?z2 ?z3 ?z4 ?z5 ?z6 ?z7 ?z8
    (case a1 => k_is); (case l1 => k_is); (case c1 => k_is); (case k1 => k_is)
    (case a2 => k_is); (case l2 => k_is); (case c2 => k_is); (case k2 => k_is)
    (case a3 => k_is); (case l3 => k_is); (case c3 => k_is); (case k3 => k_is)
    (case a4 => k_is); (case l4 => k_is); (case c4 => k_is); (case k4 => k_is)
    (case a5 => k_is); (case l5 => k_is); (case c5 => k_is); (case k5 => k_is)
    (case a6 => k_is); (case l6 => k_is); (case c6 => k_is); (case k6 => k_is)
    (case a7 => k_is); (case l7 => k_is); (case c7 => k_is); (case k7 => k_is)
    (case a8 => k_is); (case l8 => k_is); (case c8 => k_is); (case k8 => k_is)
    (case a9 => k_is); (case l9 => k_is); (case c9 => k_is); (case k9 => k_is)
    (case a10 => k_is); (case l10 => k_is); (case c10 => k_is); (case k10 => k_is)
    (case a11 => k_is); (case l11 => k_is); (case c11 => k_is); (case k11 => k_is)
    (case a12 => k_is); (case l12 => k_is); (case c12 => k_is); (case k12 => k_is)
    (case a13 => k_is); (case l13 => k_is); (case c13 => k_is); (case k13 => k_is)
    (case a14 => k_is); (case l14 => k_is); (case c14 => k_is); (case k14 => k_is)
    (case a15 => k_is); (case l15 => k_is); (case c15 => k_is); (case k15 => k_is)
    (case a16 => k_is); (case l16 => k_is); (case c16 => k_is); (case k16 => k_is)
    (case a17 => k_is); (case l17 => k_is); (case c17 => k_is); (case k17 => k_is)
    (case a18 => k_is); (case l18 => k_is); (case c18 => k_is); (case k18 => k_is)
    (case a19 => k_is); (case l19 => k_is); (case c19 => k_is); (case k19 => k_is)
    (case a20 => k_is); (case l20 => k_is); (case c20 => k_is); (case k20 => k_is)
    (case z1 => k_is)
    (case z2 => k_is)
    (case z3 => k_is)
    (case z4 => k_is)
    (case z5 => k_is)
    (case z6 => k_is)
    (case z7 => k_is)
    (case z8 => k_is)

