import PyProof.Rows.All
import Wide.All
import OpenK.AllK
import Wide.FinOn
import HandS.Base
import HandS.Call
import HandS.List
import HandS.Comp
import HandS.Ends
import HandS.Dict
import HandS.Iter
import HandS.Text
import HandS.Words
import HandS.WordsList
import HandS.Evl
import HandS.Style
import HandS.Walk
import HandS.Zip
import HandS.WordsDict
import HandS.DictComp
import HandS.More
import KE.KExcSuper
import HandS.Exc
import HandS.ExcInit
import HandS.Nested
import HandS.FStr
import HandS.WordsExc
import HandS.ExcIs
import HandS.ExcField
import PyProof.EqAt
import PyProof.EqKinds
import PyProof.TupleCall
import HandS.FStrTup
import HandS.IsInst
import HandS.TryOnly
import HandS.SetFor
import HandS.SetTxt0
import PyProof.Rows.SetFrom
import PyProof.WalksMore
import OpenK.XHead
import PySem.Challenge.RW_messageways_k47_faults_of_catalogs
set_option Elab.async false
set_option maxRecDepth 100000
namespace Mw
open PySem L2
def top (i : Nat) : Stmt := PySem.Challenge.pw_messageways_k47_faults_of_catalogs.main.body.getD i (.Pass ⟨0, 0, 0, 0⟩)
/-! ### trees of messages: a message is a chain of nodes, the cases of a choice a chain of cas -/
inductive T where
  | nil
  | text (s : Str) (r : T)
  | shw (n : Str) (r : T)
  | num (r : T)
  | cho (hd : List V) (cs o r : T)
  | cas (k : V) (m r : T)
/-- the values vs are the nodes (the cases) of the tree, as the heap has them -/
def Nodes (H : Hp) : T → List V → Prop
  | .nil, vs => vs = []
  | .text s r, vs => ∃ p ws, vs = .ref p :: ws ∧ H p = some (.tup [.str "text", .str s]) ∧ Nodes H r ws
  | .shw n r, vs => ∃ p ws, vs = .ref p :: ws ∧ H p = some (.tup [.str "show", .str n]) ∧ Nodes H r ws
  | .num r, vs => ∃ p ws, vs = .ref p :: ws ∧ H p = some (.tup [.str "number"]) ∧ Nodes H r ws
  | .cho hd cs o r, vs => ∃ p ws ca cvs oa ovs, vs = .ref p :: ws ∧ H p = some (.tup (hd ++ [.ref ca, .ref oa])) ∧ H ca = some (.lst cvs) ∧ Nodes H cs cvs ∧ H oa = some (.lst ovs) ∧ Nodes H o ovs ∧ Nodes H r ws
  | .cas k m r, vs => ∃ p ws ma mvs, vs = .ref p :: ws ∧ H p = some (.tup [k, .ref ma]) ∧ H ma = some (.lst mvs) ∧ Nodes H m mvs ∧ Nodes H r ws
/-- a list at a that is a message -/
def At (H : Hp) (a : Addr) (t : T) : Prop := ∃ vs, H a = some (.lst vs) ∧ Nodes H t vs
/-- all but the box stays; the box is a list of a ref and an int -/
def IsBox (vs : List V) : Prop := ∃ d i, vs = [.ref d, .int i]
def Ext (B : Addr) (H H' : Hp) : Prop := ∀ b o, b ≠ B → H b = some o → H' b = some o
theorem Ext.refl {B : Addr} (H : Hp) : Ext B H H := fun _ _ _ h => h
theorem Ext.trans {B : Addr} {H H1 H2 : Hp} (a : Ext B H H1) (b : Ext B H1 H2) : Ext B H H2 := fun c o n h => b c o n (a c o n h)
theorem Ext.of {B : Addr} {H H' : Hp} (s : Same H H') : Ext B H H' := fun b o _ h => s b o h
theorem same_new {H : Hp} {p : Addr} (h : H p = none) (o : HO) : Same H (upd H p o) := fun b u q => by
  rw [upd_ne (ne_of_none q h)]
  exact q
theorem same_mut {H H' : Hp} {p : Addr} (s : Same H H') (h : H p = none) (o : HO) : Same H (upd H' p o) := fun b u q => by
  rw [upd_ne (ne_of_none q h)]
  exact s b u q
theorem Nodes.refs {H : Hp} : ∀ {t : T} {vs : List V}, Nodes H t vs → ∀ v ∈ vs, ∃ a, v = .ref a
  | .nil, _, h, v, hv => by
    have h' : _ = [] := h
    subst h'
    cases hv
  | .text s r, _, h, v, hv => by
    obtain ⟨p, ws, rfl, _, hr⟩ := h
    rcases List.mem_cons.mp hv with rfl | hv
    · exact ⟨_, rfl⟩
    · exact Nodes.refs hr v hv
  | .shw n r, _, h, v, hv => by
    obtain ⟨p, ws, rfl, _, hr⟩ := h
    rcases List.mem_cons.mp hv with rfl | hv
    · exact ⟨_, rfl⟩
    · exact Nodes.refs hr v hv
  | .num r, _, h, v, hv => by
    obtain ⟨p, ws, rfl, _, hr⟩ := h
    rcases List.mem_cons.mp hv with rfl | hv
    · exact ⟨_, rfl⟩
    · exact Nodes.refs hr v hv
  | .cho hd cs o r, _, h, v, hv => by
    obtain ⟨p, ws, ca, cvs, oa, ovs, rfl, _, _, _, _, _, hr⟩ := h
    rcases List.mem_cons.mp hv with rfl | hv
    · exact ⟨_, rfl⟩
    · exact Nodes.refs hr v hv
  | .cas k m r, _, h, v, hv => by
    obtain ⟨p, ws, ma, mvs, rfl, _, _, _, hr⟩ := h
    rcases List.mem_cons.mp hv with rfl | hv
    · exact ⟨_, rfl⟩
    · exact Nodes.refs hr v hv
theorem Nodes.notBox {H : Hp} {t : T} {vs : List V} (h : Nodes H t vs) : ¬ IsBox vs := by
  rintro ⟨d, i, rfl⟩
  obtain ⟨a, e⟩ := h.refs (.int i) (by simp)
  cases e
theorem lst_ne {B a : Addr} {H : Hp} {bs vs : List V} (hb : H B = some (.lst bs)) (ib : IsBox bs) (ha : H a = some (.lst vs)) (nv : ¬ IsBox vs) : a ≠ B := by
  intro e
  subst e
  rw [hb] at ha
  cases ha
  exact nv ib
theorem tup_ne {B a : Addr} {H : Hp} {bs vs : List V} (hb : H B = some (.lst bs)) (ha : H a = some (.tup vs)) : a ≠ B := by
  intro e
  subst e
  rw [hb] at ha
  cases ha
/-- a tree stays where all but the box stays -/
theorem Nodes.ext {B : Addr} {H H' : Hp} {bs : List V} (hb : H B = some (.lst bs)) (ib : IsBox bs) (e : Ext B H H') : ∀ {t : T} {vs : List V}, Nodes H t vs → Nodes H' t vs
  | .nil, _, h => h
  | .text s r, _, h => by
    obtain ⟨p, ws, rfl, hp, hr⟩ := h
    exact ⟨p, ws, rfl, e _ _ (tup_ne hb hp) hp, Nodes.ext hb ib e hr⟩
  | .shw n r, _, h => by
    obtain ⟨p, ws, rfl, hp, hr⟩ := h
    exact ⟨p, ws, rfl, e _ _ (tup_ne hb hp) hp, Nodes.ext hb ib e hr⟩
  | .num r, _, h => by
    obtain ⟨p, ws, rfl, hp, hr⟩ := h
    exact ⟨p, ws, rfl, e _ _ (tup_ne hb hp) hp, Nodes.ext hb ib e hr⟩
  | .cho hd cs o r, _, h => by
    obtain ⟨p, ws, ca, cvs, oa, ovs, rfl, hp, hc, hcs, ho, hos, hr⟩ := h
    exact ⟨p, ws, ca, cvs, oa, ovs, rfl, e _ _ (tup_ne hb hp) hp, e _ _ (lst_ne hb ib hc hcs.notBox) hc, Nodes.ext hb ib e hcs, e _ _ (lst_ne hb ib ho hos.notBox) ho, Nodes.ext hb ib e hos, Nodes.ext hb ib e hr⟩
  | .cas k m r, _, h => by
    obtain ⟨p, ws, ma, mvs, rfl, hp, hm, hms, hr⟩ := h
    exact ⟨p, ws, ma, mvs, rfl, e _ _ (tup_ne hb hp) hp, e _ _ (lst_ne hb ib hm hms.notBox) hm, Nodes.ext hb ib e hms, Nodes.ext hb ib e hr⟩
theorem Nodes.same {H H' : Hp} (e : Same H H') : ∀ {t : T} {vs : List V}, Nodes H t vs → Nodes H' t vs
  | .nil, _, h => h
  | .text s r, _, h => by
    obtain ⟨p, ws, rfl, hp, hr⟩ := h
    exact ⟨p, ws, rfl, e _ _ hp, Nodes.same e hr⟩
  | .shw n r, _, h => by
    obtain ⟨p, ws, rfl, hp, hr⟩ := h
    exact ⟨p, ws, rfl, e _ _ hp, Nodes.same e hr⟩
  | .num r, _, h => by
    obtain ⟨p, ws, rfl, hp, hr⟩ := h
    exact ⟨p, ws, rfl, e _ _ hp, Nodes.same e hr⟩
  | .cho hd cs o r, _, h => by
    obtain ⟨p, ws, ca, cvs, oa, ovs, rfl, hp, hc, hcs, ho, hos, hr⟩ := h
    exact ⟨p, ws, ca, cvs, oa, ovs, rfl, e _ _ hp, e _ _ hc, Nodes.same e hcs, e _ _ ho, Nodes.same e hos, Nodes.same e hr⟩
  | .cas k m r, _, h => by
    obtain ⟨p, ws, ma, mvs, rfl, hp, hm, hms, hr⟩ := h
    exact ⟨p, ws, ma, mvs, rfl, e _ _ hp, e _ _ hm, Nodes.same e hms, Nodes.same e hr⟩
/-- two chains, one behind the other -/
def T.app : T → T → T
  | .nil, u => u
  | .text s r, u => .text s (r.app u)
  | .shw n r, u => .shw n (r.app u)
  | .num r, u => .num (r.app u)
  | .cho hd cs o r, u => .cho hd cs o (r.app u)
  | .cas k m r, u => .cas k m (r.app u)
theorem Nodes.app {H : Hp} {u : T} {us : List V} (hu : Nodes H u us) : ∀ {t : T} {vs : List V}, Nodes H t vs → Nodes H (t.app u) (vs ++ us)
  | .nil, _, h => by
    have h' : _ = [] := h
    subst h'
    exact hu
  | .text s r, _, h => by
    obtain ⟨p, ws, rfl, hp, hr⟩ := h
    exact ⟨p, ws ++ us, rfl, hp, Nodes.app hu hr⟩
  | .shw n r, _, h => by
    obtain ⟨p, ws, rfl, hp, hr⟩ := h
    exact ⟨p, ws ++ us, rfl, hp, Nodes.app hu hr⟩
  | .num r, _, h => by
    obtain ⟨p, ws, rfl, hp, hr⟩ := h
    exact ⟨p, ws ++ us, rfl, hp, Nodes.app hu hr⟩
  | .cho hd cs o r, _, h => by
    obtain ⟨p, ws, ca, cvs, oa, ovs, rfl, hp, hc, hcs, ho, hos, hr⟩ := h
    exact ⟨p, ws ++ us, ca, cvs, oa, ovs, rfl, hp, hc, hcs, ho, hos, Nodes.app hu hr⟩
  | .cas k m r, _, h => by
    obtain ⟨p, ws, ma, mvs, rfl, hp, hm, hms, hr⟩ := h
    exact ⟨p, ws ++ us, ma, mvs, rfl, hp, hm, hms, Nodes.app hu hr⟩
section
variable {P : Program} {w : World} {K : PySem.W.Frag} {mg : Str → Option Value} {base : Heap}
/-! ### _law_cell -/
abbrev sCell : Stmt := top 16
theorem scCell : FnScope ["script", "k"] ["script", "k"] (defScope sCell) := ⟨rfl, rfl, rfl, by decide +kernel, rfl, by decide +kernel, by decide +kernel⟩
def spCell (K : PySem.W.Frag) : Sp := fun vs H Q _ => ∃ (a : Addr) (ns : List Int) (k : Int), vs = [.ref a, .int k] ∧ SqL K H a (ns.map V.int) ∧ 0 ≤ k ∧ ∀ z, Q (.int z) H
theorem ok_cell {f : Addr} {fd : FuncData} (F : Fun K "_law_cell" "_law_cell" sCell f fd) (ml : mg "len" = none) : FnOk P w K mg base CX0 1 f fd ["script", "k"] (spCell K) := by
  refine F.ok scCell (fun vs H Q E h => ?_) (fun cdv A outer s H vs Q E hr h => ?_)
  · obtain ⟨a, ns, k, rfl, _⟩ := h
    rfl
  obtain ⟨a, ns, k, rfl, hS, h0, q⟩ := h
  refine ⟨_, pss_cons (ps_if (pt_cmpR op_lt (pv 1) (pe_callB call_len_seq (by rfl) ml PySem.boot_len (pa_cons (pv 0) pa_nil)) (nomark _)) (pss_one (ps_ret (pe_ix ix_list (pv 0) (pv 1) (fun _ _ => rfl)))) pss_nil)
    (pss_one (ps_ret pe_int)), ?_⟩
  refine ⟨_, rfl, _, rfl, a, _, rfl, .inl hS, _, _, rfl, rfl, _, rfl, ?_⟩
  refine ite2 (fun c => ?_) (fun c => ?_)
  · have c' := of_decide_eq_true c
    rw [List.length_map] at c'
    have hk : k.toNat < ns.length := by omega
    refine ⟨_, rfl, _, rfl, a, _, k, .int ns[k.toNat], rfl, rfl, hS, at_of (j := k.toNat) (by omega) (by rw [List.getElem?_map, List.getElem?_eq_getElem hk] <;> rfl), q _⟩
  · exact q _
end
end Mw

namespace Mw
open PySem L2
/-! ### how a heap goes on: all but the box stays, nothing is given up -/
structure Go (B : Addr) (H H' : Hp) : Prop where
  ext : ∀ b o, b ≠ B → H b = some o → H' b = some o
  dom : ∀ b, H' b = none → H b = none
theorem Go.refl (B : Addr) (H : Hp) : Go B H H := ⟨fun _ _ _ h => h, fun _ h => h⟩
theorem Go.trans {B : Addr} {H H1 H2 : Hp} (a : Go B H H1) (b : Go B H1 H2) : Go B H H2 := ⟨fun c o n h => b.ext c o n (a.ext c o n h), fun c h => a.dom c (b.dom c h)⟩
theorem upd_none {H : Hp} {p b : Addr} {o : HO} (h : upd H p o b = none) : H b = none := by
  unfold upd at h
  split at h
  · cases h
  · exact h
theorem Go.new {B : Addr} {H : Hp} {p : Addr} (h : H p = none) (o : HO) : Go B H (upd H p o) := ⟨fun b u _ q => same_new h o b u q, fun b q => upd_none q⟩
theorem Go.mut {B : Addr} {H H' : Hp} {p : Addr} (g : Go B H H') (h : H p = none) (o : HO) : Go B H (upd H' p o) :=
  ⟨fun b u n q => by
    rw [upd_ne (ne_of_none q h)]
    exact g.ext b u n q, fun b q => g.dom b (upd_none q)⟩
theorem Go.box (B : Addr) (H : Hp) (o : HO) : Go B H (upd H B o) := ⟨fun b u n q => by rw [upd_ne n]; exact q, fun b q => upd_none q⟩
theorem Go.same {B : Addr} {H H' : Hp} (s : Same H H') : Go B H H' := ⟨fun b o _ h => s b o h, fun b h => s.free h⟩
/-- what is new in H, seen from H0 -/
def fr (H0 H : Hp) : Hp := fun a => match H0 a with
  | none => H a
  | some _ => none
theorem fr_new {H0 H : Hp} {a : Addr} (h : H0 a = none) : fr H0 H a = H a := by
  unfold fr
  rw [h]
theorem fr_old {H0 H : Hp} {a : Addr} {o : HO} (h : H0 a = some o) : fr H0 H a = none := by
  unfold fr
  rw [h]
theorem fr_in {H0 H : Hp} {a : Addr} {o : HO} (h : fr H0 H a = some o) : H0 a = none ∧ H a = some o := by
  unfold fr at h
  split at h
  · exact ⟨by assumption, h⟩
  · cases h
theorem fr_go {B : Addr} {H0 H1 H2 : Hp} {ob : HO} (hb : H0 B = some ob) (g : Go B H1 H2) : Same (fr H0 H1) (fr H0 H2) := fun a o h => by
  obtain ⟨h0, h1⟩ := fr_in h
  rw [fr_new h0]
  exact g.ext a o (by rintro rfl; rw [hb] at h0; cases h0) h1
theorem fr_same {H0 H1 H2 : Hp} (g : Same H1 H2) : Same (fr H0 H1) (fr H0 H2) := fun a o h => by
  obtain ⟨h0, h1⟩ := fr_in h
  rw [fr_new h0]
  exact g a o h1
theorem fr_mut {H0 H1 : Hp} {l : Addr} {ol : HO} (hl : H0 l = some ol) (o : HO) : Same (fr H0 H1) (fr H0 (upd H1 l o)) := fun a u h => by
  obtain ⟨h0, h1⟩ := fr_in h
  rw [fr_new h0, upd_ne (by rintro rfl; rw [hl] at h0; cases h0)]
  exact h1
theorem fr_dom {H0 H1 H2 : Hp} (g : ∀ b, H1 b = none → H0 b = none) : Same (fr H1 H2) (fr H0 H2) := fun a u h => by
  obtain ⟨h0, h1⟩ := fr_in h
  rw [fr_new (g a h0)]
  exact h1
theorem fr_out {H0 H : Hp} : Same (fr H0 H) H := fun a o h => (fr_in h).2
/-- the box: digits and a place -/
def Box (H : Hp) (B d : Addr) : Prop := ∃ (ds : List Int) (i : Int), H B = some (.lst [.ref d, .int i]) ∧ H d = some (.lst (ds.map V.int)) ∧ 0 ≤ i
theorem Box.isB {H : Hp} {B d : Addr} (b : Box H B d) : ∃ o, H B = some o := by
  obtain ⟨ds, i, h, _⟩ := b
  exact ⟨_, h⟩
theorem Box.isD {H : Hp} {B d : Addr} (b : Box H B d) : ∃ o, H d = some o := by
  obtain ⟨ds, i, _, h, _⟩ := b
  exact ⟨_, h⟩
theorem Box.neB {H : Hp} {B d l : Addr} (b : Box H B d) (h : H l = none) : l ≠ B := by
  obtain ⟨o, hB⟩ := b.isB
  exact (ne_of_none hB h).symm
theorem Box.neD {H : Hp} {B d l : Addr} (b : Box H B d) (h : H l = none) : l ≠ d := by
  obtain ⟨o, hB⟩ := b.isD
  exact (ne_of_none hB h).symm
theorem Box.ne {H : Hp} {B d : Addr} {ds : List Int} {i : Int} (h : H B = some (.lst [.ref d, .int i])) (hd : H d = some (.lst (ds.map V.int))) : d ≠ B := by
  rintro rfl
  rw [h] at hd
  cases ds with
  | nil => cases hd
  | cons z r => cases hd
theorem Box.same {H H' : Hp} {B d : Addr} (s : Same H H') (b : Box H B d) : Box H' B d := by
  obtain ⟨ds, i, h, hd, hi⟩ := b
  exact ⟨ds, i, s _ _ h, s _ _ hd, hi⟩
theorem Box.mut {H : Hp} {B d l : Addr} (b : Box H B d) (hB : l ≠ B) (hd : l ≠ d) (o : HO) : Box (upd H l o) B d := by
  obtain ⟨ds, i, h, hd', hi⟩ := b
  exact ⟨ds, i, by rw [upd_ne hB.symm]; exact h, by rw [upd_ne hd.symm]; exact hd', hi⟩
theorem Box.new {H : Hp} {B d l : Addr} (b : Box H B d) (h : H l = none) (o : HO) : Box (upd H l o) B d := b.mut (b.neB h) (b.neD h) o
end Mw

namespace Mw
open PySem L2
section
variable {P : Program} {w : World} {K : PySem.W.Frag} {mg : Str → Option Value} {base : Heap}
/-! ### _law_row: a new list of ints -/
abbrev sRow : Stmt := top 17
theorem scRow : FnScope ["cell", "k", "many", "row", "turn", "seed"] ["cell", "k", "many"] (defScope sRow) := ⟨rfl, rfl, rfl, by decide +kernel, rfl, by decide +kernel, by decide +kernel⟩
def spRow : Sp := fun vs H Q _ => ∃ (c k : Int), vs = [.int c, .int k, .int 12] ∧ ∀ (d : Addr) (H' : Hp) (ds : List Int), H d = none → Same H H' → H' d = some (.lst (ds.map V.int)) → ds.length ≤ 12 → Q (.ref d) H'
theorem len_ints (ds : List Int) (z : Int) : ds.map V.int ++ [V.int z] = (ds ++ [z]).map V.int := by simp
theorem ok_row {f : Addr} {fd : FuncData} (F : Fun K "_law_row" "_law_row" sRow f fd) (mr : mg "range" = none) (mi : mg "int" = none) (ml : mg "len" = none) :
    FnOk P w K mg base CX0 1 f fd ["cell", "k", "many"] spRow := by
  refine F.ok scRow (fun vs H Q E h => ?_) (fun cdv A outer s H vs Q E hr h => ?_)
  · obtain ⟨c, k, rfl, _⟩ := h
    rfl
  obtain ⟨c, k, rfl, q⟩ := h
  have nd := scRow.nd
  refine ⟨_, pss_cons (ps_set (i := 3) nd rfl (.inl rfl) (pe_lst pa_nil))
    (Evl.pss_cut (ps_if (pt_cmpR op_lt (pv 0) pe_int (nomark _)) (pss_one (ps_set (i := 0) nd rfl (.inl rfl) (pe_op op_sub pe_int (pe_op op_mul pe_int (pv 0))))) pss_nil)
    (pss_cons (ps_if (pt_cmpR op_ge (pv 0) (pe_op op_pow pe_int pe_int) (nomark _))
      (pss_cons (ps_for PassesOwn.never rfl (pi_range1 rfl mr (pa_cons pe_int pa_nil)) (pg_name (i := 4) nd rfl (.inl rfl))
        (pss_one (ps_if (PW.pt (pw_and (pt_cmpR op_gt (pv 0) pe_int (nomark _)) (pw_and1 (pt_cmpR op_lt (pe_callB call_len_seq (by rfl) ml PySem.boot_len (pa_cons (pv 3) pa_nil)) (pv 2) (nomark _)))))
          (pss_cons (ps_expr (pe_bm PySem.F.plainAttrs_list PySem.F.slot_list_append PySem.F.type_list_append mt_append (pv 3) (pa_cons (pe_op op_mod (pe_callTy call_int1 (by rfl) mi (by decide +kernel) (pa_cons (pv 0) pa_nil)) pe_int) pa_nil)))
          (pss_one (ps_set (i := 0) nd rfl (.inl rfl) (pe_op op_fdiv (pv 0) pe_int)))) pss_nil)))
      (pss_one (ps_ret (pv 3)))) pss_nil)
    (pss_cons (ps_set (i := 5) nd rfl (.inl rfl) (pe_op op_mod (pe_callTy call_int1 (by rfl) mi (by decide +kernel) (pa_cons (pe_op op_add (pe_op op_add (pe_op op_mul (pv 0) pe_int) (pe_op op_mul (pv 1) pe_int)) pe_int) pa_nil)) pe_int))
    (pss_cons (ps_for PassesOwn.never rfl (pi_range1 rfl mr (pa_cons (pv 2) pa_nil)) (pg_name (i := 4) nd rfl (.inl rfl))
        (pss_cons (ps_set (i := 5) nd rfl (.inl rfl) (pe_op op_mod (pe_callTy call_int1 (by rfl) mi (by decide +kernel) (pa_cons (pe_op op_add (pe_op op_add (pe_op op_mul (pv 5) pe_int) (pe_op op_mul pe_int (pv 4))) pe_int) pa_nil)) pe_int))
        (pss_one (ps_expr (pe_bm PySem.F.plainAttrs_list PySem.F.slot_list_append PySem.F.type_list_append mt_append (pv 3) (pa_cons (pe_op op_mod (pe_callTy call_int1 (by rfl) mi (by decide +kernel) (pa_cons (pe_op op_fdiv (pv 5) pe_int) pa_nil)) pe_int) pa_nil))))))
    (pss_one (ps_ret (pv 3))))))), ?_⟩
  refine ⟨Nat.zero_le _, fun d nd0 => ?_⟩
  have s1 : Same H (upd H d (.lst [])) := same_new nd0 _
  refine ⟨fun σ' H' => ∃ z : Int, σ' = [some (.int z), some (.int k), some (.int 12), some (.ref d), none, none] ∧ H' = upd H d (.lst []), ?_, ?_⟩
  · refine ⟨_, rfl, _, _, rfl, rfl, _, rfl, ?_⟩
    refine ite2 (fun _ => ?_) (fun _ => ?_)
    · exact ⟨_, rfl, _, _, rfl, rfl, .inl (by decide), _, _, rfl, rfl, _, rfl, rfl⟩
    · exact ⟨_, rfl, rfl⟩
  rintro σ' H' ⟨z, rfl, rfl⟩
  refine ⟨_, rfl, _, _, rfl, rfl, (by unfold CPow; decide), _, _, rfl, rfl, _, rfl, ?_⟩
  refine ite2 (fun _ => ?_) (fun _ => ?_)
  · refine ⟨60, rfl, by decide, by decide, for_range (lo := 0) (n := 60) (fun j σ H' => ∃ (ds : List Int) (z' : Int) (o4 : Option V), σ = [some (.int z'), some (.int k), some (.int 12), some (.ref d), o4, none] ∧ Same H H' ∧ H' d = some (.lst (ds.map V.int)) ∧ ds.length ≤ 12)
      ⟨[], z, none, rfl, s1, upd_same, Nat.zero_le _⟩ ?_ ?_⟩
    · rintro j σ H3 hj ⟨ds, z', o4, rfl, s3, hd3, hl3⟩
      refine ⟨_, rfl, _, _, rfl, rfl, _, rfl, ?_⟩
      by_cases c1 : z' > 0
      · rw [decide_eq_true c1]
        refine iteT ⟨_, rfl, d, _, rfl, .inl (SqL.of hd3), _, rfl, _, _, rfl, rfl, _, rfl, ?_⟩
        refine ite2 (fun c2 => ?_) (fun c2 => ?_)
        · have c3 := of_decide_eq_true c2
          rw [List.length_map] at c3
          refine ⟨_, rfl, .inl ⟨rfl, _, SqL.of hd3⟩, _, rfl, .inl ⟨_, rfl, _, _, rfl, rfl, (by show (0 : Int) < 1000; decide), d, _, _, rfl, rfl, hd3, ?_, ?_⟩⟩
          · rw [List.length_map]
            exact Nat.lt_of_lt_of_le (show ds.length < 100000 by omega) (by decide)
          · refine ⟨_, rfl, _, _, rfl, rfl, ⟨by decide, by decide⟩, ds ++ [z' % 1000], _, _, rfl, same_mut s3 nd0 _, ?_, ?_⟩
            · rw [upd_same, len_ints]
            · rw [List.length_append, List.length_singleton]
              omega
        · exact ⟨ds, _, _, rfl, s3, hd3, hl3⟩
      · rw [decide_eq_false c1]
        refine iteF ?_
        exact ⟨ds, _, _, rfl, s3, hd3, hl3⟩
    · rintro σ H3 ⟨ds, z', o4, rfl, s3, hd3, hl3⟩
      exact ⟨_, rfl, q d H3 ds nd0 s3 hd3 hl3⟩
  · refine ⟨_, rfl, _, _, rfl, rfl, .inr ⟨by decide, by decide⟩, _, rfl, _, _, rfl, rfl, .inr ⟨by decide, by decide⟩, _, _, rfl, rfl, _, _, rfl, rfl, .inl ⟨_, rfl, _, _, rfl, rfl, (by show (0 : Int) < 2147483647; decide), ?_⟩⟩
    refine ⟨_, rfl, 12, rfl, by decide, by decide, for_range (lo := 0) (n := 12) (fun j σ H' => ∃ (ds : List Int) (z' : Int) (o4 : Option V), σ = [some (.int z), some (.int k), some (.int 12), some (.ref d), o4, some (.int z')] ∧ Same H H' ∧ H' d = some (.lst (ds.map V.int)) ∧ ds.length ≤ j)
      ⟨[], _, none, rfl, s1, upd_same, Nat.zero_le _⟩ ?_ ?_⟩
    · rintro j σ H3 hj ⟨ds, z', o4, rfl, s3, hd3, hl3⟩
      refine ⟨_, rfl, _, _, rfl, rfl, .inr ⟨by decide, by decide⟩, _, rfl, _, _, rfl, rfl, .inl ⟨by decide, by decide⟩, _, _, rfl, rfl, _, _, rfl, rfl, .inl ⟨_, rfl, _, _, rfl, rfl, (by show (0 : Int) < 2147483647; decide), ?_⟩⟩
      refine ⟨_, rfl, .inl ⟨rfl, _, SqL.of hd3⟩, _, rfl, _, _, rfl, rfl, ⟨by decide, by decide⟩, .inl ⟨_, rfl, _, _, rfl, rfl, (by show (0 : Int) < 1000; decide), d, _, _, rfl, rfl, hd3, ?_, ?_⟩⟩
      · rw [List.length_map]
        exact Nat.lt_of_lt_of_le (show ds.length < 100000 by omega) (by decide)
      · refine ⟨_, _, _, rfl, same_mut s3 nd0 _, by rw [upd_same, len_ints], ?_⟩
        rw [List.length_append, List.length_singleton]
        omega
    · rintro σ H3 ⟨ds, z', o4, rfl, s3, hd3, hl3⟩
      exact ⟨_, rfl, q d H3 ds nd0 s3 hd3 hl3⟩
end
end Mw

namespace Mw
open PySem L2
section
variable {P : Program} {w : World} {K : PySem.W.Frag} {mg : Str → Option Value} {base : Heap}
/-! ### _law_box -/
abbrev sBox : Stmt := top 18
theorem scBox : FnScope ["script", "first", "last", "row", "k"] ["script", "first", "last"] (defScope sBox) := ⟨rfl, rfl, rfl, by decide +kernel, rfl, by decide +kernel, by decide +kernel⟩
def spBox (K : PySem.W.Frag) (n : Nat) : Sp := fun vs H Q _ => ∃ (a : Addr) (ns : List Int), vs = [.ref a, .int 0, .int n] ∧ SqL K H a (ns.map V.int) ∧ ∀ (B d : Addr) (H' : Hp), H B = none → H d = none → Same H H' → Box H' B d → Q (.ref B) H'
theorem ok_box {n : Nat} (hn : n ≤ 100) {f fC fR : Addr} {fd fdC fdR : FuncData} (F : Fun K "_law_box" "_law_box" sBox f fd)
    (GC : FnOk P w K mg base CX0 1 fC fdC ["script", "k"] (spCell K)) (bC : Binds K fdC ["script", "k"] []) (kC : PySem.W.keepIn K (.ref fC) = true) (mC : mg "_law_cell" = some (.ref fC))
    (GR : FnOk P w K mg base CX0 1 fR fdR ["cell", "k", "many"] spRow) (bR : Binds K fdR ["cell", "k", "many"] []) (kR : PySem.W.keepIn K (.ref fR) = true) (mR : mg "_law_row" = some (.ref fR)) (mr : mg "range" = none) :
    FnOk P w K mg base CX0 2 f fd ["script", "first", "last"] (spBox K n) := by
  refine F.ok scBox (fun vs H Q E h => ?_) (fun cdv A outer s H vs Q E hr h => ?_)
  · obtain ⟨a, ns, rfl, _⟩ := h
    rfl
  obtain ⟨a, ns, rfl, hS, q⟩ := h
  have nd := scBox.nd
  refine ⟨_, pss_cons (ps_set (i := 3) nd rfl (.inl rfl) (pe_lst pa_nil))
    (pss_cons (ps_for PassesOwn.never rfl (pi_range2 rfl mr (pa_cons (pv 1) (pa_cons (pv 2) pa_nil))) (pg_name (i := 4) nd rfl (.inl rfl))
      (pss_one (ps_set (i := 3) nd rfl (.inl rfl) (pe_op op_cat (pv 3) (pe_call GR hr rfl mR kR bR .nil pass0 (pa_cons (pe_call GC hr rfl mC kC bC .nil pass0 (pa_cons (pv 0) (pa_cons (pv 4) pa_nil))) (pa_cons (pv 4) (pa_cons pe_int pa_nil))))))))
    (pss_one (ps_ret (pe_lst (pa_cons (pv 3) (pa_cons pe_int pa_nil)))))), ?_⟩
  refine ⟨Nat.zero_le _, fun l0 hl0 => ?_⟩
  refine ⟨_, rfl, _, rfl, 0, n, rfl, by constructor <;> (try constructor) <;> omega, for_range (lo := 0) (n := ((n : Int) - 0).toNat) (fun i σ H' => ∃ (l : Addr) (ds : List Int) (o4 : Option V), σ = [some (.ref a), some (.int 0), some (.int n), some (.ref l), o4] ∧ Same H H' ∧ H l = none ∧ H' l = some (.lst (ds.map V.int)) ∧ ds.length ≤ 12 * i)
    ⟨l0, [], none, rfl, same_new hl0 _, hl0, upd_same, Nat.le_refl _⟩ ?_ ?_⟩
  · rintro i σ H2 hi ⟨l, ds, o4, rfl, s2, hl, hl2, hz⟩
    refine ⟨_, rfl, _, rfl, _, rfl, a, ns, _, rfl, s2.seq hS, by omega, fun z => ⟨_, rfl, z, _, rfl, fun d H3 es hd s3 hd3 he => ?_⟩⟩
    have hl3 := s3 _ _ hl2
    refine ⟨l, d, _, _, rfl, rfl, hl3, hd3, ?_, fun p hp => ⟨p, ds ++ es, _, rfl, (s2.trans s3).trans (same_new hp _), (s2.trans s3).free hp, ?_, ?_⟩⟩
    · rw [List.length_map, List.length_map]
      exact Nat.le_trans (show _ ≤ 100000 by omega) (by decide)
    · rw [upd_same, List.map_append]
    · rw [List.length_append]
      omega
  · rintro σ H2 ⟨l, ds, o4, rfl, s2, hl, hl2, hz⟩
    refine ⟨_, rfl, by show 2 ≤ sizeLine; decide, fun B hB => q B l _ (s2.free hB) hl (s2.trans (same_new hB _)) ⟨ds, 0, upd_same, ?_, Int.le_refl 0⟩⟩
    rw [upd_ne (ne_of_none hl2 hB)]
    exact hl2
/-! ### _law_draw -/
abbrev sDraw : Stmt := top 19
theorem scDraw : FnScope ["box", "many", "at"] ["box", "many"] (defScope sDraw) := ⟨rfl, rfl, rfl, by decide +kernel, rfl, by decide +kernel, by decide +kernel⟩
def spDraw : Sp := fun vs H Q _ => ∃ (B d : Addr) (n : Int), vs = [.ref B, .int n] ∧ 0 < n ∧ Box H B d ∧ ∀ z H', 0 ≤ z → z < n → Go B H H' → Box H' B d → Q (.int z) H'
theorem ok_draw {f : Addr} {fd : FuncData} (F : Fun K "_law_draw" "_law_draw" sDraw f fd) (ml : mg "len" = none) (mi : mg "int" = none) : FnOk P w K mg base CX0 1 f fd ["box", "many"] spDraw := by
  refine F.ok scDraw (fun vs H Q E h => ?_) (fun cdv A outer s H vs Q E hr h => ?_)
  · obtain ⟨B, d, n, rfl, _⟩ := h
    rfl
  obtain ⟨B, d, n, rfl, h0, ⟨ds, i, hB, hd, hi⟩, q⟩ := h
  have nd := scDraw.nd
  refine ⟨_, pss_cons (ps_set (i := 2) nd rfl (.inl rfl) (pe_ix ix_list (pv 0) pe_int (fun _ _ => rfl)))
    (pss_cons (ps_asg (pe_op op_add (pv 2) pe_int) (pg_sub (pv 0) pe_int set_list))
    (pss_cons (ps_if (pt_cmpR op_lt (pv 2) (pe_callB call_len_seq (by rfl) ml PySem.boot_len (pa_cons (pe_ix ix_list (pv 0) pe_int (fun _ _ => rfl)) pa_nil)) (nomark _))
      (pss_one (ps_ret (pe_op op_mod (pe_callTy call_int1 (by rfl) mi (by decide +kernel) (pa_cons (pe_ix ix_list (pe_ix ix_list (pv 0) pe_int (fun _ _ => rfl)) (pv 2) (fun _ _ => rfl)) pa_nil)) (pv 1)))) pss_nil)
    (pss_one (ps_ret (pe_op op_mod (pe_callTy call_int1 (by rfl) mi (by decide +kernel) (pa_cons (pe_op op_add (pe_op op_mul (pv 2) pe_int) pe_int) pa_nil)) (pv 1)))))), ?_⟩
  have ne : d ≠ B := Box.ne hB hd
  refine ⟨_, rfl, B, _, 1, _, rfl, rfl, SqL.of hB, atI_nat (j := 1) rfl, ?_⟩
  refine ⟨_, rfl, _, _, rfl, rfl, _, rfl, B, _, 1, 1, rfl, rfl, hB, rfl, ?_⟩
  have hB' : upd H B (.lst [.ref d, .int (i + 1)]) B = some (.lst [.ref d, .int (i + 1)]) := upd_same
  have hd' : upd H B (.lst [.ref d, .int (i + 1)]) d = some (.lst (ds.map V.int)) := by rw [upd_ne ne]; exact hd
  have hb : Box (upd H B (.lst [.ref d, .int (i + 1)])) B d := ⟨ds, i + 1, hB', hd', by omega⟩
  refine ⟨_, rfl, _, rfl, B, _, 0, _, rfl, rfl, SqL.of hB', atI_nat (j := 0) rfl, d, _, rfl, .inl (SqL.of hd'), _, _, rfl, rfl, _, rfl, ?_⟩
  refine ite2 (fun c => ?_) (fun c => ?_)
  · have c' := of_decide_eq_true c
    rw [List.length_map] at c'
    have hk : i.toNat < ds.length := by omega
    refine ⟨_, rfl, B, _, 0, _, rfl, rfl, SqL.of hB', atI_nat (j := 0) rfl, _, rfl, d, _, i, .int ds[i.toNat], rfl, rfl, SqL.of hd', at_of (j := i.toNat) (by omega) (by rw [List.getElem?_map, List.getElem?_eq_getElem hk] <;> rfl), .inl ⟨_, rfl, _, rfl, _, _, rfl, rfl, h0, ?_⟩⟩
    exact q _ _ (Int.emod_nonneg _ (by omega)) (Int.emod_lt_of_pos _ h0) (Go.box B H _) hb
  · refine ⟨_, rfl, _, _, rfl, rfl, .inr ⟨by decide, by decide⟩, _, _, rfl, rfl, .inl ⟨_, rfl, _, rfl, _, _, rfl, rfl, h0, ?_⟩⟩
    exact q _ _ (Int.emod_nonneg _ (by omega)) (Int.emod_lt_of_pos _ h0) (Go.box B H _) hb
theorem pick {α : Type} {l : List α} {g : α → V} {z : Int} (h0 : 0 ≤ z) (h : z < (l.length : Int)) : ∃ x, x ∈ l ∧ atI (l.map g) z = some (g x) := by
  have hk : z.toNat < l.length := by omega
  exact ⟨l[z.toNat], List.getElem_mem hk, at_of (j := z.toNat) (by omega) (by rw [List.getElem?_map, List.getElem?_eq_getElem hk] <;> rfl)⟩
end
end Mw

namespace Mw
open PySem L2
/-! ### what the law's messages are -/
def T.len : T → Nat
  | .nil => 0
  | .text _ r => r.len + 1
  | .shw _ r => r.len + 1
  | .num r => r.len + 1
  | .cho _ _ _ r => r.len + 1
  | .cas _ _ r => r.len + 1
def T.sz : T → Nat
  | .nil => 0
  | .text s r => 1 + s.length + r.sz
  | .shw _ r => 1 + r.sz
  | .num r => 1 + r.sz
  | .cho _ cs o r => 1 + cs.sz + o.sz + r.sz
  | .cas _ m r => 1 + m.sz + r.sz
def T.keys : T → List V
  | .cas k _ r => k :: r.keys
  | _ => []
def menu : List Str := ["", "a", "b", "1", "2"]
def wordsL : List Str := ["he", "she"]
def shows3 : List Str := ["n", "x", "w"]
def skeys : List V := wordsL.map V.str
def pkeys : List V := [.int 0, .int 1, .int 3, .str "one", .str "few", .str "many"]
def numsL : List Str := ["m", "n"]
/-- a choice's head, and what stands within it: inside a plural or not, its keys -/
inductive HdOk : List V → Bool → Bool → List V → Prop where
  | sel {i : Bool} {ks : List V} (hk : ks.Sublist skeys) : HdOk [.str "select", .str "w"] i i ks
  | plu {n : Str} {off : Int} {i : Bool} {ks : List V} (hn : n ∈ numsL) (ho : off = 0 ∨ off = 1 ∨ off = 2) (hk : ks.Sublist pkeys) : HdOk [.str "plural", .str n, .int off] i true ks
/-- c: cases, not a message; d: so many levels of choices; i: inside a plural -/
def Gd : T → Bool → Nat → Bool → Prop
  | .nil, _, _, _ => True
  | .text s r, c, d, i => c = false ∧ s ∈ menu ∧ Gd r c d i
  | .shw n r, c, d, i => c = false ∧ n ∈ shows3 ∧ Gd r c d i
  | .num r, c, d, i => c = false ∧ i = true ∧ Gd r c d i
  | .cho hd cs o r, c, d, i => c = false ∧ (∃ e j, d = e + 1 ∧ HdOk hd i j cs.keys ∧ Gd cs true e j ∧ Gd o false e j) ∧ Gd r c d i
  | .cas _ m r, c, d, i => c = true ∧ Gd m false d i ∧ Gd r c d i
theorem T.app_len (u : T) : ∀ t : T, (t.app u).len = t.len + u.len
  | .nil => by simp [T.app, T.len]
  | .text _ r => by simp [T.app, T.len, T.app_len u r]; omega
  | .shw _ r => by simp [T.app, T.len, T.app_len u r]; omega
  | .num r => by simp [T.app, T.len, T.app_len u r]; omega
  | .cho _ _ _ r => by simp [T.app, T.len, T.app_len u r]; omega
  | .cas _ _ r => by simp [T.app, T.len, T.app_len u r]; omega
theorem T.app_sz (u : T) : ∀ t : T, (t.app u).sz = t.sz + u.sz
  | .nil => by simp [T.app, T.sz]
  | .text _ r => by simp [T.app, T.sz, T.app_sz u r]; omega
  | .shw _ r => by simp [T.app, T.sz, T.app_sz u r]; omega
  | .num r => by simp [T.app, T.sz, T.app_sz u r]; omega
  | .cho _ _ _ r => by simp [T.app, T.sz, T.app_sz u r]; omega
  | .cas _ _ r => by simp [T.app, T.sz, T.app_sz u r]; omega
theorem T.app_keys (k : V) (m u : T) : ∀ (t : T) (d : Nat) (i : Bool), Gd t true d i → (t.app (.cas k m u)).keys = t.keys ++ k :: u.keys
  | .nil, _, _, _ => rfl
  | .text _ r, _, _, h => by cases h.1
  | .shw _ r, _, _, h => by cases h.1
  | .num r, _, _, h => by cases h.1
  | .cho _ _ _ r, _, _, h => by cases h.1
  | .cas _ _ r, d, i, h => by simp [T.app, T.keys, T.app_keys k m u r d i h.2.2]
theorem Gd.app {u : T} {c : Bool} {d : Nat} {i : Bool} (hu : Gd u c d i) : ∀ {t : T}, Gd t c d i → Gd (t.app u) c d i
  | .nil, _ => hu
  | .text s r, h => ⟨h.1, h.2.1, Gd.app hu h.2.2⟩
  | .shw n r, h => ⟨h.1, h.2.1, Gd.app hu h.2.2⟩
  | .num r, h => ⟨h.1, h.2.1, Gd.app hu h.2.2⟩
  | .cho hd cs o r, h => ⟨h.1, h.2.1, Gd.app hu h.2.2⟩
  | .cas k m r, h => ⟨h.1, h.2.1, Gd.app hu h.2.2⟩
theorem Nodes.length {H : Hp} : ∀ {t : T} {vs : List V}, Nodes H t vs → vs.length = t.len
  | .nil, _, h => by
    have h' : _ = [] := h
    subst h'
    rfl
  | .text s r, _, h => by
    obtain ⟨p, ws, rfl, _, hr⟩ := h
    exact congrArg (· + 1) hr.length
  | .shw n r, _, h => by
    obtain ⟨p, ws, rfl, _, hr⟩ := h
    exact congrArg (· + 1) hr.length
  | .num r, _, h => by
    obtain ⟨p, ws, rfl, _, hr⟩ := h
    exact congrArg (· + 1) hr.length
  | .cho hd cs o r, _, h => by
    obtain ⟨p, ws, ca, cvs, oa, ovs, rfl, _, _, _, _, _, hr⟩ := h
    exact congrArg (· + 1) hr.length
  | .cas k m r, _, h => by
    obtain ⟨p, ws, ma, mvs, rfl, _, _, _, hr⟩ := h
    exact congrArg (· + 1) hr.length
/-- the sizes by levels -/
def nodeW : Nat → Nat
  | 0 => 4
  | d + 1 => 10 + 14 * nodeW d
def msgW (d : Nat) : Nat := 2 * nodeW d
theorem nodeW_ge : ∀ d, 4 ≤ nodeW d
  | 0 => Nat.le_refl _
  | d + 1 => by have := nodeW_ge d; show 4 ≤ 10 + 14 * nodeW d; omega
theorem menu_len {s : Str} (h : s ∈ menu) : s.length ≤ 1 := by
  have a : ∀ s ∈ menu, s.length ≤ 1 := by decide +kernel
  exact a s h
theorem sz_line {n : Nat} (h : n < 10000000) : n < sizeLine := Nat.lt_of_lt_of_le h (by decide)
theorem le_line {n : Nat} (h : n < 10000000) : n ≤ sizeLine := Nat.le_of_lt (sz_line h)
theorem int_eq {i j : Int} (h : V.int i = V.int j) : i = j := by cases h; rfl
theorem str_eq {i j : Str} (h : V.str i = V.str j) : i = j := by cases h; rfl
theorem cas_len : ∀ (t : T) (d : Nat) (j : Bool), Gd t true d j → t.len = t.keys.length := by
  intro t
  induction t with
  | cas k m r _ ih => intro d j h; simp [T.len, T.keys, ih d j h.2.2]
  | nil => intro d j h; rfl
  | _ => intro d j h; cases h.1
theorem dom1 {B l : Addr} {H H' : Hp} {o o' : HO} (g : Go B H H') (hl : H' l = some o') : ∀ c, H' c = none → upd H l o c = none := fun c hc => by
  rw [upd_ne (by rintro rfl; rw [hl] at hc; cases hc)]
  exact g.dom c hc
theorem take_mono {α : Type} {ys xs : List α} {i : Nat} (h : ys.Sublist (xs.take i)) : ys.Sublist (xs.take (i + 1)) :=
  h.trans (by rw [List.take_succ]; exact List.sublist_append_left _ _)
theorem args_m (B na : Addr) (e : Nat) (i : Bool) : [V.ref B, V.int (((e + 1 : Nat) : Int) - 1), V.bl i, V.ref na] = [V.ref B, V.int (e : Int), V.bl i, V.ref na] := by
  rw [show ((e + 1 : Nat) : Int) - 1 = (e : Int) by omega]
end Mw

namespace Mw
open PySem L2
/-! ### tests that come to a Bool, the heap as it is -/
theorem t_and {t u : TT} {σ : L2.St} {H : Hp} {Q : Bool → Hp → Prop} (a b : Bool) (ht : ∀ Q : Bool → Hp → Prop, Q a H → t σ H Q) (hu : a = true → ∀ Q : Bool → Hp → Prop, Q b H → u σ H Q) (q : Q (a && b) H) : tAnd t u σ H Q := by
  refine ht _ ?_
  cases a with
  | true => exact iteT (hu rfl _ q)
  | false => exact iteF q
theorem i_and {t u : TT} {tu tw : TS} {D : Ends} {σ : L2.St} {H : Hp} (a b : Bool) (ht : ∀ Q : Bool → Hp → Prop, Q a H → t σ H Q) (hu : a = true → ∀ Q : Bool → Hp → Prop, Q b H → u σ H Q) (q : if (a && b) = true then tu D σ H else tw D σ H) : tIfS (tAnd t u) tu tw D σ H :=
  t_and (Q := fun c H1 => if c = true then tu D σ H1 else tw D σ H1) a b ht hu q
/-! ### invariants of the builder -/
def MsgInv (B b na : Addr) (H H1 : Hp) (l : Addr) (d : Nat) (ins : Bool) (i : Nat) (σ : St) (H' : Hp) : Prop :=
  ∃ vs t o5 o6 o7 o8 o9, σ = [some (.ref B), some (.int d), some (.bl ins), some (.ref na), some (.ref l), o5, o6, o7, o8, o9, none] ∧ Go B H H' ∧ Box H' B b ∧ H' l = some (.lst vs) ∧ Nodes (fr H1 H') t vs ∧ Gd t false d ins ∧ t.sz ≤ i * nodeW d ∧ t.len ≤ i
theorem MsgInv.grow {B b na l p : Addr} {H H' H'' : Hp} {d : Nat} {ins : Bool} {i : Nat} {vs : List V} {t u : T} {o5 o6 o7 o8 o9 : Option V} {o : HO} (hl0 : H l = none) (hlB : l ≠ B) (hlb : l ≠ b) (hB : ∃ o, H B = some o)
    (g : Go B H H') (hl : H' l = some (.lst vs)) (hn : Nodes (fr (upd H l o) H') t vs) (hg : Gd t false d ins) (hs : t.sz ≤ i * nodeW d) (hlen : t.len ≤ i)
    (g2 : Go B H' H'') (hb : Box H'' B b) (hu : Nodes (fr (upd H l o) H'') u [.ref p]) (gu : Gd u false d ins) (su : u.sz ≤ nodeW d) (lu : u.len = 1) :
    MsgInv B b na H (upd H l o) l d ins (i + 1) [some (.ref B), some (.int d), some (.bl ins), some (.ref na), some (.ref l), o5, o6, o7, o8, o9, none] (upd H'' l (.lst (vs ++ [.ref p]))) := by
  obtain ⟨oB, hB⟩ := hB
  have hB1 : upd H l o B = some oB := by rw [upd_ne hlB.symm]; exact hB
  refine ⟨vs ++ [.ref p], t.app u, o5, o6, o7, o8, o9, rfl, (g.trans g2).mut hl0 _, hb.mut hlB hlb _, upd_same, ?_, Gd.app gu hg, ?_, ?_⟩
  · exact Nodes.same (fr_mut upd_same _) (Nodes.app hu (Nodes.same (fr_go hB1 g2) hn))
  · rw [T.app_sz, Nat.add_mul, Nat.one_mul]
    omega
  · rw [T.app_len]
    omega
def CasInv (B b l wl : Addr) (H H1 : Hp) (ks : List V) (e : Nat) (j : Bool) (i : Nat) (H' : Hp) : Prop :=
  ∃ vs t, Go B H H' ∧ Box H' B b ∧ H' wl = some (.lst ks) ∧ H' l = some (.lst vs) ∧ Nodes (fr H1 H') t vs ∧ Gd t true e j ∧ t.keys.Sublist (ks.take i) ∧ t.sz ≤ i * (1 + msgW e)
theorem CasInv.skip {B b l wl : Addr} {H H1 H' H'' : Hp} {ks : List V} {e : Nat} {j : Bool} {i : Nat} (h : CasInv B b l wl H H1 ks e j i H') (hlB : l ≠ B) (hwB : wl ≠ B) (hB : ∃ o, H1 B = some o) (g : Go B H' H'') (hb : Box H'' B b) : CasInv B b l wl H H1 ks e j i H'' := by
  obtain ⟨vs, t, g1, _, hw, hl, hn, hg, hk, hs⟩ := h
  obtain ⟨o, hB⟩ := hB
  exact ⟨vs, t, g1.trans g, hb, g.ext _ _ hwB hw, g.ext _ _ hlB hl, Nodes.same (fr_go hB g) hn, hg, hk, hs⟩
theorem CasInv.next {B b l wl : Addr} {H H1 H' : Hp} {ks : List V} {e : Nat} {j : Bool} {i : Nat} (h : CasInv B b l wl H H1 ks e j i H') : CasInv B b l wl H H1 ks e j (i + 1) H' := by
  obtain ⟨vs, t, g1, hb, hw, hl, hn, hg, hk, hs⟩ := h
  exact ⟨vs, t, g1, hb, hw, hl, hn, hg, take_mono hk, by rw [Nat.add_mul]; omega⟩
theorem CasInv.grow {B b l wl p r : Addr} {H H' H'' : Hp} {ks : List V} {e : Nat} {j : Bool} {i : Nat} {vs : List V} {t m : T} {k : V} {o : HO} (hl0 : H l = none) (hlB : l ≠ B) (hlb : l ≠ b) (hlw : wl ≠ l) (hwB : wl ≠ B) (hB : ∃ o, H B = some o)
    (g : Go B H H') (hl : H' l = some (.lst vs)) (hw : H' wl = some (.lst ks)) (hn : Nodes (fr (upd H l o) H') t vs) (hg : Gd t true e j) (hs : t.sz ≤ i * (1 + msgW e)) (hk : t.keys.Sublist (ks.take i)) (hki : ks[i]? = some k)
    (g2 : Go B H' H'') (hb : Box H'' B b) (hr : At (fr H' H'') r m) (gm : Gd m false e j) (sm : m.sz ≤ msgW e) (hp : H'' p = none) :
    CasInv B b l wl H (upd H l o) ks e j (i + 1) (upd (upd H'' p (.tup [k, .ref r])) l (.lst (vs ++ [.ref p]))) := by
  obtain ⟨oB, hB⟩ := hB
  have hB1 : upd H l o B = some oB := by rw [upd_ne hlB.symm]; exact hB
  have hl2 : H'' l = some (.lst vs) := g2.ext _ _ hlB hl
  have hw2 : H'' wl = some (.lst ks) := g2.ext _ _ hwB hw
  have hp1 : upd H l o p = none := dom1 (g.trans g2) hl2 p hp
  have s3 : Same H'' (upd H'' p (.tup [k, .ref r])) := same_new hp _
  have hu : Nodes (fr (upd H l o) (upd H'' p (.tup [k, .ref r]))) (.cas k m .nil) [.ref p] := by
    obtain ⟨ws, hr1, hr2⟩ := hr
    have sd : Same (fr H' H'') (fr (upd H l o) (upd H'' p (.tup [k, .ref r]))) := Same.trans (fr_dom (dom1 g hl)) (fr_same s3)
    exact ⟨p, [], r, ws, rfl, by rw [fr_new hp1]; exact upd_same, sd _ _ hr1, Nodes.same sd hr2, rfl⟩
  refine ⟨vs ++ [.ref p], t.app (.cas k m .nil), ((g.trans g2).trans (Go.new hp _)).mut hl0 _, (hb.new hp _).mut hlB hlb _, ?_, upd_same, ?_, ?_, ?_, ?_⟩
  · rw [upd_ne hlw]
    exact s3 _ _ hw2
  · exact Nodes.same (fr_mut upd_same _) (Nodes.app hu (Nodes.same (fr_same s3) (Nodes.same (fr_go hB1 g2) hn)))
  · exact Gd.app (show Gd (.cas k m .nil) true e j from ⟨rfl, gm, trivial⟩) hg
  · rw [T.app_keys k m .nil t e j hg, List.take_succ, hki]
    exact hk.append (List.Sublist.refl _)
  · rw [T.app_sz, Nat.add_mul, Nat.one_mul]
    have : (T.cas k m .nil).sz = 1 + m.sz := by simp [T.sz]
    omega
/-- a new node: a choice -/
def NodeAt (H H' : Hp) (p : Addr) (d : Nat) (i : Bool) : Prop := ∃ hd cs o, Nodes (fr H H') (.cho hd cs o .nil) [.ref p] ∧ Gd (.cho hd cs o .nil) false d i ∧ (T.cho hd cs o .nil).sz ≤ nodeW d
/-- the choice at the end -/
theorem cho_end {B l r p : Addr} {H H' H'' : Hp} {hd : List V} {e : Nat} {i j : Bool} {vs : List V} {t o : T} {ol : HO} (hl0 : H l = none) (hlB : l ≠ B) (hB : ∃ o, H B = some o)
    (g : Go B H H') (hl : H' l = some (.lst vs)) (hn : Nodes (fr (upd H l ol) H') t vs) (hg : Gd t true e j) (hs : t.sz ≤ 6 * (1 + msgW e))
    (g2 : Go B H' H'') (hr : At (fr H' H'') r o) (go : Gd o false e j) (so : o.sz ≤ msgW e) (hp : H'' p = none) (hh : HdOk hd i j t.keys) :
    NodeAt H (upd H'' p (.tup (hd ++ [.ref l, .ref r]))) p (e + 1) i := by
  obtain ⟨oB, hB⟩ := hB
  have hB1 : upd H l ol B = some oB := by rw [upd_ne hlB.symm]; exact hB
  have hl2 : H'' l = some (.lst vs) := g2.ext _ _ hlB hl
  have s3 : Same H'' (upd H'' p (.tup (hd ++ [.ref l, .ref r]))) := same_new hp _
  have hp0 : H p = none := (g.trans g2).dom p hp
  obtain ⟨ws, hr1, hr2⟩ := hr
  have sd : Same (fr H' H'') (fr H (upd H'' p (.tup (hd ++ [.ref l, .ref r])))) := Same.trans (fr_dom g.dom) (fr_same s3)
  refine ⟨hd, t, o, ⟨p, [], l, vs, r, ws, rfl, by rw [fr_new hp0]; exact upd_same, ?_, ?_, sd _ _ hr1, Nodes.same sd hr2, rfl⟩, ⟨rfl, ⟨e, j, rfl, hh, hg, go⟩, trivial⟩, ?_⟩
  · rw [fr_new hl0]
    exact s3 _ _ hl2
  · exact Nodes.same (Same.trans (fr_go hB1 g2) (Same.trans (fr_dom fun c hc => upd_none hc) (fr_same s3))) hn
  · show 1 + t.sz + o.sz + 0 ≤ 10 + 14 * nodeW e
    have e1 : msgW e = 2 * nodeW e := rfl
    rw [e1] at hs so
    omega
theorem NodeAt.mono {H0 H1 H : Hp} {p : Addr} {d : Nat} {i : Bool} (h : NodeAt H1 H p d i) (g : ∀ b, H1 b = none → H0 b = none) : ∃ hd cs o, Nodes (fr H0 H) (.cho hd cs o .nil) [.ref p] ∧ Gd (.cho hd cs o .nil) false d i ∧ (T.cho hd cs o .nil).sz ≤ nodeW d := by
  obtain ⟨hd, cs, o, h1, h2, h3⟩ := h
  exact ⟨hd, cs, o, Nodes.same (fr_dom g) h1, h2, h3⟩
section
variable {P : Program} {w : World} {K : PySem.W.Frag} {mg : Str → Option Value} {base : Heap}
theorem none_left {k : Nat} {f : Addr} {fd : FuncData} {ps : List Str} {sp : Sp} (no : ∀ vs H Q E, ¬ sp vs H Q E) : FnOk P w K mg base CX0 k f fd ps sp :=
  ⟨fun vs H Q E h => absurd h (no _ _ _ _), fun _ _ _ _ _ _ _ _ _ _ _ _ _ h => absurd h (no _ _ _ _)⟩
abbrev sMsg : Stmt := top 21
abbrev nMsg : List Str := ["box", "depth", "inside", "numbers", "found", "turn", "kind", "cases", "key", "name", "word"]
theorem scMsg : FnScope nMsg ["box", "depth", "inside", "numbers"] (defScope sMsg) := ⟨rfl, rfl, rfl, by decide +kernel, rfl, by decide +kernel, by decide +kernel⟩
/-- a new message of at most d levels -/
def spMsg (d : Nat) : Sp := fun vs H Q _ => ∃ (B b na : Addr) (i : Bool), vs = [.ref B, .int d, .bl i, .ref na] ∧ Box H B b ∧ H na = some (.lst (numsL.map V.str)) ∧
  ∀ r H' t, Go B H H' → Box H' B b → At (fr H H') r t → Gd t false d i → t.sz ≤ msgW d → t.len ≤ 2 → Q (.ref r) H'
def spMsgP (d : Nat) : Sp := fun vs H Q E => ∃ e, d = e + 1 ∧ spMsg e vs H Q E
end
end Mw

namespace Mw
open PySem L2
section
variable {P : Program} {w : World} {K : PySem.W.Frag} {mg : Str → Option Value} {base : Heap}
theorem na_ne {H : Hp} {B b na : Addr} (hb : Box H B b) (hna : H na = some (.lst (numsL.map V.str))) : na ≠ B := by
  rintro rfl
  obtain ⟨ds, i, h, _⟩ := hb
  rw [hna] at h
  have h' : V.str "m" = V.ref b := by
    have := congrArg (fun o => match o with | some (HO.lst (x :: _)) => x | _ => V.non) h
    exact this
  cases h'
abbrev rGt0 : R2 := rI0 fun i j => .bl (decide (j < i))
abbrev rSub0 : R2 := rI0 fun i j => .int (i - j)
theorem ok_msg {k d : Nat} {f fD fM : Addr} {fd fdD fdM : FuncData} (hk : 1 ≤ k) (F : Fun K "_law_message" "_law_message" sMsg f fd)
    (GD : FnOk P w K mg base CX0 1 fD fdD ["box", "many"] spDraw) (bD : Binds K fdD ["box", "many"] []) (kD : PySem.W.keepIn K (.ref fD) = true) (mD : mg "_law_draw" = some (.ref fD))
    (GM : FnOk P w K mg base CX0 k fM fdM ["box", "depth", "inside", "numbers"] (spMsgP d)) (bM : Binds K fdM ["box", "depth", "inside", "numbers"] []) (kM : PySem.W.keepIn K (.ref fM) = true) (mM : mg "_law_message" = some (.ref fM))
    (mr : mg "range" = none) (ml : mg "len" = none) (mi : mg "int" = none) : FnOk P w K mg base CX0 (k + 1) f fd ["box", "depth", "inside", "numbers"] (spMsg d) := by
  have GM1 : ∀ e, d = e + 1 → FnOk P w K mg base CX0 k fM fdM ["box", "depth", "inside", "numbers"] (spMsg e) := fun e he => GM.imp fun vs H Q E h => ⟨e, he, h⟩
  refine F.ok scMsg (fun vs H Q E h => ?_) (fun cdv A outer s H vs Q E hr h => ?_)
  · obtain ⟨B, b, na, i, rfl, _⟩ := h
    rfl
  obtain ⟨B, b, na, ins, rfl, hb, hna, q⟩ := h
  have nd := scMsg.nd
  have hr1 : Room 1 _ := hr.mono hk
  have naB := na_ne hb hna
  refine ⟨_, (pss_cons (ps_set (i := 4) nd rfl (.inl rfl) (pe_lst pa_nil))
      (pss_cons (ps_for PassesOwn.never rfl (pi_range1 rfl mr (pa_cons (pe_op op_add pe_int (pe_call GD hr1 rfl mD kD bD .nil pass0 (pa_cons (pv 0) (pa_cons pe_int pa_nil)))) pa_nil)) (pg_name (i := 5) nd rfl (.inl rfl)) (pss_cons (ps_set (i := 6) nd rfl (.inl rfl) (pe_call GD hr1 rfl mD kD bD .nil pass0 (pa_cons (pv 0) (pa_cons pe_int pa_nil))))
      (pss_one (ps_if (PW.pt (pw_and (pt_cmpR op_gt (pv 1) pe_int (nomark _)) (pw_and1 (pt_cmpR op_lt (pv 6) pe_int (nomark _))))) (pss_cons (ps_setLc (i := 7) (own := [("word", 10)]) (g := (gName 10))  (tt := tTest (tOp rGt0 (tCall spDraw [] E0 (tCons (tVar 0) (tCons (tC (.int 3)) tNil))) (tC (.int 0))))
            (te := tTup (tCons (tVar 10) (tCons (tCall (spMsgP d) [] E0 (tCons (tVar 0) (tCons (tOp rSub0 (tVar 1) (tC (.int 1))) (tCons (tVar 2) (tCons (tVar 3) tNil))))) tNil))) rfl nd rfl rfl (sw_true rfl rfl rfl (by decide +kernel)) (pi_list (pe_lst (pa_cons pe_str (pa_cons pe_str pa_nil)))) (blkOk_by (N := nMsg) (sc := defScope sMsg) (by decide +kernel)) (fun _ _ _ _ _ => (pg_name (i := 10) nd rfl (.inl rfl))) (fun _ _ _ _ _ => (pts_one (pt_cmpR op_gt (pe_call GD hr1 rfl mD kD bD .nil pass0 (pa_cons (pv 0) (pa_cons pe_int pa_nil))) pe_int (nomark _)))) (fun _ _ _ _ _ => (pe_tup (pa_cons (pv 10) (pa_cons (pe_call GM hr rfl mM kM bM .nil pass0 (pa_cons (pv 0) (pa_cons (pe_op op_sub (pv 1) pe_int) (pa_cons (pv 2) (pa_cons (pv 3) pa_nil))))) pa_nil)))))
      (pss_one (ps_expr (pe_bm PySem.F.plainAttrs_list PySem.F.slot_list_append PySem.F.type_list_append mt_append (pv 4) (pa_cons (pe_tup (pa_cons pe_str (pa_cons pe_str (pa_cons (pv 7) (pa_cons (pe_call GM hr rfl mM kM bM .nil pass0 (pa_cons (pv 0) (pa_cons (pe_op op_sub (pv 1) pe_int) (pa_cons (pv 2) (pa_cons (pv 3) pa_nil))))) pa_nil))))) pa_nil))))) (pss_one (ps_if (PW.pt (pw_and (pt_cmpR op_gt (pv 1) pe_int (nomark _)) (pw_and1 (pt_cmpR op_lt (pv 6) pe_int (nomark _))))) (pss_cons (ps_set (i := 7) nd rfl (.inl rfl) (pe_lst pa_nil))
      (pss_cons (ps_for PassesOwn.never rfl (pi_list (pe_lst (pa_cons pe_int (pa_cons pe_int (pa_cons pe_int (pa_cons pe_str (pa_cons pe_str (pa_cons pe_str pa_nil)))))))) (pg_name (i := 8) nd rfl (.inl rfl)) (pss_one (ps_if (pt_cmpR op_eq (pe_call GD hr1 rfl mD kD bD .nil pass0 (pa_cons (pv 0) (pa_cons pe_int pa_nil))) pe_int (nomark _)) (pss_one (ps_expr (pe_bm PySem.F.plainAttrs_list PySem.F.slot_list_append PySem.F.type_list_append mt_append (pv 7) (pa_cons (pe_tup (pa_cons (pv 8) (pa_cons (pe_call GM hr rfl mM kM bM .nil pass0 (pa_cons (pv 0) (pa_cons (pe_op op_sub (pv 1) pe_int) (pa_cons pe_bl (pa_cons (pv 3) pa_nil))))) pa_nil))) pa_nil)))) pss_nil)))
      (pss_cons (ps_set (i := 9) nd rfl (.inl rfl) (pe_ix ix_list (pv 3) (pe_op op_mod (pe_callTy call_int1 (by rfl) mi (by decide +kernel) (pa_cons (pe_call GD hr1 rfl mD kD bD .nil pass0 (pa_cons (pv 0) (pa_cons pe_int pa_nil))) pa_nil)) (pe_callB call_len_seq (by rfl) ml PySem.boot_len (pa_cons (pv 3) pa_nil))) (fun _ _ => rfl)))
      (pss_one (ps_expr (pe_bm PySem.F.plainAttrs_list PySem.F.slot_list_append PySem.F.type_list_append mt_append (pv 4) (pa_cons (pe_tup (pa_cons pe_str (pa_cons (pv 9) (pa_cons (pe_ix ix_list (pe_lst (pa_cons pe_int (pa_cons pe_int (pa_cons pe_int (pa_cons pe_int pa_nil))))) (pe_call GD hr1 rfl mD kD bD .nil pass0 (pa_cons (pv 0) (pa_cons pe_int pa_nil))) (fun _ _ => rfl)) (pa_cons (pv 7) (pa_cons (pe_call GM hr rfl mM kM bM .nil pass0 (pa_cons (pv 0) (pa_cons (pe_op op_sub (pv 1) pe_int) (pa_cons pe_bl (pa_cons (pv 3) pa_nil))))) pa_nil)))))) pa_nil))))))) (pss_one (ps_if (PW.pt (pw_and (pt_cmpR op_eq (pv 6) pe_int (nomark _)) (pw_and1 (pt_val (pv 2))))) (pss_one (ps_expr (pe_bm PySem.F.plainAttrs_list PySem.F.slot_list_append PySem.F.type_list_append mt_append (pv 4) (pa_cons (pe_tup (pa_cons pe_str pa_nil)) pa_nil)))) (pss_one (ps_if (pt_cmpR op_eq (pv 6) pe_int (nomark _)) (pss_one (ps_expr (pe_bm PySem.F.plainAttrs_list PySem.F.slot_list_append PySem.F.type_list_append mt_append (pv 4) (pa_cons (pe_tup (pa_cons pe_str (pa_cons (pe_ix ix_list (pe_lst (pa_cons pe_str (pa_cons pe_str (pa_cons pe_str pa_nil)))) (pe_call GD hr1 rfl mD kD bD .nil pass0 (pa_cons (pv 0) (pa_cons pe_int pa_nil))) (fun _ _ => rfl)) pa_nil))) pa_nil)))) (pss_one (ps_expr (pe_bm PySem.F.plainAttrs_list PySem.F.slot_list_append PySem.F.type_list_append mt_append (pv 4) (pa_cons (pe_tup (pa_cons pe_str (pa_cons (pe_ix ix_list (pe_lst (pa_cons pe_str (pa_cons pe_str (pa_cons pe_str (pa_cons pe_str (pa_cons pe_str pa_nil)))))) (pe_call GD hr1 rfl mD kD bD .nil pass0 (pa_cons (pv 0) (pa_cons pe_int pa_nil))) (fun _ _ => rfl)) pa_nil))) pa_nil))))))))))))))
      (pss_one (ps_ret (pv 4))))), ?_⟩
  refine ⟨Nat.zero_le _, fun l hl => ?_⟩
  have hlB := hb.neB hl
  have hlb := hb.neD hl
  have hBs := hb.isB
  have nal : na ≠ l := ne_of_none hna hl
  refine ⟨_, rfl, B, b, 2, rfl, by decide, hb.new hl _, fun z H2 z0 z2 g2 hb2 => ⟨_, _, rfl, rfl, ?_⟩⟩
  refine ⟨1 + z, rfl, by omega, by omega, for_range (lo := 0) (n := (1 + z).toNat) (MsgInv B b na H (upd H l (.lst [])) l d ins) ⟨[], .nil, none, none, none, none, none, rfl, (Go.new hl _).trans g2, hb2, g2.ext _ _ hlB upd_same, rfl, trivial, Nat.zero_le _, Nat.le_refl _⟩ ?_ ?_⟩
  rotate_left
  · rintro σ H' ⟨vs, t, o5, o6, o7, o8, o9, rfl, g, hb', hl', hn, hg, hs, hlen⟩
    refine ⟨_, rfl, q l H' t g hb' ⟨vs, ?_, ?_⟩ hg ?_ (by omega)⟩
    · rw [fr_new hl]
      exact hl'
    · exact Nodes.same (fr_dom fun c hc => upd_none hc) hn
    · have : (1 + z).toNat * nodeW d ≤ 2 * nodeW d := Nat.mul_le_mul_right _ (by omega)
      exact Nat.le_trans hs this
  rintro i σ H' hi ⟨vs, t, o5, o6, o7, o8, o9, rfl, g, hb', hl', hn, hg, hs, hlen⟩
  have hvs : vs.length < 1000 := by
    rw [hn.length]
    omega
  refine ⟨_, rfl, B, b, 8, rfl, by decide, hb', fun kind H3 k0 k8 g3 hb3 => ?_⟩
  have hl3 : H3 l = some (.lst vs) := g3.ext _ _ hlB hl'
  have g03 := g.trans g3
  have hna3 : H3 na = some (.lst (numsL.map V.str)) := g03.ext _ _ naB hna
  have hB1 : ∃ o, upd H l (HO.lst []) B = some o := by
    obtain ⟨o, h⟩ := hBs
    exact ⟨o, by rw [upd_ne hlB.symm]; exact h⟩
  have hn3 : Nodes (fr (upd H l (.lst [])) H3) t vs := by
    obtain ⟨o, h⟩ := hB1
    exact Nodes.same (fr_go h g3) hn
  have hBs3 := hb3.isB
  dsimp only [gName]
  refine i_and (decide (0 < (d : Int))) (decide (kind < 2)) (fun Q q => ⟨_, rfl, _, _, rfl, rfl, _, rfl, q⟩) (fun _ Q q => ⟨_, rfl, _, _, rfl, rfl, _, rfl, q⟩) ?_
  refine ite2 (fun c => ?_) (fun c => i_and (decide (0 < (d : Int))) (decide (kind < 5)) (fun Q q => ⟨_, rfl, _, _, rfl, rfl, _, rfl, q⟩) (fun _ Q q => ⟨_, rfl, _, _, rfl, rfl, _, rfl, q⟩) (ite2 (fun c2 => ?_) (fun c2 => i_and (decide (V.int kind = V.int 5)) ins (fun Q q => ⟨_, rfl, rfl, _, rfl, q⟩) (fun _ Q q => ⟨_, rfl, _, rfl, q⟩) (ite2 (fun c3 => ?_) (fun c3 => ⟨_, rfl, rfl, _, rfl, ite2 (fun c4 => ?_) (fun c4 => ?_)⟩)))))
  · -- a select
    obtain ⟨e, rfl⟩ : ∃ e, d = e + 1 := by
      cases d with
      | zero => exact absurd c (by simp)
      | succ e => exact ⟨e, rfl⟩
    refine ⟨by show 2 ≤ sizeLine; decide, fun wl hwl => ?_⟩
    generalize hH4 : upd H3 wl (.lst skeys) = H4
    have hw4 : H4 wl = some (.lst skeys) := by rw [← hH4]; exact upd_same
    have g34 : Go B H3 H4 := by rw [← hH4]; exact Go.new hwl _
    have b4 : Box H4 B b := by rw [← hH4]; exact hb3.new hwl _
    have d43 : ∀ c, H4 c = none → H3 c = none := g34.dom
    have wlB := hb3.neB hwl
    rw [show upd H3 wl (HO.lst [V.str "he", V.str "she"]) = H4 from hH4]
    refine ⟨wl, rfl, ⟨_, SqL.of hw4⟩, fun D hD => ?_⟩
    have DB := b4.neB hD
    have Db := b4.neD hD
    have wD : wl ≠ D := ne_of_none hw4 hD
    have hB4 := b4.isB
    have hB4' : ∃ o, upd H4 D (HO.lst []) B = some o := by
      obtain ⟨o, h⟩ := hB4
      exact ⟨o, by rw [upd_ne DB.symm]; exact h⟩
    refine lc_list (K := K) (a := wl) (xs := skeys) (fun i H' => CasInv B b D wl H4 (upd H4 D (.lst [])) skeys e ins i H')
      ⟨[], .nil, Go.new hD _, b4.new hD _, by rw [upd_ne wD]; exact hw4, upd_same, rfl, trivial, List.nil_sublist _, Nat.zero_le _⟩ (fun i H' _ ⟨_, _, _, _, hw, _⟩ => SqL.of hw) ?_ ?_
    · rintro j x H5 hx I
      obtain ⟨vs0, t0, _, hbI, _⟩ := id I
      refine ⟨rfl, _, rfl, B, b, 3, rfl, by decide, hbI, fun z H6 z0 z3 g6 b6 => ⟨_, _, rfl, rfl, _, rfl, ?_⟩⟩
      have I6 := I.skip DB wlB hB4' g6 b6
      refine ite2 (fun c => ?_) (fun c => I6.next)
      obtain ⟨cvs, ct, g1, _, hw, hl6, hcn, hcg, hks, hcs⟩ := I6
      have hna6 := g1.ext _ _ naB (g34.ext _ _ naB hna3)
      refine ⟨_, rfl, _, rfl, _, rfl, _, _, rfl, rfl, _, rfl, _, rfl, e, rfl, B, b, na, ins, args_m B na e ins, b6, hna6, fun r H7 m g7 b7 hr7 gm sm _ => ⟨by show 2 ≤ sizeLine; decide, fun p hp => ?_⟩⟩
      have hD7 : H7 D = some (.lst cvs) := g7.ext _ _ DB hl6
      refine ⟨cvs, by rw [upd_ne (ne_of_none hD7 hp)]; exact hD7, sz_line ?_, CasInv.grow hD DB Db wD wlB hB4 g1 hl6 hw hcn hcg hcs hks hx g7 b7 hr7 gm sm hp⟩
      rw [hcn.length, cas_len ct e ins hcg]
      have := hks.length_le
      rw [List.length_take] at this
      have : skeys.length = 2 := rfl
      omega
    · rintro H5 ⟨cvs, ct, g1, b5, hw, hl5, hcn, hcg, hks, hcs⟩
      have g35 := g34.trans g1
      have hl5' := g35.ext _ _ hlB hl3
      have sk : ct.keys.Sublist skeys := by
        have : skeys.take skeys.length = skeys := List.take_length
        rw [this] at hks
        exact hks
      refine ⟨_, rfl, .inl ⟨rfl, _, SqL.of hl5'⟩, _, rfl, _, rfl, _, rfl, _, _, rfl, rfl, _, rfl, _, rfl, e, rfl, B, b, na, ins, args_m B na e ins, b5, g35.ext _ _ naB hna3, fun r H6 o g6 b6 hr6 go so _ => ⟨by show 4 ≤ sizeLine; decide, fun p hp => ?_⟩⟩
      have N := (cho_end (hd := [.str "select", .str "w"]) (i := ins) hD DB hB4 g1 hl5 hcn hcg (Nat.le_trans hcs (Nat.mul_le_mul_right _ (by decide))) g6 hr6 go so hp (.sel sk)).mono (H0 := upd H l (.lst [])) fun c hc => dom1 g03 hl3 c (d43 c hc)
      obtain ⟨hd', cs', o', n1, n2, n3⟩ := N
      have hl6 : H6 l = some (.lst vs) := g6.ext _ _ hlB hl5'
      refine ⟨l, _, _, rfl, rfl, (by rw [upd_ne (ne_of_none hl6 hp)]; exact hl6), sz_line (by omega), ?_⟩
      exact MsgInv.grow hl hlB hlb hBs g03 hl3 hn3 hg hs hlen ((g35.trans g6).trans (Go.new hp _)) (b6.new hp _) n1 n2 n3 rfl
  · -- a plural
    obtain ⟨e, rfl⟩ : ∃ e, d = e + 1 := by
      cases d with
      | zero => exact absurd c2 (by simp)
      | succ e => exact ⟨e, rfl⟩
    refine ⟨Nat.zero_le _, fun l2 hl2 => ⟨by show 6 ≤ sizeLine; decide, fun wl hwl => ?_⟩⟩
    have l2B := hb3.neB hl2
    have l2b := hb3.neD hl2
    have b4 := hb3.new hl2 (.lst [])
    have wlB := b4.neB hwl
    have wl2 : wl ≠ l2 := (ne_of_none upd_same hwl).symm
    have hB3' : ∃ o, upd H3 l2 (HO.lst []) B = some o := by
      obtain ⟨o, h⟩ := hBs3
      exact ⟨o, by rw [upd_ne l2B.symm]; exact h⟩
    refine ⟨wl, rfl, ⟨_, SqL.of upd_same⟩, for_list (K := K) (a := wl) (xs := pkeys) (fun j σ H' => ∃ o8, σ = [some (.ref B), some (.int ((e + 1 : Nat) : Int)), some (.bl ins), some (.ref na), some (.ref l), some (.int (0 + i)), some (.int kind), some (.ref l2), o8, o9, none] ∧ CasInv B b l2 wl H3 (upd H3 l2 (.lst [])) pkeys e true j H')
      ⟨o8, rfl, [], .nil, (Go.new hl2 _).trans (Go.new hwl _), b4.new hwl _, upd_same, by rw [upd_ne wl2.symm]; exact upd_same, rfl, trivial, List.nil_sublist _, Nat.zero_le _⟩
      (fun i σ H' _ ⟨_, _, _, _, _, _, hw, _⟩ => SqL.of hw) ?_ ?_⟩
    · rintro j x σ H5 hx ⟨o8', rfl, I⟩
      obtain ⟨vs0, t0, _, hbI, _⟩ := id I
      refine ⟨_, rfl, B, b, 4, rfl, by decide, hbI, fun z H6 z0 z3 g6 b6 => ⟨rfl, _, rfl, ?_⟩⟩
      have I6 := I.skip l2B wlB hB3' g6 b6
      refine ite2 (fun c => ?_) (fun c => ⟨_, rfl, I6.next⟩)
      obtain ⟨cvs, ct, g1, _, hw, hl6, hcn, hcg, hks, hcs⟩ := I6
      have hj : j < 6 := (List.getElem?_eq_some_iff.mp hx).1
      have hcl : cvs.length < 1000 := by
        rw [hcn.length, cas_len ct e true hcg]
        have := hks.length_le
        rw [List.length_take] at this
        omega
      refine ⟨_, rfl, .inl ⟨rfl, _, SqL.of hl6⟩, _, rfl, _, rfl, _, rfl, _, _, rfl, rfl, _, rfl, e, rfl, B, b, na, true, args_m B na e true, b6, g1.ext _ _ naB hna3, fun r H7 m g7 b7 hr7 gm sm _ => ⟨by show 2 ≤ sizeLine; decide, fun p hp => ?_⟩⟩
      have hl7 : H7 l2 = some (.lst cvs) := g7.ext _ _ l2B hl6
      refine ⟨l2, _, _, rfl, rfl, (by rw [upd_ne (ne_of_none hl7 hp)]; exact hl7), sz_line (by omega), ?_⟩
      exact ⟨_, rfl, CasInv.grow hl2 l2B l2b wl2 wlB hBs3 g1 hl6 hw hcn hcg hcs hks hx g7 b7 hr7 gm sm hp⟩
    · rintro σ H5 ⟨o8', rfl, cvs, ct, g1, b5, hw, hl5, hcn, hcg, hks, hcs⟩
      have sk : ct.keys.Sublist pkeys := by
        have : pkeys.take pkeys.length = pkeys := List.take_length
        rw [this] at hks
        exact hks
      have hl5' := g1.ext _ _ hlB hl3
      have hna5 := g1.ext _ _ naB hna3
      refine ⟨_, rfl, _, rfl, B, b, 900, rfl, by decide, b5, fun z H6 z0 z9 g6 b6 => .inl ⟨_, rfl, ?_⟩⟩
      have hna6 := g6.ext _ _ naB hna5
      refine ⟨_, rfl, na, _, rfl, .inl (SqL.of hna6), _, _, rfl, rfl, (by show (0 : Int) < ((2 : Nat) : Int); decide), ?_⟩
      obtain ⟨nm, hnm, hnt⟩ := pick (l := numsL) (g := V.str) (z := z % 2) (Int.emod_nonneg _ (by decide)) (Int.emod_lt_of_pos _ (by decide))
      refine ⟨na, _, z % 2, .str nm, rfl, rfl, SqL.of hna6, hnt, ?_⟩
      have hl6' := g6.ext _ _ hlB hl5'
      refine ⟨_, rfl, .inl ⟨rfl, _, SqL.of hl6'⟩, _, rfl, by decide, fun ml hml => ?_⟩
      have mlB := b6.neB hml
      refine ⟨_, rfl, B, b, 4, rfl, by decide, b6.new hml _, fun z' H7 z0' z9' g7 b7 => ?_⟩
      obtain ⟨y, hy, hyt⟩ := pick (l := ([0, 0, 1, 2] : List Int)) (g := V.int) z0' (by show z' < ((4 : Nat) : Int); omega)
      refine ⟨ml, _, z', .int y, rfl, rfl, SqL.of (g7.ext _ _ mlB upd_same), hyt, ?_⟩
      have g57 : Go B H5 H7 := (g6.trans (Go.new hml _)).trans g7
      have g17 := g1.trans g57
      refine ⟨_, rfl, _, rfl, _, rfl, _, _, rfl, rfl, _, rfl, e, rfl, B, b, na, true, args_m B na e true, b7, g17.ext _ _ naB hna3, fun r H8 o g8 b8 hr8 go so _ => ⟨by show 5 ≤ sizeLine; decide, fun p hp => ?_⟩⟩
      have hl7 : H7 l2 = some (.lst cvs) := g57.ext _ _ l2B hl5
      have hcn7 : Nodes (fr (upd H3 l2 (.lst [])) H7) ct cvs := by
        obtain ⟨o, h⟩ := hB3'
        exact Nodes.same (fr_go h g57) hcn
      have N := (cho_end (hd := [.str "plural", .str nm, .int y]) (i := ins) hl2 l2B hBs3 g17 hl7 hcn7 hcg hcs g8 hr8 go so hp (.plu hnm (by simpa using hy) sk)).mono (H0 := upd H l (.lst [])) fun c hc => dom1 g03 hl3 c hc
      obtain ⟨hd', cs', o', n1, n2, n3⟩ := N
      have hl8 : H8 l = some (.lst vs) := (g17.trans g8).ext _ _ hlB hl3
      refine ⟨l, _, _, rfl, rfl, (by rw [upd_ne (ne_of_none hl8 hp)]; exact hl8), sz_line (by omega), ?_⟩
      exact MsgInv.grow hl hlB hlb hBs g03 hl3 hn3 hg hs hlen ((g17.trans g8).trans (Go.new hp _)) (b8.new hp _) n1 n2 n3 rfl
  · -- number
    have hi : ins = true := by
      cases ins with
      | true => rfl
      | false => exact absurd c3 (by simp)
    refine ⟨_, rfl, .inl ⟨rfl, _, SqL.of hl3⟩, by show 1 ≤ sizeLine; decide, fun p hp => ?_⟩
    have hp1 : upd H l (HO.lst []) p = none := dom1 g03 hl3 p hp
    refine ⟨l, _, _, rfl, rfl, (by rw [upd_ne (ne_of_none hl3 hp)]; exact hl3), sz_line (by omega), ?_⟩
    exact MsgInv.grow (u := .num .nil) hl hlB hlb hBs g03 hl3 hn3 hg hs hlen (Go.new hp _) (hb3.new hp _) ⟨p, [], rfl, by rw [fr_new hp1]; exact upd_same, rfl⟩ ⟨rfl, hi, trivial⟩
      (by have := nodeW_ge d; show 1 + 0 ≤ _; omega) rfl
  · -- show
    refine ⟨_, rfl, .inl ⟨rfl, _, SqL.of hl3⟩, by decide, fun m hm => ?_⟩
    have hmB := hb3.neB hm
    refine ⟨_, rfl, B, b, 3, rfl, by decide, hb3.new hm _, fun z' H4 z0' z4' g4 hb4 => ?_⟩
    obtain ⟨x, hx, ha⟩ := pick (l := shows3) (g := V.str) z0' (by show z' < ((3 : Nat) : Int); omega)
    refine ⟨m, _, z', .str x, rfl, rfl, SqL.of (g4.ext _ _ hmB upd_same), ha, by show 2 ≤ sizeLine; decide, fun p hp => ?_⟩
    have g34 : Go B H3 H4 := (Go.new hm _).trans g4
    have hl4 : H4 l = some (.lst vs) := g34.ext _ _ hlB hl3
    have hp1 : upd H l (HO.lst []) p = none := dom1 (g03.trans g34) hl4 p hp
    refine ⟨l, _, _, rfl, rfl, (by rw [upd_ne (ne_of_none hl4 hp)]; exact hl4), sz_line (by omega), ?_⟩
    exact MsgInv.grow (u := .shw x .nil) hl hlB hlb hBs g03 hl3 hn3 hg hs hlen (g34.trans (Go.new hp _)) (hb4.new hp _) ⟨p, [], rfl, by rw [fr_new hp1]; exact upd_same, rfl⟩ ⟨rfl, hx, trivial⟩
      (by have := nodeW_ge d; show 1 + 0 ≤ _; omega) rfl
  · -- text
    refine ⟨_, rfl, .inl ⟨rfl, _, SqL.of hl3⟩, by decide, fun m hm => ?_⟩
    have hmB := hb3.neB hm
    refine ⟨_, rfl, B, b, 5, rfl, by decide, hb3.new hm _, fun z' H4 z0' z4' g4 hb4 => ?_⟩
    obtain ⟨x, hx, ha⟩ := pick (l := menu) (g := V.str) z0' (by show z' < ((5 : Nat) : Int); omega)
    refine ⟨m, _, z', .str x, rfl, rfl, SqL.of (g4.ext _ _ hmB upd_same), ha, by show 2 ≤ sizeLine; decide, fun p hp => ?_⟩
    have g34 : Go B H3 H4 := (Go.new hm _).trans g4
    have hl4 : H4 l = some (.lst vs) := g34.ext _ _ hlB hl3
    have hp1 : upd H l (HO.lst []) p = none := dom1 (g03.trans g34) hl4 p hp
    refine ⟨l, _, _, rfl, rfl, (by rw [upd_ne (ne_of_none hl4 hp)]; exact hl4), sz_line (by omega), ?_⟩
    exact MsgInv.grow (u := .text x .nil) hl hlB hlb hBs g03 hl3 hn3 hg hs hlen (g34.trans (Go.new hp _)) (hb4.new hp _) ⟨p, [], rfl, by rw [fr_new hp1]; exact upd_same, rfl⟩ ⟨rfl, hx, trivial⟩
      (by have := nodeW_ge d; have := menu_len hx; show 1 + x.length + 0 ≤ _; omega) rfl
theorem both {fD fM : Addr} {fdD fdM : FuncData}
    (GD : FnOk P w K mg base CX0 1 fD fdD ["box", "many"] spDraw) (bD : Binds K fdD ["box", "many"] []) (kD : PySem.W.keepIn K (.ref fD) = true) (mD : mg "_law_draw" = some (.ref fD))
    (FM : Fun K "_law_message" "_law_message" sMsg fM fdM) (bM : Binds K fdM ["box", "depth", "inside", "numbers"] []) (mM : mg "_law_message" = some (.ref fM)) (mr : mg "range" = none) (ml : mg "len" = none) (mi : mg "int" = none) :
    ∀ d, FnOk P w K mg base CX0 (d + 2) fM fdM ["box", "depth", "inside", "numbers"] (spMsg d)
  | 0 => ok_msg (k := 1) (Nat.le_refl _) FM GD bD kD mD ((none_left fun vs H Q E ⟨_, e, _⟩ => by omega)) bM FM.kp mM mr ml mi
  | d + 1 => ok_msg (k := d + 2) (by omega) FM GD bD kD mD ((both GD bD kD mD FM bM mM mr ml mi d).imp fun vs H Q E ⟨e, he, h⟩ => by
      cases he
      exact h) bM FM.kp mM mr ml mi
end
end Mw

namespace Mw
open PySem L2
/-! ### nodes one by one -/
def HdW (hd : List V) : Prop := (∃ n, hd = [.str "select", .str n]) ∨ ∃ n off, hd = [.str "plural", .str n, .int off]
def KeyW (k : V) : Prop := (∃ s, k = .str s) ∨ ∃ i, k = .int i
/-- what any message is, and any chain of cases (c) -/
def Wf : T → Bool → Prop
  | .nil, _ => True
  | .text _ r, c => c = false ∧ Wf r c
  | .shw _ r, c => c = false ∧ Wf r c
  | .num r, c => c = false ∧ Wf r c
  | .cho hd cs o r, c => c = false ∧ HdW hd ∧ Wf cs true ∧ Wf o false ∧ Wf r c
  | .cas k m r, c => c = true ∧ KeyW k ∧ Wf m false ∧ Wf r c
def T.single : T → Prop
  | .nil => False
  | .text _ r => r = .nil
  | .shw _ r => r = .nil
  | .num r => r = .nil
  | .cho _ _ _ r => r = .nil
  | .cas _ _ r => r = .nil
def T.isCho : T → Bool
  | .cho _ _ _ _ => true
  | _ => false
def T.isText : T → Bool
  | .text _ _ => true
  | _ => false
def T.nodes : T → List T
  | .nil => []
  | .text s r => .text s .nil :: r.nodes
  | .shw n r => .shw n .nil :: r.nodes
  | .num r => .num .nil :: r.nodes
  | .cho hd cs o r => .cho hd cs o .nil :: r.nodes
  | .cas k m r => .cas k m .nil :: r.nodes
def T.msgs : T → List T
  | .cas _ m r => m :: r.msgs
  | _ => []
def T.inner : T → List T
  | .cho _ cs o _ => cs.msgs ++ [o]
  | _ => []
def Ns (H : Hp) : List T → List V → Prop
  | [], vs => vs = []
  | u :: us, vs => ∃ v ws, vs = v :: ws ∧ Nodes H u [v] ∧ Ns H us ws
def Ats (H : Hp) : List T → List V → Prop
  | [], vs => vs = []
  | t :: ts, vs => ∃ a ws, vs = .ref a :: ws ∧ At H a t ∧ Ats H ts ws
theorem At.same {H H' : Hp} {a : Addr} {t : T} (s : Same H H') (h : At H a t) : At H' a t := by
  obtain ⟨vs, h1, h2⟩ := h
  exact ⟨vs, s _ _ h1, Nodes.same s h2⟩
theorem Ns.same {H H' : Hp} (s : Same H H') : ∀ {us : List T} {vs : List V}, Ns H us vs → Ns H' us vs
  | [], _, h => h
  | u :: us, _, h => by
    obtain ⟨v, ws, rfl, h1, h2⟩ := h
    exact ⟨v, ws, rfl, Nodes.same s h1, Ns.same s h2⟩
theorem Ats.same {H H' : Hp} (s : Same H H') : ∀ {us : List T} {vs : List V}, Ats H us vs → Ats H' us vs
  | [], _, h => h
  | u :: us, _, h => by
    obtain ⟨v, ws, rfl, h1, h2⟩ := h
    exact ⟨v, ws, rfl, h1.same s, Ats.same s h2⟩
theorem Ns.length {H : Hp} : ∀ {us : List T} {vs : List V}, Ns H us vs → vs.length = us.length
  | [], _, h => by rw [show _ = [] from h]; rfl
  | u :: us, _, h => by
    obtain ⟨v, ws, rfl, _, h2⟩ := h
    exact congrArg (· + 1) h2.length
theorem Ats.length {H : Hp} : ∀ {us : List T} {vs : List V}, Ats H us vs → vs.length = us.length
  | [], _, h => by rw [show _ = [] from h]; rfl
  | u :: us, _, h => by
    obtain ⟨v, ws, rfl, _, h2⟩ := h
    exact congrArg (· + 1) h2.length
theorem Ns.append {H : Hp} {us' : List T} {vs' : List V} (h' : Ns H us' vs') : ∀ {us : List T} {vs : List V}, Ns H us vs → Ns H (us ++ us') (vs ++ vs')
  | [], _, h => by rw [show _ = [] from h]; exact h'
  | u :: us, _, h => by
    obtain ⟨v, ws, rfl, h1, h2⟩ := h
    exact ⟨v, ws ++ vs', rfl, h1, Ns.append h' h2⟩
theorem Ats.append {H : Hp} {us' : List T} {vs' : List V} (h' : Ats H us' vs') : ∀ {us : List T} {vs : List V}, Ats H us vs → Ats H (us ++ us') (vs ++ vs')
  | [], _, h => by rw [show _ = [] from h]; exact h'
  | u :: us, _, h => by
    obtain ⟨v, ws, rfl, h1, h2⟩ := h
    exact ⟨v, ws ++ vs', rfl, h1, Ats.append h' h2⟩
theorem Ns.get {H : Hp} : ∀ {us : List T} {vs : List V} {i : Nat} {v : V}, Ns H us vs → vs[i]? = some v → ∃ u, us[i]? = some u ∧ Nodes H u [v]
  | [], _, i, v, h, e => by
    rw [show _ = [] from h] at e
    simp at e
  | u :: us, _, 0, v, h, e => by
    obtain ⟨x, ws, rfl, h1, h2⟩ := h
    have : x = v := by simpa using e
    subst this
    exact ⟨u, rfl, h1⟩
  | u :: us, _, i + 1, v, h, e => by
    obtain ⟨x, ws, rfl, h1, h2⟩ := h
    obtain ⟨u', e1, e2⟩ := Ns.get (i := i) h2 (by simpa using e)
    exact ⟨u', by simpa using e1, e2⟩
theorem Ats.get {H : Hp} : ∀ {us : List T} {vs : List V} {i : Nat} {v : V}, Ats H us vs → vs[i]? = some v → ∃ u a, us[i]? = some u ∧ v = .ref a ∧ At H a u
  | [], _, i, v, h, e => by
    rw [show _ = [] from h] at e
    simp at e
  | u :: us, _, 0, v, h, e => by
    obtain ⟨x, ws, rfl, h1, h2⟩ := h
    have : V.ref x = v := by simpa using e
    subst this
    exact ⟨u, x, rfl, rfl, h1⟩
  | u :: us, _, i + 1, v, h, e => by
    obtain ⟨x, ws, rfl, h1, h2⟩ := h
    obtain ⟨u', a, e1, e2⟩ := Ats.get (i := i) h2 (by simpa using e)
    exact ⟨u', a, by simpa using e1, e2⟩
theorem Nodes.ns {H : Hp} : ∀ {t : T} {vs : List V}, Nodes H t vs → Ns H t.nodes vs
  | .nil, _, h => h
  | .text s r, _, h => by
    obtain ⟨p, ws, rfl, hp, hr⟩ := h
    exact ⟨_, ws, rfl, ⟨p, [], rfl, hp, rfl⟩, Nodes.ns hr⟩
  | .shw n r, _, h => by
    obtain ⟨p, ws, rfl, hp, hr⟩ := h
    exact ⟨_, ws, rfl, ⟨p, [], rfl, hp, rfl⟩, Nodes.ns hr⟩
  | .num r, _, h => by
    obtain ⟨p, ws, rfl, hp, hr⟩ := h
    exact ⟨_, ws, rfl, ⟨p, [], rfl, hp, rfl⟩, Nodes.ns hr⟩
  | .cho hd cs o r, _, h => by
    obtain ⟨p, ws, ca, cvs, oa, ovs, rfl, hp, hc, hcs, ho, hos, hr⟩ := h
    exact ⟨_, ws, rfl, ⟨p, [], ca, cvs, oa, ovs, rfl, hp, hc, hcs, ho, hos, rfl⟩, Nodes.ns hr⟩
  | .cas k m r, _, h => by
    obtain ⟨p, ws, ma, mvs, rfl, hp, hm, hms, hr⟩ := h
    exact ⟨_, ws, rfl, ⟨p, [], ma, mvs, rfl, hp, hm, hms, rfl⟩, Nodes.ns hr⟩
theorem Ns.nodes {H : Hp} : ∀ {t : T} {vs : List V}, Ns H t.nodes vs → Nodes H t vs
  | .nil, _, h => h
  | .text s r, _, h => by
    obtain ⟨v, ws, rfl, ⟨p, _, e, hp, _⟩, hr⟩ := h
    cases e
    exact ⟨p, ws, rfl, hp, Ns.nodes hr⟩
  | .shw n r, _, h => by
    obtain ⟨v, ws, rfl, ⟨p, _, e, hp, _⟩, hr⟩ := h
    cases e
    exact ⟨p, ws, rfl, hp, Ns.nodes hr⟩
  | .num r, _, h => by
    obtain ⟨v, ws, rfl, ⟨p, _, e, hp, _⟩, hr⟩ := h
    cases e
    exact ⟨p, ws, rfl, hp, Ns.nodes hr⟩
  | .cho hd cs o r, _, h => by
    obtain ⟨v, ws, rfl, ⟨p, _, ca, cvs, oa, ovs, e, hp, hc, hcs, ho, hos, _⟩, hr⟩ := h
    cases e
    exact ⟨p, ws, ca, cvs, oa, ovs, rfl, hp, hc, hcs, ho, hos, Ns.nodes hr⟩
  | .cas k m r, _, h => by
    obtain ⟨v, ws, rfl, ⟨p, _, ma, mvs, e, hp, hm, hms, _⟩, hr⟩ := h
    cases e
    exact ⟨p, ws, ma, mvs, rfl, hp, hm, hms, Ns.nodes hr⟩
/-- a node of a message: what its tuple begins with -/
theorem node_of {H : Hp} {u : T} {v : V} (h : Nodes H u [v]) (w : Wf u false) : ∃ p x xs, v = .ref p ∧ H p = some (.tup (.str x :: xs)) ∧ u.single ∧
    ((x = "select" ∨ x = "plural") ↔ u.isCho = true) ∧ (x = "text" ↔ u.isText = true) := by
  cases u with
  | nil => cases (show [v] = [] from h)
  | text s r =>
    obtain ⟨p, ws, e, hp, hr⟩ := h
    cases e
    have : r = .nil := by
      have := hr.length
      cases r <;> first | rfl | (simp [T.len] at this)
    exact ⟨p, _, _, rfl, hp, this, by simp [T.isCho]; decide, by simp [T.isText]⟩
  | shw n r =>
    obtain ⟨p, ws, e, hp, hr⟩ := h
    cases e
    have : r = .nil := by
      have := hr.length
      cases r <;> first | rfl | (simp [T.len] at this)
    exact ⟨p, _, _, rfl, hp, this, by simp [T.isCho]; decide, by simp [T.isText]; decide⟩
  | num r =>
    obtain ⟨p, ws, e, hp, hr⟩ := h
    cases e
    have : r = .nil := by
      have := hr.length
      cases r <;> first | rfl | (simp [T.len] at this)
    exact ⟨p, _, _, rfl, hp, this, by simp [T.isCho]; decide, by simp [T.isText]; decide⟩
  | cho hd cs o r =>
    obtain ⟨p, ws, ca, cvs, oa, ovs, e, hp, _, _, _, _, hr⟩ := h
    cases e
    have : r = .nil := by
      have := hr.length
      cases r <;> first | rfl | (simp [T.len] at this)
    rcases w.2.1 with ⟨n, rfl⟩ | ⟨n, off, rfl⟩
    · exact ⟨p, _, _, rfl, hp, this, by simp [T.isCho], by simp [T.isText]; decide⟩
    · exact ⟨p, _, _, rfl, hp, this, by simp [T.isCho], by simp [T.isText]; decide⟩
  | cas k m r => cases w.1
theorem Nodes.msgs {H : Hp} : ∀ {t : T} {vs : List V}, Nodes H t vs → Wf t true → ∃ ms, Ats H t.msgs ms ∧ vs.length = ms.length ∧ ∀ (i : Nat) (v : V), vs[i]? = some v → ∃ (p : Addr) (k : V) (a : Addr), v = V.ref p ∧ H p = some (.tup [k, .ref a]) ∧ ms[i]? = some (V.ref a)
  | .nil, _, h, _ => ⟨[], rfl, by rw [show _ = [] from h], fun i v e => by rw [show _ = [] from h] at e; simp at e⟩
  | .text s r, _, h, w => by cases w.1
  | .shw n r, _, h, w => by cases w.1
  | .num r, _, h, w => by cases w.1
  | .cho hd cs o r, _, h, w => by cases w.1
  | .cas k m r, _, h, w => by
    obtain ⟨p, ws, ma, mvs, rfl, hp, hm, hms, hr⟩ := h
    obtain ⟨ms, h1, h2, h3⟩ := Nodes.msgs hr w.2.2.2
    refine ⟨.ref ma :: ms, ⟨ma, ms, rfl, ⟨mvs, hm, hms⟩, h1⟩, congrArg (· + 1) h2, fun i v e => ?_⟩
    cases i with
    | zero =>
      have : V.ref p = v := by simpa using e
      subst this
      exact ⟨p, k, ma, rfl, hp, rfl⟩
    | succ i =>
      obtain ⟨q, k', a, e1, e2, e3⟩ := h3 i v (by simpa using e)
      exact ⟨q, k', a, e1, e2, by simpa using e3⟩
end Mw

namespace Mw
open PySem L2
theorem atI_m1 {α : Type} (xs : List α) (a b : α) : atI (xs ++ [a, b]) (-1) = some b := by
  rw [show xs ++ [a, b] = (xs ++ [a]) ++ [b] by simp]
  exact atI_last _ _
theorem atI_m2 {α : Type} (xs : List α) (a b : α) : atI (xs ++ [a, b]) (-2) = some a := by
  unfold atI ixN
  have hl : (xs ++ [a, b]).length = xs.length + 2 := by simp
  rw [if_neg (by decide), if_pos (by rw [hl]; omega), hl]
  show (xs ++ [a, b])[((-2 : Int) + ((xs.length + 2 : Nat) : Int)).toNat]? = some a
  rw [show ((-2 : Int) + ((xs.length + 2 : Nat) : Int)).toNat = xs.length by omega]
  rw [List.getElem?_append_right (Nat.le_refl _), Nat.sub_self]
  rfl
section
variable {P : Program} {w : World} {K : PySem.W.Frag} {mg : Str → Option Value} {base : Heap}
/-! ### is_choice -/
abbrev sIs : Stmt := top 5
theorem scIs : FnScope ["node"] ["node"] (defScope sIs) := ⟨rfl, rfl, rfl, by decide +kernel, rfl, by decide +kernel, by decide +kernel⟩
def spIs : Sp := fun vs H Q _ => ∃ (v : V) (u : T), vs = [v] ∧ Nodes H u [v] ∧ Wf u false ∧ ∀ H', Same H H' → Q (.bl u.isCho) H'
theorem in_two (x a b : Str) : inV (.str x) [.str a, .str b] = decide (x = a ∨ x = b) := by
  have h : ∀ c d : Str, (c == d) = decide (d = c) := fun c d => by
    by_cases e : d = c
    · subst e
      simp
    · rw [decide_eq_false e]
      exact beq_eq_false_iff_ne.mpr fun z => e z.symm
  unfold inV
  simp only [List.any_cons, List.any_nil, Bool.or_false, eqV, h]
  exact (Bool.decide_or _ _).symm
theorem ok_is {f : Addr} {fd : FuncData} (F : Fun K "is_choice" "is_choice" sIs f fd) : FnOk P w K mg base CX0 1 f fd ["node"] spIs := by
  refine F.ok scIs (fun vs H Q E h => ?_) (fun cdv A outer s H vs Q E hr h => ?_)
  · obtain ⟨v, u, rfl, _⟩ := h
    rfl
  obtain ⟨v, u, rfl, hn, hw, q⟩ := h
  obtain ⟨p, x, xs, rfl, hp, _, hc, _⟩ := node_of hn hw
  refine ⟨_, pss_one (ps_ret (pe_cmpR op_in_seq (pe_ix ix_tup (pv 0) pe_int (fun _ _ => rfl)) (pe_tup (pa_cons pe_str (pa_cons pe_str pa_nil))) (by rfl))), ?_⟩
  refine ⟨_, rfl, p, _, 0, .str x, rfl, rfl, .inl (.inl hp), atI_nat (j := 0) rfl, by show 2 ≤ sizeLine; decide, fun t ht => ⟨t, _, rfl, .inr (.inl (.inl upd_same)), rfl, rfl, ?_⟩⟩
  have e : inV (V.str x) [.str "select", .str "plural"] = u.isCho := by
    rw [in_two]
    cases hu : u.isCho with
    | true => exact decide_eq_true (hc.mpr hu)
    | false => exact decide_eq_false fun z => by rw [hc.mp z] at hu; cases hu
  show Q (.bl (inV (V.str x) [.str "select", .str "plural"])) _
  rw [e]
  exact q _ (same_new ht _)
/-! ### cases_of, other_of -/
abbrev sCases : Stmt := top 6
abbrev sOther : Stmt := top 7
theorem scCases : FnScope ["node"] ["node"] (defScope sCases) := ⟨rfl, rfl, rfl, by decide +kernel, rfl, by decide +kernel, by decide +kernel⟩
theorem scOther : FnScope ["node"] ["node"] (defScope sOther) := ⟨rfl, rfl, rfl, by decide +kernel, rfl, by decide +kernel, by decide +kernel⟩
def spCases : Sp := fun vs H Q _ => ∃ (p ca oa : Addr) (hd cvs : List V), vs = [.ref p] ∧ H p = some (.tup (hd ++ [.ref ca, .ref oa])) ∧ H ca = some (.lst cvs) ∧ ∀ l, H l = none → Q (.ref l) (upd H l (.lst cvs))
def spOther : Sp := fun vs H Q _ => ∃ (p ca oa : Addr) (hd : List V), vs = [.ref p] ∧ H p = some (.tup (hd ++ [.ref ca, .ref oa])) ∧ Q (.ref oa) H
theorem ok_cases {f : Addr} {fd : FuncData} (F : Fun K "cases_of" "cases_of" sCases f fd) (ml : mg "list" = none) : FnOk P w K mg base CX0 1 f fd ["node"] spCases := by
  refine F.ok scCases (fun vs H Q E h => ?_) (fun cdv A outer s H vs Q E hr h => ?_)
  · obtain ⟨p, ca, oa, hd, cvs, rfl, _⟩ := h
    rfl
  obtain ⟨p, ca, oa, hd, cvs, rfl, hp, hc, q⟩ := h
  refine ⟨_, pss_one (ps_ret (pe_callTy call_list_of (by rfl) ml (by decide +kernel) (pa_cons (pe_ix ix_tup (pv 0) (pe_un un_neg pe_int) (fun _ _ => rfl)) pa_nil))), ?_⟩
  exact ⟨_, rfl, 2, rfl, p, _, -2, .ref ca, rfl, rfl, .inl (.inl hp), atI_m2 _ _ _, ca, _, rfl, .inl (SqL.of hc), q⟩
theorem ok_other {f : Addr} {fd : FuncData} (F : Fun K "other_of" "other_of" sOther f fd) : FnOk P w K mg base CX0 1 f fd ["node"] spOther := by
  refine F.ok scOther (fun vs H Q E h => ?_) (fun cdv A outer s H vs Q E hr h => ?_)
  · obtain ⟨p, ca, oa, hd, rfl, _⟩ := h
    rfl
  obtain ⟨p, ca, oa, hd, rfl, hp, q⟩ := h
  refine ⟨_, pss_one (ps_ret (pe_ix ix_tup (pv 0) (pe_un un_neg pe_int) (fun _ _ => rfl))), ?_⟩
  exact ⟨_, rfl, 1, rfl, p, _, -1, .ref oa, rfl, rfl, .inl (.inl hp), atI_m1 _ _ _, q⟩
/-! ### inner_messages -/
abbrev sInner : Stmt := top 8
theorem scInner : FnScope ["node", "_", "message"] ["node"] (defScope sInner) := ⟨rfl, rfl, rfl, by decide +kernel, rfl, by decide +kernel, by decide +kernel⟩
def spInner : Sp := fun vs H Q _ => ∃ (H0 : Hp) (v : V) (u : T), vs = [v] ∧ Same H0 H ∧ Nodes H0 u [v] ∧ Wf u false ∧ u.sz < 100000 ∧ ∀ l H' ms, H l = none → Same H H' → H' l = some (.lst ms) → Ats H0 u.inner ms → Q (.ref l) H'
theorem len_sz : ∀ t : T, t.len ≤ t.sz
  | .nil => Nat.le_refl _
  | .text s r => by have := len_sz r; simp only [T.len, T.sz]; omega
  | .shw s r => by have := len_sz r; simp only [T.len, T.sz]; omega
  | .num r => by have := len_sz r; simp only [T.len, T.sz]; omega
  | .cho _ _ _ r => by have := len_sz r; simp only [T.len, T.sz]; omega
  | .cas _ _ r => by have := len_sz r; simp only [T.len, T.sz]; omega
theorem ok_inner {f fI fC fO : Addr} {fd fdI fdC fdO : FuncData} (F : Fun K "inner_messages" "inner_messages" sInner f fd)
    (GI : FnOk P w K mg base CX0 1 fI fdI ["node"] spIs) (bI : Binds K fdI ["node"] []) (kI : PySem.W.keepIn K (.ref fI) = true) (mI : mg "is_choice" = some (.ref fI))
    (GC : FnOk P w K mg base CX0 1 fC fdC ["node"] spCases) (bC : Binds K fdC ["node"] []) (kC : PySem.W.keepIn K (.ref fC) = true) (mC : mg "cases_of" = some (.ref fC))
    (GO : FnOk P w K mg base CX0 1 fO fdO ["node"] spOther) (bO : Binds K fdO ["node"] []) (kO : PySem.W.keepIn K (.ref fO) = true) (mO : mg "other_of" = some (.ref fO)) :
    FnOk P w K mg base CX0 2 f fd ["node"] spInner := by
  refine F.ok scInner (fun vs H Q E h => ?_) (fun cdv A outer s H vs Q E hr h => ?_)
  · obtain ⟨H0, v, u, rfl, _⟩ := h
    rfl
  obtain ⟨H0, v, u, rfl, h0, hn, hw, hz, q⟩ := h
  have nd := scInner.nd
  refine ⟨_, pss_cons (ps_if (pt_not (pt_val (pe_call GI hr rfl mI kI bI .nil pass0 (pa_cons (pv 0) pa_nil)))) (pss_one (ps_ret (pe_lst pa_nil))) pss_nil)
    (pss_one (ps_ret (pe_op op_cat
      (pe_lc (own := [("_", 1), ("message", 2)]) (g := gTup K 2 (gCons (gName 1) (gCons (gName 2) gNil))) (tt := tYes) rfl nd (pi_list (pe_call GC hr rfl mC kC bC .nil pass0 (pa_cons (pv 0) pa_nil))) (blkOk_by (N := ["node", "_", "message"]) (sc := defScope sInner) (by decide +kernel))
        (fun _ _ _ _ _ => pg_tup rfl (pgs_cons (pg_name (i := 1) nd rfl (.inl rfl)) (pgs_cons (pg_name (i := 2) nd rfl (.inl rfl)) pgs_nil))) (fun _ _ _ _ _ => pts_nil) (fun _ _ _ _ _ => pv 2))
      (pe_lst (pa_cons (pe_call GO hr rfl mO kO bO .nil pass0 (pa_cons (pv 0) pa_nil)) pa_nil))))), ?_⟩
  refine ⟨_, rfl, v, u, rfl, Nodes.same h0 hn, hw, fun H1 s1 => ⟨_, rfl, ?_⟩⟩
  cases hu : u.isCho with
  | false =>
    refine iteT ⟨Nat.zero_le _, fun l hl => q l _ [] (s1.free hl) (s1.trans (same_new hl _)) upd_same ?_⟩
    cases u <;> first | exact rfl | cases hu
  | true =>
    refine iteF ?_
    cases u with
    | cho hd cs o r =>
      obtain ⟨p, ws, ca, cvs, oa, ovs, e, hp, hc, hcs, ho, hos, hr'⟩ := hn
      cases e
      obtain ⟨ms, m1, m2, m3⟩ := Nodes.msgs hcs hw.2.2.1
      have hlen : ms.length < 99999 := by
        have e1 := hcs.length
        have e2 := len_sz cs
        simp only [T.sz] at hz
        omega
      refine ⟨_, rfl, p, ca, oa, hd, cvs, rfl, s1 _ _ (h0 _ _ hp), s1 _ _ (h0 _ _ hc), fun l hl => ⟨l, rfl, ⟨_, SqL.of upd_same⟩, fun D hD => ?_⟩⟩
      have s2 : Same H (upd H1 l (.lst cvs)) := s1.trans (same_new hl _)
      have s3 : Same (upd H1 l (.lst cvs)) (upd (upd H1 l (.lst cvs)) D (.lst [])) := same_new hD _
      refine lc_list (xs := cvs) (fun i H' => Same (upd H1 l (.lst cvs)) H' ∧ H' D = some (.lst (ms.take i))) ⟨s3, upd_same⟩ (fun i H' _ ⟨s', _⟩ => SqL.of (s' _ _ upd_same)) ?_ ?_
      · rintro i x H' hx ⟨s', hD'⟩
        obtain ⟨p', k, a, rfl, hp', hm'⟩ := m3 i x hx
        refine ⟨p', _, rfl, .inl (.inl (s' _ _ (s2 _ _ (h0 _ _ hp')))), rfl, k, _, rfl, .ref a, [], rfl, rfl, rfl, ?_⟩
        refine ⟨_, rfl, _, hD', sz_line (by rw [List.length_take]; omega), same_mut s' hD _, ?_⟩
        rw [upd_same, List.take_succ, hm']
        rfl
      · rintro H' ⟨s', hD'⟩
        have s4 : Same H H' := s2.trans s'
        rw [m2, List.take_length] at hD'
        refine ⟨_, rfl, p, ca, oa, hd, rfl, s4 _ _ (h0 _ _ hp), by show 1 ≤ sizeLine; decide, fun l2 hl2 => ?_⟩
        refine ⟨D, l2, _, _, rfl, rfl, same_new hl2 _ _ _ hD', upd_same, le_line (by show ms.length + 1 < 10000000; omega), fun l3 hl3 => ?_⟩
        have s5 : Same H (upd (upd H' l2 (.lst [.ref oa])) l3 (.lst (ms ++ [.ref oa]))) := (s4.trans (same_new hl2 _)).trans (same_new hl3 _)
        have ha : Ats H0 (T.cho hd cs o r).inner (ms ++ [.ref oa]) := Ats.append (show Ats H0 [o] [.ref oa] from ⟨oa, [], rfl, ⟨ovs, ho, hos⟩, rfl⟩) m1
        exact q l3 _ (ms ++ [.ref oa]) ((s4.trans (same_new hl2 _)).free hl3) s5 upd_same ha
    | _ => cases hu
end
end Mw

namespace Mw
open PySem L2
theorem nodes_wf : ∀ {t : T} {c : Bool}, Wf t c → ∀ u ∈ t.nodes, Wf u c
  | .nil, _, _, u, h => by cases h
  | .text s r, _, w, u, h => by
    rcases List.mem_cons.mp h with rfl | h
    · exact ⟨w.1, trivial⟩
    · exact nodes_wf w.2 u h
  | .shw s r, _, w, u, h => by
    rcases List.mem_cons.mp h with rfl | h
    · exact ⟨w.1, trivial⟩
    · exact nodes_wf w.2 u h
  | .num r, _, w, u, h => by
    rcases List.mem_cons.mp h with rfl | h
    · exact ⟨w.1, trivial⟩
    · exact nodes_wf w.2 u h
  | .cho hd cs o r, _, w, u, h => by
    rcases List.mem_cons.mp h with rfl | h
    · exact ⟨w.1, w.2.1, w.2.2.1, w.2.2.2.1, trivial⟩
    · exact nodes_wf w.2.2.2.2 u h
  | .cas k m r, _, w, u, h => by
    rcases List.mem_cons.mp h with rfl | h
    · exact ⟨w.1, w.2.1, w.2.2.1, trivial⟩
    · exact nodes_wf w.2.2.2 u h
/-! ### all nodes, in the order of the notation -/
def T.all : T → List T
  | .nil => []
  | .text s r => .text s .nil :: r.all
  | .shw n r => .shw n .nil :: r.all
  | .num r => .num .nil :: r.all
  | .cho hd cs o r => .cho hd cs o .nil :: (cs.all ++ o.all ++ r.all)
  | .cas _ m r => m.all ++ r.all
def allOf (us : List T) : List T := us.flatMap T.all
theorem all_nodes_eq : ∀ {t : T}, Wf t false → allOf t.nodes = t.all
  | .nil, _ => rfl
  | .text s r, w => by
    show (T.text s .nil).all ++ allOf r.nodes = _
    rw [all_nodes_eq w.2]
    rfl
  | .shw s r, w => by
    show (T.shw s .nil).all ++ allOf r.nodes = _
    rw [all_nodes_eq w.2]
    rfl
  | .num r, w => by
    show (T.num .nil).all ++ allOf r.nodes = _
    rw [all_nodes_eq w.2]
    rfl
  | .cho hd cs o r, w => by
    show (T.cho hd cs o .nil).all ++ allOf r.nodes = _
    rw [all_nodes_eq w.2.2.2.2]
    simp [T.all]
  | .cas _ _ _, w => by cases w.1
theorem all_msgs : ∀ {t : T}, Wf t true → t.msgs.flatMap T.all = t.all
  | .nil, _ => rfl
  | .cas _ m r, w => by
    show m.all ++ r.msgs.flatMap T.all = _
    rw [all_msgs w.2.2.2]
    rfl
  | .text _ _, w => by cases w.1
  | .shw _ _, w => by cases w.1
  | .num _, w => by cases w.1
  | .cho _ _ _ _, w => by cases w.1
theorem wf_msgs : ∀ {t : T}, Wf t true → ∀ m ∈ t.msgs, Wf m false
  | .nil, _, m, h => by cases h
  | .cas _ m r, w, m', h => by
    rcases List.mem_cons.mp h with rfl | h
    · exact w.2.2.1
    · exact wf_msgs w.2.2.2 m' h
  | .text _ _, w, _, _ => by cases w.1
  | .shw _ _, w, _, _ => by cases w.1
  | .num _, w, _, _ => by cases w.1
  | .cho _ _ _ _, w, _, _ => by cases w.1
theorem wf_inner {u : T} (w : Wf u false) : ∀ m ∈ u.inner, Wf m false := by
  cases u with
  | cho hd cs o r =>
    intro m h
    rcases List.mem_append.mp h with h | h
    · exact wf_msgs w.2.2.1 m h
    · rw [List.mem_singleton.mp h]
      exact w.2.2.2.1
  | _ => intro m h; cases h
/-- a node, then what is within it -/
theorem all_one {u : T} (w : Wf u false) (hs : u.single) : u.all = u :: u.inner.flatMap T.all := by
  cases u with
  | nil => cases hs
  | text s r => cases (show r = .nil from hs); rfl
  | shw n r => cases (show r = .nil from hs); rfl
  | num r => cases (show r = .nil from hs); rfl
  | cho hd cs o r =>
    cases (show r = .nil from hs)
    show T.cho hd cs o .nil :: (cs.all ++ o.all ++ T.nil.all) = T.cho hd cs o .nil :: (cs.msgs ++ [o]).flatMap T.all
    rw [List.flatMap_append, all_msgs w.2.2.1]
    simp [T.all]
  | cas k m r => cases w.1
theorem all_sz : ∀ t : T, t.all.length ≤ t.sz
  | .nil => Nat.le_refl _
  | .text s r => by have := all_sz r; simp only [T.all, T.sz, List.length_cons]; omega
  | .shw s r => by have := all_sz r; simp only [T.all, T.sz, List.length_cons]; omega
  | .num r => by have := all_sz r; simp only [T.all, T.sz, List.length_cons]; omega
  | .cho _ cs o r => by
    have h1 := all_sz cs
    have h2 := all_sz o
    have h3 := all_sz r
    simp only [T.all, T.sz, List.length_cons, List.length_append]
    omega
  | .cas _ m r => by
    have h1 := all_sz m
    have h3 := all_sz r
    simp only [T.all, T.sz, List.length_append]
    omega
/-- a pending forest: every tree well made, its first node apart -/
def szs (us : List T) : Nat := (us.map T.sz).sum
theorem szs_append (us vs : List T) : szs (us ++ vs) = szs us + szs vs := by
  unfold szs
  rw [List.map_append, List.sum_append]
theorem szs_nodes : ∀ t : T, szs t.nodes = t.sz
  | .nil => rfl
  | .text s r => by have := szs_nodes r; simp only [szs, T.nodes, T.sz, List.map_cons, List.sum_cons] at *; omega
  | .shw s r => by have := szs_nodes r; simp only [szs, T.nodes, T.sz, List.map_cons, List.sum_cons] at *; omega
  | .num r => by have := szs_nodes r; simp only [szs, T.nodes, T.sz, List.map_cons, List.sum_cons] at *; omega
  | .cho _ cs o r => by have := szs_nodes r; simp only [szs, T.nodes, T.sz, List.map_cons, List.sum_cons] at *; omega
  | .cas _ m r => by have := szs_nodes r; simp only [szs, T.nodes, T.sz, List.map_cons, List.sum_cons] at *; omega
theorem szs_msgs : ∀ {t : T}, szs t.msgs ≤ t.sz
  | .cas _ m r => by have := @szs_msgs r; simp only [szs, T.msgs, T.sz, List.map_cons, List.sum_cons] at *; omega
  | .nil => Nat.le_refl _
  | .text _ _ => Nat.zero_le _
  | .shw _ _ => Nat.zero_le _
  | .num _ => Nat.zero_le _
  | .cho _ _ _ _ => Nat.zero_le _
theorem szs_inner {u : T} (hs : u.single) : szs u.inner < u.sz := by
  cases u with
  | cho hd cs o r =>
    have := @szs_msgs cs
    show szs (cs.msgs ++ [o]) < 1 + cs.sz + o.sz + r.sz
    rw [szs_append]
    simp only [szs, List.map_cons, List.map_nil, List.sum_cons, List.sum_nil] at *
    omega
  | nil => cases hs
  | text s r => show 0 < 1 + s.length + r.sz; omega
  | shw s r => show 0 < 1 + r.sz; omega
  | num r => show 0 < 1 + r.sz; omega
  | cas k m r => show 0 < 1 + m.sz + r.sz; omega
theorem szs_fm : ∀ l : List T, szs (l.flatMap T.nodes) = szs l
  | [] => rfl
  | m :: l => by
    rw [List.flatMap_cons, szs_append, szs_fm l, szs_nodes]
    rfl
theorem szs_rev (l : List T) : szs l.reverse = szs l := by
  unfold szs
  rw [List.map_reverse, List.sum_reverse]
theorem szs_take (l : List T) (i : Nat) : szs (l.take i) ≤ szs l := by
  have := szs_append (l.take i) (l.drop i)
  rw [List.take_append_drop] at this
  omega
theorem Ns.szs {H : Hp} : ∀ {us : List T} {vs : List V}, Ns H us vs → vs.length ≤ szs us
  | [], _, h => by rw [show _ = [] from h]; exact Nat.le_refl _
  | u :: us, _, h => by
    obtain ⟨v, ws, rfl, h1, h2⟩ := h
    have := h1.length
    have := len_sz u
    have := h2.szs
    show ws.length + 1 ≤ u.sz + Mw.szs us
    simp only [List.length_singleton] at *
    omega
section
variable {P : Program} {w : World} {K : PySem.W.Frag} {mg : Str → Option Value} {base : Heap}
/-! ### all_nodes -/
abbrev sAll : Stmt := top 9
theorem scAll : FnScope ["message", "found", "ahead", "node", "inner"] ["message"] (defScope sAll) := ⟨rfl, rfl, rfl, by decide +kernel, rfl, by decide +kernel, by decide +kernel⟩
def spAll : Sp := fun vs H Q _ => ∃ (a : Addr) (t : T), vs = [.ref a] ∧ At H a t ∧ Wf t false ∧ t.sz < 80000 ∧ ∀ l H' ws, H l = none → Same H H' → H' l = some (.lst ws) → Ns H t.all ws → Q (.ref l) H'
theorem ok_all {f fI : Addr} {fd fdI : FuncData} (F : Fun K "all_nodes" "all_nodes" sAll f fd) (GI : FnOk P w K mg base CX0 2 fI fdI ["node"] spInner) (bI : Binds K fdI ["node"] []) (kI : PySem.W.keepIn K (.ref fI) = true) (mI : mg "inner_messages" = some (.ref fI)) :
    FnOk P w K mg base CX0 3 f fd ["message"] spAll := by
  refine F.ok scAll (fun vs H Q E h => ?_) (fun cdv A outer s H vs Q E hr h => ?_)
  · obtain ⟨a, t, rfl, _⟩ := h
    rfl
  obtain ⟨a, t, rfl, ⟨vs, ha, hn⟩, hw, hz, q⟩ := h
  have nd := scAll.nd
  refine ⟨_, pss_cons (ps_set (i := 1) nd rfl (.inl rfl) (pe_lst pa_nil)) (pss_cons (ps_set (i := 2) nd rfl (.inl rfl) (pe_revL (pv 0)))
    (pss_cons (ps_while PassesOwn.never (pt_truth (pv 2) (by intro _; rfl))
      (pss_cons (ps_set (i := 3) nd rfl (.inl rfl) (pe_bm0 PySem.F.plainAttrs_list PySem.F.slot_list_pop PySem.F.type_list_pop mt_pop (pv 2)))
      (pss_cons (ps_expr (pe_bm PySem.F.plainAttrs_list PySem.F.slot_list_append PySem.F.type_list_append mt_append (pv 1) (pa_cons (pv 3) pa_nil)))
      (pss_one (ps_for PassesOwn.never rfl (pi_list (pe_revL (pe_call GI hr rfl mI kI bI .nil pass0 (pa_cons (pv 3) pa_nil)))) (pg_name (i := 4) nd rfl (.inl rfl))
        (pss_one (ps_expr (pe_bm PySem.F.plainAttrs_list PySem.F.slot_list_extend PySem.F.type_list_extend mt_extend (pv 2) (pa_cons (pe_revL (pv 4)) pa_nil)))))))))
    (pss_one (ps_ret (pv 1))))), ?_⟩
  refine ⟨Nat.zero_le _, fun fl hfl => ?_⟩
  have s1 : Same H (upd H fl (.lst [])) := same_new hfl _
  refine ⟨_, rfl, a, vs, rfl, SqL.of (s1 _ _ ha), fun al hal => ?_⟩
  have s2 : Same H (upd (upd H fl (.lst [])) al (.lst vs.reverse)) := s1.trans (same_new hal _)
  have hal0 : H al = none := upd_none hal
  have hne : al ≠ fl := fun e => by rw [e, upd_same] at hal; cases hal
  refine ⟨fun m σ H' => ∃ (ws as : List V) (us done : List T) (o3 o4 : Option V), σ = [some (.ref a), some (.ref fl), some (.ref al), o3, o4] ∧ Same H H' ∧ H' fl = some (.lst ws) ∧ Ns H done ws ∧ H' al = some (.lst as) ∧ Ns H us as.reverse ∧ (∀ u ∈ us, Wf u false) ∧ t.all = done ++ allOf us ∧ szs us ≤ t.sz ∧ m = szs us, ⟨t.sz, [], vs.reverse, t.nodes, [], none, none, rfl, s2, (by rw [upd_ne hne.symm]; exact upd_same), rfl, upd_same, (by rw [List.reverse_reverse]; exact hn.ns), nodes_wf hw, (by rw [all_nodes_eq hw]; rfl), (by rw [szs_nodes]; exact Nat.le_refl _), (szs_nodes t).symm⟩, ?_⟩
  rintro m σ H' ⟨ws, as, us, done, o3, o4, rfl, s', hf, hd, ha', hu, huw, hall, hsz, rfl⟩
  have hdl : done.length < 80000 := by
    have e := congrArg List.length hall
    rw [List.length_append] at e
    have := all_sz t
    omega
  refine ⟨.ref al, rfl, !as.isEmpty, .inl ⟨as, SqL.of ha', rfl⟩, ?_⟩
  cases us with
  | nil =>
    have e : as = [] := List.reverse_eq_nil_iff.mp (show as.reverse = [] from hu)
    subst e
    refine iteF ?_
    rw [show t.all = done by rw [hall]; exact List.append_nil _] at q
    exact ⟨_, rfl, q fl H' ws hfl s' hf hd⟩
  | cons u us =>
    obtain ⟨v, vr, e, hu1, hu2⟩ := hu
    have e' : as = vr.reverse ++ [v] := by
      rw [← List.reverse_reverse as, e, List.reverse_cons]
    subst e'
    have hT : (!(vr.reverse ++ [v]).isEmpty) = true := by simp
    rw [hT]
    refine iteT ?_
    have uw := huw u (by simp)
    obtain ⟨p, x, xs, rfl, hp, hsg, _, _⟩ := node_of hu1 uw
    have hszu : u.sz + szs us ≤ t.sz := hsz
    -- node = ahead.pop(); found.append(node)
    refine ⟨fun σ' H'' => ∃ m', m' < szs (u :: us) ∧ ∃ (ws as : List V) (us done : List T) (o3 o4 : Option V), σ' = [some (.ref a), some (.ref fl), some (.ref al), o3, o4] ∧ Same H H'' ∧ H'' fl = some (.lst ws) ∧ Ns H done ws ∧ H'' al = some (.lst as) ∧ Ns H us as.reverse ∧ (∀ u ∈ us, Wf u false) ∧ t.all = done ++ allOf us ∧ szs us ≤ t.sz ∧ m' = szs us, fun σ' H'' z => z, ?_⟩
    refine ⟨.ref al, rfl, .inl ⟨rfl, _, SqL.of ha'⟩, al, _, .ref p, rfl, rfl, ha', by simp, ?_⟩
    rw [List.dropLast_concat]
    have s3 : Same H (upd H' al (.lst vr.reverse)) := same_mut s' hal0 _
    have hf3 : upd H' al (.lst vr.reverse) fl = some (.lst ws) := by rw [upd_ne hne.symm]; exact hf
    refine ⟨_, rfl, .inl ⟨rfl, _, SqL.of hf3⟩, _, rfl, fl, _, _, rfl, rfl, hf3, sz_line (by rw [hd.length]; omega), ?_⟩
    have s4 : Same H (upd (upd H' al (.lst vr.reverse)) fl (.lst (ws ++ [.ref p]))) := same_mut s3 hfl _
    -- inner_messages(node)[::-1]
    refine ⟨_, rfl, H, .ref p, u, rfl, s4, hu1, uw, by omega, fun il H5 ms hil s5 hil5 hms => ?_⟩
    refine ⟨il, ms, rfl, SqL.of hil5, fun rl hrl => ?_⟩
    have hal4 : upd (upd H' al (.lst vr.reverse)) fl (.lst (ws ++ [.ref p])) al = some (.lst vr.reverse) := by rw [upd_ne hne]; exact upd_same
    have hrl5 : H5 rl = none := hrl
    have s6 : Same H (upd H5 rl (.lst ms.reverse)) := (s4.trans s5).trans (same_new hrl _)
    have nra : rl ≠ al := (ne_of_none (s5 _ _ hal4) hrl).symm
    have hdone : Ns H (done ++ [u]) (ws ++ [.ref p]) := Ns.append (show Ns H [u] [.ref p] from ⟨_, [], rfl, hu1, rfl⟩) hd
    have hml : ms.length = u.inner.length := hms.length
    refine ⟨rl, rfl, ⟨_, SqL.of upd_same⟩, for_list (xs := ms.reverse) (fun i σ' H'' => ∃ (o4 : Option V) (as : List V), σ' = [some (.ref a), some (.ref fl), some (.ref al), some (.ref p), o4] ∧ Same H H'' ∧ H'' fl = some (.lst (ws ++ [.ref p])) ∧ H'' rl = some (.lst ms.reverse) ∧ H'' al = some (.lst as) ∧ Ns H (((u.inner.reverse.take i).reverse).flatMap T.nodes ++ us) as.reverse)
      ⟨o4, vr.reverse, rfl, s6, s6 |> fun _ => (by rw [upd_ne (ne_of_none (s5 _ _ upd_same) hrl)]; exact s5 _ _ upd_same), upd_same, (by rw [upd_ne nra.symm]; exact s5 _ _ hal4), (by rw [List.reverse_reverse]; exact hu2)⟩
      (fun i σ' H'' _ ⟨_, _, _, _, _, h, _⟩ => SqL.of h) ?_ ?_⟩
    · rintro i x' σ' H'' hx ⟨o4, as, rfl, s7, hf7, hr7, ha7, hn7⟩
      have hi : i < ms.length := by
        have := (List.getElem?_eq_some_iff.mp hx).1
        rw [List.length_reverse] at this
        exact this
      have hx2 : ms[ms.length - 1 - i]? = some x' := by
        rw [List.getElem?_reverse hi] at hx
        exact hx
      obtain ⟨m, ma, hm1, rfl, ⟨mvs, hma, hmn⟩⟩ := hms.get hx2
      have hm2 : u.inner.reverse[i]? = some m := by
        rw [List.getElem?_reverse (by omega), ← hml]
        exact hm1
      have hmem : m ∈ u.inner := List.mem_of_getElem? hm1
      refine ⟨_, rfl, .inl ⟨rfl, _, SqL.of ha7⟩, _, rfl, ma, mvs, rfl, SqL.of (s7 _ _ hma), fun nl hnl => ?_⟩
      have nna : nl ≠ al := (ne_of_none ha7 hnl).symm
      have hn1 : m.nodes ++ (((u.inner.reverse.take i).reverse).flatMap T.nodes ++ us) = ((u.inner.reverse.take (i + 1)).reverse).flatMap T.nodes ++ us := by
        rw [List.take_succ, hm2]
        simp
      have hns : Ns H (m.nodes ++ (((u.inner.reverse.take i).reverse).flatMap T.nodes ++ us)) (mvs ++ as.reverse) := Ns.append hn7 hmn.ns
      have hbound : as.length + mvs.length < 1000000 := by
        have b1 := hns.szs
        rw [hn1, szs_append, szs_fm, szs_rev, List.length_append, List.length_reverse] at b1
        have b2 := szs_take u.inner.reverse (i + 1)
        rw [szs_rev] at b2
        have b3 := szs_inner hsg
        omega
      refine ⟨al, nl, as, mvs.reverse, rfl, rfl, by rw [upd_ne nna.symm]; exact ha7, upd_same, Nat.le_trans (Nat.le_of_lt (by rw [List.length_reverse]; exact hbound)) (by decide), ?_⟩
      refine ⟨_, as ++ mvs.reverse, rfl, same_mut (s7.trans (same_new hnl _)) hal0 _, ?_, ?_, upd_same, ?_⟩
      · rw [upd_ne hne.symm, upd_ne (ne_of_none hf7 hnl)]
        exact hf7
      · rw [upd_ne nra, upd_ne (ne_of_none hr7 hnl)]
        exact hr7
      · rw [List.reverse_append, List.reverse_reverse, ← hn1]
        exact hns
    · rintro σ' H'' ⟨o4, as, rfl, s7, hf7, hr7, ha7, hn7⟩
      have e1 : (u.inner.reverse.take ms.reverse.length).reverse = u.inner := by
        rw [List.length_reverse, hml, show u.inner.length = u.inner.reverse.length from (List.length_reverse).symm, List.take_length, List.reverse_reverse]
      rw [e1] at hn7
      have e2 : szs (u.inner.flatMap T.nodes) = szs u.inner := szs_fm _
      have e3 : allOf (u.inner.flatMap T.nodes) = u.inner.flatMap T.all := by
        have : ∀ l : List T, (∀ m ∈ l, Wf m false) → allOf (l.flatMap T.nodes) = l.flatMap T.all := by
          intro l
          induction l with
          | nil => intro _; rfl
          | cons m l ih =>
            intro h
            rw [List.flatMap_cons, List.flatMap_cons, ← ih fun x hx => h x (List.mem_cons_of_mem _ hx), ← all_nodes_eq (h m (by simp))]
            simp [allOf]
        exact this _ (wf_inner uw)
      have hlt := szs_inner hsg
      refine ⟨szs (u.inner.flatMap T.nodes ++ us), ?_, _, as, _, done ++ [u], _, o4, rfl, s7, hf7, hdone, ha7, hn7, ?_, ?_, ?_, rfl⟩
      · rw [szs_append, e2]
        show _ < u.sz + szs us
        omega
      · intro x hx
        rcases List.mem_append.mp hx with hx | hx
        · obtain ⟨m, hm, hx⟩ := List.mem_flatMap.mp hx
          exact nodes_wf (wf_inner uw m hm) x hx
        · exact huw x (List.mem_cons_of_mem _ hx)
      · rw [hall]
        show done ++ (u.all ++ allOf us) = _
        rw [all_one uw hsg]
        simp only [allOf, List.flatMap_append] at *
        rw [e3]
        simp
      · rw [szs_append, e2]
        omega
end
end Mw

namespace Mw
open PySem L2
/-! ### what a message asks for -/
def hdAsk : List V → List (Str × Str)
  | [.str x, .str n] => if x = "select" then [(n, "text")] else []
  | [.str x, .str n, _] => if x = "plural" then [(n, "number")] else []
  | _ => []
def T.asks : T → List (Str × Str)
  | .nil => []
  | .text _ r => r.asks
  | .shw n r => (n, "any") :: r.asks
  | .num r => r.asks
  | .cho hd cs o r => hdAsk hd ++ cs.asks ++ o.asks ++ r.asks
  | .cas _ m r => m.asks ++ r.asks
def T.own : T → List (Str × Str)
  | .shw n _ => [(n, "any")]
  | .cho hd _ _ _ => hdAsk hd
  | _ => []
theorem all_asks : ∀ t : T, t.all.flatMap T.own = t.asks
  | .nil => rfl
  | .text _ r => by simp [T.all, T.asks, T.own, all_asks r]
  | .shw _ r => by simp [T.all, T.asks, T.own, all_asks r]
  | .num r => by simp [T.all, T.asks, T.own, all_asks r]
  | .cho _ cs o r => by simp [T.all, T.asks, T.own, all_asks cs, all_asks o, all_asks r]
  | .cas _ m r => by simp [T.all, T.asks, all_asks m, all_asks r]
theorem all_wf : ∀ {t : T} {c : Bool}, Wf t c → ∀ u ∈ t.all, Wf u false
  | .nil, _, _, u, h => by cases h
  | .text s r, _, w, u, h => by
    rcases List.mem_cons.mp h with rfl | h
    · exact ⟨rfl, trivial⟩
    · exact all_wf w.2 u h
  | .shw s r, _, w, u, h => by
    rcases List.mem_cons.mp h with rfl | h
    · exact ⟨rfl, trivial⟩
    · exact all_wf w.2 u h
  | .num r, _, w, u, h => by
    rcases List.mem_cons.mp h with rfl | h
    · exact ⟨rfl, trivial⟩
    · exact all_wf w.2 u h
  | .cho hd cs o r, _, w, u, h => by
    rcases List.mem_cons.mp h with rfl | h
    · exact ⟨rfl, w.2.1, w.2.2.1, w.2.2.2.1, trivial⟩
    · rcases List.mem_append.mp h with h | h
      · rcases List.mem_append.mp h with h | h
        · exact all_wf w.2.2.1 u h
        · exact all_wf w.2.2.2.1 u h
      · exact all_wf w.2.2.2.2 u h
  | .cas k m r, _, w, u, h => by
    rcases List.mem_append.mp h with h | h
    · exact all_wf w.2.2.1 u h
    · exact all_wf w.2.2.2 u h
/-! ### the kinds by names -/
abbrev Ks := List (Str × Str)
def lk (l : Ks) (n : Str) : Option Str := (l.find? fun p => decide (p.1 = n)).map (·.2)
def pt (l : Ks) (n s : Str) : Ks := if (l.any fun p => decide (p.1 = n)) = true then l.map (fun p => if p.1 = n then (p.1, s) else p) else l ++ [(n, s)]
def kv (l : Ks) : List (L2.Key × V) := l.map fun p => (Sum.inr p.1, .str p.2)
theorem inr_dec (a b : Str) : (decide ((Sum.inr a : L2.Key) = Sum.inr b)) = decide (a = b) := by
  by_cases h : a = b
  · subst h
    simp
  · simp [h]
theorem val_kv (n : Str) : ∀ l : Ks, valV (kv l) (Sum.inr n) = (lk l n).map V.str
  | [] => rfl
  | p :: r => by
    by_cases e : p.1 = n
    · rw [show lk (p :: r) n = some p.2 by simp [lk, e]]
      exact valV_pos (p := ((Sum.inr p.1 : L2.Key), V.str p.2)) (by rw [e])
    · rw [show lk (p :: r) n = lk r n by simp [lk, e], ← val_kv n r]
      exact valV_neg (p := ((Sum.inr p.1 : L2.Key), V.str p.2)) (fun z => e (Sum.inr.inj z))
theorem put_kv (l : Ks) (n s : Str) : putK (kv l) (Sum.inr n) (.str s) = kv (pt l n s) := by
  have a : ((kv l).any fun q => decide (q.1 = Sum.inr n)) = (l.any fun p => decide (p.1 = n)) := by
    unfold kv
    rw [List.any_map]
    congr 1
    funext p
    exact inr_dec _ _
  unfold putK pt
  rw [a]
  split
  · unfold kv
    rw [List.map_map, List.map_map]
    refine List.map_congr_left fun p _ => ?_
    by_cases e : p.1 = n
    · simp [e]
    · simp [e]
  · unfold kv
    rw [List.map_append]
    rfl
theorem pt_len (l : Ks) (n s : Str) : (pt l n s).length ≤ l.length + 1 := by
  unfold pt
  split
  · rw [List.length_map]
    omega
  · rw [List.length_append]
    exact Nat.le_refl _
theorem pt_keys (l : Ks) (n s : Str) : (pt l n s).map (·.1) = if n ∈ l.map (·.1) then l.map (·.1) else l.map (·.1) ++ [n] := by
  have a : (l.any fun p => decide (p.1 = n)) = decide (n ∈ l.map (·.1)) := by
    rw [Bool.eq_iff_iff, List.any_eq_true, decide_eq_true_iff, List.mem_map]
    constructor
    · rintro ⟨p, h, e⟩
      exact ⟨p, h, of_decide_eq_true e⟩
    · rintro ⟨p, h, e⟩
      exact ⟨p, h, decide_eq_true e⟩
  unfold pt
  rw [a]
  by_cases h : n ∈ l.map (·.1)
  · rw [if_pos (decide_eq_true h), if_pos h, List.map_map]
    refine List.map_congr_left fun p _ => ?_
    by_cases e : p.1 = n
    · simp [e]
    · simp [e]
  · rw [if_neg (by simp [h]), if_neg h, List.map_append]
    rfl
theorem pt_same {n s : Str} : ∀ {l : Ks}, (l.map (·.1)).Nodup → lk l n = some s → pt l n s = l
  | [], _, h => by simp [lk] at h
  | p :: r, nd, h => by
    obtain ⟨n1, n2⟩ := List.nodup_cons.mp nd
    unfold pt
    by_cases e : p.1 = n
    · have hp : p.2 = s := by simpa [lk, e] using h
      rw [if_pos (by simp [e])]
      have hr : r.map (fun q => if q.1 = n then (q.1, s) else q) = r := by
        conv => rhs; rw [← List.map_id r]
        refine List.map_congr_left fun q hq => ?_
        rw [if_neg (fun z => n1 (by show p.1 ∈ _; rw [e, ← z]; exact List.mem_map_of_mem (f := (·.1)) hq))]
        rfl
      rw [List.map_cons, hr, if_pos e, ← hp]
    · have h' : lk r n = some s := by simpa [lk, e] using h
      have ih := pt_same n2 h'
      have ha : (r.any fun q => decide (q.1 = n)) = true := by
        unfold lk at h'
        cases hf : r.find? (fun q => decide (q.1 = n)) with
        | none =>
          rw [hf] at h'
          cases h'
        | some q =>
          have hd := List.find?_some hf
          exact List.any_eq_true.mpr ⟨q, List.mem_of_find?_eq_some hf, hd⟩
      unfold pt at ih
      rw [if_pos ha] at ih
      rw [if_pos (by rw [List.any_cons, ha, Bool.or_true]), List.map_cons, ih, if_neg e]
def st (l : Ks) (p : Str × Str) : Option Ks :=
  if (lk l p.1).getD "any" = "any" then some (pt l p.1 p.2) else if p.2 ≠ "any" ∧ p.2 ≠ (lk l p.1).getD "any" then none else some l
def go : Ks → List (Str × Str) → Except Str Ks
  | l, [] => .ok l
  | l, p :: r => match st l p with
    | some l' => go l' r
    | none => .error p.1
theorem go_one (l : Ks) (p : Str × Str) : go l [p] = match st l p with
    | some l' => .ok l'
    | none => .error p.1 := by
  cases h : st l p with
  | some l' => simp [go, h]
  | none => simp [go, h]
theorem go_app (b : List (Str × Str)) : ∀ (a : List (Str × Str)) (l : Ks), go l (a ++ b) = match go l a with
    | .ok l' => go l' b
    | .error n => .error n
  | [], _ => rfl
  | p :: r, l => by
    show (match st l p with | some l' => go l' (r ++ b) | none => .error p.1) = _
    cases h : st l p with
    | some l' =>
      have ih := go_app b r l'
      rw [show go l (p :: r) = go l' r by simp [go, h]]
      exact ih
    | none => rw [show go l (p :: r) = .error p.1 by simp [go, h]]
theorem st_keys {l l' : Ks} {p : Str × Str} (h : st l p = some l') (nd : (l.map (·.1)).Nodup) : (l'.map (·.1)).Nodup ∧ (∀ n ∈ l'.map (·.1), n ∈ l.map (·.1) ∨ n = p.1) ∧ l'.length ≤ l.length + 1 := by
  unfold st at h
  split at h
  · cases h
    have e := pt_keys l p.1 p.2
    refine ⟨?_, ?_, pt_len _ _ _⟩
    · rw [e]
      split
      · exact nd
      · rename_i hn
        exact nd_snoc nd hn
    · intro n hn
      rw [e] at hn
      split at hn
      · exact .inl hn
      · rcases List.mem_append.mp hn with hn | hn
        · exact .inl hn
        · exact .inr (List.mem_singleton.mp hn)
  · split at h
    · cases h
    · cases h
      exact ⟨nd, fun n hn => .inl hn, Nat.le_succ _⟩
theorem go_keys : ∀ {a : List (Str × Str)} {l l' : Ks}, go l a = .ok l' → (l.map (·.1)).Nodup → (l'.map (·.1)).Nodup ∧ ∀ n ∈ l'.map (·.1), n ∈ l.map (·.1) ∨ n ∈ a.map (·.1)
  | [], l, l', h, nd => by
    have : l = l' := by simpa [go] using h
    subst this
    exact ⟨nd, fun n hn => .inl hn⟩
  | p :: r, l, l', h, nd => by
    cases hs : st l p with
    | none =>
      rw [show go l (p :: r) = .error p.1 by simp [go, hs]] at h
      cases h
    | some l1 =>
      rw [show go l (p :: r) = go l1 r by simp [go, hs]] at h
      obtain ⟨k1, k2, _⟩ := st_keys hs nd
      obtain ⟨g1, g2⟩ := go_keys h k1
      refine ⟨g1, fun n hn => ?_⟩
      rcases g2 n hn with z | z
      · rcases k2 n z with z | z
        · exact .inl z
        · exact .inr (by rw [z]; exact List.mem_cons_self)
      · exact .inr (List.mem_cons_of_mem _ z)
def names5 : List Str := ["n", "w", "who", "m", "x"]
theorem few_keys {l : Ks} (nd : (l.map (·.1)).Nodup) (h : ∀ n ∈ l.map (·.1), n ∈ names5) : l.length ≤ 5 := by
  have := nd.length_le_of_subset (fun n hn => h n hn)
  rw [List.length_map] at this
  exact this
def kn (l : Ks) (n : Str) : Str := (lk l n).getD "any"
theorem st_none {l : Ks} {n k : Str} : st l (n, k) = none ↔ ((k ≠ "any" ∧ kn l n ≠ "any") ∧ k ≠ kn l n) := by
  unfold st
  show (if kn l n = "any" then _ else if k ≠ "any" ∧ k ≠ kn l n then none else some l) = none ↔ _
  by_cases h : kn l n = "any"
  · rw [if_pos h]
    simp [h]
  · rw [if_neg h]
    by_cases h2 : k ≠ "any" ∧ k ≠ kn l n
    · rw [if_pos h2]
      simp [h, h2]
    · rw [if_neg h2]
      simp only [reduceCtorEq, false_iff]
      rintro ⟨⟨a, _⟩, b⟩
      exact h2 ⟨a, b⟩
theorem st_put {l l' : Ks} {n k : Str} (nd : (l.map (·.1)).Nodup) (h : st l (n, k) = some l') : pt l n (if k = "any" then kn l n else k) = l' := by
  unfold st at h
  have h : (if kn l n = "any" then some (pt l n k) else if k ≠ "any" ∧ k ≠ kn l n then none else some l) = some l' := h
  by_cases c : kn l n = "any"
  · rw [if_pos c] at h
    cases h
    by_cases e : k = "any"
    · rw [if_pos e, c, e]
    · rw [if_neg e]
  · rw [if_neg c] at h
    split at h
    · cases h
    · rename_i c2
      cases h
      have hl : lk l n = some (kn l n) := by
        unfold kn at c ⊢
        cases z : lk l n with
        | none =>
          rw [z] at c
          exact absurd rfl c
        | some v => rfl
      have e : (if k = "any" then kn l n else k) = kn l n := by
        by_cases e : k = "any"
        · rw [if_pos e]
        · rw [if_neg e]
          by_cases e2 : k = kn l n
          · exact e2
          · exact absurd ⟨e, e2⟩ c2
      rw [e]
      exact pt_same nd hl
/-- what a node's tuple says -/
theorem own_of {H : Hp} {u : T} {v : V} (h : Nodes H u [v]) (w : Wf u false) : ∃ p x xs, v = .ref p ∧ H p = some (.tup (.str x :: xs)) ∧
    ((∃ n xs', xs = .str n :: xs' ∧ ((x = "show" ∧ u.own = [(n, ("any" : Str))]) ∨ (x = "select" ∧ u.own = [(n, ("text" : Str))]) ∨ (x = "plural" ∧ u.own = [(n, ("number" : Str))]))) ∨ ((x = "text" ∨ x = "number") ∧ u.own = [])) := by
  cases u with
  | nil => cases (show [v] = [] from h)
  | text s r =>
    obtain ⟨p, ws, e, hp, hr⟩ := h
    cases e
    exact ⟨p, _, _, rfl, hp, .inr ⟨.inl rfl, rfl⟩⟩
  | shw n r =>
    obtain ⟨p, ws, e, hp, hr⟩ := h
    cases e
    exact ⟨p, _, _, rfl, hp, .inl ⟨n, [], rfl, .inl ⟨rfl, rfl⟩⟩⟩
  | num r =>
    obtain ⟨p, ws, e, hp, hr⟩ := h
    cases e
    exact ⟨p, _, _, rfl, hp, .inr ⟨.inr rfl, rfl⟩⟩
  | cho hd cs o r =>
    obtain ⟨p, ws, ca, cvs, oa, ovs, e, hp, _, _, _, _, hr⟩ := h
    cases e
    rcases w.2.1 with ⟨n, rfl⟩ | ⟨n, off, rfl⟩
    · exact ⟨p, _, _, rfl, hp, .inl ⟨n, _, rfl, .inr (.inl ⟨rfl, rfl⟩)⟩⟩
    · exact ⟨p, _, _, rfl, hp, .inl ⟨n, _, rfl, .inr (.inr ⟨rfl, rfl⟩)⟩⟩
  | cas k m r => cases w.1
end Mw

/-! an __init__ whose first statement is super().__init__(..), of an own class below ValueError -/
namespace Sx
open PySem PySem.Spec PyProof.Rows L2 NdefX
/-- what the row says of the class at C (the cell cc holds it) and of its __init__ at f -/
structure Sup (P : Program) (K : PySem.W.Frag) (mg : Str → Option Value) (C cc cda f : Addr) (F : NF) (ps : List Str) : Prop where
  T : OexC K C
  fn : ∃ (dV kV doc pm ct oc : Value) (an od : Option Addr) (osl : Array (Option Value)), K.lookup f = some ⟨oc, od, .func (PySem.W.fnX F.name F.qual F.params F.body F.scope F.cl dV kV doc pm an (.ref F.c) ct), osl⟩
  cl : F.cl = [(("__class__" : Str), cc)]
  fc : F.c = cda
  cd : PySem.W.codeIn K (.ref cda) F.qual = true
  ar : ∃ ar : Arg, (F.params.posonlyargs ++ F.params.args).head? = some ar ∧ ps[0]? = some ar.arg
  code : ∃ (ccl : Value) (cdd : Option Addr) (vs : Array Value) (ccs : Array (Option Value)) (file : Str) (tf : Tok), K.lookup cda = some ⟨ccl, cdd, .fields vs, ccs⟩ ∧ vs[2]? = some (.str file tf) ∧ ((P.main.file : Str) == file) = true
  cell : ∃ (c1 : Value) (d1 : Option Addr) (s1 : Array (Option Value)), K.lookup cc = some ⟨c1, d1, .cell (some (.ref C)), s1⟩
  isC : ∃ cd, PySem.W.clsIn K C = some cd
  sub : PySem.W.mroIn K C (.ref C) = some true
  gs : mg "super" = none
  ks : F.scope.names.lookup ("super" : Str) = some .globalImplicit
  top : (P.main.scope.names.lookup ("super" : Str)).isSome = false
  sm : PySem.W.ks_superIn K C C "__init__" = some (some (.builtin "ValueError.__init__"))
  opq : PySem.W.nsIn K cStatics "thirdparty.any" = some none
  isV : PySem.W.subIn K (.ref C) (.type "ValueError") = some true
section
variable {M : Model} {A : Around} {E : Value → Shared → Prop} {h : Heap} {g : Array GenState} {d : Drawn} {t : Nat} {os : OsState}
variable {nm q : Str} {C N : Addr} {bs bm : List Value} {hdct : Bool} {sn : List Str} {sub : List Value} {ab : Bool} {col : Option Bool} {dd : Option Addr} {k0 k1 k2 k3 k5 : Option Value}
theorem cw_mw {pos : Pos} {u x : Addr} {i : String} {env : Env} {e : Expr} {es : List Expr} {s : Shared} {Q : Value → Shared → Prop} (he : starEach (e :: es) env = (false, eval e env) :: starEach es env) (hpl : (backTo pos (starEach es env)).any (·.1) = false)
    (h : wpAny M A (spliced (backTo pos (starEach (e :: es) env))) (fun vs s1 => PySem.W.KxsAt i u x s1.heap ∧ wpAny M A (call (.ref u) vs) Q E s1) E s) : wpAny M A (callWith pos (.ref u) [] (backTo pos (starEach (e :: es) env)) []) Q E s := by
  have hb : (backTo pos (starEach (e :: es) env)).any (·.1) = false := by
    rw [he]
    show (false || (backTo pos (starEach es env)).any (·.1)) = false
    rw [hpl]
    rfl
  refine PySem.W.kxs_callWith (i := i) (x := x) hb ?_
  rw [he] at h ⊢
  exact Calls.evalArgs_plain h
theorem call_mw {P : Program} {w : World} {u e t0 : Addr} {us : List Value} {Q : Value → Shared → Prop} (hC : h.get? C = some (excClassObj nm q C N bs bm hdct sn sub ab col dd k0 k1 k2 k3 k5 "ValueError.__new__"))
    (he : h.get? e = some (HandSPX.excO C t0)) (hu : h.get? u = some (PySem.W.kxs_mw "ValueError.__init__" e)) (hl : us.length ≤ sizeLine)
    (hq : ∀ h' t1, (∀ b o, b ≠ e → h.get? b = some o → h'.get? b = some o) → h'.get? e = some (HandSPX.excO C t1) → Q .none ⟨h', g, d, t, os⟩) : wpAny (model P w) A (call (.ref u) us) Q E ⟨h, g, d, t, os⟩ := by
  refine wpAny_call (codeAny_of_tree ?_)
  show wpAny (model P w) A.in1 (callAny (Value.ref u) ⟨us, []⟩) _ _ _
  simp only [callAny]
  refine wpAny_bind (wpAny_load hu ?_)
  have tw : (Value.type "method-wrapper" == Value.type "method" || Value.type "method-wrapper" == Value.type "builtin_function_or_method" || Value.type "method-wrapper" == Value.type "method-wrapper") = true := by decide
  simp only [PySem.W.kxs_mw, tw, if_true]
  refine PySem.W.KFB.if_so (by decide) ?_
  refine wpAny_bind (PySem.W.check_bound_init F.excBase_ValueError.toExcCallFacts hC he rfl ?_)
  refine wpAny_bind (wpAny_pure (wpAny_pure ?_))
  refine ⟨plainId_quiet F.excBase_ValueError.init.plain _, codeAny_builtin F.excBase_ValueError.initEntry ?_⟩
  rw [Around.under_plainId F.excBase_ValueError.init.plain _]
  refine PySem.W.exc_init_tree (cls := .ref C) (t0 := t0) (dv := none) (c2 := .none) (c3 := .none) (b4 := .bool false) he hl (fun h' k e' _ => ?_)
  exact hq h' _ k e'
end
section
variable {CX : CXT} {P : Program} {w : World} {K : PySem.W.Frag} {mg : Str → Option Value} {base : Heap} {C cc cda f : Addr} {F : NF} {N ps : List Str} {k : Nat} {sp : Sp} {body rest : List Stmt} {p0 p1 p2 p3 p4 : Pos} {e : Expr} {es : List Expr}
theorem fn_super {dV kV doc pm ct : Value} {an : Option Addr} {oc : Value} {od : Option Addr} {osl : Array (Option Value)} (U : Sup P K mg C cc cda f F ps) (lk : K.lookup f = some ⟨oc, od, .func (PySem.W.fnX F.name F.qual F.params F.body F.scope F.cl dV kV doc pm an (.ref F.c) ct), osl⟩)
    (S : NScope N ps ["__class__"] F.scope)
    (hbd : F.body = .Expr (.Call (.Attribute (.Call (.Name "super" p0) [] [] p1) "__init__" p2) (e :: es) [] p3) p4 :: rest)
    (len : ∀ vs H Q E, sp vs H Q E → vs.length = ps.length)
    (he : ∀ env, starEach (e :: es) env = (false, eval e env) :: starEach es env) (hpl : ∀ env, (backTo p3 (starEach es env)).any (·.1) = false)
    (hev : ∀ env, eval (.Call (.Attribute (.Call (.Name "super" p0) [] [] p1) "__init__" p2) (e :: es) [] p3) env = (do
      let ov ← attributeBase (.Call (.Name "super" p0) [] [] p1) "__init__" env (eval (.Call (.Name "super" p0) [] [] p1) env)
      standAt p2.atName
      let (f, first) ← holding [ov] (getMethod ov "__init__" (pure false))
      callWith p3 f first (backTo p3 (starEach (e :: es) env)) []))
    (hin : ∀ env : Env, env.scope = F.scope → interactive env = false)
    (hsw : ∀ env : Env, swapsWith (.Call (.Attribute (.Call (.Name "super" p0) [] [] p1) "__init__" p2) (e :: es) [] p3) none p4.line env = pure false)
    (hbody : ∀ (A : Around) (outer : List Env) (s : Shared) (H : Hp) (vs : List V) (Q : VK) (E : XK), Room k (A.deeper (envF F f s.heap.objs.size)) → sp vs H Q E →
      ∃ (x : Addr) (ta : TA) (t : TS), vs[0]? = some (.ref x) ∧ H x = some (exo x C none) ∧ PA (ncx CX P w K mg base N F f A outer s H E) (e :: es) ta ∧ PSs (ncx CX P w K mg base N F f A outer s H E) rest t ∧
        ta (startF N vs [none]) H fun us H1 => us.length ≤ 1000 ∧ H1 x = some (exo x C none) ∧ t { nx := fun _ H' => Q .non H', rt := Q } (startF N vs [none]) H1) :
    FnOk P w K mg base CX (k + 1) f (PySem.W.fnX F.name F.qual F.params F.body F.scope F.cl dV kV doc pm an (.ref F.c) ct) ps sp := by
  refine ⟨len, fun A outer s H args us vs Q E hr e0 hb r hsp => ?_⟩
  have hl := len _ _ _ _ hsp
  have KX : K.In s.heap := e0.mod.kin.keeps fun b o z => (e0.bs b o z).1
  have lim : s.heap.NoLimit := e0.mod.nolimit.keeps fun b o z => (e0.bs b o z).1
  obtain ⟨ar, ha1, ha2⟩ := U.ar
  obtain ⟨ccl, cdd, cvs, ccs, file, tf, hco, hv2, hfi⟩ := U.code
  obtain ⟨c1, d1, s1, hce⟩ := U.cell
  obtain ⟨cdC, hcC⟩ := U.isC
  have hfc := U.fc
  subst hfc
  refine PySem.ks_codeAny_call_defAt (fd := PySem.W.fnX F.name F.qual F.params F.body F.scope F.cl dV kV doc pm an (.ref F.c) ct) hr.depth (KX _ _ lk) rfl lim (PySem.W.codeRec_of KX U.cd) rfl hb S.nocell (fun ⟨n, _⟩ hy => S.par n (List.of_mem_zip hy).1) (fun h₁ hns kp => ?_) S.co S.gen S.kind
  show PySem.wpAt (model P w) (A.deeper (envF F f s.heap.objs.size)) (.func F.body (envF F f s.heap.objs.size)) (execs F.body (envF F f s.heap.objs.size)) _ _ _
  obtain ⟨x, ta, t, hx0, hHx, hA, hS, hq⟩ := hbody A outer s H vs Q E (hr.deeper _) hsp
  have CA : CellsAt F.cl ["__class__"] [none] s.heap H := by
    have hcb := e0.bs cc _ (e0.mod.kin _ _ hce)
    rw [U.cl]
    refine ⟨rfl, fun y c z => ?_, fun y z c a b => ?_, fun i y hy => ?_⟩
    · have : y = "__class__" ∧ c = cc := by
        simp only [List.lookup] at z
        split at z
        · rename_i q
          exact ⟨by simpa using q, (Option.some.inj z).symm⟩
        · cases z
      rw [this.2]
      exact ⟨hcb.2, _, ⟨_, hcb.1, rfl⟩⟩
    · simp only [List.lookup] at a b
      split at a
      · split at b
        · rename_i q1 _ q2
          rw [show y = "__class__" by simpa using q1, show z = "__class__" by simpa using q2]
        · cases b
      · cases a
    · have : y = "__class__" := by
        cases i with
        | zero => exact (Option.some.inj hy).symm
        | succ i => simp at hy
      subst this
      refine ⟨cc, by simp [List.lookup], fun v hv => ?_⟩
      cases i with
      | zero => cases hv
      | succ i => simp at hv
  have I : Inv (ncx CX P w K mg base N F f A outer s H E) [] (startF N vs [none]) H { s with heap := h₁, toks := s.toks + (ps.zip us).length } := inv_startN S hr.hd e0 hl r CA hns kp
  have KX1 : K.In h₁ := KX.keeps kp
  have hkc : F.scope.names.lookup ("__class__" : Str) = some .free := S.frk _ List.mem_cons_self
  have npar : ps.Nodup := by
    have q := S.pre
    have z : (N.take (ps.length + [("__class__" : Str)].length)).Nodup := S.nd.sublist (List.take_sublist _ N)
    rw [q] at z
    exact (List.nodup_append.mp z).1
  have hux : us[0]? = some (.ref x) := by
    cases r with
    | nil => simp at hx0
    | @cons v0 u0 vr ur rv rr =>
      simp at hx0
      subst hx0
      obtain rfl : u0 = Value.ref x := rv
      rfl
  have hself : (ps.zip us).reverse.lookup ar.arg = some (.ref x) := zip_look npar ha2 hux
  have hka : F.scope.names.lookup ar.arg = some .local := S.par _ (List.mem_of_getElem? ha2)
  obtain ⟨t1, hox⟩ := exo_at I.hok hHx
  have hox' : h₁.get? x = some (HandSPX.excO C t1) := hox
  rw [hbd]
  obtain ⟨sh, sg, sd, st, so⟩ := s
  have hi := hin (envF F f sh.objs.size) rfl
  refine PySem.ks_wpAt_execs_cons (PySem.ks_wpAt_Expr_any (PySem.ks_wpAt_MethodCall (pl := pure false) ?_ (hev _)) hi (hsw _))
  obtain ⟨oD, hD1, hD2⟩ : ∃ oD, h₁.get? C = some oD ∧ oD.data = .cls cdC := by
    unfold PySem.W.clsIn at hcC
    split at hcC
    · rename_i c d cd' sl ho
      cases hcC
      exact ⟨_, KX1 _ _ ho, rfl⟩
    · cases hcC
  refine PySem.ks_wpAt_super_base (env := envF F f sh.objs.size) U.ks hkc (by decide) rfl (KX1 _ _ lk) rfl ha1 rfl (KX1 _ _ hco) rfl hv2 hfi U.top ?_
  obtain ⟨mb, hb1, hb2⟩ := I.mod.blt
  refine PySem.W.ks_loadName_global S.kind U.ks (Calls.loadGlobal_builtin (I.mod.glob.keeps I.bk) U.gs (hb1.keeps I.bk) ((hb2 "super" (by decide)).trans PyProof.Rows.Boot.«super») ⟨rfl, ?_⟩)
  refine wpAny_loadName_free S.kind hkc (c := cc) (by show F.cl.lookup _ = _; rw [U.cl]; rfl) ⟨_, KX1 _ _ hce, rfl⟩ ?_
  refine wpAny_loadName_local S.kind hka hns hself ?_
  refine PySem.ks_wpAny_isType_cls hD1 hD2 ⟨rfl, ?_⟩
  refine PySem.ks_wpAny_call_super hD1 hD2 hox' rfl (fun c z => by cases z) (PySem.W.looks_mroIn KX1 U.sub) (fun h2 es2 k2 => ?_)
  have KX2 : K.In h2 := KX1.keeps k2
  have IA : PySem.W.InstAt h2 x (HandSPX.excO C t1) C none := ⟨k2 _ _ hox', rfl, rfl, trivial⟩
  have hII : PySem.W.Looks (model P w) h2 (isInstance (.ref x) (.type "ValueError")) true := IA.type.andThen (PySem.W.looks_subIn KX2 U.isV)
  have hm := U.sm
  unfold PySem.W.ks_superIn at hm
  rw [hcC] at hm
  refine PySem.W.kxs_getMethod PySem.W.kxs_ValueError es2 (PySem.W.looks_opaque KX2 U.opq) (l₀ := cdC.mro) ?_ rfl KX2 hm hII (PySem.W.ks_ne KX2 IA hcC) (by decide) ?_
  · exact fun A Q E s k q => wpAny_bind ((PySem.W.looks_clsIn KX2 hcC) A _ E s k (wpAny_pure q))
  have hu : (h2.push (PySem.W.kxs_mw "ValueError.__init__" x)).get? h2.objs.size = some (PySem.W.kxs_mw "ValueError.__init__" x) := Heap.get?_push_size _ rfl
  have k3 : ∀ b o, h₁.get? b = some o → (h2.push (PySem.W.kxs_mw "ValueError.__init__" x)).get? b = some o := fun b o z => Heap.get?_push_of_some _ (k2 b o z)
  have I3 : Inv (ncx CX P w K mg base N F f A outer ⟨sh, sg, sd, st, so⟩ H E) [] (startF N vs [none]) H ⟨h2.push (PySem.W.kxs_mw "ValueError.__init__" x), sg, sd, st + (ps.zip us).length + 1, so⟩ := I.kept (t' := st + (ps.zip us).length + 1) k3
  have I2 : Inv (ncx CX P w K mg base N F f A outer ⟨sh, sg, sd, st, so⟩ H E) [] (startF N vs [none]) H ⟨h2, sg, sd, st + (ps.zip us).length, so⟩ := I.kept (t' := st + (ps.zip us).length) k2
  have I4 : Inv (ncx CX P w K mg base N F f A outer ⟨sh, sg, sd, st, so⟩ H E) [(h2.objs.size, PySem.W.kxs_mw "ValueError.__init__" x)] (startF N vs [none]) H ⟨h2.push (PySem.W.kxs_mw "ValueError.__init__" x), sg, sd, st + (ps.zip us).length + 1, so⟩ :=
    I3.pins_of fun p hp => by
      rw [List.mem_singleton] at hp
      subst hp
      exact ⟨hu, I2.hok.fresh (Nat.le_refl _), fun z => absurd I2.lt (by rw [← z]; exact Nat.lt_irrefl _), I2.nofs (Nat.le_refl _), fun v z => by cases z⟩
  refine cw_mw (i := "ValueError.__init__") (x := x) (he _) (hpl _) ?_
  refine thn (hA.run p3 _ _ _ H _ (I4.tok _) hq) fun us2 s2 hz => ?_
  obtain ⟨vs2, H2, J, r2, hl2, hx2, ht2⟩ := hz
  obtain ⟨hpu, _⟩ := J.pin (h2.objs.size, PySem.W.kxs_mw "ValueError.__init__" x) (List.mem_append_right _ List.mem_cons_self)
  refine ⟨hpu, ?_⟩
  obtain ⟨nm, q, NN, bs, bm, sn, sub, ab, col, dd, k0, k1, kk2, kk3, k5, hCl, hbm⟩ := U.T.cls
  obtain ⟨t2, ho2⟩ := exo_at J.hok hx2
  have hlen2 : us2.length ≤ sizeLine := by
    rw [← Paired.length r2, sizeLine_eq]
    omega
  obtain ⟨hp2, g2, d2, tk2, os2⟩ := s2
  refine call_mw (J.kIn _ _ hCl) ho2 hpu hlen2 fun h' t3 k3 hx3 => ?_
  have J1 := J.write (t' := tk2) (x := x) (e := x) (o := exo x C none) (by rw [hx2]; exact True.intro) (.inl rfl) k3 ⟨_, hx3⟩ (exo_ok hx3)
  have eu : upd H2 x (exo x C none) = H2 := by
    funext b
    by_cases hb : b = x
    · rw [hb, upd_same, hx2]
    · rw [upd_ne hb]
  rw [eu] at J1
  have J2 := J1.pins_of (pins' := []) fun p hp => absurd hp (by simp)
  refine PySem.wpAt_of_wpAny (wpAny_mono (hS.run [] _ (startF N vs [none]) H2 _ J2 ht2) (fun fl s' hs => ?_) fun e s' hs => hs)
  cases fl with
  | ret u =>
    obtain ⟨v, σ', H', G, rv, q⟩ := hs
    exact ⟨v, H', G.os, G.bare, G.base, G.hok, rv, q⟩
  | next =>
    obtain ⟨σ', H', G, q⟩ := hs
    exact ⟨V.non, H', G.os, G.bare, G.base, G.hok, rfl, q⟩
  | brk => exact hs.elim fun _ z => z.elim fun _ z => False.elim z.2
  | cont => exact hs.elim fun _ z => z.elim fun _ z => False.elim z.2
end
end Sx

namespace Mw
open PySem L2 NdefX Sx
theorem slenS (a b : Str) : (a ++ b).length = a.length + b.length := by
  show (a.cps ++ b.cps).size = _
  rw [Array.size_append]
  rfl
def initOf (s : Stmt) : Stmt := match s with
  | .ClassDef _ _ _ b _ _ _ _ _ _ _ => b.headD (.Pass ⟨0, 0, 0, 0⟩)
  | s => s
abbrev sBad : Stmt := initOf (top 2)
abbrev nBad (cc cda : Addr) : NF := ⟨"__init__", "BadMessage.__init__", defArgs sBad, defBody sBad, defScope sBad, [("__class__", cc)], cda⟩
theorem scBad : NScope ["self", "name", "__class__"] ["self", "name"] ["__class__"] (defScope sBad) := nscope_by (by decide +kernel)
def spBad (C : Addr) : Sp := fun vs H Q _ => ∃ (x : Addr) (n : Str), vs = [.ref x, .str n] ∧ n.length ≤ 100 ∧ H x = some (exo x C none) ∧ ∀ dx, H dx = none → dx ≠ x → Q .non (upd (upd H dx (exd dx [("name", .str n)])) x (exo x C (some dx)))
section
variable {P : Program} {w : World} {K : PySem.W.Frag} {mg : Str → Option Value} {base : Heap}
theorem ok_bad {CX : CXT} {C cc cda f : Addr} {dV kV doc pm ct oc : Value} {an od : Option Addr} {osl : Array (Option Value)} (U : Sup P K mg C cc cda f (nBad cc cda) ["self", "name"]) (no : PySem.W.findIn K (.ref C) "name" = some none)
    (lk : K.lookup f = some ⟨oc, od, .func (PySem.W.fnX "__init__" "BadMessage.__init__" (defArgs sBad) (defBody sBad) (defScope sBad) [("__class__", cc)] dV kV doc pm an (.ref cda) ct), osl⟩) :
    FnOk P w K mg base CX 1 f (PySem.W.fnX "__init__" "BadMessage.__init__" (defArgs sBad) (defBody sBad) (defScope sBad) [("__class__", cc)] dV kV doc pm an (.ref cda) ct) ["self", "name"] (spBad C) := by
  refine fn_super (k := 0) (F := nBad cc cda) U lk scBad rfl (fun vs H Q E h => ?_) (fun _ => rfl) (fun _ => rfl) (fun _ => rfl) (fun env h => by unfold interactive; rw [h]; rfl) (fun _ => rfl) (fun A outer s H vs Q E hr h => ?_)
  · obtain ⟨x, n, rfl, _⟩ := h
    rfl
  obtain ⟨x, n, rfl, hn, hx, q⟩ := h
  refine ⟨x, _, _, rfl, hx, pa_cons (pe_joined (.cons (pe_fmt (pv 1)) (.cons pe_str .nil))) pa_nil, pss_one (ps_ost (pv 0) (pv 1)), ?_⟩
  have e0 : (Str.empty ++ n).length = n.length := by rw [slenS, show Str.empty.length = 0 from rfl, Nat.zero_add]
  refine ⟨_, rfl, .inl ⟨n, rfl, Nat.le_trans hn (by decide), n, rfl, by rw [e0]; exact Nat.le_trans hn (by decide), _, rfl, ?_, by show 1 ≤ 1000; decide, hx, ?_⟩⟩
  · rw [slenS, e0]
    exact Nat.le_trans (Nat.add_le_add_right hn _) (by decide)
  · exact ⟨_, rfl, _, rfl, x, C, rfl, U.T, no, .inl ⟨hx, q⟩⟩
end
end Mw

namespace Mw
open PySem L2
def allNames (t : T) : Prop := ∀ p ∈ t.asks, p.1 ∈ names5
abbrev sKinds : Stmt := top 10
theorem scKinds : FnScope ["message", "kinds", "node", "name", "asked", "known"] ["message"] (defScope sKinds) := ⟨rfl, rfl, rfl, by decide +kernel, rfl, by decide +kernel, by decide +kernel⟩
def outK (l : Ks) (ys : List Str) : List (L2.Key × V) := kv (ys.map fun n => (n, (lk l n).getD "any"))
def spKinds (C : Addr) : Sp := fun vs H Q E => ∃ (a : Addr) (t : T), vs = [.ref a] ∧ At H a t ∧ Wf t false ∧ t.sz < 80000 ∧ allNames t ∧
  (∀ l, go [] t.asks = .ok l → ∀ d H' ys, H d = none → Same H H' → ys.Perm (l.map (·.1)) → PyProof.Rows.sortedS ys = true → H' d = some (.dK (outK l ys)) → Q (.ref d) H') ∧
  (∀ n, go [] t.asks = .error n → ∀ dx H', H dx = none → Same H H' → H' dx = some (.xd [("name", .str n)]) → E (.ref C) (some dx) H')
/-- what the row says of the kinds by words -/
structure KA (K : PySem.W.Frag) (mg : Str → Option Value) (w : World) (kd : Addr) (es : Array DictEntry) (n : Nat) : Prop where
  g : mg "ASKED_KINDS" = some (.ref kd)
  d : KDict K w kd es n
  k1 : ∃ t, PySem.W.nsIn K kd "show" = some (some (.str "any" t))
  k2 : ∃ t, PySem.W.nsIn K kd "select" = some (some (.str "text" t))
  k3 : ∃ t, PySem.W.nsIn K kd "plural" = some (some (.str "number" t))
  n1 : PySem.W.nsIn K kd "text" = some none
  n2 : PySem.W.nsIn K kd "number" = some none
theorem short5 {n : Str} (h : n ∈ names5) : n.length ≤ 100 := by
  have a : ∀ s ∈ names5, s.length ≤ 100 := by decide +kernel
  exact a n h
/-- a dict that is made over a list, turn by turn -/
theorem dcl {K : PySem.W.Frag} {a D : Addr} {xs : List V} {g : TG} {tt : TT} {tk tv : TE} {own : List Nat} {σ : L2.St} {H1 : Hp} {Qd : Hp → Prop} (J : Nat → Hp → Prop)
    (j0 : J 0 (upd H1 D (.dK []))) (jl : ∀ i H, i ≤ xs.length → J i H → SqL K H a xs)
    (step : ∀ i x H, xs[i]? = some x → J i H → g x (wipe σ own) H fun σ2 H2 => wipe σ2 own = wipe σ own ∧ tt σ2 H2 fun b H3 =>
      if b = true then tk σ2 H3 fun y H4 => tv σ2 H4 fun z H5 => ∃ kvs k, y = kV k ∧ H5 D = some (.dK kvs) ∧ kvs.length < sizeLine ∧ J (i + 1) (upd H5 D (.dK (putK kvs k z))) else J (i + 1) H3)
    (done : ∀ H, J xs.length H → Qd H) : ∃ W : Nat → Nat → Hp → Prop, (∃ m, W 0 m (upd H1 D (.dK []))) ∧ ∀ i m H, W i m H →
      ((Itl K a).stop i H ∧ Qd H) ∨ ((Itl K a).go i H ∧ ∃ Nx : Hp → Prop, (∀ H', Nx H' → ∃ m', m' < m ∧ W (i + 1) m' H') ∧
        ∀ x H', (Itl K a).yld i H x H' → g x (wipe σ own) H' fun σ2 H2 => wipe σ2 own = wipe σ own ∧ tt σ2 H2 fun b H3 =>
          if b = true then tk σ2 H3 fun y H4 => tv σ2 H4 fun z H5 => ∃ kvs k, y = kV k ∧ H5 D = some (.dK kvs) ∧ kvs.length < sizeLine ∧ Nx (upd H5 D (.dK (putK kvs k z))) else Nx H3) := by
  refine ⟨fun i m H => m + i = xs.length ∧ J i H, ⟨xs.length, rfl, j0⟩, fun i m H ⟨e, j⟩ => ?_⟩
  have hs := jl i H (by omega) j
  by_cases hi : i < xs.length
  · refine .inr ⟨⟨xs, xs[i], hs, by simp [hi]⟩, J (i + 1), fun H' j' => ⟨m - 1, by omega, by omega, j'⟩, fun x H' z => ?_⟩
    obtain ⟨rfl, z⟩ := z
    exact step i x _ (z xs hs) j
  · have : i = xs.length := by omega
    subst this
    exact .inl ⟨⟨xs, hs, Nat.le_refl _⟩, done H j⟩
section
variable {P : Program} {w : World} {K : PySem.W.Frag} {mg : Str → Option Value} {base : Heap}
theorem ok_kinds {f fA fB C kd : Addr} {fd fdA fdB : FuncData} {es : Array DictEntry} {n : Nat} (F : Fun K "kinds_of" "kinds_of" sKinds f fd) (GA : FnOk P w K mg base CX0 3 fA fdA ["message"] spAll) (bA : Binds K fdA ["message"] []) (kA : PySem.W.keepIn K (.ref fA) = true) (mA : mg "all_nodes" = some (.ref fA))
    (A1 : KA K mg w kd es n) (ms : mg "sorted" = none)
    (U : OexC K C) (iC : PySem.W.findIn K (.ref C) "__init__" = some (some (.ref fB))) (tI : PySem.W.typeIn K (.ref fB) = some (.type "function")) (GB : FnOk P w K mg base (L2.CX P w) 1 fB fdB ["self", "name"] (spBad C)) (bB : Binds K fdB ["self", "name"] []) (mB : mg "BadMessage" = some (.ref C)) :
    FnOk P w K mg base (L2.CX P w) 4 f fd ["message"] (spKinds C) := by
  refine F.okX scKinds (fun vs H Q E h => ?_) (fun cdv A outer s H vs Q E hr h => ?_)
  · obtain ⟨a, t, rfl, _⟩ := h
    rfl
  obtain ⟨a, t, rfl, ha, hw, hz, hnm, q1, q2⟩ := h
  have nd := scKinds.nd
  have hu := hu_of hr
  refine ⟨_, pss_cons (ps_set (i := 1) nd rfl (.inr rfl) pe_dnewK)
    (pss_cons (ps_for (passes_of rfl) rfl (pi_list (pe_call GA hr rfl mA kA bA .nil pass0 (pa_cons (pv 0) pa_nil))) (pg_name (i := 2) nd rfl (.inl rfl))
      (pss_cons (ps_if (pt_cmpR (op_notIn_kd A1.d) (pe_ix ix_tup (pv 2) pe_int (fun _ _ => rfl)) (pe_glob rfl A1.g (v := .ref kd) rfl) (by rfl)) (pss_one ps_continue) pss_nil)
      (pss_cons (ps_set (i := 3) nd rfl (.inl rfl) (pe_ix ix_tup (pv 2) pe_int (fun _ _ => rfl)))
      (pss_cons (ps_set (i := 4) nd rfl (.inl rfl) (pe_ix ix_kdict (pe_glob rfl A1.g (v := .ref kd) rfl) (pe_ix ix_tup (pv 2) pe_int (fun _ _ => rfl)) (fun _ _ => rfl)))
      (pss_cons (ps_set (i := 5) nd rfl (.inl rfl) (pe_dget2 hu (pv 1) (pv 3) pe_str ⟨rfl, rfl, rfl, rfl⟩))
      (pss_cons (ps_if (PW.pt (pw_and (pt_cmpR op_notIn_seq pe_str (pe_tup (pa_cons (pv 4) (pa_cons (pv 5) pa_nil))) (by rfl)) (pw_and1 (pt_cmpR op_ne (pv 4) (pv 5) (nomark _)))))
        (pss_one (ps_raise rfl (takes_of rfl rfl rfl rfl) (pmk_oex (k := 1) U iC tI GB (hr.mono (by decide)) bB .nil passL rfl mB (pa_cons (pv 3) pa_nil)))) pss_nil)
      (pss_one (ps_dput hu (pv 1) (pv 3) (pe_ifExp (pt_cmpR op_eq (pv 4) pe_str (nomark _)) (pv 5) (pv 4)) rfl))))))))
    (pss_one (ps_ret (pe_dc (own := [("name", 3)]) (g := gName 3) (tt := tYes) rfl nd (pi_list (pe_callB (call_sortedD rfl) (by rfl) ms (by decide +kernel) (pa_cons (pv 1) pa_nil))) (blkOk_by (N := ["message", "kinds", "node", "name", "asked", "known"]) (sc := defScope sKinds) (by decide +kernel))
      (fun _ _ _ _ _ => pg_name (i := 3) nd rfl (.inl rfl)) (fun _ _ _ _ _ => pts_nil) (fun _ _ _ _ _ => pv 3) (fun _ _ _ _ _ => pe_dget hu (pv 1) (pv 3) (fun _ _ => rfl)))))), ?_⟩
  intro d hd
  have s1 : Same H (upd H d (.dK [])) := same_new hd _
  refine ⟨_, rfl, a, t, rfl, ha.same s1, hw, hz, fun l H1 ws hl s2 hl1 hns => ⟨l, rfl, ⟨_, SqL.of hl1⟩, ?_⟩⟩
  have hd1 : H1 d = some (.dK []) := s2 _ _ upd_same
  have hld : l ≠ d := fun e => by rw [e, upd_same] at hl; cases hl
  have s3 : Same H H1 := s1.trans s2
  have hl0 : H l = none := upd_none hl
  have hlen : ws.length = t.all.length := hns.length
  have hall := all_sz t
  refine for_list (xs := ws) (fun i σ H' => ∃ (lks : Ks) (o2 o3 o4 o5 : Option V), σ = [some (.ref a), some (.ref d), o2, o3, o4, o5] ∧ Same H H' ∧ H' l = some (.lst ws) ∧ H' d = some (.dK (kv lks)) ∧ (∀ b xs, H1 b = some (.tup xs) → H' b = some (.tup xs)) ∧
      go [] ((t.all.take i).flatMap T.own) = .ok lks ∧ (lks.map (·.1)).Nodup ∧ lks.length ≤ i)
    ⟨[], none, none, none, none, rfl, s3, hl1, hd1, fun _ _ z => z, rfl, List.nodup_nil, Nat.le_refl _⟩ (fun i σ H' _ ⟨_, _, _, _, _, _, _, h, _⟩ => SqL.of h) ?_ ?_
  · rintro i x σ H' hx ⟨lks, o2, o3, o4, o5, rfl, s', hl', hd', ht', hg, hn, hlk⟩
    obtain ⟨u, hu1, hu2⟩ := hns.get hx
    have uw := all_wf hw u (List.mem_of_getElem? hu1)
    obtain ⟨p, x0, xs, rfl, hp, hcase⟩ := own_of hu2 uw
    have hp' : H' p = some (.tup (.str x0 :: xs)) := ht' _ _ (s2 _ _ hp)
    have htk : (t.all.take (i + 1)).flatMap T.own = (t.all.take i).flatMap T.own ++ u.own := by
      rw [List.take_succ, hu1]
      simp
    have hi : i < 80000 := by
      have := (List.getElem?_eq_some_iff.mp hu1).1
      omega
    have hlk' : (kv lks).length < sizeLine := by
      unfold kv
      rw [List.length_map]
      exact sz_line (by omega)
    rcases hcase with ⟨nm, xs', rfl, hk⟩ | ⟨hx0, hown⟩
    · obtain ⟨kind, hkind, hown⟩ : ∃ kind : Str, (∃ tk, PySem.W.nsIn K kd x0 = some (some (.str kind tk))) ∧ u.own = [(nm, kind)] := by
        rcases hk with ⟨rfl, e⟩ | ⟨rfl, e⟩ | ⟨rfl, e⟩
        · exact ⟨_, A1.k1, e⟩
        · exact ⟨_, A1.k2, e⟩
        · exact ⟨_, A1.k3, e⟩
      obtain ⟨tk, hkind⟩ := hkind
      rw [hown] at htk
      have hmem : (nm, kind) ∈ t.asks := by
        rw [← all_asks]
        exact List.mem_flatMap.mpr ⟨u, List.mem_of_getElem? hu1, by rw [hown]; exact List.mem_cons_self⟩
      refine ⟨_, rfl, p, _, 0, .str x0, rfl, rfl, .inl (.inl hp'), atI_nat (j := 0) rfl, x0, _, rfl, rfl, hkind, _, rfl, ?_⟩
      refine iteF ?_
      refine ⟨_, rfl, p, _, 1, .str nm, rfl, rfl, .inl (.inl hp'), atI_nat (j := 1) rfl, ?_⟩
      refine ⟨_, rfl, p, _, 0, .str x0, rfl, rfl, .inl (.inl hp'), atI_nat (j := 0) rfl, kd, x0, .str kind, rfl, rfl, ⟨es, n, _, A1.d.at_, A1.d.lit, hkind, ⟨tk, rfl⟩⟩, ?_⟩
      refine ⟨_, rfl, d, rfl, .inl ⟨_, .inl hd'⟩, _, rfl, _, DGet.k (k := Sum.inr nm) hd', ?_⟩
      rw [val_kv]
      have hkn : ((lk lks nm).map V.str).getD (.str "any") = .str (kn lks nm) := by
        unfold kn
        cases lk lks nm <;> rfl
      rw [hkn]
      refine ⟨_, rfl, _, rfl, by show 2 ≤ sizeLine; decide, fun tt htt => ⟨tt, _, rfl, .inr (.inl (.inl upd_same)), rfl, rfl, _, rfl, ?_⟩⟩
      have s5 : Same H' (upd H' tt (.tup [.str kind, .str (kn lks nm)])) := same_new htt _
      show (if (!inV (V.str "any") [.str kind, .str (kn lks nm)]) = true then _ else _)
      rw [in_two]
      have go1 : go [] ((t.all.take (i + 1)).flatMap T.own) = match st lks (nm, kind) with | some l' => .ok l' | none => .error nm := by
        rw [htk, go_app, hg]
        exact go_one lks (nm, kind)
      cases hst : st lks (nm, kind) with
      | none =>
        obtain ⟨⟨k1, k2⟩, k3⟩ := st_none.mp hst
        rw [show (!decide ((Str.ofString "any") = kind ∨ (Str.ofString "any") = kn lks nm)) = true by simp [Ne.symm k1, Ne.symm k2]]
        refine iteT ⟨_, rfl, _, rfl, rfl, _, rfl, ?_⟩
        show (if (!decide (V.str kind = V.str (kn lks nm))) = true then _ else _)
        rw [show (!decide (V.str kind = V.str (kn lks nm))) = true by simp [k3]]
        refine iteT ⟨_, rfl, by show 1 ≤ 1000; decide, fun e he => ⟨e, nm, rfl, short5 (hnm _ hmem), upd_same, fun dx hdx hne => ⟨rfl, dx, _, upd_same, by rw [upd_ne hne]; exact upd_same, (upd_none hdx), ?_⟩⟩⟩
        have hgo : go [] t.asks = .error nm := by
          rw [← all_asks, ← List.take_append_drop (i + 1) t.all, List.flatMap_append, go_app, go1, hst]
        have hdxH : H dx = none := s'.free (upd_none (upd_none hdx))
        have heH : H e = none := s'.free (upd_none he)
        refine q2 nm hgo dx _ hdxH (fun b o hb => ?_) upd_same
        have b1 : b ≠ dx := ne_of_none hb hdxH
        have b2 : b ≠ e := ne_of_none hb heH
        rw [upd_ne b1, del_ne b2, upd_ne b2, upd_ne b1, upd_ne b2]
        exact s5 _ _ (s' _ _ hb)
      | some l' =>
        have hput := st_put hn hst
        obtain ⟨n1, _, n3⟩ := st_keys hst hn
        have hd5 : upd H' tt (.tup [.str kind, .str (kn lks nm)]) d = some (.dK (kv lks)) := s5 _ _ hd'
        have tail : ∀ v, pt lks nm v = l' → ∃ (lks2 : Ks) (o2 o3 o4 o5 : Option V), [some (V.ref a), some (V.ref d), some (V.ref p), some (V.str nm), some (V.str kind), some (V.str (kn lks nm))] = [some (.ref a), some (.ref d), o2, o3, o4, o5] ∧
            Same H (upd (upd H' tt (.tup [.str kind, .str (kn lks nm)])) d (.dK (putK (kv lks) (Sum.inr nm) (.str v)))) ∧ upd (upd H' tt (.tup [.str kind, .str (kn lks nm)])) d (.dK (putK (kv lks) (Sum.inr nm) (.str v))) l = some (.lst ws) ∧
            upd (upd H' tt (.tup [.str kind, .str (kn lks nm)])) d (.dK (putK (kv lks) (Sum.inr nm) (.str v))) d = some (.dK (kv lks2)) ∧
            (∀ b xs, H1 b = some (.tup xs) → upd (upd H' tt (.tup [.str kind, .str (kn lks nm)])) d (.dK (putK (kv lks) (Sum.inr nm) (.str v))) b = some (.tup xs)) ∧
            go [] ((t.all.take (i + 1)).flatMap T.own) = .ok lks2 ∧ (lks2.map (·.1)).Nodup ∧ lks2.length ≤ i + 1 := fun v hv =>
          ⟨l', _, _, _, _, rfl, same_mut (s'.trans s5) hd _, by rw [upd_ne hld]; exact s5 _ _ hl', by rw [upd_same, put_kv, hv],
            fun b xs hb => by
              rw [upd_ne (fun z => by rw [z, hd1] at hb; cases hb)]
              exact s5 _ _ (ht' _ _ hb),
            by rw [go1, hst], n1, by omega⟩
        by_cases c : (Str.ofString "any") = kind ∨ (Str.ofString "any") = kn lks nm
        · rw [show (!decide ((Str.ofString "any") = kind ∨ (Str.ofString "any") = kn lks nm)) = false by simp [c]]
          refine iteF (iteF ?_)
          refine ⟨_, rfl, rfl, _, rfl, ?_⟩
          by_cases e : kind = "any"
          · rw [if_pos e] at hput
            show (if decide (V.str kind = V.str "any") = true then _ else _)
            rw [show decide (V.str kind = V.str "any") = true by simp [e]]
            refine iteT ⟨_, rfl, ?_⟩
            refine ⟨_, rfl, _, rfl, d, _, rfl, DPut.k (k := Sum.inr nm) hd5 hlk', ?_⟩
            exact tail _ hput
          · rw [if_neg e] at hput
            show (if decide (V.str kind = V.str "any") = true then _ else _)
            rw [show decide (V.str kind = V.str "any") = false by simp [e]]
            refine iteF ⟨_, rfl, ?_⟩
            refine ⟨_, rfl, _, rfl, d, _, rfl, DPut.k (k := Sum.inr nm) hd5 hlk', ?_⟩
            exact tail _ hput
        · rw [show (!decide ((Str.ofString "any") = kind ∨ (Str.ofString "any") = kn lks nm)) = true by simp [c]]
          refine iteT ⟨_, rfl, _, rfl, rfl, _, rfl, ?_⟩
          have ek : kind = kn lks nm := by
            by_cases z : kind = kn lks nm
            · exact z
            · have := st_none.mpr ⟨⟨fun y => c (.inl y.symm), fun y => c (.inr y.symm)⟩, z⟩
              rw [this] at hst
              cases hst
          show (if (!decide (V.str kind = V.str (kn lks nm))) = true then _ else _)
          rw [show (!decide (V.str kind = V.str (kn lks nm))) = false by simp [← ek]]
          refine iteF ?_
          refine ⟨_, rfl, rfl, _, rfl, ?_⟩
          by_cases e : kind = "any"
          · rw [if_pos e] at hput
            show (if decide (V.str kind = V.str "any") = true then _ else _)
            rw [show decide (V.str kind = V.str "any") = true by simp [e]]
            refine iteT ⟨_, rfl, ?_⟩
            refine ⟨_, rfl, _, rfl, d, _, rfl, DPut.k (k := Sum.inr nm) hd5 hlk', ?_⟩
            exact tail _ hput
          · rw [if_neg e] at hput
            show (if decide (V.str kind = V.str "any") = true then _ else _)
            rw [show decide (V.str kind = V.str "any") = false by simp [e]]
            refine iteF ⟨_, rfl, ?_⟩
            refine ⟨_, rfl, _, rfl, d, _, rfl, DPut.k (k := Sum.inr nm) hd5 hlk', ?_⟩
            exact tail _ hput
    · have hns0 : PySem.W.nsIn K kd x0 = some none := by
        rcases hx0 with rfl | rfl
        · exact A1.n1
        · exact A1.n2
      refine ⟨_, rfl, p, _, 0, .str x0, rfl, rfl, .inl (.inl hp'), atI_nat (j := 0) rfl, x0, _, rfl, rfl, hns0, _, rfl, ?_⟩
      refine iteT ?_
      rw [hown, List.append_nil] at htk
      refine ⟨lks, _, o3, o4, o5, rfl, s', hl', hd', ht', ?_, hn, Nat.le_succ_of_le hlk⟩
      rw [htk]
      exact hg
  · rintro σ H' ⟨lks, o2, o3, o4, o5, rfl, s', hl', hd', ht', hg, hn, hlk⟩
    rw [hlen, List.take_length, all_asks] at hg
    have hkeys := (go_keys hg List.nodup_nil).2
    have hk5 : ∀ n ∈ lks.map (·.1), n ∈ names5 := fun n hn' => by
      rcases hkeys n hn' with z | z
      · cases z
      · obtain ⟨q, hq, rfl⟩ := List.mem_map.mp z
        exact hnm q hq
    have hfew := few_keys hn hk5
    refine ⟨_, rfl, d, kv lks, lks.map (·.1), rfl, .inl hd', ?_, by rw [List.length_map]; omega, fun ys sl hperm hsort hsl => ⟨sl, rfl, ⟨_, SqL.of upd_same⟩, fun D hD => ?_⟩⟩
    · unfold kv
      rw [List.map_map, List.map_map]
      rfl
    have hsd : sl ≠ d := (ne_of_none hd' hsl).symm
    have hD' : H' D = none := upd_none hD
    have hslD : sl ≠ D := fun e => by rw [← e, upd_same] at hD; cases hD
    have hDd : D ≠ d := (ne_of_none hd' hD').symm
    have hslH : H sl = none := s'.free hsl
    have hDH : H D = none := s'.free hD'
    have ynd : ys.Nodup := hperm.symm.nodup hn
    have ylen : ys.length ≤ 5 := by rw [hperm.length_eq, List.length_map]; exact hfew
    refine dcl (xs := ys.map V.str) (fun i H' => Same H H' ∧ H' sl = some (.lst (ys.map V.str)) ∧ H' d = some (.dK (kv lks)) ∧ H' D = some (.dK (outK lks (ys.take i))))
      ⟨(s'.trans (same_new hsl _)).trans (same_new hD _), by rw [upd_ne hslD]; exact upd_same, by rw [upd_ne hDd.symm, upd_ne hsd.symm]; exact hd', upd_same⟩ (fun i H' _ ⟨_, h, _⟩ => SqL.of h) ?_ ?_
    · rintro i x H5 hx ⟨s6, h1, h2, h3⟩
      obtain ⟨y, hy, rfl⟩ : ∃ y, ys[i]? = some y ∧ x = V.str y := by
        rw [List.getElem?_map] at hx
        cases e : ys[i]? with
        | none => rw [e] at hx; cases hx
        | some y => rw [e] at hx; exact ⟨y, rfl, (Option.some.inj hx).symm⟩
      have hym : y ∈ lks.map (·.1) := hperm.mem_iff.mp (List.mem_of_getElem? hy)
      obtain ⟨v, hv⟩ : ∃ v, lk lks y = some v := by
        obtain ⟨q, hq, e⟩ := List.mem_map.mp hym
        unfold lk
        cases hf : lks.find? (fun p => decide (p.1 = y)) with
        | none => exact absurd (decide_eq_true e) (List.find?_eq_none.mp hf q hq)
        | some q => exact ⟨_, rfl⟩
      have hnew : valV (outK lks (ys.take i)) (Sum.inr y) = none := by
        unfold outK
        rw [val_kv]
        have : lk ((ys.take i).map fun n => (n, (lk lks n).getD "any")) y = none := by
          unfold lk
          rw [List.find?_eq_none.mpr]
          · rfl
          · intro p hp
            obtain ⟨n, hn', rfl⟩ := List.mem_map.mp hp
            simp only [decide_eq_true_eq]
            rintro rfl
            obtain ⟨j, hj⟩ := List.mem_iff_getElem?.mp hn'
            have hji : j < i := by
              by_cases z : j < i
              · exact z
              · rw [List.getElem?_take_eq_none (by omega)] at hj
                cases hj
            rw [List.getElem?_take_of_lt hji] at hj
            exact absurd (nodup_ix ynd hj hy) (by omega)
        rw [this]
        rfl
      refine ⟨rfl, ?_⟩
      refine ⟨_, rfl, _, rfl, _, rfl, d, V.str v, rfl, .inl ⟨kv lks, Sum.inr y, .inl h2, rfl, ?_⟩, outK lks (ys.take i), Sum.inr y, rfl, h3, ?_, ?_⟩
      · rw [val_kv, hv]
        rfl
      · unfold outK kv
        rw [List.length_map, List.length_map, List.length_take]
        exact sz_line (by omega)
      · rw [putK_new _ hnew]
        refine ⟨same_mut s6 hDH _, by rw [upd_ne hslD]; exact h1, by rw [upd_ne hDd.symm]; exact h2, ?_⟩
        rw [upd_same, List.take_succ, hy]
        unfold outK kv
        simp [hv]
    · rintro H5 ⟨s6, h1, h2, h3⟩
      rw [List.length_map, List.take_length] at h3
      exact q1 lks hg D H5 ys hDH s6 hperm hsort h3
end
end Mw

/-! repr of tuples of tuples, whatever is being shown around: some text of a bounded length -/
namespace Rp
open PySem PySem.Spec PyProof.Rows L2
/-- x is shown, with d levels, by at most n signs -/
def Le (prog : Program) (w : World) (h₀ : Heap) (d : Nat) (x : Value) (n : Nat) : Prop :=
  ∀ b : Nat, b + n ≤ sizeLine → ∀ (A : Around) (E : Value → Shared → Prop) (s : Shared) (Q : Str → Shared → Prop), A.units + d < cLine → (∀ a o, h₀.get? a = some o → s.heap.get? a = some o) →
    (∀ m tk, m.length ≤ n → Q m { s with toks := tk }) → wpAny (model prog w) A (pyReprUnder b x) Q E s
theorem Le.is {prog : Program} {w : World} {h₀ : Heap} {d : Nat} {x : Value} {t : Str} {n : Nat} (h : ReprIs prog w x t) (hn : t.length ≤ n) : Le prog w h₀ d x n := fun b hb A E s _ _ _ q =>
  h b (by omega) A E s _ fun tk => q t tk hn
inductive LeAll (prog : Program) (w : World) (h₀ : Heap) (d : Nat) : List Value → List Nat → Prop
  | nil : LeAll prog w h₀ d [] []
  | cons {x : Value} {n : Nat} {l : List Value} {ns : List Nat} (h : Le prog w h₀ d x n) (t : LeAll prog w h₀ d l ns) : LeAll prog w h₀ d (x :: l) (n :: ns)
def pil (ns : List Nat) : Nat := (ns.map (· + 2)).sum
section
variable {prog : Program} {w : World} {A : Around} {E : Value → Shared → Prop} {h₀ : Heap} {d : Nat}
theorem fold_le (hu : A.units + d < cLine) : ∀ (l : List Value) (ns : List Nat) (acc : Array Str) (n : Nat) (s : Shared) (Q : (Array Str × Nat) → Shared → Prop), LeAll prog w h₀ d l ns → n + pil ns ≤ sizeLine →
    (∀ a o, h₀.get? a = some o → s.heap.get? a = some o) → (∀ (ts : List Str) tk m, piled ts ≤ pil ns → Q ⟨acc ++ ts.toArray, m⟩ { s with toks := tk }) → wpAny (model prog w) A (forIn l (⟨acc, n⟩ : (Array Str × Nat)) tupBody) Q E s
  | [], _, acc, n, s, Q, h, hn, hk, q => by
    cases h
    rw [List.forIn_nil]
    have e := q [] s.toks n (Nat.le_refl _)
    exact wpAny_pure (by simpa using e)
  | x :: l, _, acc, n, s, Q, h, hn, hk, q => by
    cases h with
    | @cons _ y _ ns hx hl =>
      have e1 : pil (y :: ns) = y + 2 + pil ns := by simp [pil]
      rw [List.forIn_cons]
      refine wpAny_bind (wpAny_bind (hx (n + 1) (by omega) A _ s _ hu hk fun m tk hm => wpAny_pure ?_))
      refine fold_le hu l ns (acc.push m) _ _ Q hl (by omega) hk fun ts tk' k hts => ?_
      have e2 := q (m :: ts) tk' k (by rw [piled_cons]; omega)
      simpa using e2
/-- the text between the brackets and these -/
theorem rest_le {a : Addr} {o : Obj} {items : Array Value} {k b : Nat} {ns : List Nat} {s : Shared} {Q : Fin → Shared → Prop} (hu : A.units + d < cLine) (ha : s.heap.get? a = some o) (hd : o.data = .seq items k) (hT : LeAll prog w h₀ d items.toList ns)
    (hk : ∀ a o, h₀.get? a = some o → s.heap.get? a = some o) (hz : b + pil ns + 10 ≤ sizeLine) (q : ∀ m u tk, m.length ≤ pil ns + 5 → Q (.done (.ret (.str m u))) { s with toks := tk }) : wpAny (model prog w) A (tupleReprRest b (.ref a)) Q E s := by
  unfold tupleReprRest Builtin.Tuple.tupleItemsOf
  refine wpAny_bind (wpAny_bind (wpAny_seqItems ha hd (wpAny_pure ?_)))
  rw [← Array.forIn_toList]
  refine wpAny_bind (fold_le hu _ ns #[] b s _ hT (by omega) hk fun ts tk m hts => ?_)
  have e3 : (((if items.size == 1 then ",)" else ")" : String) : Str)).length ≤ 2 := by split <;> decide +kernel
  have e1 : ((("(" : String) : Str)).length = 1 := rfl
  have ej : (Str.join ", " ts).length ≤ pil ns := by
    by_cases h : ts = []
    · subst h
      exact Nat.zero_le _
    · have := join_length_add ts h
      omega
  have et : ((("(" : Str) ++ Str.join ", " (#[] ++ ts.toArray : Array Str).toList ++ (if items.size == 1 then ",)" else ")" : String)) : Str).length ≤ pil ns + 5 := by
    rw [strLen_append, strLen_append, e1, show (#[] ++ ts.toArray : Array Str).toList = ts by simp]
    omega
  exact wpAny_bind (wpAny_mkStr (wpAny_pure (q _ _ _ et)) (Nat.le_trans et (by omega)))
/-- a tuple's own repr, whatever is under way -/
theorem own_le {a : Addr} {o : Obj} {items : Array Value} {k b : Nat} {ns : List Nat} {s : Shared} {Q : Fin → Shared → Prop} (hu : A.units + d < cLine) (ha : s.heap.get? a = some o) (hd : o.data = .seq items k) (hT : LeAll prog w h₀ d items.toList ns)
    (hk : ∀ a o, h₀.get? a = some o → s.heap.get? a = some o) (hz : b + pil ns + 10 ≤ sizeLine) (q : ∀ m u tk, m.length ≤ pil ns + 5 → Q (.done (.ret (.str m u))) { s with toks := tk }) : wpAny (model prog w) A (Builtin.tupleReprAt b ⟨[.ref a], []⟩) Q E s := by
  rw [tuple_repr_tree]
  refine wpAny_bind (fmt_underWay fun c => ?_)
  cases c with
  | true =>
    refine PySem.W.KFB.if_so rfl (wpAny_bind (wpAny_rule (wpAny_bind (wpAny_mkStr (wpAny_pure ?_) (by decide +kernel)))))
    exact q "(...)" _ _ (Nat.le_trans fmt_way (Nat.le_add_left _ _))
  | false => exact PySem.W.KFB.if_not rfl (rest_le hu ha hd hT hk hz q)
theorem Le.tup {a : Addr} {o : Obj} {items : Array Value} {k : Nat} {ns : List Nat} (ha : h₀.get? a = some o) (hc : o.cls = .type "tuple") (hd : o.data = .seq items k) (hT : LeAll prog w h₀ d items.toList ns) : Le prog w h₀ (d + 1) (.ref a) (pil ns + 10) := by
  intro b hb A E s Q hu hk q
  have ha' := hk _ _ ha
  refine wpAny_pyReprUnder_ref (by omega) (wpAny_pyReprObjUnder_twin (twin := "tuple.__repr__.under") ⟨o, ha', hc⟩ F.slot_tuple_repr rfl (by omega) ?_)
  refine call_twin_own (F.quiet_tuple_repr_under _) F.entry_tuple_repr_under F.check_tuple_repr_under ⟨o, ha', hc⟩ F.slot_tuple_repr (F.args_tuple_repr_1 _) (wpOwn_of_wpAny ?_)
  refine own_le (by first | (rw [units_under_tuple_repr_under]; omega) | omega) ha' hd hT hk (by omega) fun m u tk hm => ?_
  exact ⟨⟨_, _, rfl⟩, _, _, rfl, q m tk (by omega)⟩
theorem call_le {a : Addr} {o : Obj} {items : Array Value} {k : Nat} {ns : List Nat} {s : Shared} {Q : Value → Shared → Prop} (hu : A.units + (d + 1) < cLine) (ha : s.heap.get? a = some o) (hc : o.cls = .type "tuple") (hd : o.data = .seq items k) (hT : LeAll prog w h₀ d items.toList ns)
    (hk : ∀ a o, h₀.get? a = some o → s.heap.get? a = some o) (hz : pil ns + 10 ≤ sizeLine) (q : ∀ m u tk, m.length ≤ pil ns + 5 → Q (.str m u) { s with toks := tk }) : wpAny (model prog w) A (call (.builtin "tuple.__repr__") [.ref a]) Q E s := by
  refine wpAny_call (codeAny_call_builtin_own (Code.quiet_builtin _ (by decide +kernel)) F.entry_tuple_repr (F.slot_tuple_repr.check _ _ _ _ _ _ _ _ ⟨o, ha, hc⟩ (F.args_tuple_repr_1 _) (wpOwn_of_wpAny ?_)))
  exact own_le (b := 0) (by first | (rw [units_under_tuple_repr]; omega) | omega) ha hd hT hk (by omega) q
end
section
variable {X : Cx}
/-- {p!r}, p a tuple of tuples of texts and small numbers: some text -/
def tFmtP (K : PySem.W.Frag) (te : TE) : TE := fun σ H Q => te σ H fun x H1 => ∃ (a : Addr) (vs : List V), x = .ref a ∧ SqT K H1 a vs ∧ vs.length ≤ 100 ∧
  (∀ v ∈ vs, ∃ q i k, v = .ref q ∧ SqT K H1 q [.int i, k] ∧ i.natAbs.log2 < 1920 ∧ (toString i : Str).length ≤ 100 ∧ ((∃ j : Int, k = .int j ∧ j.natAbs.log2 < 1920 ∧ (toString j : Str).length ≤ 100) ∨ ∃ y : Str, k = .str y ∧ (reprText y).length ≤ 100)) ∧ ∀ m : Str, m.length ≤ 30000 → Q (.str m) H1
theorem pe_fmtP {e : Expr} {te : TE} {pos : Pos} {k : Nat} (hr : Room k X.A) (he : PE X e te) : PE X (.FormattedValue e 114 none pos) (tFmtP X.K te) := by
  refine ⟨fun pins s σ H Q I h => ?_⟩
  refine wpAny_FormattedValue_repr (thn (he.run pins s σ H _ I h) fun v s1 hv => ?_)
  obtain ⟨x, H1, I1, r1, a, vs, rfl, ht, hl, hall, q⟩ := hv
  cases r1
  obtain ⟨its, rv, ⟨o, ho, hcl, n, hd⟩, _⟩ := I1.tuple ht
  have hu := hr.units
  have big : (40000 : Nat) ≤ sizeLine := by decide
  have one : ∀ v ∈ vs, ∀ u, RelV v u → Le X.prog X.w s1.heap 1 u 220 := by
    intro v hv u r
    obtain ⟨q', i, kk, rfl, hq, hi1, hi2, hkk⟩ := hall v hv
    cases r
    obtain ⟨its', rv', ⟨o', ho', hcl', n', hd'⟩, _⟩ := I1.tuple hq
    cases rv' with
    | cons ra rb =>
      cases rb with
      | cons rb rc =>
        cases rc
        obtain ⟨t1, rfl⟩ := ra
        have l1 : Le X.prog X.w s1.heap 0 (.int i t1) 100 := Le.is (ReprIs.int t1 hi1) hi2
        have l2 : ∃ u2, Le X.prog X.w s1.heap 0 u2 100 ∧ RelV kk u2 ∧ u2 = _ := ⟨_, by
          rcases hkk with ⟨j, rfl, hj1, hj2⟩ | ⟨y, rfl, hy⟩
          · obtain ⟨t2, rfl⟩ := rb
            exact Le.is (ReprIs.int t2 hj1) hj2
          · obtain ⟨t2, rfl⟩ := rb
            exact Le.is (ReprIs.str y t2 (by omega)) hy, rb, rfl⟩
        obtain ⟨u2, l2, _, rfl⟩ := l2
        have := Le.tup (prog := X.prog) (w := X.w) (ns := [100, 100]) ho' hcl' hd' (by simpa using LeAll.cons l1 (LeAll.cons l2 .nil))
        exact fun b hb A E s Q hu hk q => this b (by simp [pil]; omega) A E s Q hu hk fun m tk hm => q m tk (by simp [pil] at hm; omega)
  have all : ∀ (vs : List V) (us : List Value), Vals vs us → (∀ v ∈ vs, ∀ u, RelV v u → Le X.prog X.w s1.heap 1 u 220) → LeAll X.prog X.w s1.heap 1 us (List.replicate vs.length 220) := by
    intro vs us r
    induction r with
    | nil => intro _; exact .nil
    | cons r1 r2 ih => intro h; exact .cons (h _ (by simp) _ r1) (ih fun v hv => h v (List.mem_cons_of_mem _ hv))
  have hp : pil (List.replicate vs.length 220) ≤ 22200 := by
    have : pil (List.replicate vs.length 220) = vs.length * 222 := by simp [pil]
    omega
  refine wpAny_pyReprObj_slot (by omega) ⟨o, ho, hcl⟩ F.slot_tuple_repr ?_
  refine call_le (d := 1) (h₀ := s1.heap) (by omega) ho hcl hd (by simpa using all vs its rv one) (fun _ _ e => e) (by omega) fun m u tk hm => ⟨m, u, rfl, ?_⟩
  have I2 : Inv X pins σ H1 { s1 with toks := tk } := I1.tok _
  exact wpAny_formatField_str ⟨.str m, H1, I2, ⟨_, rfl⟩, q m (by omega)⟩ ⟨.str m, H1, I2.tok _, ⟨_, rfl⟩, q m (by omega)⟩ (by omega)
end
end Rp

/-! defs that are called where nothing is being shown: what they promise, and repr of data there -/
namespace Gg
open PySem PySem.Spec PyProof.Rows L2
structure FnG (P : Program) (w : World) (K : PySem.W.Frag) (mg : Str → Option Value) (base : Heap) (CX : CXT) (k : Nat) (f : Addr) (fd : FuncData) (ps : List Str) (sp : Sp) : Prop where
  len : ∀ vs H Q E, sp vs H Q E → vs.length = ps.length
  run : ∀ (A : Around) (outer : List Env) (s : Shared) (H : Hp) (args : Args) (us : List Value) (vs : List V) (Q : VK) (E : XK), A.guards = some [] → Room k A → Env0 P w K mg base A outer s H → BindsTo s fd args (ps.zip us) → Vals vs us → sp vs H Q E →
    codeAny (model P w) A (.call (.ref f) args) (CR CX outer P w H s Q E) s
theorem FnG.mono {P : Program} {w : World} {K : PySem.W.Frag} {mg : Str → Option Value} {base : Heap} {CX : CXT} {j k : Nat} {f : Addr} {fd : FuncData} {ps : List Str} {sp : Sp} (F : FnG P w K mg base CX j f fd ps sp) (h : j ≤ k) : FnG P w K mg base CX k f fd ps sp :=
  ⟨F.len, fun A outer s H args us vs Q E hg hr => F.run A outer s H args us vs Q E hg (hr.mono h)⟩
theorem FnG.imp {P : Program} {w : World} {K : PySem.W.Frag} {mg : Str → Option Value} {base : Heap} {CX : CXT} {k : Nat} {f : Addr} {fd : FuncData} {ps : List Str} {sp sp' : Sp} (F : FnG P w K mg base CX k f fd ps sp) (h : ∀ vs H Q E, sp' vs H Q E → sp vs H Q E) : FnG P w K mg base CX k f fd ps sp' :=
  ⟨fun vs H Q E q => F.len vs H Q E (h _ _ _ _ q), fun A outer s H args us vs Q E hg hr he hb hv hs => F.run A outer s H args us vs Q E hg hr he hb hv (h _ _ _ _ hs)⟩
section
variable {P : Program} {w : World} {K : PySem.W.Frag} {mg : Str → Option Value} {base : Heap}
/-- from a promise that asks nothing of the guards -/
theorem FnG.of {CX : CXT} {k : Nat} {f : Addr} {fd : FuncData} {ps : List Str} {sp : Sp} (F : FnOk P w K mg base CX k f fd ps sp) : FnG P w K mg base CX k f fd ps sp := ⟨F.len, fun A outer s H args us vs Q E _ => F.run A outer s H args us vs Q E⟩
theorem none_leftG {k : Nat} {f : Addr} {fd : FuncData} {ps : List Str} {sp : Sp} (no : ∀ vs H Q E, ¬ sp vs H Q E) : FnG P w K mg base CX0 k f fd ps sp :=
  ⟨fun vs H Q E h => absurd h (no _ _ _ _), fun _ _ _ _ _ _ _ _ _ _ _ _ _ _ h => absurd h (no _ _ _ _)⟩
/-- a def by its body, run where nothing is being shown -/
theorem okG {x qual : Str} {st : Stmt} {f : Addr} {fd : FuncData} {N ps : List Str} {k : Nat} {sp : Sp} (F : Fun K x qual st f fd) (S : FnScope N ps (defScope st)) (len : ∀ vs H Q E, sp vs H Q E → vs.length = ps.length)
    (body : ∀ (A : Around) (cdv : Value) (outer : List Env) (s : Shared) (H : Hp) (vs : List V) (Q : VK) (E : XK), A.guards = some [] → Room k (A.deeper (envOfC qual (defScope st) s.heap.objs.size f cdv)) → sp vs H Q E →
      ∃ t, PSs (cxOf CX0 P w K mg base N qual (defScope st) f cdv A outer s H E).nox (defBody st) t ∧ t { nx := fun _ H' => Q .non H', rt := Q } (start N vs) H) : FnG P w K mg base CX0 (k + 1) f fd ps sp := by
  obtain ⟨oc, od, kV, doc, pm, an, cdv, ct, osl, rfl, lk, hcd⟩ := F.ex
  refine ⟨len, fun A outer s H args us vs Q E gd hr e0 hb r hsp => ?_⟩
  have hl : vs.length = ps.length := len _ _ _ _ hsp
  have keepK : ∀ b o, base.get? b = some o → s.heap.get? b = some o := fun b o e => (e0.bs b o e).1
  have KX : K.In s.heap := e0.mod.kin.keeps keepK
  have lim : s.heap.NoLimit := e0.mod.nolimit.keeps keepK
  have kinds : ∀ y ∈ ps.zip us, (defScope st).names.lookup y.1 = some .local ∨ ((defScope st).names.lookup y.1 = some .cell ∧ ((cellsFrom (s.heap.objs.size + 1) (defScope st).names []).lookup y.1).isSome = true) := by
    rintro ⟨n, v⟩ hy
    rcases S.par n (List.of_mem_zip hy).1 with q | q
    · exact Or.inl q
    · exact Or.inr ⟨q, PySem.W.cellsFrom_some _ _ _ (Or.inl q)⟩
  refine codeAny_call_function hr.depth (KX _ _ lk) rfl S.co S.gen rfl (PySem.W.codeRec_of KX hcd) (hb _ _ _ _ ?_)
  refine wpAny_newFunctionEnv_cells S.kind kinds fun env he s1 x1 => ?_
  subst he
  refine ⟨lim.keeps x1.toInCall.keep, codeAny_func ?_⟩
  obtain ⟨t, ht, hq⟩ := body A cdv outer s H vs Q E gd (hr.deeper _) hsp
  have I := inv_start (CX := CX0) (E := E) S hr.hd e0 hl r x1
  refine wpAny_mono (ht.nox.run [] s1 (start N vs) H _ I hq) (fun fl s' hs => ?_) fun e s' hs => hs
  cases fl with
  | ret u =>
    obtain ⟨v, σ', H', J, rv, q⟩ := hs
    exact ⟨v, H', J.os, J.bare, J.base, J.hok, rv, q⟩
  | next =>
    obtain ⟨σ', H', J, q⟩ := hs
    exact ⟨V.non, H', J.os, J.bare, J.base, J.hok, rfl, q⟩
  | brk =>
    obtain ⟨_, _, _, q⟩ := hs
    exact q.elim
  | cont =>
    obtain ⟨_, _, _, q⟩ := hs
    exact q.elim
end
section
variable {X : Cx} {CX : CXT} {k : Nat} {f C : Addr} {fd : FuncData} {ps : List Str} {sp : Sp} {dvs : List V} {ds : List Value} {E : XK} {x : Str} {p pos : Pos} {e : Expr} {es : List Expr} {t : TA}
theorem run_fnG {pins : List (Addr × Obj)} {σ : L2.St} {H : Hp} {s : Shared} {Q : VK} {us : List Value} {vs : List V} (gd : X.A.guards = some []) (F : FnG X.prog X.w X.K X.mg X.base CX k f fd ps sp) (hr : Room k X.A) (hb : Binds X.K fd ps ds) (hd : Vals dvs ds) (hx : Passes CX X E)
    (I : Inv X pins σ H s) (r : Vals vs us) (h : sp (vs ++ dvs) H Q E) : wpAny (model X.prog X.w) X.A (call (.ref f) us) (EP X pins σ Q) X.xe s := by
  have r2 : Vals (vs ++ dvs) (us ++ ds) := r.append hd
  have hl : (us ++ ds).length = ps.length := r2.length.symm.trans (F.len _ _ _ _ h)
  refine wpAny_call (codeAny_mono (F.run X.A X.stack s H ⟨us, []⟩ (us ++ ds) (vs ++ dvs) Q E gd hr I.env0 (hb s us I.kIn hl) r2 h) fun r s' hq => ?_)
  match r, hq with
  | .error e, hq => exact hx pins σ H s e s' I hq
  | .ok (.ret u), hq => exact I.after hq
  | .ok .next, hq => exact False.elim hq
  | .ok .brk, hq => exact False.elim hq
  | .ok .cont, hq => exact False.elim hq
theorem pe_callG (gd : X.A.guards = some []) (F : FnG X.prog X.w X.K X.mg X.base CX k f fd ps sp) (hr : Room k X.A) (hg : Gl X x) (hm : X.mg x = some (.ref f)) (hk : PySem.W.keepIn X.K (.ref f) = true) (hb : Binds X.K fd ps ds) (hd : Vals dvs ds) (hx : Passes CX X E)
    (ha : PA X (e :: es) t) (hdb : (x == ("__debug__" : Str)) = false := by decide) (he : starEach (e :: es) X.env = (false, eval e X.env) :: starEach es X.env := by rfl) (hpl : (backTo pos (starEach es X.env)).any (·.1) = false := by rfl) :
    PE X (.Call (.Name x p) (e :: es) [] pos) (tCall sp dvs E t) := by
  refine ⟨fun pins s σ H Q I h => wpAny_Call_Name_kw (ld_glob I hg hm ?_ hdb)⟩
  refine PySem.W.callWith_K (h₀ := X.base) I.ok.mod.kin hk (thn (ha.run pos pins s σ H _ I h) fun us s1 ⟨vs, H1, I1, r, q⟩ => ⟨I1.kIn, run_fnG gd F hr hb hd hx I1 r q⟩) he hpl
end
/-- what repr shows whole -/
structure Sh (d : PyData) : Prop where
  sh : d.showable = true
  nd : d.hasDict = false
  dp : d.depth ≤ 60
  ln : d.shown.length ≤ 16000000
theorem call_repr {X : Cx} (hg : X.A.guards = some []) (hu : X.A.units + 100 < cLine) : CallR X (.builtin "repr") (fun xs H Q => ∃ v d, xs = [v] ∧ Dp X.K H v d ∧ Sh d ∧ Q (.str d.shown) H) := by
  intro pins s σ H xs us Q I r h
  obtain ⟨v, d, rfl, hd, ⟨h1, h2, h3, h4⟩, q⟩ := h
  obtain ⟨u, rfl, ru⟩ := vals1 r
  obtain ⟨as, rd⟩ := Dp.reads I _ _ _ hd ru
  have big : (16000000 : Nat) ≤ sizeLine := by decide
  have ref : ∀ a, u = .ref a → wpAny (model X.prog X.w) X.A (call (.builtin "repr") [u]) (EP X pins σ Q) X.xe s := by
    rintro a rfl
    refine repr_of_reads' rd h1 (PyData.noDict_hsm h2) hg ?_ (fun _ _ e => e) (fun h' u tk hk => ⟨.str _, H, I.kept (t' := tk) hk, ⟨_, rfl⟩, q⟩) (by omega)
    show X.A.units + (d.depth + 1) < cLine
    omega
  cases hd with
  | non =>
    cases ru
    exact PySem.P.repr_of_none ⟨.str _, H, I.tok _, ⟨_, rfl⟩, q⟩
  | bl b =>
    cases ru
    exact PySem.P.repr_of_bool ⟨.str _, H, I.tok _, ⟨_, rfl⟩, q⟩
  | int i =>
    obtain ⟨t, rfl⟩ := ru
    exact PySem.P.repr_of_int (of_decide_eq_true h1) ⟨.str _, H, I.tok _, ⟨_, rfl⟩, q⟩
  | str x =>
    obtain ⟨t, rfl⟩ := ru
    exact PySem.P.repr_of_str ⟨.str _, H, I.tok _, ⟨_, rfl⟩, q⟩ (Nat.le_trans h4 big)
  | lst a b => cases ru; exact ref _ rfl
  | tup a b => cases ru; exact ref _ rfl
end Gg

namespace Mw
open PySem L2
theorem str_len (a b : Str) : (a ++ b).length = a.length + b.length := by
  show (a.cps ++ b.cps).size = _
  rw [Array.size_append]
  rfl
def T.dep : T → Nat
  | .nil => 0
  | .text _ r => r.dep
  | .shw _ r => r.dep
  | .num r => r.dep
  | .cho _ cs o r => max (max cs.dep o.dep + 1) r.dep
  | .cas _ m r => max m.dep r.dep
theorem dep_nodes : ∀ {t : T}, ∀ u ∈ t.nodes, u.dep ≤ t.dep
  | .nil, u, h => by cases h
  | .text s r, u, h => by
    rcases List.mem_cons.mp h with rfl | h
    · exact Nat.zero_le _
    · exact dep_nodes (t := r) u h
  | .shw s r, u, h => by
    rcases List.mem_cons.mp h with rfl | h
    · exact Nat.zero_le _
    · exact dep_nodes (t := r) u h
  | .num r, u, h => by
    rcases List.mem_cons.mp h with rfl | h
    · exact Nat.zero_le _
    · exact dep_nodes (t := r) u h
  | .cho hd cs o r, u, h => by
    rcases List.mem_cons.mp h with rfl | h
    · simp only [T.dep]
      omega
    · have := dep_nodes u h
      simp only [T.dep]
      omega
  | .cas k m r, u, h => by
    rcases List.mem_cons.mp h with rfl | h
    · simp only [T.dep]
      omega
    · have := dep_nodes u h
      simp only [T.dep]
      omega
theorem dep_msgs : ∀ {t : T}, ∀ m ∈ t.msgs, m.dep ≤ t.dep
  | .nil, u, h => by cases h
  | .text s r, u, h => by cases h
  | .shw s r, u, h => by cases h
  | .num r, u, h => by cases h
  | .cho hd cs o r, u, h => by cases h
  | .cas k m r, u, h => by
    rcases List.mem_cons.mp h with rfl | h
    · simp only [T.dep]
      omega
    · have := dep_msgs u h
      simp only [T.dep]
      omega
/-! ### a message as plain data: what == and repr look at -/
def vD : V → PyData
  | .str s => .str s
  | .int i => .int i
  | _ => .none
def dat : T → List PyData
  | .nil => []
  | .text s r => .tuple [.str "text", .str s] :: dat r
  | .shw n r => .tuple [.str "show", .str n] :: dat r
  | .num r => .tuple [.str "number"] :: dat r
  | .cho hd cs o r => .tuple (hd.map vD ++ [.list (dat cs), .list (dat o)]) :: dat r
  | .cas k m r => .tuple [vD k, .list (dat m)] :: dat r
/-- small leaves: texts of a few signs, small numbers -/
def VOk : V → Prop
  | .str s => PyData.strOk s = true ∧ (reprText s).length ≤ 12
  | .int i => 0 ≤ i ∧ i ≤ 999
  | _ => False
def SOk : T → Prop
  | .nil => True
  | .text s r => PyData.strOk s = true ∧ SOk r
  | .shw n r => VOk (.str n) ∧ SOk r
  | .num r => SOk r
  | .cho hd cs o r => (∀ v ∈ hd, VOk v) ∧ hd.length ≤ 3 ∧ SOk cs ∧ SOk o ∧ SOk r
  | .cas k m r => VOk k ∧ SOk m ∧ SOk r
theorem dp_flat {K : PySem.W.Frag} {H : Hp} {v : V} (h : VOk v) : Dp K H v (vD v) := by
  cases v with
  | str s => exact .str s
  | int i => exact .int i
  | _ => cases h
theorem dpa_app {K : PySem.W.Frag} {H : Hp} {ys : List V} {es : List PyData} (h' : DpAll K H ys es) : ∀ {xs : List V} {ds : List PyData}, DpAll K H xs ds → DpAll K H (xs ++ ys) (ds ++ es)
  | _, _, .nil => h'
  | _, _, .cons a b => .cons a (dpa_app h' b)
theorem dpa_flat {K : PySem.W.Frag} {H : Hp} : ∀ {hd : List V}, (∀ v ∈ hd, VOk v) → DpAll K H hd (hd.map vD)
  | [], _ => .nil
  | v :: r, h => .cons (dp_flat (h v (by simp))) (dpa_flat fun x hx => h x (List.mem_cons_of_mem _ hx))
theorem Nodes.dp {K : PySem.W.Frag} {H : Hp} : ∀ {t : T} {vs : List V}, Nodes H t vs → SOk t → DpAll K H vs (dat t)
  | .nil, _, h, _ => by rw [show _ = [] from h]; exact .nil
  | .text s r, _, h, w => by
    obtain ⟨p, ws, rfl, hp, hr⟩ := h
    exact .cons (.tup (.inl (.inl hp)) (.cons (.str _) (.cons (.str _) .nil))) (Nodes.dp hr w.2)
  | .shw n r, _, h, w => by
    obtain ⟨p, ws, rfl, hp, hr⟩ := h
    exact .cons (.tup (.inl (.inl hp)) (.cons (.str _) (.cons (.str _) .nil))) (Nodes.dp hr w.2)
  | .num r, _, h, w => by
    obtain ⟨p, ws, rfl, hp, hr⟩ := h
    exact .cons (.tup (.inl (.inl hp)) (.cons (.str _) .nil)) (Nodes.dp hr w)
  | .cho hd cs o r, _, h, w => by
    obtain ⟨p, ws, ca, cvs, oa, ovs, rfl, hp, hc, hcs, ho, hos, hr⟩ := h
    exact .cons (.tup (.inl (.inl hp)) (dpa_app (.cons (.lst (SqL.of hc) (Nodes.dp hcs w.2.2.1)) (.cons (.lst (SqL.of ho) (Nodes.dp hos w.2.2.2.1)) .nil)) (dpa_flat w.1))) (Nodes.dp hr w.2.2.2.2)
  | .cas k m r, _, h, w => by
    obtain ⟨p, ws, ma, mvs, rfl, hp, hm, hms, hr⟩ := h
    exact .cons (.tup (.inl (.inl hp)) (.cons (dp_flat w.1) (.cons (.lst (SqL.of hm) (Nodes.dp hms w.2.1)) .nil))) (Nodes.dp hr w.2.2)
theorem At.dp {K : PySem.W.Frag} {H : Hp} {a : Addr} {t : T} (h : At H a t) (w : SOk t) : Dp K H (.ref a) (.list (dat t)) := by
  obtain ⟨vs, h1, h2⟩ := h
  exact .lst (SqL.of h1) (h2.dp w)
theorem vd_ok {v : V} (h : VOk v) : (vD v).canLay0 = true ∧ (vD v).showable = true ∧ (vD v).hasDict = false ∧ (vD v).depth = 0 ∧ (vD v).shown.length ≤ 12 := by
  cases v with
  | str s =>
    exact ⟨h.1, rfl, rfl, rfl, h.2⟩
  | int i =>
    have hi : ∀ n : Fin 1000, (PyData.int ((n : Nat) : Int)).showable = true ∧ (PyData.int ((n : Nat) : Int)).shown.length ≤ 12 := by decide +kernel
    have hi : (PyData.int i).showable = true ∧ (PyData.int i).shown.length ≤ 12 := by
      have := hi ⟨i.toNat, by have := h.1; have := h.2; omega⟩
      rw [show ((i.toNat : Nat) : Int) = i by have := h.1; omega] at this
      exact this
    exact ⟨rfl, hi.1, rfl, rfl, hi.2⟩
  | _ => cases h
theorem hd_ok : ∀ {hd : List V}, (∀ v ∈ hd, VOk v) → PyData.canLayAll0 (hd.map vD) = true ∧ PyData.showableAll (hd.map vD) = true ∧ PyData.hasDictAll (hd.map vD) = false ∧ PyData.depthAll (hd.map vD) = 0
  | [], _ => ⟨rfl, rfl, rfl, rfl⟩
  | v :: r, h => by
    obtain ⟨a1, a2, a3, a4, _⟩ := vd_ok (h v (by simp))
    obtain ⟨b1, b2, b3, b4⟩ := hd_ok (hd := r) fun x hx => h x (List.mem_cons_of_mem _ hx)
    refine ⟨?_, ?_, ?_, ?_⟩
    · simp only [List.map_cons, PyData.canLayAll0, a1, b1, Bool.and_self]
    · simp only [List.map_cons, PyData.showableAll, a2, b2, Bool.and_self]
    · simp only [List.map_cons, PyData.hasDictAll, a3, b3, Bool.or_self]
    · simp only [List.map_cons, PyData.depthAll, a4, b4, Nat.max_self]
theorem cl_app : ∀ (xs ys : List PyData), PyData.canLayAll0 (xs ++ ys) = (PyData.canLayAll0 xs && PyData.canLayAll0 ys)
  | [], _ => rfl
  | x :: xs, ys => by simp only [List.cons_append, PyData.canLayAll0, cl_app xs ys, Bool.and_assoc]
theorem sh_app : ∀ (xs ys : List PyData), PyData.showableAll (xs ++ ys) = (PyData.showableAll xs && PyData.showableAll ys)
  | [], _ => rfl
  | x :: xs, ys => by simp only [List.cons_append, PyData.showableAll, sh_app xs ys, Bool.and_assoc]
theorem hs_app : ∀ (xs ys : List PyData), PyData.hasDictAll (xs ++ ys) = (PyData.hasDictAll xs || PyData.hasDictAll ys)
  | [], _ => rfl
  | x :: xs, ys => by simp only [List.cons_append, PyData.hasDictAll, hs_app xs ys, Bool.or_assoc]
theorem dp_app : ∀ (xs ys : List PyData), PyData.depthAll (xs ++ ys) = max (PyData.depthAll xs) (PyData.depthAll ys)
  | [], _ => by simp [PyData.depthAll]
  | x :: xs, ys => by simp only [List.cons_append, PyData.depthAll, dp_app xs ys, Nat.max_assoc]
theorem sa_app : ∀ (xs ys : List PyData), PyData.shownAll (xs ++ ys) = PyData.shownAll xs ++ PyData.shownAll ys
  | [], _ => rfl
  | x :: xs, ys => by simp only [List.cons_append, PyData.shownAll, sa_app xs ys]
theorem dat_ok : ∀ {t : T}, SOk t → PyData.canLayAll0 (dat t) = true ∧ PyData.showableAll (dat t) = true ∧ PyData.hasDictAll (dat t) = false
  | .nil, _ => ⟨rfl, rfl, rfl⟩
  | .text s r, w => by
    obtain ⟨a1, a2, a3⟩ := dat_ok w.2
    have h : PyData.strOk ("text" : Str) = true := by decide +kernel
    refine ⟨?_, ?_, ?_⟩
    · simp only [dat, PyData.canLayAll0, PyData.canLay0, h, w.1, a1, Bool.and_self]
    · simp only [dat, PyData.showableAll, PyData.showable, a2, Bool.and_self]
    · simp only [dat, PyData.hasDictAll, PyData.hasDict, a3, Bool.or_self]
  | .shw n r, w => by
    obtain ⟨a1, a2, a3⟩ := dat_ok w.2
    have h : PyData.strOk ("show" : Str) = true := by decide +kernel
    have h2 : PyData.strOk n = true := w.1.1
    refine ⟨?_, ?_, ?_⟩
    · simp only [dat, PyData.canLayAll0, PyData.canLay0, h, h2, a1, Bool.and_self]
    · simp only [dat, PyData.showableAll, PyData.showable, a2, Bool.and_self]
    · simp only [dat, PyData.hasDictAll, PyData.hasDict, a3, Bool.or_self]
  | .num r, w => by
    obtain ⟨a1, a2, a3⟩ := dat_ok (t := r) w
    have h : PyData.strOk ("number" : Str) = true := by decide +kernel
    refine ⟨?_, ?_, ?_⟩
    · simp only [dat, PyData.canLayAll0, PyData.canLay0, h, a1, Bool.and_self]
    · simp only [dat, PyData.showableAll, PyData.showable, a2, Bool.and_self]
    · simp only [dat, PyData.hasDictAll, PyData.hasDict, a3, Bool.or_self]
  | .cho hd cs o r, w => by
    obtain ⟨a1, a2, a3⟩ := dat_ok w.2.2.2.2
    obtain ⟨b1, b2, b3⟩ := dat_ok w.2.2.1
    obtain ⟨c1, c2, c3⟩ := dat_ok w.2.2.2.1
    obtain ⟨d1, d2, d3, _⟩ := hd_ok w.1
    refine ⟨?_, ?_, ?_⟩
    · simp only [dat, PyData.canLayAll0, PyData.canLay0, cl_app, a1, b1, c1, d1, Bool.and_self]
    · simp only [dat, PyData.showableAll, PyData.showable, sh_app, a2, b2, c2, d2, Bool.and_self]
    · simp only [dat, PyData.hasDictAll, PyData.hasDict, hs_app, a3, b3, c3, d3, Bool.or_self]
  | .cas k m r, w => by
    obtain ⟨a1, a2, a3⟩ := dat_ok w.2.2
    obtain ⟨b1, b2, b3⟩ := dat_ok w.2.1
    obtain ⟨d1, d2, d3, _⟩ := vd_ok w.1
    refine ⟨?_, ?_, ?_⟩
    · simp only [dat, PyData.canLayAll0, PyData.canLay0, a1, b1, d1, Bool.and_self]
    · simp only [dat, PyData.showableAll, PyData.showable, a2, b2, d2, Bool.and_self]
    · simp only [dat, PyData.hasDictAll, PyData.hasDict, a3, b3, d3, Bool.or_self]
theorem dat_depth : ∀ {t : T} {c : Bool}, Wf t c → SOk t → PyData.depthAll (dat t) ≤ 4 * t.dep + (if c then 3 else 1)
  | .nil, c, _, _ => Nat.zero_le _
  | .text s r, c, w, s' => by
    have hc := w.1
    subst hc
    have h := dat_depth w.2 s'.2
    simp only [dat, PyData.depthAll, PyData.depth, T.dep, Bool.false_eq_true, if_false] at h ⊢
    omega
  | .shw n r, c, w, s' => by
    have hc := w.1
    subst hc
    have h := dat_depth w.2 s'.2
    simp only [dat, PyData.depthAll, PyData.depth, T.dep, Bool.false_eq_true, if_false] at h ⊢
    omega
  | .num r, c, w, s' => by
    have hc := w.1
    subst hc
    have h := dat_depth w.2 (show SOk r from s')
    simp only [dat, PyData.depthAll, PyData.depth, T.dep, Bool.false_eq_true, if_false] at h ⊢
    omega
  | .cho hd cs o r, c, w, s' => by
    have hc := w.1
    subst hc
    have h1 := dat_depth w.2.2.1 s'.2.2.1
    have h2 := dat_depth w.2.2.2.1 s'.2.2.2.1
    have h3 := dat_depth w.2.2.2.2 s'.2.2.2.2
    obtain ⟨_, _, _, h4⟩ := hd_ok s'.1
    simp only [dat, PyData.depthAll, PyData.depth, T.dep, dp_app, h4]
    simp only [if_true, Bool.false_eq_true, if_false] at h1 h2 h3 ⊢
    omega
  | .cas k m r, c, w, s' => by
    have h1 := dat_depth w.2.2.1 s'.2.1
    have h3 := dat_depth w.2.2.2 s'.2.2
    obtain ⟨_, _, _, h4, _⟩ := vd_ok s'.1
    have hc := w.1
    subst hc
    simp only [dat, PyData.depthAll, PyData.depth, T.dep, h4]
    simp only [if_true, Bool.false_eq_true, if_false] at h1 h3 ⊢
    omega
/-! ### how long repr is -/
def slen (ts : List Str) : Nat := (ts.map fun t => t.length + 2).sum
theorem from_len : ∀ (ts : List Str) (k : Nat) (acc : Str), (textFrom k acc ts).length ≤ acc.length + slen ts
  | [], _, acc => Nat.le_refl _
  | t :: r, k, acc => by
    have h := from_len r (k + 1) (acc ++ (if k > 0 then ", " else "" : String) ++ t)
    rw [str_len, str_len] at h
    have e : (Str.ofString (if k > 0 then ", " else "" : String)).length ≤ 2 := by
      split <;> decide +kernel
    show (textFrom (k + 1) (acc ++ (if k > 0 then ", " else "" : String) ++ t) r).length ≤ acc.length + (t.length + 2 + slen r)
    omega
theorem list_len (ts : List Str) : (listText ts).length ≤ slen ts + 2 := by
  have h := from_len ts 0 ("[" : Str)
  have e1 : ("[" : Str).length = 1 := by decide +kernel
  have e2 : ("]" : Str).length = 1 := by decide +kernel
  show (textFrom 0 ("[" : Str) ts ++ ("]" : Str)).length ≤ _
  rw [str_len]
  omega
theorem sum_two : ∀ ts : List Str, (ts.map (·.length)).sum + ts.length * 2 = slen ts
  | [] => rfl
  | t :: r => by
    have := sum_two r
    show t.length + (r.map (·.length)).sum + (r.length + 1) * 2 = t.length + 2 + slen r
    omega
theorem tup_len (ts : List Str) : (tupleText ts).length ≤ slen ts + 3 := by
  have h := StrLaws.join_length_le (", " : Str) ts
  have e0 : (", " : Str).length = 2 := by decide +kernel
  have e1 : ("(" : Str).length = 1 := by decide +kernel
  have e2 : (Str.ofString (if ts.length == 1 then ",)" else ")" : String)).length ≤ 2 := by
    split <;> decide +kernel
  rw [e0, sum_two] at h
  show (("(" : Str) ++ Str.join (", " : Str) ts ++ Str.ofString (if ts.length == 1 then ",)" else ")" : String)).length ≤ _
  rw [str_len, str_len]
  omega
theorem slen_app (xs ys : List Str) : slen (xs ++ ys) = slen xs + slen ys := by
  unfold slen
  rw [List.map_append, List.sum_append]
theorem hd_len : ∀ {hd : List V}, (∀ v ∈ hd, VOk v) → slen (PyData.shownAll (hd.map vD)) ≤ 14 * hd.length
  | [], _ => Nat.le_refl _
  | v :: r, h => by
    have h1 := hd_len (hd := r) fun x hx => h x (List.mem_cons_of_mem _ hx)
    obtain ⟨_, _, _, _, h2⟩ := vd_ok (h v (by simp))
    show (vD v).shown.length + 2 + slen (PyData.shownAll (r.map vD)) ≤ 14 * (r.length + 1)
    omega
end Mw

namespace Mw
open PySem L2
def KU : List V := [.int 0, .int 1, .int 3, .int 7, .str "one", .str "few", .str "many", .str "he", .str "she", .str "other", .str "it"]
/-- keys are apart -/
def Kd : T → Prop
  | .nil => True
  | .text _ r => Kd r
  | .shw _ r => Kd r
  | .num r => Kd r
  | .cho _ cs o r => (∀ k ∈ cs.keys, k ∈ KU ∧ k ≠ .str "other") ∧ cs.keys.Nodup ∧ Kd cs ∧ Kd o ∧ Kd r
  | .cas _ m r => Kd m ∧ Kd r
theorem txt_len {s : Str} (h : PyData.strOk s = true) : (reprText s).length ≤ 10 * s.length + 2 :=
  PySem.StrLaws.reprText_len s fun c hc => by
    unfold PyData.strOk at h
    rw [Array.all_eq_true'] at h
    have := of_decide_eq_true (h c (by simpa using hc))
    omega
theorem slen_cons (t : Str) (r : List Str) : slen (t :: r) = t.length + 2 + slen r := rfl
theorem slen_nil : slen [] = 0 := rfl
theorem dat_len : ∀ {t : T}, SOk t → slen (PyData.shownAll (dat t)) ≤ 60 * t.sz
  | .nil, _ => Nat.le_refl _
  | .text s r, w => by
    have h := dat_len w.2
    have h1 := txt_len w.1
    have h2 : (reprText ("text" : Str)).length ≤ 10 := by decide +kernel
    have h3 := tup_len [reprText ("text" : Str), reprText s]
    simp only [dat, PyData.shownAll, slen_cons, slen_nil, PyData.shown, T.sz] at h3 ⊢
    omega
  | .shw n r, w => by
    have h := dat_len w.2
    have h1 : (reprText n).length ≤ 12 := w.1.2
    have h2 : (reprText ("show" : Str)).length ≤ 10 := by decide +kernel
    have h3 := tup_len [reprText ("show" : Str), reprText n]
    simp only [dat, PyData.shownAll, slen_cons, slen_nil, PyData.shown, T.sz] at h3 ⊢
    omega
  | .num r, w => by
    have h := dat_len (t := r) w
    have h2 : (reprText ("number" : Str)).length ≤ 10 := by decide +kernel
    have h3 := tup_len [reprText ("number" : Str)]
    simp only [dat, PyData.shownAll, slen_cons, slen_nil, PyData.shown, T.sz] at h3 ⊢
    omega
  | .cho hd cs o r, w => by
    have h := dat_len w.2.2.2.2
    have h1 := dat_len w.2.2.1
    have h2 := dat_len w.2.2.2.1
    have h0 := hd_len w.1
    have hl := w.2.1
    have a1 := list_len (PyData.shownAll (dat cs))
    have a2 := list_len (PyData.shownAll (dat o))
    have h3 := tup_len (PyData.shownAll (hd.map vD) ++ [listText (PyData.shownAll (dat cs)), listText (PyData.shownAll (dat o))])
    simp only [dat, PyData.shownAll, slen_cons, slen_nil, PyData.shown, T.sz, sa_app, slen_app] at h3 ⊢
    omega
  | .cas k m r, w => by
    have h := dat_len w.2.2
    have h1 := dat_len w.2.1
    obtain ⟨_, _, _, _, h0⟩ := vd_ok w.1
    have a1 := list_len (PyData.shownAll (dat m))
    have h3 := tup_len [(vD k).shown, listText (PyData.shownAll (dat m))]
    simp only [dat, PyData.shownAll, slen_cons, slen_nil, PyData.shown, T.sz] at h3 ⊢
    omega
theorem menu_ok {s : Str} (h : s ∈ menu) : PyData.strOk s = true := by
  have a : ∀ s ∈ menu, PyData.strOk s = true := by decide +kernel
  exact a s h
theorem keys_ok : (∀ v ∈ skeys, VOk v ∧ KeyW v ∧ v ∈ KU ∧ v ≠ .str "other") ∧ ∀ v ∈ pkeys, VOk v ∧ KeyW v ∧ v ∈ KU ∧ v ≠ .str "other" := by
  have s : ∀ x : Str, x ∈ (["he", "she", "one", "few", "many"] : List Str) → VOk (.str x) ∧ KeyW (.str x) ∧ V.str x ∈ KU ∧ V.str x ≠ .str "other" := by
    intro x hx
    refine ⟨?_, .inl ⟨_, rfl⟩, ?_, fun e => ?_⟩
    · have a : ∀ x ∈ (["he", "she", "one", "few", "many"] : List Str), PyData.strOk x = true ∧ (reprText x).length ≤ 12 := by decide +kernel
      exact a x hx
    · simp only [List.mem_cons, List.not_mem_nil, or_false] at hx
      rcases hx with rfl | rfl | rfl | rfl | rfl <;> simp [KU]
    · have a : ∀ x ∈ (["he", "she", "one", "few", "many"] : List Str), x ≠ "other" := by decide +kernel
      exact a x hx (str_eq e)
  have n : ∀ i : Int, i = 0 ∨ i = 1 ∨ i = 3 → VOk (.int i) ∧ KeyW (.int i) ∧ V.int i ∈ KU ∧ V.int i ≠ .str "other" := by
    rintro i (rfl | rfl | rfl) <;> exact ⟨⟨by decide, by decide⟩, .inr ⟨_, rfl⟩, by simp [KU], by intro z; cases z⟩
  constructor
  · intro v hv
    simp only [skeys, wordsL, List.map_cons, List.map_nil, List.mem_cons, List.not_mem_nil, or_false] at hv
    rcases hv with rfl | rfl <;> exact s _ (by simp)
  · intro v hv
    simp only [pkeys, List.mem_cons, List.not_mem_nil, or_false] at hv
    rcases hv with rfl | rfl | rfl | rfl | rfl | rfl
    · exact n 0 (by simp)
    · exact n 1 (by simp)
    · exact n 3 (by simp)
    · exact s _ (by simp)
    · exact s _ (by simp)
    · exact s _ (by simp)
theorem nodup_s : skeys.Nodup ∧ pkeys.Nodup := by
  constructor <;> simp [skeys, wordsL, pkeys] <;> decide
theorem hdok_all {hd ks : List V} {i j : Bool} (h : HdOk hd i j ks) : HdW hd ∧ (∀ v ∈ hd, VOk v) ∧ hd.length ≤ 3 ∧ (∀ v ∈ ks, VOk v ∧ KeyW v ∧ v ∈ KU ∧ v ≠ .str "other") ∧ ks.Nodup := by
  have w : ∀ x : Str, x ∈ (["select", "w", "plural", "m", "n"] : List Str) → VOk (.str x) := by
    intro x hx
    have a : ∀ x ∈ (["select", "w", "plural", "m", "n"] : List Str), PyData.strOk x = true ∧ (reprText x).length ≤ 12 := by decide +kernel
    exact a x hx
  cases h with
  | sel hk =>
    refine ⟨.inl ⟨_, rfl⟩, fun v hv => ?_, by simp, fun v hv => keys_ok.1 v (hk.subset hv), nodup_s.1.sublist hk⟩
    simp only [List.mem_cons, List.not_mem_nil, or_false] at hv
    rcases hv with rfl | rfl <;> exact w _ (by simp)
  | plu hn ho hk =>
    refine ⟨.inr ⟨_, _, rfl⟩, fun v hv => ?_, by simp, fun v hv => keys_ok.2 v (hk.subset hv), nodup_s.2.sublist hk⟩
    simp only [List.mem_cons, List.not_mem_nil, or_false] at hv
    rcases hv with rfl | rfl | rfl
    · exact w _ (by simp)
    · simp only [numsL, List.mem_cons, List.not_mem_nil, or_false] at hn
      rcases hn with rfl | rfl <;> exact w _ (by simp)
    · rcases ho with rfl | rfl | rfl <;> exact ⟨by decide, by decide⟩
theorem Gd.all : ∀ {t : T} {c : Bool} {d : Nat} {i : Bool}, Gd t c d i → (c = true → ∀ v ∈ t.keys, VOk v ∧ KeyW v) → Wf t c ∧ SOk t ∧ t.dep ≤ d ∧ Kd t
  | .nil, _, _, _, _, _ => ⟨trivial, trivial, Nat.zero_le _, trivial⟩
  | .text s r, c, d, i, h, k => by
    obtain ⟨a, b, e, f⟩ := Gd.all (t := r) h.2.2 fun hc => by
      rw [h.1] at hc
      cases hc
    exact ⟨⟨h.1, a⟩, ⟨menu_ok h.2.1, b⟩, e, f⟩
  | .shw n r, c, d, i, h, k => by
    obtain ⟨a, b, e, f⟩ := Gd.all (t := r) h.2.2 fun hc => by
      rw [h.1] at hc
      cases hc
    have w : ∀ x ∈ shows3, PyData.strOk x = true ∧ (reprText x).length ≤ 12 := by decide +kernel
    exact ⟨⟨h.1, a⟩, ⟨w n h.2.1, b⟩, e, f⟩
  | .num r, c, d, i, h, k => by
    obtain ⟨a, b, e, f⟩ := Gd.all (t := r) h.2.2 fun hc => by
      rw [h.1] at hc
      cases hc
    exact ⟨⟨h.1, a⟩, b, e, f⟩
  | .cho hd cs o r, c, d, i, h, k => by
    obtain ⟨h1, ⟨e', j, he, hh, g1, g2⟩, h3⟩ := h
    obtain ⟨w1, w2, w3, w4, w5⟩ := hdok_all hh
    obtain ⟨a, b, e, f⟩ := Gd.all (t := r) h3 fun hc => by
      rw [h1] at hc
      cases hc
    obtain ⟨a1, b1, e1, f1⟩ := Gd.all g1 fun _ v hv => ⟨(w4 v hv).1, (w4 v hv).2.1⟩
    obtain ⟨a2, b2, e2, f2⟩ := Gd.all g2 fun hc => by cases hc
    refine ⟨⟨h1, w1, a1, a2, a⟩, ⟨w2, w3, b1, b2, b⟩, ?_, ⟨fun x hx => ⟨(w4 x hx).2.2.1, (w4 x hx).2.2.2⟩, w5, f1, f2, f⟩⟩
    simp only [T.dep]
    omega
  | .cas kk m r, c, d, i, h, k => by
    obtain ⟨a, b, e, f⟩ := Gd.all (t := r) h.2.2 fun hc v hv => k hc v (List.mem_cons_of_mem _ hv)
    obtain ⟨a1, b1, e1, f1⟩ := Gd.all h.2.1 fun hc => by cases hc
    have kk' := k h.1 kk (by simp [T.keys])
    refine ⟨⟨h.1, kk'.2, a1, a⟩, ⟨kk'.1, b1, b⟩, ?_, f1, f⟩
    simp only [T.dep]
    omega
end Mw

namespace Mw
open PySem L2 Gg
/-! ### data that repr shows -/
theorem sh_msg {t : T} (hs : SOk t) (hw : Wf t false) (hd : t.dep ≤ 10) (hz : t.sz ≤ 100000) : Sh (.list (dat t)) := by
  obtain ⟨_, h2, h3⟩ := dat_ok hs
  have h4 := dat_depth hw hs
  simp only [Bool.false_eq_true, if_false] at h4
  have h5 := dat_len hs
  have h6 := list_len (PyData.shownAll (dat t))
  exact ⟨h2, h3, show PyData.depthAll (dat t) + 1 ≤ 60 by omega, show (listText (PyData.shownAll (dat t))).length ≤ _ by omega⟩
theorem sh_one {t : T} (hs : SOk t) (hw : Wf t false) (hd : t.dep ≤ 10) (hz : t.sz ≤ 100000) : Sh (.list [.list (dat t)]) := by
  obtain ⟨_, h2, h3⟩ := dat_ok hs
  have h4 := dat_depth hw hs
  simp only [Bool.false_eq_true, if_false] at h4
  have h5 := dat_len hs
  have h6 := list_len (PyData.shownAll (dat t))
  have h7 := list_len [listText (PyData.shownAll (dat t))]
  refine ⟨?_, ?_, ?_, ?_⟩
  · show (PyData.showableAll (dat t) && true) = true
    rw [h2]
    rfl
  · show (PyData.hasDictAll (dat t) || false) = false
    rw [h3]
    rfl
  · show max (PyData.depthAll (dat t) + 1) 0 + 1 ≤ 60
    omega
  · show (listText [listText (PyData.shownAll (dat t))]).length ≤ _
    rw [slen_cons, slen_nil] at h7
    omega
theorem sh_nil : Sh (.list []) := ⟨rfl, rfl, by decide, by decide +kernel⟩
theorem ku_vok {k : V} (h : k ∈ KU) : VOk k := by
  have a : ∀ x ∈ (["one", "few", "many", "he", "she", "other", "it"] : List Str), PyData.strOk x = true ∧ (reprText x).length ≤ 12 := by decide +kernel
  simp only [KU, List.mem_cons, List.not_mem_nil, or_false] at h
  rcases h with rfl | rfl | rfl | rfl | rfl | rfl | rfl | rfl | rfl | rfl | rfl <;> first | exact ⟨by decide, by decide⟩ | exact a _ (by simp)
theorem sh_key {k : V} (h : k ∈ KU) : Sh (vD k) := by
  obtain ⟨_, h2, h3, h4, h5⟩ := vd_ok (ku_vok h)
  exact ⟨h2, h3, by omega, by omega⟩
/-- what tells keys apart -/
theorem ku_shown {a b : V} (ha : a ∈ KU) (hb : b ∈ KU) : decide (V.str (vD a).shown = V.str (vD b).shown) = decide (a = b) := by
  have key : ∀ a ∈ KU, ∀ b ∈ KU, a ≠ b → (vD a).shown ≠ (vD b).shown := by
    intro a ha b hb
    simp only [KU, List.mem_cons, List.not_mem_nil, or_false] at ha hb
    rcases ha with rfl | rfl | rfl | rfl | rfl | rfl | rfl | rfl | rfl | rfl | rfl <;> rcases hb with rfl | rfl | rfl | rfl | rfl | rfl | rfl | rfl | rfl | rfl | rfl <;>
      first | (intro h; exact absurd rfl h) | (intro _; simp only [vD]; decide +kernel)
  by_cases e : a = b
  · subst e
    rw [decide_eq_true rfl, decide_eq_true rfl]
  · rw [decide_eq_false e, decide_eq_false fun z => key a ha b hb e (str_eq z)]
theorem slen_le {ts : List Str} {n : Nat} (h : ∀ t ∈ ts, t.length ≤ n) : slen ts ≤ ts.length * (n + 2) := by
  induction ts with
  | nil => exact Nat.zero_le _
  | cons t ts ih =>
    rw [slen_cons, List.length_cons, Nat.add_mul, Nat.one_mul]
    have h1 := h t (by simp)
    have h2 := ih fun x hx => h x (List.mem_cons_of_mem _ hx)
    omega
section
variable {P : Program} {w : World} {K : PySem.W.Frag} {mg : Str → Option Value} {base : Heap}
abbrev sSame : Stmt := top 20
theorem scSame : FnScope ["one", "other"] ["one", "other"] (defScope sSame) := ⟨rfl, rfl, rfl, by decide +kernel, rfl, by decide +kernel, by decide +kernel⟩
def spSame (K : PySem.W.Frag) : Sp := fun vs H Q _ => ∃ (v1 v2 : V) (d1 d2 : PyData), vs = [v1, v2] ∧ Dp K H v1 d1 ∧ Dp K H v2 d2 ∧ Sh d1 ∧ Sh d2 ∧ Q (.bl (decide (V.str d1.shown = V.str d2.shown))) H
theorem ok_same {f : Addr} {fd : FuncData} (F : Fun K "_law_same" "_law_same" sSame f fd) (mRepr : mg "repr" = none) : FnG P w K mg base CX0 1 f fd ["one", "other"] (spSame K) := by
  refine okG F scSame (fun vs H Q E h => ?_) (fun A cdv outer s H vs Q E gd hr h => ?_)
  · obtain ⟨v1, v2, d1, d2, rfl, _⟩ := h
    rfl
  obtain ⟨v1, v2, d1, d2, rfl, h1, h2, s1, s2, q⟩ := h
  have hu : (A.deeper (PyProof.Rows.envOfC "_law_same" (defScope sSame) s.heap.objs.size f cdv)).units + 100 < cLine := by
    have := hr.un
    omega
  refine ⟨_, (pss_one (ps_ret (pe_cmpR op_eq (pe_callB (Gg.call_repr gd hu) (by rfl) mRepr (by decide +kernel) (pa_cons (pv 0) pa_nil)) (pe_callB (Gg.call_repr gd hu) (by rfl) mRepr (by decide +kernel) (pa_cons (pv 1) pa_nil)) (nomark _)))), ?_⟩
  exact ⟨_, rfl, _, _, rfl, h1, s1, _, rfl, _, _, rfl, h2, s2, rfl, q⟩
end
end Mw

/-! repr of data that hold dicts -/
namespace Dq
open PySem PySem.Spec PyProof.Rows L2
def kD : Key → PyData
  | .inl i => .int i
  | .inr s => .str s
mutual
inductive Is (K : PySem.W.Frag) (H : Hp) : V → PyData → Prop
  | non : Is K H .non .none
  | bl (b : Bool) : Is K H (.bl b) (.bool b)
  | int (i : Int) : Is K H (.int i) (.int i)
  | str (x : Str) : Is K H (.str x) (.str x)
  | lst {a : Addr} {xs : List V} {ds : List PyData} : SqL K H a xs → All K H xs ds → Is K H (.ref a) (.list ds)
  | tup {a : Addr} {xs : List V} {ds : List PyData} : SqT K H a xs → All K H xs ds → Is K H (.ref a) (.tuple ds)
  | dk {a : Addr} {kvs : List (Key × V)} {ps : List (PyData × PyData)} : H a = some (.dK kvs) → Kvs K H kvs ps → Is K H (.ref a) (.dict ps)
inductive All (K : PySem.W.Frag) (H : Hp) : List V → List PyData → Prop
  | nil : All K H [] []
  | cons {v : V} {vs : List V} {d : PyData} {ds : List PyData} : Is K H v d → All K H vs ds → All K H (v :: vs) (d :: ds)
inductive Kvs (K : PySem.W.Frag) (H : Hp) : List (Key × V) → List (PyData × PyData) → Prop
  | nil : Kvs K H [] []
  | cons {k : Key} {v : V} {r : List (Key × V)} {d : PyData} {rs : List (PyData × PyData)} : Is K H v d → Kvs K H r rs → Kvs K H ((k, v) :: r) ((kD k, d) :: rs)
end
mutual
theorem of {K : PySem.W.Frag} {H : Hp} : ∀ (d : PyData) (v : V), Dp K H v d → Is K H v d
  | .none, _, h => by cases h; exact .non
  | .bool _, _, h => by cases h; exact .bl _
  | .int _, _, h => by cases h; exact .int _
  | .str _, _, h => by cases h; exact .str _
  | .list ds, _, h => by
    cases h with
    | lst hs ha => exact .lst hs (ofAll ds _ ha)
  | .tuple ds, _, h => by
    cases h with
    | tup hs ha => exact .tup hs (ofAll ds _ ha)
  | .dict _, _, h => by cases h
theorem ofAll {K : PySem.W.Frag} {H : Hp} : ∀ (ds : List PyData) (vs : List V), DpAll K H vs ds → All K H vs ds
  | [], _, h => by cases h; exact .nil
  | d :: ds, _, h => by
    cases h with
    | cons h1 h2 => exact .cons (of d _ h1) (ofAll ds _ h2)
end
/-- the frag tells what lies at the address of sys.modules: a dict -/
def Mods (K : PySem.W.Frag) : Prop := ∃ o : Obj, K.lookup sysModules = some o ∧ o.cls = .type "dict"
section
variable {X : Cx} {pins : List (Addr × Obj)} {σ : L2.St} {H : Hp} {s : Shared}
theorem not_mods (M : Mods X.K) (I : Inv X pins σ H s) {a : Addr} {o : Obj} (ho : s.heap.get? a = some o) (hc : o.cls = .type "list") : a ≠ sysModules := by
  rintro rfl
  obtain ⟨u, h1, h2⟩ := M
  have h3 := I.kIn _ _ h1
  rw [ho] at h3
  injection h3 with h3
  subst h3
  rw [hc] at h2
  exact absurd h2 (by decide)
theorem key_reads {h : Heap} {P : Program} {w : World} {k : Key} {u : Value} (z : (mixKind P w).is k u = true) : Reads h u (kD k) [] := by
  cases k with
  | inl i =>
    obtain ⟨t, rfl⟩ : ∃ t, u = .int i t := by
      cases u with
      | int j t =>
        have : (j == i) = true := z
        rw [eq_of_beq this]
        exact ⟨t, rfl⟩
      | _ => cases z
    exact Reads.int i t
  | inr x =>
    obtain ⟨t, rfl⟩ := Value.isStrOf_shape z
    exact Reads.str x t
mutual
theorem reads (M : Mods X.K) (I : Inv X pins σ H s) : ∀ (d : PyData) (v : V) (u : Value), Is X.K H v d → RelV v u → ∃ as, Reads s.heap u d as ∧ sysModules ∉ as
  | .none, _, _, h, r => by
    cases h
    cases r
    exact ⟨_, Reads.none, List.not_mem_nil⟩
  | .bool b, _, _, h, r => by
    cases h
    cases r
    exact ⟨_, Reads.bool b, List.not_mem_nil⟩
  | .int i, _, _, h, r => by
    cases h
    obtain ⟨t, rfl⟩ := r
    exact ⟨_, Reads.int i t, List.not_mem_nil⟩
  | .str x, _, _, h, r => by
    cases h
    obtain ⟨t, rfl⟩ := r
    exact ⟨_, Reads.str x t, List.not_mem_nil⟩
  | .list ds, _, _, h, r => by
    cases h with
    | lst hs ha =>
      cases r
      obtain ⟨its, rv, ⟨o, n, ho, hc, _, hd⟩, _⟩ := I.list hs
      obtain ⟨as, hr, hm⟩ := readsAll M I ds _ its ha rv
      exact ⟨_, Reads.list ho hc hd hr, fun z => (List.mem_cons.mp z).elim (fun e => not_mods M I ho hc e.symm) hm⟩
  | .tuple ds, _, _, h, r => by
    cases h with
    | tup hs ha =>
      cases r
      obtain ⟨its, rv, ⟨o, ho, hc, n, hd⟩, _⟩ := I.tuple hs
      obtain ⟨as, hr, hm⟩ := readsAll M I ds _ its ha rv
      exact ⟨_, Reads.tuple ho hc hd hr, hm⟩
  | .dict ps, _, _, h, r => by
    cases h with
    | dk hs ha =>
      cases r
      obtain ⟨_, lo, vs, rel, o, es, ep, ho, hx, hd, hk, hp, hn⟩ := dk_of I.hok hs
      obtain ⟨bs, h1, h2, hm⟩ := readsKv M I ps _ vs es.toList ha rel hp
      refine ⟨_, Reads.dict ho hx.1 hd h1 h2, fun z => ?_⟩
      rcases List.mem_cons.mp z with z | z
      · rw [← z] at lo
        cases lo
      · exact hm (by simpa using z)
theorem readsAll (M : Mods X.K) (I : Inv X pins σ H s) : ∀ (ds : List PyData) (vs : List V) (us : List Value), All X.K H vs ds → Vals vs us → ∃ as, ReadsAll s.heap us ds as ∧ sysModules ∉ as
  | [], _, _, h, r => by
    cases h
    cases r
    exact ⟨_, ReadsAll.nil, List.not_mem_nil⟩
  | d :: ds, _, _, h, r => by
    cases h with
    | cons h1 h2 =>
      cases r with
      | cons r1 r2 =>
        obtain ⟨as, q1, m1⟩ := reads M I d _ _ h1 r1
        obtain ⟨bs, q2, m2⟩ := readsAll M I ds _ _ h2 r2
        exact ⟨_, ReadsAll.cons q1 q2, fun z => (List.mem_append.mp z).elim m1 m2⟩
theorem readsKv (M : Mods X.K) (I : Inv X pins σ H s) : ∀ (ps : List (PyData × PyData)) (kvs : List (Key × V)) (vs : List (Key × Value)) (es : List DictEntry), Kvs X.K H kvs ps → KV kvs vs → Pairs (mixKind X.prog X.w) es vs →
    ∃ bs, ReadsAll s.heap (es.map (·.key)) (ps.map (·.1)) [] ∧ ReadsAll s.heap (es.map (·.val)) (ps.map (·.2)) bs ∧ sysModules ∉ bs
  | [], _, _, _, h, r, p => by
    cases h
    cases r
    cases p
    exact ⟨_, ReadsAll.nil, ReadsAll.nil, List.not_mem_nil⟩
  | (_, d) :: ps, _, _, _, h, r, p => by
    cases h with
    | cons h1 h2 =>
      cases r with
      | @cons a b as' bs' r1 r2 =>
        cases p with
        | cons p1 p2 p3 =>
          obtain ⟨as, q1, m1⟩ := reads M I d _ _ h1 r1.2
          obtain ⟨bs, q2, q3, m2⟩ := readsKv M I ps _ _ _ h2 r2 p3
          have e := r1.1
          refine ⟨_, ?_, ?_, fun z => (List.mem_append.mp z).elim m1 m2⟩
          · exact ReadsAll.cons (as := []) (by
            have z := key_reads (h := s.heap) p1
            rw [← e] at z
            exact z) q2
          · rw [List.map_cons, p2]
            exact ReadsAll.cons q1 q3
end
end
/-- what repr shows whole -/
structure Sh (d : PyData) : Prop where
  sh : d.showable = true
  dp : d.depth ≤ 150
  ln : d.shown.length ≤ 16000000
theorem call_repr {X : Cx} (M : Mods X.K) (hg : X.A.guards = some []) (hu : X.A.units + 160 < cLine) : CallR X (.builtin "repr") (fun xs H Q => ∃ a d, xs = [.ref a] ∧ Is X.K H (.ref a) d ∧ Sh d ∧ Q (.str d.shown) H) := by
  intro pins s σ H xs us Q I r h
  obtain ⟨a, d, rfl, hd, ⟨h1, h3, h4⟩, q⟩ := h
  obtain ⟨u, rfl, ru⟩ := vals1 r
  obtain ⟨as, rd, hm⟩ := reads M I _ _ _ hd ru
  cases ru
  refine repr_of_reads' rd h1 (fun _ => hm) hg ?_ (fun _ _ e => e) (fun h' u tk hk => ⟨.str _, H, I.kept (t' := tk) hk, ⟨_, rfl⟩, q⟩) (Nat.le_trans h4 (by decide))
  show X.A.units + (d.depth + 1) < cLine
  omega
end Dq

namespace Mw
open PySem L2
theorem app_nil : ∀ t : T, t.app .nil = t
  | .nil => rfl
  | .text s r => congrArg (T.text s) (app_nil r)
  | .shw s r => congrArg (T.shw s) (app_nil r)
  | .num r => congrArg T.num (app_nil r)
  | .cho hd cs o r => congrArg (T.cho hd cs o) (app_nil r)
  | .cas k m r => congrArg (T.cas k m) (app_nil r)
theorem app_assoc (u v : T) : ∀ t : T, (t.app u).app v = t.app (u.app v)
  | .nil => rfl
  | .text s r => congrArg (T.text s) (app_assoc u v r)
  | .shw s r => congrArg (T.shw s) (app_assoc u v r)
  | .num r => congrArg T.num (app_assoc u v r)
  | .cho hd cs o r => congrArg (T.cho hd cs o) (app_assoc u v r)
  | .cas k m r => congrArg (T.cas k m) (app_assoc u v r)
def cb (H0 H H1 : Hp) : Hp := fun a => match H a with
  | some _ => H0 a
  | none => H1 a
theorem cb_in {H0 H H1 : Hp} {a : Addr} {o : HO} (h : cb H0 H H1 a = some o) : ((∃ u, H a = some u) ∧ H0 a = some o) ∨ (H a = none ∧ H1 a = some o) := by
  unfold cb at h
  split at h
  · rename_i u e
    exact .inl ⟨⟨u, e⟩, h⟩
  · rename_i e
    exact .inr ⟨e, h⟩
theorem cb_new {H0 H H1 : Hp} {a : Addr} (h : H a = none) : cb H0 H H1 a = H1 a := by
  unfold cb
  rw [h]
theorem cb_old {H0 H H1 : Hp} {a : Addr} {u : HO} (h : H a = some u) : cb H0 H H1 a = H0 a := by
  unfold cb
  rw [h]
theorem cb_base {H0 H H1 : Hp} (s : Same H0 H) : Same H0 (cb H0 H H1) := fun a o h => by
  rw [cb_old (s _ _ h)]
  exact h
theorem cb_self {H H' : Hp} (s : Same H H') : Same (cb H H H') H' := fun a o h => by
  rcases cb_in h with ⟨_, h3⟩ | ⟨_, h3⟩
  · exact s _ _ h3
  · exact h3
theorem cb_same {H0 H H1 H2 : Hp} (s : Same H1 H2) : Same (cb H0 H H1) (cb H0 H H2) := fun a o h => by
  rcases cb_in h with ⟨⟨u, e⟩, h3⟩ | ⟨e, h3⟩
  · rw [cb_old e]
    exact h3
  · rw [cb_new e]
    exact s _ _ h3
/-- new at a -/
theorem cb_at {H0 H H1 : Hp} {a : Addr} {o : HO} (hn : H a = none) (h : H1 a = some o) : cb H0 H H1 a = some o := by
  rw [cb_new hn]
  exact h
def ch : List T → T
  | [] => .nil
  | u :: us => u.app (ch us)
theorem ch_nodes : ∀ t : T, ch t.nodes = t
  | .nil => rfl
  | .text s r => congrArg (T.text s) (ch_nodes r)
  | .shw s r => congrArg (T.shw s) (ch_nodes r)
  | .num r => congrArg T.num (ch_nodes r)
  | .cho hd cs o r => congrArg (T.cho hd cs o) (ch_nodes r)
  | .cas k m r => congrArg (T.cas k m) (ch_nodes r)
theorem nodes_single : ∀ {t : T}, ∀ u ∈ t.nodes, u.single
  | .nil, _, h => by cases h
  | .text s r, u, h => by
    rcases List.mem_cons.mp h with rfl | h
    · exact rfl
    · exact nodes_single (t := r) u h
  | .shw s r, u, h => by
    rcases List.mem_cons.mp h with rfl | h
    · exact rfl
    · exact nodes_single (t := r) u h
  | .num r, u, h => by
    rcases List.mem_cons.mp h with rfl | h
    · exact rfl
    · exact nodes_single (t := r) u h
  | .cho hd cs o r, u, h => by
    rcases List.mem_cons.mp h with rfl | h
    · exact rfl
    · exact nodes_single (t := r) u h
  | .cas k m r, u, h => by
    rcases List.mem_cons.mp h with rfl | h
    · exact rfl
    · exact nodes_single (t := r) u h
theorem Wf.app {u : T} {c : Bool} (hu : Wf u c) : ∀ {t : T}, Wf t c → Wf (t.app u) c
  | .nil, _ => hu
  | .text _ r, h => ⟨h.1, Wf.app hu h.2⟩
  | .shw _ r, h => ⟨h.1, Wf.app hu h.2⟩
  | .num r, h => ⟨h.1, Wf.app hu h.2⟩
  | .cho _ _ _ r, h => ⟨h.1, h.2.1, h.2.2.1, h.2.2.2.1, Wf.app hu h.2.2.2.2⟩
  | .cas _ _ r, h => ⟨h.1, h.2.1, h.2.2.1, Wf.app hu h.2.2.2⟩
theorem kd_nodes : ∀ {t : T}, Kd t → ∀ u ∈ t.nodes, Kd u
  | .nil, _, _, h => by cases h
  | .text s r, k, u, h => by
    rcases List.mem_cons.mp h with rfl | h
    · exact trivial
    · exact kd_nodes (t := r) k u h
  | .shw s r, k, u, h => by
    rcases List.mem_cons.mp h with rfl | h
    · exact trivial
    · exact kd_nodes (t := r) k u h
  | .num r, k, u, h => by
    rcases List.mem_cons.mp h with rfl | h
    · exact trivial
    · exact kd_nodes (t := r) k u h
  | .cho hd cs o r, k, u, h => by
    rcases List.mem_cons.mp h with rfl | h
    · exact ⟨k.1, k.2.1, k.2.2.1, k.2.2.2.1, trivial⟩
    · exact kd_nodes k.2.2.2.2 u h
  | .cas k' m r, k, u, h => by
    rcases List.mem_cons.mp h with rfl | h
    · exact ⟨k.1, trivial⟩
    · exact kd_nodes k.2 u h
theorem kd_msgs : ∀ {t : T}, Kd t → ∀ m ∈ t.msgs, Kd m
  | .cas _ m r, k, m', h => by
    rcases List.mem_cons.mp h with rfl | h
    · exact k.1
    · exact kd_msgs k.2 m' h
  | .nil, _, _, h => by cases h
  | .text _ _, _, _, h => by cases h
  | .shw _ _, _, _, h => by cases h
  | .num _, _, _, h => by cases h
  | .cho _ _ _ _, _, _, h => by cases h
theorem kd_inner {u : T} (k : Kd u) : ∀ m ∈ u.inner, Kd m := by
  cases u with
  | cho hd cs o r =>
    intro m h
    rcases List.mem_append.mp h with h | h
    · exact kd_msgs k.2.2.1 m h
    · rw [List.mem_singleton.mp h]
      exact k.2.2.2.1
  | _ => intro m h; cases h
theorem node_sz : ∀ {t : T}, ∀ u ∈ t.nodes, u.sz ≤ t.sz
  | .nil, _, h => by cases h
  | .text s r, u, h => by
    rcases List.mem_cons.mp h with rfl | h
    · simp only [T.sz]; omega
    · have := node_sz u h
      simp only [T.sz]; omega
  | .shw s r, u, h => by
    rcases List.mem_cons.mp h with rfl | h
    · simp only [T.sz]; omega
    · have := node_sz u h
      simp only [T.sz]; omega
  | .num r, u, h => by
    rcases List.mem_cons.mp h with rfl | h
    · simp only [T.sz]; omega
    · have := node_sz u h
      simp only [T.sz]; omega
  | .cho hd cs o r, u, h => by
    rcases List.mem_cons.mp h with rfl | h
    · simp only [T.sz]; omega
    · have := node_sz u h
      simp only [T.sz]; omega
  | .cas k m r, u, h => by
    rcases List.mem_cons.mp h with rfl | h
    · simp only [T.sz]; omega
    · have := node_sz u h
      simp only [T.sz]; omega
theorem inner_sz {u : T} : ∀ m ∈ u.inner, m.sz ≤ u.sz := by
  have key : ∀ {cs : T}, ∀ m ∈ cs.msgs, m.sz ≤ cs.sz := by
    intro cs
    induction cs with
    | cas k m r _ ih =>
      intro m' h
      rcases List.mem_cons.mp h with rfl | h
      · simp only [T.sz]; omega
      · have := ih m' h
        simp only [T.sz]; omega
    | _ => intro m h; cases h
  cases u with
  | cho hd cs o r =>
    intro m h
    rcases List.mem_append.mp h with h | h
    · have := key m h
      simp only [T.sz]; omega
    · rw [List.mem_singleton.mp h]
      simp only [T.sz]; omega
  | _ => intro m h; cases h
theorem sok_nodes : ∀ {t : T}, SOk t → ∀ u ∈ t.nodes, SOk u
  | .nil, _, u, h => by cases h
  | .text s r, w, u, h => by
    rcases List.mem_cons.mp h with rfl | h
    · exact ⟨w.1, trivial⟩
    · exact sok_nodes w.2 u h
  | .shw s r, w, u, h => by
    rcases List.mem_cons.mp h with rfl | h
    · exact ⟨w.1, trivial⟩
    · exact sok_nodes w.2 u h
  | .num r, w, u, h => by
    rcases List.mem_cons.mp h with rfl | h
    · exact trivial
    · exact sok_nodes (t := r) w u h
  | .cho hd cs o r, w, u, h => by
    rcases List.mem_cons.mp h with rfl | h
    · exact ⟨w.1, w.2.1, w.2.2.1, w.2.2.2.1, trivial⟩
    · exact sok_nodes w.2.2.2.2 u h
  | .cas k m r, w, u, h => by
    rcases List.mem_cons.mp h with rfl | h
    · exact ⟨w.1, w.2.1, trivial⟩
    · exact sok_nodes w.2.2 u h
theorem sok_msgs : ∀ {t : T}, SOk t → ∀ m ∈ t.msgs, SOk m
  | .cas k m r, w, u, h => by
    rcases List.mem_cons.mp h with rfl | h
    · exact w.2.1
    · exact sok_msgs w.2.2 u h
  | .nil, _, _, h => by cases h
  | .text _ _, _, _, h => by cases h
  | .shw _ _, _, _, h => by cases h
  | .num _, _, _, h => by cases h
  | .cho _ _ _ _, _, _, h => by cases h
theorem sok_inner {u : T} (k : SOk u) : ∀ m ∈ u.inner, SOk m := by
  cases u with
  | cho hd cs o r =>
    intro m h
    rcases List.mem_append.mp h with h | h
    · exact sok_msgs k.2.2.1 m h
    · rw [List.mem_singleton.mp h]
      exact k.2.2.2.1
  | _ => intro m h; cases h
theorem ds_no {a b : Str} (h : a ≠ b) : decide (V.str a = V.str b) = false := decide_eq_false fun z => h (str_eq z)
theorem ds_yes (a : Str) : decide (V.str a = V.str a) = true := decide_eq_true rfl
theorem ch_app : ∀ us vs : List T, ch (us ++ vs) = (ch us).app (ch vs)
  | [], vs => rfl
  | u :: us, vs => by
    show u.app (ch (us ++ vs)) = (u.app (ch us)).app (ch vs)
    rw [ch_app us vs, app_assoc]
theorem cb_outS {H0 H H1 : Hp} (s0 : Same H0 H) (s : Same H H1) : Same (cb H0 H H1) H1 := fun a o h => by
  rcases cb_in h with ⟨_, h⟩ | ⟨_, h⟩
  · exact s _ _ (s0 _ _ h)
  · exact h
/-- the cases at cvs have the keys ks -/
def KeysAt (H : Hp) (cvs ks : List V) : Prop := cvs.length = ks.length ∧ ∀ (i : Nat) (v : V), cvs[i]? = some v → ∃ (q : Addr) (k x : V), v = V.ref q ∧ ks[i]? = some k ∧ H q = some (.tup [k, x])
/-- the cases of a chain, by its keys -/
theorem keys_at {H : Hp} : ∀ {cs : T} {cvs : List V}, Nodes H cs cvs → Wf cs true → KeysAt H cvs cs.keys
  | .nil, _, h, _ => by
    rw [show _ = [] from h]
    exact ⟨rfl, fun i v e => by simp at e⟩
  | .cas k m r, _, h, w => by
    obtain ⟨p, ws, ma, mvs, rfl, hp, hm, hms, hr⟩ := h
    obtain ⟨i1, i2⟩ := keys_at hr w.2.2.2
    refine ⟨congrArg (· + 1) i1, fun i v e => ?_⟩
    cases i with
    | zero =>
      have e' : V.ref p = v := by simpa using e
      subst e'
      exact ⟨p, k, .ref ma, rfl, rfl, hp⟩
    | succ i =>
      obtain ⟨q, k', x, e1, e2, e3⟩ := i2 i v (by simpa using e)
      exact ⟨q, k', x, e1, by simpa [T.keys] using e2, e3⟩
  | .text _ _, _, _, w => by cases w.1
  | .shw _ _, _, _, w => by cases w.1
  | .num _, _, _, w => by cases w.1
  | .cho _ _ _ _, _, _, w => by cases w.1
theorem msgs_len : ∀ {cs : T}, Wf cs true → cs.msgs.length = cs.keys.length ∧ cs.keys.length = cs.len
  | .nil, _ => ⟨rfl, rfl⟩
  | .cas k m r, w => by
    obtain ⟨h1, h2⟩ := msgs_len w.2.2.2
    exact ⟨congrArg (· + 1) h1, congrArg (· + 1) h2⟩
  | .text _ _, w => by cases w.1
  | .shw _ _, w => by cases w.1
  | .num _, w => by cases w.1
  | .cho _ _ _ _, w => by cases w.1
theorem single_len {u : T} (h : u.single) : u.len = 1 := by
  cases u with
  | nil => cases h
  | text _ r => cases (show r = .nil from h); rfl
  | shw _ r => cases (show r = .nil from h); rfl
  | num r => cases (show r = .nil from h); rfl
  | cho _ _ _ r => cases (show r = .nil from h); rfl
  | cas _ _ r => cases (show r = .nil from h); rfl
def Ws (L : List Addr) (H0 H H1 : Hp) : Hp := fun a => if a ∈ L then none else cb H0 H H1 a
section
variable {L L' : List Addr} {H0 H H1 H2 H3 H4 : Hp}
theorem ws_in {a : Addr} {o : HO} (h : Ws L H0 H H1 a = some o) : a ∉ L ∧ cb H0 H H1 a = some o := by
  unfold Ws at h
  split at h
  · cases h
  · exact ⟨by assumption, h⟩
theorem ws_off {a : Addr} (h : a ∉ L) : Ws L H0 H H1 a = cb H0 H H1 a := if_neg h
theorem ws_new {a : Addr} (h : a ∉ L) (e : H a = none) : Ws L H0 H H1 a = H1 a := by rw [ws_off h, cb_new e]
theorem ws_same (s : Same H1 H2) : Same (Ws L H0 H H1) (Ws L H0 H H2) := fun a o h => by
  obtain ⟨h1, h2⟩ := ws_in h
  rw [ws_off h1]
  exact cb_same s _ _ h2
theorem ws_mut {l : Addr} (hl : l ∈ L) (o : HO) : Ws L H0 H (upd H1 l o) = Ws L H0 H H1 := by
  funext a
  unfold Ws
  by_cases c : a ∈ L
  · rw [if_pos c, if_pos c]
  · rw [if_neg c, if_neg c]
    have hne : a ≠ l := fun e => c (e ▸ hl)
    unfold cb
    rw [upd_ne hne]
theorem ws_base (s : Same H0 H) (hL : ∀ l ∈ L, H l = none) : Same H0 (Ws L H0 H H1) := fun a o h => by
  have h1 := s _ _ h
  have : a ∉ L := fun c => by rw [hL a c] at h1; cases h1
  rw [ws_off this, cb_old h1]
  exact h
theorem ws_out (s0 : Same H0 H) (s : Same H H1) : Same (Ws L H0 H H1) H1 := fun a o h => by
  obtain ⟨_, h2⟩ := ws_in h
  rcases cb_in h2 with ⟨_, h3⟩ | ⟨_, h3⟩
  · exact s _ _ (s0 _ _ h3)
  · exact h3
/-- what a call gives back, asked of what was given to the caller -/
theorem ws_call (s0 : Same H0 H) (s3 : Same H H3) (hL : ∀ l ∈ L, H l = none ∧ ∃ u, H3 l = some u) : Same (cb H0 H3 H4) (Ws L H0 H H4) := fun a o h => by
  rcases cb_in h with ⟨⟨u, e⟩, h3⟩ | ⟨e, h3⟩
  · have h1 := s0 _ _ h3
    have : a ∉ L := fun c => by rw [(hL a c).1] at h1; cases h1
    rw [ws_off this, cb_old h1]
    exact h3
  · have h1 : H a = none := s3.free e
    have : a ∉ L := fun c => by
      obtain ⟨_, u, hu⟩ := hL a c
      rw [hu] at e
      cases e
    rw [ws_off this, cb_new h1]
    exact h3
theorem ws_sub (h : ∀ l ∈ L, l ∈ L') : Same (Ws L' H0 H H1) (Ws L H0 H H1) := fun a o e => by
  obtain ⟨h1, h2⟩ := ws_in e
  rw [ws_off fun c => h1 (h a c)]
  exact h2
theorem ws_end : Same (Ws L H0 H H1) (cb H0 H H1) := fun a o e => (ws_in e).2
end
theorem Nodes.split {H : Hp} {u : T} : ∀ {t : T} {vs : List V}, Nodes H (t.app u) vs → ∃ v1 v2, vs = v1 ++ v2 ∧ Nodes H t v1 ∧ Nodes H u v2
  | .nil, vs, h => ⟨[], vs, rfl, rfl, h⟩
  | .text s r, _, h => by
    obtain ⟨p, ws, rfl, hp, hr⟩ := h
    obtain ⟨v1, v2, rfl, h1, h2⟩ := Nodes.split hr
    exact ⟨_ :: v1, v2, rfl, ⟨p, v1, rfl, hp, h1⟩, h2⟩
  | .shw s r, _, h => by
    obtain ⟨p, ws, rfl, hp, hr⟩ := h
    obtain ⟨v1, v2, rfl, h1, h2⟩ := Nodes.split hr
    exact ⟨_ :: v1, v2, rfl, ⟨p, v1, rfl, hp, h1⟩, h2⟩
  | .num r, _, h => by
    obtain ⟨p, ws, rfl, hp, hr⟩ := h
    obtain ⟨v1, v2, rfl, h1, h2⟩ := Nodes.split (t := r) hr
    exact ⟨_ :: v1, v2, rfl, ⟨p, v1, rfl, hp, h1⟩, h2⟩
  | .cho hd cs o r, _, h => by
    obtain ⟨p, ws, ca, cvs, oa, ovs, rfl, h1, h2, h3, h4, h5, hr⟩ := h
    obtain ⟨v1, v2, rfl, a1, a2⟩ := Nodes.split hr
    exact ⟨_ :: v1, v2, rfl, ⟨p, v1, ca, cvs, oa, ovs, rfl, h1, h2, h3, h4, h5, a1⟩, a2⟩
  | .cas k m r, _, h => by
    obtain ⟨p, ws, ma, mvs, rfl, h1, h2, h3, hr⟩ := h
    obtain ⟨v1, v2, rfl, a1, a2⟩ := Nodes.split hr
    exact ⟨_ :: v1, v2, rfl, ⟨p, v1, ma, mvs, rfl, h1, h2, h3, a1⟩, a2⟩
/-- the last node of a chain -/
theorem T.last_cases (t : T) : t = .nil ∨ ∃ g u : T, t = g.app u ∧ u.single := by
  have h : t = ch t.nodes := (ch_nodes t).symm
  have hs := nodes_single (t := t)
  generalize t.nodes = us at h hs
  rcases List.eq_nil_or_concat us with rfl | ⟨l, u, rfl⟩
  · exact .inl h
  · refine .inr ⟨ch l, u, ?_, hs u (by simp)⟩
    rw [h, List.concat_eq_append]
    have : ∀ l : List T, ch (l ++ [u]) = (ch l).app u := fun l => by
      induction l with
      | nil => exact app_nil u
      | cons x l ih =>
        show x.app (ch (l ++ [u])) = (x.app (ch l)).app u
        rw [ih, app_assoc]
    exact this l
def mkc : List V → List T → T
  | k :: ks, m :: ms => .cas k m (mkc ks ms)
  | _, _ => .nil
theorem mkc_snoc {k : V} {m : T} : ∀ {ks : List V} {ms : List T}, ks.length = ms.length → mkc (ks ++ [k]) (ms ++ [m]) = (mkc ks ms).app (.cas k m .nil)
  | [], [], _ => rfl
  | [], _ :: _, h => by cases h
  | _ :: _, [], h => by cases h
  | k' :: ks, m' :: ms, h => congrArg (T.cas k' m') (mkc_snoc (Nat.succ.inj h))
theorem ch_snoc : ∀ (us : List T) (u : T), ch (us ++ [u]) = (ch us).app u
  | [], u => app_nil u
  | x :: us, u => by
    show x.app (ch (us ++ [u])) = (x.app (ch us)).app u
    rw [ch_snoc us u, app_assoc]
theorem ch_take {us : List T} {i : Nat} {u : T} (h : us[i]? = some u) : ch (us.take (i + 1)) = (ch (us.take i)).app u := by
  rw [List.take_succ, h]
  exact ch_snoc _ _
theorem ch_szs : ∀ us : List T, (ch us).sz = szs us
  | [] => rfl
  | u :: us => by
    show (u.app (ch us)).sz = u.sz + szs us
    rw [T.app_sz, ch_szs us]
theorem szs_tk : ∀ (l : List T) (i : Nat), szs (l.take i) ≤ szs l
  | [], i => by rw [List.take_nil]; exact Nat.le_refl _
  | u :: l, 0 => Nat.zero_le _
  | u :: l, i + 1 => by
    have := szs_tk l i
    show u.sz + szs (l.take i) ≤ u.sz + szs l
    omega
theorem ch_tk_sz (t : T) (i : Nat) : (ch (t.nodes.take i)).sz ≤ t.sz := by
  have h := szs_tk t.nodes i
  rw [szs_nodes] at h
  rw [ch_szs]
  exact h
theorem wf_ch : ∀ {us : List T}, (∀ u ∈ us, Wf u false) → Wf (ch us) false
  | [], _ => trivial
  | u :: us, h => Wf.app (wf_ch fun x hx => h x (List.mem_cons_of_mem _ hx)) (h u (by simp))
theorem single_ne {u : T} (h : u.single) : u ≠ .nil := by
  rintro rfl
  exact h
end Mw

namespace Mw
open PySem L2
/-! ### the law's own words for the kinds -/
def rk (k : Str) : Str := if k = "text" then "select" else if k = "number" then "plural" else k
def rp (q : Str × Str) : Str × Str := (q.1, rk q.2)
abbrev rps (l : Ks) : Ks := l.map rp
def kinds3 : List Str := ["any", "text", "number"]
theorem rk_any : ∀ k ∈ kinds3, (rk k = "any" ↔ k = "any") := by decide +kernel
theorem rk_inj : ∀ k ∈ kinds3, ∀ j ∈ kinds3, (rk k = rk j ↔ k = j) := by decide +kernel
theorem k3a : ("any" : Str) ∈ kinds3 := by decide
theorem k3t : ("text" : Str) ∈ kinds3 := by decide
theorem k3n : ("number" : Str) ∈ kinds3 := by decide
theorem hdask_k (hd : List V) : ∀ p ∈ hdAsk hd, p.2 ∈ kinds3 := by
  intro p hp
  unfold hdAsk at hp
  split at hp
  · split at hp
    · rw [List.mem_singleton.mp hp]; exact k3t
    · cases hp
  · split at hp
    · rw [List.mem_singleton.mp hp]; exact k3n
    · cases hp
  · cases hp
theorem asks_k : ∀ t : T, ∀ p ∈ t.asks, p.2 ∈ kinds3
  | .nil, p, h => by cases h
  | .text _ r, p, h => asks_k r p h
  | .shw n r, p, h => by
    rcases List.mem_cons.mp h with rfl | h
    · exact k3a
    · exact asks_k r p h
  | .num r, p, h => asks_k r p h
  | .cho hd cs o r, p, h => by
    rcases List.mem_append.mp h with h | h
    · rcases List.mem_append.mp h with h | h
      · rcases List.mem_append.mp h with h | h
        · exact hdask_k hd p h
        · exact asks_k cs p h
      · exact asks_k o p h
    · exact asks_k r p h
  | .cas k m r, p, h => by
    rcases List.mem_append.mp h with h | h
    · exact asks_k m p h
    · exact asks_k r p h
theorem lk_rp (l : Ks) (n : Str) : lk (rps l) n = (lk l n).map rk := by
  unfold lk
  induction l with
  | nil => rfl
  | cons p l ih =>
    simp only [List.map_cons, List.find?_cons]
    by_cases c : p.1 = n
    · simp [rp, c]
    · simp only [show decide ((rp p).1 = n) = false from decide_eq_false c, show decide (p.1 = n) = false from decide_eq_false c]
      exact ih
theorem lk_k {l : Ks} (h : ∀ p ∈ l, p.2 ∈ kinds3) (n : Str) : (lk l n).getD "any" ∈ kinds3 := by
  unfold lk
  cases e : l.find? fun p => decide (p.1 = n) with
  | none => exact k3a
  | some q => exact h q (List.mem_of_find?_eq_some e)
theorem kn_rp {l : Ks} (n : Str) : kn (rps l) n = rk (kn l n) := by
  unfold kn
  rw [lk_rp]
  cases lk l n with
  | none => decide +kernel
  | some v => rfl
theorem pt_rp (l : Ks) (n k : Str) : pt (rps l) n (rk k) = rps (pt l n k) := by
  unfold pt
  have e : ((rps l).any fun p => decide (p.1 = n)) = l.any fun p => decide (p.1 = n) := by
    rw [List.any_map]
    rfl
  rw [e]
  split
  · show ((l.map rp).map _) = (l.map _).map rp
    rw [List.map_map, List.map_map]
    refine List.map_congr_left fun p _ => ?_
    show (if p.1 = n then (p.1, rk k) else rp p) = rp (if p.1 = n then (p.1, k) else p)
    split <;> rfl
  · show _ = (l ++ [(n, k)]).map rp
    rw [List.map_append]
    rfl
theorem pt_k {l : Ks} {n k : Str} (h : ∀ p ∈ l, p.2 ∈ kinds3) (hk : k ∈ kinds3) : ∀ p ∈ pt l n k, p.2 ∈ kinds3 := by
  intro p hp
  unfold pt at hp
  split at hp
  · obtain ⟨q, hq, rfl⟩ := List.mem_map.mp hp
    split
    · exact hk
    · exact h q hq
  · rcases List.mem_append.mp hp with hp | hp
    · exact h p hp
    · rw [List.mem_singleton.mp hp]
      exact hk
theorem st_rp {l : Ks} {n k : Str} (h : ∀ p ∈ l, p.2 ∈ kinds3) (hk : k ∈ kinds3) : st (rps l) (rp (n, k)) = (st l (n, k)).map rps := by
  have a : kn l n ∈ kinds3 := lk_k h n
  show (if kn (rps l) n = "any" then some (pt (rps l) n (rk k)) else if rk k ≠ "any" ∧ rk k ≠ kn (rps l) n then none else some (rps l)) = Option.map rps (if kn l n = "any" then some (pt l n k) else if k ≠ "any" ∧ k ≠ kn l n then none else some l)
  rw [kn_rp, pt_rp]
  by_cases c : kn l n = "any"
  · rw [if_pos c, if_pos ((rk_any _ a).mpr c)]
    rfl
  · rw [if_neg c, if_neg fun z => c ((rk_any _ a).mp z)]
    by_cases c2 : k ≠ "any" ∧ k ≠ kn l n
    · rw [if_pos c2, if_pos ⟨fun z => c2.1 ((rk_any _ hk).mp z), fun z => c2.2 ((rk_inj _ hk _ a).mp z)⟩]
      rfl
    · rw [if_neg c2, if_neg fun z => c2 ⟨fun y => z.1 ((rk_any _ hk).mpr y), fun y => z.2 ((rk_inj _ hk _ a).mpr y)⟩]
      rfl
def exK (e : Except Str Ks) : Except Str Ks := match e with
  | .ok l => .ok (rps l)
  | .error n => .error n
theorem go_rp : ∀ {a l : Ks}, (∀ p ∈ a, p.2 ∈ kinds3) → (∀ p ∈ l, p.2 ∈ kinds3) → go (rps l) (rps a) = exK (go l a)
  | [], l, _, _ => rfl
  | (n, k) :: a, l, ha, hl => by
    have hk : k ∈ kinds3 := ha (n, k) List.mem_cons_self
    have s := st_rp (n := n) hl hk
    show (match st (rps l) (rp (n, k)) with | some l' => go l' (rps a) | none => .error n) = exK (match st l (n, k) with | some l' => go l' a | none => .error n)
    rw [s]
    cases e : st l (n, k) with
    | none => rfl
    | some l' =>
      refine go_rp (fun p hp => ha p (List.mem_cons_of_mem _ hp)) fun p hp => ?_
      have e : (if kn l n = "any" then some (pt l n k) else if k ≠ "any" ∧ k ≠ kn l n then none else some l) = some l' := e
      split at e
      · injection e with e
        rw [← e] at hp
        exact pt_k hl hk p hp
      · split at e
        · cases e
        · injection e with e
          rw [← e] at hp
          exact hl p hp
theorem go_k : ∀ {a l l' : Ks}, (∀ p ∈ a, p.2 ∈ kinds3) → (∀ p ∈ l, p.2 ∈ kinds3) → go l a = .ok l' → ∀ p ∈ l', p.2 ∈ kinds3
  | [], l, l', _, hl, e => by
    injection e with e
    rw [← e]
    exact hl
  | (n, k) :: a, l, l', ha, hl, e => by
    have hk : k ∈ kinds3 := ha (n, k) List.mem_cons_self
    have e : (match st l (n, k) with | some l' => go l' a | none => .error n) = Except.ok l' := e
    cases e2 : st l (n, k) with
    | none => rw [e2] at e; cases e
    | some l2 =>
      rw [e2] at e
      refine go_k (fun p hp => ha p (List.mem_cons_of_mem _ hp)) (fun p hp => ?_) e
      have e2 : (if kn l n = "any" then some (pt l n k) else if k ≠ "any" ∧ k ≠ kn l n then none else some l) = some l2 := e2
      split at e2
      · injection e2 with e2
        rw [← e2] at hp
        exact pt_k hl hk p hp
      · split at e2
        · cases e2
        · injection e2 with e2
          rw [← e2] at hp
          exact hl p hp
/-- what the law's _law_kinds gives -/
theorem go_law (t : T) : go [] (rps t.asks) = exK (go [] t.asks) := go_rp (a := t.asks) (l := []) (asks_k t) fun p hp => by cases hp
end Mw

namespace Mw
open PySem L2
/-- the pairs that a list of tuples holds -/
def AL (H : Hp) : List (Str × Str) → List V → Prop
  | [], vs => vs = []
  | q :: qs, vs => ∃ a ws, vs = .ref a :: ws ∧ H a = some (.tup [.str q.1, .str q.2]) ∧ AL H qs ws
def Tk (H H' : Hp) : Prop := ∀ b xs, H b = some (.tup xs) → H' b = some (.tup xs)
theorem Tk.of {H H' : Hp} (s : Same H H') : Tk H H' := fun b xs h => s b _ h
theorem Tk.lst {H : Hp} {l : Addr} {xs ys : List V} (h : H l = some (.lst xs)) : Tk H (upd H l (.lst ys)) := fun b zs hb => by
  rw [upd_ne (fun e => by rw [e, h] at hb; cases hb)]
  exact hb
theorem AL.mono {H H' : Hp} (k : Tk H H') : ∀ {qs : List (Str × Str)} {vs : List V}, AL H qs vs → AL H' qs vs
  | [], _, h => h
  | q :: qs, _, h => by
    obtain ⟨a, ws, rfl, h1, h2⟩ := h
    exact ⟨a, ws, rfl, k _ _ h1, AL.mono k h2⟩
theorem AL.app {H : Hp} {rs : List (Str × Str)} {us : List V} (hu : AL H rs us) : ∀ {qs : List (Str × Str)} {vs : List V}, AL H qs vs → AL H (qs ++ rs) (vs ++ us)
  | [], _, h => by
    rw [show _ = [] from h]
    exact hu
  | q :: qs, _, h => by
    obtain ⟨a, ws, rfl, h1, h2⟩ := h
    exact ⟨a, ws ++ us, rfl, h1, AL.app hu h2⟩
theorem AL.length {H : Hp} : ∀ {qs : List (Str × Str)} {vs : List V}, AL H qs vs → vs.length = qs.length
  | [], _, h => by
    rw [show _ = [] from h]
    rfl
  | q :: qs, _, h => by
    obtain ⟨a, ws, rfl, h1, h2⟩ := h
    exact congrArg (· + 1) h2.length
theorem AL.get {H : Hp} : ∀ {qs : List (Str × Str)} {vs : List V} {i : Nat} {v : V}, AL H qs vs → vs[i]? = some v → ∃ q a, qs[i]? = some q ∧ v = .ref a ∧ H a = some (.tup [.str q.1, .str q.2])
  | [], _, i, v, h, e => by
    rw [show _ = [] from h] at e
    simp at e
  | q :: qs, _, 0, v, h, e => by
    obtain ⟨a, ws, rfl, h1, h2⟩ := h
    have : V.ref a = v := by simpa using e
    subst this
    exact ⟨q, a, rfl, rfl, h1⟩
  | q :: qs, _, i + 1, v, h, e => by
    obtain ⟨a, ws, rfl, h1, h2⟩ := h
    obtain ⟨q', b, e1, e2, e3⟩ := AL.get (i := i) h2 (by simpa using e)
    exact ⟨q', b, by simpa using e1, e2, e3⟩
theorem asks_len : ∀ t : T, t.asks.length ≤ t.sz
  | .nil => Nat.le_refl _
  | .text s r => by have := asks_len r; simp only [T.asks, T.sz]; omega
  | .shw s r => by have := asks_len r; simp only [T.asks, T.sz, List.length_cons]; omega
  | .num r => by have := asks_len r; simp only [T.asks, T.sz]; omega
  | .cho hd cs o r => by
    have h0 : (hdAsk hd).length ≤ 1 := by
      unfold hdAsk
      split
      · split <;> simp
      · split <;> simp
      · simp
    have h1 := asks_len cs
    have h2 := asks_len o
    have h3 := asks_len r
    simp only [T.asks, T.sz, List.length_append]
    omega
  | .cas k m r => by
    have h1 := asks_len m
    have h3 := asks_len r
    simp only [T.asks, T.sz, List.length_append]
    omega
theorem nodes_asks : ∀ t : T, t.nodes.flatMap T.asks = t.asks
  | .nil => rfl
  | .text s r => by simp [T.nodes, T.asks, nodes_asks r]
  | .shw s r => by simp [T.nodes, T.asks, nodes_asks r]
  | .num r => by simp [T.nodes, T.asks, nodes_asks r]
  | .cho hd cs o r => by simp [T.nodes, T.asks, nodes_asks r]
  | .cas k m r => by simp [T.nodes, T.asks, nodes_asks r]
theorem msgs_asks : ∀ {t : T}, Wf t true → t.msgs.flatMap T.asks = t.asks
  | .nil, _ => rfl
  | .text s r, h => by cases h.1
  | .shw s r, h => by cases h.1
  | .num r, h => by cases h.1
  | .cho hd cs o r, h => by cases h.1
  | .cas k m r, h => by simp [T.msgs, T.asks, msgs_asks h.2.2.2]
theorem fm_len : ∀ l : List T, (l.flatMap T.asks).length ≤ szs l
  | [] => Nat.le_refl _
  | u :: l => by
    have h1 := asks_len u
    have h2 := fm_len l
    rw [List.flatMap_cons, List.length_append]
    have : szs (u :: l) = u.sz + szs l := by simp [szs]
    omega
theorem fm_take {l : List T} {i : Nat} {u : T} (h : l[i]? = some u) : (l.take (i + 1)).flatMap T.asks = (l.take i).flatMap T.asks ++ u.asks := by
  rw [List.take_succ, h]
  simp
theorem own_len (u : T) : u.own.length ≤ 1 := by
  cases u <;> simp only [T.own, List.length_nil, List.length_cons] <;> try omega
  unfold hdAsk
  split
  · split <;> simp
  · split <;> simp
  · simp
theorem own_if {c : Prop} [Decidable c] (u : T) : (if c then u.own else []).length ≤ 1 := by
  split
  · exact own_len u
  · exact Nat.zero_le _
theorem sz_nodes : ∀ {t : T}, ∀ u ∈ t.nodes, u.sz ≤ t.sz
  | .nil, u, h => by cases h
  | .text s r, u, h => by
    rcases List.mem_cons.mp h with rfl | h
    · simp only [T.sz]
      omega
    · have := sz_nodes u h
      simp only [T.sz]
      omega
  | .shw s r, u, h => by
    rcases List.mem_cons.mp h with rfl | h
    · simp only [T.sz]
      omega
    · have := sz_nodes u h
      simp only [T.sz]
      omega
  | .num r, u, h => by
    rcases List.mem_cons.mp h with rfl | h
    · simp only [T.sz]
      omega
    · have := sz_nodes u h
      simp only [T.sz]
      omega
  | .cho hd cs o r, u, h => by
    rcases List.mem_cons.mp h with rfl | h
    · simp only [T.sz]
      omega
    · have := sz_nodes u h
      simp only [T.sz]
      omega
  | .cas k m r, u, h => by
    rcases List.mem_cons.mp h with rfl | h
    · simp only [T.sz]
      omega
    · have := sz_nodes u h
      simp only [T.sz]
      omega
theorem sz_msgs : ∀ {t : T}, ∀ m ∈ t.msgs, m.sz ≤ t.sz
  | .nil, u, h => by cases h
  | .text s r, u, h => by cases h
  | .shw s r, u, h => by cases h
  | .num r, u, h => by cases h
  | .cho hd cs o r, u, h => by cases h
  | .cas k m r, u, h => by
    rcases List.mem_cons.mp h with rfl | h
    · simp only [T.sz]
      omega
    · have := sz_msgs u h
      simp only [T.sz]
      omega

/-- what a node asks for in the law's words: its own first word, but for a show -/
theorem own_law {H : Hp} {u : T} {v : V} (h : Nodes H u [v]) (w : Wf u false) : ∃ p x xs, v = .ref p ∧ H p = some (.tup (.str x :: xs)) ∧
    ((∃ n xs', xs = .str n :: xs' ∧ ((x = "show" ∧ rps u.own = [(n, ("any" : Str))]) ∨ ((x = "select" ∨ x = "plural") ∧ rps u.own = [(n, x)]))) ∨ ((x = "text" ∨ x = "number") ∧ u.own = [])) := by
  obtain ⟨p, x, xs, e, hp, hc⟩ := own_of h w
  refine ⟨p, x, xs, e, hp, ?_⟩
  rcases hc with ⟨n, xs', e2, ⟨rfl, o⟩ | ⟨rfl, o⟩ | ⟨rfl, o⟩⟩ | hc
  · exact .inl ⟨n, xs', e2, .inl ⟨rfl, by rw [o]; rfl⟩⟩
  · exact .inl ⟨n, xs', e2, .inr ⟨.inl rfl, by rw [o]; rfl⟩⟩
  · exact .inl ⟨n, xs', e2, .inr ⟨.inr rfl, by rw [o]; rfl⟩⟩
  · exact .inr hc
section
variable {P : Program} {w : World} {K : PySem.W.Frag} {mg : Str → Option Value} {base : Heap}
/-! ### _law_asked -/
abbrev sAsk : Stmt := top 23
theorem scAsk : FnScope ["message", "found", "node", "key", "case"] ["message"] (defScope sAsk) := ⟨rfl, rfl, rfl, by decide +kernel, rfl, by decide +kernel, by decide +kernel⟩
def spAsk (n : Nat) : Sp := fun vs H Q _ => ∃ (a : Addr) (t : T), vs = [.ref a] ∧ At H a t ∧ Wf t false ∧ t.dep < n ∧ t.sz < 80000 ∧ ∀ r H' ws, H r = none → Same H H' → H' r = some (.lst ws) → AL H' (rps t.asks) ws → Q (.ref r) H'
def AMid (H : Hp) (a p : Addr) (qs : List (Str × Str)) : L2.St → Hp → Prop := fun σ H2 => ∃ (fl : Addr) (vs : List V) (o3 o4 : Option V), σ = [some (.ref a), some (.ref fl), some (.ref p), o3, o4] ∧ H fl = none ∧ Same H H2 ∧ H2 fl = some (.lst vs) ∧ AL H2 qs vs
theorem amid_put {H H2 : Hp} {a p fl tt : Addr} {vs : List V} {qs : List (Str × Str)} {n k : Str} {o3 o4 : Option V} (h0 : H fl = none) (s : Same H H2) (hf : H2 fl = some (.lst vs)) (hA : AL H2 qs vs) (ht : H2 tt = none) :
    AMid H a p (qs ++ [(n, k)]) [some (.ref a), some (.ref fl), some (.ref p), o3, o4] (upd (upd H2 tt (.tup [.str n, .str k])) fl (.lst (vs ++ [.ref tt]))) := by
  have s1 : Same H2 (upd H2 tt (.tup [.str n, .str k])) := same_new ht _
  have hne : tt ≠ fl := (ne_of_none hf ht).symm
  refine ⟨fl, vs ++ [.ref tt], o3, o4, rfl, h0, same_mut (s.trans s1) h0 _, upd_same, ?_⟩
  exact AL.app (show AL _ [(n, k)] [.ref tt] from ⟨tt, [], rfl, by rw [upd_ne hne]; exact upd_same, rfl⟩) ((hA.mono (Tk.of s1)).mono (Tk.lst (s1 _ _ hf)))
set_option maxHeartbeats 0 in
theorem ok_ask_turn {n : Nat} {f : Addr} {fd : FuncData} (F : Fun K "_law_asked" "_law_asked" sAsk f fd) (G : FnOk P w K mg base CX0 n f fd ["message"] (spAsk n)) (b : Binds K fd ["message"] []) (m : mg "_law_asked" = some (.ref f)) :
    FnOk P w K mg base CX0 (n + 1) f fd ["message"] (spAsk (n + 1)) := by
  refine F.ok scAsk (fun vs H Q E h => ?_) (fun cdv A outer s H vs Q E hr h => ?_)
  · obtain ⟨a, t, rfl, _⟩ := h
    rfl
  obtain ⟨a, t, rfl, ⟨vs, ha, hn⟩, hw, hd, hz, q⟩ := h
  have nd := scAsk.nd
  have k := F.kp
  refine ⟨_, (pss_cons (ps_set (i := 1) nd rfl (.inl rfl) (pe_lst pa_nil))
      (pss_cons (ps_for PassesOwn.never rfl (pi_list (pv 0)) (pg_name (i := 2) nd rfl (.inl rfl)) (Evl.pss_cut (ps_if (pt_cmpR op_eq (pe_ix ix_tup (pv 2) pe_int (fun _ _ => rfl)) pe_str (nomark _)) (pss_one (ps_expr (pe_bm PySem.F.plainAttrs_list PySem.F.slot_list_append PySem.F.type_list_append mt_append (pv 1) (pa_cons (pe_tup (pa_cons (pe_ix ix_tup (pv 2) pe_int (fun _ _ => rfl)) (pa_cons pe_str pa_nil))) pa_nil)))) pss_nil)
      (pss_one (ps_if (pt_cmpR op_in_seq (pe_ix ix_tup (pv 2) pe_int (fun _ _ => rfl)) (pe_lst (pa_cons pe_str (pa_cons pe_str pa_nil))) rfl) (pss_cons (ps_expr (pe_bm PySem.F.plainAttrs_list PySem.F.slot_list_append PySem.F.type_list_append mt_append (pv 1) (pa_cons (pe_tup (pa_cons (pe_ix ix_tup (pv 2) pe_int (fun _ _ => rfl)) (pa_cons (pe_ix ix_tup (pv 2) pe_int (fun _ _ => rfl)) pa_nil))) pa_nil)))
      (pss_cons (ps_for PassesOwn.never rfl (pi_list (pe_ix ix_tup (pv 2) (pe_un un_neg pe_int) (fun _ _ => rfl))) (pg_tup rfl (pgs_cons (pg_name (i := 3) nd rfl (.inl rfl)) (pgs_cons (pg_name (i := 4) nd rfl (.inl rfl)) pgs_nil))) (pss_one (ps_set (i := 1) nd rfl (.inl rfl) (pe_op op_cat (pv 1) (pe_call G hr rfl m k b .nil pass0 (pa_cons (pv 4) pa_nil))))))
      (pss_one (ps_set (i := 1) nd rfl (.inl rfl) (pe_op op_cat (pv 1) (pe_call G hr rfl m k b .nil pass0 (pa_cons (pe_ix ix_tup (pv 2) (pe_un un_neg pe_int) (fun _ _ => rfl)) pa_nil))))))) pss_nil))))
      (pss_one (ps_ret (pv 1))))), ?_⟩
  have hns := hn.ns
  refine ⟨Nat.zero_le _, fun fl0 hfl0 => ?_⟩
  have s0 : Same H (upd H fl0 (.lst [])) := same_new hfl0 _
  refine ⟨_, rfl, a, rfl, ⟨_, SqL.of (s0 _ _ ha)⟩, for_list (K := K) (a := a) (xs := vs) (fun i σ H' => ∃ (fl : Addr) (ws : List V) (o2 o3 o4 : Option V), σ = [some (.ref a), some (.ref fl), o2, o3, o4] ∧ H fl = none ∧ Same H H' ∧ H' fl = some (.lst ws) ∧ AL H' (rps ((t.nodes.take i).flatMap T.asks)) ws)
    ⟨fl0, [], none, none, none, rfl, hfl0, s0, upd_same, rfl⟩ (fun i σ H' _ ⟨_, _, _, _, _, _, _, s', _⟩ => SqL.of (s' _ _ ha)) ?_ ?_⟩
  · rintro i x σ H' hx ⟨fl, ws, o2, o3, o4, rfl, hf0, s', hf, hAL⟩
    obtain ⟨u, hu, hun⟩ := hns.get hx
    have um : u ∈ t.nodes := List.mem_of_getElem? hu
    have uw : Wf u false := nodes_wf hw u um
    obtain ⟨p, x0, xs, rfl, hp, hcase⟩ := own_law hun uw
    have hud := dep_nodes u um
    have husz := sz_nodes u um
    have hSl : (rps ((t.nodes.take i).flatMap T.asks)).length ≤ t.sz := by
      rw [List.length_map]
      exact Nat.le_trans (fm_len _) (Nat.le_trans (szs_take _ _) (Nat.le_of_eq (szs_nodes t)))
    have hnext : rps ((t.nodes.take (i + 1)).flatMap T.asks) = rps ((t.nodes.take i).flatMap T.asks) ++ rps u.asks := by
      rw [fm_take hu]
      exact List.map_append
    have ol : (rps u.own).length ≤ 1 := by rw [List.length_map]; exact own_len u
    generalize hS : rps ((t.nodes.take i).flatMap T.asks) = S at *
    refine ⟨AMid H a p (S ++ (if x0 = "show" then rps u.own else [])), ?_, ?_⟩
    · refine ⟨_, rfl, p, _, 0, .str x0, rfl, rfl, .inl (.inl (s' _ _ hp)), atI_nat (j := 0) rfl, rfl, _, rfl, ite2 (fun c => ?_) (fun c => ?_)⟩
      · have e := str_eq (of_decide_eq_true c)
        rw [if_pos e]
        obtain ⟨nm, xs', rfl, hown⟩ : ∃ (nm : Str) (xs' : List V), xs = .str nm :: xs' ∧ rps u.own = [(nm, ("any" : Str))] := by
          subst e
          rcases hcase with ⟨nm, xs', rfl, ⟨e, o⟩ | ⟨e | e, o⟩⟩ | ⟨e | e, _⟩
          · exact ⟨nm, xs', rfl, o⟩
          · exact absurd e (by decide)
          · exact absurd e (by decide)
          · exact absurd e (by decide)
          · exact absurd e (by decide)
        refine ⟨_, rfl, .inl ⟨rfl, _, SqL.of hf⟩, ?_⟩
        refine ⟨_, rfl, p, _, 1, .str nm, rfl, rfl, .inl (.inl (s' _ _ hp)), atI_nat (j := 1) rfl, by show 2 ≤ sizeLine; decide, fun tt htt => ?_⟩
        refine ⟨fl, _, _, rfl, rfl, same_new htt _ _ _ hf, sz_line ?_, ?_⟩
        · have e2 := hAL.length
          omega
        · have z := amid_put (a := a) (p := p) (o3 := o3) (o4 := o4) (n := nm) (k := ("any" : Str)) hf0 s' hf hAL htt
          rw [← hown] at z
          exact z
      · rw [if_neg (c := x0 = "show") (fun e => c (by rw [e]; exact decide_eq_true rfl)), List.append_nil]
        exact ⟨fl, ws, o3, o4, rfl, hf0, s', hf, hAL⟩
    rintro σ H' ⟨fl, ws, o3, o4, rfl, hf0, s', hf, hAL⟩
    obtain ⟨p', y, ys, e, hp', hsg, hch, _⟩ := node_of hun uw
    cases e
    have ey : y = x0 := by
      rw [hp] at hp'
      cases hp'
      rfl
    subst ey
    refine ⟨_, rfl, p, _, 0, .str y, rfl, rfl, .inl (.inl (s' _ _ hp)), atI_nat (j := 0) rfl, by show 2 ≤ sizeLine; decide, fun tp htp => ⟨tp, _, rfl, .inl (SqL.of upd_same), rfl, rfl, _, rfl, ?_⟩⟩
    have e : inV (V.str y) [.str "select", .str "plural"] = u.isCho := by
      rw [in_two]
      cases hu : u.isCho with
      | true => exact decide_eq_true (hch.mpr hu)
      | false => exact decide_eq_false fun z => by rw [hch.mp z] at hu; cases hu
    have s1 : Same H' (upd H' tp (.lst [.str "select", .str "plural"])) := same_new htp _
    have s2 := s'.trans s1
    have hf2 := s1 _ _ hf
    have hAL2 := hAL.mono (Tk.of s1)
    show if inV (V.str y) [.str "select", .str "plural"] = true then _ else _
    rw [e]
    cases hc : u.isCho with
    | false =>
      refine iteF ⟨fl, ws, some (.ref p), o3, o4, rfl, hf0, s2, hf2, ?_⟩
      rw [hnext]
      have hS2 : S ++ (if y = "show" then rps u.own else []) = S ++ rps u.asks := by
        have e1 : u.asks = u.own := by
          cases u with
          | cho hd cs o r => cases hc
          | nil => cases hsg
          | text s r => cases (show r = .nil from hsg); rfl
          | shw s r => cases (show r = .nil from hsg); rfl
          | num r => cases (show r = .nil from hsg); rfl
          | cas k m r => cases uw.1
        rw [e1]
        rcases hcase with ⟨nm, xs', _, ⟨e, o⟩ | ⟨e, o⟩⟩ | ⟨e, o⟩
        · rw [if_pos e]
        · rw [hch.mp e] at hc
          cases hc
        · have : y ≠ "show" := by rintro rfl; rcases e with e | e <;> exact absurd e (by decide)
          rw [if_neg this, o]
          rfl
      rw [hS2] at hAL2
      exact hAL2
    | true =>
      refine iteT ?_
      have hy := hch.mpr hc
      have nsh : y ≠ "show" := by rintro rfl; rcases hy with e | e <;> exact absurd e (by decide)
      rw [if_neg nsh, List.append_nil] at hAL2
      obtain ⟨nm, xs', rfl, hown⟩ : ∃ (nm : Str) (xs' : List V), xs = .str nm :: xs' ∧ rps u.own = [(nm, y)] := by
        rcases hcase with ⟨nm, xs', e, ⟨e2, o⟩ | ⟨e2, o⟩⟩ | ⟨e2, o⟩
        · exact absurd e2 nsh
        · exact ⟨nm, xs', e, o⟩
        · rcases hy with rfl | rfl <;> rcases e2 with e2 | e2 <;> exact absurd e2 (by decide)
      refine ⟨_, rfl, .inl ⟨rfl, _, SqL.of hf2⟩, ?_⟩
      refine ⟨_, rfl, p, _, 1, .str nm, rfl, rfl, .inl (.inl (s2 _ _ hp)), atI_nat (j := 1) rfl, _, rfl, p, _, 0, .str y, rfl, rfl, .inl (.inl (s2 _ _ hp)), atI_nat (j := 0) rfl, by show 2 ≤ sizeLine; decide, fun tt htt => ?_⟩
      refine ⟨fl, _, _, rfl, rfl, same_new htt _ _ _ hf2, sz_line ?_, ?_⟩
      · have e2 := hAL2.length
        omega
      have z := amid_put (a := a) (p := p) (o3 := o3) (o4 := o4) (n := nm) (k := y) hf0 s2 hf2 hAL2 htt
      rw [← hown] at z
      generalize upd (upd (upd H' tp (.lst [.str "select", .str "plural"])) tt (.tup [.str nm, .str y])) fl (.lst (ws ++ [.ref tt])) = H9 at z ⊢
      obtain ⟨fl9, ws9, o3', o4', eσ, hf0', s9, hf9, hA9⟩ := z
      cases eσ
      cases u with
      | cho hd' cs o r =>
        cases (show r = .nil from hsg)
        obtain ⟨p', ws', ca, cvs, oa, ovs, e, hp2, hc, hcs, ho, hos, hr'⟩ := hun
        cases e
        obtain ⟨ms, m1, m2, m3⟩ := Nodes.msgs hcs uw.2.2.1
        have hd1 : cs.dep < n ∧ o.dep < n := by
          simp only [T.dep] at hud
          omega
        simp only [T.sz] at husz
        have hcsl : ∀ j, (rps ((cs.msgs.take j).flatMap T.asks)).length ≤ cs.sz := fun j => by
          rw [List.length_map]
          exact Nat.le_trans (fm_len _) (Nat.le_trans (szs_take _ _) szs_msgs)
        refine ⟨_, rfl, 2, rfl, p, _, -2, .ref ca, rfl, rfl, .inl (.inl (s9 _ _ hp2)), atI_m2 _ _ _, ca, rfl, ⟨_, SqL.of (s9 _ _ hc)⟩, for_list (K := K) (a := ca) (xs := cvs) (fun j σ' H3 => ∃ (fl : Addr) (ws : List V) (o3 o4 : Option V), σ' = [some (.ref a), some (.ref fl), some (.ref p), o3, o4] ∧ H fl = none ∧ Same H H3 ∧ H3 fl = some (.lst ws) ∧ AL H3 (S ++ rps (T.cho hd' cs o .nil).own ++ rps ((cs.msgs.take j).flatMap T.asks)) ws)
          ⟨fl, _, _, _, rfl, hf0, s9, hf9, by rw [List.take_zero]; show AL _ (_ ++ []) _; rw [List.append_nil]; exact hA9⟩ (fun j σ' H3 _ ⟨_, _, _, _, _, _, s3, _⟩ => SqL.of (s3 _ _ hc)) ?_ ?_⟩
        · rintro j x σ' H3 hx3 ⟨fl, ws, o3, o4, rfl, hf0, s3, hf3, hAL3⟩
          obtain ⟨q1, k1, a1, rfl, hq1, hm1⟩ := m3 j x hx3
          obtain ⟨mt, ma, hmt, e, hma⟩ := m1.get hm1
          cases e
          have mm : mt ∈ cs.msgs := List.mem_of_getElem? hmt
          have md := dep_msgs mt mm
          have mz := sz_msgs mt mm
          refine ⟨q1, _, rfl, .inl (.inl (s3 _ _ hq1)), rfl, k1, _, rfl, .ref a1, [], rfl, rfl, ?_⟩
          refine ⟨_, rfl, _, rfl, a1, mt, rfl, hma.same s3, wf_msgs uw.2.2.1 mt mm, by omega, by omega, fun r1 H4 ws4 hr1 s4 hr4 hA4 => ?_⟩
          have hlen : ws.length + ws4.length < 10000000 := by
            have z1 := hAL3.length
            have z2 := hA4.length
            rw [List.length_map] at z2
            have z3 := asks_len mt
            have z4 := hcsl j
            rw [List.length_append, List.length_append] at z1
            omega
          refine ⟨fl, r1, ws, ws4, rfl, rfl, s4 _ _ hf3, hr4, le_line hlen, fun l3 hl3 => ?_⟩
          have s5 := s3.trans s4
          refine ⟨l3, ws ++ ws4, some k1, some (.ref a1), rfl, s5.free hl3, s5.trans (same_new hl3 _), upd_same, ?_⟩
          rw [fm_take hmt, show rps ((cs.msgs.take j).flatMap T.asks ++ mt.asks) = rps ((cs.msgs.take j).flatMap T.asks) ++ rps mt.asks from List.map_append, ← List.append_assoc]
          exact (AL.app hA4 (hAL3.mono (Tk.of s4))).mono (Tk.of (same_new hl3 _))
        · rintro σ' H3 ⟨fl, ws, o3, o4, rfl, hf0, s3, hf3, hAL3⟩
          rw [m2, m1.length, List.take_length, msgs_asks uw.2.2.1] at hAL3
          refine ⟨_, rfl, _, rfl, 1, rfl, p, _, -1, .ref oa, rfl, rfl, .inl (.inl (s3 _ _ hp2)), atI_m1 _ _ _, oa, o, rfl, At.same s3 ⟨ovs, ho, hos⟩, uw.2.2.2.1, by omega, by omega, fun r1 H4 ws4 hr1 s4 hr4 hA4 => ?_⟩
          have hlen : ws.length + ws4.length < 10000000 := by
            have z1 := hAL3.length
            have z2 := hA4.length
            rw [List.length_map] at z2
            have z3 := asks_len cs
            have z4 := asks_len o
            rw [List.length_append, List.length_append, List.length_map, List.length_map] at z1
            rw [List.length_map] at ol
            omega
          refine ⟨fl, r1, ws, ws4, rfl, rfl, s4 _ _ hf3, hr4, le_line hlen, fun l3 hl3 => ?_⟩
          have s5 := s3.trans s4
          refine ⟨l3, ws ++ ws4, some (.ref p), o3, o4, rfl, s5.free hl3, s5.trans (same_new hl3 _), upd_same, ?_⟩
          rw [hnext]
          have e3 : S ++ rps (T.cho hd' cs o .nil).asks = S ++ rps (T.cho hd' cs o .nil).own ++ rps cs.asks ++ rps o.asks := by simp [T.asks, T.own, rps]
          rw [e3]
          exact (AL.app hA4 (hAL3.mono (Tk.of s4))).mono (Tk.of (same_new hl3 _))
      | _ => cases hc
  · rintro σ H' ⟨fl, ws, o2, o3, o4, rfl, hf0, s', hf, hAL⟩
    refine ⟨_, rfl, ?_⟩
    rw [hns.length, List.take_length, nodes_asks] at hAL
    exact q fl H' ws hf0 s' hf hAL
theorem ok_ask {f : Addr} {fd : FuncData} (F : Fun K "_law_asked" "_law_asked" sAsk f fd) (b : Binds K fd ["message"] []) (m : mg "_law_asked" = some (.ref f)) : ∀ n, FnOk P w K mg base CX0 n f fd ["message"] (spAsk n)
  | 0 => none_left fun vs H Q E ⟨_, _, _, _, _, h, _⟩ => Nat.not_lt_zero _ h
  | n + 1 => ok_ask_turn F (ok_ask F b m n) b m
end
end Mw

namespace Mw
open PySem L2
abbrev sKn : Stmt := top 24
theorem scKn : FnScope ["message", "kinds", "name", "kind"] ["message"] (defScope sKn) := ⟨rfl, rfl, rfl, by decide +kernel, rfl, by decide +kernel, by decide +kernel⟩
def spKn (m : Nat) : Sp := fun vs H Q _ => ∃ (a : Addr) (t : T), vs = [.ref a] ∧ At H a t ∧ Wf t false ∧ t.dep < m ∧ t.sz < 80000 ∧
  (∀ l, go [] t.asks = .ok l → ∀ r d H', H r = none → Same H H' → H' r = some (.lst [.ref d, .non]) → H' d = some (.dK (kv (rps l))) → Q (.ref r) H') ∧
  (∀ n, go [] t.asks = .error n → ∀ r d H', H r = none → Same H H' → H' r = some (.lst [.ref d, .str n]) → H' d = some (.dK []) → Q (.ref r) H')
section
variable {P : Program} {w : World} {K : PySem.W.Frag} {mg : Str → Option Value} {base : Heap}
set_option maxHeartbeats 0 in
theorem ok_kn {m : Nat} {f fK : Addr} {fd fdK : FuncData} (F : Fun K "_law_kinds" "_law_kinds" sKn f fd) (GK : FnOk P w K mg base CX0 m fK fdK ["message"] (spAsk m)) (bK : Binds K fdK ["message"] []) (kK : PySem.W.keepIn K (.ref fK) = true) (mK : mg "_law_asked" = some (.ref fK)) :
    FnOk P w K mg base CX0 (m + 1) f fd ["message"] (spKn m) := by
  refine F.ok scKn (fun vs H Q E h => ?_) (fun cdv A outer s H vs Q E hr h => ?_)
  · obtain ⟨a, t, rfl, _⟩ := h
    rfl
  obtain ⟨a, t, rfl, ha, hw, hdp, hz, q1, q2⟩ := h
  have nd := scKn.nd
  have hu := hu_of hr
  refine ⟨_, (pss_cons (ps_set (i := 1) nd rfl (.inl rfl) pe_dnewK)
      (pss_cons (ps_for PassesOwn.never rfl (pi_list (pe_call GK hr rfl mK kK bK .nil pass0 (pa_cons (pv 0) pa_nil))) (pg_tup rfl (pgs_cons (pg_name (i := 2) nd rfl (.inl rfl)) (pgs_cons (pg_name (i := 3) nd rfl (.inl rfl)) pgs_nil))) (pss_one (ps_if (pt_cmpR op_eq (pe_dget2 hu (pv 1) (pv 2) pe_str ⟨rfl, rfl, rfl, rfl⟩) pe_str (nomark _)) (pss_one (ps_dput hu (pv 1) (pv 2) (pv 3) rfl)) (pss_one (ps_if (PW.pt (pw_and (pt_cmpR op_ne (pv 3) pe_str (nomark _)) (pw_and1 (pt_cmpR op_ne (pv 3) (pe_dget hu (pv 1) (pv 2) (fun _ _ => rfl)) (nomark _))))) (pss_one (ps_ret (pe_lst (pa_cons pe_dnewK (pa_cons (pv 2) pa_nil))))) pss_nil)))))
      (pss_one (ps_ret (pe_lst (pa_cons (pv 1) (pa_cons pe_non pa_nil))))))), ?_⟩
  intro d hd
  have s1 : Same H (upd H d (.dK [])) := same_new hd _
  refine ⟨_, rfl, a, t, rfl, ha.same s1, hw, hdp, hz, fun l H1 ws hl s2 hl1 hAL => ⟨l, rfl, ⟨_, SqL.of hl1⟩, ?_⟩⟩
  have hd1 : H1 d = some (.dK []) := s2 _ _ upd_same
  have hld : l ≠ d := fun e => by rw [e, upd_same] at hl; cases hl
  have s3 : Same H H1 := s1.trans s2
  have hlen : ws.length = (rps t.asks).length := hAL.length
  have hall := asks_len t
  have hall : (rps t.asks).length ≤ t.sz := by rw [List.length_map]; exact hall
  refine for_list (xs := ws) (fun i σ H' => ∃ (lks : Ks) (o2 o3 : Option V), σ = [some (.ref a), some (.ref d), o2, o3] ∧ Same H H' ∧ H' l = some (.lst ws) ∧ H' d = some (.dK (kv lks)) ∧ Tk H1 H' ∧
      go [] ((rps t.asks).take i) = .ok lks ∧ (lks.map (·.1)).Nodup ∧ lks.length ≤ i)
    ⟨[], none, none, rfl, s3, hl1, hd1, fun _ _ z => z, rfl, List.nodup_nil, Nat.le_refl _⟩ (fun i σ H' _ ⟨_, _, _, _, _, h, _⟩ => SqL.of h) ?_ ?_
  · rintro i x σ H' hx ⟨lks, o2, o3, rfl, s', hl', hd', ht', hg, hn, hlk⟩
    obtain ⟨⟨nm, kind⟩, p, hq, rfl, hp⟩ := hAL.get hx
    have hp' : H' p = some (.tup [.str nm, .str kind]) := ht' _ _ hp
    have hi : i < 80000 := by
      have := (List.getElem?_eq_some_iff.mp hq).1
      omega
    have hlk' : (kv lks).length < sizeLine := by
      unfold kv
      rw [List.length_map]
      exact sz_line (by omega)
    have go1 : go [] ((rps t.asks).take (i + 1)) = match st lks (nm, kind) with | some l' => .ok l' | none => .error nm := by
      rw [List.take_succ, hq, go_app, hg]
      exact go_one lks (nm, kind)
    refine ⟨p, _, rfl, .inl (.inl hp'), rfl, .str nm, _, rfl, .str kind, [], rfl, rfl, ?_⟩
    refine ⟨_, rfl, d, rfl, .inl ⟨_, .inl hd'⟩, _, rfl, _, DGet.k (k := Sum.inr nm) hd', ?_⟩
    rw [val_kv]
    have hkn : ((lk lks nm).map V.str).getD (.str "any") = .str (kn lks nm) := by
      unfold kn
      cases lk lks nm <;> rfl
    rw [hkn]
    refine ⟨rfl, _, rfl, ?_⟩
    show (if decide (V.str (kn lks nm) = V.str "any") = true then _ else _)
    by_cases c : kn lks nm = "any"
    · rw [show decide (V.str (kn lks nm) = V.str "any") = true by simp [c]]
      have hst : st lks (nm, kind) = some (pt lks nm kind) := if_pos c
      obtain ⟨n1, _, n3⟩ := st_keys hst hn
      refine iteT ⟨_, rfl, _, rfl, _, rfl, d, _, rfl, DPut.k (k := Sum.inr nm) hd' hlk', ?_⟩
      refine ⟨pt lks nm kind, _, _, rfl, same_mut s' hd _, by rw [upd_ne hld]; exact hl', by rw [upd_same, put_kv], fun b xs hb => ?_, by rw [go1, hst], n1, by omega⟩
      rw [upd_ne (fun z => by rw [z, hd1] at hb; cases hb)]
      exact ht' _ _ hb
    · rw [show decide (V.str (kn lks nm) = V.str "any") = false by simp [c]]
      refine iteF ⟨_, rfl, rfl, _, rfl, ?_⟩
      show (if (!decide (V.str kind = V.str "any")) = true then _ else _)
      have stay : st lks (nm, kind) = some lks → ∃ (l9 : Ks) (o2 o3 : Option V), [some (V.ref a), some (V.ref d), some (V.str nm), some (V.str kind)] = [some (.ref a), some (.ref d), o2, o3] ∧ Same H H' ∧ H' l = some (.lst ws) ∧ H' d = some (.dK (kv l9)) ∧ Tk H1 H' ∧
        go [] ((rps t.asks).take (i + 1)) = .ok l9 ∧ (l9.map (·.1)).Nodup ∧ l9.length ≤ i + 1 := fun h => ⟨lks, _, _, rfl, s', hl', hd', ht', by rw [go1, h], hn, Nat.le_succ_of_le hlk⟩
      by_cases e : kind = "any"
      · rw [show (!decide (V.str kind = V.str "any")) = false by simp [e]]
        have hs : st lks (nm, kind) = some lks := by
          show (if kn lks nm = "any" then some (pt lks nm kind) else if kind ≠ "any" ∧ kind ≠ kn lks nm then none else some lks) = some lks
          rw [if_neg c, if_neg (fun z => z.1 e)]
        exact iteF (iteF (stay hs))
      · rw [show (!decide (V.str kind = V.str "any")) = true by simp [e]]
        have hlkn : lk lks nm = some (kn lks nm) := by
          unfold kn at c ⊢
          cases z : lk lks nm with
          | none => rw [z] at c; exact absurd rfl c
          | some v => rfl
        refine iteT ⟨_, rfl, _, rfl, _, rfl, d, V.str (kn lks nm), rfl, .inl ⟨kv lks, Sum.inr nm, .inl hd', rfl, by rw [val_kv, hlkn]; rfl⟩, rfl, _, rfl, ?_⟩
        show (if (!decide (V.str kind = V.str (kn lks nm))) = true then _ else _)
        by_cases e2 : kind = kn lks nm
        · rw [show (!decide (V.str kind = V.str (kn lks nm))) = false by simp [← e2]]
          have hs : st lks (nm, kind) = some lks := by
            show (if kn lks nm = "any" then some (pt lks nm kind) else if kind ≠ "any" ∧ kind ≠ kn lks nm then none else some lks) = some lks
            rw [if_neg c, if_neg (fun z => z.2 e2)]
          exact iteF (stay hs)
        · rw [show (!decide (V.str kind = V.str (kn lks nm))) = true by simp [e2]]
          have hst : st lks (nm, kind) = none := st_none.mpr ⟨⟨e, c⟩, e2⟩
          have ge : go [] (rps t.asks) = .error nm := by
            rw [← List.take_append_drop (i + 1) (rps t.asks), go_app, go1, hst]
          have ge2 : go [] t.asks = .error nm := by
            rw [go_law] at ge
            cases z : go [] t.asks with
            | ok l => rw [z] at ge; cases ge
            | error n => rw [z] at ge; injection ge with ge; rw [ge]
          refine iteT fun d2 hd2 => ⟨_, rfl, by show 2 ≤ sizeLine; decide, fun r hr => ?_⟩
          have s4 : Same H' (upd H' d2 (.dK [])) := same_new hd2 _
          have s5 : Same (upd H' d2 (.dK [])) (upd (upd H' d2 (.dK [])) r (.lst [.ref d2, .str nm])) := same_new hr _
          exact q2 nm ge2 r d2 _ (s'.free (s4.free hr)) ((s'.trans s4).trans s5) upd_same (s5 _ _ upd_same)
  · rintro σ H' ⟨lks, o2, o3, rfl, s', hl', hd', ht', hg, hn, hlk⟩
    rw [hlen, List.take_length, go_law] at hg
    refine ⟨_, rfl, by show 2 ≤ sizeLine; decide, fun r hr => ?_⟩
    have s5 : Same H' (upd H' r (.lst [.ref d, .non])) := same_new hr _
    cases z : go [] t.asks with
    | error n => rw [z] at hg; cases hg
    | ok l =>
      rw [z] at hg
      injection hg with hg
      exact q1 l z r d _ (s'.free hr) (s'.trans s5) upd_same (by rw [show rps l = lks from hg]; exact s5 _ _ hd')
end
end Mw

namespace Mw
open PySem L2
/-! ### what is sorted is told by a universe of few texts in their order -/
abbrev leS (a b : Str) : Prop := PySem.Spec.ltCps b.cps.toList a.cps.toList = false
structure Uni (U : List Str) : Prop where
  tr : ∀ x ∈ U, ∀ y ∈ U, ∀ z ∈ U, leS x y → leS y z → leS x z
  as : ∀ x ∈ U, ∀ y ∈ U, leS x y → leS y x → x = y
  so : U.Pairwise leS
  nd : U.Nodup
theorem ris_pw {U : List Str} (h : Uni U) : ∀ (l : List Str) (p : Str), p ∈ U → (∀ n ∈ l, n ∈ U) → PyProof.Rows.risingS p l = true → (∀ n ∈ l, leS p n) ∧ l.Pairwise leS
  | [], _, _, _, _ => ⟨fun n z => (List.not_mem_nil z).elim, List.Pairwise.nil⟩
  | x :: l, p, hp, hl, r => by
    have r : (!PySem.Spec.ltCps x.cps.toList p.cps.toList && PyProof.Rows.risingS x l) = true := r
    rw [Bool.and_eq_true] at r
    have px : leS p x := by
      have := r.1
      simpa using this
    have hx := hl x List.mem_cons_self
    have hl' : ∀ n ∈ l, n ∈ U := fun n z => hl n (List.mem_cons_of_mem _ z)
    obtain ⟨a, b⟩ := ris_pw h l x hx hl' r.2
    refine ⟨fun n z => ?_, List.pairwise_cons.mpr ⟨a, b⟩⟩
    rcases List.mem_cons.mp z with rfl | z
    · exact px
    · exact h.tr p hp x hx n (hl' n z) px (a n z)
theorem srt_pw {U : List Str} (u : Uni U) {l : List Str} (hl : ∀ n ∈ l, n ∈ U) (h : PyProof.Rows.sortedS l = true) : l.Pairwise leS := by
  cases l with
  | nil => exact .nil
  | cons x l =>
    obtain ⟨a, b⟩ := ris_pw u l x (hl x List.mem_cons_self) (fun n z => hl n (List.mem_cons_of_mem _ z)) h
    exact List.pairwise_cons.mpr ⟨a, b⟩
theorem one_way {U : List Str} (u : Uni U) : ∀ {a b : List Str}, a.Perm b → (∀ n ∈ a, n ∈ U) → a.Pairwise leS → b.Pairwise leS → a = b
  | [], b, p, _, _, _ => by rw [List.nil_perm.mp p]
  | x :: a, [], p, _, _, _ => by cases p.length_eq
  | x :: a, y :: b, p, h, ha, hb => by
    obtain ⟨a1, a2⟩ := List.pairwise_cons.mp ha
    obtain ⟨b1, b2⟩ := List.pairwise_cons.mp hb
    have hy : y ∈ x :: a := p.mem_iff.mpr List.mem_cons_self
    have hx : x ∈ y :: b := p.mem_iff.mp List.mem_cons_self
    have e : x = y := by
      rcases List.mem_cons.mp hy with e | hy
      · exact e.symm
      · rcases List.mem_cons.mp hx with e | hx
        · exact e
        · exact u.as x (h x List.mem_cons_self) y (h y (List.mem_cons_of_mem _ hy)) (a1 y hy) (b1 x hx)
    subst e
    rw [one_way u (List.Perm.cons_inv p) (fun n z => h n (List.mem_cons_of_mem _ z)) a2 b2]
def srt (U l : List Str) : List Str := U.filter fun n => decide (n ∈ l)
theorem srt_mem {U l : List Str} {n : Str} : n ∈ srt U l ↔ n ∈ U ∧ n ∈ l := by
  unfold srt
  rw [List.mem_filter, decide_eq_true_eq]
theorem srt_eq {U : List Str} (u : Uni U) {ys l : List Str} (hp : ys.Perm l) (nd : l.Nodup) (hl : ∀ n ∈ l, n ∈ U) (hs : PyProof.Rows.sortedS ys = true) : ys = srt U l := by
  have hy : ∀ n ∈ ys, n ∈ U := fun n z => hl n (hp.mem_iff.mp z)
  refine one_way u ?_ hy (srt_pw u hy hs) (u.so.sublist List.filter_sublist)
  refine (List.perm_ext_iff_of_nodup (hp.symm.nodup nd) (u.nd.sublist List.filter_sublist)).mpr fun n => ?_
  rw [hp.mem_iff]
  exact ⟨fun z => srt_mem.mpr ⟨hl n z, z⟩, fun z => (srt_mem.mp z).2⟩
def nU : List Str := ["m", "n", "w", "who", "x"]
def kU : List Str := ["a", "b", "files", "more", "z"]
def cU : List Str := ["ar", "de", "ga"]
theorem uni_n : Uni nU := ⟨by decide +kernel, by decide +kernel, by decide +kernel, by decide +kernel⟩
theorem uni_k : Uni kU := ⟨by decide +kernel, by decide +kernel, by decide +kernel, by decide +kernel⟩
theorem uni_c : Uni cU := ⟨by decide +kernel, by decide +kernel, by decide +kernel, by decide +kernel⟩
theorem n5_u : ∀ n ∈ names5, n ∈ nU := by decide +kernel
/-! ### rows that are made of names, name by name -/
def Rows (R : Hp → Str → V → Prop) (H : Hp) : List Str → List V → Prop
  | [], vs => vs = []
  | n :: ns, vs => ∃ v ws, vs = v :: ws ∧ R H n v ∧ Rows R H ns ws
def rowN : Hp → Str → V → Prop := fun _ n v => v = .str n
def rowT (word : Str) : Hp → Str → V → Prop := fun H n v => ∃ a, v = .ref a ∧ H a = some (.tup [.str word, .str n])
section
variable {R : Hp → Str → V → Prop}
theorem Rows.mono {H H' : Hp} (h : ∀ n v, R H n v → R H' n v) : ∀ {ns : List Str} {vs : List V}, Rows R H ns vs → Rows R H' ns vs
  | [], _, e => e
  | _ :: _, _, ⟨v, ws, e, a, b⟩ => ⟨v, ws, e, h _ _ a, Rows.mono h b⟩
theorem Rows.snoc {H : Hp} {n : Str} {v : V} (a : R H n v) : ∀ {ns : List Str} {vs : List V}, Rows R H ns vs → Rows R H (ns ++ [n]) (vs ++ [v])
  | [], _, e => by
    rw [show _ = [] from e]
    exact ⟨v, [], rfl, a, rfl⟩
  | _ :: _, _, ⟨x, ws, e, b, c⟩ => ⟨x, ws ++ [v], by rw [e]; rfl, b, Rows.snoc a c⟩
theorem Rows.length {H : Hp} : ∀ {ns : List Str} {vs : List V}, Rows R H ns vs → vs.length = ns.length
  | [], _, e => by rw [show _ = [] from e]; rfl
  | _ :: _, _, ⟨x, ws, e, b, c⟩ => by rw [e, List.length_cons, List.length_cons, Rows.length c]
end
theorem Rows.names {H : Hp} : ∀ {ns : List Str} {vs : List V}, Rows rowN H ns vs → vs = ns.map V.str
  | [], _, e => e
  | _ :: _, _, ⟨x, ws, e, b, c⟩ => by rw [e, Rows.names c, show x = _ from b]; rfl
theorem Rows.tags {H : Hp} {word : Str} : ∀ {ns : List Str} {vs : List V}, Rows (rowT word) H ns vs → AL H (ns.map fun n => (word, n)) vs
  | [], _, e => e
  | _ :: _, _, ⟨x, ws, e, ⟨a, h1, h2⟩, c⟩ => ⟨a, ws, by rw [e, h1], h2, Rows.tags c⟩
theorem rowT_mono {word : Str} {H H' : Hp} (k : Tk H H') : ∀ n v, rowT word H n v → rowT word H' n v := fun _ _ ⟨a, e, h⟩ => ⟨a, e, k _ _ h⟩
theorem filter_take {p : Str → Bool} {ns : List Str} {i : Nat} {n : Str} (h : ns[i]? = some n) : (ns.take (i + 1)).filter p = (ns.take i).filter p ++ if p n = true then [n] else [] := by
  rw [List.take_succ, h, List.filter_append]
  congr 1
  show [n].filter p = _
  by_cases c : p n = true
  · rw [if_pos c, List.filter_cons_of_pos c]; rfl
  · rw [if_neg c, List.filter_cons_of_neg c]; rfl
theorem lc_strs {K : PySem.W.Frag} {a D : Addr} {ns : List Str} {g : TG} {tt : TT} {te : TE} {own : List Nat} {σ : L2.St} {H1 : Hp} {Qd : Hp → Prop} {R : Hp → Str → V → Prop} (p : Str → Bool) (σ2 : Str → L2.St) (hm : ∀ H H', Tk H H' → ∀ n v, R H n v → R H' n v)
    (ha : H1 a = some (.lst (ns.map V.str))) (hD : H1 D = none) (hlen : ns.length < 10000000) (hg : ∀ n H k, k (σ2 n) H → g (.str n) (wipe σ own) H k) (hw : ∀ n, wipe (σ2 n) own = wipe σ own)
    (ht : ∀ n H' (Qb : Bool → Hp → Prop), n ∈ ns → Same H1 H' → (∀ H'', Same H' H'' → Qb (p n) H'') → tt (σ2 n) H' Qb)
    (he : ∀ n H' (Qe : VK), n ∈ ns → p n = true → Same H1 H' → (∀ v H'', Same H' H'' → R H'' n v → Qe v H'') → te (σ2 n) H' Qe)
    (q : ∀ H' vs, Same H1 H' → H' D = some (.lst vs) → Rows R H' (ns.filter p) vs → Qd H') :
    ∃ W : Nat → Nat → Hp → Prop, (∃ m, W 0 m (upd H1 D (.lst []))) ∧ ∀ i m H, W i m H →
      ((Itl K a).stop i H ∧ Qd H) ∨ ((Itl K a).go i H ∧ ∃ Nx : Hp → Prop, (∀ H', Nx H' → ∃ m', m' < m ∧ W (i + 1) m' H') ∧ ∀ x H', (Itl K a).yld i H x H' → g x (wipe σ own) H' fun σ2 H2 => wipe σ2 own = wipe σ own ∧ tt σ2 H2 fun b H3 =>
        if b = true then te σ2 H3 fun y H4 => ∃ acc, H4 D = some (.lst acc) ∧ acc.length < sizeLine ∧ Nx (upd H4 D (.lst (acc ++ [y]))) else Nx H3) := by
  refine lc_list (xs := ns.map V.str) (fun i H' => Same H1 H' ∧ ∃ vs, H' D = some (.lst vs) ∧ Rows R H' ((ns.take i).filter p) vs) ⟨same_new hD _, [], upd_same, rfl⟩ (fun i H' _ ⟨s', _⟩ => SqL.of (s' _ _ ha)) ?_ ?_
  · rintro i x H' hx ⟨s', vs, hv, hr⟩
    obtain ⟨n, hn, rfl⟩ : ∃ n, ns[i]? = some n ∧ x = V.str n := by
      rw [List.getElem?_map] at hx
      cases e : ns[i]? with
      | none => rw [e] at hx; cases hx
      | some y => rw [e] at hx; exact ⟨y, rfl, (Option.some.inj hx).symm⟩
    have mem := List.mem_of_getElem? hn
    refine hg _ _ _ ⟨hw n, ht n H' _ mem s' fun H2 s2 => ?_⟩
    cases c : p n with
    | false =>
      refine iteF ⟨s'.trans s2, vs, s2 _ _ hv, ?_⟩
      rw [filter_take hn, c, if_neg (by simp), List.append_nil]
      exact hr.mono (hm _ _ (Tk.of s2))
    | true =>
      refine iteT (he n H2 _ mem c (s'.trans s2) fun v H3 s3 hR => ⟨vs, s3 _ _ (s2 _ _ hv), ?_, ?_⟩)
      · have h1 := hr.length
        have h2 : ((ns.take i).filter p).length ≤ ns.length := Nat.le_trans (List.length_filter_le _ _) (by rw [List.length_take]; omega)
        exact sz_line (by omega)
      · have hv3 := s3 _ _ (s2 _ _ hv)
        refine ⟨same_mut ((s'.trans s2).trans s3) hD _, vs ++ [v], upd_same, ?_⟩
        rw [filter_take hn, c, if_pos rfl]
        exact Rows.snoc (hm _ _ (Tk.lst hv3) _ _ hR) (hr.mono (hm _ _ (fun b xs hb => Tk.lst hv3 b xs (Tk.of (s2.trans s3) b xs hb))))
  · rintro H' ⟨s', vs, hv, hr⟩
    rw [List.length_map, List.take_length] at hr
    exact q H' vs s' hv hr
/-- a comprehension over a dict's keys -/
theorem lc_keys {d : Addr} {kvs : List (L2.Key × V)} {ns : List Str} {td : TE} {g : TG} {tt : TT} {te : TE} {own : List Nat} {σ : L2.St} {H : Hp} {Q : VK} {R : Hp → Str → V → Prop} (p : Str → Bool) (σ2 : Str → L2.St) (hm : ∀ H H', Tk H H' → ∀ n v, R H n v → R H' n v)
    (hd : H d = some (.dK kvs)) (hk : kvs.map (·.1) = ns.map Sum.inr) (hlen : ns.length < 10000000) (htd : ∀ (H : Hp) (Z : VK), Z (.ref d) H → td σ H Z) (hg : ∀ n H k, k (σ2 n) H → g (.str n) (wipe σ own) H k) (hw : ∀ n, wipe (σ2 n) own = wipe σ own)
    (ht : ∀ od n H' (Qb : Bool → Hp → Prop), n ∈ ns → Same (upd H d (.frz od (.dK kvs))) H' → (∀ H'', Same H' H'' → Qb (p n) H'') → tt (σ2 n) H' Qb)
    (he : ∀ od n H' (Qe : VK), n ∈ ns → p n = true → Same (upd H d (.frz od (.dK kvs))) H' → (∀ v H'', Same H' H'' → R H'' n v → Qe v H'') → te (σ2 n) H' Qe)
    (q : ∀ D H' vs, H D = none → Same H H' → H' D = some (.lst vs) → Rows R H' (ns.filter p) vs → Q (.ref D) H') :
    tLockE (tLc (iKeys td) g tt te own) σ H Q := by
  refine ⟨d, _, hd, trivial, fun od => htd _ _ ⟨d, od, rfl, .inl ⟨kvs, upd_same, fun D hD => ?_⟩⟩⟩
  generalize hL : upd H d (.frz od (.dK kvs)) = HL at hD
  have hdL : HL d = some (.frz od (.dK kvs)) := by rw [← hL]; exact upd_same
  have nDd : D ≠ d := fun e => by rw [e, hdL] at hD; cases hD
  have hD0 : H D = none := by rw [← hL, upd_ne nDd] at hD; exact hD
  have hlk : kvs.length = ns.length := by
    have := congrArg List.length hk
    rw [List.length_map, List.length_map] at this
    exact this
  refine ⟨fun i m H' => m = ns.length - i ∧ i ≤ ns.length ∧ Same HL H' ∧ ∃ vs, H' D = some (.lst vs) ∧ Rows R H' ((ns.take i).filter p) vs, ⟨ns.length, by simp, Nat.zero_le _, same_new hD _, [], upd_same, rfl⟩, ?_⟩
  rintro i m H' ⟨rfl, hi, s', vs, hv, hr⟩
  have hd' := s' _ _ hdL
  by_cases hlt : i < ns.length
  · refine .inr ⟨⟨hd', by omega⟩, fun H' => i + 1 ≤ ns.length ∧ Same HL H' ∧ ∃ vs, H' D = some (.lst vs) ∧ Rows R H' ((ns.take (i + 1)).filter p) vs, fun H' z => ⟨ns.length - (i + 1), by omega, rfl, z.1, z.2⟩, fun x H2 hy => ?_⟩
    obtain ⟨rfl, k, v, hkv, rfl⟩ := hy
    have hn : ns[i]? = some ns[i] := List.getElem?_eq_getElem hlt
    obtain rfl : k = Sum.inr ns[i] := by
      have h1 : (kvs.map (·.1))[i]? = some k := by rw [List.getElem?_map, hkv]; rfl
      rw [hk, List.getElem?_map, hn] at h1
      exact (Option.some.inj h1).symm
    have mem := List.mem_of_getElem? hn
    generalize ns[i] = n at hn mem
    refine hg n H2 _ ⟨hw n, ht od n H2 _ mem (by rw [hL]; exact s') fun H3 s3 => ?_⟩
    cases c : p n with
    | false =>
      refine iteF ⟨hlt, s'.trans s3, vs, s3 _ _ hv, ?_⟩
      rw [filter_take hn, c, if_neg (by simp), List.append_nil]
      exact hr.mono (hm _ _ (Tk.of s3))
    | true =>
      refine iteT (he od n H3 _ mem c (by rw [hL]; exact s'.trans s3) fun v H4 s4 hR => ⟨vs, s4 _ _ (s3 _ _ hv), ?_, ?_⟩)
      · have h1 := hr.length
        have h2 : ((ns.take i).filter p).length ≤ ns.length := Nat.le_trans (List.length_filter_le _ _) (by rw [List.length_take]; omega)
        exact sz_line (by omega)
      · have hv4 := s4 _ _ (s3 _ _ hv)
        refine ⟨hlt, same_mut ((s'.trans s3).trans s4) hD _, vs ++ [v], upd_same, ?_⟩
        rw [filter_take hn, c, if_pos rfl]
        exact Rows.snoc (hm _ _ (Tk.lst hv4) _ _ hR) (hr.mono (hm _ _ (fun b xs hb => Tk.lst hv4 b xs (Tk.of (s3.trans s4) b xs hb))))
  · obtain rfl : i = ns.length := by omega
    refine .inl ⟨⟨hd', by omega⟩, hd', ?_⟩
    rw [List.take_length] at hr
    have tk : Tk H' (upd H' d (.dK kvs)) := fun b xs hb => by
      rw [upd_ne (fun e => by rw [e, hd'] at hb; cases hb)]
      exact hb
    refine q D _ vs hD0 (fun b o hb => ?_) (by rw [upd_ne nDd]; exact hv) (hr.mono (hm _ _ tk))
    by_cases e : b = d
    · subst e
      rw [upd_same, ← hb, hd]
    · rw [upd_ne e]
      refine s' _ _ ?_
      rw [← hL, upd_ne e]
      exact hb
end Mw

namespace Mw
open PySem L2
/-! ### the faults of a message -/
def hasK (l : Ks) (n : Str) : Bool := (lk l n).isSome
def unl (ls lm : Ks) (n : Str) : Bool := hasK ls n && (decide (kn lm n ≠ "any") && (decide (kn ls n ≠ "any") && decide (kn lm n ≠ kn ls n)))
def tag (word : Str) (ns : List Str) : List (Str × Str) := ns.map fun n => (word, n)
def keysU (l : Ks) : List Str := srt nU (l.map (·.1))
def mf (ls lm : Ks) : List (Str × Str) :=
  tag "beyond" ((keysU lm).filter fun n => !hasK ls n) ++ tag "without" ((keysU ls).filter fun n => !hasK lm n) ++ tag "unlike" ((keysU lm).filter fun n => unl ls lm n)
def mfE (ls : Ks) (tm : T) : List (Str × Str) := match go [] tm.asks with
  | .ok lm => mf ls lm
  | .error n => [("bad", n)]
theorem has_rp (l : Ks) (n : Str) : hasK (rps l) n = hasK l n := by
  unfold hasK
  rw [lk_rp]
  cases lk l n <;> rfl
theorem has_mem {l : Ks} {n : Str} : hasK l n = true ↔ n ∈ l.map (·.1) := by
  unfold hasK lk
  rw [Option.isSome_map, List.find?_isSome]
  constructor
  · rintro ⟨p, hp, e⟩
    exact List.mem_map.mpr ⟨p, hp, of_decide_eq_true e⟩
  · intro h
    obtain ⟨p, hp, e⟩ := List.mem_map.mp h
    exact ⟨p, hp, decide_eq_true e⟩
theorem keysU_len (l : Ks) : (keysU l).length ≤ 5 := Nat.le_trans (List.length_filter_le _ _) (by decide)
theorem keys_rp (l : Ks) : (rps l).map (·.1) = l.map (·.1) := by
  show (l.map rp).map _ = _
  rw [List.map_map]
  rfl
/-- what the kinds of a message are like -/
structure KsOk (l : Ks) : Prop where
  nd : (l.map (·.1)).Nodup
  nm : ∀ n ∈ l.map (·.1), n ∈ nU
  kd : ∀ p ∈ l, p.2 ∈ kinds3
theorem ks_ok {t : T} {l : Ks} (h : go [] t.asks = .ok l) (hn : allNames t) : KsOk l := by
  obtain ⟨a, b⟩ := go_keys h List.nodup_nil
  refine ⟨a, fun n hn' => ?_, go_k (asks_k t) (fun p hp => by cases hp) h⟩
  rcases b n hn' with z | z
  · cases z
  · obtain ⟨q, hq, rfl⟩ := List.mem_map.mp z
    exact n5_u _ (hn q hq)
theorem KsOk.few {l : Ks} (h : KsOk l) : l.length ≤ 5 := by
  have := h.nd.length_le_of_subset (fun n hn => h.nm n hn)
  rw [List.length_map] at this
  exact this
theorem KsOk.srt {l : Ks} (h : KsOk l) {ys : List Str} (p : ys.Perm (l.map (·.1))) (s : PyProof.Rows.sortedS ys = true) : ys = keysU l := srt_eq uni_n p h.nd h.nm s
theorem kv_keys (l : Ks) : (kv l).map (·.1) = (l.map (·.1)).map Sum.inr := by
  unfold kv
  rw [List.map_map, List.map_map]
  rfl
theorem dget_kv {H : Hp} {d : Addr} {l : Ks} (h : Rd H d (.dK (kv l))) (n : Str) : DGet H d (.str n) ((lk l n).map V.str) := .inl ⟨kv l, Sum.inr n, h, rfl, (val_kv n l).symm⟩
theorem has_some {l : Ks} {n : Str} : ((lk l n).map V.str).isSome = hasK l n := by
  unfold hasK
  cases lk l n <;> rfl
theorem lk_has {l : Ks} {n : Str} (h : hasK l n = true) : lk l n = some (kn l n) := by
  unfold hasK at h
  unfold kn
  cases e : lk l n with
  | none => rw [e] at h; cases h
  | some v => rfl
section
variable {P : Program} {w : World} {K : PySem.W.Frag} {mg : Str → Option Value} {base : Heap}
/-! ### _law_faults -/
abbrev sLf : Stmt := top 25
abbrev nLf : List Str := ["source", "message", "mine", "bad", "theirs", "name", "found"]
theorem scLf : FnScope nLf ["source", "message"] (defScope sLf) := ⟨rfl, rfl, rfl, by decide +kernel, rfl, by decide +kernel, by decide +kernel⟩
def spLf (m : Nat) : Sp := fun vs H Q _ => ∃ (a b : Addr) (ts tm : T) (ls : Ks), vs = [.ref a, .ref b] ∧ At H a ts ∧ At H b tm ∧ Wf ts false ∧ Wf tm false ∧ ts.dep < m ∧ tm.dep < m ∧ ts.sz < 80000 ∧ tm.sz < 80000 ∧ allNames ts ∧ allNames tm ∧ go [] ts.asks = .ok ls ∧
  ∀ r H' ws, H r = none → Same H H' → H' r = some (.lst ws) → AL H' (mfE ls tm) ws → Q (.ref r) H'
set_option maxHeartbeats 0 in
theorem ok_lf {m : Nat} {f fK : Addr} {fd fdK : FuncData} (F : Fun K "_law_faults" "_law_faults" sLf f fd) (GK : FnOk P w K mg base CX0 (m + 1) fK fdK ["message"] (spKn m)) (bK : Binds K fdK ["message"] []) (kK : PySem.W.keepIn K (.ref fK) = true) (mK : mg "_law_kinds" = some (.ref fK)) (ms : mg "sorted" = none) :
    FnOk P w K mg base CX0 (m + 2) f fd ["source", "message"] (spLf m) := by
  refine F.ok scLf (fun vs H Q E h => ?_) (fun cdv A outer s H vs Q E hr h => ?_)
  · obtain ⟨a, b, ts, tm, ls, rfl, _⟩ := h
    rfl
  obtain ⟨a, b, ts, tm, ls, rfl, has, ham, ws, wm, ds, dm, zs, zm, ns, nm, hls, q⟩ := h
  have nd := scLf.nd
  have hu := hu_of hr
  refine ⟨_, (pss_cons (ps_asg (pe_call GK hr rfl mK kK bK .nil pass0 (pa_cons (pv 1) pa_nil)) (pg_lst rfl (pgs_cons (pg_name (i := 2) nd rfl (.inr rfl)) (pgs_cons (pg_name (i := 3) nd rfl (.inl rfl)) pgs_nil))))
      (pss_cons (ps_if (pt_cmpR op_notN (pv 3) pe_non (nomark _)) (pss_one (ps_ret (pe_lst (pa_cons (pe_tup (pa_cons pe_str (pa_cons (pv 3) pa_nil))) pa_nil)))) pss_nil)
      (pss_cons (ps_set (i := 4) nd rfl (.inr rfl) (pe_ix ix_list (pe_call GK hr rfl mK kK bK .nil pass0 (pa_cons (pv 0) pa_nil)) pe_int (fun _ _ => rfl)))
      (Evl.pss_cut (ps_setLc (i := 6) (own := [("name", 5)]) (g := (gName 5))   rfl nd rfl rfl (sw_true rfl rfl rfl (by decide +kernel)) (pi_list (pe_callB (call_sortedD rfl) (by rfl) ms (by decide +kernel) (pa_cons (pv 2) pa_nil))) (blkOk_by (N := nLf) (sc := defScope sLf) (by decide +kernel)) (fun _ _ _ _ _ => (pg_name (i := 5) nd rfl (.inl rfl))) (fun _ _ _ _ _ => (pts_one (pt_cmp (pc_dnotin hu (pv 5) (pv 4))))) (fun _ _ _ _ _ => (pe_tup (pa_cons pe_str (pa_cons (pv 5) pa_nil)))))
      (Evl.pss_cut (ps_set (i := 6) nd rfl (.inl rfl) (pe_op op_cat (pv 6) (pe_lc (own := [("name", 5)]) (g := (gName 5))   rfl nd (pi_list (pe_callB (call_sortedD rfl) (by rfl) ms (by decide +kernel) (pa_cons (pv 4) pa_nil))) (blkOk_by (N := nLf) (sc := defScope sLf) (by decide +kernel)) (fun _ _ _ _ _ => (pg_name (i := 5) nd rfl (.inl rfl))) (fun _ _ _ _ _ => (pts_one (pt_cmp (pc_dnotin hu (pv 5) (pv 2))))) (fun _ _ _ _ _ => (pe_tup (pa_cons pe_str (pa_cons (pv 5) pa_nil)))))))
      (Evl.pss_cut (ps_for PassesOwn.never rfl (pi_list (pe_callB (call_sortedD rfl) (by rfl) ms (by decide +kernel) (pa_cons (pv 2) pa_nil))) (pg_name (i := 5) nd rfl (.inl rfl)) (pss_one (ps_if (PW.pt (pw_and (pt_cmp (pc_din hu (pv 5) (pv 4))) (pw_and (pt_cmpR op_notIn_seq pe_str (pe_lst (pa_cons (pe_dget hu (pv 2) (pv 5) (fun _ _ => rfl)) (pa_cons (pe_dget hu (pv 4) (pv 5) (fun _ _ => rfl)) pa_nil))) rfl) (pw_and1 (pt_cmpR op_ne (pe_dget hu (pv 2) (pv 5) (fun _ _ => rfl)) (pe_dget hu (pv 4) (pv 5) (fun _ _ => rfl)) (nomark _)))))) (pss_one (ps_expr (pe_bm PySem.F.plainAttrs_list PySem.F.slot_list_append PySem.F.type_list_append mt_append (pv 6) (pa_cons (pe_tup (pa_cons pe_str (pa_cons (pv 5) pa_nil))) pa_nil)))) pss_nil)))
      (pss_one (ps_ret (pv 6))))))))), ?_⟩
  have oks := ks_ok hls ns
  refine ⟨_, rfl, b, tm, rfl, ham, wm, dm, zm, fun lm hlm r d H1 hr0 s1 hr1 hd1 => ?_, fun n hn r d H1 hr0 s1 hr1 hd1 => ?_⟩
  rotate_left
  · -- asked for as a number and as a word
    refine ⟨r, _, rfl, SqL.of hr1, rfl, .ref d, _, rfl, .str n, [], rfl, rfl, ?_⟩
    refine ⟨_, rfl, rfl, _, rfl, ?_⟩
    show if (!decide (V.str n = V.non)) = true then _ else _
    rw [show (!decide (V.str n = V.non)) = true by simp]
    refine iteT ⟨_, rfl, by show 2 ≤ sizeLine; decide, fun tp htp => ⟨by show 1 ≤ sizeLine; decide, fun rr hrr => ?_⟩⟩
    have s2 : Same H1 (upd H1 tp (.tup [.str "bad", .str n])) := same_new htp _
    have s3 : Same (upd H1 tp (.tup [.str "bad", .str n])) (upd (upd H1 tp (.tup [.str "bad", .str n])) rr (.lst [.ref tp])) := same_new hrr _
    refine q rr _ _ (s1.free (s2.free hrr)) ((s1.trans s2).trans s3) upd_same ?_
    unfold mfE
    rw [hn]
    exact ⟨tp, [], rfl, s3 _ _ upd_same, rfl⟩
  have okm := ks_ok hlm nm
  refine ⟨r, _, rfl, SqL.of hr1, rfl, .ref d, _, rfl, .non, [], rfl, rfl, ?_⟩
  refine ⟨_, rfl, rfl, _, rfl, ?_⟩
  show if (!decide (V.non = V.non)) = true then _ else _
  rw [show (!decide (V.non = V.non)) = false by simp]
  refine iteF ⟨_, rfl, a, ts, rfl, has.same s1, ws, ds, zs, fun ls' hls' r2 d2 H2 hr2 s2 h1 h2 => ?_, fun n hn => by rw [hls] at hn; cases hn⟩
  obtain rfl : ls = ls' := by
    rw [hls] at hls'
    injection hls'
  refine ⟨r2, _, 0, .ref d2, rfl, rfl, SqL.of h1, rfl, ?_⟩
  have hd2 := s2 _ _ hd1
  have sH2 := s1.trans s2
  have rs (l : Ks) : (rps l).length = l.length := List.length_map _
  have fewm := okm.few
  have fews := oks.few
  have mlen : (mf ls lm).length ≤ 15 := by
    unfold mf tag
    rw [List.length_append, List.length_append, List.length_map, List.length_map, List.length_map]
    have a1 := List.length_filter_le (fun n => !hasK ls n) (keysU lm)
    have a2 := List.length_filter_le (fun n => !hasK lm n) (keysU ls)
    have a3 := List.length_filter_le (fun n => unl ls lm n) (keysU lm)
    have := keysU_len lm
    have := keysU_len ls
    omega
  refine ⟨fun σ H' => ∃ (fl : Addr) (vs : List V), σ = [some (.ref a), some (.ref b), some (.ref d), some .non, some (.ref d2), none, some (.ref fl)] ∧ Same H2 H' ∧ H2 fl = none ∧ H' fl = some (.lst vs) ∧ AL H' (tag "beyond" ((keysU lm).filter fun n => !hasK ls n)) vs, ?_, ?_⟩
  · refine ⟨_, rfl, d, kv (rps lm), lm.map (·.1), rfl, .inl hd2, by rw [kv_keys, keys_rp], by rw [List.length_map]; omega, fun ys sl hp hs hsl => ⟨sl, rfl, ⟨_, SqL.of upd_same⟩, fun D hD => ?_⟩⟩
    have s3 : Same H2 (upd H2 sl (.lst (ys.map V.str))) := same_new hsl _
    obtain rfl := okm.srt hp hs
    refine lc_strs (R := rowT "beyond") (fun n => !hasK ls n) (fun n => [some (.ref a), some (.ref b), some (.ref d), some .non, some (.ref d2), some (.str n), none]) (fun _ _ k => rowT_mono k) upd_same hD (Nat.lt_of_le_of_lt (keysU_len lm) (by decide)) (fun _ _ _ h => h) (fun _ => rfl) ?_ ?_ ?_
    · intro n H' Qb hn s' k
      refine ⟨_, rfl, _, rfl, d2, _, rfl, dget_kv (.inl (s' _ _ (s3 _ _ h2))) n, _, rfl, ?_⟩
      rw [has_some, has_rp]
      exact k H' (Same.refl _)
    · intro n H' Qe hn hp' s' k
      exact ⟨_, rfl, by show 2 ≤ sizeLine; decide, fun tp htp => k _ _ (same_new htp _) ⟨tp, rfl, upd_same⟩⟩
    · intro H' vs s' hv hr'
      have hD2 : H2 D = none := upd_none hD
      exact ⟨D, vs, rfl, s3.trans s', hD2, hv, hr'.tags⟩
  rintro σ H3 ⟨fl, vs, rfl, s3, hfl, hv, hA⟩
  refine ⟨fun σ H' => ∃ (fl : Addr) (vs : List V), σ = [some (.ref a), some (.ref b), some (.ref d), some .non, some (.ref d2), none, some (.ref fl)] ∧ Same H2 H' ∧ H2 fl = none ∧ H' fl = some (.lst vs) ∧ AL H' (tag "beyond" ((keysU lm).filter fun n => !hasK ls n) ++ tag "without" ((keysU ls).filter fun n => !hasK lm n)) vs, ?_, ?_⟩
  · refine ⟨_, rfl, _, rfl, d2, kv (rps ls), ls.map (·.1), rfl, .inl (s3 _ _ h2), by rw [kv_keys, keys_rp], by rw [List.length_map]; omega, fun ys sl hp hs hsl => ⟨sl, rfl, ⟨_, SqL.of upd_same⟩, fun D hD => ?_⟩⟩
    have s4 : Same H3 (upd H3 sl (.lst (ys.map V.str))) := same_new hsl _
    obtain rfl := oks.srt hp hs
    refine lc_strs (R := rowT "without") (fun n => !hasK lm n) (fun n => [some (.ref a), some (.ref b), some (.ref d), some .non, some (.ref d2), some (.str n), some (.ref fl)]) (fun _ _ k => rowT_mono k) upd_same hD (Nat.lt_of_le_of_lt (keysU_len ls) (by decide)) (fun _ _ _ h => h) (fun _ => rfl) ?_ ?_ ?_
    · intro n H' Qb hn s' k
      refine ⟨_, rfl, _, rfl, d, _, rfl, dget_kv (.inl (s' _ _ (s4 _ _ (s3 _ _ hd2)))) n, _, rfl, ?_⟩
      rw [has_some, has_rp]
      exact k H' (Same.refl _)
    · intro n H' Qe hn hp' s' k
      exact ⟨_, rfl, by show 2 ≤ sizeLine; decide, fun tp htp => k _ _ (same_new htp _) ⟨tp, rfl, upd_same⟩⟩
    · intro H' us s' hu' hr'
      have hv' := s' _ _ (s4 _ _ hv)
      have t2 := hr'.tags
      have hl1 := hA.length
      have hl2 : us.length = (tag "without" ((keysU ls).filter fun n => !hasK lm n)).length := t2.length
      unfold mf at mlen
      rw [List.length_append, List.length_append] at mlen
      refine ⟨fl, D, vs, us, rfl, rfl, hv', hu', le_line (by omega), fun l3 hl3 => ?_⟩
      have s5 : Same H' (upd H' l3 (.lst (vs ++ us))) := same_new hl3 _
      exact ⟨l3, vs ++ us, rfl, ((s3.trans s4).trans s').trans s5, (s3.trans s4).free (s'.free hl3), upd_same, (AL.app t2 (hA.mono (Tk.of (s4.trans s')))).mono (Tk.of s5)⟩
  rintro σ H4 ⟨fl, vs, rfl, s4, hfl, hv, hA⟩
  refine ⟨fun σ H' => ∃ (o : Option V) (vs : List V), σ = [some (.ref a), some (.ref b), some (.ref d), some .non, some (.ref d2), o, some (.ref fl)] ∧ Same H2 H' ∧ H' fl = some (.lst vs) ∧ AL H' (mf ls lm) vs, ?_, ?_⟩
  rotate_left
  · rintro σ H5 ⟨o, vs, rfl, s5, hv, hA⟩
    refine ⟨_, rfl, q fl H5 vs (sH2.free hfl) (sH2.trans s5) hv ?_⟩
    unfold mfE
    rw [hlm]
    exact hA
  refine ⟨_, rfl, d, kv (rps lm), lm.map (·.1), rfl, .inl (s4 _ _ hd2), by rw [kv_keys, keys_rp], by rw [List.length_map]; omega, fun ys sl hp hs hsl => ⟨sl, rfl, ⟨_, SqL.of upd_same⟩, ?_⟩⟩
  have s5 : Same H4 (upd H4 sl (.lst (ys.map V.str))) := same_new hsl _
  obtain rfl := okm.srt hp hs
  have nfs : fl ≠ sl := fun e => by rw [← e, hv] at hsl; cases hsl
  refine for_list (xs := (keysU lm).map V.str) (fun i σ H' => ∃ (o : Option V) (vs : List V), σ = [some (.ref a), some (.ref b), some (.ref d), some .non, some (.ref d2), o, some (.ref fl)] ∧ Same H2 H' ∧ H' sl = some (.lst ((keysU lm).map V.str)) ∧ H' fl = some (.lst vs) ∧
      AL H' (tag "beyond" ((keysU lm).filter fun n => !hasK ls n) ++ tag "without" ((keysU ls).filter fun n => !hasK lm n) ++ tag "unlike" (((keysU lm).take i).filter fun n => unl ls lm n)) vs)
    ⟨none, vs, rfl, s4.trans s5, upd_same, s5 _ _ hv, by rw [List.take_zero]; show AL _ (_ ++ []) _; rw [List.append_nil]; exact hA.mono (Tk.of s5)⟩ (fun i σ H' _ ⟨_, _, _, _, h, _⟩ => SqL.of h) ?_ ?_
  · rintro i x σ H' hx ⟨o, vs, rfl, s', hsl', hv', hA'⟩
    obtain ⟨n, hn, rfl⟩ : ∃ n, (keysU lm)[i]? = some n ∧ x = V.str n := by
      rw [List.getElem?_map] at hx
      cases e : (keysU lm)[i]? with
      | none => rw [e] at hx; cases hx
      | some y => rw [e] at hx; exact ⟨y, rfl, (Option.some.inj hx).symm⟩
    have hm : hasK lm n = true := has_mem.mpr (srt_mem.mp (List.mem_of_getElem? hn)).2
    have hknm := lk_has hm
    have same : ∀ H'' : Hp, Same H' H'' → unl ls lm n = false → ∃ (o : Option V) (vs : List V), [some (V.ref a), some (.ref b), some (.ref d), some .non, some (.ref d2), some (.str n), some (.ref fl)] = [some (.ref a), some (.ref b), some (.ref d), some .non, some (.ref d2), o, some (.ref fl)] ∧ Same H2 H'' ∧ H'' sl = some (.lst ((keysU lm).map V.str)) ∧ H'' fl = some (.lst vs) ∧
      AL H'' (tag "beyond" ((keysU lm).filter fun n => !hasK ls n) ++ tag "without" ((keysU ls).filter fun n => !hasK lm n) ++ tag "unlike" (((keysU lm).take (i + 1)).filter fun n => unl ls lm n)) vs := fun H'' s'' e =>
      ⟨_, vs, rfl, s'.trans s'', s'' _ _ hsl', s'' _ _ hv', by rw [filter_take hn, e, if_neg (by simp), List.append_nil]; exact hA'.mono (Tk.of s'')⟩
    have hd' := s' _ _ hd2
    have hd2' := s' _ _ h2
    refine ⟨_, rfl, _, rfl, d2, _, rfl, dget_kv (.inl hd2') n, _, rfl, ?_⟩
    rw [has_some, has_rp]
    cases hc : hasK ls n with
    | false => exact iteF (iteF (same H' (Same.refl _) (by unfold unl; rw [hc]; rfl)))
    | true =>
      have hkns := lk_has hc
      have gm : (lk (rps lm) n).map V.str = some (.str (rk (kn lm n))) := by rw [lk_rp, hknm]; rfl
      have gs : (lk (rps ls) n).map V.str = some (.str (rk (kn ls n))) := by rw [lk_rp, hkns]; rfl
      have km : kn lm n ∈ kinds3 := lk_k okm.kd n
      have ks : kn ls n ∈ kinds3 := lk_k oks.kd n
      have dm1 := dget_kv (H := H') (d := d) (l := rps lm) (.inl hd') n
      have ds1 := dget_kv (H := H') (d := d2) (l := rps ls) (.inl hd2') n
      rw [gm] at dm1
      rw [gs] at ds1
      refine iteT ⟨_, rfl, _, rfl, d, _, rfl, dm1, _, rfl, _, rfl, d2, _, rfl, ds1, by show 2 ≤ sizeLine; decide, fun tp htp => ⟨tp, _, rfl, .inl (SqL.of upd_same), rfl, rfl, _, rfl, ?_⟩⟩
      have s6 : Same H' (upd H' tp (.lst [.str (rk (kn lm n)), .str (rk (kn ls n))])) := same_new htp _
      generalize upd H' tp (.lst [.str (rk (kn lm n)), .str (rk (kn ls n))]) = H6 at s6 ⊢
      show if (!inV (V.str "any") [.str (rk (kn lm n)), .str (rk (kn ls n))]) = true then _ else _
      rw [in_two]
      by_cases c1 : kn lm n = "any" ∨ kn ls n = "any"
      · have e1 : ("any" : Str) = rk (kn lm n) ∨ ("any" : Str) = rk (kn ls n) := c1.imp (fun z => ((rk_any _ km).mpr z).symm) fun z => ((rk_any _ ks).mpr z).symm
        rw [decide_eq_true e1]
        refine iteF (iteF (same H6 s6 ?_))
        unfold unl
        rcases c1 with z | z <;> simp [z]
      · have e1 : ¬ (("any" : Str) = rk (kn lm n) ∨ ("any" : Str) = rk (kn ls n)) := fun z => c1 (z.imp (fun y => (rk_any _ km).mp y.symm) fun y => (rk_any _ ks).mp y.symm)
        rw [decide_eq_false e1]
        have dm6 := dget_kv (H := H6) (d := d) (l := rps lm) (.inl (s6 _ _ hd')) n
        have ds6 := dget_kv (H := H6) (d := d2) (l := rps ls) (.inl (s6 _ _ hd2')) n
        rw [gm] at dm6
        rw [gs] at ds6
        refine iteT ⟨_, rfl, _, rfl, d, _, rfl, dm6, _, rfl, _, rfl, d2, _, rfl, ds6, rfl, _, rfl, ?_⟩
        show if (!decide (V.str (rk (kn lm n)) = V.str (rk (kn ls n)))) = true then _ else _
        have c1' := not_or.mp c1
        by_cases c2 : kn lm n = kn ls n
        · rw [show decide (V.str (rk (kn lm n)) = V.str (rk (kn ls n))) = true by rw [c2]; exact decide_eq_true rfl]
          refine iteF (same H6 s6 ?_)
          unfold unl
          simp [c2]
        · have c3 : rk (kn lm n) ≠ rk (kn ls n) := fun z => c2 ((rk_inj _ km _ ks).mp z)
          rw [show decide (V.str (rk (kn lm n)) = V.str (rk (kn ls n))) = false from decide_eq_false fun z => c3 (str_eq z)]
          have hun : unl ls lm n = true := by
            unfold unl
            simp [hc, c1'.1, c1'.2, c2]
          have hv6 := s6 _ _ hv'
          refine iteT ⟨_, rfl, .inl ⟨rfl, _, SqL.of hv6⟩, _, rfl, by show 2 ≤ sizeLine; decide, fun tt htt => ?_⟩
          have s7 : Same H6 (upd H6 tt (.tup [.str "unlike", .str n])) := same_new htt _
          have hv7 := s7 _ _ hv6
          have nt : tt ≠ fl := (ne_of_none hv6 htt).symm
          have hl := hA'.length
          refine ⟨fl, vs, _, rfl, rfl, hv7, sz_line ?_, ?_⟩
          · unfold tag at hl
            rw [List.length_append, List.length_append, List.length_map, List.length_map, List.length_map] at hl
            have a1 := List.length_filter_le (fun n => !hasK ls n) (keysU lm)
            have a2 := List.length_filter_le (fun n => !hasK lm n) (keysU ls)
            have a3 := List.length_filter_le (fun n => unl ls lm n) ((keysU lm).take i)
            have a4 : ((keysU lm).take i).length ≤ (keysU lm).length := by rw [List.length_take]; omega
            have := keysU_len lm
            have := keysU_len ls
            omega
          · refine ⟨_, vs ++ [.ref tt], rfl, same_mut ((s'.trans s6).trans s7) hfl _, by rw [upd_ne nfs.symm]; exact s7 _ _ (s6 _ _ hsl'), upd_same, ?_⟩
            rw [filter_take hn, hun, if_pos rfl]
            have e9 : ∀ (x y : List (Str × Str)) (z : List Str), x ++ y ++ tag "unlike" (z ++ [n]) = x ++ y ++ tag "unlike" z ++ [(("unlike" : Str), n)] := fun x y z => by unfold tag; simp
            rw [e9]
            exact AL.app (show AL _ [(("unlike" : Str), n)] [.ref tt] from ⟨tt, [], rfl, by rw [upd_ne nt]; exact upd_same, rfl⟩) ((hA'.mono (Tk.of (s6.trans s7))).mono (Tk.lst hv7))
  · rintro σ H' ⟨o, vs, rfl, s', _, hv', hA'⟩
    rw [List.length_map, List.take_length] at hA'
    exact ⟨o, vs, rfl, s', hv', hA'⟩
end
end Mw

namespace Mw
open PySem L2
/-! ### the kinds as the program tells them: names in their order -/
def oK (l : Ks) : Ks := (keysU l).map fun n => (n, kn l n)
theorem lk_map (f : Str → Str) (n : Str) : ∀ ns : List Str, lk (ns.map fun n => (n, f n)) n = if n ∈ ns then some (f n) else none
  | [] => rfl
  | x :: ns => by
    have ih := lk_map f n ns
    unfold lk at ih ⊢
    rw [List.map_cons, List.find?_cons]
    by_cases c : x = n
    · subst c
      simp
    · rw [show (decide ((x, f x).1 = n)) = false from decide_eq_false c]
      show Option.map _ (List.find? _ _) = _
      rw [ih]
      have : (n ∈ x :: ns) ↔ n ∈ ns := by rw [List.mem_cons]; exact or_iff_right fun e => c e.symm
      simp only [this]
theorem KsOk.memU {l : Ks} (h : KsOk l) {n : Str} : n ∈ keysU l ↔ hasK l n = true := by
  rw [has_mem]
  exact ⟨fun z => (srt_mem.mp z).2, fun z => srt_mem.mpr ⟨h.nm n z, z⟩⟩
theorem lk_oK {l : Ks} (h : KsOk l) (n : Str) : lk (oK l) n = if hasK l n = true then some (kn l n) else none := by
  unfold oK
  rw [lk_map]
  simp only [h.memU]
theorem has_oK {l : Ks} (h : KsOk l) (n : Str) : hasK (oK l) n = hasK l n := by
  rw [show hasK (oK l) n = (lk (oK l) n).isSome from rfl, lk_oK h]
  cases hasK l n <;> rfl
theorem oK_keys (l : Ks) : (kv (oK l)).map (·.1) = (keysU l).map Sum.inr := by
  rw [kv_keys]
  have e : (oK l).map (·.1) = keysU l := by
    unfold oK
    rw [List.map_map]
    exact List.map_id _
  rw [e]
theorem outK_oK (l : Ks) : outK l (keysU l) = kv (oK l) := rfl
def tU : List Str := ["any", "number", "text"]
theorem uni_t : Uni tU := ⟨by decide +kernel, by decide +kernel, by decide +kernel, by decide +kernel⟩
theorem k3_u : ∀ k ∈ kinds3, k ∈ tU := by decide +kernel
theorem srt_two : ∀ a ∈ kinds3, ∀ b ∈ kinds3, a ≠ b → (srt tU [a, b] = (["number", "text"] : List Str) ↔ (a ≠ "any" ∧ b ≠ "any")) := by decide +kernel
theorem two_sorted {a b : Str} {ys : List Str} (ha : a ∈ kinds3) (hb : b ∈ kinds3) (p : ys.Perm [a, b]) (s : PyProof.Rows.sortedS ys = true) : (ys = (["number", "text"] : List Str)) ↔ (a ≠ "any" ∧ b ≠ "any" ∧ a ≠ b) := by
  by_cases c : a = b
  · subst c
    constructor
    · intro e
      subst e
      have h1 : ("number" : Str) ∈ [a, a] := p.mem_iff.mp (by simp)
      have h2 : ("text" : Str) ∈ [a, a] := p.mem_iff.mp (by simp)
      simp only [List.mem_cons, List.not_mem_nil, or_false, or_self] at h1 h2
      rw [← h1] at h2
      exact absurd h2 (by decide)
    · rintro ⟨_, _, h⟩
      exact absurd rfl h
  · have e := srt_eq uni_t p (by simp [c]) (fun n hn => by
      simp only [List.mem_cons, List.not_mem_nil, or_false] at hn
      rcases hn with rfl | rfl
      · exact k3_u _ ha
      · exact k3_u _ hb) s
    rw [e, srt_two a ha b hb c]
    exact ⟨fun z => ⟨z.1, z.2, c⟩, fun z => ⟨z.1, z.2.1⟩⟩
def dStrs (ys : List Str) : PyData := .list (ys.map PyData.str)
theorem strs_dp {K : PySem.W.Frag} {H : Hp} : ∀ ys : List Str, DpAll K H (ys.map V.str) (ys.map PyData.str)
  | [] => .nil
  | _ :: ys => .cons (.str _) (strs_dp ys)
theorem strs_eqv : ∀ ys zs : List Str, PyData.eqv (dStrs ys) (dStrs zs) = decide (ys = zs) := by
  have all : ∀ ys zs : List Str, PyData.eqvAll (ys.map PyData.str) (zs.map PyData.str) = decide (ys = zs) := by
    intro ys
    induction ys with
    | nil => intro zs; cases zs <;> rfl
    | cons y ys ih =>
      intro zs
      cases zs with
      | nil => rfl
      | cons z zs =>
        show (PyData.eqv (.str y) (.str z) && PyData.eqvAll (ys.map PyData.str) (zs.map PyData.str)) = _
        rw [ih]
        show ((y == z) && decide (ys = zs)) = decide (y :: ys = z :: zs)
        by_cases h1 : y = z
        · by_cases h2 : ys = zs
          · simp [h1, h2]
          · simp [h1, h2]
        · simp [h1]
  intro ys zs
  exact all ys zs
theorem fn_calm {P : Program} {w : World} {K : PySem.W.Frag} {mg : Str → Option Value} {base : Heap} {k : Nat} {f : Addr} {fd : FuncData} {ps : List Str} {sp : Sp} (F : FnOk P w K mg base (L2.CX P w) k f fd ps sp) : FnOk P w K mg base CX0 k f fd ps (fun vs H Q _ => sp vs H Q E0) :=
  ⟨fun vs H Q _ h => F.len vs H Q E0 h, fun A outer s H args us vs Q E hr he hb hv h => codeAny_mono (F.run A outer s H args us vs Q E0 hr he hb hv h) fun r s' hq => by
    match r, hq with
    | .error e, hq =>
      obtain ⟨_, _, _, _, _, _, _, _, _, _, _, _, z⟩ := hq
      exact z
    | .ok (.ret u), hq => exact hq⟩
theorem lockS {t : TE} {i : Nat} {D : Ends} {σ : L2.St} {H : Hp} (h : tLockE t σ H fun x H' => D.nx (σ.set i (some x)) H') : tLock (tAsg t (gName i)) D σ H := h
theorem two_shaped : ∀ a ∈ kinds3, ∀ b ∈ kinds3, SeqAt.shaped (dStrs [a, b]) = true := by decide +kernel
theorem nt_shaped : SeqAt.shaped (dStrs ["number", "text"]) = true := by decide +kernel
theorem perm_shaped {a b : Str} {ys : List Str} (ha : a ∈ kinds3) (hb : b ∈ kinds3) (p : ys.Perm [a, b]) : SeqAt.shaped (dStrs ys) = true := by
  have hm : ∀ y ∈ ys, y ∈ kinds3 := fun y hy => by
    have := p.mem_iff.mp hy
    simp only [List.mem_cons, List.not_mem_nil, or_false] at this
    rcases this with rfl | rfl
    · exact ha
    · exact hb
  have hl := p.length_eq
  match ys, hl, hm with
  | [x, y], _, hm => exact two_shaped x (hm x (by simp)) y (hm y (by simp))
theorem mf_both (ls lm : Ks) : (((keysU lm).filter fun n => hasK ls n).filter fun n => unl ls lm n) = (keysU lm).filter fun n => unl ls lm n := by
  rw [List.filter_filter]
  congr 1
  funext n
  unfold unl
  cases hasK ls n <;> simp
theorem mf_len (ls lm : Ks) : ((keysU lm).filter fun n => !hasK ls n).length + ((keysU ls).filter fun n => !hasK lm n).length + ((keysU lm).filter fun n => unl ls lm n).length ≤ 15 := by
  have a1 := List.length_filter_le (fun n => !hasK ls n) (keysU lm)
  have a2 := List.length_filter_le (fun n => !hasK lm n) (keysU ls)
  have a3 := List.length_filter_le (fun n => unl ls lm n) (keysU lm)
  have := keysU_len lm
  have := keysU_len ls
  omega
section
variable {P : Program} {w : World} {K : PySem.W.Frag} {mg : Str → Option Value} {base : Heap}
abbrev sMf : Stmt := top 12
abbrev nMf : List Str := ["source", "message", "known", "kinds", "error", "name", "beyond", "without", "both", "unlike"]
theorem scMf : FnScope nMf ["source", "message"] (defScope sMf) := ⟨rfl, rfl, rfl, by decide +kernel, rfl, by decide +kernel, by decide +kernel⟩
def spMf : Sp := fun vs H Q _ => ∃ (a b : Addr) (ts tm : T) (ls : Ks), vs = [.ref a, .ref b] ∧ At H a ts ∧ At H b tm ∧ Wf ts false ∧ Wf tm false ∧ ts.sz < 80000 ∧ tm.sz < 80000 ∧ allNames ts ∧ allNames tm ∧ go [] ts.asks = .ok ls ∧
  ∀ r H' ws, H r = none → Same H H' → H' r = some (.lst ws) → AL H' (mfE ls tm) ws → Q (.ref r) H'
set_option maxHeartbeats 0 in
theorem ok_mf {f fK C : Addr} {fd fdK : FuncData} (F : Fun K "message_faults" "message_faults" sMf f fd) (GK : FnOk P w K mg base (L2.CX P w) 4 fK fdK ["message"] (spKinds C)) (bK : Binds K fdK ["message"] []) (kK : PySem.W.keepIn K (.ref fK) = true) (mK : mg "kinds_of" = some (.ref fK)) (ms : mg "sorted" = none)
    (mB : mg "BadMessage" = some (.ref C)) (Xf : XfC K C) (no : PySem.W.findIn K (.ref C) "name" = some none) (ex : PySem.W.exmOne K (.ref C) (.ref C) = some true) :
    FnOk P w K mg base CX0 5 f fd ["source", "message"] spMf := by
  have GK0 := fn_calm GK
  refine F.ok scMf (fun vs H Q E h => ?_) (fun cdv A outer s H vs Q E hr h => ?_)
  · obtain ⟨a, b, ts, tm, ls, rfl, _⟩ := h
    rfl
  obtain ⟨a, b, ts, tm, ls, rfl, has, ham, ws, wm, zs, zm, ns, nm, hls, q⟩ := h
  have nd := scMf.nd
  have hu := hu_of hr
  refine ⟨_, (pss_cons (ps_set (i := 2) nd rfl (.inr rfl) (pe_call GK0 hr rfl mK kK bK .nil pass0 (pa_cons (pv 0) pa_nil)))
      (pss_cons (ps_try_as (i := 4) (tb := fun W => tAsg (tCallS (spKinds C) (WE W) (tCons (tVar 1) tNil)) (gName 3)) (ts := fun a cls d => tRet (tLst (tCons (tTup (tCons (tC (.str "bad")) (tCons (tXf a cls d C "name" (tVar 4)) tNil))) tNil))) (Wout := fun _ _ _ _ => False) rfl rfl nd rfl rfl ⟨rfl, by decide, .inl mB⟩ takes0 (fun W pn xe tk _ => pss_one (ps_set (i := 3) nd rfl (.inr rfl) (pe_callS GK (hr.mono (by decide)) rfl mK kK bK (fun σ => passAt tk σ) (by exact (pa_cons (pv 1) pa_nil))))) (fun a oe cls d pn hz hf => pss_one (ps_ret (pe_lst (pa_cons (pe_tup (pa_cons pe_str (pa_cons (by exact (pe_xf Xf no hz hf (pv 4))) pa_nil))) pa_nil)))))
      (pss_cons (ps_lock (ps_setLc (i := 6) (own := [("name", 5)]) (g := (gName 5))   rfl nd rfl rfl (sw_true rfl rfl rfl (by decide +kernel)) (pi_keys (pv 3)) (blkOk_by (N := nMf) (sc := defScope sMf) (by decide +kernel)) (fun _ _ _ _ _ => (pg_name (i := 5) nd rfl (.inl rfl))) (fun _ _ _ _ _ => (pts_one (pt_cmp (pc_dnotin hu (pv 5) (pv 2))))) (fun _ _ _ _ _ => (pe_tup (pa_cons pe_str (pa_cons (pv 5) pa_nil))))))
      (pss_cons (ps_lock (ps_setLc (i := 7) (own := [("name", 5)]) (g := (gName 5))   rfl nd rfl rfl (sw_true rfl rfl rfl (by decide +kernel)) (pi_keys (pv 2)) (blkOk_by (N := nMf) (sc := defScope sMf) (by decide +kernel)) (fun _ _ _ _ _ => (pg_name (i := 5) nd rfl (.inl rfl))) (fun _ _ _ _ _ => (pts_one (pt_cmp (pc_dnotin hu (pv 5) (pv 3))))) (fun _ _ _ _ _ => (pe_tup (pa_cons pe_str (pa_cons (pv 5) pa_nil))))))
      (pss_cons (ps_lock (ps_setLc (i := 8) (own := [("name", 5)]) (g := (gName 5))   rfl nd rfl rfl (sw_true rfl rfl rfl (by decide +kernel)) (pi_keys (pv 3)) (blkOk_by (N := nMf) (sc := defScope sMf) (by decide +kernel)) (fun _ _ _ _ _ => (pg_name (i := 5) nd rfl (.inl rfl))) (fun _ _ _ _ _ => (pts_one (pt_cmp (pc_din hu (pv 5) (pv 2))))) (fun _ _ _ _ _ => (pv 5))))
      (pss_cons (ps_setLc (i := 9) (own := [("name", 5)]) (g := (gName 5))  (tt := tTest (tOp (rEqD K) (tCB (rSortedS K) (tCons (tLst (tCons (tDGet (tVar 3) (tVar 5)) (tCons (tDGet (tVar 2) (tVar 5)) tNil))) tNil)) (tLst (tCons (tC (.str "number")) (tCons (tC (.str "text")) tNil))))) rfl nd rfl rfl (sw_true rfl rfl rfl (by decide +kernel)) (pi_list (pv 8)) (blkOk_by (N := nMf) (sc := defScope sMf) (by decide +kernel)) (fun _ _ _ _ _ => (pg_name (i := 5) nd rfl (.inl rfl))) (fun _ _ _ _ _ => (pts_one (pt_cmpR (op_eqD hr.units) (pe_callB cr_sortedS (by rfl) ms (by decide +kernel) (pa_cons (pe_lst (pa_cons (pe_dget hu (pv 3) (pv 5) (fun _ _ => rfl)) (pa_cons (pe_dget hu (pv 2) (pv 5) (fun _ _ => rfl)) pa_nil))) pa_nil)) (pe_lst (pa_cons pe_str (pa_cons pe_str pa_nil))) (nomark _)))) (fun _ _ _ _ _ => (pe_tup (pa_cons pe_str (pa_cons (pv 5) pa_nil)))))
      (pss_one (ps_ret (pe_op op_cat (pe_op op_cat (pv 6) (pv 7)) (pv 9)))))))))), ?_⟩
  have oks := ks_ok hls ns
  refine ⟨_, rfl, a, ts, rfl, has, ws, zs, ns, fun l hl d H1 ys hd s1 hp hs hd1 => ?_, fun n hn => by rw [hls] at hn; cases hn⟩
  obtain rfl : ls = l := by
    rw [hls] at hl
    injection hl
  obtain rfl := oks.srt hp hs
  refine ⟨_, rfl, b, tm, rfl, ham.same s1, wm, zm, nm, fun lm hlm d2 H2 ys2 hd2 s2 hp2 hs2 h2 => ?_, fun n hn dx H2 hdx s2 hx => ?_⟩
  rotate_left
  · refine ⟨true, ex, fun _ e he => ?_, fun z => Bool.noConfusion z⟩
    refine ⟨_, rfl, rfl, rfl, dx, _, _, rfl, hx, rfl, by show 2 ≤ sizeLine; decide, fun tp htp => ⟨by show 1 ≤ sizeLine; decide, fun rr hrr => ?_⟩⟩
    have s3 : Same H2 (upd H2 tp (.tup [.str "bad", .str n])) := same_new htp _
    have s4 : Same (upd H2 tp (.tup [.str "bad", .str n])) (upd (upd H2 tp (.tup [.str "bad", .str n])) rr (.lst [.ref tp])) := same_new hrr _
    refine q rr _ [.ref tp] ((s1.trans s2).free (s3.free hrr)) (((s1.trans s2).trans s3).trans s4) upd_same ?_
    unfold mfE
    rw [hn]
    exact ⟨tp, [], rfl, s4 _ _ upd_same, rfl⟩
  have okm := ks_ok hlm nm
  obtain rfl := okm.srt hp2 hs2
  have hd1' : H1 d = some (.dK (kv (oK ls))) := hd1
  have hd2' : H2 d = some (.dK (kv (oK ls))) := s2 _ _ hd1'
  have h2' : H2 d2 = some (.dK (kv (oK lm))) := h2
  have ndd : d ≠ d2 := ne_of_none hd1' hd2
  have km5 := keysU_len lm
  have ks5 := keysU_len ls
  have sH2 := s1.trans s2
  have ml := mf_len ls lm
  refine lockS (lc_keys (R := rowT "beyond") (fun n => !hasK ls n) (fun n => [some (.ref a), some (.ref b), some (.ref d), some (.ref d2), none, some (.str n), none, none, none, none]) (fun _ _ k => rowT_mono k) h2' (oK_keys lm) (by omega) (fun H Z z => ⟨_, rfl, z⟩) (fun _ _ _ h => h) (fun _ => rfl) ?_ ?_ ?_)
  · intro od n H' Qb hn s' k
    refine ⟨_, rfl, _, rfl, d, _, rfl, dget_kv (.inl (s' _ _ (by rw [upd_ne ndd]; exact hd2'))) n, _, rfl, ?_⟩
    rw [has_some, has_oK oks]
    exact k H' (Same.refl _)
  · intro od n H' Qe hn hp' s' k
    exact ⟨_, rfl, by show 2 ≤ sizeLine; decide, fun tp htp => k _ _ (same_new htp _) ⟨tp, rfl, upd_same⟩⟩
  intro D1 H3 v1 hD1 s3 hv1 hr1
  have t1 := hr1.tags
  refine lockS (lc_keys (R := rowT "without") (fun n => !hasK lm n) (fun n => [some (.ref a), some (.ref b), some (.ref d), some (.ref d2), none, some (.str n), some (.ref D1), none, none, none]) (fun _ _ k => rowT_mono k) (s3 _ _ hd2') (oK_keys ls) (by omega) (fun H Z z => ⟨_, rfl, z⟩) (fun _ _ _ h => h) (fun _ => rfl) ?_ ?_ ?_)
  · intro od n H' Qb hn s' k
    refine ⟨_, rfl, _, rfl, d2, _, rfl, dget_kv (.inl (s' _ _ (by rw [upd_ne ndd.symm]; exact s3 _ _ h2'))) n, _, rfl, ?_⟩
    rw [has_some, has_oK okm]
    exact k H' (Same.refl _)
  · intro od n H' Qe hn hp' s' k
    exact ⟨_, rfl, by show 2 ≤ sizeLine; decide, fun tp htp => k _ _ (same_new htp _) ⟨tp, rfl, upd_same⟩⟩
  intro D2 H4 v2 hD2 s4 hv2 hr2
  have t2 := hr2.tags
  have s34 := s3.trans s4
  refine lockS (lc_keys (R := rowN) (fun n => hasK ls n) (fun n => [some (.ref a), some (.ref b), some (.ref d), some (.ref d2), none, some (.str n), some (.ref D1), some (.ref D2), none, none]) (fun _ _ _ _ _ h => h) (s34 _ _ h2') (oK_keys lm) (by omega) (fun H Z z => ⟨_, rfl, z⟩) (fun _ _ _ h => h) (fun _ => rfl) ?_ ?_ ?_)
  · intro od n H' Qb hn s' k
    refine ⟨_, rfl, _, rfl, d, _, rfl, dget_kv (.inl (s' _ _ (by rw [upd_ne ndd]; exact s34 _ _ hd2'))) n, _, rfl, ?_⟩
    rw [has_some, has_oK oks]
    exact k H' (Same.refl _)
  · intro od n H' Qe hn hp' s' k
    exact ⟨_, rfl, k _ _ (Same.refl _) rfl⟩
  intro D3 H5 v3 hD3 s5 hv3 hr3
  have s35 := s34.trans s5
  rw [hr3.names] at hv3
  have fl3 := List.length_filter_le (fun n => hasK ls n) (keysU lm)
  refine ⟨_, rfl, D3, rfl, ⟨_, SqL.of hv3⟩, fun D4 hD4 => ?_⟩
  refine lc_strs (R := rowT "unlike") (fun n => unl ls lm n) (fun n => [some (.ref a), some (.ref b), some (.ref d), some (.ref d2), none, some (.str n), some (.ref D1), some (.ref D2), some (.ref D3), none]) (fun _ _ k => rowT_mono k) hv3 hD4 (by omega) (fun _ _ _ h => h) (fun _ => rfl) ?_ ?_ ?_
  · intro n H' Qb hn s' k
    obtain ⟨hn1, hn2⟩ := List.mem_filter.mp hn
    have hm : hasK lm n = true := okm.memU.mp hn1
    have km : kn lm n ∈ kinds3 := lk_k okm.kd n
    have ks : kn ls n ∈ kinds3 := lk_k oks.kd n
    have dm1 := dget_kv (H := H') (d := d2) (l := oK lm) (.inl (s' _ _ (s35 _ _ h2'))) n
    have ds1 := dget_kv (H := H') (d := d) (l := oK ls) (.inl (s' _ _ (s35 _ _ hd2'))) n
    rw [lk_oK okm, if_pos hm] at dm1
    rw [lk_oK oks, if_pos hn2] at ds1
    refine ⟨_, rfl, _, rfl, d2, _, rfl, dm1, _, rfl, _, rfl, d, _, rfl, ds1, by show 2 ≤ sizeLine; decide, fun p1 hp1 => ⟨p1, [kn lm n, kn ls n], rfl, SqL.of upd_same, by show 2 < 64; decide, fun ys p2 hpm hso hp2 => ⟨by show 2 ≤ sizeLine; decide, fun p3 hp3 => ?_⟩⟩⟩
    have s6 : Same H' (upd H' p1 (.lst [.str (kn lm n), .str (kn ls n)])) := same_new hp1 _
    have s7 : Same (upd H' p1 (.lst [.str (kn lm n), .str (kn ls n)])) (upd (upd H' p1 (.lst [.str (kn lm n), .str (kn ls n)])) p2 (.lst (ys.map V.str))) := same_new hp2 _
    have s8 := same_new (H := upd (upd H' p1 (.lst [.str (kn lm n), .str (kn ls n)])) p2 (.lst (ys.map V.str))) hp3 (.lst [.str "number", .str "text"])
    refine ⟨dStrs ys, dStrs ["number", "text"], .lst (SqL.of (s8 _ _ upd_same)) (strs_dp ys), .lst (SqL.of upd_same) (strs_dp ["number", "text"]), perm_shaped km ks hpm, nt_shaped, _, rfl, ?_⟩
    rw [strs_eqv]
    have e : decide (ys = (["number", "text"] : List Str)) = unl ls lm n := by
      have z := two_sorted km ks hpm hso
      unfold unl
      rw [hn2, Bool.true_and]
      by_cases c : ys = (["number", "text"] : List Str)
      · rw [decide_eq_true c]
        obtain ⟨z1, z2, z3⟩ := z.mp c
        simp [z1, z2, z3]
      · rw [decide_eq_false c]
        by_cases c1 : kn lm n = "any"
        · simp [c1]
        · by_cases c2 : kn ls n = "any"
          · simp [c2]
          · have c3 : kn lm n = kn ls n := Classical.byContradiction fun c3 => c (z.mpr ⟨c1, c2, c3⟩)
            simp [c3]
    rw [e]
    exact k _ ((s6.trans s7).trans s8)
  · intro n H' Qe hn hp' s' k
    exact ⟨_, rfl, by show 2 ≤ sizeLine; decide, fun tp htp => k _ _ (same_new htp _) ⟨tp, rfl, upd_same⟩⟩
  intro H6 v4 s6 hv4 hr4
  have t4 := hr4.tags
  rw [mf_both] at t4
  have l1 := hr1.length
  have l2 := hr2.length
  have l4 := hr4.length
  rw [mf_both] at l4
  have s46 := (s4.trans s5).trans s6
  have s56 := s5.trans s6
  refine ⟨_, rfl, _, rfl, D1, D2, v1, v2, rfl, rfl, s46 _ _ hv1, s56 _ _ hv2, le_line (by omega), fun l3 hl3 => ⟨_, rfl, l3, D4, v1 ++ v2, v4, rfl, rfl, upd_same, ?_, le_line (by rw [List.length_append]; omega), fun l4 hl4 => ?_⟩⟩
  · exact same_new hl3 _ _ _ hv4
  have s7 : Same H6 (upd H6 l3 (.lst (v1 ++ v2))) := same_new hl3 _
  have s8 := same_new (H := upd H6 l3 (.lst (v1 ++ v2))) hl4 (.lst (v1 ++ v2 ++ v4))
  have sAll := ((sH2.trans s35).trans s6).trans (s7.trans s8)
  refine q l4 _ _ ((((sH2.trans s35).trans s6).trans s7).free hl4) sAll upd_same ?_
  unfold mfE
  rw [hlm]
  have s78 := s7.trans s8
  exact AL.app (t4.mono (Tk.of s78)) (AL.app (t2.mono (Tk.of (s56.trans s78))) (t1.mono (Tk.of (s46.trans s78))))
end
end Mw

namespace Mw
open PySem L2
/-! ### dicts of messages -/
abbrev Msgs := List (Str × T)
def Ents (H : Hp) : Msgs → List (L2.Key × V) → Prop
  | [], kvs => kvs = []
  | p :: S, kvs => ∃ a r, kvs = (Sum.inr p.1, .ref a) :: r ∧ At H a p.2 ∧ Ents H S r
def Dm (H : Hp) (d : Addr) (S : Msgs) : Prop := ∃ kvs, H d = some (.dK kvs) ∧ Ents H S kvs
def lkT (S : Msgs) (k : Str) : Option T := (S.find? fun p => decide (p.1 = k)).map (·.2)
theorem Ents.mono {H H' : Hp} (h : ∀ a t, At H a t → At H' a t) : ∀ {S : Msgs} {kvs : List (L2.Key × V)}, Ents H S kvs → Ents H' S kvs
  | [], _, e => e
  | _ :: _, _, ⟨a, r, e, x, y⟩ => ⟨a, r, e, h _ _ x, Ents.mono h y⟩
theorem Dm.same {H H' : Hp} {d : Addr} {S : Msgs} (s : Same H H') (h : Dm H d S) : Dm H' d S := by
  obtain ⟨kvs, a, b⟩ := h
  exact ⟨kvs, s _ _ a, b.mono fun _ _ z => z.same s⟩
theorem Ents.keys {H : Hp} : ∀ {S : Msgs} {kvs : List (L2.Key × V)}, Ents H S kvs → kvs.map (·.1) = (S.map (·.1)).map Sum.inr
  | [], _, e => by rw [show _ = [] from e]; rfl
  | _ :: _, _, ⟨a, r, e, x, y⟩ => by rw [e, List.map_cons, Ents.keys y]; rfl
theorem Ents.get {H : Hp} {k : Str} : ∀ {S : Msgs} {kvs : List (L2.Key × V)}, Ents H S kvs → (∀ t, lkT S k = some t → ∃ a, valV kvs (Sum.inr k) = some (.ref a) ∧ At H a t) ∧ (lkT S k = none → valV kvs (Sum.inr k) = none)
  | [], _, e => by
    rw [show _ = [] from e]
    exact ⟨fun t h => absurd h (by simp [lkT]), fun _ => rfl⟩
  | p :: S, _, ⟨a, r, e, x, y⟩ => by
    obtain ⟨g1, g2⟩ := Ents.get (k := k) y
    subst e
    unfold lkT at g1 g2 ⊢
    rw [List.find?_cons]
    by_cases c : p.1 = k
    · rw [decide_eq_true c]
      refine ⟨fun t h => ⟨a, ?_, ?_⟩, fun h => by cases h⟩
      · unfold valV
        rw [List.find?_cons]
        simp [c]
      · injection h with h
        rw [← h]
        exact x
    · rw [decide_eq_false c]
      have e : valV ((Sum.inr p.1, V.ref a) :: r) (Sum.inr k) = valV r (Sum.inr k) := by
        unfold valV
        rw [List.find?_cons]
        simp [c]
      rw [e]
      exact ⟨g1, g2⟩
theorem lkT_mem {S : Msgs} {k : Str} {t : T} (h : lkT S k = some t) : (k, t) ∈ S := by
  unfold lkT at h
  cases e : S.find? fun p => decide (p.1 = k) with
  | none => rw [e] at h; cases h
  | some p =>
    rw [e] at h
    injection h with h
    have h1 := List.mem_of_find?_eq_some e
    have h2 := List.find?_some e
    rw [← of_decide_eq_true h2, ← h]
    exact h1
theorem lkT_none {S : Msgs} {k : Str} : lkT S k = none ↔ k ∉ S.map (·.1) := by
  unfold lkT
  rw [Option.map_eq_none_iff, List.find?_eq_none]
  constructor
  · intro h z
    obtain ⟨p, hp, e⟩ := List.mem_map.mp z
    exact h p hp (decide_eq_true e)
  · intro h p hp z
    exact h (List.mem_map.mpr ⟨p, hp, of_decide_eq_true z⟩)
theorem Dm.dget {H : Hp} {d : Addr} {S : Msgs} (h : Dm H d S) (k : Str) : (∀ t, lkT S k = some t → ∃ a, DGet H d (.str k) (some (.ref a)) ∧ At H a t) ∧ (lkT S k = none → DGet H d (.str k) none) := by
  obtain ⟨kvs, e, en⟩ := h
  obtain ⟨g1, g2⟩ := en.get (k := k)
  refine ⟨fun t ht => ?_, fun hn => .inl ⟨kvs, Sum.inr k, .inl e, rfl, (g2 hn).symm⟩⟩
  obtain ⟨a, h1, h2⟩ := g1 t ht
  exact ⟨a, .inl ⟨kvs, Sum.inr k, .inl e, rfl, h1.symm⟩, h2⟩
/-- a message that the law makes -/
structure Gt (t : T) : Prop where
  wf : Wf t false
  sok : SOk t
  sz : t.sz < 2000
  nm : allNames t
  dp : t.dep ≤ 2
def GoodM (M : Msgs) : Prop := ∀ p ∈ M, Gt p.2
def GoodS (S : Msgs) : Prop := ∀ p ∈ S, Gt p.2 ∧ ∃ ls, go [] p.2.asks = .ok ls
/-! ### faults with or without a name -/
abbrev Fo := Str × Option Str
def oV : Option Str → V
  | some s => .str s
  | none => .non
def AO (H : Hp) : List Fo → List V → Prop
  | [], vs => vs = []
  | q :: qs, vs => ∃ a ws, vs = .ref a :: ws ∧ H a = some (.tup [.str q.1, oV q.2]) ∧ AO H qs ws
def foL (l : List (Str × Str)) : List Fo := l.map fun q => (q.1, some q.2)
theorem AL.ao {H : Hp} : ∀ {qs : List (Str × Str)} {vs : List V}, AL H qs vs → AO H (foL qs) vs
  | [], _, h => h
  | _ :: _, _, h => by
    obtain ⟨a, ws, e, h1, h2⟩ := h
    exact ⟨a, ws, e, h1, AL.ao h2⟩
theorem AO.mono {H H' : Hp} (k : Tk H H') : ∀ {qs : List Fo} {vs : List V}, AO H qs vs → AO H' qs vs
  | [], _, h => h
  | _ :: _, _, ⟨a, ws, e, h, r⟩ => ⟨a, ws, e, k _ _ h, AO.mono k r⟩
theorem AO.length {H : Hp} : ∀ {qs : List Fo} {vs : List V}, AO H qs vs → vs.length = qs.length
  | [], _, h => by rw [show _ = [] from h]; rfl
  | _ :: _, _, ⟨a, ws, e, h, r⟩ => by rw [e, List.length_cons, List.length_cons, AO.length r]
theorem AO.get {H : Hp} : ∀ {qs : List Fo} {vs : List V} {i : Nat} {v : V}, AO H qs vs → vs[i]? = some v → ∃ q a, qs[i]? = some q ∧ v = .ref a ∧ H a = some (.tup [.str q.1, oV q.2])
  | [], _, i, v, h, e => by
    rw [show _ = [] from h] at e
    cases e
  | q :: qs, _, 0, v, ⟨a, ws, e', h, r⟩, e => by
    subst e'
    injection e with e
    exact ⟨q, a, rfl, e.symm, h⟩
  | q :: qs, _, i + 1, v, ⟨a, ws, e', h, r⟩, e => by
    subst e'
    exact AO.get (i := i) r e
def mfT (ts tm : T) : List (Str × Str) := match go [] ts.asks with
  | .ok ls => mfE ls tm
  | .error _ => []
def fa (S M : Msgs) (k : Str) : List Fo := match lkT M k with
  | none => [("lacks", none)]
  | some tm => match lkT S k with
    | none => [("more", none)]
    | some ts => foL (mfT ts tm)
theorem mfE_len (ls : Ks) (tm : T) : (mfE ls tm).length ≤ 15 := by
  unfold mfE
  split
  · rename_i lm _
    have := mf_len ls lm
    unfold mf tag
    rw [List.length_append, List.length_append, List.length_map, List.length_map, List.length_map]
    omega
  · show 1 ≤ 15
    decide
theorem fa_len (S M : Msgs) (k : Str) : (fa S M k).length ≤ 15 := by
  unfold fa
  split
  · show 1 ≤ 15
    decide
  · split
    · show 1 ≤ 15
      decide
    · unfold foL mfT
      rw [List.length_map]
      split
      · exact mfE_len _ _
      · exact Nat.zero_le _
section
variable {P : Program} {w : World} {K : PySem.W.Frag} {mg : Str → Option Value} {base : Heap}
abbrev sFa : Stmt := top 13
theorem scFa : FnScope ["source", "messages", "key"] ["source", "messages", "key"] (defScope sFa) := ⟨rfl, rfl, rfl, by decide +kernel, rfl, by decide +kernel, by decide +kernel⟩
def spFa : Sp := fun vs H Q _ => ∃ (d e : Addr) (S M : Msgs) (k : Str), vs = [.ref d, .ref e, .str k] ∧ Dm H d S ∧ Dm H e M ∧ GoodS S ∧ GoodM M ∧
  ∀ r H' ws, H r = none → Same H H' → H' r = some (.lst ws) → AO H' (fa S M k) ws → Q (.ref r) H'
set_option maxHeartbeats 0 in
theorem ok_fa {f fM : Addr} {fd fdM : FuncData} (F : Fun K "faults_at" "faults_at" sFa f fd) (GM : FnOk P w K mg base CX0 5 fM fdM ["source", "message"] spMf) (bM : Binds K fdM ["source", "message"] []) (kM : PySem.W.keepIn K (.ref fM) = true) (mM : mg "message_faults" = some (.ref fM)) :
    FnOk P w K mg base CX0 6 f fd ["source", "messages", "key"] spFa := by
  refine F.ok scFa (fun vs H Q E h => ?_) (fun cdv A outer s H vs Q E hr h => ?_)
  · obtain ⟨d, e, S, M, k, rfl, _⟩ := h
    rfl
  obtain ⟨d, e, S, M, k, rfl, hS, hM, gS, gM, q⟩ := h
  have nd := scFa.nd
  have hu := hu_of hr
  refine ⟨_, (pss_cons (ps_if (pt_cmp (pc_dnotin hu (pv 2) (pv 1))) (pss_one (ps_ret (pe_lst (pa_cons (pe_tup (pa_cons pe_str (pa_cons pe_non pa_nil))) pa_nil)))) pss_nil)
      (pss_cons (ps_if (pt_cmp (pc_dnotin hu (pv 2) (pv 0))) (pss_one (ps_ret (pe_lst (pa_cons (pe_tup (pa_cons pe_str (pa_cons pe_non pa_nil))) pa_nil)))) pss_nil)
      (pss_one (ps_ret (pe_call GM hr rfl mM kM bM .nil pass0 (pa_cons (pe_dget hu (pv 0) (pv 2) (fun _ _ => rfl)) (pa_cons (pe_dget hu (pv 1) (pv 2) (fun _ _ => rfl)) pa_nil))))))), ?_⟩
  have one : ∀ word : Str, fa S M k = [(word, none)] → ∀ tp, H tp = none → ∀ r, upd H tp (.tup [.str word, .non]) r = none → Q (.ref r) (upd (upd H tp (.tup [.str word, .non])) r (.lst [.ref tp])) := fun word hf tp htp r hr => by
    have s1 : Same H (upd H tp (.tup [.str word, .non])) := same_new htp _
    have s2 : Same (upd H tp (.tup [.str word, .non])) (upd (upd H tp (.tup [.str word, .non])) r (.lst [.ref tp])) := same_new hr _
    refine q r _ [.ref tp] (s1.free hr) (s1.trans s2) upd_same ?_
    rw [hf]
    exact ⟨tp, [], rfl, s2 _ _ upd_same, rfl⟩
  cases em : lkT M k with
  | none =>
    refine ⟨_, rfl, _, rfl, e, _, rfl, (hM.dget k).2 em, _, rfl, iteT ⟨by show 2 ≤ sizeLine; decide, fun tp htp => ⟨by show 1 ≤ sizeLine; decide, fun r hr => one "lacks" ?_ tp htp r hr⟩⟩⟩
    unfold fa
    rw [em]
  | some tm =>
    obtain ⟨am, hm1, hm2⟩ := (hM.dget k).1 tm em
    refine ⟨_, rfl, _, rfl, e, _, rfl, hm1, _, rfl, iteF ?_⟩
    cases es : lkT S k with
    | none =>
      refine ⟨_, rfl, _, rfl, d, _, rfl, (hS.dget k).2 es, _, rfl, iteT ⟨by show 2 ≤ sizeLine; decide, fun tp htp => ⟨by show 1 ≤ sizeLine; decide, fun r hr => one "more" ?_ tp htp r hr⟩⟩⟩
      unfold fa
      rw [em, es]
    | some ts =>
      obtain ⟨as, hs1, hs2⟩ := (hS.dget k).1 ts es
      obtain ⟨g1, ls, hls⟩ : Gt ts ∧ ∃ ls, go [] ts.asks = .ok ls := gS _ (lkT_mem es)
      have g2 : Gt tm := gM _ (lkT_mem em)
      refine ⟨_, rfl, _, rfl, d, _, rfl, hs1, _, rfl, iteF ⟨_, rfl, _, rfl, d, _, rfl, hs1, _, rfl, _, rfl, e, _, rfl, hm1, ?_⟩⟩
      have z1 := g1.sz
      have z2 := g2.sz
      refine ⟨as, am, ts, tm, ls, rfl, hs2, hm2, g1.wf, g2.wf, by omega, by omega, g1.nm, g2.nm, hls, fun r H' ws hr s' hw hA => q r H' ws hr s' hw ?_⟩
      unfold fa mfT
      rw [em, es]
      show AO H' (foL (match go [] ts.asks with | .ok ls => mfE ls tm | .error _ => [])) ws
      rw [hls]
      exact hA.ao
end
end Mw

noncomputable section
/-! {**a, **b} -/
namespace Dm
open PySem PySem.Spec PyProof.Rows L2
section
variable {P : Program} {w : World} {K : Type} [DecidableEq K] {knd : KeyKind P w K} {A : Around} {E : Value → Shared → Prop} {s : Shared}
theorem put_at {d : Addr} {kvs : List (K × Value)} {k : K} {key v : Value} {Q : Unit → Shared → Prop} (hkey : knd.is k key = true) (hm : s.heap.DictOf knd d kvs) (hz : kvs.length ≤ sizeLine)
    (q : ∀ h', h'.DictOf knd d (stored kvs k v) → Heap.SameBut d s.heap h' → Q () { s with heap := h' }) : wpAny (model P w) A (dictPut d (knd.hash k) key v) Q E s := by
  obtain ⟨o, es, ep, ho, hc, hd, hk, hp, hn⟩ := hm
  have sz : es.size ≤ sizeLine := by
    have e1 := hp.length
    rw [Array.length_toList] at e1
    omega
  have ix : (es.findIdx? fun e => knd.is k e.key) = kvs.findIdx? fun kv => decide (kv.1 = k) := by
    rw [← hp.findIdx k]; obtain ⟨l⟩ := es; simp
  unfold dictPut
  refine wpAny_bind (wpAny_dictFind_of hkey ho hd hk ?_)
  cases hi : es.findIdx? fun e => knd.is k e.key with
  | some i =>
    have ha : (kvs.any fun kv => decide (kv.1 = k)) = true := any_of_findIdx_some (ix ▸ hi)
    refine wpAny_updateDict ho hd (q _ ⟨_, _, ep, Heap.get?_update_self _ ho (Obj.isFreed_of_dict (Obj.data_mapDict hd _)), hc.mapDict _, Obj.data_mapDict hd _, hk.modify _ _, ?_, ?_⟩ (Heap.SameBut.update ..))
    · rw [stored, if_pos ha]
      have hl : (es.toList.findIdx? fun e => knd.is k e.key) = some i := by rw [← hi]; obtain ⟨l⟩ := es; simp
      have y := hp.modify hn hl v
      obtain ⟨l⟩ := es
      simpa using y
    · rw [stored, if_pos ha, keys_map_store]; exact hn
  | none =>
    have hno : k ∉ kvs.map (·.1) := not_mem_of_findIdx_none (ix ▸ hi)
    have ha : ¬ (kvs.any fun kv => decide (kv.1 = k)) = true := fun z => by
      obtain ⟨kv, h1, h2⟩ := List.any_eq_true.mp z
      exact hno (List.mem_map.mpr ⟨kv, h1, of_decide_eq_true h2⟩)
    refine wpAny_updateDictKeys (hz := sz) ho hd (q _ ⟨_, _, ep + 1, Heap.get?_update_self _ ho (Obj.isFreed_of_dict (Obj.data_mapDictKeys hd _)), hc.mapDictKeys _, Obj.data_mapDictKeys hd _, hk.push hkey _, ?_, ?_⟩ (Heap.SameBut.update ..))
    · rw [stored, if_neg ha]
      have y := hp.append hkey (knd.hash k) v
      obtain ⟨l⟩ := es
      simpa using y
    · rw [stored, if_neg ha, List.map_append, List.nodup_append]
      refine ⟨hn, by simp, fun a h1 b h2 => ?_⟩
      simp only [List.map_cons, List.map_nil, List.mem_singleton] at h2
      subst h2
      exact fun e => hno (e ▸ h1)
set_option maxHeartbeats 1000000 in
theorem merge_at (hr : ∀ k v, knd.is k v = true → ∀ a, v ≠ .ref a) {d a : Addr} {kvs more : List (K × Value)} {Q : Unit → Shared → Prop} (hda : d ≠ a) (haS : (a == sysModules) = false) (hd : s.heap.DictOf knd d kvs) (ha : s.heap.DictOf knd a more)
    (hz : kvs.length + more.length ≤ sizeLine)
    (q : ∀ h', h'.DictOf knd d (merged kvs more) → Heap.SameBut d s.heap h' → Q () { s with heap := h' }) : wpAny (model P w) A (mergeMapping d (.ref a) false) Q E s := by
  obtain ⟨od, esd, epd, hod, hcd, hdd, hkd, hpd, hnd⟩ := id hd
  obtain ⟨oa, es, ep, hoa, hca, hdt, hk, hp, hn⟩ := id ha
  have hlen : more.length = es.size := by
    have e1 := hp.length
    rw [Array.length_toList] at e1
    exact e1.symm
  unfold mergeMapping
  refine wpAny_bind (wpAny_isInstance ha.typeIs isSubtype_dict_dict ?_)
  simp only [↓reduceIte]
  refine wpAny_bind (wpAny_specialOf ha.typeIs F.slot_dict_iter.lookup (wpAny_bind (wpAny_pure ?_)))
  simp only [beq_self_eq_true]
  rw [if_neg (by rw [haS]; exact Bool.false_ne_true)]
  refine wpAny_bind (wpAny_dictEntries hod hdd ?_)
  have nref : ∀ e ∈ es.toList, ∀ z, e.key ≠ .ref z := fun e he z => by
    obtain ⟨k, h1, _⟩ := hk e (Array.mem_toList_iff.mp he)
    exact hr k _ h1 z
  have tail : ∀ {f : Nat → PUnit → Sem (ForInStep PUnit)} (_ : ∀ i s1 h1, s1 = { s with heap := h1 } → i < es.size → h1.DictOf knd d (merged kvs (more.take i)) → h1.get? a = some oa → Heap.SameBut d s.heap h1 →
      wpAny (model P w) A (f i PUnit.unit) (fun r s' => r = .yield PUnit.unit ∧ ∃ h2, s' = { s with heap := h2 } ∧ h2.DictOf knd d (merged kvs (more.take (i + 1))) ∧ h2.get? a = some oa ∧ Heap.SameBut d s.heap h2) E s1),
      wpAny (model P w) A (do forIn (List.range es.size) PUnit.unit f; pure ()) Q E s := fun {f} hf => by
    rw [List.range_eq_range']
    refine wpAny_bind (wpAny_forIn_list _ (fun rest _ s' => ∃ h' i, s' = { s with heap := h' } ∧ rest = List.range' i (es.size - i) ∧ i ≤ es.size ∧ h'.DictOf knd d (merged kvs (more.take i)) ∧ h'.get? a = some oa ∧ Heap.SameBut d s.heap h')
      _ ?_ ?_ _ _ ⟨s.heap, 0, rfl, by rw [Nat.sub_zero], Nat.zero_le _, by simpa [merged] using hd, hoa, Heap.SameBut.refl _ _⟩)
    · rintro x rest ⟨⟩ s' ⟨h', i, rfl, e, hi, y1, y2, y3⟩
      have lt : i < es.size := by
        refine Nat.lt_of_not_le fun z => ?_
        rw [Nat.sub_eq_zero_of_le z] at e
        simp at e
      have e2 : es.size - i = (es.size - (i + 1)) + 1 := by omega
      rw [e2, List.range'_succ] at e
      injection e with e3 e4
      subst e3
      refine wpAny_mono (hf x _ h' rfl lt y1 y2 y3) (fun r s2 ⟨hr2, h2, hs2, y4, y5, y6⟩ => ?_) fun _ _ z => z
      subst hr2
      exact ⟨h2, x + 1, hs2, e4, lt, y4, y5, y6⟩
    · rintro ⟨⟩ s' ⟨h', i, rfl, e, hi, y1, y2, y3⟩
      have ei : i = es.size := by
        refine Nat.le_antisymm hi (Nat.le_of_not_lt fun z => ?_)
        have e2 : es.size - i = (es.size - (i + 1)) + 1 := by omega
        rw [e2, List.range'_succ] at e
        cases e
      rw [ei, ← hlen, List.take_length] at y1
      exact wpAny_pure (q h' y1 y3)
  have body : ∀ (i : Nat) (h1 : Heap), i < es.size → h1.DictOf knd d (merged kvs (more.take i)) → h1.get? a = some oa → Heap.SameBut d s.heap h1 →
      ∃ e k v, es[i]? = some e ∧ e.hash = knd.hash k ∧ e.val = v ∧ knd.is k e.key = true ∧ more[i]? = some (k, v) ∧ (merged kvs (more.take i)).length ≤ sizeLine := fun i h1 hi _ _ _ => by
    obtain ⟨⟨k, v⟩, hkv⟩ : ∃ kv, more[i]? = some kv := ⟨more[i]'(by rw [hlen]; exact hi), List.getElem?_eq_getElem _⟩
    obtain ⟨g1, g2⟩ := hp.get? (e := es[i]) (by simp [hi]) hkv
    obtain ⟨k2, g3, g4⟩ := hk es[i] (Array.getElem_mem hi)
    obtain rfl : k2 = k := knd.inj _ _ _ g3 g1
    refine ⟨es[i], k2, v, Array.getElem?_eq_getElem hi, g4, g2, g1, hkv, ?_⟩
    have z1 := merged_length_le kvs (more.take i)
    have z2 : (more.take i).length ≤ more.length := by rw [List.length_take]; omega
    omega
  have run : ∀ {f : Nat → PUnit → Sem (ForInStep PUnit)} (_ : ∀ i, f i PUnit.unit = (do
      let l ← dictEntries a
      match l[i]? with
        | some e => do
          holding [e.key, e.val] (dictPut d e.hash e.key e.val)
          let y ← dictEpoch a
          if (y != ep) = true then do
              (unsupported "dict.changed-during-merge" : Sem PUnit)
              pure (ForInStep.yield PUnit.unit)
            else pure (ForInStep.yield PUnit.unit)
        | _ => do
          (unsupported "dict.changed-during-merge" : Sem PUnit)
          pure (ForInStep.yield PUnit.unit) : Sem (ForInStep PUnit))), wpAny (model P w) A (do forIn (List.range es.size) PUnit.unit f; pure ()) Q E s := fun {f} hf => by
    refine tail fun i s1 h1 e1 hi y1 y2 y3 => ?_
    obtain ⟨e, k, v, g1, g2, g3, g4, g5, g6⟩ := body i h1 hi y1 y2 y3
    rw [hf, e1]
    refine wpAny_bind (wpAny_dictEntries y2 hdt ?_)
    rw [g1]
    dsimp only
    rw [g2, g3]
    refine wpAny_bind (wpAny_holding (put_at g4 y1 g6 fun h2 n1 n2 => ?_))
    have y5 : h2.get? a = some oa := (n2.2 a (Ne.symm hda)).trans y2
    refine wpAny_bind (wpAny_dictEpoch y5 hdt ?_)
    rw [if_neg (by simp)]
    exact wpAny_pure ⟨rfl, h2, rfl, by rw [merged_take_succ kvs more i (k, v) g5]; exact n1, y5, y3.trans n2⟩
  split
  · refine wpAny_bind (wpAny_dictEntries hoa hdt ?_)
    refine wpAny_bind ?_
    rw [← Array.forIn_toList]
    refine wpAny_forIn_list _ (fun rest _ s' => s' = s ∧ ∀ e ∈ rest, ∀ z, e.key ≠ .ref z) _ ?_ ?_ _ _ ⟨rfl, nref⟩
    · rintro e rest ⟨⟩ s1 ⟨rfl, h⟩
      have h0 := h e List.mem_cons_self
      have h1 : ∀ e ∈ rest, ∀ z, e.key ≠ .ref z := fun e he => h e (List.mem_cons_of_mem _ he)
      split
      · rename_i z ez
        exact absurd ez (h0 z)
      · exact wpAny_pure ⟨rfl, h1⟩
    · rintro ⟨⟩ s1 ⟨rfl, -⟩
      refine wpAny_bind (wpAny_dictEntries hoa hdt (wpAny_bind (wpAny_dictEpoch hoa hdt ?_)))
      exact run fun i => rfl
  · refine wpAny_bind (wpAny_dictEntries hoa hdt (wpAny_bind (wpAny_dictEpoch hoa hdt ?_)))
    exact run fun i => rfl
end
def mrg (d : Addr) (m : Value) : Sem Unit := (((holding [.ref d, m] (mergeMapping d m false)).onRaise fun x => do let _ ← holding [.ref d, m, x] (runValue (.builtin "proto.let_go" {}))).tryCatch fun e => do
        if ← isInstance e (.type "AttributeError") then
          rule "dict.display.not-a-mapping"; raiseError "TypeError" s!"'{← typeNameOf m}' object is not a mapping"
        throw e).onRaise fun x => do let _ ← holding [.ref d, x] (runValue (.builtin "proto.let_go" {}))
theorem dd2 (m1 m2 : Sem Value) : dictDisplay [(none, m1), (none, m2)] = (do
    let d ← alloc { cls := .type "dict", data := .dict #[] }
    let a ← holding [.ref d] m1
    mrg d a
    let b ← holding [.ref d] m2
    mrg d b
    pure (.ref d)) := by
  unfold dictDisplay mrg
  simp only [List.forIn_cons, List.forIn_nil, List.isEmpty_nil, ↓reduceIte, pure_bind, bind_assoc]
section
variable {M : Model} {A : Around} {E : Value → Shared → Prop} {s : Shared} 
theorem calm {t : Sem Unit} {h h' : Value → Sem Unit} {k : Value → Sem Unit} {Q : Unit → Shared → Prop} (y : wpAny M A t Q (fun _ _ => False) s) : wpAny M A (((t.onRaise h).tryCatch k).onRaise h') Q E s := by
  intro Γ p hΓ
  simp only [Sem.wp_onRaise, Sem.wp_tryCatch]
  exact Sem.wp_mono M Γ t (fun _ _ _ z => z) (fun _ _ _ z => z.elim) p s (y Γ p hΓ)
end

section
variable {X : Cx} {pos : Pos} {e1 e2 : Expr} {t1 t2 : TE}
/-- {**a, **b}: a's entries, then b's -/
def tTwo (t1 t2 : TE) : TE := fun σ H Q => ∀ p, H p = none → t1 σ (upd H p (.dK [])) fun v1 H1 => ∃ (a : Addr) (kv1 : List (Key × V)), v1 = .ref a ∧ a ≠ p ∧ H1 p = some (.dK []) ∧ Rd H1 a (.dK kv1) ∧
  t2 σ (upd H1 p (.dK (mergeK [] kv1))) fun v2 H2 => ∃ (b : Addr) (kv2 : List (Key × V)), v2 = .ref b ∧ b ≠ p ∧ H2 p = some (.dK (mergeK [] kv1)) ∧ Rd H2 b (.dK kv2) ∧ kv1.length + kv2.length ≤ sizeLine ∧
    Q (.ref p) (upd H2 p (.dK (mergeK (mergeK [] kv1) kv2)))
theorem no_ref {P : Program} {w : World} (k : Key) (v : Value) (h : (mixKind P w).is k v = true) (a : Addr) : v ≠ .ref a := by
  rintro rfl
  cases k with
  | inl i => cases h
  | inr s => cases h
theorem mrg_at {pins : List (Addr × Obj)} {σ : L2.St} {H : Hp} {s : Shared} {E : Value → Shared → Prop} {p a : Addr} {kv more : List (Key × V)} {Q : Unit → Shared → Prop} (I : Inv X pins σ H s) (hp : H p = some (.dK kv)) (ha : Rd H a (.dK more)) (hne : a ≠ p)
    (hz : kv.length + more.length ≤ sizeLine) (q : ∀ s', Inv X pins σ (upd H p (.dK (mergeK kv more))) s' → Q () s') : wpAny (model X.prog X.w) X.A (mrg p (.ref a)) Q E s := by
  obtain ⟨z1, m1, vs, r1, d1⟩ := dk_of I.hok hp
  obtain ⟨z2, m2, ws, r2, d2⟩ := dk_rd I.hok ha
  unfold mrg
  refine calm (wpAny_holding (merge_at no_ref (Ne.symm hne) m2 d1 d2 (by rw [← r1.length, ← r2.length]; exact hz) fun h' dd hs => q _ ?_))
  have he : ∃ u, h'.get? p = some u := let ⟨u, _, _, hu, _⟩ := dd; ⟨u, hu⟩
  refine d_write (t' := s.toks) I (by rw [hp]; exact True.intro) hs he (dk_new ?_ m1 (r2.merge r1) dd)
  have := length_mergeK more kv
  omega
theorem pe_two (h1 : PE X e1 t1) (h2 : PE X e2 t2) : PE X (.Dict [none, none] [e1, e2] pos) (tTwo t1 t2) := by
  refine ⟨fun pins s σ H Q I q => ?_⟩
  rw [arm_eval_Dict]
  refine wpAny_bind (wpAny_standAt ?_)
  show wpAny _ _ (dictDisplay [(none, do let x ← eval e1 X.env; standAt pos; pure x), (none, do let x ← eval e2 X.env; standAt pos; pure x)]) _ _ s
  rw [dd2]
  have hn := I.hok.fresh (Nat.le_refl s.heap.objs.size)
  have I1 := I.laid (a := s.heap.objs.size) (o := .dK []) (h' := s.heap.push { cls := .type "dict", data := .dict #[] }) (t' := s.toks) (fun _ _ q => Heap.get?_push_of_some _ q) (Nat.le_refl _) (dk_empty s.heap I.big)
  refine wpAny_bind (wpAny_alloc (wpAny_bind (wpAny_holding (wpAny_bind (thn (h1.run pins _ σ _ _ I1 (q _ hn)) fun u s2 ⟨v1, H1, I2, rv, a, kv1, ev, hne, hp1, ha, q2⟩ => wpAny_bind (wpAny_standAt (wpAny_pure ?_)))))))
  subst ev
  obtain rfl : u = Value.ref a := rv
  have z1 := (dk_rd I2.hok ha).1
  refine wpAny_bind (mrg_at I2 hp1 ha hne (by rw [List.length_nil]; omega) fun s3 I3 => ?_)
  refine wpAny_bind (wpAny_holding (wpAny_bind (thn (h2.run pins s3 σ _ _ I3 q2) fun u2 s4 ⟨v2, H2, I4, rv2, b, kv2, ev2, hne2, hp2, hb, hz, q3⟩ => wpAny_bind (wpAny_standAt (wpAny_pure ?_)))))
  subst ev2
  obtain rfl : u2 = Value.ref b := rv2
  refine wpAny_bind (mrg_at I4 hp2 hb hne2 ?_ fun s5 I5 => wpAny_pure ⟨.ref s.heap.objs.size, _, I5, rfl, q3⟩)
  have := length_mergeK kv1 []
  rw [List.length_nil] at this
  omega
end
end Dm

namespace Mw
open PySem L2
abbrev R4 := Str × Str × Fo
def AR (H : Hp) : List R4 → List V → Prop
  | [], vs => vs = []
  | q :: qs, vs => ∃ a ws, vs = .ref a :: ws ∧ H a = some (.tup [.str q.1, .str q.2.1, .str q.2.2.1, oV q.2.2.2]) ∧ AR H qs ws
theorem AR.mono {H H' : Hp} (k : Tk H H') : ∀ {qs : List R4} {vs : List V}, AR H qs vs → AR H' qs vs
  | [], _, h => h
  | _ :: _, _, ⟨a, ws, e, h, r⟩ => ⟨a, ws, e, k _ _ h, AR.mono k r⟩
theorem AR.app {H : Hp} {rs : List R4} {us : List V} (hu : AR H rs us) : ∀ {qs : List R4} {vs : List V}, AR H qs vs → AR H (qs ++ rs) (vs ++ us)
  | [], _, h => by
    rw [show _ = [] from h]
    exact hu
  | _ :: _, _, ⟨a, ws, e, h, r⟩ => ⟨a, ws ++ us, by rw [e]; rfl, h, AR.app hu r⟩
theorem AR.length {H : Hp} : ∀ {qs : List R4} {vs : List V}, AR H qs vs → vs.length = qs.length
  | [], _, h => by rw [show _ = [] from h]; rfl
  | _ :: _, _, ⟨a, ws, e, h, r⟩ => by rw [e, List.length_cons, List.length_cons, AR.length r]
/-! ### catalogs -/
abbrev Cata := List (Str × Msgs)
def Ents2 (H : Hp) : Cata → List (L2.Key × V) → Prop
  | [], kvs => kvs = []
  | p :: C, kvs => ∃ a r, kvs = (Sum.inr p.1, .ref a) :: r ∧ Dm H a p.2 ∧ Ents2 H C r
def CatAt (H : Hp) (d : Addr) (C : Cata) : Prop := ∃ kvs, H d = some (.dK kvs) ∧ Ents2 H C kvs
def lkC (C : Cata) (k : Str) : Msgs := ((C.find? fun p => decide (p.1 = k)).map (·.2)).getD []
theorem Ents2.mono {H H' : Hp} (h : ∀ a t, Dm H a t → Dm H' a t) : ∀ {S : Cata} {kvs : List (L2.Key × V)}, Ents2 H S kvs → Ents2 H' S kvs
  | [], _, e => e
  | _ :: _, _, ⟨a, r, e, x, y⟩ => ⟨a, r, e, h _ _ x, Ents2.mono h y⟩
theorem CatAt.same {H H' : Hp} {d : Addr} {S : Cata} (s : Same H H') (h : CatAt H d S) : CatAt H' d S := by
  obtain ⟨kvs, a, b⟩ := h
  exact ⟨kvs, s _ _ a, b.mono fun _ _ z => z.same s⟩
theorem Ents2.keys {H : Hp} : ∀ {S : Cata} {kvs : List (L2.Key × V)}, Ents2 H S kvs → kvs.map (·.1) = (S.map (·.1)).map Sum.inr
  | [], _, e => by rw [show _ = [] from e]; rfl
  | _ :: _, _, ⟨a, r, e, x, y⟩ => by rw [e, List.map_cons, Ents2.keys y]; rfl
theorem Ents2.get {H : Hp} {k : Str} : ∀ {S : Cata} {kvs : List (L2.Key × V)}, Ents2 H S kvs → k ∈ S.map (·.1) → ∃ a, valV kvs (Sum.inr k) = some (.ref a) ∧ Dm H a (lkC S k) ∧ (k, lkC S k) ∈ S
  | [], _, _, h => by cases h
  | p :: S, _, ⟨a, r, e, x, y⟩, h => by
    subst e
    by_cases c : p.1 = k
    · refine ⟨a, valV_pos (p := ((Sum.inr p.1 : L2.Key), V.ref a)) (by rw [c]), ?_, ?_⟩
      · rw [show lkC (p :: S) k = p.2 by simp [lkC, c]]
        exact x
      · rw [show lkC (p :: S) k = p.2 by simp [lkC, c], ← c]
        exact List.mem_cons_self
    · have hk : k ∈ S.map (·.1) := by
        rcases List.mem_cons.mp h with z | z
        · exact absurd z.symm c
        · exact z
      obtain ⟨b, g1, g2, g3⟩ := Ents2.get y hk
      have e : lkC (p :: S) k = lkC S k := by simp [lkC, c]
      rw [e]
      exact ⟨b, by rw [valV_neg (p := ((Sum.inr p.1 : L2.Key), V.ref a)) (fun z => c (Sum.inr.inj z))]; exact g1, g2, List.mem_cons_of_mem _ g3⟩
/-! ### the keys of two dicts -/
theorem put_ks {kvs : List (L2.Key × V)} {ks : List Str} (n : Str) (v : V) (h : kvs.map (·.1) = ks.map Sum.inr) : (putK kvs (Sum.inr n) v).map (·.1) = (if n ∈ ks then ks else ks ++ [n]).map Sum.inr := by
  have a : (kvs.any fun kv => decide (kv.1 = Sum.inr n)) = decide (n ∈ ks) := by
    have e : (kvs.any fun kv => decide (kv.1 = Sum.inr n)) = (kvs.map (·.1)).any fun k => decide (k = Sum.inr n) := by rw [List.any_map]; rfl
    rw [e, h, List.any_map, Bool.eq_iff_iff, List.any_eq_true, decide_eq_true_eq]
    constructor
    · rintro ⟨x, hx, z⟩
      have z : (Sum.inr x : L2.Key) = Sum.inr n := of_decide_eq_true z
      rw [← Sum.inr.inj z]
      exact hx
    · intro hx
      exact ⟨n, hx, decide_eq_true rfl⟩
  unfold putK
  rw [a]
  by_cases c : n ∈ ks
  · rw [if_pos (decide_eq_true c), if_pos c, ← h, List.map_map]
    refine List.map_congr_left fun p _ => ?_
    show (if p.1 = Sum.inr n then (p.1, v) else p).1 = p.1
    split <;> rfl
  · rw [if_neg (by simpa using c), if_neg c, List.map_append, List.map_append, h]
    rfl
theorem merge_ks : ∀ {more kvs : List (L2.Key × V)} {mk ks : List Str}, kvs.map (·.1) = ks.map Sum.inr → more.map (·.1) = mk.map Sum.inr → ks.Nodup →
    ∃ ks' : List Str, (mergeK kvs more).map (·.1) = ks'.map Sum.inr ∧ ks'.Nodup ∧ (∀ n, n ∈ ks' ↔ n ∈ ks ∨ n ∈ mk) ∧ ks'.length ≤ ks.length + mk.length
  | [], kvs, mk, ks, h, hm, nd => by
    cases mk with
    | nil => exact ⟨ks, h, nd, fun n => by simp, by simp⟩
    | cons _ _ => cases hm
  | (k, v) :: more, kvs, mk, ks, h, hm, nd => by
    cases mk with
    | nil => cases hm
    | cons n mk =>
      rw [List.map_cons, List.map_cons] at hm
      injection hm with e hm
      have e : k = Sum.inr n := e
      subst e
      have h2 := put_ks n v h
      have nd2 : (if n ∈ ks then ks else ks ++ [n]).Nodup := by
        split
        · exact nd
        · rename_i c
          exact List.nodup_append.mpr ⟨nd, by simp, fun a ha b hb => by
            rw [List.mem_singleton.mp hb]
            rintro rfl
            exact c ha⟩
      obtain ⟨ks', g1, g2, g3, g4⟩ := merge_ks (more := more) (mk := mk) h2 hm nd2
      refine ⟨ks', g1, g2, fun m => ?_, ?_⟩
      · rw [g3]
        by_cases c : n ∈ ks
        · rw [if_pos c, List.mem_cons]
          exact ⟨fun z => z.imp id .inr, fun z => by
            rcases z with z | rfl | z
            · exact .inl z
            · exact .inl c
            · exact .inr z⟩
        · rw [if_neg c, List.mem_append, List.mem_singleton, List.mem_cons, or_assoc]
      · have : (if n ∈ ks then ks else ks ++ [n]).length ≤ ks.length + 1 := by
          split
          · omega
          · rw [List.length_append]; simp
        rw [List.length_cons]
        omega
def keysOf (S M : Msgs) : List Str := srt kU (S.map (·.1) ++ M.map (·.1))
def rowsK (S M : Msgs) (c k : Str) : List R4 := (fa S M k).map fun q => (c, k, q)
def cfC (S : Msgs) (C : Cata) (c : Str) : List R4 := (keysOf S (lkC C c)).flatMap fun k => rowsK S (lkC C c) c k
def codesOf (C : Cata) : List Str := srt cU (C.map (·.1))
def cf (S : Msgs) (C : Cata) : List R4 := (codesOf C).flatMap fun c => cfC S C c
theorem keysOf_len (S M : Msgs) : (keysOf S M).length ≤ 5 := Nat.le_trans (List.length_filter_le _ _) (by decide)
theorem codesOf_len (C : Cata) : (codesOf C).length ≤ 3 := Nat.le_trans (List.length_filter_le _ _) (by decide)
theorem flat_len {α : Type} (f : α → List R4) (n : Nat) (h : ∀ a, (f a).length ≤ n) : ∀ l : List α, (l.flatMap f).length ≤ l.length * n
  | [] => Nat.zero_le _
  | a :: l => by
    rw [List.flatMap_cons, List.length_append, List.length_cons, Nat.succ_mul]
    have := flat_len f n h l
    have := h a
    omega
theorem rowsK_len (S M : Msgs) (c k : Str) : (rowsK S M c k).length ≤ 15 := by
  unfold rowsK
  rw [List.length_map]
  exact fa_len S M k
theorem cfC_len (S : Msgs) (C : Cata) (c : Str) : (cfC S C c).length ≤ 75 := by
  have h := flat_len (fun k => rowsK S (lkC C c) c k) 15 (fun k => rowsK_len _ _ _ _) (keysOf S (lkC C c))
  have := keysOf_len S (lkC C c)
  unfold cfC
  omega
theorem flat_take {α : Type} {l : List α} {i : Nat} {a : α} (f : α → List R4) (h : l[i]? = some a) : (l.take (i + 1)).flatMap f = (l.take i).flatMap f ++ f a := by
  rw [List.take_succ, h, List.flatMap_append]
  simp
/-- keys and codes are of their menus -/
structure CatOk (S : Msgs) (C : Cata) : Prop where
  sk : ∀ n ∈ S.map (·.1), n ∈ kU
  sn : (S.map (·.1)).Nodup
  sg : GoodS S
  ck : ∀ n ∈ C.map (·.1), n ∈ cU
  cn : (C.map (·.1)).Nodup
  cm : ∀ p ∈ C, (∀ n ∈ p.2.map (·.1), n ∈ kU) ∧ (p.2.map (·.1)).Nodup ∧ GoodM p.2
theorem nodup_few {U l : List Str} (nd : l.Nodup) (h : ∀ n ∈ l, n ∈ U) : l.length ≤ U.length := nd.length_le_of_subset fun n hn => h n hn
section
variable {P : Program} {w : World} {K : PySem.W.Frag} {mg : Str → Option Value} {base : Heap}
abbrev sCf : Stmt := top 14
abbrev nCf : List Str := ["source", "catalog", "found", "code", "messages", "key", "word", "name"]
theorem scCf : FnScope nCf ["source", "catalog"] (defScope sCf) := ⟨rfl, rfl, rfl, by decide +kernel, rfl, by decide +kernel, by decide +kernel⟩
def spCf : Sp := fun vs H Q _ => ∃ (d e : Addr) (S : Msgs) (C : Cata), vs = [.ref d, .ref e] ∧ Dm H d S ∧ CatAt H e C ∧ CatOk S C ∧ ∀ r H' ws, H r = none → Same H H' → H' r = some (.lst ws) → AR H' (cf S C) ws → Q (.ref r) H'
set_option maxHeartbeats 0 in
theorem ok_cf {f fA : Addr} {fd fdA : FuncData} (F : Fun K "catalog_faults" "catalog_faults" sCf f fd) (GA : FnOk P w K mg base CX0 6 fA fdA ["source", "messages", "key"] spFa) (bA : Binds K fdA ["source", "messages", "key"] []) (kA : PySem.W.keepIn K (.ref fA) = true) (mA : mg "faults_at" = some (.ref fA)) (ms : mg "sorted" = none) :
    FnOk P w K mg base CX0 7 f fd ["source", "catalog"] spCf := by
  refine F.ok scCf (fun vs H Q E h => ?_) (fun cdv A outer s H vs Q E hr h => ?_)
  · obtain ⟨d, e, S, C, rfl, _⟩ := h
    rfl
  obtain ⟨d, e, S, C, rfl, hS, hC, ok, q⟩ := h
  have nd := scCf.nd
  have hu := hu_of hr
  refine ⟨_, (pss_cons (ps_set (i := 2) nd rfl (.inl rfl) (pe_lst pa_nil))
      (pss_cons (ps_for PassesOwn.never rfl (pi_list (pe_callB (call_sortedD rfl) (by rfl) ms (by decide +kernel) (pa_cons (pv 1) pa_nil))) (pg_name (i := 3) nd rfl (.inr rfl)) (pss_cons (ps_set (i := 4) nd rfl (.inl rfl) (pe_dget hu (pv 1) (pv 3) (fun _ _ => rfl)))
      (pss_one (ps_for PassesOwn.never rfl (pi_list (pe_callB (call_sortedD rfl) (by rfl) ms (by decide +kernel) (pa_cons (Dm.pe_two (pv 0) (pv 4)) pa_nil))) (pg_name (i := 5) nd rfl (.inr rfl)) (pss_one (ps_expr (pe_bm PySem.F.plainAttrs_list PySem.F.slot_list_extend PySem.F.type_list_extend mt_extend (pv 2) (pa_cons (pe_lc (own := [("word", 6), ("name", 7)]) (g := (gTup K 2 (gCons (gName 6) (gCons (gName 7) gNil)))) (tt := tYes)  rfl nd (pi_list (pe_call GA hr rfl mA kA bA .nil pass0 (pa_cons (pv 0) (pa_cons (pv 4) (pa_cons (pv 5) pa_nil))))) (blkOk_by (N := nCf) (sc := defScope sCf) (by decide +kernel)) (fun _ _ _ _ _ => (pg_tup rfl (pgs_cons (pg_name (i := 6) nd rfl (.inl rfl)) (pgs_cons (pg_name (i := 7) nd rfl (.inl rfl)) pgs_nil)))) (fun _ _ _ _ _ => pts_nil) (fun _ _ _ _ _ => (pe_tup (pa_cons (pv 3) (pa_cons (pv 5) (pa_cons (pv 6) (pa_cons (pv 7) pa_nil))))))) pa_nil))))))))
      (pss_one (ps_ret (pv 2))))), ?_⟩
  refine ⟨Nat.zero_le _, fun fl hfl => ?_⟩
  have s0 : Same H (upd H fl (.lst [])) := same_new hfl _
  obtain ⟨ckv, hc1, hc2⟩ := hC
  have cl := codesOf_len C
  refine ⟨_, rfl, e, ckv, C.map (·.1), rfl, .inl (s0 _ _ hc1), hc2.keys, Nat.lt_of_le_of_lt (nodup_few ok.cn ok.ck) (by decide), fun ys sl hp hs hsl => ⟨sl, rfl, ⟨_, SqL.of upd_same⟩, ?_⟩⟩
  obtain rfl : ys = codesOf C := srt_eq uni_c hp ok.cn ok.ck hs
  have s1 : Same (upd H fl (.lst [])) (upd (upd H fl (.lst [])) sl (.lst ((codesOf C).map V.str))) := same_new hsl _
  have nfs : fl ≠ sl := ne_of_none (H := upd H fl (.lst [])) upd_same hsl
  refine for_list (xs := (codesOf C).map V.str) (fun i σ H' => ∃ (o3 o4 o5 : Option V) (vs : List V), σ = [some (.ref d), some (.ref e), some (.ref fl), o3, o4, o5, none, none] ∧ Same H H' ∧ H' sl = some (.lst ((codesOf C).map V.str)) ∧ H' fl = some (.lst vs) ∧ AR H' (((codesOf C).take i).flatMap fun c => cfC S C c) vs)
    ⟨none, none, none, [], rfl, s0.trans s1, upd_same, s1 _ _ upd_same, rfl⟩ (fun i σ H' _ ⟨_, _, _, _, _, _, h, _⟩ => SqL.of h) ?_ ?_
  rotate_left
  · rintro σ H' ⟨o3, o4, o5, vs, rfl, s', _, hv, hA⟩
    rw [List.length_map, List.take_length] at hA
    exact ⟨_, rfl, q fl H' vs hfl s' hv hA⟩
  rintro i x σ H1 hx ⟨o3, o4, o5, vs, rfl, sH, hsl1, hv, hA⟩
  obtain ⟨c, hc, rfl⟩ : ∃ c, (codesOf C)[i]? = some c ∧ x = V.str c := by
    rw [List.getElem?_map] at hx
    cases e : (codesOf C)[i]? with
    | none => rw [e] at hx; cases hx
    | some y => rw [e] at hx; exact ⟨y, rfl, (Option.some.inj hx).symm⟩
  have hcm := srt_mem.mp (List.mem_of_getElem? hc)
  obtain ⟨da, g1, g0, g3⟩ := hc2.get hcm.2
  have g2 := g0.same sH
  obtain ⟨mk1, mk2, mk3⟩ := ok.cm _ g3
  refine ⟨_, rfl, _, rfl, e, .ref da, rfl, .inl ⟨ckv, Sum.inr c, .inl (sH _ _ hc1), rfl, g1.symm⟩, ?_⟩
  have hS1 := hS.same sH
  obtain ⟨skv, hs1, hs2⟩ := hS1
  obtain ⟨mkv, hm1, hm2⟩ := id g2
  have sl5 : skv.length ≤ 5 := by
    have e1 := congrArg List.length hs2.keys
    rw [List.length_map, List.length_map] at e1
    rw [e1]
    exact nodup_few ok.sn ok.sk
  have ml5 : mkv.length ≤ 5 := by
    have e1 := congrArg List.length hm2.keys
    rw [List.length_map, List.length_map] at e1
    rw [e1]
    exact nodup_few mk2 mk1
  intro pd hpd
  have nd1 : d ≠ pd := ne_of_none hs1 hpd
  have nd2 : da ≠ pd := ne_of_none hm1 hpd
  refine ⟨_, rfl, d, skv, rfl, nd1, upd_same, .inl (by rw [upd_ne nd1]; exact hs1), _, rfl, da, mkv, rfl, nd2, upd_same, .inl (by rw [upd_ne nd2, upd_ne nd2]; exact hm1), le_line (by omega), ?_⟩
  obtain ⟨k1, a1, a2, a3, a4⟩ := merge_ks (kvs := []) (ks := []) (more := skv) (mk := S.map (·.1)) rfl hs2.keys List.nodup_nil
  obtain ⟨k2, b1, b2, b3, b4⟩ := merge_ks a1 hm2.keys a2
  have kin : ∀ n, n ∈ k2 ↔ n ∈ S.map (·.1) ++ (lkC C c).map (·.1) := fun n => by
    rw [b3, a3, List.mem_append]
    simp
  have k2U : ∀ n ∈ k2, n ∈ kU := fun n hn => by
    rcases List.mem_append.mp ((kin n).mp hn) with z | z
    · exact ok.sk n z
    · exact mk1 n z
  have s2 : Same H1 (upd (upd (upd H1 pd (.dK [])) pd (.dK (mergeK [] skv))) pd (.dK (mergeK (mergeK [] skv) mkv))) := fun b o hb => by
    have nb : b ≠ pd := ne_of_none hb hpd
    rw [upd_ne nb, upd_ne nb, upd_ne nb]
    exact hb
  refine ⟨pd, _, k2, rfl, .inl upd_same, b1, Nat.lt_of_le_of_lt (nodup_few b2 k2U) (by decide), fun ys tl hp hs htl => ⟨tl, rfl, ⟨_, SqL.of upd_same⟩, ?_⟩⟩
  obtain rfl : ys = keysOf S (lkC C c) := by
    rw [srt_eq uni_k hp b2 k2U hs]
    unfold keysOf srt
    congr 1
    funext n
    simp only [kin n]
  generalize upd (upd (upd H1 pd (.dK [])) pd (.dK (mergeK [] skv))) pd (.dK (mergeK (mergeK [] skv) mkv)) = H2 at s2 htl
  have s3 : Same H2 (upd H2 tl (.lst ((keysOf S (lkC C c)).map V.str))) := same_new htl _
  have kl := keysOf_len S (lkC C c)
  have nft : fl ≠ tl := ne_of_none (s2 _ _ hv) htl
  have nst : sl ≠ tl := ne_of_none (s2 _ _ hsl1) htl
  have pl : vs.length ≤ 225 := by
    rw [hA.length]
    have h := flat_len (fun c => cfC S C c) 75 (fun c => cfC_len S C c) ((codesOf C).take i)
    have h2 : ((codesOf C).take i).length ≤ 3 := by rw [List.length_take]; omega
    omega
  refine for_list (xs := (keysOf S (lkC C c)).map V.str) (fun j σ H' => ∃ (o5 : Option V) (us : List V), σ = [some (.ref d), some (.ref e), some (.ref fl), some (.str c), some (.ref da), o5, none, none] ∧ Same H H' ∧ H' sl = some (.lst ((codesOf C).map V.str)) ∧ H' tl = some (.lst ((keysOf S (lkC C c)).map V.str)) ∧ H' fl = some (.lst us) ∧
      AR H' ((((codesOf C).take i).flatMap fun c => cfC S C c) ++ ((keysOf S (lkC C c)).take j).flatMap fun k => rowsK S (lkC C c) c k) us)
    ⟨o5, vs, rfl, (sH.trans s2).trans s3, (s2.trans s3) _ _ hsl1, upd_same, (s2.trans s3) _ _ hv, by rw [List.take_zero]; show AR _ (_ ++ []) _; rw [List.append_nil]; exact hA.mono (Tk.of (s2.trans s3))⟩ (fun j σ H' _ ⟨_, _, _, _, _, h, _⟩ => SqL.of h) ?_ ?_
  rotate_left
  · rintro σ H' ⟨o5', us, rfl, s', hsl', htl', hu', hA'⟩
    rw [List.length_map, List.take_length] at hA'
    refine ⟨_, _, o5', us, rfl, s', hsl', hu', ?_⟩
    rw [flat_take (fun c => cfC S C c) hc]
    exact hA'
  rintro j x σ H3 hx3 ⟨o5', us, rfl, s', hsl', htl', hu', hA'⟩
  obtain ⟨k, hk, rfl⟩ : ∃ k, (keysOf S (lkC C c))[j]? = some k ∧ x = V.str k := by
    rw [List.getElem?_map] at hx3
    cases e : (keysOf S (lkC C c))[j]? with
    | none => rw [e] at hx3; cases hx3
    | some y => rw [e] at hx3; exact ⟨y, rfl, (Option.some.inj hx3).symm⟩
  refine ⟨_, rfl, .inl ⟨rfl, _, SqL.of hu'⟩, ?_⟩
  refine ⟨_, rfl, _, rfl, _, rfl, d, da, S, lkC C c, k, rfl, hS.same s', g0.same s', ok.sg, mk3, fun r H4 ws hr s4 hw hAo => ⟨r, rfl, ⟨_, SqL.of hw⟩, fun D hD => ?_⟩⟩
  have ln := hAo.length
  have fl15 := fa_len S (lkC C c) k
  refine lc_list (xs := ws) (fun m H' => Same H4 H' ∧ ∃ zs, H' D = some (.lst zs) ∧ AR H' (((fa S (lkC C c) k).take m).map fun q => (c, k, q)) zs) ⟨same_new hD _, [], upd_same, rfl⟩ (fun m H' _ ⟨s5, _⟩ => SqL.of (s5 _ _ hw)) ?_ ?_
  · rintro m x H5 hx5 ⟨s5, zs, hz, hAz⟩
    obtain ⟨qq, pa, hq, rfl, hpa⟩ := hAo.get hx5
    have zl : zs.length ≤ 15 := by
      rw [hAz.length, List.length_map, List.length_take]
      omega
    refine ⟨pa, _, rfl, .inl (.inl (s5 _ _ hpa)), rfl, .str qq.1, _, rfl, oV qq.2, [], rfl, rfl, rfl, ?_⟩
    refine ⟨_, rfl, _, rfl, _, rfl, _, rfl, by show 4 ≤ sizeLine; decide, fun tp htp => ?_⟩
    have s6 : Same H5 (upd H5 tp (.tup [.str c, .str k, .str qq.1, oV qq.2])) := same_new htp _
    have ntD : tp ≠ D := (ne_of_none hz htp).symm
    refine ⟨zs, s6 _ _ hz, sz_line (by omega), same_mut (s5.trans s6) hD _, zs ++ [.ref tp], upd_same, ?_⟩
    rw [List.take_succ, hq, List.map_append]
    exact AR.app (show AR _ [(c, k, qq)] [.ref tp] from ⟨tp, [], rfl, by rw [upd_ne ntD]; exact upd_same, rfl⟩) ((hAz.mono (Tk.of s6)).mono (Tk.lst (s6 _ _ hz)))
  · rintro H5 ⟨s5, zs, hz, hAz⟩
    rw [ln, List.take_length] at hAz
    have hu5 := s5 _ _ (s4 _ _ hu')
    have zl : zs.length ≤ 15 := by
      rw [hAz.length, List.length_map]
      omega
    have ul : us.length ≤ 300 := by
      rw [hA'.length, List.length_append, ← hA.length]
      have h := flat_len (fun k => rowsK S (lkC C c) c k) 15 (fun k => rowsK_len _ _ _ _) ((keysOf S (lkC C c)).take j)
      have h2 : ((keysOf S (lkC C c)).take j).length ≤ 5 := by rw [List.length_take]; omega
      omega
    refine ⟨fl, D, us, zs, rfl, rfl, hu5, hz, le_line (by omega), ?_⟩
    have s45 := s4.trans s5
    have tk : Tk H5 (upd H5 fl (.lst (us ++ zs))) := Tk.lst hu5
    refine ⟨some (.str k), us ++ zs, rfl, same_mut (s'.trans s45) hfl _, by rw [upd_ne nfs.symm]; exact s45 _ _ hsl', by rw [upd_ne nft.symm]; exact s45 _ _ htl', upd_same, ?_⟩
    rw [flat_take (fun k => rowsK S (lkC C c) c k) hk, ← List.append_assoc]
    exact AR.app (hAz.mono tk) (hA'.mono fun b xs hb => tk b xs (Tk.of s45 b xs hb))
end
end Mw

namespace Mw
open PySem L2
/-! ### names given anew -/
def rn (nm : Ks) (n : Str) : Str := (lk nm n).getD n
def rnH (nm : Ks) : List V → List V
  | x :: .str n :: r => x :: .str (rn nm n) :: r
  | l => l
def ren (nm : Ks) : T → T
  | .nil => .nil
  | .text s r => .text s (ren nm r)
  | .shw n r => .shw (rn nm n) (ren nm r)
  | .num r => .num (ren nm r)
  | .cho hd cs o r => .cho (rnH nm hd) (ren nm cs) (ren nm o) (ren nm r)
  | .cas k m r => .cas k (ren nm m) (ren nm r)
theorem ren_app (nm : Ks) (u : T) : ∀ t : T, ren nm (t.app u) = (ren nm t).app (ren nm u)
  | .nil => rfl
  | .text _ r => congrArg _ (ren_app nm u r)
  | .shw _ r => congrArg _ (ren_app nm u r)
  | .num r => congrArg _ (ren_app nm u r)
  | .cho _ _ _ r => congrArg _ (ren_app nm u r)
  | .cas _ _ r => congrArg _ (ren_app nm u r)
theorem ren_sz (nm : Ks) : ∀ t : T, (ren nm t).sz = t.sz
  | .nil => rfl
  | .text _ r => by simp only [ren, T.sz, ren_sz nm r]
  | .shw _ r => by simp only [ren, T.sz, ren_sz nm r]
  | .num r => by simp only [ren, T.sz, ren_sz nm r]
  | .cho _ cs o r => by simp only [ren, T.sz, ren_sz nm r, ren_sz nm cs, ren_sz nm o]
  | .cas _ m r => by simp only [ren, T.sz, ren_sz nm r, ren_sz nm m]
theorem ren_dep (nm : Ks) : ∀ t : T, (ren nm t).dep = t.dep
  | .nil => rfl
  | .text _ r => by simp only [ren, T.dep, ren_dep nm r]
  | .shw _ r => by simp only [ren, T.dep, ren_dep nm r]
  | .num r => by simp only [ren, T.dep, ren_dep nm r]
  | .cho _ cs o r => by simp only [ren, T.dep, ren_dep nm r, ren_dep nm cs, ren_dep nm o]
  | .cas _ m r => by simp only [ren, T.dep, ren_dep nm r, ren_dep nm m]
theorem ren_mkc (nm : Ks) : ∀ {cs : T}, Wf cs true → mkc cs.keys (cs.msgs.map (ren nm)) = ren nm cs
  | .nil, _ => rfl
  | .cas k m r, w => by
    show T.cas k _ (mkc r.keys (r.msgs.map _)) = T.cas k _ (ren nm r)
    rw [ren_mkc nm w.2.2.2]
  | .text _ _, w => by cases w.1
  | .shw _ _, w => by cases w.1
  | .num _, w => by cases w.1
  | .cho _ _ _ _, w => by cases w.1
section
variable {P : Program} {w : World} {K : PySem.W.Frag} {mg : Str → Option Value} {base : Heap}
abbrev sRn : Stmt := top 22
abbrev nRn : List Str := ["message", "names", "found", "node", "key", "case", "cases", "head"]
theorem scRn : FnScope nRn ["message", "names"] (defScope sRn) := ⟨rfl, rfl, rfl, by decide +kernel, rfl, by decide +kernel, by decide +kernel⟩
def spRn (n : Nat) : Sp := fun vs H Q _ => ∃ (a dd : Addr) (t : T) (nm : Ks) (H0 : Hp), vs = [.ref a, .ref dd] ∧ Same H0 H ∧ At H0 a t ∧ Wf t false ∧ t.dep ≤ n ∧ t.sz < 90000 ∧ H dd = some (.dK (kv nm)) ∧ ∀ l H', H l = none → Same H H' → At (cb H0 H H') l (ren nm t) → Q (.ref l) H'
def spRnP (n : Nat) : Sp := fun vs H Q E => ∃ e, n = e + 1 ∧ spRn e vs H Q E
def RnI (a dd l : Addr) (nm : Ks) (H0 H : Hp) (t : T) (i : Nat) (σ : L2.St) (H' : Hp) : Prop :=
  ∃ (o3 o6 o7 : Option V) (fs : List V), σ = [some (.ref a), some (.ref dd), some (.ref l), o3, none, none, o6, o7] ∧ Same H H' ∧ H' l = some (.lst fs) ∧ Nodes (Ws [l] H0 H H') (ren nm (ch (t.nodes.take i))) fs ∧ fs.length ≤ i
theorem RnI.snoc {a dd l : Addr} {nm : Ks} {H0 H H1 : Hp} {t u : T} {i : Nat} {o3 o6 o7 : Option V} {fs : List V} {v : V} (hl : H l = none) (s : Same H H1) (hf : H1 l = some (.lst fs)) (hF : Nodes (Ws [l] H0 H H1) (ren nm (ch (t.nodes.take i))) fs) (hfl : fs.length ≤ i)
    (hu : t.nodes[i]? = some u) (hu' : Nodes (Ws [l] H0 H H1) (ren nm u) [v]) :
    RnI a dd l nm H0 H t (i + 1) [some (.ref a), some (.ref dd), some (.ref l), o3, none, none, o6, o7] (upd H1 l (.lst (fs ++ [v]))) := by
  refine ⟨o3, o6, o7, fs ++ [v], rfl, same_mut s hl _, upd_same, ?_, by rw [List.length_append]; show fs.length + 1 ≤ i + 1; omega⟩
  rw [ws_mut (by simp), ch_take hu, ren_app]
  exact Nodes.app hu' hF
theorem seqA {te : TE} {g : TG} {B : TS} {D : Ends} {σ : L2.St} {H : Hp} (h : te σ H fun x H1 => g x σ H1 fun σ' H' => B D σ' H') : tSeq (tAsg te g) B D σ H := h
set_option maxHeartbeats 0 in
theorem ok_rn {k n : Nat} {f fM : Addr} {fd fdM : FuncData} (F : Fun K "_law_renamed" "_law_renamed" sRn f fd)
    (GM : FnOk P w K mg base CX0 k fM fdM ["message", "names"] (spRnP n)) (bM : Binds K fdM ["message", "names"] []) (kM : PySem.W.keepIn K (.ref fM) = true) (mM : mg "_law_renamed" = some (.ref fM)) : FnOk P w K mg base CX0 (k + 1) f fd ["message", "names"] (spRn n) := by
  refine F.ok scRn (fun vs H Q E h => ?_) (fun cdv A outer s H vs Q E hr h => ?_)
  · obtain ⟨a, dd, t, nm, H0, rfl, _⟩ := h
    rfl
  obtain ⟨a, dd, t, nm, H0, rfl, s0, ⟨vs, ha, hn⟩, hw, hd, hz, hdd, q⟩ := h
  have nd := scRn.nd
  have hu := hu_of hr
  refine ⟨_, (pss_cons (ps_set (i := 2) nd rfl (.inl rfl) (pe_lst pa_nil))
      (pss_cons (ps_for PassesOwn.never rfl (pi_list (pv 0)) (pg_name (i := 3) nd rfl (.inl rfl)) (pss_one (ps_if (pt_cmpR op_eq (pe_ix ix_tup (pv 3) pe_int (fun _ _ => rfl)) pe_str (nomark _)) (pss_one (ps_expr (pe_bm PySem.F.plainAttrs_list PySem.F.slot_list_append PySem.F.type_list_append mt_append (pv 2) (pa_cons (pe_tup (pa_cons pe_str (pa_cons (pe_dget2 hu (pv 1) (pe_ix ix_tup (pv 3) pe_int (fun _ _ => rfl)) (pe_ix ix_tup (pv 3) pe_int (fun _ _ => rfl)) ⟨rfl, rfl, rfl, rfl⟩) pa_nil))) pa_nil)))) (pss_one (ps_if (pt_cmpR op_in_seq (pe_ix ix_tup (pv 3) pe_int (fun _ _ => rfl)) (pe_lst (pa_cons pe_str (pa_cons pe_str pa_nil))) rfl) (pss_cons (ps_setLc (i := 6) (own := [("key", 4), ("case", 5)]) (g := (gTup K 2 (gCons (gName 4) (gCons (gName 5) gNil)))) (tt := tYes)  rfl nd rfl rfl (sw_true rfl rfl rfl (by decide +kernel)) (pi_list (pe_ix ix_tup (pv 3) (pe_un un_neg pe_int) (fun _ _ => rfl))) (blkOk_by (N := nRn) (sc := defScope sRn) (by decide +kernel)) (fun _ _ _ _ _ => (pg_tup rfl (pgs_cons (pg_name (i := 4) nd rfl (.inl rfl)) (pgs_cons (pg_name (i := 5) nd rfl (.inl rfl)) pgs_nil)))) (fun _ _ _ _ _ => pts_nil) (fun _ _ _ _ _ => (pe_tup (pa_cons (pv 4) (pa_cons (pe_call GM hr rfl mM kM bM .nil pass0 (pa_cons (pv 5) (pa_cons (pv 1) pa_nil))) pa_nil)))))
      (pss_cons (ps_set (i := 7) nd rfl (.inl rfl) (pe_op op_catT (pe_tup (pa_cons (pe_ix ix_tup (pv 3) pe_int (fun _ _ => rfl)) (pa_cons (pe_dget2 hu (pv 1) (pe_ix ix_tup (pv 3) pe_int (fun _ _ => rfl)) (pe_ix ix_tup (pv 3) pe_int (fun _ _ => rfl)) ⟨rfl, rfl, rfl, rfl⟩) pa_nil))) (pe_slice sl_tup (pv 3) (po_some pe_int) (po_some (pe_un un_neg pe_int)))))
      (pss_one (ps_expr (pe_bm PySem.F.plainAttrs_list PySem.F.slot_list_append PySem.F.type_list_append mt_append (pv 2) (pa_cons (pe_op op_catT (pv 7) (pe_tup (pa_cons (pv 6) (pa_cons (pe_call GM hr rfl mM kM bM .nil pass0 (pa_cons (pe_ix ix_tup (pv 3) (pe_un un_neg pe_int) (fun _ _ => rfl)) (pa_cons (pv 1) pa_nil))) pa_nil)))) pa_nil)))))) (pss_one (ps_expr (pe_bm PySem.F.plainAttrs_list PySem.F.slot_list_append PySem.F.type_list_append mt_append (pv 2) (pa_cons (pv 3) pa_nil)))))))))
      (pss_one (ps_ret (pv 2))))), ?_⟩
  refine ⟨Nat.zero_le _, fun l hl => ?_⟩
  have s1 : Same H (upd H l (.lst [])) := same_new hl _
  have hlen : vs.length < 90000 := by
    rw [hn.length]
    exact Nat.lt_of_le_of_lt (len_sz t) hz
  have hns := hn.ns
  have l0 : H0 l = none := s0.free hl
  refine ⟨_, rfl, a, rfl, ⟨_, SqL.of (s1 _ _ (s0 _ _ ha))⟩, for_list (K := K) (a := a) (xs := vs) (RnI a dd l nm H0 H t) ⟨none, none, none, [], rfl, s1, upd_same, rfl, Nat.le_refl _⟩
    (fun i σ H' _ ⟨_, _, _, _, _, s', _⟩ => SqL.of (s' _ _ (s0 _ _ ha))) ?_ ?_⟩
  rotate_left
  · rintro σ H1 ⟨o3, o6, o7, fs, rfl, sH, hf, hF, hfl⟩
    refine ⟨_, rfl, q l H1 hl sH ⟨fs, cb_at hl hf, ?_⟩⟩
    rw [hns.length, List.take_length, ch_nodes] at hF
    exact hF.same ws_end
  rintro i x σ H1 hx ⟨o3, o6, o7, fs, rfl, sH, hf, hF, hfl⟩
  have hi : i < vs.length := (List.getElem?_eq_some_iff.mp hx).1
  obtain ⟨u, hu, hun⟩ := hns.get hx
  have um := List.mem_of_getElem? hu
  have uw := nodes_wf hw u um
  have uz := node_sz u um
  have ud := dep_nodes u um
  obtain ⟨p, z, zs, rfl, hp, hsg, hch, htx⟩ := node_of hun uw
  have hp1 := sH _ _ (s0 _ _ hp)
  have wb : Same H0 (Ws [l] H0 H H1) := ws_base s0 (by simpa using hl)
  have hdd1 := sH _ _ hdd
  have getn : ∀ n : Str, ((lk nm n).map V.str).getD (.str n) = .str (rn nm n) := fun n => by unfold rn; cases lk nm n <;> rfl
  -- a node that stays
  have stay : ∀ (A : TS) (z : Str) (zs : List V), z ≠ "show" → (z ≠ "select" ∧ z ≠ "plural") → H1 p = some (.tup (.str z :: zs)) → Nodes (Ws [l] H0 H H1) (ren nm u) [.ref p] → ∀ (D : Ends), D.nx = RnI a dd l nm H0 H t (i + 1) →
      tIfS (tTest (tOp (rIn K false) (tOp (rIxT K) (tVar 3) (tC (.int 0))) (tLst (tCons (tC (.str "select")) (tCons (tC (.str "plural")) tNil))))) A (tDrop (tBM K "list" rAppend (tVar 2) (tCons (tVar 3) tNil))) D [some (.ref a), some (.ref dd), some (.ref l), some (.ref p), none, none, o6, o7] H1 := by
    intro A z zs hz1 hz2 hpz hun' D hD
    refine ⟨_, rfl, p, _, 0, .str z, rfl, rfl, .inl (.inl hpz), atI_nat (j := 0) rfl, by show 2 ≤ sizeLine; decide, fun tp htp => ⟨tp, _, rfl, .inl (SqL.of upd_same), rfl, rfl, _, rfl, ?_⟩⟩
    have s2 : Same H1 (upd H1 tp (.lst [.str "select", .str "plural"])) := same_new htp _
    show if inV (V.str z) [.str "select", .str "plural"] = true then _ else _
    rw [in_two, decide_eq_false (by rintro (e | e); exact hz2.1 e; exact hz2.2 e)]
    have hf2 := s2 _ _ hf
    refine iteF ⟨_, rfl, .inl ⟨rfl, _, SqL.of hf2⟩, _, rfl, l, _, _, rfl, rfl, hf2, sz_line (by omega), ?_⟩
    rw [hD]
    exact RnI.snoc hl (sH.trans s2) hf2 (hF.same (ws_same s2)) hfl hu (hun'.same (ws_same s2))
  cases u with
  | nil => cases hsg
  | cas _ _ _ => cases uw.1
  | text st r =>
    cases (show r = .nil from hsg)
    obtain ⟨p', _, e, hp', _⟩ := id hun
    cases e
    have hp1 := sH _ _ (s0 _ _ hp')
    refine ⟨_, rfl, p, _, 0, .str "text", rfl, rfl, .inl (.inl hp1), atI_nat (j := 0) rfl, rfl, _, rfl, ?_⟩
    rw [ds_no (by decide)]
    exact iteF (stay _ "text" _ (by decide) (by decide) hp1 (hun.same wb) _ rfl)
  | num r =>
    cases (show r = .nil from hsg)
    obtain ⟨p', _, e, hp', _⟩ := id hun
    cases e
    have hp1 := sH _ _ (s0 _ _ hp')
    refine ⟨_, rfl, p, _, 0, .str "number", rfl, rfl, .inl (.inl hp1), atI_nat (j := 0) rfl, rfl, _, rfl, ?_⟩
    rw [ds_no (by decide)]
    exact iteF (stay _ "number" _ (by decide) (by decide) hp1 (hun.same wb) _ rfl)
  | shw n r =>
    cases (show r = .nil from hsg)
    obtain ⟨p', _, e, hp', _⟩ := id hun
    cases e
    have hp1 := sH _ _ (s0 _ _ hp')
    refine ⟨_, rfl, p, _, 0, .str "show", rfl, rfl, .inl (.inl hp1), atI_nat (j := 0) rfl, rfl, _, rfl, ?_⟩
    rw [ds_yes]
    refine iteT ⟨_, rfl, .inl ⟨rfl, _, SqL.of hf⟩, ?_⟩
    refine ⟨_, rfl, dd, rfl, .inl ⟨_, .inl hdd1⟩, _, rfl, p, _, 1, .str n, rfl, rfl, .inl (.inl hp1), atI_nat (j := 1) rfl, _, rfl, p, _, 1, .str n, rfl, rfl, .inl (.inl hp1), atI_nat (j := 1) rfl, _, DGet.k (k := Sum.inr n) hdd1, ?_⟩
    rw [val_kv, getn]
    refine ⟨by show 2 ≤ sizeLine; decide, fun tp htp => ?_⟩
    have s2 : Same H1 (upd H1 tp (.tup [.str "show", .str (rn nm n)])) := same_new htp _
    have hf2 := s2 _ _ hf
    have ntl : tp ≠ l := (ne_of_none hf htp).symm
    refine ⟨l, _, _, rfl, rfl, hf2, sz_line (by omega), ?_⟩
    refine RnI.snoc hl (sH.trans s2) hf2 (hF.same (ws_same s2)) hfl hu ⟨tp, [], rfl, ?_, rfl⟩
    rw [ws_new (by simpa using ntl) (sH.free htp)]
    exact upd_same
  | cho hd' cs oo rr =>
    cases (show rr = .nil from hsg)
    obtain ⟨p', ws, ca, cvs, oa, ovs, e, hp', hca, hcs, hoa, hos, _⟩ := id hun
    cases e
    have hp1 := sH _ _ (s0 _ _ hp')
    obtain ⟨k1, k2⟩ := keys_at hcs uw.2.2.1
    obtain ⟨ams, am1, am2, am3⟩ := Nodes.msgs hcs uw.2.2.1
    have hml := (msgs_len uw.2.2.1).1
    have hcz : cs.keys.length ≤ 90000 := by
      have e1 := (msgs_len uw.2.2.1).2
      have e2 := len_sz cs
      simp only [T.sz] at uz
      omega
    simp only [T.dep] at ud
    obtain ⟨e, rfl⟩ : ∃ e, n = e + 1 := ⟨n - 1, by omega⟩
    have inner_ok : ∀ m ∈ (T.cho hd' cs oo .nil).inner, Wf m false := fun m hm => wf_inner uw m hm
    -- the cases, made anew
    have lc : ∀ (H2 : Hp) (o6 : Option V) (ps : List V) (Q' : VK), Same H1 H2 → H2 p = some (.tup (ps ++ [.ref ca, .ref oa])) →
        (∀ (D : Addr) (H3 : Hp) (tvs : List V), Same H2 H3 → H3 D = some (.lst tvs) → l ≠ D → H D = none → Nodes (Ws [l] H0 H H3) (ren nm cs) tvs → Q' (.ref D) H3) →
        tLc (iList K (tOp (rIxT K) (tVar 3) (tUn (rU fun i => V.int (-i)) (tC (.int 2))))) (gTup K 2 (gCons (gName 4) (gCons (gName 5) gNil))) tYes (tTup (tCons (tVar 4) (tCons (tCall (spRnP (e + 1)) [] E0 (tCons (tVar 5) (tCons (tVar 1) tNil))) tNil))) [4, 5] [some (.ref a), some (.ref dd), some (.ref l), some (.ref p), none, none, o6, o7] H2 Q' := by
      intro H2 o6 ps Q' s2 hp2 kk
      have sH2 := sH.trans s2
      have hf2 := s2 _ _ hf
      refine ⟨_, rfl, 2, rfl, p, _, -2, .ref ca, rfl, rfl, .inl (.inl hp2), atI_m2 _ _ _, ca, rfl, ⟨_, SqL.of (sH2 _ _ (s0 _ _ hca))⟩, fun D hD => ?_⟩
      have hD0 : H D = none := sH2.free hD
      have nlD : l ≠ D := ne_of_none hf2 hD
      have s3 : Same H2 (upd H2 D (.lst [])) := same_new hD _
      have hL0 : ∀ x ∈ [l, D], H x = none := by
        intro x hx
        simp only [List.mem_cons, List.not_mem_nil, or_false] at hx
        rcases hx with rfl | rfl
        · exact hl
        · exact hD0
      generalize hMs : cs.msgs.map (ren nm) = Ms
      have hMl : Ms.length = cs.keys.length := by rw [← hMs, List.length_map, hml]
      refine lc_list (K := K) (a := ca) (xs := cvs) (fun r H' => Same H2 H' ∧ ∃ tvs, H' D = some (.lst tvs) ∧ tvs.length = r ∧ Nodes (Ws [l, D] H0 H H') (mkc (cs.keys.take r) (Ms.take r)) tvs)
        ⟨s3, [], upd_same, rfl, rfl⟩ (fun r H' _ ⟨s', _⟩ => SqL.of (s' _ _ (sH2 _ _ (s0 _ _ hca)))) ?_ ?_
      · rintro r x H3 hx3 ⟨s3', tvs, hD3, htl, htn⟩
        obtain ⟨pj, kj, x1, rfl, hkj, hpj⟩ := k2 r x hx3
        obtain ⟨pj', kj', aj, f1, f2, f3⟩ := am3 r _ hx3
        cases f1
        rw [hpj] at f2
        cases f2
        obtain ⟨mr, aj', g1, g2, g3⟩ := am1.get f3
        cases g2
        have mm : mr ∈ (T.cho hd' cs oo .nil).inner := List.mem_append_left _ (List.mem_of_getElem? g1)
        have sH3 := sH2.trans s3'
        have hrl := (List.getElem?_eq_some_iff.mp hkj).1
        have mz := inner_sz mr mm
        have md := dep_msgs mr (List.mem_of_getElem? g1)
        refine ⟨pj, _, rfl, .inl (.inl (sH3 _ _ (s0 _ _ hpj))), rfl, kj, _, rfl, .ref aj, [], rfl, rfl, rfl, ?_⟩
        refine ⟨_, rfl, _, rfl, _, rfl, e, rfl, aj, dd, mr, nm, H0, rfl, s0.trans sH3, g3, inner_ok mr mm, by omega, by omega, sH3 _ _ hdd, fun l' H4 hl' s4 hat => ⟨by show 2 ≤ sizeLine; decide, fun tp htp => ?_⟩⟩
        have hD4 := s4 _ _ hD3
        have hl4 := s4 _ _ (s3' _ _ hf2)
        have ntD : D ≠ tp := ne_of_none hD4 htp
        have ntl : l ≠ tp := ne_of_none hl4 htp
        have s5 : Same H4 (upd H4 tp (.tup [kj, .ref l'])) := same_new htp _
        refine ⟨_, s5 _ _ hD4, sz_line (by omega), same_mut ((s3'.trans s4).trans s5) hD _, tvs ++ [.ref tp], upd_same, by rw [List.length_append, htl]; rfl, ?_⟩
        rw [ws_mut (by simp)]
        have hmk : mkc (cs.keys.take (r + 1)) (Ms.take (r + 1)) = (mkc (cs.keys.take r) (Ms.take r)).app (.cas kj (ren nm mr) .nil) := by
          have hv : Ms[r]? = some (ren nm mr) := by rw [← hMs, List.getElem?_map, g1]; rfl
          rw [List.take_succ, List.take_succ, hkj, hv]
          exact mkc_snoc (by rw [List.length_take, List.length_take, hMl])
        rw [hmk]
        obtain ⟨avs, b1, b2⟩ := (hat.same (ws_call (L := [l, D]) s0 sH3 (by
          intro x hx
          refine ⟨hL0 x hx, ?_⟩
          simp only [List.mem_cons, List.not_mem_nil, or_false] at hx
          rcases hx with rfl | rfl
          · exact ⟨_, s3' _ _ hf2⟩
          · exact ⟨_, hD3⟩))).same (ws_same s5)
        refine Nodes.app (u := .cas kj (ren nm mr) .nil) ⟨tp, [], l', avs, rfl, ?_, b1, b2, rfl⟩ (htn.same (ws_same (s4.trans s5)))
        rw [ws_new (by simp only [List.mem_cons, List.not_mem_nil, or_false]; rintro (z | z); exact ntl z.symm; exact ntD z.symm) ((sH3.trans s4).free htp)]
        exact upd_same
      · rintro H3 ⟨s3', tvs, hD3, htl, htn⟩
        rw [k1, List.take_length, ← hMl, List.take_length, ← hMs, ren_mkc nm uw.2.2.1] at htn
        exact kk D H3 tvs s3' hD3 nlD hD0 (htn.same (ws_sub (by intro x hx; rw [List.mem_singleton.mp hx]; simp)))
    have mo : oo ∈ (T.cho hd' cs oo .nil).inner := List.mem_append_right _ (by simp)
    have oz := inner_sz oo mo
    -- the end: the new node from its head
    have fin : ∀ (H3 : Hp) (D hh : Addr) (tvs hd2 ps : List V) (DD : Ends), DD.nx = RnI a dd l nm H0 H t (i + 1) → Same H1 H3 → H3 p = some (.tup (ps ++ [.ref ca, .ref oa])) → H3 D = some (.lst tvs) → l ≠ D → H D = none → Nodes (Ws [l] H0 H H3) (ren nm cs) tvs → H3 hh = some (.tup hd2) → hd2 ≠ [] → hd2.length ≤ 3 → ren nm (.cho hd' cs oo .nil) = .cho hd2 (ren nm cs) (ren nm oo) .nil →
        tDrop (tBM K "list" rAppend (tVar 2) (tCons (tOp (rCatT K) (tVar 7) (tTup (tCons (tVar 6) (tCons (tCall (spRnP (e + 1)) [] E0 (tCons (tOp (rIxT K) (tVar 3) (tUn (rU fun i => V.int (-i)) (tC (.int 1)))) (tCons (tVar 1) tNil))) tNil)))) tNil)) DD [some (.ref a), some (.ref dd), some (.ref l), some (.ref p), none, none, some (.ref D), some (.ref hh)] H3 := by
      intro H3 D hh tvs hd2 ps DD hDD s3 hp3 hD nlD hD0 htn hhh hne hhl eren
      have sH3 := sH.trans s3
      have hf3 := s3 _ _ hf
      refine ⟨_, rfl, .inl ⟨rfl, _, SqL.of hf3⟩, _, rfl, _, rfl, _, rfl, 1, rfl, p, _, -1, .ref oa, rfl, rfl, .inl (.inl hp3), atI_m1 _ _ _, _, rfl, e, rfl, oa, dd, oo, nm, H0, rfl, s0.trans sH3, ⟨ovs, hoa, hos⟩, inner_ok oo mo, by omega, by omega, sH3 _ _ hdd, fun l' H4 hl' s4 hat => ⟨by show 2 ≤ sizeLine; decide, fun p4 hp4 => ?_⟩⟩
      have s5 : Same H4 (upd H4 p4 (.tup [.ref D, .ref l'])) := same_new hp4 _
      refine ⟨hh, p4, hd2, [.ref D, .ref l'], rfl, rfl, .inl (.inl (s5 _ _ (s4 _ _ hhh))), .inl (.inl upd_same), hne, le_line (by show hd2.length + 2 < 10000000; omega), (fun z => nomatch z), fun _ p5 hp5 => ?_⟩
      generalize hH5 : upd H4 p4 (.tup [.ref D, .ref l']) = H5 at s5 hp5 ⊢
      have s6 : Same H5 (upd H5 p5 (.tup (hd2 ++ [.ref D, .ref l']))) := same_new hp5 _
      have s45 := s4.trans s5
      have s46 := s45.trans s6
      have hf6 := s46 _ _ hf3
      have np5 : l ≠ p5 := ne_of_none (s45 _ _ hf3) hp5
      refine ⟨l, _, _, rfl, rfl, hf6, sz_line (by omega), ?_⟩
      rw [hDD]
      refine RnI.snoc hl (sH3.trans s46) hf6 (hF.same (ws_same (s3.trans s46))) hfl hu ?_
      rw [eren]
      obtain ⟨avs, b1, b2⟩ := (hat.same (ws_call (L := [l]) s0 sH3 (by
        intro x hx
        rw [List.mem_singleton.mp hx]
        exact ⟨hl, _, hf3⟩))).same (ws_same (L := [l]) (H0 := H0) (H := H) (s5.trans s6))
      refine ⟨p5, [], D, tvs, l', avs, rfl, ?_, ?_, htn.same (ws_same s46), b1, b2, rfl⟩
      · rw [ws_new (by simpa using np5.symm) ((sH3.trans s45).free hp5)]
        exact upd_same
      · rw [ws_new (by simpa using nlD.symm) hD0]
        exact s46 _ _ hD
    rcases uw.2.1 with ⟨nm', rfl⟩ | ⟨nm', off, rfl⟩
    · refine ⟨_, rfl, p, _, 0, .str "select", rfl, rfl, .inl (.inl hp1), atI_nat (j := 0) rfl, rfl, _, rfl, ?_⟩
      rw [ds_no (by decide)]
      refine iteF ⟨_, rfl, p, _, 0, .str "select", rfl, rfl, .inl (.inl hp1), atI_nat (j := 0) rfl, by show 2 ≤ sizeLine; decide, fun tp htp => ⟨tp, _, rfl, .inl (SqL.of upd_same), rfl, rfl, _, rfl, ?_⟩⟩
      have s2 : Same H1 (upd H1 tp (.lst [.str "select", .str "plural"])) := same_new htp _
      show if inV (V.str "select") [.str "select", .str "plural"] = true then _ else _
      rw [in_two, decide_eq_true (.inl rfl)]
      refine iteT (seqA (lc _ _ [.str "select", .str nm'] _ s2 (s2 _ _ hp1) fun D H3 tvs s3 hD nlD hD0 htn => ?_))
      have s13 := s2.trans s3
      have hp3 := s13 _ _ hp1
      have hdd3 := s13 _ _ hdd1
      refine ⟨_, rfl, p, _, 0, .str "select", rfl, rfl, .inl (.inl hp3), atI_nat (j := 0) rfl, ?_⟩
      refine ⟨_, rfl, dd, rfl, .inl ⟨_, .inl hdd3⟩, _, rfl, p, _, 1, .str nm', rfl, rfl, .inl (.inl hp3), atI_nat (j := 1) rfl, _, rfl, p, _, 1, .str nm', rfl, rfl, .inl (.inl hp3), atI_nat (j := 1) rfl, _, DGet.k (k := Sum.inr nm') hdd3, ?_⟩
      rw [val_kv, getn]
      refine ⟨by show 2 ≤ sizeLine; decide, fun p1 hp1' => ?_⟩
      have s4 : Same H3 (upd H3 p1 (.tup [.str "select", .str (rn nm nm')])) := same_new hp1' _
      refine ⟨_, rfl, _, rfl, 2, rfl, _, rfl, p, _, rfl, .inl (.inl (s4 _ _ hp3)), (fun z => absurd (show (2 : Nat) = 0 from z.1) (by decide)), fun p2 hp2' => ?_⟩
      have s5 := same_new (H := upd H3 p1 (.tup [.str "select", .str (rn nm nm')])) hp2' (.tup (cutV ([.str "select", .str nm'] ++ [V.ref ca, .ref oa]) (some 2) (some (-2))))
      refine ⟨p1, p2, [.str "select", .str (rn nm nm')], [], rfl, rfl, .inl (.inl (s5 _ _ upd_same)), .inl (.inl upd_same), by simp, by show 2 ≤ sizeLine; decide, fun _ => ?_, fun z => absurd rfl z⟩
      have s45 := s4.trans s5
      exact fin _ D p1 tvs [.str "select", .str (rn nm nm')] [.str "select", .str nm'] _ rfl (s13.trans s45) (s45 _ _ hp3) (s45 _ _ hD) nlD hD0 (htn.same (ws_same s45)) (s5 _ _ upd_same) (by simp) (by show 2 ≤ 3; decide) rfl
    · refine ⟨_, rfl, p, _, 0, .str "plural", rfl, rfl, .inl (.inl hp1), atI_nat (j := 0) rfl, rfl, _, rfl, ?_⟩
      rw [ds_no (by decide)]
      refine iteF ⟨_, rfl, p, _, 0, .str "plural", rfl, rfl, .inl (.inl hp1), atI_nat (j := 0) rfl, by show 2 ≤ sizeLine; decide, fun tp htp => ⟨tp, _, rfl, .inl (SqL.of upd_same), rfl, rfl, _, rfl, ?_⟩⟩
      have s2 : Same H1 (upd H1 tp (.lst [.str "select", .str "plural"])) := same_new htp _
      show if inV (V.str "plural") [.str "select", .str "plural"] = true then _ else _
      rw [in_two, decide_eq_true (.inr rfl)]
      refine iteT (seqA (lc _ _ [.str "plural", .str nm', .int off] _ s2 (s2 _ _ hp1) fun D H3 tvs s3 hD nlD hD0 htn => ?_))
      have s13 := s2.trans s3
      have hp3 := s13 _ _ hp1
      have hdd3 := s13 _ _ hdd1
      refine ⟨_, rfl, p, _, 0, .str "plural", rfl, rfl, .inl (.inl hp3), atI_nat (j := 0) rfl, ?_⟩
      refine ⟨_, rfl, dd, rfl, .inl ⟨_, .inl hdd3⟩, _, rfl, p, _, 1, .str nm', rfl, rfl, .inl (.inl hp3), atI_nat (j := 1) rfl, _, rfl, p, _, 1, .str nm', rfl, rfl, .inl (.inl hp3), atI_nat (j := 1) rfl, _, DGet.k (k := Sum.inr nm') hdd3, ?_⟩
      rw [val_kv, getn]
      refine ⟨by show 2 ≤ sizeLine; decide, fun p1 hp1' => ?_⟩
      have s4 : Same H3 (upd H3 p1 (.tup [.str "plural", .str (rn nm nm')])) := same_new hp1' _
      refine ⟨_, rfl, _, rfl, 2, rfl, _, rfl, p, _, rfl, .inl (.inl (s4 _ _ hp3)), (fun z => absurd (show (2 : Nat) = 0 from z.1) (by decide)), fun p2 hp2' => ?_⟩
      have s5 := same_new (H := upd H3 p1 (.tup [.str "plural", .str (rn nm nm')])) hp2' (.tup (cutV ([.str "plural", .str nm', .int off] ++ [V.ref ca, .ref oa]) (some 2) (some (-2))))
      refine ⟨p1, p2, [.str "plural", .str (rn nm nm')], [.int off], rfl, rfl, .inl (.inl (s5 _ _ upd_same)), .inl (.inl upd_same), by simp, by show 3 ≤ sizeLine; decide, (fun z => by cases z), fun _ p3 hp3' => ?_⟩
      have s6 := same_new (H := upd (upd H3 p1 (.tup [.str "plural", .str (rn nm nm')])) p2 (.tup (cutV ([.str "plural", .str nm', .int off] ++ [V.ref ca, .ref oa]) (some 2) (some (-2))))) hp3' (.tup ([.str "plural", .str (rn nm nm')] ++ [.int off]))
      have s46 := (s4.trans s5).trans s6
      exact fin _ D p3 tvs [.str "plural", .str (rn nm nm'), .int off] [.str "plural", .str nm', .int off] _ rfl (s13.trans s46) (s46 _ _ hp3) (s46 _ _ hD) nlD hD0 (htn.same (ws_same s46)) upd_same (by simp) (by show 3 ≤ 3; decide) rfl
theorem all_rn {f : Addr} {fd : FuncData} (F : Fun K "_law_renamed" "_law_renamed" sRn f fd) (b : Binds K fd ["message", "names"] []) (m : mg "_law_renamed" = some (.ref f)) : ∀ n, FnOk P w K mg base CX0 (n + 1) f fd ["message", "names"] (spRn n)
  | 0 => ok_rn F (none_left fun vs H Q E ⟨_, e, _⟩ => by omega) b F.kp m
  | n + 1 => ok_rn F ((all_rn F b m n).imp fun vs H Q E ⟨e, he, h⟩ => by
      obtain rfl : e = n := by omega
      exact h) b F.kp m
end
end Mw

namespace Mw
open PySem L2
/-! ### what stays where the box or a dict is written -/
def Kp (H H' : Hp) : Prop := ∀ b o, H b = some o → (∀ bs, o = .lst bs → ¬ IsBox bs) → (∀ kvs, o ≠ .dK kvs) → H' b = some o
theorem Kp.of {H H' : Hp} (s : Same H H') : Kp H H' := fun b o h _ _ => s b o h
theorem Kp.trans {H H1 H2 : Hp} (a : Kp H H1) (b : Kp H1 H2) : Kp H H2 := fun c o h n1 n2 => b c o (a c o h n1 n2) n1 n2
theorem Kp.go {B b : Addr} {H H' : Hp} (hb : Box H B b) (g : Go B H H') : Kp H H' := fun c o h n1 _ => by
  obtain ⟨ds, i, e, _⟩ := hb
  refine g.ext c o (fun z => ?_) h
  subst z
  rw [e] at h
  injection h with h
  exact n1 _ h.symm ⟨_, _, rfl⟩
theorem Kp.dict {H : Hp} {d : Addr} {kvs : List (L2.Key × V)} (h : H d = some (.dK kvs)) (o : HO) : Kp H (upd H d o) := fun c u hc _ n2 => by
  have : c ≠ d := fun z => by
    subst z
    rw [h] at hc
    injection hc with hc
    exact n2 _ hc.symm
  rw [upd_ne this]
  exact hc
theorem Nodes.kp {H H' : Hp} (e : Kp H H') : ∀ {t : T} {vs : List V}, Nodes H t vs → Nodes H' t vs
  | .nil, _, h => h
  | .text _ r, _, h => by
    obtain ⟨p, ws, rfl, hp, hr⟩ := h
    exact ⟨p, ws, rfl, e _ _ hp (fun _ z => by cases z) (fun _ z => by cases z), Nodes.kp e hr⟩
  | .shw _ r, _, h => by
    obtain ⟨p, ws, rfl, hp, hr⟩ := h
    exact ⟨p, ws, rfl, e _ _ hp (fun _ z => by cases z) (fun _ z => by cases z), Nodes.kp e hr⟩
  | .num r, _, h => by
    obtain ⟨p, ws, rfl, hp, hr⟩ := h
    exact ⟨p, ws, rfl, e _ _ hp (fun _ z => by cases z) (fun _ z => by cases z), Nodes.kp e hr⟩
  | .cho hd cs o r, _, h => by
    obtain ⟨p, ws, ca, cvs, oa, ovs, rfl, hp, hc, hcs, ho, hos, hr⟩ := h
    refine ⟨p, ws, ca, cvs, oa, ovs, rfl, e _ _ hp (fun _ z => by cases z) (fun _ z => by cases z), e _ _ hc (fun bs z => ?_) (fun _ z => by cases z), Nodes.kp e hcs, e _ _ ho (fun bs z => ?_) (fun _ z => by cases z), Nodes.kp e hos, Nodes.kp e hr⟩
    · injection z with z
      rw [← z]
      exact hcs.notBox
    · injection z with z
      rw [← z]
      exact hos.notBox
  | .cas k m r, _, h => by
    obtain ⟨p, ws, ma, mvs, rfl, hp, hm, hms, hr⟩ := h
    refine ⟨p, ws, ma, mvs, rfl, e _ _ hp (fun _ z => by cases z) (fun _ z => by cases z), e _ _ hm (fun bs z => ?_) (fun _ z => by cases z), Nodes.kp e hms, Nodes.kp e hr⟩
    injection z with z
    rw [← z]
    exact hms.notBox
theorem At.kp {H H' : Hp} {a : Addr} {t : T} (e : Kp H H') (h : At H a t) : At H' a t := by
  obtain ⟨vs, h1, h2⟩ := h
  refine ⟨vs, e _ _ h1 (fun bs z => ?_) (fun _ z => by cases z), h2.kp e⟩
  injection z with z
  rw [← z]
  exact h2.notBox
/-! ### names -/
def okN (nm : Ks) : Prop := ∀ p ∈ nm, p.2 ∈ names5
theorem rn_ok {nm : Ks} (h : okN nm) {n : Str} (hn : n ∈ names5) : rn nm n ∈ names5 := by
  unfold rn lk
  cases e : nm.find? fun p => decide (p.1 = n) with
  | none => exact hn
  | some q => exact h q (List.mem_of_find?_eq_some e)
theorem n5_v : ∀ n ∈ names5, VOk (.str n) := by
  intro n hn
  have a : ∀ x ∈ names5, PyData.strOk x = true ∧ (reprText x).length ≤ 12 := by decide +kernel
  exact a n hn
theorem ren_ok {nm : Ks} (h : okN nm) : ∀ {t : T} {c : Bool}, Wf t c → SOk t → (∀ p ∈ t.asks, p.1 ∈ names5) → Wf (ren nm t) c ∧ SOk (ren nm t) ∧ ∀ p ∈ (ren nm t).asks, p.1 ∈ names5
  | .nil, c, w, s, a => ⟨w, s, a⟩
  | .text _ r, c, w, s, a => by
    obtain ⟨x, y, z⟩ := ren_ok h (t := r) w.2 s.2 a
    exact ⟨⟨w.1, x⟩, ⟨s.1, y⟩, z⟩
  | .num r, c, w, s, a => by
    obtain ⟨x, y, z⟩ := ren_ok h (t := r) w.2 s a
    exact ⟨⟨w.1, x⟩, y, z⟩
  | .shw n r, c, w, s, a => by
    obtain ⟨x, y, z⟩ := ren_ok h (t := r) w.2 s.2 fun p hp => a p (List.mem_cons_of_mem _ hp)
    have hn := rn_ok h (a (n, "any") List.mem_cons_self)
    refine ⟨⟨w.1, x⟩, ⟨n5_v _ hn, y⟩, fun p hp => ?_⟩
    rcases List.mem_cons.mp hp with rfl | hp
    · exact hn
    · exact z p hp
  | .cas k m r, c, w, s, a => by
    obtain ⟨x1, y1, z1⟩ := ren_ok h (t := m) w.2.2.1 s.2.1 fun p hp => a p (List.mem_append_left _ hp)
    obtain ⟨x2, y2, z2⟩ := ren_ok h (t := r) w.2.2.2 s.2.2 fun p hp => a p (List.mem_append_right _ hp)
    exact ⟨⟨w.1, w.2.1, x1, x2⟩, ⟨s.1, y1, y2⟩, fun p hp => (List.mem_append.mp hp).elim (z1 p) (z2 p)⟩
  | .cho hd cs o r, c, w, s, a => by
    obtain ⟨x1, y1, z1⟩ := ren_ok h (t := cs) w.2.2.1 s.2.2.1 fun p hp => a p (List.mem_append_left _ (List.mem_append_left _ (List.mem_append_right _ hp)))
    obtain ⟨x2, y2, z2⟩ := ren_ok h (t := o) w.2.2.2.1 s.2.2.2.1 fun p hp => a p (List.mem_append_left _ (List.mem_append_right _ hp))
    obtain ⟨x3, y3, z3⟩ := ren_ok h (t := r) w.2.2.2.2 s.2.2.2.2 fun p hp => a p (List.mem_append_right _ hp)
    have hh : HdW (rnH nm hd) ∧ (∀ v ∈ rnH nm hd, VOk v) ∧ (rnH nm hd).length ≤ 3 ∧ ∀ p ∈ hdAsk (rnH nm hd), p.1 ∈ names5 := by
      rcases w.2.1 with ⟨n, rfl⟩ | ⟨n, off, rfl⟩
      · have hn := rn_ok h (a (n, "text") (List.mem_append_left _ (List.mem_append_left _ (List.mem_append_left _ (by show (n, ("text" : Str)) ∈ [(n, ("text" : Str))]; exact List.mem_cons_self)))))
        refine ⟨.inl ⟨_, rfl⟩, fun v hv => ?_, by show 2 ≤ 3; decide, fun p hp => ?_⟩
        · rcases List.mem_cons.mp hv with rfl | hv
          · exact s.1 _ List.mem_cons_self
          · rw [List.mem_singleton.mp hv]
            exact n5_v _ hn
        · have hp : p ∈ [(rn nm n, ("text" : Str))] := hp
          rw [List.mem_singleton.mp hp]
          exact hn
      · have hn := rn_ok h (a (n, "number") (List.mem_append_left _ (List.mem_append_left _ (List.mem_append_left _ (by show (n, ("number" : Str)) ∈ [(n, ("number" : Str))]; exact List.mem_cons_self)))))
        refine ⟨.inr ⟨_, _, rfl⟩, fun v hv => ?_, by show 3 ≤ 3; decide, fun p hp => ?_⟩
        · rcases List.mem_cons.mp hv with rfl | hv
          · exact s.1 _ List.mem_cons_self
          · rcases List.mem_cons.mp hv with rfl | hv
            · exact n5_v _ hn
            · exact s.1 _ (List.mem_cons_of_mem _ (List.mem_cons_of_mem _ hv))
        · have hp : p ∈ [(rn nm n, ("number" : Str))] := hp
          rw [List.mem_singleton.mp hp]
          exact hn
    refine ⟨⟨w.1, hh.1, x1, x2, x3⟩, ⟨hh.2.1, hh.2.2.1, y1, y2, y3⟩, fun p hp => ?_⟩
    rcases List.mem_append.mp hp with hp | hp
    · rcases List.mem_append.mp hp with hp | hp
      · rcases List.mem_append.mp hp with hp | hp
        · exact hh.2.2.2 p hp
        · exact z1 p hp
      · exact z2 p hp
    · exact z3 p hp
theorem Gt.ren {t : T} {nm : Ks} (g : Gt t) (h : okN nm) : Gt (ren nm t) := by
  obtain ⟨x, y, z⟩ := ren_ok h g.wf g.sok g.nm
  exact ⟨x, y, by rw [ren_sz]; exact g.sz, z, by rw [ren_dep]; exact g.dp⟩
theorem gd_names : ∀ {t : T} {c : Bool} {d : Nat} {i : Bool}, Gd t c d i → ∀ p ∈ t.asks, p.1 ∈ names5
  | .nil, _, _, _, _, p, hp => by cases hp
  | .text _ r, _, _, _, h, p, hp => gd_names (t := r) h.2.2 p hp
  | .num r, _, _, _, h, p, hp => gd_names (t := r) h.2.2 p hp
  | .shw n r, _, _, _, h, p, hp => by
    rcases List.mem_cons.mp hp with rfl | hp
    · have a : ∀ n ∈ shows3, n ∈ names5 := by decide +kernel
      exact a n h.2.1
    · exact gd_names (t := r) h.2.2 p hp
  | .cas k m r, _, _, _, h, p, hp => (List.mem_append.mp hp).elim (gd_names h.2.1 p) (gd_names h.2.2 p)
  | .cho hd cs o r, _, _, _, h, p, hp => by
    obtain ⟨_, ⟨e, j, _, hh, h1, h2⟩, h3⟩ := h
    rcases List.mem_append.mp hp with hp | hp
    · rcases List.mem_append.mp hp with hp | hp
      · rcases List.mem_append.mp hp with hp | hp
        · cases hh with
          | sel hk =>
            have hp : p ∈ [(("w" : Str), ("text" : Str))] := hp
            rw [List.mem_singleton.mp hp]
            show ("w" : Str) ∈ names5
            decide +kernel
          | plu hn ho hk =>
            rw [List.mem_singleton.mp (show p ∈ [(_, ("number" : Str))] from hp)]
            have a : ∀ n ∈ numsL, n ∈ names5 := by decide +kernel
            exact a _ hn
        · exact gd_names h1 p hp
      · exact gd_names h2 p hp
    · exact gd_names h3 p hp
theorem gd_gt {t : T} (h : Gd t false 2 false) (hz : t.sz ≤ msgW 2) : Gt t := by
  obtain ⟨a, b, c, _⟩ := Gd.all h fun x => by cases x
  exact ⟨a, b, Nat.lt_of_le_of_lt hz (by decide), gd_names h, c⟩
def keys4 : List Str := ["w", "n", "m", "x"]
def vals4 : List Str := ["n", "w", "x", "who"]
theorem vals4_ok : ∀ v ∈ vals4, v ∈ names5 := by decide +kernel
section
variable {P : Program} {w : World} {K : PySem.W.Frag} {mg : Str → Option Value} {base : Heap}
abbrev sOd : Stmt := top 26
theorem scOd : FnScope ["box", "message", "names"] ["box"] (defScope sOd) := ⟨rfl, rfl, rfl, by decide +kernel, rfl, by decide +kernel, by decide +kernel⟩
def spOd : Sp := fun vs H Q _ => ∃ (B b : Addr), vs = [.ref B] ∧ Box H B b ∧ ∀ r H' t, Go B H H' → Box H' B b → Gt t → At H' r t → Q (.ref r) H'
set_option maxHeartbeats 0 in
theorem ok_od {f fD fM fR : Addr} {fd fdD fdM fdR : FuncData} (F : Fun K "_law_odd" "_law_odd" sOd f fd)
    (GD : FnOk P w K mg base CX0 1 fD fdD ["box", "many"] spDraw) (bD : Binds K fdD ["box", "many"] []) (kD : PySem.W.keepIn K (.ref fD) = true) (mD : mg "_law_draw" = some (.ref fD))
    (GM : FnOk P w K mg base CX0 4 fM fdM ["box", "depth", "inside", "numbers"] (spMsg 2)) (bM : Binds K fdM ["box", "depth", "inside", "numbers"] []) (kM : PySem.W.keepIn K (.ref fM) = true) (mM : mg "_law_message" = some (.ref fM))
    (GR : FnOk P w K mg base CX0 3 fR fdR ["message", "names"] (spRn 2)) (bR : Binds K fdR ["message", "names"] []) (kR : PySem.W.keepIn K (.ref fR) = true) (mR : mg "_law_renamed" = some (.ref fR)) :
    FnOk P w K mg base CX0 5 f fd ["box"] spOd := by
  refine F.ok scOd (fun vs H Q E h => ?_) (fun cdv A outer s H vs Q E hr h => ?_)
  · obtain ⟨B, b, rfl, _⟩ := h
    rfl
  obtain ⟨B, b, rfl, hb, q⟩ := h
  have nd := scOd.nd
  have hu := hu_of hr
  refine ⟨_, (pss_cons (ps_set (i := 1) nd rfl (.inl rfl) (pe_call GM (hr.mono (by decide)) rfl mM kM bM .nil pass0 (pa_cons (pv 0) (pa_cons pe_int (pa_cons pe_bl (pa_cons (pe_lst (pa_cons pe_str (pa_cons pe_str pa_nil))) pa_nil))))))
      (pss_cons (ps_set (i := 2) nd rfl (.inl rfl) pe_dnewK)
      (Evl.pss_cut (ps_if (pt_cmpR op_eq (pe_call GD (hr.mono (by decide)) rfl mD kD bD .nil pass0 (pa_cons (pv 0) (pa_cons pe_int pa_nil))) pe_int (nomark _)) (pss_one (ps_dput hu (pv 2) (pe_ix ix_list (pe_lst (pa_cons pe_str (pa_cons pe_str (pa_cons pe_str (pa_cons pe_str pa_nil))))) (pe_call GD (hr.mono (by decide)) rfl mD kD bD .nil pass0 (pa_cons (pv 0) (pa_cons pe_int pa_nil))) (fun _ _ => rfl)) (pe_ix ix_list (pe_lst (pa_cons pe_str (pa_cons pe_str (pa_cons pe_str (pa_cons pe_str pa_nil))))) (pe_call GD (hr.mono (by decide)) rfl mD kD bD .nil pass0 (pa_cons (pv 0) (pa_cons pe_int pa_nil))) (fun _ _ => rfl)) rfl)) pss_nil)
      (pss_one (ps_ret (pe_call GR (hr.mono (by decide)) rfl mR kR bR .nil pass0 (pa_cons (pv 1) (pa_cons (pv 2) pa_nil)))))))), ?_⟩
  refine ⟨_, rfl, by show 2 ≤ sizeLine; decide, fun na hna => ?_⟩
  have s1 : Same H (upd H na (.lst [.str "m", .str "n"])) := same_new hna _
  refine ⟨B, b, na, false, rfl, hb.same s1, upd_same, fun r H1 t g1 b1 hat gd hz _ => ?_⟩
  have gH1 : Go B H H1 := (Go.same s1).trans g1
  have gt := gd_gt gd hz
  have hat1 : At H1 r t := At.same fr_out hat
  intro d hd
  have s2 : Same H1 (upd H1 d (.dK [])) := same_new hd _
  have b2 := b1.same s2
  have hat2 := hat1.same s2
  refine ⟨fun σ H' => ∃ nm : Ks, σ = [some (.ref B), some (.ref r), some (.ref d)] ∧ okN nm ∧ Go B H H' ∧ Box H' B b ∧ At H' r t ∧ H' d = some (.dK (kv nm)), ?_, ?_⟩
  · refine ⟨_, rfl, B, b, 3, rfl, by decide, b2, fun z H3 z0 z3 g3 b3 => ?_⟩
    have gH3 := (gH1.trans (Go.same s2)).trans g3
    have hat3 := hat2.kp (Kp.go b2 g3)
    have ndB : d ≠ B := by
      rintro rfl
      obtain ⟨ds, i, e, _⟩ := b2
      rw [upd_same] at e
      cases e
    have ndb : d ≠ b := by
      rintro rfl
      obtain ⟨ds, i, _, e, _⟩ := b2
      rw [upd_same] at e
      cases e
    have hd3 : H3 d = some (.dK []) := g3.ext _ _ ndB upd_same
    refine ⟨rfl, _, rfl, ite2 (fun c => ?_) (fun c => ⟨[], rfl, (fun p hp => by cases hp), gH3, b3, hat3, hd3⟩)⟩
    refine ⟨by show 4 ≤ sizeLine; decide, fun l1 hl1 => ⟨_, rfl, B, b, 4, rfl, by decide, b3.same (same_new hl1 _), fun z1 H4 y0 y4 g4 b4 => ?_⟩⟩
    have s3 : Same H3 (upd H3 l1 (.lst (vals4.map V.str))) := same_new hl1 _
    have b3' := b3.same s3
    have nl1 : l1 ≠ B := b3.neB hl1
    have hl14 : H4 l1 = some (.lst (vals4.map V.str)) := g4.ext _ _ nl1 upd_same
    obtain ⟨val, hval, hvat⟩ := pick (l := vals4) (g := V.str) y0 y4
    refine ⟨l1, _, _, .str val, rfl, rfl, SqL.of hl14, hvat, ?_⟩
    have gH4 := (gH3.trans (Go.same s3)).trans g4
    have hat4 := (hat3.same s3).kp (Kp.go b3' g4)
    have hd4 : H4 d = some (.dK []) := g4.ext _ _ ndB (s3 _ _ hd3)
    refine ⟨_, rfl, by show 4 ≤ sizeLine; decide, fun l2 hl2 => ⟨_, rfl, B, b, 4, rfl, by decide, b4.same (same_new hl2 _), fun z2 H5 x0 x4 g5 b5 => ?_⟩⟩
    have s4 : Same H4 (upd H4 l2 (.lst (keys4.map V.str))) := same_new hl2 _
    have b4' := b4.same s4
    have nl2 : l2 ≠ B := b4.neB hl2
    have hl25 : H5 l2 = some (.lst (keys4.map V.str)) := g5.ext _ _ nl2 upd_same
    obtain ⟨key, hkey, hkat⟩ := pick (l := keys4) (g := V.str) x0 x4
    refine ⟨l2, _, _, .str key, rfl, rfl, SqL.of hl25, hkat, ?_⟩
    have gH5 := (gH4.trans (Go.same s4)).trans g5
    have hat5 := (hat4.same s4).kp (Kp.go b4' g5)
    have hd5 : H5 d = some (.dK []) := g5.ext _ _ ndB (s4 _ _ hd4)
    refine ⟨d, _, rfl, DPut.k (k := Sum.inr key) hd5 (by show 0 < sizeLine; decide), [(key, val)], rfl, fun p hp => ?_, ?_, ?_, hat5.kp (Kp.dict hd5 _), ?_⟩
    · rw [List.mem_singleton.mp hp]
      exact vals4_ok _ hval
    · exact gH5.mut (gH1.dom _ hd) _
    · exact b5.mut ndB ndb _
    · rw [upd_same]
      rfl
  rintro σ H3 ⟨nm, rfl, hnm, gH3, b3, hat3, hd3⟩
  refine ⟨_, rfl, _, rfl, r, d, t, nm, H3, rfl, Same.refl _, hat3, gt.wf, gt.dp, by have := gt.sz; omega, hd3, fun l H' hl s' hat => q l H' _ (gH3.trans (Go.same s')) (b3.same s') (gt.ren hnm) (At.same (cb_self s') hat)⟩
end
end Mw

/-! sets of texts: set(a list of texts), sorted(such a set) -/
noncomputable section
namespace Tst
open PySem PySem.Spec PyProof.Rows L2 PySem.Froz
/-- the payload holds the texts l, each once, and can be walked -/
structure Held (P : Program) (w : World) (D : SD) (l : List Str) : Prop where
  tx : TxOk P w D l
  nd : l.Nodup
  ris : Ris D.2.2.place.toList
  led : w.params.followText "set-order" = true ∨ D.2.2.led = true
section
variable {P : Program} {w : World} {A : Around} {E : Value → Shared → Prop} {s : Shared}
theorem tail_ris {ep : Nat} {es : Array (Int × Value)} {t : SetTable} {b : Bool} (r : Ris t.place.toList) : Ris (tailTx ep es t b).2.2.place.toList ∧ (tailTx ep es t b).2.2.led = t.led := by
  unfold tailTx
  split
  · exact ⟨relayAll_ris t es _, relayAll_led t es _⟩
  · exact ⟨r, rfl⟩
theorem held_add {D : SD} {l : List Str} {k : Str} (u : Tok) (Y : Held P w D l) (hk : k ∉ l) : Held P w (addTx (hashStr w k) (.str k u) D) (k :: l) := by
  have r := layNew_ris D.2.2 D.1 (hashStr w k) (.str k u) Y.ris
  have e := layNew_led D.2.2 D.1 (hashStr w k) (.str k u)
  have r2 : Ris (if (layNew D.2.2 D.1 (hashStr w k) (.str k u)).2.1.plain = true then { (layNew D.2.2 D.1 (hashStr w k) (.str k u)).2.1 with plain := false } else (layNew D.2.2 D.1 (hashStr w k) (.str k u)).2.1).place.toList ∧
      (if (layNew D.2.2 D.1 (hashStr w k) (.str k u)).2.1.plain = true then { (layNew D.2.2 D.1 (hashStr w k) (.str k u)).2.1 with plain := false } else (layNew D.2.2 D.1 (hashStr w k) (.str k u)).2.1).led = D.2.2.led := by
    split
    · exact ⟨r, e⟩
    · exact ⟨r, e⟩
  have z := tail_ris (ep := D.2.1) (es := (layNew D.2.2 D.1 (hashStr w k) (.str k u)).1) (b := (layNew D.2.2 D.1 (hashStr w k) (.str k u)).2.2.1) r2.1
  refine ⟨add_ok u Y.tx, List.nodup_cons.mpr ⟨hk, Y.nd⟩, z.1, Y.led.imp id fun y => ?_⟩
  show (tailTx _ _ _ _).2.2.led = true
  rw [z.2, r2.2]
  exact y
/-- a text that is there already -/
theorem add_old {a : Addr} {T : String} {D : SD} {l : List Str} {k : Str} {u : Tok} {Q : Bool → Shared → Prop} (ho : s.heap.get? a = some (sObj T D)) (G : TxOk P w D l) (hk : k ∈ l) (hb : l.length < scanBound)
    (h : Q false s) : wpAny (model P w) A (setAddHashed a (.str k u) (hashStr w k)) Q E s := by
  obtain ⟨es, ep, t⟩ := D
  have e1 : (sObj T (es, ep, t)).data = .set es ep t := rfl
  have e2 : ElemsOf (strKind P w) es.toList := G.el
  have e3 : es.size < scanBound := Nat.lt_of_le_of_lt (Nat.le_of_eq G.sz) hb
  unfold setAddHashed setAddHashedIn
  refine wpAny_holding (wpAny_bind (wpAny_setState_of ho e1 G.fit ?_))
  dsimp only
  rw [byScan_of rfl e3 e2]
  simp only [↓reduceIte]
  unfold setAddByScan
  refine wpAny_bind (wpAny_bind (wpAny_rule (wpAny_bind (wpAny_setScan_of (knd := strKind P w) (k := k) (is_str k u) ho e1 G.fit e2 ?_))))
  cases hr : List.findIdx? (fun e => (strKind P w).is k e.2) es.toList with
  | some j => exact wpAny_pure (wpAny_pure h)
  | none =>
    obtain ⟨e, he, q⟩ := (G.mem k).mp hk
    rw [List.findIdx?_eq_none_iff.mp hr e he] at q
    cases q
/-- the walk that fills a set -/
theorem fill_walk {I : Addr} {fp wr : List Addr} {G : Array GenState → Array GenState → Prop} {n : Nat} {Pv : Nat → Value → Prop} {St : Nat → Shared → Prop} {R : Result → Shared → Prop}
    (W : WalksS P w A.in1 I fp wr G n Pv St) (Z : Addr) (hZ : Z ∉ fp) (ks : List Str) (hn : n = ks.length) (hb : ks.length + 1 < scanBound) (hval : ∀ i v, Pv i v → ∃ k t, ks[i]? = some k ∧ v = .str k t) :
    ∀ (k i : Nat) (s : Shared), n - i = k → i ≤ n → St i s → (∃ D l, s.heap.get? Z = some (sObj "set" D) ∧ Held P w D l ∧ (∀ x, x ∈ l ↔ x ∈ ks.take i) ∧ l.length ≤ i) →
      (∀ s' D l, Moved (Z :: wr) G s s' → s'.heap.get? Z = some (sObj "set" D) → Held P w D l → (∀ x, x ∈ l ↔ x ∈ ks) → l.length ≤ n → R (.ok (.ret .none)) s') →
      codeAny (model P w) A (.builtin "set.update.loop" ⟨[.ref Z, .ref I], []⟩) R s := by
  have hZw : Z ∉ wr := fun h => hZ (W.sub _ h)
  have up : ∀ b ∈ wr, b ∈ Z :: wr := fun b hb => List.mem_cons_of_mem _ hb
  intro k
  induction k with
  | zero =>
    intro i s hk hi hst ⟨D, l, hD, hY, hl, hc⟩ hR
    obtain rfl : i = n := by omega
    refine codeAny_builtin PyProof.Rows.F.entry_set_update_loop ?_
    rw [Around.under_plainId PyProof.Rows.F.plain_set_update_loop _]
    show wpAny _ A.in1 (pyNext (.ref I) >>= _) _ _ s
    refine wpAny_bind (W.done s _ _ hst fun s1 hm => ?_)
    rw [List.take_of_length_le (by omega)] at hl
    exact wpAny_pure (hR s1 D l (hm.mono up) (hm.heap Z _ hZw hD) hY hl hc)
  | succ k ih =>
    intro i s hk hi hst ⟨D, l, hD, hY, hl, hc⟩ hR
    have lt : i < n := by omega
    refine codeAny_builtin PyProof.Rows.F.entry_set_update_loop ?_
    rw [Around.under_plainId PyProof.Rows.F.plain_set_update_loop _]
    show wpAny _ A.in1 (pyNext (.ref I) >>= _) _ _ s
    refine wpAny_bind (W.item i s _ _ lt hst fun v s1 hP st1 hm => ?_)
    obtain ⟨z, t, hz, rfl⟩ := hval i v hP
    have hD1 := hm.heap Z _ hZw hD
    have htk : ∀ x, x ∈ ks.take (i + 1) ↔ x ∈ ks.take i ∨ x = z := fun x => by
      rw [List.take_add_one, hz]
      simp
    show wpAny _ A.in1 (holding [Value.str z t] (setAdd Z (.str z t)) >>= _) _ _ s1
    refine wpAny_bind (wpAny_holding ?_)
    unfold setAdd
    refine wpAny_holding (wpAny_bind ((strKind P w).pyHash (k := z) (is_str z t) ?_))
    by_cases hz1 : z ∈ l
    · refine add_old (s := { s1 with toks := s1.toks + 1 }) hD1 hY.tx hz1 (by omega) ?_
      refine wpAny_pure ⟨plainId_quiet PyProof.Rows.F.plain_set_update_loop _, ih (i + 1) _ (by omega) lt (W.frame _ s1 s1.heap _ st1 (Nat.le_succ _) fun b hb o e => e) ⟨D, l, hD1, hY, fun x => ?_, by omega⟩ fun s2 D2 l2 hm2 => hR s2 D2 l2 (Moved.trans W.gtrans ((hm.mono up).then_heap (Nat.le_succ _) fun b o hb e => e) hm2)⟩
      rw [htk, ← hl x]
      exact ⟨.inl, fun y => y.elim id fun e => e ▸ hz1⟩
    · refine add_x (s := { s1 with toks := s1.toks + 1 }) hD1 hY.tx hz1 (by omega) ?_
      have hg : ∀ b : Addr, b ≠ Z → ∀ o, s1.heap.get? b = some o → (s1.heap.update Z (fun _ => sObj "set" (addTx (hashStr w z) (.str z t) D))).get? b = some o := fun b hb o e => (Heap.SameBut.update (h := s1.heap) (a := Z) _).2 b hb ▸ e
      refine wpAny_pure ⟨plainId_quiet PyProof.Rows.F.plain_set_update_loop _, ih (i + 1) _ (by omega) lt (W.frame _ s1 _ _ st1 (Nat.le_succ _) fun b hb o e => hg b (fun h => hZ (by rw [← h]; exact hb)) o e)
        ⟨_, z :: l, get_upd _ hD1 rfl, held_add t hY hz1, fun x => ?_, by rw [List.length_cons]; omega⟩ fun s2 D2 l2 hm2 => hR s2 D2 l2 (Moved.trans W.gtrans ((hm.mono up).then_heap (Nat.le_succ _) fun b o hb e => hg b (fun h => hb (by rw [h]; exact List.mem_cons_self)) o e) hm2)⟩
      rw [htk, ← hl x, List.mem_cons]
      exact Or.comm
theorem held_new {led : Bool} (h : w.params.followText "set-order" = true ∨ led = true) : Held P w (#[], 0, SetTable.fresh 0 0 led) [] := ⟨TxOk.nil rfl, List.nodup_nil, List.Pairwise.nil, h⟩
end
end Tst

noncomputable section
namespace Tst
open PySem PySem.Spec PyProof.Rows L2 PySem.Froz
section
variable {P : Program} {w : World} {A : Around} {E : Value → Shared → Prop} {s : Shared}
/-- a fresh set's object -/
def newS (w : World) : Obj := { cls := .type "set", dict := none, data := .set #[] 0 (.fresh 0 0 (!w.params.followText "set-order")) }
theorem newS_held : Held P w (#[], 0, SetTable.fresh 0 0 (!w.params.followText "set-order")) [] := held_new (by
  cases w.params.followText "set-order"
  · exact .inr rfl
  · exact .inl rfl)
theorem strs_ix : ∀ {us : List Value} {ks : List Str}, StrsAre us ks → ∀ (i : Nat) (v : Value), us[i]? = some v → ∃ k t, ks[i]? = some k ∧ v = .str k t := by
  intro us ks h
  induction h with
  | nil => intro i v e; cases e
  | cons k t _ ih =>
    intro i v e
    cases i with
    | zero =>
      injection e with e
      exact ⟨k, t, rfl, e.symm⟩
    | succ i => exact ih i v e
set_option maxHeartbeats 3200000 in
/-- set(l), l a list of texts -/
theorem call_setT {l : Addr} {its : Array Value} {ks : List Str} {Q : Value → Shared → Prop} (hh : A.handled = none) (hl : s.heap.IsList l its) (hi : StrsAre its.toList ks) (hb : ks.length + 1 < scanBound)
    (q : ∀ (h' : Heap) (tk : Nat) (D : SD) (l : List Str), h'.get? s.heap.objs.size = some (sObj "set" D) → Held P w D l → (∀ x, x ∈ l ↔ x ∈ ks) → l.length ≤ ks.length → (∀ b o, s.heap.get? b = some o → h'.get? b = some o) →
      Q (.ref s.heap.objs.size) { s with heap := h', toks := tk }) : wpAny (model P w) A (call (.type "set") [.ref l]) Q E s := by
  have isz : its.size = ks.length := by
    have e := hi.length
    rw [Array.length_toList] at e
    exact e
  have ⟨c, tl, hmro⟩ := F.called_set.mro
  have hmade := F.called_set.made; have hsub := F.called_set.sub
  have h1 := F.called_set.notType; have h2 := F.called_set.canCreate; have hct := F.typeCall_set_1 (.ref l)
  refine wpAny_call (codeAny_of_tree ?_)
  show wpAny _ _ (callAny (.type "set") ⟨[.ref l], []⟩) _ _ s
  refine wpAny_pure ⟨Code.quiet_builtin _ (by decide +kernel), codeAny_builtin F.entry_type_call ?_⟩
  rw [Around.under_plain (weight_type_call_type "set" [Value.ref l] []) rfl]
  repeat (any_goals (first | assumption | wp_step))
  refine codeAny_mono (code_set_led1 (.ref l) (E := E) (Q₁ := fun v s1 => v = .ref s.heap.objs.size ∧ s1 = { s with heap := s.heap.push (newS w) }) ⟨rfl, rfl⟩) fun r s1 hr => ?_
  cases r with
  | error e => exact hr
  | ok fl =>
    cases fl with
    | ret obj =>
      obtain ⟨rfl, rfl⟩ := hr
      have hN : (s.heap.push (newS w)).get? s.heap.objs.size = some (newS w) := Heap.get?_push_size _ rfl
      have hT : Shared.TypeIs { s with heap := s.heap.push (newS w) } (.ref s.heap.objs.size) "set" := ⟨_, hN, rfl⟩
      have hli := F.called_set.init.lookup; have hbi := F.called_set.init.bind (.ref s.heap.objs.size)
      repeat (any_goals (first | assumption | wp_step))
      refine codeAny_mono (codeAny_call_builtin (R := wants (fun r s2 => r = .none ∧ ∃ h' tk D l, s2 = { s with heap := h', toks := tk } ∧ h'.get? s.heap.objs.size = some (sObj "set" D) ∧ Held P w D l ∧ (∀ x, x ∈ l ↔ x ∈ ks) ∧
        l.length ≤ ks.length ∧ ∀ b o, s.heap.get? b = some o → h'.get? b = some o) E) F.called_set.init.plain F.entry_set_init (check_set_init_1 hT ?_)) fun r2 s2 hr2 => ?_
      · obtain ⟨⟨ocls, odict, odata, oslots⟩, hol, hcl, nl, hdl⟩ := hl
        simp only at hcl hdl
        subst hcl; subst hdl
        have hol1 : (s.heap.push (newS w)).get? l = some { cls := .type "list", dict := odict, data := .seq its nl, slots := oslots } := Heap.get?_push_of_some _ hol
        have hsls := F.sub_list_set; have hslf := F.sub_list_frozenset
        have hne : ((Value.type "list") == (Value.type "dict")) = false := by decide
        have hl1 : (s.heap.push (newS w)).IsList l its := ⟨_, hol1, rfl, nl, rfl⟩
        unfold Builtin.«set.__init__» noKeywords Builtin.Frozenset.updateFrom
        generalize hPI : pyIter = PI
        wp_walk
        subst hPI
        refine wpAny_pyIter_list hl1 (wpAny_bind (wpAny_runValue ?_))
        have lS : l < s.heap.objs.size := Heap.lt_size hol
        have h3 : A.in1.in1.in1.handled = none := by simp only [Around.in1]; exact hh
        have hsz : (s.heap.push (newS w)).objs.size = s.heap.objs.size + 1 := Heap.size_push ..
        have lI : l ≠ (s.heap.push (newS w)).objs.size := by rw [hsz]; exact Nat.ne_of_lt (Nat.lt_succ_of_lt lS)
        have hZ : s.heap.objs.size ∉ [(s.heap.push (newS w)).objs.size, l] := fun z => by
          rcases List.mem_cons.mp z with z | z
          · exact absurd (z.trans hsz) (Nat.ne_of_lt (Nat.lt_succ_self _))
          · exact absurd (List.mem_singleton.mp z) (Nat.ne_of_gt lS)
        refine fill_walk ((Walks.list h3 _ l lI its).toS) s.heap.objs.size hZ ks isz hb (fun i v hv => strs_ix hi i v (by rw [Array.getElem?_toList]; exact hv)) (its.size - 0) 0 _ (by omega) (Nat.zero_le _)
          ⟨⟨_, Heap.get?_push_size _ rfl, rfl, rfl⟩, hl1.push _⟩ ⟨(#[], 0, SetTable.fresh 0 0 (!w.params.followText "set-order")), [], Heap.get?_push_of_some _ hN, newS_held, fun x => by simp, Nat.le_refl _⟩ fun s3 D m hm h5 hY hl5 hc => ?_
        obtain ⟨h', g2, d2, tk2, os2⟩ := s3
        obtain rfl : g2 = s.gens := hm.gens
        obtain rfl : d2 = s.drawn := hm.drawn
        obtain rfl : os2 = s.os := hm.os
        refine wpAny_pure ?_
        show wpAny _ _ (ret Value.none) _ _ _
        refine wpAny_pure ⟨rfl, h', tk2, D, m, rfl, h5, hY, hl5, by omega, fun b o e => ?_⟩
        have hb0 : b < s.heap.objs.size := Heap.lt_size e
        refine hm.heap b o (fun z => ?_) (Heap.get?_push_of_some _ (Heap.get?_push_of_some _ e))
        rcases List.mem_cons.mp z with z | z
        · exact absurd z (Nat.ne_of_lt hb0)
        · exact absurd ((List.mem_singleton.mp z).trans hsz) (Nat.ne_of_lt (Nat.lt_succ_of_lt hb0))
      · cases r2 with
        | error e => exact hr2
        | ok fl2 =>
          cases fl2 with
          | ret r =>
            obtain ⟨rfl, h', tk, D, m, rfl, g1, g2, g3, g4, g5⟩ := hr2
            repeat (any_goals (first | assumption | wp_step))
            exact q _ _ _ _ g1 g2 g3 g4 g5
          | _ => exact hr2.elim
    | _ => exact hr.elim
end
end Tst

noncomputable section
namespace Tst
open PySem PySem.Spec PyProof.Rows L2 PySem.Froz
/-- a set of texts in the hand layer's heap -/
def TSet (P : Program) (w : World) (a : Addr) (l : List Str) : HO := .ext fun h => ∃ D, h.get? a = some (sObj "set" D) ∧ Held P w D l
theorem strs_rel : ∀ {ks : List Str} {us : List Value}, Vals (ks.map V.str) us → StrsAre us ks
  | [], us, h => by cases h; exact .nil
  | k :: ks, _, h => by
    cases h with
    | cons r t =>
      obtain ⟨u, rfl⟩ := r
      exact .cons k u (strs_rel t)
theorem perm_sub : ∀ {l k : List Str}, l.Nodup → (∀ x ∈ l, x ∈ k) → k.length ≤ l.length → l.Perm k
  | [], k, _, _, h => by
    cases k with
    | nil => exact .nil
    | cons _ _ => exact absurd h (by simp)
  | x :: l, k, nd, hs, h => by
    obtain ⟨n1, n2⟩ := List.nodup_cons.mp nd
    have hx := hs x List.mem_cons_self
    have p := List.perm_cons_erase hx
    refine (List.Perm.cons x (perm_sub n2 (fun y hy => ?_) ?_)).trans p.symm
    · exact (List.mem_erase_of_ne (fun e => n1 (by rw [← e]; exact hy))).mpr (hs y (List.mem_cons_of_mem _ hy))
    · have := p.length_eq
      rw [List.length_cons] at this h
      omega
section
variable {X : Cx}
theorem call_setTL (hc : X.calm = true) : CallR X (.type "set") (fun xs H Q => ∃ (a : Addr) (ks : List Str), xs = [.ref a] ∧ H a = some (.lst (ks.map V.str)) ∧ ks.length + 1 < scanBound ∧
    ∀ p l, H p = none → l.Nodup → (∀ x, x ∈ l ↔ x ∈ ks) → l.length ≤ ks.length → Q (.ref p) (upd H p (TSet X.prog X.w p l))) := by
  intro pins s σ H xs us Q I r q
  obtain ⟨a, ks, rfl, ha, hb, q⟩ := q
  obtain ⟨u, rfl, rx⟩ := vals1 r
  cases rx
  obtain ⟨_, its, n, hv, hg⟩ := I.hok a _ ha
  refine call_setT (its := its.toArray) (ks := ks) (I.ok.hd hc) ⟨_, hg, rfl, n, rfl⟩ (strs_rel hv) hb fun h' tk D l g1 g2 g3 g4 g5 => ?_
  exact ⟨.ref s.heap.objs.size, upd H s.heap.objs.size (TSet X.prog X.w s.heap.objs.size l), I.laid (t' := tk) g5 (Nat.le_refl _)
    (show ObjOk X.prog X.w _ _ _ (TSet X.prog X.w _ l) from ⟨⟨D, g1, g2⟩, ⟨_, g1⟩, fun h1 h2 y k => let ⟨D, e, z⟩ := y; ⟨D, k _ e, z⟩⟩), rfl, q _ l (I.hok.fresh (Nat.le_refl _)) g2.nd g3 g4⟩
/-- the texts that the payload holds -/
def txtOf (v : Value) : Str := match v with
  | .str s _ => s
  | _ => ⟨#[]⟩
theorem held_vals {P : Program} {w : World} {D : SD} {l : List Str} (Y : Held P w D l) : (∀ v ∈ D.1.toList.map (·.2), ∃ t, v = .str (txtOf v) t) ∧ ((D.1.toList.map (·.2)).map txtOf).Perm l := by
  have one : ∀ e ∈ D.1.toList, ∃ k t, e.2 = .str k t ∧ k ∈ l := fun e he => by
    obtain ⟨⟨k, hk, _⟩, _⟩ := Y.tx.el e he
    obtain ⟨t, ht⟩ := Value.isStrOf_shape hk
    exact ⟨k, t, ht, (Y.tx.mem k).mpr ⟨e, he, hk⟩⟩
  refine ⟨fun v hv => ?_, ?_⟩
  · obtain ⟨e, he, rfl⟩ := List.mem_map.mp hv
    obtain ⟨k, t, h1, _⟩ := one e he
    exact ⟨t, by rw [h1]; rfl⟩
  · refine (perm_sub Y.nd (fun k hk => ?_) (by rw [List.length_map, List.length_map, Array.length_toList, Y.tx.sz]; exact Nat.le_refl _)).symm
    obtain ⟨e, he, h2⟩ := (Y.tx.mem k).mp hk
    obtain ⟨t, ht⟩ := Value.isStrOf_shape h2
    exact List.mem_map.mpr ⟨e.2, List.mem_map.mpr ⟨e, he, rfl⟩, by rw [ht]; rfl⟩
theorem strs_map : ∀ {us : List Value}, (∀ v ∈ us, ∃ t, v = .str (txtOf v) t) → StrsAre us (us.map txtOf)
  | [], _ => .nil
  | v :: us, h => by
    obtain ⟨t, e⟩ := h v List.mem_cons_self
    have z := StrsAre.cons (txtOf v) t (strs_map fun u hu => h u (List.mem_cons_of_mem _ hu))
    rw [← e] at z
    exact z
theorem call_sortedT (hc : X.calm = true) : CallR X (.builtin "sorted") (fun xs H Q => ∃ (a : Addr) (l : List Str), xs = [.ref a] ∧ H a = some (TSet X.prog X.w a l) ∧ l.length < 64 ∧
    ∀ ys p, ys.Perm l → sortedS ys = true → H p = none → Q (.ref p) (upd H p (.lst (ys.map V.str)))) := by
  intro pins s σ H xs us Q I r q
  obtain ⟨a, l, rfl, ha, h64, q⟩ := q
  obtain ⟨u, rfl, rx⟩ := vals1 r
  cases rx
  obtain ⟨⟨D, hD, Y⟩, _⟩ := (I.hok a _ ha : ObjOk X.prog X.w _ _ _ (TSet X.prog X.w a l))
  have n1 : D.1.size = l.length := Y.tx.sz
  have sb : D.1.size < scanBound := by
    rw [n1]
    exact Nat.lt_of_lt_of_le h64 (by decide)
  refine Calls.call_function_entry PyProof.Rows.kind_sorted PyProof.Rows.plain_sorted PyProof.Rows.entry_sorted (PyProof.Rows.args_sorted1 (.ref a)) ?_
  unfold Builtin.«sorted»
  refine wpAny_bind (m := checkCount "sorted" 1 1 _) (wpAny_pure (wpAny_bind (collect_set (A := X.A.in1) (I.ok.hd hc) ⟨_, hD, rfl, rfl⟩ Y.tx.fit sb Y.ris Y.led fun s1 vs k1 z1 g1 o1 pm => ?_)))
  have hv := held_vals Y
  have vS : StrsAre vs (vs.map txtOf) := strs_map fun v z => hv.1 v (pm.mem_iff.mp z)
  have vP : (vs.map txtOf).Perm l := (pm.map txtOf).trans hv.2
  have vl : vs.length = l.length := by
    rw [← vP.length_eq, List.length_map]
  have zl : vs.length ≤ sizeLine := by rw [vl, sizeLine_eq]; omega
  refine wpAny_bind (wpAny_newList ?_ zl)
  have hoL : (s1.heap.push (seqObj "list" vs.toArray 0)).get? s1.heap.objs.size = some (seqObj "list" vs.toArray 0) := Heap.get?_push_size _ rfl
  show wpAny _ _ _ _ _ { s1 with heap := s1.heap.push (seqObj "list" vs.toArray 0) }
  refine wpAny_bind (wpAny_holding (wpAny_call_entry PyProof.Rows.slot_list_sort ⟨_, hoL, rfl⟩ PyProof.Rows.entry_list_sort
    (list_sort_treeK strKind_oneLt (s := { s1 with heap := s1.heap.push (seqObj "list" vs.toArray 0) }) hoL vS.keysOf (fun v1 v2 rest e => keyKind_strs (ss := vs.map txtOf) (by rw [← e]; exact vS)) (by rw [vl]; exact h64) fun st' hp hs => ⟨_, rfl, ?_⟩)
    (PyProof.Rows.args_list_sort _)))
  obtain ⟨ys, q1, q2, q3⟩ := sorted_out_str vS hp hs
  obtain ⟨e', he'⟩ := PyProof.Rows.sortedHeap_at (vs := vs) (out := (arrOf st').map (·.2)) hoL
  have yl : (ys.map V.str).length ≤ sizeLine := by
    rw [List.length_map, q2.length_eq, List.length_map]
    exact zl
  have hn : H s1.heap.objs.size = none := I.hok.fresh z1
  have gr : ∀ b u, s.heap.get? b = some u → (sortedHeap (s1.heap.push (seqObj "list" vs.toArray 0)) s1.heap.objs.size vs ((arrOf st').map (·.2))).get? b = some u := fun b u e => by
    have h1 := k1 b u e
    have h2 := Heap.lt_size h1
    rw [PyProof.Rows.sortedHeap_old (Nat.ne_of_lt h2) (by rw [size_push']; exact Nat.lt_succ_of_lt h2)]
    exact Heap.get?_push_of_some _ h1
  have J : Inv X pins σ (upd H s1.heap.objs.size (.lst (ys.map V.str))) { s with heap := sortedHeap (s1.heap.push (seqObj "list" vs.toArray 0)) s1.heap.objs.size vs ((arrOf st').map (·.2)), gens := s1.gens, drawn := s1.drawn, toks := s1.toks } :=
    I.call (ch := []) (Un.laid gr z1 hn) (I.hok.laid gr z1 ⟨yl, ((arrOf st').map (·.2)).toList, e', vals_of_strs q1, by rw [Array.toArray_toList]; exact he'⟩) (by rw [g1]; exact I.bare) (fun _ z => nomatch z)
  have q' := q ys s1.heap.objs.size (q2.trans vP) q3 hn
  cases s1
  cases s
  cases g1
  cases o1
  exact wpAny_pure ⟨_, rfl, .ref _, _, J, rfl, q'⟩
end
end Tst

namespace Mw
open PySem L2
def files4 : List Str := ["files", "b", "a", "z"]
def mkeys4 : List Str := ["z", "more", "files", "a"]
def codes3 : List Str := ["ga", "de", "ar"]
theorem menus_ok : (∀ n ∈ files4, n ∈ kU) ∧ (∀ n ∈ mkeys4, n ∈ kU) ∧ (∀ n ∈ codes3, n ∈ cU) ∧ files4.Nodup ∧ mkeys4.Nodup ∧ codes3.Nodup := by decide +kernel
theorem Ents.kp {H H' : Hp} (e : Kp H H') {S : Msgs} {kvs : List (L2.Key × V)} (h : Ents H S kvs) : Ents H' S kvs := h.mono fun _ _ z => z.kp e
theorem box_dk {H : Hp} {B b d : Addr} {kvs : List (L2.Key × V)} (hb : Box H B b) (h : H d = some (.dK kvs)) : d ≠ B ∧ d ≠ b := by
  obtain ⟨ds, i, e, e2, _⟩ := hb
  constructor
  · rintro rfl
    rw [h] at e
    cases e
  · rintro rfl
    rw [h] at e2
    cases e2
theorem Dm.go {B b d : Addr} {H H' : Hp} {S : Msgs} (hb : Box H B b) (g : Go B H H') (h : Dm H d S) : Dm H' d S := by
  obtain ⟨kvs, h1, h2⟩ := h
  exact ⟨kvs, g.ext _ _ (box_dk hb h1).1 h1, h2.kp (Kp.go hb g)⟩
theorem Dm.updD {d d' : Addr} {H : Hp} {S : Msgs} {kv' : List (L2.Key × V)} (n : d ≠ d') (hd' : H d' = some (.dK kv')) (o : HO) (h : Dm H d S) : Dm (upd H d' o) d S := by
  obtain ⟨kvs, h1, h2⟩ := h
  exact ⟨kvs, by rw [upd_ne n]; exact h1, h2.kp (Kp.dict hd' o)⟩
theorem Ents2.go {B b : Addr} {H H' : Hp} {C : Cata} {kvs : List (L2.Key × V)} (hb : Box H B b) (g : Go B H H') (h : Ents2 H C kvs) : Ents2 H' C kvs := h.mono fun _ _ z => z.go hb g
theorem Ents2.updE {d' : Addr} {H : Hp} {kv' : List (L2.Key × V)} (hd' : H d' = some (.dK kv')) (o : HO) : ∀ {C : Cata} {kvs : List (L2.Key × V)}, (∀ q ∈ kvs, q.2 ≠ .ref d') → Ents2 H C kvs → Ents2 (upd H d' o) C kvs
  | [], _, _, e => e
  | _ :: _, _, n, ⟨a, r, e, x, y⟩ => by
    subst e
    refine ⟨a, r, rfl, x.updD (fun z => n _ List.mem_cons_self (by rw [z])) hd' o, Ents2.updE hd' o (fun q hq => n q (List.mem_cons_of_mem _ hq)) y⟩
theorem Ents.snoc {H : Hp} {k : Str} {a : Addr} {t : T} (h : At H a t) : ∀ {S : Msgs} {kvs : List (L2.Key × V)}, Ents H S kvs → Ents H (S ++ [(k, t)]) (kvs ++ [(Sum.inr k, .ref a)])
  | [], _, e => by
    rw [show _ = [] from e]
    exact ⟨a, [], rfl, h, rfl⟩
  | _ :: _, _, ⟨x, r, e, y, z⟩ => ⟨x, r ++ [(Sum.inr k, .ref a)], by rw [e]; rfl, y, Ents.snoc h z⟩
theorem Ents2.snoc {H : Hp} {k : Str} {a : Addr} {M : Msgs} (h : Dm H a M) : ∀ {C : Cata} {kvs : List (L2.Key × V)}, Ents2 H C kvs → Ents2 H (C ++ [(k, M)]) (kvs ++ [(Sum.inr k, .ref a)])
  | [], _, e => by
    rw [show _ = [] from e]
    exact ⟨a, [], rfl, h, rfl⟩
  | _ :: _, _, ⟨x, r, e, y, z⟩ => ⟨x, r ++ [(Sum.inr k, .ref a)], by rw [e]; rfl, y, Ents2.snoc h z⟩
theorem Ents2.dicts {H : Hp} : ∀ {C : Cata} {kvs : List (L2.Key × V)}, Ents2 H C kvs → ∀ q ∈ kvs, ∃ a kv, q.2 = .ref a ∧ H a = some (.dK kv)
  | [], _, e, q, hq => by
    rw [show _ = [] from e] at hq
    cases hq
  | _ :: _, _, ⟨x, r, e, ⟨kv, y, _⟩, z⟩, q, hq => by
    subst e
    rcases List.mem_cons.mp hq with rfl | hq
    · exact ⟨x, kv, rfl, y⟩
    · exact Ents2.dicts z q hq
theorem val_none {kvs : List (L2.Key × V)} {ks : List Str} {k : Str} (h : kvs.map (·.1) = ks.map Sum.inr) (n : k ∉ ks) : valV kvs (Sum.inr k) = none := by
  cases e : valV kvs (Sum.inr k) with
  | none => rfl
  | some v =>
    unfold valV at e
    cases e2 : kvs.find? fun kv => decide (kv.1 = Sum.inr k) with
    | none => rw [e2] at e; cases e
    | some p =>
      have h1 := List.mem_of_find?_eq_some e2
      have h2 : p.1 = Sum.inr k := by
        have := List.find?_some e2
        simpa using this
      have h3 : p.1 ∈ kvs.map (·.1) := List.mem_map_of_mem h1
      rw [h, h2] at h3
      obtain ⟨x, hx, ex⟩ := List.mem_map.mp h3
      rw [Sum.inr.inj ex] at hx
      exact absurd hx n
theorem val_last {kvs : List (L2.Key × V)} {ks : List Str} {k : Str} {v : V} (h : kvs.map (·.1) = ks.map Sum.inr) (n : k ∉ ks) : valV (kvs ++ [(Sum.inr k, v)]) (Sum.inr k) = some v := by
  have := val_none h n
  unfold valV at this ⊢
  rw [Option.map_eq_none_iff] at this
  rw [List.find?_append, this]
  simp
theorem Dm.put {H : Hp} {d a : Addr} {S : Msgs} {k : Str} {t : T} {kvs : List (L2.Key × V)} (hd : H d = some (.dK kvs)) (en : Ents H S kvs) (n : k ∉ S.map (·.1)) (h : At H a t) : Dm (upd H d (.dK (putK kvs (Sum.inr k) (.ref a)))) d (S ++ [(k, t)]) := by
  rw [putK_new _ (val_none en.keys n)]
  refine ⟨_, upd_same, (Ents.snoc (h.kp (Kp.dict hd _)) (en.kp (Kp.dict hd _)))⟩
theorem sub_new {l ks : List Str} {i : Nat} {k : Str} (nd : l.Nodup) (h : ks.Sublist (l.take i)) (hk : l[i]? = some k) : k ∉ ks ∧ (ks ++ [k]).Sublist (l.take (i + 1)) := by
  refine ⟨fun z => ?_, ?_⟩
  · have z := h.subset z
    obtain ⟨j, hj⟩ := List.mem_iff_getElem?.mp z
    have hji : j < i := by
      by_cases c : j < i
      · exact c
      · rw [List.getElem?_take_eq_none (by omega)] at hj
        cases hj
    rw [List.getElem?_take_of_lt hji] at hj
    exact absurd (nodup_ix nd hj hk) (by omega)
  · rw [List.take_succ, hk]
    exact h.append (List.Sublist.refl _)
theorem sub_stay {l ks : List Str} {i : Nat} (h : ks.Sublist (l.take i)) : ks.Sublist (l.take (i + 1)) := take_mono h
/-- the message that stands for one that can't be told -/
def showX : T := .shw "x" .nil
theorem showX_ok : Gt showX ∧ ∃ ls, go [] showX.asks = .ok ls := by
  refine ⟨⟨⟨rfl, trivial⟩, ⟨n5_v _ (by decide +kernel), trivial⟩, by decide, fun p hp => ?_, by decide⟩, [("x", "any")], by rfl⟩
  have hp : p ∈ [(("x" : Str), ("any" : Str))] := hp
  rw [List.mem_singleton.mp hp]
  show ("x" : Str) ∈ names5
  decide +kernel
/-- the source as it grows -/
structure Src (H : Hp) (d : Addr) (S : Msgs) (i : Nat) : Prop where
  at_ : Dm H d S
  sub : (S.map (·.1)).Sublist (files4.take i)
  gd : GoodS S
/-- a catalog as it grows: the codes that are done -/
structure Cas (H : Hp) (d : Addr) (C : Cata) (cs : List Str) : Prop where
  at_ : CatAt H d C
  ks : C.map (·.1) = cs
  ms : ∀ p ∈ C, (p.2.map (·.1)).Sublist mkeys4 ∧ GoodM p.2
theorem Src.ok {H : Hp} {d e : Addr} {S : Msgs} {C : Cata} {n : Nat} (a : Src H d S 4) (b : Cas H e C (codes3.take n)) : CatOk S C := by
  obtain ⟨m1, m2, m3, n1, n2, n3⟩ := menus_ok
  have s4 : (S.map (·.1)).Sublist files4 := a.sub
  refine ⟨fun n hn => m1 n (s4.subset hn), n1.sublist s4, a.gd, fun n hn => ?_, ?_, fun p hp => ?_⟩
  · rw [b.ks] at hn
    exact m3 n (List.mem_of_mem_take hn)
  · rw [b.ks]
    exact n3.sublist (List.take_sublist _ _)
  · obtain ⟨c1, c2⟩ := b.ms p hp
    exact ⟨fun n hn => m2 n (c1.subset hn), n2.sublist c1, c2⟩
theorem cat_go {B b e : Addr} {H H' : Hp} {C : Cata} (hb : Box H B b) (g : Go B H H') (h : CatAt H e C) : CatAt H' e C := by
  obtain ⟨kvs, h1, h2⟩ := h
  exact ⟨kvs, g.ext _ _ (box_dk hb h1).1 h1, h2.go hb g⟩
theorem Src.go {B b d : Addr} {H H' : Hp} {S : Msgs} {i : Nat} (hb : Box H B b) (g : Go B H H') (h : Src H d S i) : Src H' d S i := ⟨h.at_.go hb g, h.sub, h.gd⟩
theorem Src.same {d : Addr} {H H' : Hp} {S : Msgs} {i : Nat} (s : Same H H') (h : Src H d S i) : Src H' d S i := ⟨h.at_.same s, h.sub, h.gd⟩
theorem Cas.go {B b d : Addr} {H H' : Hp} {C : Cata} {cs : List Str} (hb : Box H B b) (g : Go B H H') (h : Cas H d C cs) : Cas H' d C cs := ⟨cat_go hb g h.at_, h.ks, h.ms⟩
theorem Cas.same {d : Addr} {H H' : Hp} {C : Cata} {cs : List Str} (s : Same H H') (h : Cas H d C cs) : Cas H' d C cs := ⟨h.at_.same s, h.ks, h.ms⟩
/-- a catalog within a turn: the last code's dict is being filled -/
structure Cat1 (H : Hp) (e S di : Addr) (C : Cata) (cs : List Str) (c : Str) (M : Msgs) (j : Nat) : Prop where
  at_ : ∃ ckv, H e = some (.dK (ckv ++ [(Sum.inr c, .ref di)])) ∧ Ents2 H C ckv ∧ ∀ q ∈ ckv, q.2 ≠ .ref di
  ks : C.map (·.1) = cs
  ms : ∀ p ∈ C, (p.2.map (·.1)).Sublist mkeys4 ∧ GoodM p.2
  nw : c ∉ cs
  dm : Dm H di M
  sub : (M.map (·.1)).Sublist (mkeys4.take j)
  gd : GoodM M
  n1 : e ≠ di
  n2 : S ≠ di
  n3 : S ≠ e
theorem Cat1.go {B b e S di : Addr} {H H' : Hp} {C : Cata} {cs : List Str} {c : Str} {M : Msgs} {j : Nat} (hb : Box H B b) (g : Go B H H') (h : Cat1 H e S di C cs c M j) : Cat1 H' e S di C cs c M j := by
  obtain ⟨ckv, h1, h2, h3⟩ := h.at_
  exact ⟨⟨ckv, g.ext _ _ (box_dk hb h1).1 h1, h2.go hb g, h3⟩, h.ks, h.ms, h.nw, h.dm.go hb g, h.sub, h.gd, h.n1, h.n2, h.n3⟩
theorem Cat1.same {e S di : Addr} {H H' : Hp} {C : Cata} {cs : List Str} {c : Str} {M : Msgs} {j : Nat} (s : Same H H') (h : Cat1 H e S di C cs c M j) : Cat1 H' e S di C cs c M j := by
  obtain ⟨ckv, h1, h2, h3⟩ := h.at_
  exact ⟨⟨ckv, s _ _ h1, h2.mono fun _ _ z => z.same s, h3⟩, h.ks, h.ms, h.nw, h.dm.same s, h.sub, h.gd, h.n1, h.n2, h.n3⟩
theorem Cat1.step {e S di : Addr} {H : Hp} {C : Cata} {cs : List Str} {c : Str} {M : Msgs} {j : Nat} (h : Cat1 H e S di C cs c M j) : Cat1 H e S di C cs c M (j + 1) := ⟨h.at_, h.ks, h.ms, h.nw, h.dm, sub_stay h.sub, h.gd, h.n1, h.n2, h.n3⟩
/-- the last code's dict -/
theorem Cat1.get {e S di : Addr} {H : Hp} {C : Cata} {cs : List Str} {c : Str} {M : Msgs} {j : Nat} (h : Cat1 H e S di C cs c M j) : DGet H e (.str c) (some (.ref di)) := by
  obtain ⟨ckv, h1, h2, _⟩ := h.at_
  exact .inl ⟨_, Sum.inr c, .inl h1, rfl, (val_last (ks := cs) (by rw [h2.keys, h.ks]) h.nw).symm⟩
theorem Cat1.put {e S di a : Addr} {H : Hp} {C : Cata} {cs : List Str} {c k : Str} {M : Msgs} {j : Nat} {t : T} (h : Cat1 H e S di C cs c M j) (hk : mkeys4[j]? = some k) (ha : At H a t) (g : Gt t) :
    ∃ kvs, H di = some (.dK kvs) ∧ kvs.length ≤ 5 ∧ Cat1 (upd H di (.dK (putK kvs (Sum.inr k) (.ref a)))) e S di C cs c (M ++ [(k, t)]) (j + 1) := by
  obtain ⟨kvs, d1, d2⟩ := h.dm
  obtain ⟨ckv, h1, h2, h3⟩ := h.at_
  obtain ⟨n1, n2⟩ := sub_new menus_ok.2.2.2.2.1 h.sub hk
  have hl : kvs.length ≤ 5 := by
    have e1 := congrArg List.length d2.keys
    rw [List.length_map, List.length_map] at e1
    have e2 := h.sub.length_le
    rw [List.length_take] at e2
    have e3 : mkeys4.length = 4 := rfl
    omega
  refine ⟨kvs, d1, hl, ⟨ckv, by rw [upd_ne h.n1]; exact h1, Ents2.updE d1 _ h3 h2, h3⟩, h.ks, h.ms, h.nw, Dm.put d1 d2 n1 ha, by rw [List.map_append]; exact n2, fun p hp => ?_, h.n1, h.n2, h.n3⟩
  rcases List.mem_append.mp hp with hp | hp
  · exact h.gd p hp
  · rw [List.mem_singleton.mp hp]
    exact g
theorem Cat1.done {e S di : Addr} {H : Hp} {C : Cata} {cs : List Str} {c : Str} {M : Msgs} (h : Cat1 H e S di C cs c M 4) : Cas H e (C ++ [(c, M)]) (cs ++ [c]) := by
  obtain ⟨ckv, h1, h2, _⟩ := h.at_
  refine ⟨⟨_, h1, Ents2.snoc h.dm h2⟩, by rw [List.map_append, h.ks]; rfl, fun p hp => ?_⟩
  rcases List.mem_append.mp hp with hp | hp
  · exact h.ms p hp
  · rw [List.mem_singleton.mp hp]
    exact ⟨h.sub, h.gd⟩
end Mw

namespace Mw
open PySem L2 Gg
/-! ### what is shown, and how long it is -/
/-- a row that is shown in few signs -/
structure Rw (d : PyData) : Prop where
  sh : d.showable = true
  nd : d.hasDict = false
  dp : d.depth ≤ 3
  ln : d.shown.length ≤ 300
theorem rows_sh : ∀ {ds : List PyData}, (∀ d ∈ ds, Rw d) → PyData.showableAll ds = true ∧ PyData.hasDictAll ds = false ∧ PyData.depthAll ds ≤ 3 ∧ slen (PyData.shownAll ds) ≤ 302 * ds.length
  | [], _ => ⟨rfl, rfl, by decide, by decide⟩
  | d :: ds, h => by
    obtain ⟨a1, a2, a3, a4⟩ := h d List.mem_cons_self
    obtain ⟨b1, b2, b3, b4⟩ := rows_sh fun e he => h e (List.mem_cons_of_mem _ he)
    refine ⟨?_, ?_, ?_, ?_⟩
    · simp only [PyData.showableAll, a1, b1, Bool.and_self]
    · simp only [PyData.hasDictAll, a2, b2, Bool.or_self]
    · simp only [PyData.depthAll]; omega
    · simp only [PyData.shownAll, slen_cons, List.length_cons]; omega
theorem list_sh {ds : List PyData} (h : ∀ d ∈ ds, Rw d) (hl : ds.length ≤ 1000) : Gg.Sh (.list ds) := by
  obtain ⟨a1, a2, a3, a4⟩ := rows_sh h
  have hb := list_len (PyData.shownAll ds)
  exact ⟨a1, a2, show PyData.depthAll ds + 1 ≤ 60 by omega, show (listText (PyData.shownAll ds)).length ≤ _ by omega⟩
/-- texts that rows hold -/
def wU : List Str := ["beyond", "without", "unlike", "bad", "lacks", "more", "m", "n", "w", "who", "x", "a", "b", "files", "z", "ar", "de", "ga"]
theorem wU_ok : ∀ s ∈ wU, (PyData.str s).shown.length ≤ 12 := by decide +kernel
theorem tup_rw {ds : List PyData} (h : ∀ d ∈ ds, (∃ s ∈ wU, d = .str s) ∨ d = .none) (hl : ds.length ≤ 4) : Rw (.tuple ds) := by
  have all : ∀ {ds : List PyData}, (∀ d ∈ ds, (∃ s ∈ wU, d = .str s) ∨ d = .none) → PyData.showableAll ds = true ∧ PyData.hasDictAll ds = false ∧ PyData.depthAll ds = 0 ∧ slen (PyData.shownAll ds) ≤ 14 * ds.length := by
    intro ds
    induction ds with
    | nil => intro _; exact ⟨rfl, rfl, rfl, by decide⟩
    | cons d ds ih =>
      intro h
      obtain ⟨b1, b2, b3, b4⟩ := ih fun e he => h e (List.mem_cons_of_mem _ he)
      have hd : d.showable = true ∧ d.hasDict = false ∧ d.depth = 0 ∧ d.shown.length ≤ 12 := by
        rcases h d List.mem_cons_self with ⟨s, hs, rfl⟩ | rfl
        · exact ⟨rfl, rfl, rfl, wU_ok s hs⟩
        · exact ⟨rfl, rfl, rfl, by decide +kernel⟩
      obtain ⟨a1, a2, a3, a4⟩ := hd
      refine ⟨?_, ?_, ?_, ?_⟩
      · simp only [PyData.showableAll, a1, b1, Bool.and_self]
      · simp only [PyData.hasDictAll, a2, b2, Bool.or_self]
      · simp only [PyData.depthAll, a3, b3, Nat.max_self]
      · simp only [PyData.shownAll, slen_cons, List.length_cons]; omega
  obtain ⟨a1, a2, a3, a4⟩ := all h
  have hb := tup_len (PyData.shownAll ds)
  exact ⟨a1, a2, show PyData.depthAll ds + 1 ≤ 3 by omega, show (tupleText (PyData.shownAll ds)).length ≤ 300 by omega⟩
/-! ### rows as data -/
def dAL (qs : List (Str × Str)) : PyData := .list (qs.map fun q => .tuple [.str q.1, .str q.2])
theorem AL.dp {K : PySem.W.Frag} {H : Hp} : ∀ {qs : List (Str × Str)} {vs : List V}, AL H qs vs → DpAll K H vs (qs.map fun q => .tuple [.str q.1, .str q.2])
  | [], _, h => by rw [show _ = [] from h]; exact .nil
  | q :: qs, _, ⟨a, ws, e, h, r⟩ => by
    rw [e]
    exact .cons (.tup (.inl (.inl h)) (.cons (.str _) (.cons (.str _) .nil))) (AL.dp r)
def dO : Option Str → PyData
  | some s => .str s
  | none => .none
def dR (q : R4) : PyData := .tuple [.str q.1, .str q.2.1, .str q.2.2.1, dO q.2.2.2]
def dAR (qs : List R4) : PyData := .list (qs.map dR)
theorem AR.dp {K : PySem.W.Frag} {H : Hp} : ∀ {qs : List R4} {vs : List V}, AR H qs vs → DpAll K H vs (qs.map dR)
  | [], _, h => by rw [show _ = [] from h]; exact .nil
  | q :: qs, _, ⟨a, ws, e, h, r⟩ => by
    rw [e]
    refine .cons (.tup (.inl (.inl h)) (.cons (.str _) (.cons (.str _) (.cons (.str _) (.cons ?_ .nil))))) (AR.dp r)
    cases q.2.2.2 with
    | none => exact .non
    | some s => exact .str s
/-- the words and names of faults -/
theorem mfE_w {ls : Ks} {tm : T} (hs : KsOk ls) (hn : allNames tm) : ∀ q ∈ mfE ls tm, q.1 ∈ wU ∧ q.2 ∈ wU := by
  have nw : ∀ n ∈ nU, n ∈ wU := by decide +kernel
  have kw : ∀ l : Ks, ∀ n ∈ keysU l, n ∈ wU := fun l n h => nw n (srt_mem.mp h).1
  have tg : ∀ (word : Str) (ns : List Str) (l : Ks) (p : Str → Bool), word ∈ wU → ns = (keysU l).filter p → ∀ q ∈ tag word ns, q.1 ∈ wU ∧ q.2 ∈ wU := by
    intro word ns l p hw e q hq
    obtain ⟨n, h, rfl⟩ := List.mem_map.mp hq
    rw [e] at h
    exact ⟨hw, kw l n (List.mem_filter.mp h).1⟩
  intro q hq
  unfold mfE at hq
  cases e : go [] tm.asks with
  | ok lm =>
    rw [e] at hq
    have hq : q ∈ mf ls lm := hq
    unfold mf at hq
    rcases List.mem_append.mp hq with hq | hq
    · rcases List.mem_append.mp hq with hq | hq
      · exact tg _ _ lm _ (by decide +kernel) rfl q hq
      · exact tg _ _ ls _ (by decide +kernel) rfl q hq
    · exact tg _ _ lm _ (by decide +kernel) rfl q hq
  | error n =>
    rw [e] at hq
    have hq : q ∈ [(("bad" : Str), n)] := hq
    rw [List.mem_singleton.mp hq]
    refine ⟨by show ("bad" : Str) ∈ wU; decide +kernel, ?_⟩
    have ge : ∀ {a l : Ks} {n : Str}, go l a = .error n → ∃ p ∈ a, p.1 = n := by
      intro a
      induction a with
      | nil => intro l n h; cases h
      | cons p r ih =>
        intro l n h
        have h : (match st l p with | some l' => go l' r | none => .error p.1) = Except.error n := h
        cases e2 : st l p with
        | none =>
          rw [e2] at h
          injection h with h
          exact ⟨p, List.mem_cons_self, h⟩
        | some l' =>
          rw [e2] at h
          obtain ⟨p2, h1, h2⟩ := ih h
          exact ⟨p2, List.mem_cons_of_mem _ h1, h2⟩
    obtain ⟨p, hp, rfl⟩ := ge e
    exact nw _ (n5_u _ (hn p hp))
theorem dAL_sh {qs : List (Str × Str)} (h : ∀ q ∈ qs, q.1 ∈ wU ∧ q.2 ∈ wU) (hl : qs.length ≤ 15) : Gg.Sh (dAL qs) := by
  refine list_sh (fun d hd => ?_) (by rw [List.length_map]; omega)
  obtain ⟨q, hq, rfl⟩ := List.mem_map.mp hd
  obtain ⟨h1, h2⟩ := h q hq
  refine tup_rw (fun d hd => ?_) (by show 2 ≤ 4; decide)
  simp only [List.mem_cons, List.not_mem_nil, or_false] at hd
  rcases hd with rfl | rfl
  · exact .inl ⟨_, h1, rfl⟩
  · exact .inl ⟨_, h2, rfl⟩
def okR (q : R4) : Prop := q.1 ∈ wU ∧ q.2.1 ∈ wU ∧ q.2.2.1 ∈ wU ∧ ∀ n, q.2.2.2 = some n → n ∈ wU
theorem dAR_sh {qs : List R4} (h : ∀ q ∈ qs, okR q) (hl : qs.length ≤ 1000) : Gg.Sh (dAR qs) := by
  refine list_sh (fun d hd => ?_) (by rw [List.length_map]; omega)
  obtain ⟨q, hq, rfl⟩ := List.mem_map.mp hd
  obtain ⟨h1, h2, h3, h4⟩ := h q hq
  refine tup_rw (fun d hd => ?_) (by show 4 ≤ 4; decide)
  simp only [List.mem_cons, List.not_mem_nil, or_false] at hd
  rcases hd with rfl | rfl | rfl | rfl
  · exact .inl ⟨_, h1, rfl⟩
  · exact .inl ⟨_, h2, rfl⟩
  · exact .inl ⟨_, h3, rfl⟩
  · cases e : q.2.2.2 with
    | none => exact .inr rfl
    | some n => exact .inl ⟨n, h4 n e, rfl⟩
theorem lkC_mem {C : Cata} {k : Str} (h : k ∈ C.map (·.1)) : (k, lkC C k) ∈ C := by
  induction C with
  | nil => cases h
  | cons p C ih =>
    by_cases c : p.1 = k
    · rw [show lkC (p :: C) k = p.2 by simp [lkC, c], ← c]
      exact List.mem_cons_self
    · rw [show lkC (p :: C) k = lkC C k by simp [lkC, c]]
      refine List.mem_cons_of_mem _ (ih ?_)
      rcases List.mem_cons.mp h with z | z
      · exact absurd z.symm c
      · exact z
theorem fa_w {S M : Msgs} (gS : GoodS S) (gM : GoodM M) (k : Str) : ∀ q ∈ fa S M k, q.1 ∈ wU ∧ ∀ n, q.2 = some n → n ∈ wU := by
  intro q hq
  unfold fa at hq
  cases em : lkT M k with
  | none =>
    rw [em] at hq
    rw [List.mem_singleton.mp hq]
    exact ⟨by show ("lacks" : Str) ∈ wU; decide +kernel, fun n h => by cases h⟩
  | some tm =>
    rw [em] at hq
    cases es : lkT S k with
    | none =>
      rw [es] at hq
      rw [List.mem_singleton.mp hq]
      exact ⟨by show ("more" : Str) ∈ wU; decide +kernel, fun n h => by cases h⟩
    | some ts =>
      rw [es] at hq
      obtain ⟨g1, ls, hls⟩ : Gt ts ∧ ∃ ls, go [] ts.asks = .ok ls := gS _ (lkT_mem es)
      have g2 : Gt tm := gM _ (lkT_mem em)
      obtain ⟨r, hr, rfl⟩ := List.mem_map.mp hq
      unfold mfT at hr
      rw [hls] at hr
      obtain ⟨h1, h2⟩ := mfE_w (ks_ok hls g1.nm) g2.nm r hr
      exact ⟨h1, fun n h => by injection h with h; rw [← h]; exact h2⟩
theorem cf_w {S : Msgs} {C : Cata} (ok : CatOk S C) : ∀ q ∈ cf S C, okR q := by
  have cw : ∀ n ∈ cU, n ∈ wU := by decide +kernel
  have kw : ∀ n ∈ kU, n ∈ wU := by decide +kernel
  intro q hq
  obtain ⟨c, hc, hq⟩ := List.mem_flatMap.mp hq
  obtain ⟨k, hk, hq⟩ := List.mem_flatMap.mp hq
  obtain ⟨r, hr, rfl⟩ := List.mem_map.mp hq
  obtain ⟨c1, c2⟩ := srt_mem.mp hc
  obtain ⟨h1, h2⟩ := fa_w ok.sg (ok.cm _ (lkC_mem c2)).2.2 k r hr
  exact ⟨cw _ c1, kw _ (srt_mem.mp hk).1, h1, h2⟩
theorem cf_len (S : Msgs) (C : Cata) : (cf S C).length ≤ 225 := by
  have h := flat_len (fun c => cfC S C c) 75 (fun c => cfC_len S C c) (codesOf C)
  have := codesOf_len C
  unfold cf
  omega
/-! ### the dicts as data -/
def dS (S : Msgs) : PyData := .dict (S.map fun p => (.str p.1, .list (dat p.2)))
def dC (C : Cata) : PyData := .dict (C.map fun p => (.str p.1, dS p.2))
theorem Ents.kvs {K : PySem.W.Frag} {H : Hp} : ∀ {S : Msgs} {kvs : List (L2.Key × V)}, Ents H S kvs → GoodM S → Dq.Kvs K H kvs (S.map fun p => (.str p.1, .list (dat p.2)))
  | [], _, e, _ => by rw [show _ = [] from e]; exact .nil
  | p :: S, _, ⟨a, r, e, x, y⟩, g => by
    rw [e]
    exact .cons (Dq.of _ _ (x.dp (g p List.mem_cons_self).sok)) (Ents.kvs y fun q hq => g q (List.mem_cons_of_mem _ hq))
theorem Dm.is {K : PySem.W.Frag} {H : Hp} {d : Addr} {S : Msgs} (h : Dm H d S) (g : GoodM S) : Dq.Is K H (.ref d) (dS S) := by
  obtain ⟨kvs, h1, h2⟩ := h
  exact .dk h1 (h2.kvs g)
theorem Ents2.kvs {K : PySem.W.Frag} {H : Hp} : ∀ {C : Cata} {kvs : List (L2.Key × V)}, Ents2 H C kvs → (∀ p ∈ C, GoodM p.2) → Dq.Kvs K H kvs (C.map fun p => (.str p.1, dS p.2))
  | [], _, e, _ => by rw [show _ = [] from e]; exact .nil
  | p :: S, _, ⟨a, r, e, x, y⟩, g => by
    rw [e]
    exact .cons (x.is (g p List.mem_cons_self)) (Ents2.kvs y fun q hq => g q (List.mem_cons_of_mem _ hq))
theorem CatAt.is {K : PySem.W.Frag} {H : Hp} {d : Addr} {C : Cata} (h : CatAt H d C) (g : ∀ p ∈ C, GoodM p.2) : Dq.Is K H (.ref d) (dC C) := by
  obtain ⟨kvs, h1, h2⟩ := h
  exact .dk h1 (h2.kvs g)
/-- entries that are shown in at most n signs each, d deep -/
theorem kv_sh {n D : Nat} : ∀ {ps : List (PyData × PyData)}, (∀ p ∈ ps, p.1.showable = true ∧ p.2.showable = true ∧ p.1.depth ≤ D ∧ p.2.depth ≤ D ∧ p.1.shown.length ≤ 12 ∧ p.2.shown.length ≤ n) → PyData.showableKv ps = true ∧ PyData.depthKv ps ≤ D ∧ slen (PyData.shownKv ps) ≤ ps.length * (n + 16)
  | [], _ => ⟨rfl, Nat.zero_le _, Nat.zero_le _⟩
  | (k, v) :: ps, h => by
    obtain ⟨a1, a2, a3, a4, a5, a6⟩ := h (k, v) List.mem_cons_self
    obtain ⟨b1, b2, b3⟩ := kv_sh fun e he => h e (List.mem_cons_of_mem _ he)
    have a1 : k.showable = true := a1
    have a2 : v.showable = true := a2
    have a3 : k.depth ≤ D := a3
    have a4 : v.depth ≤ D := a4
    have a5 : k.shown.length ≤ 12 := a5
    have a6 : v.shown.length ≤ n := a6
    refine ⟨?_, ?_, ?_⟩
    · simp only [PyData.showableKv, a1, a2, b1, Bool.and_self]
    · simp only [PyData.depthKv]; omega
    · have e : (": " : Str).length = 2 := by decide +kernel
      show slen ((k.shown ++ (": " : Str) ++ v.shown) :: PyData.shownKv ps) ≤ _
      rw [slen_cons, str_len, str_len, e, List.length_cons, Nat.succ_mul]
      omega
theorem dict_len (ps : List Str) : (dictText ps).length ≤ slen ps + 2 := by
  have h := StrLaws.join_length_le (", " : Str) ps
  have e0 : (", " : Str).length = 2 := by decide +kernel
  have e1 : ("{" : Str).length = 1 := by decide +kernel
  have e2 : ("}" : Str).length = 1 := by decide +kernel
  rw [e0, sum_two] at h
  show (("{" : Str) ++ Str.join (", " : Str) ps ++ ("}" : Str)).length ≤ _
  rw [str_len, str_len]
  omega
theorem dat_row {t : T} (g : Gt t) : (PyData.list (dat t)).showable = true ∧ (PyData.list (dat t)).depth ≤ 20 ∧ (PyData.list (dat t)).shown.length ≤ 130000 := by
  have h1 := (dat_ok g.sok).2.1
  have h2 := dat_depth g.wf g.sok
  have h3 := dat_len g.sok
  have h4 := list_len (PyData.shownAll (dat t))
  have h5 := g.dp
  have h6 := g.sz
  simp only [Bool.false_eq_true, if_false] at h2
  exact ⟨h1, show PyData.depthAll (dat t) + 1 ≤ 20 by omega, show (listText (PyData.shownAll (dat t))).length ≤ 130000 by omega⟩
theorem dS_sh {S : Msgs} (g : GoodM S) (hk : ∀ n ∈ S.map (·.1), n ∈ kU) (hl : S.length ≤ 5) : (dS S).showable = true ∧ (dS S).depth ≤ 21 ∧ (dS S).shown.length ≤ 700000 := by
  have kw : ∀ n ∈ kU, n ∈ wU := by decide +kernel
  obtain ⟨a1, a2, a3⟩ := kv_sh (n := 130000) (D := 20) (ps := S.map fun p => (PyData.str p.1, PyData.list (dat p.2))) fun p hp => by
    obtain ⟨q, hq, rfl⟩ := List.mem_map.mp hp
    obtain ⟨b1, b2, b3⟩ := dat_row (g q hq)
    exact ⟨rfl, b1, Nat.zero_le _, b2, wU_ok _ (kw _ (hk _ (List.mem_map_of_mem hq))), b3⟩
  rw [List.length_map] at a3
  have h := dict_len (PyData.shownKv (S.map fun p => (PyData.str p.1, PyData.list (dat p.2))))
  have e : S.length * (130000 + 16) ≤ 5 * (130000 + 16) := Nat.mul_le_mul_right _ hl
  refine ⟨a1, show PyData.depthKv _ + 1 ≤ 21 by omega, show (dictText _).length ≤ 700000 by omega⟩
theorem dC_sh {C : Cata} (g : ∀ p ∈ C, GoodM p.2 ∧ (∀ n ∈ p.2.map (·.1), n ∈ kU) ∧ p.2.length ≤ 5) (hk : ∀ n ∈ C.map (·.1), n ∈ cU) (hl : C.length ≤ 3) : (dC C).showable = true ∧ (dC C).depth ≤ 22 ∧ (dC C).shown.length ≤ 3000000 := by
  have kw : ∀ n ∈ cU, n ∈ wU := by decide +kernel
  obtain ⟨a1, a2, a3⟩ := kv_sh (n := 700000) (D := 21) (ps := C.map fun p => (PyData.str p.1, dS p.2)) fun p hp => by
    obtain ⟨q, hq, rfl⟩ := List.mem_map.mp hp
    obtain ⟨g1, g2, g3⟩ := g q hq
    obtain ⟨b1, b2, b3⟩ := dS_sh g1 g2 g3
    exact ⟨rfl, b1, Nat.zero_le _, b2, wU_ok _ (kw _ (hk _ (List.mem_map_of_mem hq))), b3⟩
  rw [List.length_map] at a3
  have h := dict_len (PyData.shownKv (C.map fun p => (PyData.str p.1, dS p.2)))
  have e : C.length * (700000 + 16) ≤ 3 * (700000 + 16) := Nat.mul_le_mul_right _ hl
  refine ⟨a1, show PyData.depthKv _ + 1 ≤ 22 by omega, show (dictText _).length ≤ 3000000 by omega⟩
def dAll (S : Msgs) (C : Cata) : PyData := .list [dS S, dC C]
theorem dAll_sh {S : Msgs} {C : Cata} (ok : CatOk S C) : Dq.Sh (dAll S C) := by
  have lS : S.length ≤ 5 := by
    have := nodup_few ok.sn ok.sk
    rw [List.length_map] at this
    exact this
  have lC : C.length ≤ 3 := by
    have := nodup_few ok.cn ok.ck
    rw [List.length_map] at this
    exact this
  obtain ⟨a1, a2, a3⟩ := dS_sh (fun p hp => (ok.sg p hp).1) ok.sk lS
  obtain ⟨b1, b2, b3⟩ := dC_sh (C := C) (fun p hp => ⟨(ok.cm p hp).2.2, (ok.cm p hp).1, by
    have := nodup_few (ok.cm p hp).2.1 (ok.cm p hp).1
    rw [List.length_map] at this
    exact this⟩) ok.ck lC
  have h := list_len [(dS S).shown, (dC C).shown]
  rw [slen_cons, slen_cons, slen_nil] at h
  refine ⟨?_, ?_, ?_⟩
  · show ((dS S).showable && ((dC C).showable && true)) = true
    rw [a1, b1]
    rfl
  · show max (dS S).depth (max (dC C).depth 0) + 1 ≤ 150
    omega
  · show (listText [(dS S).shown, (dC C).shown]).length ≤ 16000000
    omega
end Mw

namespace Mw
open PySem L2 Gg
open PySem.Spec PyProof.Rows in
theorem setTL {X : Cx} (P : Program) (w : World) (hP : X.prog = P) (hw : X.w = w) (hc : X.calm = true) : CallR X (.type "set") (fun xs H Q => ∃ (a : Addr) (ks : List Str), xs = [.ref a] ∧ H a = some (.lst (ks.map V.str)) ∧ ks.length + 1 < scanBound ∧
    ∀ p l, H p = none → l.Nodup → (∀ x, x ∈ l ↔ x ∈ ks) → l.length ≤ ks.length → Q (.ref p) (upd H p (Tst.TSet P w p l))) := by
  subst hP hw
  exact Tst.call_setTL hc
theorem sortedT {X : Cx} (P : Program) (w : World) (hP : X.prog = P) (hw : X.w = w) (hc : X.calm = true) : CallR X (.builtin "sorted") (fun xs H Q => ∃ (a : Addr) (l : List Str), xs = [.ref a] ∧ H a = some (Tst.TSet P w a l) ∧ l.length < 64 ∧
    ∀ ys p, ys.Perm l → PyProof.Rows.sortedS ys = true → H p = none → Q (.ref p) (upd H p (.lst (ys.map V.str)))) := by
  subst hP hw
  exact Tst.call_sortedT hc
theorem src_put {H : Hp} {S a : Addr} {Sm : Msgs} {i : Nat} {k : Str} {t : T} (h : Src H S Sm i) (hk : files4[i]? = some k) (ha : At H a t) (g : Gt t ∧ ∃ ls, go [] t.asks = .ok ls) :
    ∃ kvs, H S = some (.dK kvs) ∧ kvs.length ≤ 5 ∧ Src (upd H S (.dK (putK kvs (Sum.inr k) (.ref a)))) S (Sm ++ [(k, t)]) (i + 1) := by
  obtain ⟨kvs, d1, d2⟩ := h.at_
  obtain ⟨n1, n2⟩ := sub_new menus_ok.2.2.2.1 h.sub hk
  have hl : kvs.length ≤ 5 := by
    have e1 := congrArg List.length d2.keys
    rw [List.length_map, List.length_map] at e1
    have e2 := h.sub.length_le
    rw [List.length_take] at e2
    have e3 : files4.length = 4 := rfl
    omega
  refine ⟨kvs, d1, hl, Dm.put d1 d2 n1 ha, by rw [List.map_append]; exact n2, fun p hp => ?_⟩
  rcases List.mem_append.mp hp with hp | hp
  · exact h.gd p hp
  · rw [List.mem_singleton.mp hp]
    exact g
theorem Ents.mems {H : Hp} : ∀ {S : Msgs} {kvs : List (L2.Key × V)}, Ents H S kvs → ∀ q ∈ kvs, ∃ a t, q.2 = .ref a ∧ At H a t
  | [], _, e, q, hq => by
    rw [show _ = [] from e] at hq
    cases hq
  | _ :: _, _, ⟨x, r, e, y, z⟩, q, hq => by
    subst e
    rcases List.mem_cons.mp hq with rfl | hq
    · exact ⟨x, _, rfl, y⟩
    · exact Ents.mems z q hq
theorem Ents2.mems {H : Hp} : ∀ {S : Cata} {kvs : List (L2.Key × V)}, Ents2 H S kvs → ∀ q ∈ kvs, ∃ a M, q.2 = .ref a ∧ Dm H a M
  | [], _, e, q, hq => by
    rw [show _ = [] from e] at hq
    cases hq
  | _ :: _, _, ⟨x, r, e, y, z⟩, q, hq => by
    subst e
    rcases List.mem_cons.mp hq with rfl | hq
    · exact ⟨x, _, rfl, y⟩
    · exact Ents2.mems z q hq
/-- a catalog is no entry of its own -/
theorem cat_own {H : Hp} {e : Addr} {C : Cata} {ckv : List (L2.Key × V)} (h : H e = some (.dK ckv)) (en : Ents2 H C ckv) : ∀ q ∈ ckv, q.2 ≠ .ref e := fun q hq z => by
  obtain ⟨a, M, e1, kvs, h1, h2⟩ := en.mems q hq
  rw [z] at e1
  cases e1
  rw [h] at h1
  injection h1 with h1
  injection h1 with h1
  subst h1
  obtain ⟨b, t, e2, vs, h3, _⟩ := h2.mems q hq
  rw [z] at e2
  cases e2
  rw [h] at h3
  cases h3
theorem cas_start {H : Hp} {e S di : Addr} {C : Cata} {cs : List Str} {c : Str} (h : Cas H e C cs) (nw : c ∉ cs) (hdi : H di = none) (nS : S ≠ e) (hS : ∃ o, H S = some o) :
    ∃ ckv, upd H di (.dK []) e = some (.dK ckv) ∧ ckv.length ≤ cs.length ∧ Cat1 (upd (upd H di (.dK [])) e (.dK (putK ckv (Sum.inr c) (.ref di)))) e S di C cs c [] 0 := by
  obtain ⟨ckv, h1, h2⟩ := h.at_
  have s1 : Same H (upd H di (.dK [])) := same_new hdi _
  have ne : e ≠ di := ne_of_none h1 hdi
  obtain ⟨oS, hoS⟩ := hS
  have nSd : S ≠ di := ne_of_none hoS hdi
  have hl : ckv.length ≤ cs.length := by
    have e1 := congrArg List.length h2.keys
    rw [List.length_map, List.length_map] at e1
    rw [← h.ks, List.length_map, e1, List.length_map]
    exact Nat.le_refl _
  have h1' := s1 _ _ h1
  refine ⟨ckv, h1', hl, ⟨ckv, ?_, ?_, fun q hq z => ?_⟩, h.ks, h.ms, nw, ⟨[], ?_, rfl⟩, by rw [List.take_zero]; exact List.Sublist.refl _, (fun p hp => by cases hp), ne, nSd, nS⟩
  · rw [putK_new _ (val_none (ks := cs) (by rw [h2.keys, h.ks]) nw)]
    exact upd_same
  · exact Ents2.updE h1' _ (cat_own h1 h2) (h2.mono fun _ _ z => z.same s1)
  · obtain ⟨a, kv, e1, e2⟩ := h2.dicts q hq
    rw [z] at e1
    cases e1
    rw [hdi] at e2
    cases e2
  · rw [upd_ne ne.symm]
    exact upd_same
theorem two_kv (v : Str) : mergeK [] [((Sum.inr ("w" : Str) : L2.Key), V.str v), (Sum.inr ("m" : Str), V.str "w")] = kv [("w", v), ("m", "w")] := by
  have e1 : putK ([] : List (L2.Key × V)) (Sum.inr ("w" : Str)) (V.str v) = [(Sum.inr ("w" : Str), V.str v)] := putK_new _ rfl
  have e2 : valV [((Sum.inr ("w" : Str) : L2.Key), V.str v)] (Sum.inr ("m" : Str)) = none := valV_neg (r := []) (p := ((Sum.inr ("w" : Str) : L2.Key), V.str v)) (fun z => absurd (Sum.inr.inj z) (by decide))
  show putK (putK ([] : List (L2.Key × V)) (Sum.inr ("w" : Str)) (V.str v)) (Sum.inr ("m" : Str)) (V.str "w") = _
  rw [e1, putK_new _ e2]
  rfl
theorem cut_codes {z : Int} (h0 : 0 ≤ z) (h4 : z < 4) : cutV (codes3.map V.str) none (some z) = (codes3.take z.toNat).map V.str := by
  have : z = 0 ∨ z = 1 ∨ z = 2 ∨ z = 3 := by omega
  rcases this with rfl | rfl | rfl | rfl <;> rfl
theorem keys_vs {H : Hp} {S : Msgs} {kvs : List (L2.Key × V)} (h : Ents H S kvs) : (kvs.map fun kv => kV kv.1) = (S.map (·.1)).map V.str := by
  have e := congrArg (List.map kV) h.keys
  rw [List.map_map, List.map_map] at e
  exact e
section
variable {P : Program} {w : World} {K : PySem.W.Frag} {mg : Str → Option Value} {base : Heap}
abbrev sLaw : Stmt := top 27
abbrev nLaw : List Str := ["script", "box", "source", "key", "message", "catalog", "code", "kept", "due", "faults", "fault"]
theorem scLaw : FnScope nLaw ["script"] (defScope sLaw) := ⟨rfl, rfl, rfl, by decide +kernel, rfl, by decide +kernel, by decide +kernel⟩
def spLaw (K : PySem.W.Frag) : Sp := fun vs H Q _ => ∃ (a : Addr) (ns : List Int), vs = [.ref a] ∧ SqL K H a (ns.map V.int) ∧ ∀ H', Q (.bl true) H'
set_option maxHeartbeats 0 in
theorem ok_law {f fB fO fD fK fR fF fN fC fS : Addr} {fd fdB fdO fdD fdK fdR fdF fdN fdC fdS : FuncData} (F : Fun K "law" "law" sLaw f fd) (MO : Dq.Mods K)
    (GB : FnOk P w K mg base CX0 2 fB fdB ["script", "first", "last"] (spBox K 45)) (bB : Binds K fdB ["script", "first", "last"] []) (kB : PySem.W.keepIn K (.ref fB) = true) (mB : mg "_law_box" = some (.ref fB))
    (GO : FnOk P w K mg base CX0 5 fO fdO ["box"] spOd) (bO : Binds K fdO ["box"] []) (kO : PySem.W.keepIn K (.ref fO) = true) (mO : mg "_law_odd" = some (.ref fO))
    (GD : FnOk P w K mg base CX0 1 fD fdD ["box", "many"] spDraw) (bD : Binds K fdD ["box", "many"] []) (kD : PySem.W.keepIn K (.ref fD) = true) (mD : mg "_law_draw" = some (.ref fD))
    (GK : FnOk P w K mg base CX0 4 fK fdK ["message"] (spKn 3)) (bK : Binds K fdK ["message"] []) (kK : PySem.W.keepIn K (.ref fK) = true) (mK : mg "_law_kinds" = some (.ref fK))
    (GR : FnOk P w K mg base CX0 3 fR fdR ["message", "names"] (spRn 2)) (bR : Binds K fdR ["message", "names"] []) (kR : PySem.W.keepIn K (.ref fR) = true) (mR : mg "_law_renamed" = some (.ref fR))
    (GF : FnOk P w K mg base CX0 5 fF fdF ["source", "message"] (spLf 3)) (bF : Binds K fdF ["source", "message"] []) (kF : PySem.W.keepIn K (.ref fF) = true) (mF : mg "_law_faults" = some (.ref fF))
    (GN : FnOk P w K mg base CX0 5 fN fdN ["source", "message"] spMf) (bN : Binds K fdN ["source", "message"] []) (kN : PySem.W.keepIn K (.ref fN) = true) (mN : mg "message_faults" = some (.ref fN))
    (GC : FnOk P w K mg base CX0 7 fC fdC ["source", "catalog"] spCf) (bC : Binds K fdC ["source", "catalog"] []) (kC : PySem.W.keepIn K (.ref fC) = true) (mC : mg "catalog_faults" = some (.ref fC))
    (GS : FnG P w K mg base CX0 1 fS fdS ["one", "other"] (spSame K)) (bS : Binds K fdS ["one", "other"] []) (kS : PySem.W.keepIn K (.ref fS) = true) (mS : mg "_law_same" = some (.ref fS))
    (ms : mg "sorted" = none) (mse : mg "set" = none) (mli : mg "list" = none) (mre : mg "repr" = none) (mi : mg "int" = none) : FnG P w K mg base CX0 8 f fd ["script"] (spLaw K) := by
  refine okG F scLaw (fun vs H Q E h => ?_) (fun A cdv outer s H vs Q E gd hr h => ?_)
  · obtain ⟨a, ns, rfl, _⟩ := h
    rfl
  obtain ⟨a, ns, rfl, hs, q⟩ := h
  have nd := scLaw.nd
  have hu := hu_of hr
  have hu2 : (A.deeper (PyProof.Rows.envOfC "law" (defScope sLaw) s.heap.objs.size f cdv)).units + 160 < cLine := by
    have := hr.un
    omega
  refine ⟨_, (pss_cons (ps_set (i := 1) nd rfl (.inl rfl) (pe_call GB (hr.mono (by decide)) rfl mB kB bB .nil pass0 (pa_cons (pv 0) (pa_cons pe_int (pa_cons pe_int pa_nil)))))
      (pss_cons (ps_set (i := 2) nd rfl (.inl rfl) pe_dnewK)
      (Evl.pss_cut (ps_for PassesOwn.never rfl (pi_list (pe_lst (pa_cons pe_str (pa_cons pe_str (pa_cons pe_str (pa_cons pe_str pa_nil)))))) (pg_name (i := 3) nd rfl (.inr rfl)) (pss_cons (ps_set (i := 4) nd rfl (.inl rfl) (pe_call GO (hr.mono (by decide)) rfl mO kO bO .nil pass0 (pa_cons (pv 1) pa_nil)))
      (pss_one (ps_if (pt_cmpR op_gt (pe_call GD (hr.mono (by decide)) rfl mD kD bD .nil pass0 (pa_cons (pv 1) (pa_cons pe_int pa_nil))) pe_int (nomark _)) (pss_one (ps_dput hu (pv 2) (pv 3) (pe_ix ix_list (pe_lst (pa_cons (pv 4) (pa_cons (pe_lst (pa_cons (pe_tup (pa_cons pe_str (pa_cons pe_str pa_nil))) pa_nil)) pa_nil))) (pe_callTy call_int1 (by rfl) mi (by decide +kernel) (pa_cons (pe_cmpR op_notN (pe_ix ix_list (pe_call GK (hr.mono (by decide)) rfl mK kK bK .nil pass0 (pa_cons (pv 4) pa_nil)) pe_int (fun _ _ => rfl)) pe_non (nomark _)) pa_nil)) (fun _ _ => rfl)) rfl)) pss_nil))))
      (pss_cons (ps_set (i := 5) nd rfl (.inl rfl) pe_dnewK)
      (Evl.pss_cut (ps_for PassesOwn.never rfl (pi_list (pe_slice sl_list (pe_lst (pa_cons pe_str (pa_cons pe_str (pa_cons pe_str pa_nil)))) po_none (po_some (pe_call GD (hr.mono (by decide)) rfl mD kD bD .nil pass0 (pa_cons (pv 1) (pa_cons pe_int pa_nil)))))) (pg_name (i := 6) nd rfl (.inr rfl)) (pss_cons (ps_dput hu (pv 5) (pv 6) pe_dnewK rfl)
      (pss_one (ps_for PassesOwn.never rfl (pi_list (pe_lst (pa_cons pe_str (pa_cons pe_str (pa_cons pe_str (pa_cons pe_str pa_nil)))))) (pg_name (i := 3) nd rfl (.inr rfl)) (pss_cons (ps_set (i := 4) nd rfl (.inl rfl) (pe_call GO (hr.mono (by decide)) rfl mO kO bO .nil pass0 (pa_cons (pv 1) pa_nil)))
      (Evl.pss_cut (ps_if (PW.pt (pw_and (pt_cmp (pc_din hu (pv 3) (pv 2))) (pw_and1 (pt_cmpR op_eq (pe_call GD (hr.mono (by decide)) rfl mD kD bD .nil pass0 (pa_cons (pv 1) (pa_cons pe_int pa_nil))) pe_int (nomark _))))) (pss_one (ps_set (i := 4) nd rfl (.inl rfl) (pe_call GR (hr.mono (by decide)) rfl mR kR bR .nil pass0 (pa_cons (pe_dget hu (pv 2) (pv 3) (fun _ _ => rfl)) (pa_cons (pe_disp (pps_cons pe_str (pe_ix ix_list (pe_lst (pa_cons pe_str (pa_cons pe_str pa_nil))) (pe_call GD (hr.mono (by decide)) rfl mD kD bD .nil pass0 (pa_cons (pv 1) (pa_cons pe_int pa_nil))) (fun _ _ => rfl)) (pps_cons pe_str pe_str pps_nil)) (by rfl) (by rfl) (fun z => by cases z) (by decide)) pa_nil))))) pss_nil)
      (pss_one (ps_if (pt_cmpR op_gt (pe_call GD (hr.mono (by decide)) rfl mD kD bD .nil pass0 (pa_cons (pv 1) (pa_cons pe_int pa_nil))) pe_int (nomark _)) (pss_one (ps_dput hu (pe_dget hu (pv 5) (pv 6) (fun _ _ => rfl)) (pv 3) (pv 4) rfl)) pss_nil))))))))
      (pss_cons (ps_set (i := 7) nd rfl (.inl rfl) (pe_callB (Dq.call_repr MO gd hu2) (by rfl) mre (by decide +kernel) (pa_cons (pe_lst (pa_cons (pv 2) (pa_cons (pv 5) pa_nil))) pa_nil)))
      (pss_cons (ps_set (i := 8) nd rfl (.inl rfl) (pe_lst pa_nil))
      (Evl.pss_cut (ps_for PassesOwn.never rfl (pi_list (pe_callB (call_sortedD rfl) (by rfl) ms (by decide +kernel) (pa_cons (pv 5) pa_nil))) (pg_name (i := 6) nd rfl (.inr rfl)) (pss_one (ps_for PassesOwn.never rfl (pi_list (pe_callB (sortedT P w rfl rfl rfl) (by rfl) ms (by decide +kernel) (pa_cons (pe_callTy (setTL P w rfl rfl rfl) (by rfl) mse (by decide +kernel) (pa_cons (pe_op op_cat (pe_callTy (call_listD rfl) (by rfl) mli (by decide +kernel) (pa_cons (pv 2) pa_nil)) (pe_callTy (call_listD rfl) (by rfl) mli (by decide +kernel) (pa_cons (pe_dget hu (pv 5) (pv 6) (fun _ _ => rfl)) pa_nil))) pa_nil)) pa_nil))) (pg_name (i := 3) nd rfl (.inr rfl)) (pss_one (ps_if (pt_cmp (pc_dnotin hu (pv 3) (pe_dget hu (pv 5) (pv 6) (fun _ _ => rfl)))) (pss_one (ps_expr (pe_bm PySem.F.plainAttrs_list PySem.F.slot_list_append PySem.F.type_list_append mt_append (pv 8) (pa_cons (pe_tup (pa_cons (pv 6) (pa_cons (pv 3) (pa_cons pe_str (pa_cons pe_non pa_nil))))) pa_nil)))) (pss_one (ps_if (pt_cmp (pc_dnotin hu (pv 3) (pv 2))) (pss_one (ps_expr (pe_bm PySem.F.plainAttrs_list PySem.F.slot_list_append PySem.F.type_list_append mt_append (pv 8) (pa_cons (pe_tup (pa_cons (pv 6) (pa_cons (pv 3) (pa_cons pe_str (pa_cons pe_non pa_nil))))) pa_nil)))) (pss_cons (ps_set (i := 9) nd rfl (.inl rfl) (pe_call GF (hr.mono (by decide)) rfl mF kF bF .nil pass0 (pa_cons (pe_dget hu (pv 2) (pv 3) (fun _ _ => rfl)) (pa_cons (pe_dget hu (pe_dget hu (pv 5) (pv 6) (fun _ _ => rfl)) (pv 3) (fun _ _ => rfl)) pa_nil))))
      (pss_cons (ps_if (pt_not (pt_val (pe_callG gd GS (hr.mono (by decide)) rfl mS kS bS .nil pass0 (pa_cons (pe_call GN (hr.mono (by decide)) rfl mN kN bN .nil pass0 (pa_cons (pe_dget hu (pv 2) (pv 3) (fun _ _ => rfl)) (pa_cons (pe_dget hu (pe_dget hu (pv 5) (pv 6) (fun _ _ => rfl)) (pv 3) (fun _ _ => rfl)) pa_nil))) (pa_cons (pv 9) pa_nil))))) (pss_one (ps_ret pe_bl)) pss_nil)
      (pss_one (ps_set (i := 8) nd rfl (.inl rfl) (pe_op op_cat (pv 8) (pe_lc (own := [("fault", 10)]) (g := (gName 10)) (tt := tYes) (te := tOp (rCatT K) (tTup (tCons (tVar 6) (tCons (tVar 3) tNil))) (tVar 10)) rfl nd (pi_list (pv 9)) (blkOk_by (N := nLaw) (sc := defScope sLaw) (by decide +kernel)) (fun _ _ _ _ _ => (pg_name (i := 10) nd rfl (.inl rfl))) (fun _ _ _ _ _ => pts_nil) (fun _ _ _ _ _ => (pe_op op_catT (pe_tup (pa_cons (pv 6) (pa_cons (pv 3) pa_nil))) (pv 10))))))))))))))))
      (pss_one (ps_ret (pe_and (pe_callG gd GS (hr.mono (by decide)) rfl mS kS bS .nil pass0 (pa_cons (pe_call GC hr rfl mC kC bC .nil pass0 (pa_cons (pv 2) (pa_cons (pv 5) pa_nil))) (pa_cons (pv 8) pa_nil))) (pe_one (pe_cmpR op_eq (pe_callB (Dq.call_repr MO gd hu2) (by rfl) mre (by decide +kernel) (pa_cons (pe_lst (pa_cons (pv 2) (pa_cons (pv 5) pa_nil))) pa_nil)) (pv 7) (nomark _)))))))))))))), ?_⟩
  refine ⟨_, rfl, a, ns, rfl, hs, fun B b H1 hB hb s1 bx => ?_⟩
  intro S hS
  have bx1 : Box (upd H1 S (.dK [])) B b := bx.new hS _
  have src0 : Src (upd H1 S (.dK [])) S [] 0 := ⟨⟨[], upd_same, rfl⟩, by rw [List.take_zero]; exact List.Sublist.refl _, fun p hp => by cases hp⟩
  generalize upd H1 S (.dK []) = H2 at bx1 src0 ⊢
  refine ⟨fun σ H' => ∃ (o3 o4 : Option V) (Sm : Msgs), σ = [some (.ref a), some (.ref B), some (.ref S), o3, o4, none, none, none, none, none, none] ∧ Box H' B b ∧ Src H' S Sm 4, ?_, ?_⟩
  · refine ⟨by show 4 ≤ sizeLine; decide, fun fl hfl => ⟨fl, rfl, ⟨_, SqL.of upd_same⟩, ?_⟩⟩
    have s2 : Same H2 (upd H2 fl (.lst (files4.map V.str))) := same_new hfl _
    refine for_list (xs := files4.map V.str) (fun i σ H' => ∃ (o3 o4 : Option V) (Sm : Msgs), σ = [some (.ref a), some (.ref B), some (.ref S), o3, o4, none, none, none, none, none, none] ∧ Box H' B b ∧ H' fl = some (.lst (files4.map V.str)) ∧ Src H' S Sm i)
      ⟨none, none, [], rfl, bx1.same s2, upd_same, src0.same s2⟩ (fun i σ H' _ ⟨_, _, _, _, _, h, _⟩ => SqL.of h) ?_ ?_
    rotate_left
    · rintro σ H' ⟨o3, o4, Sm, rfl, b', _, src⟩
      exact ⟨o3, o4, Sm, rfl, b', src⟩
    rintro i x σ H3 hx ⟨o3, o4, Sm, rfl, b3, hf3, src⟩
    obtain ⟨k, hk, rfl⟩ : ∃ k, files4[i]? = some k ∧ x = V.str k := by
      rw [List.getElem?_map] at hx
      cases e : files4[i]? with
      | none => rw [e] at hx; cases hx
      | some y => rw [e] at hx; exact ⟨y, rfl, (Option.some.inj hx).symm⟩
    refine ⟨_, rfl, B, b, rfl, b3, fun r H4 t g4 b4 gt hat => ?_⟩
    have nfB : fl ≠ B := by
      rintro rfl
      obtain ⟨ds, i, e, _⟩ := b3
      rw [hf3] at e
      cases e
    have hf4 := g4.ext _ _ nfB hf3
    have src4 := src.go b3 g4
    refine ⟨_, rfl, B, b, 5, rfl, by decide, b4, fun z H5 z0 z5 g5 b5 => ?_⟩
    have hf5 := g5.ext _ _ nfB hf4
    have src5 := src4.go b4 g5
    have hat5 := hat.kp (Kp.go b4 g5)
    refine ⟨_, _, rfl, rfl, _, rfl, ite2 (fun c => ?_) (fun c => ⟨_, _, Sm, rfl, b5, hf5, src5.at_, sub_stay src5.sub, src5.gd⟩)⟩
    refine ⟨_, rfl, by show 2 ≤ sizeLine; decide, fun tp htp => ⟨by show 1 ≤ sizeLine; decide, fun l1 hl1 => ⟨by show 2 ≤ sizeLine; decide, fun l2 hl2 => ?_⟩⟩⟩
    have s51 : Same H5 (upd H5 tp (.tup [.str "show", .str "x"])) := same_new htp _
    have s52 := same_new (H := upd H5 tp (.tup [.str "show", .str "x"])) hl1 (.lst [.ref tp])
    have s53 := same_new (H := upd (upd H5 tp (.tup [.str "show", .str "x"])) l1 (.lst [.ref tp])) hl2 (.lst [.ref r, .ref l1])
    have htpv := s53 _ _ (s52 _ _ (upd_same (H := H5) (a := tp) (o := .tup [.str "show", .str "x"])))
    have hl1v := s53 _ _ (upd_same (H := upd H5 tp (.tup [.str "show", .str "x"])) (a := l1) (o := .lst [.ref tp]))
    have hl2v := upd_same (H := upd (upd H5 tp (.tup [.str "show", .str "x"])) l1 (.lst [.ref tp])) (a := l2) (o := .lst [.ref r, .ref l1])
    have s5 := (s51.trans s52).trans s53
    generalize upd (upd (upd H5 tp (.tup [.str "show", .str "x"])) l1 (.lst [.ref tp])) l2 (.lst [.ref r, .ref l1]) = H6 at htpv hl1v hl2v s5 ⊢
    have b6 := b5.same s5
    -- what is put
    have fin : ∀ (H7 : Hp) (v : Addr) (t' : T), Same H6 H7 → At H7 v t' → (Gt t' ∧ ∃ ls, go [] t'.asks = .ok ls) → ∃ kvs, H7 S = some (.dK kvs) ∧ kvs.length < sizeLine ∧ ∃ (o3 o4 : Option V) (Sm : Msgs), [some (.ref a), some (.ref B), some (.ref S), some (.str k), some (.ref r), none, none, none, none, none, none] = [some (.ref a), some (.ref B), some (.ref S), o3, o4, none, none, none, none, none, none] ∧ Box (upd H7 S (.dK (putK kvs (Sum.inr k) (.ref v)))) B b ∧ upd H7 S (.dK (putK kvs (Sum.inr k) (.ref v))) fl = some (.lst (files4.map V.str)) ∧ Src (upd H7 S (.dK (putK kvs (Sum.inr k) (.ref v)))) S Sm (i + 1) := by
      intro H7 v t' s7 hv g
      have src7 := src5.same (s5.trans s7)
      obtain ⟨kvs, e1, e2, e3⟩ := src_put src7 hk hv g
      have b7 := b6.same s7
      have hf7 := (s5.trans s7) _ _ hf5
      obtain ⟨n1, n2⟩ := box_dk b7 e1
      have nfS : fl ≠ S := fun e => by rw [e, e1] at hf7; cases hf7
      exact ⟨kvs, e1, sz_line (by omega), _, _, _, rfl, b7.mut n1 n2 _, by rw [upd_ne nfS]; exact hf7, e3⟩
    refine ⟨_, rfl, r, t, rfl, hat5.same s5, gt.wf, by have := gt.dp; omega, by have := gt.sz; omega, fun ls hls rk dk H7 hrk s7 h7 _ => ?_, fun n hn rk dk H7 hrk s7 h7 _ => ?_⟩
    · refine ⟨rk, _, 1, .non, rfl, rfl, SqL.of h7, rfl, rfl, .inr ⟨_, rfl, ?_⟩⟩
      obtain ⟨kvs, e1, e2, e3⟩ := fin H7 r t s7 (hat5.same (s5.trans s7)) ⟨gt, ls, hls⟩
      refine ⟨l2, [.ref r, .ref l1], 0, .ref r, rfl, by simp, SqL.of (s7 _ _ hl2v), rfl, _, rfl, _, rfl, S, _, rfl, DPut.k (k := Sum.inr k) e1 e2, e3⟩
    · refine ⟨rk, _, 1, .str n, rfl, rfl, SqL.of h7, rfl, rfl, .inr ⟨_, rfl, ?_⟩⟩
      obtain ⟨kvs, e1, e2, e3⟩ := fin H7 l1 showX s7 ⟨[.ref tp], s7 _ _ hl1v, tp, [], rfl, s7 _ _ htpv, rfl⟩ showX_ok
      refine ⟨l2, [.ref r, .ref l1], 1, .ref l1, rfl, by simp, SqL.of (s7 _ _ hl2v), rfl, _, rfl, _, rfl, S, _, rfl, DPut.k (k := Sum.inr k) e1 e2, e3⟩
  rintro σ H3 ⟨o3, o4, Sm, rfl, b3, src⟩
  intro Cg hCg
  have s4 : Same H3 (upd H3 Cg (.dK [])) := same_new hCg _
  obtain ⟨skv0, hS3, _⟩ := src.at_
  have nSC : S ≠ Cg := ne_of_none hS3 hCg
  have b4 := b3.same s4
  have src4 := src.same s4
  have cas4 : Cas (upd H3 Cg (.dK [])) Cg [] (codes3.take 0) := ⟨⟨[], upd_same, rfl⟩, rfl, fun p hp => by cases hp⟩
  generalize upd H3 Cg (.dK []) = H4 at b4 src4 cas4 ⊢
  refine ⟨fun σ H' => ∃ (o3 o4 o6 : Option V) (Cm : Cata) (n : Nat), σ = [some (.ref a), some (.ref B), some (.ref S), o3, o4, some (.ref Cg), o6, none, none, none, none] ∧ Box H' B b ∧ Src H' S Sm 4 ∧ Cas H' Cg Cm (codes3.take n), ?_, ?_⟩
  · refine ⟨by show 3 ≤ sizeLine; decide, fun l1 hl1 => ⟨_, rfl, B, b, 4, rfl, by decide, b4.same (same_new hl1 _), fun z H5 z0 z4 g5 b5 => ?_⟩⟩
    have s5 : Same H4 (upd H4 l1 (.lst (codes3.map V.str))) := same_new hl1 _
    have n1B : l1 ≠ B := b4.neB hl1
    have hl15 : H5 l1 = some (.lst (codes3.map V.str)) := g5.ext _ _ n1B upd_same
    have src5 := (src4.same s5).go (b4.same s5) g5
    have cas5 := (cas4.same s5).go (b4.same s5) g5
    refine ⟨_, rfl, l1, _, rfl, SqL.of hl15, fun pl hpl => ⟨pl, rfl, ⟨_, SqL.of upd_same⟩, ?_⟩⟩
    rw [cut_codes z0 z4]
    generalize z.toNat = n
    have s6 : Same H5 (upd H5 pl (.lst ((codes3.take n).map V.str))) := same_new hpl _
    have npB : pl ≠ B := b5.neB hpl
    refine for_list (xs := (codes3.take n).map V.str) (fun i σ H' => ∃ (o3 o4 o6 : Option V) (Cm : Cata), σ = [some (.ref a), some (.ref B), some (.ref S), o3, o4, some (.ref Cg), o6, none, none, none, none] ∧ Box H' B b ∧ H' pl = some (.lst ((codes3.take n).map V.str)) ∧ Src H' S Sm 4 ∧ Cas H' Cg Cm ((codes3.take n).take i))
      ⟨o3, o4, none, [], rfl, b5.same s6, upd_same, src5.same s6, by rw [List.take_zero]; exact cas5.same s6⟩ (fun i σ H' _ ⟨_, _, _, _, _, _, h, _⟩ => SqL.of h) ?_ ?_
    rotate_left
    · rintro σ H' ⟨o3, o4, o6, Cm, rfl, b', _, src', cas'⟩
      rw [List.length_map, List.take_length] at cas'
      exact ⟨o3, o4, o6, Cm, n, rfl, b', src', cas'⟩
    rintro i x σ H6 hx ⟨o3, o4, o6, Cm, rfl, b6, hp6, src6, cas6⟩
    obtain ⟨c, hc, rfl⟩ : ∃ c, (codes3.take n)[i]? = some c ∧ x = V.str c := by
      rw [List.getElem?_map] at hx
      cases e : (codes3.take n)[i]? with
      | none => rw [e] at hx; cases hx
      | some y => rw [e] at hx; exact ⟨y, rfl, (Option.some.inj hx).symm⟩
    obtain ⟨nw, _⟩ := sub_new (menus_ok.2.2.2.2.2.sublist (List.take_sublist n codes3)) (List.Sublist.refl _) hc
    intro di hdi
    obtain ⟨skv, hS6, _⟩ := src6.at_
    obtain ⟨ckv, e1, e2, cat7⟩ := cas_start cas6 nw hdi nSC ⟨_, hS6⟩
    have e2' : ckv.length ≤ 3 := Nat.le_trans e2 (by rw [List.length_take, List.length_take]; have : codes3.length = 3 := rfl; omega)
    refine ⟨_, rfl, _, rfl, Cg, _, rfl, DPut.k (k := Sum.inr c) e1 (sz_line (by omega)), ?_⟩
    have s61 : Same H6 (upd H6 di (.dK [])) := same_new hdi _
    have b61 := b6.same s61
    obtain ⟨nCB, nCb⟩ := box_dk b61 e1
    have b7 : Box (upd (upd H6 di (.dK [])) Cg (.dK (putK ckv (Sum.inr c) (.ref di)))) B b := b61.mut nCB nCb _
    have src7 : Src (upd (upd H6 di (.dK [])) Cg (.dK (putK ckv (Sum.inr c) (.ref di)))) S Sm 4 := ⟨(src6.at_.same s61).updD nSC e1 _, src6.sub, src6.gd⟩
    have hp7 : upd (upd H6 di (.dK [])) Cg (.dK (putK ckv (Sum.inr c) (.ref di))) pl = some (.lst ((codes3.take n).map V.str)) := by
      have h := s61 _ _ hp6
      rw [upd_ne (fun z => by rw [z, e1] at h; cases h)]
      exact h
    generalize upd (upd H6 di (.dK [])) Cg (.dK (putK ckv (Sum.inr c) (.ref di))) = H7 at b7 src7 hp7 cat7 ⊢
    refine ⟨by show 4 ≤ sizeLine; decide, fun ml hml => ⟨ml, rfl, ⟨_, SqL.of upd_same⟩, ?_⟩⟩
    have s7 : Same H7 (upd H7 ml (.lst (mkeys4.map V.str))) := same_new hml _
    have nmB : ml ≠ B := b7.neB hml
    refine for_list (xs := mkeys4.map V.str) (fun j σ H' => ∃ (o3 o4 : Option V) (Mm : Msgs), σ = [some (.ref a), some (.ref B), some (.ref S), o3, o4, some (.ref Cg), some (.str c), none, none, none, none] ∧ Box H' B b ∧ H' pl = some (.lst ((codes3.take n).map V.str)) ∧ H' ml = some (.lst (mkeys4.map V.str)) ∧ Src H' S Sm 4 ∧ Cat1 H' Cg S di Cm ((codes3.take n).take i) c Mm j)
      ⟨o3, o4, [], rfl, b7.same s7, s7 _ _ hp7, upd_same, src7.same s7, cat7.same s7⟩ (fun i σ H' _ ⟨_, _, _, _, _, _, h, _⟩ => SqL.of h) ?_ ?_
    rotate_left
    · rintro σ H' ⟨o3, o4, Mm, rfl, b', hp', _, src', cat'⟩
      refine ⟨o3, o4, _, Cm ++ [(c, Mm)], rfl, b', hp', src', ?_⟩
      have := cat'.done
      rw [List.take_succ, hc]
      exact this
    rintro j x σ H8 hx8 ⟨o3, o4, Mm, rfl, b8, hp8, hm8, src8, cat8⟩
    obtain ⟨k, hk, rfl⟩ : ∃ k, mkeys4[j]? = some k ∧ x = V.str k := by
      rw [List.getElem?_map] at hx8
      cases e : mkeys4[j]? with
      | none => rw [e] at hx8; cases hx8
      | some y => rw [e] at hx8; exact ⟨y, rfl, (Option.some.inj hx8).symm⟩
    refine ⟨_, rfl, B, b, rfl, b8, fun r H9 t g9 b9 gt hat => ?_⟩
    have hp9 := g9.ext _ _ npB hp8
    have hm9 := g9.ext _ _ nmB hm8
    have src9 := src8.go b8 g9
    have cat9 := cat8.go b8 g9
    refine ⟨fun σ H' => ∃ (r : Addr) (t : T), σ = [some (.ref a), some (.ref B), some (.ref S), some (.str k), some (.ref r), some (.ref Cg), some (.str c), none, none, none, none] ∧ Box H' B b ∧ H' pl = some (.lst ((codes3.take n).map V.str)) ∧ H' ml = some (.lst (mkeys4.map V.str)) ∧ Src H' S Sm 4 ∧ Cat1 H' Cg S di Cm ((codes3.take n).take i) c Mm j ∧ At H' r t ∧ Gt t, ?_, ?_⟩
    · cases es : lkT Sm k with
      | none =>
        refine ⟨_, rfl, _, rfl, S, _, rfl, (src9.at_.dget k).2 es, _, rfl, iteF (iteF ⟨r, t, rfl, b9, hp9, hm9, src9, cat9, hat, gt⟩)⟩
      | some ts =>
        obtain ⟨as, d1, d2⟩ := (src9.at_.dget k).1 ts es
        refine ⟨_, rfl, _, rfl, S, _, rfl, d1, _, rfl, iteT ⟨_, rfl, B, b, 2, rfl, by decide, b9, fun z H10 z0 z2 g10 b10 => ?_⟩⟩
        have hp10 := g10.ext _ _ npB hp9
        have hm10 := g10.ext _ _ nmB hm9
        have src10 := src9.go b9 g10
        have cat10 := cat9.go b9 g10
        have hat10 := hat.kp (Kp.go b9 g10)
        refine ⟨rfl, _, rfl, ite2 (fun _ => ?_) (fun _ => ⟨r, t, rfl, b10, hp10, hm10, src10, cat10, hat10, gt⟩)⟩
        obtain ⟨as, d1, d2⟩ := (src10.at_.dget k).1 ts es
        refine ⟨_, rfl, _, rfl, S, .ref as, rfl, d1, fun nd hnd => ?_⟩
        have s11 : Same H10 (upd H10 nd (.dK [])) := same_new hnd _
        have b11 := b10.same s11
        have nndB : nd ≠ B := b10.neB hnd
        have nndb : nd ≠ b := b10.neD hnd
        refine ⟨by show 2 ≤ sizeLine; decide, fun l3 hl3 => ⟨_, rfl, B, b, 2, rfl, by decide, b11.same (same_new hl3 _), fun z2 H12 y0 y2 g12 b12 => ?_⟩⟩
        have s12 := same_new (H := upd H10 nd (.dK [])) hl3 (.lst ((["n", "w"] : List Str).map V.str))
        have n3B : l3 ≠ B := b11.neB hl3
        have hl312 : H12 l3 = some (.lst ((["n", "w"] : List Str).map V.str)) := g12.ext _ _ n3B upd_same
        obtain ⟨val, hval, hvat⟩ := pick (l := (["n", "w"] : List Str)) (g := V.str) y0 y2
        refine ⟨l3, _, _, .str val, rfl, rfl, SqL.of hl312, hvat, ?_⟩
        have hnd12 : H12 nd = some (.dK []) := g12.ext _ _ nndB (s12 _ _ upd_same)
        refine ⟨hnd12, [(Sum.inr "w", .str val), (Sum.inr "m", .str "w")], rfl, by show 2 ≤ 15; decide, ?_⟩
        rw [two_kv]
        have g13 : Go B H10 (upd H12 nd (.dK (kv [("w", val), ("m", "w")]))) := (((Go.same s11).trans (Go.same s12)).trans g12).mut hnd _
        have b13 : Box (upd H12 nd (.dK (kv [("w", val), ("m", "w")]))) B b := b12.mut nndB nndb _
        have hnd13 := upd_same (H := H12) (a := nd) (o := .dK (kv [("w", val), ("m", "w")]))
        generalize upd H12 nd (.dK (kv [("w", val), ("m", "w")])) = H13 at g13 b13 hnd13 ⊢
        have gts : Gt ts := (src.gd _ (lkT_mem es)).1
        have okn : okN [("w", val), ("m", "w")] := by
          intro p hp
          simp only [List.mem_cons, List.not_mem_nil, or_false] at hp hval
          rcases hp with rfl | rfl
          · rcases hval with rfl | rfl <;> decide +kernel
          · show ("w" : Str) ∈ names5
            decide +kernel
        have has13 := d2.kp (Kp.go b10 g13)
        refine ⟨as, nd, ts, [("w", val), ("m", "w")], H13, rfl, Same.refl _, has13, gts.wf, gts.dp, by have := gts.sz; omega, hnd13, fun l H14 hl s14 hat14 => ?_⟩
        exact ⟨l, _, rfl, b13.same s14, s14 _ _ (g13.ext _ _ npB hp10), s14 _ _ (g13.ext _ _ nmB hm10), (src10.go b10 g13).same s14, (cat10.go b10 g13).same s14, At.same (cb_self s14) hat14, gts.ren okn⟩
    rintro σ H10 ⟨r, t, rfl, b10, hp10, hm10, src10, cat10, hat10, gt⟩
    refine ⟨_, rfl, B, b, 4, rfl, by decide, b10, fun z H11 z0 z4 g11 b11 => ?_⟩
    have hp11 := g11.ext _ _ npB hp10
    have hm11 := g11.ext _ _ nmB hm10
    have src11 := src10.go b10 g11
    have cat11 := cat10.go b10 g11
    have hat11 := hat10.kp (Kp.go b10 g11)
    refine ⟨_, _, rfl, rfl, _, rfl, ite2 (fun _ => ?_) (fun _ => ⟨_, _, Mm, rfl, b11, hp11, hm11, src11, cat11.step⟩)⟩
    obtain ⟨kvs, e3, e4, cat12⟩ := cat11.put hk hat11 gt
    obtain ⟨nd1, nd2⟩ := box_dk b11 e3
    refine ⟨_, rfl, _, rfl, _, rfl, Cg, .ref di, rfl, cat11.get, _, rfl, di, _, rfl, DPut.k (k := Sum.inr k) e3 (sz_line (by omega)), _, _, _, rfl, b11.mut nd1 nd2 _, ?_, ?_, ⟨src11.at_.updD cat11.n2 e3 _, src11.sub, src11.gd⟩, cat12⟩
    · rw [upd_ne (fun z => by rw [z, e3] at hp11; cases hp11)]
      exact hp11
    · rw [upd_ne (fun z => by rw [z, e3] at hm11; cases hm11)]
      exact hm11
  rintro σ H5 ⟨o3, o4, o6, Cm, n, rfl, b5, src5, cas5⟩
  have ok := Src.ok src5 cas5
  have hS5 := src5.at_
  have hC5 := cas5.at_
  clear src5 cas5 b5
  have gdS : GoodM Sm := fun p hp => (ok.sg p hp).1
  have gdC : ∀ p ∈ Cm, GoodM p.2 := fun p hp => (ok.cm p hp).2.2
  refine ⟨_, rfl, _, rfl, by show 2 ≤ sizeLine; decide, fun rl hrl => ⟨rl, dAll Sm Cm, rfl, ?_, dAll_sh ok, ?_⟩⟩
  · have s1 : Same H5 (upd H5 rl (.lst [.ref S, .ref Cg])) := same_new hrl _
    exact .lst (SqL.of upd_same) (.cons ((hS5.same s1).is gdS) (.cons ((hC5.same s1).is gdC) .nil))
  have s6 : Same H5 (upd H5 rl (.lst [.ref S, .ref Cg])) := same_new hrl _
  have hS6 := hS5.same s6
  have hC6 := hC5.same s6
  generalize upd H5 rl (.lst [.ref S, .ref Cg]) = H6 at hS6 hC6 ⊢
  refine ⟨Nat.zero_le _, fun dl0 hdl0 => ?_⟩
  have s7 : Same H6 (upd H6 dl0 (.lst [])) := same_new hdl0 _
  obtain ⟨skv, hs1, hs2⟩ := id hS6
  obtain ⟨ckv, hc1, hc2⟩ := id hC6
  have cl := codesOf_len Cm
  have sl5 : skv.length ≤ 5 := by
    have e1 := congrArg List.length hs2.keys
    rw [List.length_map, List.length_map] at e1
    rw [e1]
    exact nodup_few ok.sn ok.sk
  refine ⟨fun σ H' => ∃ (o3 o6 o9 : Option V) (dl : Addr) (vs : List V), σ = [some (.ref a), some (.ref B), some (.ref S), o3, o4, some (.ref Cg), o6, some (.str (dAll Sm Cm).shown), some (.ref dl), o9, none] ∧ Same H6 H' ∧ H' dl = some (.lst vs) ∧ AR H' (cf Sm Cm) vs, ?_, ?_⟩
  rotate_left
  · -- the two answers, and what was kept
    rintro σ H7 ⟨o3, o6, o9, dl, vs, rfl, s67, hv, hA⟩
    refine ⟨_, rfl, _, rfl, S, Cg, Sm, Cm, rfl, hS6.same s67, hC6.same s67, ok, fun r H8 ws hr s8 hw hA8 => ?_⟩
    have hsh := dAR_sh (cf_w ok) (Nat.le_trans (cf_len Sm Cm) (by decide))
    refine ⟨_, rfl, .ref r, .ref dl, dAR (cf Sm Cm), dAR (cf Sm Cm), rfl, .lst (SqL.of hw) hA8.dp, .lst (SqL.of (s8 _ _ hv)) (hA.mono (Tk.of s8)).dp, hsh, hsh, _, rfl, ?_⟩
    rw [decide_eq_true rfl]
    refine iteT ⟨_, rfl, _, rfl, by show 2 ≤ sizeLine; decide, fun rl2 hrl2 => ⟨rl2, dAll Sm Cm, rfl, ?_, dAll_sh ok, _, rfl, ?_⟩⟩
    · have s9 : Same H8 (upd H8 rl2 (.lst [.ref S, .ref Cg])) := same_new hrl2 _
      have sA := (s67.trans s8).trans s9
      exact .lst (SqL.of upd_same) (.cons ((hS6.same sA).is gdS) (.cons ((hC6.same sA).is gdC) .nil))
    · refine ⟨rfl, ?_⟩
      rw [ds_yes]
      exact q _
  -- the faults, code by code
  refine ⟨_, rfl, Cg, ckv, Cm.map (·.1), rfl, .inl (s7 _ _ hc1), hc2.keys, Nat.lt_of_le_of_lt (nodup_few ok.cn ok.ck) (by decide), fun ys sl hp hs hsl => ⟨sl, rfl, ⟨_, SqL.of upd_same⟩, ?_⟩⟩
  obtain rfl : ys = codesOf Cm := srt_eq uni_c hp ok.cn ok.ck hs
  have s8 : Same (upd H6 dl0 (.lst [])) (upd (upd H6 dl0 (.lst [])) sl (.lst ((codesOf Cm).map V.str))) := same_new hsl _
  refine for_list (xs := (codesOf Cm).map V.str) (fun i σ H' => ∃ (o3 o6 o9 : Option V) (dl : Addr) (vs : List V), σ = [some (.ref a), some (.ref B), some (.ref S), o3, o4, some (.ref Cg), o6, some (.str (dAll Sm Cm).shown), some (.ref dl), o9, none] ∧ Same H6 H' ∧ H' sl = some (.lst ((codesOf Cm).map V.str)) ∧ H6 dl = none ∧ dl ≠ sl ∧ H' dl = some (.lst vs) ∧ AR H' (((codesOf Cm).take i).flatMap fun c => cfC Sm Cm c) vs)
    ⟨o3, o6, none, dl0, [], rfl, s7.trans s8, upd_same, hdl0, ne_of_none (H := upd H6 dl0 (.lst [])) upd_same hsl, s8 _ _ upd_same, rfl⟩ (fun i σ H' _ ⟨_, _, _, _, _, _, _, h, _⟩ => SqL.of h) ?_ ?_
  rotate_left
  · rintro σ H' ⟨o3, o6, o9, dl, vs, rfl, s', _, _, _, hv, hA⟩
    rw [List.length_map, List.take_length] at hA
    exact ⟨o3, o6, o9, dl, vs, rfl, s', hv, hA⟩
  rintro i x σ H7 hx ⟨o3, o6, o9, dl, vs, rfl, s67, hsl7, hdl, nds, hv, hA⟩
  obtain ⟨c, hc, rfl⟩ : ∃ c, (codesOf Cm)[i]? = some c ∧ x = V.str c := by
    rw [List.getElem?_map] at hx
    cases e : (codesOf Cm)[i]? with
    | none => rw [e] at hx; cases hx
    | some y => rw [e] at hx; exact ⟨y, rfl, (Option.some.inj hx).symm⟩
  have hcm := srt_mem.mp (List.mem_of_getElem? hc)
  obtain ⟨da, g1, g0, g3⟩ := hc2.get hcm.2
  obtain ⟨mk1, mk2, mk3⟩ := ok.cm _ g3
  have cget : ∀ {H' : Hp}, Same H6 H' → DGet H' Cg (.str c) (some (.ref da)) := fun s' => .inl ⟨ckv, Sum.inr c, .inl (s' _ _ hc1), rfl, g1.symm⟩
  obtain ⟨mkv, hm1, hm2⟩ := id g0
  have ml5 : mkv.length ≤ 5 := by
    have e1 := congrArg List.length hm2.keys
    rw [List.length_map, List.length_map] at e1
    rw [e1]
    exact nodup_few mk2 mk1
  have lS : (Sm.map (·.1)).length ≤ 5 := nodup_few ok.sn ok.sk
  have lM : ((lkC Cm c).map (·.1)).length ≤ 5 := nodup_few mk2 mk1
  refine ⟨_, rfl, S, skv, rfl, .inl (s67 _ _ hs1), fun la hla => ⟨_, rfl, _, rfl, Cg, .ref da, rfl, cget (s67.trans (same_new hla _)), da, mkv, rfl, .inl ((s67.trans (same_new hla _)) _ _ hm1), fun lb hlb => ?_⟩⟩
  rw [keys_vs hs2, keys_vs hm2] at *
  have sa : Same H7 (upd H7 la (.lst ((Sm.map (·.1)).map V.str))) := same_new hla _
  have sb := same_new (H := upd H7 la (.lst ((Sm.map (·.1)).map V.str))) hlb (.lst (((lkC Cm c).map (·.1)).map V.str))
  have hla2 := sb _ _ (upd_same (H := H7) (a := la) (o := .lst ((Sm.map (·.1)).map V.str)))
  have hlb2 := upd_same (H := upd H7 la (.lst ((Sm.map (·.1)).map V.str))) (a := lb) (o := .lst (((lkC Cm c).map (·.1)).map V.str))
  have sab := sa.trans sb
  generalize upd (upd H7 la (.lst ((Sm.map (·.1)).map V.str))) lb (.lst (((lkC Cm c).map (·.1)).map V.str)) = H8 at hla2 hlb2 sab ⊢
  refine ⟨la, lb, _, _, rfl, rfl, hla2, hlb2, le_line (by have a1 : ((Sm.map (·.1)).map V.str).length = (Sm.map (·.1)).length := List.length_map _; have a2 : (((lkC Cm c).map (·.1)).map V.str).length = ((lkC Cm c).map (·.1)).length := List.length_map _; omega), fun lc hlc => ?_⟩
  have sc : Same H8 (upd H8 lc (.lst ((Sm.map (·.1)).map V.str ++ ((lkC Cm c).map (·.1)).map V.str))) := same_new hlc _
  refine ⟨lc, Sm.map (·.1) ++ (lkC Cm c).map (·.1), rfl, by rw [List.map_append]; exact upd_same, by rw [List.length_append]; exact Nat.lt_of_le_of_lt (Nat.add_le_add (Nat.add_le_add lS lM) (Nat.le_refl 1)) (by decide), fun ps l hps nd mem _ => ?_⟩
  have lU : ∀ m ∈ l, m ∈ kU := fun m hm => by
    rcases List.mem_append.mp ((mem m).mp hm) with z | z
    · exact ok.sk m z
    · exact mk1 m z
  have sd := same_new (H := upd H8 lc (.lst ((Sm.map (·.1)).map V.str ++ ((lkC Cm c).map (·.1)).map V.str))) hps (Tst.TSet P w ps l)
  refine ⟨ps, l, rfl, upd_same, Nat.lt_of_le_of_lt (nodup_few nd lU) (by decide), fun ys tl hp hso htl => ⟨tl, rfl, ⟨_, SqL.of upd_same⟩, ?_⟩⟩
  obtain rfl : ys = keysOf Sm (lkC Cm c) := by
    rw [srt_eq uni_k hp nd lU hso]
    unfold keysOf srt
    congr 1
    funext m
    simp only [mem m]
  have s9 := (sab.trans sc).trans sd
  generalize upd (upd H8 lc (.lst ((Sm.map (·.1)).map V.str ++ ((lkC Cm c).map (·.1)).map V.str))) ps (Tst.TSet P w ps l) = H9 at s9 htl
  have s10 : Same H9 (upd H9 tl (.lst ((keysOf Sm (lkC Cm c)).map V.str))) := same_new htl _
  have kl := keysOf_len Sm (lkC Cm c)
  have ndt : dl ≠ tl := ne_of_none (s9 _ _ hv) htl
  have pl : vs.length ≤ 225 := by
    rw [hA.length]
    have h := flat_len (fun c => cfC Sm Cm c) 75 (fun c => cfC_len Sm Cm c) ((codesOf Cm).take i)
    have h2 : ((codesOf Cm).take i).length ≤ 3 := by rw [List.length_take]; omega
    omega
  refine for_list (xs := (keysOf Sm (lkC Cm c)).map V.str) (fun j σ H' => ∃ (o3 o9 : Option V) (dl : Addr) (us : List V), σ = [some (.ref a), some (.ref B), some (.ref S), o3, o4, some (.ref Cg), some (.str c), some (.str (dAll Sm Cm).shown), some (.ref dl), o9, none] ∧ Same H6 H' ∧ H' sl = some (.lst ((codesOf Cm).map V.str)) ∧ H' tl = some (.lst ((keysOf Sm (lkC Cm c)).map V.str)) ∧ H6 dl = none ∧ dl ≠ sl ∧ dl ≠ tl ∧ H' dl = some (.lst us) ∧
      AR H' ((((codesOf Cm).take i).flatMap fun c => cfC Sm Cm c) ++ ((keysOf Sm (lkC Cm c)).take j).flatMap fun k => rowsK Sm (lkC Cm c) c k) us)
    ⟨o3, o9, dl, vs, rfl, (s67.trans s9).trans s10, (s9.trans s10) _ _ hsl7, upd_same, hdl, nds, ndt, (s9.trans s10) _ _ hv, by rw [List.take_zero]; show AR _ (_ ++ []) _; rw [List.append_nil]; exact hA.mono (Tk.of (s9.trans s10))⟩ (fun j σ H' _ ⟨_, _, _, _, _, _, _, h, _⟩ => SqL.of h) ?_ ?_
  rotate_left
  · rintro σ H' ⟨o3', o9', dl', us, rfl, s', hsl', htl', hdl', n1, n2, hu', hA'⟩
    rw [List.length_map, List.take_length] at hA'
    refine ⟨o3', _, o9', dl', us, rfl, s', hsl', hdl', n1, hu', ?_⟩
    rw [flat_take (fun c => cfC Sm Cm c) hc]
    exact hA'
  rintro j x σ H10 hx10 ⟨o3', o9', dl', us, rfl, s', hsl', htl', hdl', n1, n2, hu', hA'⟩
  obtain ⟨k, hk, rfl⟩ : ∃ k, (keysOf Sm (lkC Cm c))[j]? = some k ∧ x = V.str k := by
    rw [List.getElem?_map] at hx10
    cases e : (keysOf Sm (lkC Cm c))[j]? with
    | none => rw [e] at hx10; cases hx10
    | some y => rw [e] at hx10; exact ⟨y, rfl, (Option.some.inj hx10).symm⟩
  have ul : us.length ≤ 300 := by
    rw [hA'.length, List.length_append, ← hA.length]
    have h := flat_len (fun k => rowsK Sm (lkC Cm c) c k) 15 (fun k => rowsK_len _ _ _ _) ((keysOf Sm (lkC Cm c)).take j)
    have h2 : ((keysOf Sm (lkC Cm c)).take j).length ≤ 5 := by rw [List.length_take]; omega
    omega
  have hM10 := g0.same s'
  have hS10 := hS6.same s'
  -- one row more in the list that is due
  have one : ∀ word : Str, fa Sm (lkC Cm c) k = [(word, none)] → ∀ tp, H10 tp = none → ∃ (o3 o9 : Option V) (dl : Addr) (us' : List V), [some (V.ref a), some (.ref B), some (.ref S), some (.str k), o4, some (.ref Cg), some (.str c), some (.str (dAll Sm Cm).shown), some (.ref dl'), o9', none] = [some (.ref a), some (.ref B), some (.ref S), o3, o4, some (.ref Cg), some (.str c), some (.str (dAll Sm Cm).shown), some (.ref dl), o9, none] ∧ Same H6 (upd (upd H10 tp (.tup [.str c, .str k, .str word, .non])) dl' (.lst (us ++ [.ref tp]))) ∧ upd (upd H10 tp (.tup [.str c, .str k, .str word, .non])) dl' (.lst (us ++ [.ref tp])) sl = some (.lst ((codesOf Cm).map V.str)) ∧ upd (upd H10 tp (.tup [.str c, .str k, .str word, .non])) dl' (.lst (us ++ [.ref tp])) tl = some (.lst ((keysOf Sm (lkC Cm c)).map V.str)) ∧ H6 dl = none ∧ dl ≠ sl ∧ dl ≠ tl ∧ upd (upd H10 tp (.tup [.str c, .str k, .str word, .non])) dl' (.lst (us ++ [.ref tp])) dl = some (.lst us') ∧
      AR (upd (upd H10 tp (.tup [.str c, .str k, .str word, .non])) dl' (.lst (us ++ [.ref tp]))) ((((codesOf Cm).take i).flatMap fun c => cfC Sm Cm c) ++ ((keysOf Sm (lkC Cm c)).take (j + 1)).flatMap fun k => rowsK Sm (lkC Cm c) c k) us' := by
    intro word hf tp htp
    have s11 : Same H10 (upd H10 tp (.tup [.str c, .str k, .str word, .non])) := same_new htp _
    have hu11 := s11 _ _ hu'
    have ntp : tp ≠ dl' := (ne_of_none hu' htp).symm
    refine ⟨_, _, dl', _, rfl, same_mut (s'.trans s11) hdl' _, by rw [upd_ne n1.symm]; exact s11 _ _ hsl', by rw [upd_ne n2.symm]; exact s11 _ _ htl', hdl', n1, n2, upd_same, ?_⟩
    rw [flat_take (fun k => rowsK Sm (lkC Cm c) c k) hk, ← List.append_assoc]
    have er : rowsK Sm (lkC Cm c) c k = [(c, k, word, none)] := by
      unfold rowsK
      rw [hf]
      rfl
    rw [er]
    exact AR.app (show AR _ [(c, k, word, none)] [.ref tp] from ⟨tp, [], rfl, by rw [upd_ne ntp]; exact upd_same, rfl⟩) (hA'.mono fun b xs hb => Tk.lst hu11 b xs (Tk.of s11 b xs hb))
  cases em : lkT (lkC Cm c) k with
  | none =>
    refine ⟨_, rfl, _, rfl, _, rfl, Cg, .ref da, rfl, cget s', da, _, rfl, (hM10.dget k).2 em, _, rfl, iteT ⟨_, rfl, .inl ⟨rfl, _, SqL.of hu'⟩, _, rfl, _, rfl, by show 4 ≤ sizeLine; decide, fun tp htp => ⟨dl', us, _, rfl, rfl, same_new htp _ _ _ hu', sz_line (by omega), one "lacks" ?_ tp htp⟩⟩⟩
    unfold fa
    rw [em]
  | some tm =>
    obtain ⟨am, d1, d2⟩ := (hM10.dget k).1 tm em
    refine ⟨_, rfl, _, rfl, _, rfl, Cg, .ref da, rfl, cget s', da, _, rfl, d1, _, rfl, iteF ?_⟩
    cases es : lkT Sm k with
    | none =>
      refine ⟨_, rfl, _, rfl, S, _, rfl, (hS10.dget k).2 es, _, rfl, iteT ⟨_, rfl, .inl ⟨rfl, _, SqL.of hu'⟩, _, rfl, _, rfl, by show 4 ≤ sizeLine; decide, fun tp htp => ⟨dl', us, _, rfl, rfl, same_new htp _ _ _ hu', sz_line (by omega), one "more" ?_ tp htp⟩⟩⟩
      unfold fa
      rw [em, es]
    | some ts =>
      obtain ⟨as, e1, e2⟩ := (hS10.dget k).1 ts es
      obtain ⟨gs, ls, hls⟩ : Gt ts ∧ ∃ ls, go [] ts.asks = .ok ls := ok.sg _ (lkT_mem es)
      have gm : Gt tm := mk3 _ (lkT_mem em)
      have zs := gs.sz
      have zm := gm.sz
      have ps := gs.dp
      have pm := gm.dp
      refine ⟨_, rfl, _, rfl, S, _, rfl, e1, _, rfl, iteF ⟨_, rfl, _, rfl, S, .ref as, rfl, e1, _, rfl, _, rfl, Cg, .ref da, rfl, cget s', _, rfl, da, .ref am, rfl, d1, as, am, ts, tm, ls, rfl, e2, d2, gs.wf, gm.wf, by omega, by omega, by omega, by omega, gs.nm, gm.nm, hls, fun r H11 fs hr s11 hf hAf => ?_⟩⟩
      have s611 := s'.trans s11
      obtain ⟨as2, e3, e4⟩ := ((hS6.same s611).dget k).1 ts es
      obtain ⟨am2, d3, d4⟩ := ((g0.same s611).dget k).1 tm em
      refine ⟨_, rfl, _, rfl, S, .ref as2, rfl, e3, _, rfl, _, rfl, Cg, .ref da, rfl, cget s611, _, rfl, da, .ref am2, rfl, d3, as2, am2, ts, tm, ls, rfl, e4, d4, gs.wf, gm.wf, by omega, by omega, gs.nm, gm.nm, hls, fun r2 H12 fs2 hr2 s12 hf2 hAf2 => ?_⟩
      have hsh := dAL_sh (mfE_w (ks_ok hls gs.nm) gm.nm) (mfE_len ls tm)
      have hf12 := s12 _ _ hf
      refine ⟨_, rfl, .ref r2, .ref r, dAL (mfE ls tm), dAL (mfE ls tm), rfl, .lst (SqL.of hf2) hAf2.dp, .lst (SqL.of hf12) (hAf.mono (Tk.of s12)).dp, hsh, hsh, _, rfl, ?_⟩
      rw [decide_eq_true rfl]
      refine iteF ?_
      have hAo := (hAf.mono (Tk.of s12)).ao
      have ln := hAo.length
      have fl15 : (foL (mfE ls tm)).length ≤ 15 := by unfold foL; rw [List.length_map]; exact mfE_len ls tm
      have hu12 := s12 _ _ (s11 _ _ hu')
      refine ⟨_, rfl, _, rfl, r, rfl, ⟨_, SqL.of hf12⟩, fun D hD => ?_⟩
      refine lc_list (xs := fs) (fun m H' => Same H12 H' ∧ ∃ zs, H' D = some (.lst zs) ∧ AR H' (((foL (mfE ls tm)).take m).map fun q => (c, k, q)) zs) ⟨same_new hD _, [], upd_same, rfl⟩ (fun m H' _ ⟨s5, _⟩ => SqL.of (s5 _ _ hf12)) ?_ ?_
      · rintro m x H13 hx13 ⟨s13, zs, hz, hAz⟩
        obtain ⟨qq, pa, hq, rfl, hpa⟩ := hAo.get hx13
        have zl : zs.length ≤ 15 := by
          rw [hAz.length, List.length_map, List.length_take]
          omega
        refine ⟨rfl, _, rfl, _, rfl, by show 2 ≤ sizeLine; decide, fun tp htp => ?_⟩
        have s14 : Same H13 (upd H13 tp (.tup [.str c, .str k])) := same_new htp _
        refine ⟨_, rfl, tp, pa, [.str c, .str k], [.str qq.1, oV qq.2], rfl, rfl, .inl (.inl upd_same), .inl (.inl (s14 _ _ (s13 _ _ hpa))), by simp, by show 4 ≤ sizeLine; decide, (fun z => nomatch z), fun _ p3 hp3 => ?_⟩
        have s15 := same_new (H := upd H13 tp (.tup [.str c, .str k])) hp3 (.tup ([.str c, .str k] ++ [.str qq.1, oV qq.2]))
        have s135 := s14.trans s15
        have np3 : p3 ≠ D := (ne_of_none (s14 _ _ hz) hp3).symm
        refine ⟨zs, s135 _ _ hz, sz_line (by omega), same_mut (s13.trans s135) hD _, zs ++ [.ref p3], upd_same, ?_⟩
        rw [List.take_succ, hq, List.map_append]
        exact AR.app (show AR _ [(c, k, qq)] [.ref p3] from ⟨p3, [], rfl, by rw [upd_ne np3]; exact upd_same, rfl⟩) ((hAz.mono (Tk.of s135)).mono (Tk.lst (s135 _ _ hz)))
      · rintro H13 ⟨s13, zs, hz, hAz⟩
        rw [ln, List.take_length] at hAz
        have hu13 := s13 _ _ hu12
        have zl : zs.length ≤ 15 := by
          rw [hAz.length, List.length_map]
          omega
        refine ⟨dl', D, us, zs, rfl, rfl, hu13, hz, le_line (by omega), fun l3 hl3 => ?_⟩
        have s14 : Same H13 (upd H13 l3 (.lst (us ++ zs))) := same_new hl3 _
        have sA := ((s11.trans s12).trans s13).trans s14
        have n3 : l3 ≠ sl := (ne_of_none (((s11.trans s12).trans s13) _ _ hsl') hl3).symm
        have n4 : l3 ≠ tl := (ne_of_none (((s11.trans s12).trans s13) _ _ htl') hl3).symm
        refine ⟨_, _, l3, us ++ zs, rfl, s'.trans sA, sA _ _ hsl', sA _ _ htl', (s'.trans ((s11.trans s12).trans s13)).free hl3, n3, n4, upd_same, ?_⟩
        rw [flat_take (fun k => rowsK Sm (lkC Cm c) c k) hk, ← List.append_assoc]
        have er : rowsK Sm (lkC Cm c) c k = (foL (mfE ls tm)).map fun q => (c, k, q) := by
          unfold rowsK fa mfT
          rw [em, es]
          show (foL (match go [] ts.asks with | .ok ls => mfE ls tm | .error _ => [])).map _ = _
          rw [hls]
        rw [er]
        exact AR.app (hAz.mono (Tk.of s14)) (hA'.mono (Tk.of sA))
end
end Mw

set_option linter.all false
/-! the law's own def, run where the caller runs it: nothing is being shown there -/
namespace Gy
open PySem PySem.Spec PyProof.Rows L2
/-- a def's promise around A alone -/
def RunAt (A : Around) (P : Program) (w : World) (K : PySem.W.Frag) (mg : Str → Option Value) (base : Heap) (CX : CXT) (k : Nat) (f : Addr) (fd : FuncData) (ps : List Str) (sp : Sp) : Prop :=
  ∀ (outer : List Env) (s : Shared) (H : Hp) (args : Args) (us : List Value) (vs : List V) (Q : VK) (E : XK), Room k A → Env0 P w K mg base A outer s H → BindsTo s fd args (ps.zip us) → Vals vs us → sp vs H Q E →
    codeAny (model P w) A (.call (.ref f) args) (CR CX outer P w H s Q E) s
section
variable {P : Program} {w : World} {K : PySem.W.Frag} {mg : Str → Option Value} {base : Heap}
/-- from one abstract heap H that knows the script and nothing else -/
theorem heap_at {mb : Str → Option Value} {k : Nat} {fa a : Addr} {fd : FuncData} {x : Str} {sp : Sp} {s₁ : Shared} {vs : List Value} {ns : List Int} (KX : K.In s₁.heap) (hns : s₁.heap.Ns mainGlobals mg) (hb : s₁.heap.Ns builtinsNs mb)
    (hbb : ∀ x : Str, x ≠ "__name__" → mb x = bootBuiltins x) (hlim : s₁.heap.NoLimit) (hg : s₁.gens = #[]) (ha : s₁.heap.get? a = some { cls := .type "list", data := .seq vs.toArray }) (hr : Room k callerA)
    (F : ∀ base : Heap, K.In base → base.Ns mainGlobals mg → RunAt callerA P w K mg base CX0 k fa fd [x] sp) (hbind : ∀ (s : Shared) (u : Value), BindsTo s fd ⟨[u], []⟩ [(x, u)])
    (H : Hp) (hO : Only H) (hsp : sp [.ref a] H (fun v _ => v = .bl true) fun _ _ _ => False) (hok : HOk P w H s₁.heap) (hA : ∀ b u, H b = some u → b = a ∧ K.lookup a = none) :
    codeAny (model P w) callerA (.call (.ref fa) ⟨[.ref a], []⟩) (fun r s' => r = .ok (.ret (.bool true)) ∧ OldK s₁.heap s'.heap ∧ s'.os = s₁.os ∧ AllBare s'.gens) s₁ := by
  have dict : ∀ {b : Addr} {o : Obj} {es : Array DictEntry} {ep : Nat}, s₁.heap.get? b = some o → o.data = .dict es ep → H b = none := fun {b o es ep} e hd => by
    cases q : H b with
    | none => rfl
    | some u =>
      rw [(hA b u q).1, ha] at e
      cases e
      cases (show Data.seq vs.toArray _ = Data.dict es ep from hd)
  have ns0 : ∀ {b : Addr} {m : Str → Option Value}, s₁.heap.Ns b m → (hidT s₁.heap H).Ns b m := fun {b m} ⟨o, es, ep, e, hd, r⟩ => ⟨o, es, ep, hidT_get e (dict e hd), hd, r⟩
  have kb : K.In (hidT s₁.heap H) := fun b o e => hidT_get (KX b o e) (by
    cases q : H b with
    | none => rfl
    | some u =>
      obtain ⟨h1, h2⟩ := hA b u q
      rw [h1, h2] at e
      cases e)
  obtain ⟨mc, l1, l2⟩ := hlim
  have md : Mod K mg (hidT s₁.heap H) := ⟨kb, ns0 hns, ⟨mb, ns0 hb, hbb⟩, ⟨mc, ns0 l1, l2⟩⟩
  have nomem : ∀ b : Addr, b ∉ ([] : List Addr) := fun b h => by cases h
  have e0 : Env0 P w K mg (hidT s₁.heap H) callerA [] s₁ H :=
    { frames := rfl, mod := md, bs := fun b o e => of_hidT e, bsz := Nat.le_of_eq (hidT_size _ _), funs := trivial, frf := fun b h => absurd h (nomem b), hok := hok, bare := .of_eq hg }
  have run := (F _ kb (ns0 hns)) [] s₁ H ⟨[.ref a], []⟩ [.ref a] [.ref a] _ _ hr e0 (hbind s₁ (.ref a)) (.cons rfl .nil) hsp
  refine codeAny_mono run fun r s' h => ?_
  match r, h with
  | .error _, h => exact False.elim h
  | .ok .next, h => exact False.elim h
  | .ok .brk, h => exact False.elim h
  | .ok .cont, h => exact False.elim h
  | .ok (.ret u), h =>
    obtain ⟨v, H', os, bare, un, hok', rv, q⟩ := h
    have ev : v = .bl true := q
    subst ev
    have eu : u = Value.bool true := rv
    subst eu
    refine ⟨rfl, OldK.of_keep fun b o e => ?_, os, bare⟩
    cases hb : H b with
    | none => exact un.keep b o e hb (nomem b) (nomem b)
    | some y =>
      rcases hO b with z | ⟨ob, xs, z⟩
      · rw [hb] at z
        cases z
      · obtain ⟨g1, _⟩ := hok b _ z
        obtain ⟨g2, _⟩ := hok' b _ (un.frzs b ob _ z)
        rw [e] at g1
        cases g1
        exact g2
theorem call_at {mb : Str → Option Value} {k : Nat} {fa a : Addr} {fd : FuncData} {x : Str} {sp : Sp} {s₁ : Shared} {vs : List Value} {ns : List Int} (KX : K.In s₁.heap) (hns : s₁.heap.Ns mainGlobals mg) (hb : s₁.heap.Ns builtinsNs mb)
    (hbb : ∀ x : Str, x ≠ "__name__" → mb x = bootBuiltins x) (hlim : s₁.heap.NoLimit) (hg : s₁.gens = #[]) (ha : s₁.heap.get? a = some { cls := .type "list", data := .seq vs.toArray }) (hi : IntsAre vs ns) (hl : ns.length ≤ sizeLine) (hr : Room k callerA)
    (F : ∀ base : Heap, K.In base → base.Ns mainGlobals mg → RunAt callerA P w K mg base CX0 k fa fd [x] sp) (hbind : ∀ (s : Shared) (u : Value), BindsTo s fd ⟨[u], []⟩ [(x, u)])
    (hsp : ∀ H : Hp, Only H → SqL K H a (ns.map V.int) → sp [.ref a] H (fun v _ => v = .bl true) fun _ _ _ => False) :
    codeAny (model P w) callerA (.call (.ref fa) ⟨[.ref a], []⟩) (fun r s' => r = .ok (.ret (.bool true)) ∧ OldK s₁.heap s'.heap ∧ s'.os = s₁.os ∧ AllBare s'.gens) s₁ := by
  have rv := vals_ints hi
  have lv := hi.length
  cases hk : K.lookup a with
  | some o =>
    have e := KX a o hk
    rw [ha] at e
    cases e
    have hO : Only fun _ => none := fun _ => .inl rfl
    exact heap_at (ns := ns) KX hns hb hbb hlim hg ha hr F hbind (fun _ => none) hO (hsp _ hO (.inr ⟨_, vs.toArray, _, hk, rfl, rfl, rfl, by rw [List.size_toArray, lv]; exact hl, by simpa using rv⟩)) (fun b u z => nomatch z) fun b u z => nomatch z
  | none =>
    let ob : Obj := { cls := .type "list", data := .seq vs.toArray }
    let H : Hp := fun b => if b = a then some (.frz ob (.lst (ns.map V.int))) else none
    have at_ : H a = some (.frz ob (.lst (ns.map V.int))) := if_pos rfl
    have off : ∀ b u, H b = some u → b = a := fun b u z => by
      by_cases h : b = a
      · exact h
      · have z' : (if b = a then some (HO.frz ob (.lst (ns.map V.int))) else none) = some u := z
        rw [if_neg h] at z'
        cases z'
    have hO : Only H := fun b => by
      by_cases h : b = a
      · subst h
        exact .inr ⟨_, _, at_⟩
      · exact .inl (if_neg h)
    refine heap_at (ns := ns) KX hns hb hbb hlim hg ha hr F hbind H hO (hsp H hO (.inl (.inr ⟨ob, at_⟩))) (fun b u z => ?_) fun b u z => ⟨off b u z, hk⟩
    have h := off b u z
    subst h
    rw [at_] at z
    cases z
    exact ⟨ha, by rw [List.length_map]; exact hl, vs, _, rv, ha⟩
end
/-- the law's end, its promise asked where the caller calls it -/
theorem walk_at {l : PySem.W.OpenLaw} {n k : Nat} {q : Program} {loose : List Str} {XP : (Str → Option Value) → Heap → Prop} {YP : World → Heap → Prop} {d : DefRec} {K : Params → PySem.W.Frag} {sp : World → Sp} {x : Str}
    (hn : l.most = some n) (hn2 : n ≤ sizeLine) (hdf : d.params.defaults = []) (hr : Room k callerA) (hY : ∀ (w : World) (h : Heap), YP w h → (K w.params).In h)
    (F : ∀ (w : World) (mg : Str → Option Value) (fa : Addr) (h : Heap), (K w.params).In h → h.Ns mainGlobals mg → mg d.name = some (.ref fa) →
      ∃ fd : FuncData, (∀ (s : Shared) (u : Value), BindsTo s fd ⟨[u], []⟩ [(x, u)]) ∧ ∀ base : Heap, (K w.params).In base → base.Ns mainGlobals mg → RunAt callerA l.prog w (K w.params) mg base CX0 k fa fd [x] (sp w))
    (hsp : ∀ (w : World) (H : Hp) (a : Addr) (ns : List Int), ns.length ≤ n → Only H → SqL (K w.params) H a (ns.map V.int) → sp w [.ref a] H (fun v _ => v = .bl true) fun _ _ _ => False) :
    PySem.W.WalkO q loose XP YP l.row.toRowW d [] (fun f vs => PySem.call f vs) :=
  Att.attach_call hn hdf fun w s₀ s₁ mg mb fa o pm cd doc a vs ns G Y ho hd hcd hmg hobj hints hlen hg => by
    have KX := hY w _ Y
    obtain ⟨fd, hb, hF⟩ := F w mg fa _ KX G.T.g hmg
    exact call_at KX G.T.g G.T.b G.T.builtins G.T.nolimit hg hobj hints (Nat.le_trans hlen hn2) hr hF hb fun H hO hS => hsp w H a ns hlen hO hS
/-- a promise that carries the guards, where the caller calls -/
theorem run_of {P : Program} {w : World} {K : PySem.W.Frag} {mg : Str → Option Value} {base : Heap} {CX : CXT} {k : Nat} {f : Addr} {fd : FuncData} {ps : List Str} {sp : Sp} (F : Gg.FnG P w K mg base CX k f fd ps sp) : RunAt callerA P w K mg base CX k f fd ps sp :=
  fun outer s H args us vs Q E hr e0 hb r h => F.run callerA outer s H args us vs Q E rfl hr e0 hb r h
end Gy

namespace Mw
open PySem L2 Gg
set_option maxHeartbeats 0 in
theorem all_mk {l : PySem.W.OpenLaw} {w : World} {K : PySem.W.Frag} {h : Heap} {mg : Str → Option Value} {fa f1 f2 f3 f4 f5 f6 f7 f8 f9 f10 f11 f12 f13 f14 f15 f16 f17 f18 f19 f20 f21 C M kd fB cc cda : Addr} (X : K.In h) (G : h.Ns mainGlobals mg) (hfa : mg "law" = some (.ref fa))
    {od1 an1 od2 an2 od3 an3 od4 an4 od5 an5 od6 an6 od7 an7 od8 an8 od9 an9 od10 an10 od11 an11 od12 an12 od13 an13 od14 an14 od15 an15 od16 an16 od17 an17 od18 an18 od19 an19 od20 an20 od21 an21 odB anB cdd cd0 dd : Option Addr} {sl1 sl2 sl3 sl4 sl5 sl6 sl7 sl8 sl9 sl10 sl11 sl12 sl13 sl14 sl15 sl16 sl17 sl18 sl19 sl20 sl21 slB ccs cs0 : Array (Option Value)} {oc1 kV1 dc1 pm1 cd1 ct1 oc2 kV2 dc2 pm2 cd2 ct2 oc3 kV3 dc3 pm3 cd3 ct3 oc4 kV4 dc4 pm4 cd4 ct4 oc5 kV5 dc5 pm5 cd5 ct5 oc6 kV6 dc6 pm6 cd6 ct6 oc7 kV7 dc7 pm7 cd7 ct7 oc8 kV8 dc8 pm8 cd8 ct8 oc9 kV9 dc9 pm9 cd9 ct9 oc10 kV10 dc10 pm10 cd10 ct10 oc11 kV11 dc11 pm11 cd11 ct11 oc12 kV12 dc12 pm12 cd12 ct12 oc13 kV13 dc13 pm13 cd13 ct13 oc14 kV14 dc14 pm14 cd14 ct14 oc15 kV15 dc15 pm15 cd15 ct15 oc16 kV16 dc16 pm16 cd16 ct16 oc17 kV17 dc17 pm17 cd17 ct17 oc18 kV18 dc18 pm18 cd18 ct18 oc19 kV19 dc19 pm19 cd19 ct19 oc20 kV20 dc20 pm20 cd20 ct20 oc21 kV21 dc21 pm21 cd21 ct21 ocB kVB dcB pmB ctB ccl ce0 : Value} {oS : Obj}
    {nm qn file : Str} {N : Addr} {bs sub : List Value} {sn : List Str} {ab : Bool} {col : Option Bool} {m0 m1 m2 m3 m5 : Option Value} {cvs : Array Value} {tf t1 t2 t3 : Tok} {es : Array DictEntry} {en : Nat}
    (a1 : PySem.W.nsIn K mainGlobals "is_choice" = some (some (.ref f1))) (l1 : K.lookup f1 = some ⟨oc1, od1, .func (PySem.W.fnOf "is_choice" "is_choice" (defArgs sIs) (defBody sIs) (defScope sIs) .none kV1 dc1 pm1 an1 cd1 ct1), sl1⟩) (c1 : PySem.W.codeIn K cd1 "is_choice" = true) (k1 : PySem.W.keepIn K (.ref f1) = true)
    (a2 : PySem.W.nsIn K mainGlobals "cases_of" = some (some (.ref f2))) (l2 : K.lookup f2 = some ⟨oc2, od2, .func (PySem.W.fnOf "cases_of" "cases_of" (defArgs sCases) (defBody sCases) (defScope sCases) .none kV2 dc2 pm2 an2 cd2 ct2), sl2⟩) (c2 : PySem.W.codeIn K cd2 "cases_of" = true) (k2 : PySem.W.keepIn K (.ref f2) = true)
    (a3 : PySem.W.nsIn K mainGlobals "other_of" = some (some (.ref f3))) (l3 : K.lookup f3 = some ⟨oc3, od3, .func (PySem.W.fnOf "other_of" "other_of" (defArgs sOther) (defBody sOther) (defScope sOther) .none kV3 dc3 pm3 an3 cd3 ct3), sl3⟩) (c3 : PySem.W.codeIn K cd3 "other_of" = true) (k3 : PySem.W.keepIn K (.ref f3) = true)
    (a4 : PySem.W.nsIn K mainGlobals "inner_messages" = some (some (.ref f4))) (l4 : K.lookup f4 = some ⟨oc4, od4, .func (PySem.W.fnOf "inner_messages" "inner_messages" (defArgs sInner) (defBody sInner) (defScope sInner) .none kV4 dc4 pm4 an4 cd4 ct4), sl4⟩) (c4 : PySem.W.codeIn K cd4 "inner_messages" = true) (k4 : PySem.W.keepIn K (.ref f4) = true)
    (a5 : PySem.W.nsIn K mainGlobals "all_nodes" = some (some (.ref f5))) (l5 : K.lookup f5 = some ⟨oc5, od5, .func (PySem.W.fnOf "all_nodes" "all_nodes" (defArgs sAll) (defBody sAll) (defScope sAll) .none kV5 dc5 pm5 an5 cd5 ct5), sl5⟩) (c5 : PySem.W.codeIn K cd5 "all_nodes" = true) (k5 : PySem.W.keepIn K (.ref f5) = true)
    (a6 : PySem.W.nsIn K mainGlobals "kinds_of" = some (some (.ref f6))) (l6 : K.lookup f6 = some ⟨oc6, od6, .func (PySem.W.fnOf "kinds_of" "kinds_of" (defArgs sKinds) (defBody sKinds) (defScope sKinds) .none kV6 dc6 pm6 an6 cd6 ct6), sl6⟩) (c6 : PySem.W.codeIn K cd6 "kinds_of" = true) (k6 : PySem.W.keepIn K (.ref f6) = true)
    (a7 : PySem.W.nsIn K mainGlobals "message_faults" = some (some (.ref f7))) (l7 : K.lookup f7 = some ⟨oc7, od7, .func (PySem.W.fnOf "message_faults" "message_faults" (defArgs sMf) (defBody sMf) (defScope sMf) .none kV7 dc7 pm7 an7 cd7 ct7), sl7⟩) (c7 : PySem.W.codeIn K cd7 "message_faults" = true) (k7 : PySem.W.keepIn K (.ref f7) = true)
    (a8 : PySem.W.nsIn K mainGlobals "faults_at" = some (some (.ref f8))) (l8 : K.lookup f8 = some ⟨oc8, od8, .func (PySem.W.fnOf "faults_at" "faults_at" (defArgs sFa) (defBody sFa) (defScope sFa) .none kV8 dc8 pm8 an8 cd8 ct8), sl8⟩) (c8 : PySem.W.codeIn K cd8 "faults_at" = true) (k8 : PySem.W.keepIn K (.ref f8) = true)
    (a9 : PySem.W.nsIn K mainGlobals "catalog_faults" = some (some (.ref f9))) (l9 : K.lookup f9 = some ⟨oc9, od9, .func (PySem.W.fnOf "catalog_faults" "catalog_faults" (defArgs sCf) (defBody sCf) (defScope sCf) .none kV9 dc9 pm9 an9 cd9 ct9), sl9⟩) (c9 : PySem.W.codeIn K cd9 "catalog_faults" = true) (k9 : PySem.W.keepIn K (.ref f9) = true)
    (a10 : PySem.W.nsIn K mainGlobals "_law_cell" = some (some (.ref f10))) (l10 : K.lookup f10 = some ⟨oc10, od10, .func (PySem.W.fnOf "_law_cell" "_law_cell" (defArgs sCell) (defBody sCell) (defScope sCell) .none kV10 dc10 pm10 an10 cd10 ct10), sl10⟩) (c10 : PySem.W.codeIn K cd10 "_law_cell" = true) (k10 : PySem.W.keepIn K (.ref f10) = true)
    (a11 : PySem.W.nsIn K mainGlobals "_law_row" = some (some (.ref f11))) (l11 : K.lookup f11 = some ⟨oc11, od11, .func (PySem.W.fnOf "_law_row" "_law_row" (defArgs sRow) (defBody sRow) (defScope sRow) .none kV11 dc11 pm11 an11 cd11 ct11), sl11⟩) (c11 : PySem.W.codeIn K cd11 "_law_row" = true) (k11 : PySem.W.keepIn K (.ref f11) = true)
    (a12 : PySem.W.nsIn K mainGlobals "_law_box" = some (some (.ref f12))) (l12 : K.lookup f12 = some ⟨oc12, od12, .func (PySem.W.fnOf "_law_box" "_law_box" (defArgs sBox) (defBody sBox) (defScope sBox) .none kV12 dc12 pm12 an12 cd12 ct12), sl12⟩) (c12 : PySem.W.codeIn K cd12 "_law_box" = true) (k12 : PySem.W.keepIn K (.ref f12) = true)
    (a13 : PySem.W.nsIn K mainGlobals "_law_draw" = some (some (.ref f13))) (l13 : K.lookup f13 = some ⟨oc13, od13, .func (PySem.W.fnOf "_law_draw" "_law_draw" (defArgs sDraw) (defBody sDraw) (defScope sDraw) .none kV13 dc13 pm13 an13 cd13 ct13), sl13⟩) (c13 : PySem.W.codeIn K cd13 "_law_draw" = true) (k13 : PySem.W.keepIn K (.ref f13) = true)
    (a14 : PySem.W.nsIn K mainGlobals "_law_same" = some (some (.ref f14))) (l14 : K.lookup f14 = some ⟨oc14, od14, .func (PySem.W.fnOf "_law_same" "_law_same" (defArgs sSame) (defBody sSame) (defScope sSame) .none kV14 dc14 pm14 an14 cd14 ct14), sl14⟩) (c14 : PySem.W.codeIn K cd14 "_law_same" = true) (k14 : PySem.W.keepIn K (.ref f14) = true)
    (a15 : PySem.W.nsIn K mainGlobals "_law_message" = some (some (.ref f15))) (l15 : K.lookup f15 = some ⟨oc15, od15, .func (PySem.W.fnOf "_law_message" "_law_message" (defArgs sMsg) (defBody sMsg) (defScope sMsg) .none kV15 dc15 pm15 an15 cd15 ct15), sl15⟩) (c15 : PySem.W.codeIn K cd15 "_law_message" = true) (k15 : PySem.W.keepIn K (.ref f15) = true)
    (a16 : PySem.W.nsIn K mainGlobals "_law_renamed" = some (some (.ref f16))) (l16 : K.lookup f16 = some ⟨oc16, od16, .func (PySem.W.fnOf "_law_renamed" "_law_renamed" (defArgs sRn) (defBody sRn) (defScope sRn) .none kV16 dc16 pm16 an16 cd16 ct16), sl16⟩) (c16 : PySem.W.codeIn K cd16 "_law_renamed" = true) (k16 : PySem.W.keepIn K (.ref f16) = true)
    (a17 : PySem.W.nsIn K mainGlobals "_law_asked" = some (some (.ref f17))) (l17 : K.lookup f17 = some ⟨oc17, od17, .func (PySem.W.fnOf "_law_asked" "_law_asked" (defArgs sAsk) (defBody sAsk) (defScope sAsk) .none kV17 dc17 pm17 an17 cd17 ct17), sl17⟩) (c17 : PySem.W.codeIn K cd17 "_law_asked" = true) (k17 : PySem.W.keepIn K (.ref f17) = true)
    (a18 : PySem.W.nsIn K mainGlobals "_law_kinds" = some (some (.ref f18))) (l18 : K.lookup f18 = some ⟨oc18, od18, .func (PySem.W.fnOf "_law_kinds" "_law_kinds" (defArgs sKn) (defBody sKn) (defScope sKn) .none kV18 dc18 pm18 an18 cd18 ct18), sl18⟩) (c18 : PySem.W.codeIn K cd18 "_law_kinds" = true) (k18 : PySem.W.keepIn K (.ref f18) = true)
    (a19 : PySem.W.nsIn K mainGlobals "_law_faults" = some (some (.ref f19))) (l19 : K.lookup f19 = some ⟨oc19, od19, .func (PySem.W.fnOf "_law_faults" "_law_faults" (defArgs sLf) (defBody sLf) (defScope sLf) .none kV19 dc19 pm19 an19 cd19 ct19), sl19⟩) (c19 : PySem.W.codeIn K cd19 "_law_faults" = true) (k19 : PySem.W.keepIn K (.ref f19) = true)
    (a20 : PySem.W.nsIn K mainGlobals "_law_odd" = some (some (.ref f20))) (l20 : K.lookup f20 = some ⟨oc20, od20, .func (PySem.W.fnOf "_law_odd" "_law_odd" (defArgs sOd) (defBody sOd) (defScope sOd) .none kV20 dc20 pm20 an20 cd20 ct20), sl20⟩) (c20 : PySem.W.codeIn K cd20 "_law_odd" = true) (k20 : PySem.W.keepIn K (.ref f20) = true)
    (a21 : PySem.W.nsIn K mainGlobals "law" = some (some (.ref f21))) (l21 : K.lookup f21 = some ⟨oc21, od21, .func (PySem.W.fnOf "law" "law" (defArgs sLaw) (defBody sLaw) (defScope sLaw) .none kV21 dc21 pm21 an21 cd21 ct21), sl21⟩) (c21 : PySem.W.codeIn K cd21 "law" = true) (k21 : PySem.W.keepIn K (.ref f21) = true)
    (aC : PySem.W.nsIn K mainGlobals "BadMessage" = some (some (.ref C)))
    (aM : PySem.W.nsIn K mainGlobals "MessagewaysError" = some (some (.ref M)))
    (aK : PySem.W.nsIn K mainGlobals "ASKED_KINDS" = some (some (.ref kd)))
    (xC : K.lookup C = some (excClassObj nm qn C N bs [.ref M, .type "ValueError", .type "Exception", .type "BaseException", .type "object"] true sn sub ab col dd m0 m1 m2 m3 m5 "ValueError.__new__"))
    (sa : PySem.W.findIn K (.ref C) "__setattr__" = some (some (.builtin "object.__setattr__")))
    (ga : PySem.W.findIn K (.ref C) "__getattribute__" = some (some (.builtin "BaseException.__getattribute__")))
    (gg : PySem.W.findIn K (.ref C) "__getattr__" = some none)
    (no : PySem.W.findIn K (.ref C) "name" = some none)
    (iC : PySem.W.findIn K (.ref C) "__init__" = some (some (.ref fB)))
    (tI : PySem.W.typeIn K (.ref fB) = some (.type "function"))
    (lB : K.lookup fB = some ⟨ocB, odB, .func (PySem.W.fnX "__init__" "BadMessage.__init__" (defArgs sBad) (defBody sBad) (defScope sBad) [("__class__", cc)] .none kVB dcB pmB anB (.ref cda) ctB), slB⟩)
    (cB : PySem.W.codeIn K (.ref cda) "BadMessage.__init__" = true)
    (lc : K.lookup cda = some ⟨ccl, cdd, .fields cvs, ccs⟩)
    (hv : cvs[2]? = some (.str file tf))
    (hf : ((l.prog.main.file : Str) == file) = true)
    (lx : K.lookup cc = some ⟨ce0, cd0, .cell (some (.ref C)), cs0⟩)
    (mr : PySem.W.mroIn K C (.ref C) = some true)
    (sm : PySem.W.ks_superIn K C C "__init__" = some (some (.builtin "ValueError.__init__")))
    (op : PySem.W.nsIn K cStatics "thirdparty.any" = some none)
    (iV : PySem.W.subIn K (.ref C) (.type "ValueError") = some true)
    (eb : PySem.W.subIn K (.ref C) (.type "BaseException") = some true)
    (tC : PySem.W.typeIn K (.ref C) = some (.type "type"))
    (kC : PySem.W.keepIn K (.ref C) = true)
    (hdC : PySem.W.hasDictIn K C = true)
    (sCC : PySem.W.subIn K (.ref C) (.ref C) = some true)
    (xK : K.lookup kd = some ⟨.type "dict", none, .dict es en, #[]⟩)
    (lit : PySem.W.KeysLit w.params es.toList)
    (low : (kd == sysModules) = false)
    (e1 : PySem.W.nsIn K kd "show" = some (some (.str "any" t1)))
    (e2 : PySem.W.nsIn K kd "select" = some (some (.str "text" t2)))
    (e3 : PySem.W.nsIn K kd "plural" = some (some (.str "number" t3)))
    (n1 : PySem.W.nsIn K kd "text" = some none)
    (n2 : PySem.W.nsIn K kd "number" = some none)
    (xS : K.lookup sysModules = some oS)
    (cS : oS.cls = .type "dict")
    (top : (l.prog.main.scope.names.lookup ("super" : Str)).isSome = false)
    (z1 : PySem.W.nsIn K mainGlobals "len" = some none) (z2 : PySem.W.nsIn K mainGlobals "list" = some none) (z3 : PySem.W.nsIn K mainGlobals "range" = some none) (z4 : PySem.W.nsIn K mainGlobals "int" = some none) (z5 : PySem.W.nsIn K mainGlobals "sorted" = some none) (z6 : PySem.W.nsIn K mainGlobals "repr" = some none) (z7 : PySem.W.nsIn K mainGlobals "set" = some none) (z8 : PySem.W.nsIn K mainGlobals "super" = some none) :
    ∃ fd : FuncData, (∀ (s : Shared) (v : Value), BindsTo s fd ⟨[v], []⟩ [("script", v)]) ∧ ∀ base : Heap, K.In base → base.Ns mainGlobals mg → Gy.RunAt PySem.callerA l.prog w K mg base CX0 8 fa fd ["script"] (spLaw K) := by
  have e := hfa.symm.trans (PySem.W.mg_of X G a21)
  cases e
  have F1 := fun_mk (st := sIs) l1 c1 k1
  have F2 := fun_mk (st := sCases) l2 c2 k2
  have F3 := fun_mk (st := sOther) l3 c3 k3
  have F4 := fun_mk (st := sInner) l4 c4 k4
  have F5 := fun_mk (st := sAll) l5 c5 k5
  have F6 := fun_mk (st := sKinds) l6 c6 k6
  have F7 := fun_mk (st := sMf) l7 c7 k7
  have F8 := fun_mk (st := sFa) l8 c8 k8
  have F9 := fun_mk (st := sCf) l9 c9 k9
  have F10 := fun_mk (st := sCell) l10 c10 k10
  have F11 := fun_mk (st := sRow) l11 c11 k11
  have F12 := fun_mk (st := sBox) l12 c12 k12
  have F13 := fun_mk (st := sDraw) l13 c13 k13
  have F14 := fun_mk (st := sSame) l14 c14 k14
  have F15 := fun_mk (st := sMsg) l15 c15 k15
  have F16 := fun_mk (st := sRn) l16 c16 k16
  have F17 := fun_mk (st := sAsk) l17 c17 k17
  have F18 := fun_mk (st := sKn) l18 c18 k18
  have F19 := fun_mk (st := sLf) l19 c19 k19
  have F20 := fun_mk (st := sOd) l20 c20 k20
  have F21 := fun_mk (st := sLaw) l21 c21 k21
  have b1 := F1.binds (ps := ["node"]) fun _ _ _ _ _ _ us hl => match us, hl with | [_], _ => rfl
  have b2 := F2.binds (ps := ["node"]) fun _ _ _ _ _ _ us hl => match us, hl with | [_], _ => rfl
  have b3 := F3.binds (ps := ["node"]) fun _ _ _ _ _ _ us hl => match us, hl with | [_], _ => rfl
  have b4 := F4.binds (ps := ["node"]) fun _ _ _ _ _ _ us hl => match us, hl with | [_], _ => rfl
  have b5 := F5.binds (ps := ["message"]) fun _ _ _ _ _ _ us hl => match us, hl with | [_], _ => rfl
  have b6 := F6.binds (ps := ["message"]) fun _ _ _ _ _ _ us hl => match us, hl with | [_], _ => rfl
  have b7 := F7.binds (ps := ["source", "message"]) fun _ _ _ _ _ _ us hl => match us, hl with | [_, _], _ => rfl
  have b8 := F8.binds (ps := ["source", "messages", "key"]) fun _ _ _ _ _ _ us hl => match us, hl with | [_, _, _], _ => rfl
  have b9 := F9.binds (ps := ["source", "catalog"]) fun _ _ _ _ _ _ us hl => match us, hl with | [_, _], _ => rfl
  have b10 := F10.binds (ps := ["script", "k"]) fun _ _ _ _ _ _ us hl => match us, hl with | [_, _], _ => rfl
  have b11 := F11.binds (ps := ["cell", "k", "many"]) fun _ _ _ _ _ _ us hl => match us, hl with | [_, _, _], _ => rfl
  have b12 := F12.binds (ps := ["script", "first", "last"]) fun _ _ _ _ _ _ us hl => match us, hl with | [_, _, _], _ => rfl
  have b13 := F13.binds (ps := ["box", "many"]) fun _ _ _ _ _ _ us hl => match us, hl with | [_, _], _ => rfl
  have b14 := F14.binds (ps := ["one", "other"]) fun _ _ _ _ _ _ us hl => match us, hl with | [_, _], _ => rfl
  have b15 := F15.binds (ps := ["box", "depth", "inside", "numbers"]) fun _ _ _ _ _ _ us hl => match us, hl with | [_, _, _, _], _ => rfl
  have b16 := F16.binds (ps := ["message", "names"]) fun _ _ _ _ _ _ us hl => match us, hl with | [_, _], _ => rfl
  have b17 := F17.binds (ps := ["message"]) fun _ _ _ _ _ _ us hl => match us, hl with | [_], _ => rfl
  have b18 := F18.binds (ps := ["message"]) fun _ _ _ _ _ _ us hl => match us, hl with | [_], _ => rfl
  have b19 := F19.binds (ps := ["source", "message"]) fun _ _ _ _ _ _ us hl => match us, hl with | [_, _], _ => rfl
  have b20 := F20.binds (ps := ["box"]) fun _ _ _ _ _ _ us hl => match us, hl with | [_], _ => rfl
  have b21 := F21.binds (ps := ["script"]) fun _ _ _ _ _ _ us hl => match us, hl with | [_], _ => rfl
  have g1 := PySem.W.mg_of X G a1
  have g2 := PySem.W.mg_of X G a2
  have g3 := PySem.W.mg_of X G a3
  have g4 := PySem.W.mg_of X G a4
  have g5 := PySem.W.mg_of X G a5
  have g6 := PySem.W.mg_of X G a6
  have g7 := PySem.W.mg_of X G a7
  have g8 := PySem.W.mg_of X G a8
  have g9 := PySem.W.mg_of X G a9
  have g10 := PySem.W.mg_of X G a10
  have g11 := PySem.W.mg_of X G a11
  have g12 := PySem.W.mg_of X G a12
  have g13 := PySem.W.mg_of X G a13
  have g14 := PySem.W.mg_of X G a14
  have g15 := PySem.W.mg_of X G a15
  have g16 := PySem.W.mg_of X G a16
  have g17 := PySem.W.mg_of X G a17
  have g18 := PySem.W.mg_of X G a18
  have g19 := PySem.W.mg_of X G a19
  have g20 := PySem.W.mg_of X G a20
  have g21 := PySem.W.mg_of X G a21
  have y1 := PySem.W.mg_none_of X G z1
  have y2 := PySem.W.mg_none_of X G z2
  have y3 := PySem.W.mg_none_of X G z3
  have y4 := PySem.W.mg_none_of X G z4
  have y5 := PySem.W.mg_none_of X G z5
  have y6 := PySem.W.mg_none_of X G z6
  have y7 := PySem.W.mg_none_of X G z7
  have y8 := PySem.W.mg_none_of X G z8
  have gC := PySem.W.mg_of X G aC
  have TC : OexC K C := ⟨⟨nm, qn, N, bs, _, sn, sub, ab, col, dd, m0, m1, m2, m3, m5, xC, by rfl⟩, sa, eb, tC, kC⟩
  have icl : ∃ cd, PySem.W.clsIn K C = some cd := ⟨_, by unfold PySem.W.clsIn; rw [xC] <;> rfl⟩
  have U : Sx.Sup l.prog K mg C cc cda fB (nBad cc cda) ["self", "name"] := ⟨TC, ⟨_, _, _, _, _, _, _, _, _, lB⟩, rfl, rfl, cB, ⟨_, rfl, rfl⟩, ⟨_, _, _, _, _, _, lc, hv, hf⟩, ⟨_, _, _, lx⟩, icl, mr, y8, rfl, top, sm, op, iV⟩
  have XX : XfC K C := ⟨ga, gg, eb, hdC⟩
  have exC : PySem.W.exmOne K (.ref C) (.ref C) = some true := PySem.W.exm_ref eb hdC tC sCC
  have KK : KA K mg w kd es en := ⟨PySem.W.mg_of X G aK, ⟨xK, lit, low⟩, ⟨_, e1⟩, ⟨_, e2⟩, ⟨_, e3⟩, n1, n2⟩
  have MO : Dq.Mods K := ⟨oS, xS, cS⟩
  refine ⟨PySem.W.fnOf "law" "law" (defArgs sLaw) (defBody sLaw) (defScope sLaw) .none kV21 dc21 pm21 an21 cd21 ct21, fun s v => .of_eq rfl, fun base _ _ => ?_⟩
  have gBd := ok_bad (P := l.prog) (w := w) (mg := mg) (base := base) (CX := L2.CX l.prog w) U no lB
  have bBd : Binds K (PySem.W.fnX "__init__" "BadMessage.__init__" (defArgs sBad) (defBody sBad) (defScope sBad) [("__class__", cc)] .none kVB dcB pmB anB (.ref cda) ctB) ["self", "name"] [] := .all fun us hl => match us, hl with | [_, _], _ => rfl
  have gIs := ok_is (P := l.prog) (w := w) (mg := mg) (base := base) F1
  have gCo := ok_cases (P := l.prog) (w := w) (mg := mg) (base := base) F2 y2
  have gOo := ok_other (P := l.prog) (w := w) (mg := mg) (base := base) F3
  have gIm := ok_inner F4 gIs b1 k1 g1 gCo b2 k2 g2 gOo b3 k3 g3
  have gAl := ok_all F5 gIm b4 k4 g4
  have gKi := ok_kinds F6 gAl b5 k5 g5 KK y5 TC iC tI gBd bBd gC
  have gMf := ok_mf F7 gKi b6 k6 g6 y5 gC XX no exC
  have gFa := ok_fa F8 gMf b7 k7 g7
  have gCf := ok_cf F9 gFa b8 k8 g8 y5
  have gCe := ok_cell (P := l.prog) (w := w) (mg := mg) (base := base) F10 y1
  have gRo := ok_row (P := l.prog) (w := w) (mg := mg) (base := base) F11 y3 y4 y1
  have gBo := ok_box (n := 45) (by decide) F12 gCe b10 k10 g10 gRo b11 k11 g11 y3
  have gDr := ok_draw (P := l.prog) (w := w) (mg := mg) (base := base) F13 y1 y4
  have gSa := ok_same (P := l.prog) (w := w) (mg := mg) (base := base) F14 y6
  have gM := both gDr b13 k13 g13 F15 b15 g15 y3 y1 y4 2
  have gRn := all_rn (P := l.prog) (w := w) (mg := mg) (base := base) F16 b16 g16 2
  have gAs := ok_ask (P := l.prog) (w := w) (mg := mg) (base := base) F17 b17 g17 3
  have gKn := ok_kn F18 gAs b17 k17 g17
  have gLf := ok_lf F19 gKn b18 k18 g18 y5
  have gOd := ok_od F20 gDr b13 k13 g13 gM b15 k15 g15 gRn b16 k16 g16
  exact Gy.run_of (ok_law F21 MO gBo b12 k12 g12 gOd b20 k20 g20 gDr b13 k13 g13 gKn b18 k18 g18 gRn b16 k16 g16 gLf b19 k19 g19 gMf b7 k7 g7 gCf b9 k9 g9 gSa b14 k14 g14 y5 y7 y2 y6 y4)
theorem walk {l : PySem.W.OpenLaw} {q : Program} {loose : List Str} {XP : (Str → Option Value) → Heap → Prop} {YP : World → Heap → Prop} {d : DefRec} {K : Params → PySem.W.Frag} {n : Nat} (hn : l.most = some n) (hn2 : n ≤ sizeLine) (hdf : d.params.defaults = [])
    (hY : ∀ (w : World) (h : Heap), YP w h → (K w.params).In h)
    (F : ∀ (w : World) (mg : Str → Option Value) (fa : Addr) (h : Heap), (K w.params).In h → h.Ns mainGlobals mg → mg d.name = some (.ref fa) →
      ∃ fd : FuncData, (∀ (s : Shared) (u : Value), BindsTo s fd ⟨[u], []⟩ [("script", u)]) ∧ ∀ base : Heap, (K w.params).In base → base.Ns mainGlobals mg → Gy.RunAt PySem.callerA l.prog w (K w.params) mg base CX0 8 fa fd ["script"] (spLaw (K w.params))) :
    PySem.W.WalkO q loose XP YP l.row.toRowW d [] (fun f vs => PySem.call f vs) :=
  Gy.walk_at (k := 8) (x := "script") (sp := fun w => spLaw (K w.params)) hn hn2 hdf ⟨rfl, by decide, by decide⟩ hY F (fun _ _ a ns _ _ hS => ⟨a, ns, rfl, hS, fun _ => rfl⟩)
end Mw
open PySem PySem.W PyProof.Rows
set_option maxRecDepth 100000 in
set_option maxHeartbeats 0 in
theorem PySem.Challenge.cw_messageways_k47_faults_of_catalogs_holds : PySem.Challenge.rw_messageways_k47_faults_of_catalogs.Holds := by
  w_on; o_law; x_head; (case hw => w_witness2)
  k_fill
  refine Mw.walk (l := PySem.Challenge.rw_messageways_k47_faults_of_catalogs) rfl (by decide) rfl (fun w h Y => PySem.W.kIn_of Y) ?F
  case F =>
    intro w mg fa h KX G hmg
    refine' Mw.all_mk KX G hmg ?a1 ?l1 ?c1 ?k1 ?a2 ?l2 ?c2 ?k2 ?a3 ?l3 ?c3 ?k3 ?a4 ?l4 ?c4 ?k4 ?a5 ?l5 ?c5 ?k5 ?a6 ?l6 ?c6 ?k6 ?a7 ?l7 ?c7 ?k7 ?a8 ?l8 ?c8 ?k8 ?a9 ?l9 ?c9 ?k9 ?a10 ?l10 ?c10 ?k10 ?a11 ?l11 ?c11 ?k11 ?a12 ?l12 ?c12 ?k12 ?a13 ?l13 ?c13 ?k13 ?a14 ?l14 ?c14 ?k14 ?a15 ?l15 ?c15 ?k15 ?a16 ?l16 ?c16 ?k16 ?a17 ?l17 ?c17 ?k17 ?a18 ?l18 ?c18 ?k18 ?a19 ?l19 ?c19 ?k19 ?a20 ?l20 ?c20 ?k20 ?a21 ?l21 ?c21 ?k21 ?aC ?aM ?aK ?xC ?sa ?ga ?gg ?no ?iC ?tI ?lB ?cB ?lc ?hv ?hf ?lx ?mr ?sm ?op ?iV ?eb ?tC ?kC ?hdC ?sCC ?xK ?lit ?low ?e1 ?e2 ?e3 ?n1 ?n2 ?xS ?cS ?top ?z1 ?z2 ?z3 ?z4 ?z5 ?z6 ?z7 ?z8
    (case a1 => k_is); (case l1 => k_is); (case c1 => k_is); (case k1 => k_is)
    (case a2 => k_is); (case l2 => k_is); (case c2 => k_is); (case k2 => k_is)
    (case a3 => k_is); (case l3 => k_is); (case c3 => k_is); (case k3 => k_is)
    (case a4 => k_is); (case l4 => k_is); (case c4 => k_is); (case k4 => k_is)
    (case a5 => k_is); (case l5 => k_is); (case c5 => k_is); (case k5 => k_is)
    (case a6 => k_is); (case l6 => k_is); (case c6 => k_is); (case k6 => k_is)
    (case a7 => k_is); (case l7 => k_is); (case c7 => k_is); (case k7 => k_is)
    (case a8 => k_is); (case l8 => k_is); (case c8 => k_is); (case k8 => k_is)
    (case a9 => k_is); (case l9 => k_is); (case c9 => k_is); (case k9 => k_is)
    (case a10 => k_is); (case l10 => k_is); (case c10 => k_is); (case k10 => k_is)
    (case a11 => k_is); (case l11 => k_is); (case c11 => k_is); (case k11 => k_is)
    (case a12 => k_is); (case l12 => k_is); (case c12 => k_is); (case k12 => k_is)
    (case a13 => k_is); (case l13 => k_is); (case c13 => k_is); (case k13 => k_is)
    (case a14 => k_is); (case l14 => k_is); (case c14 => k_is); (case k14 => k_is)
    (case a15 => k_is); (case l15 => k_is); (case c15 => k_is); (case k15 => k_is)
    (case a16 => k_is); (case l16 => k_is); (case c16 => k_is); (case k16 => k_is)
    (case a17 => k_is); (case l17 => k_is); (case c17 => k_is); (case k17 => k_is)
    (case a18 => k_is); (case l18 => k_is); (case c18 => k_is); (case k18 => k_is)
    (case a19 => k_is); (case l19 => k_is); (case c19 => k_is); (case k19 => k_is)
    (case a20 => k_is); (case l20 => k_is); (case c20 => k_is); (case k20 => k_is)
    (case a21 => k_is); (case l21 => k_is); (case c21 => k_is); (case k21 => k_is)
    (case aC => k_is)
    (case aM => k_is)
    (case aK => k_is)
    (case xC => k_is)
    (case sa => k_is)
    (case ga => k_is)
    (case gg => k_is)
    (case no => k_is)
    (case iC => k_is)
    (case tI => k_is)
    (case lB => k_is)
    (case cB => k_is)
    (case lc => k_is)
    (case hv => rfl)
    (case hf => decide +kernel)
    (case lx => k_is)
    (case mr => k_is)
    (case sm => ks_is)
    (case op => k_is)
    (case iV => k_is)
    (case eb => k_is)
    (case tC => k_is)
    (case kC => k_is)
    (case hdC => k_is)
    (case sCC => k_is)
    (case xK => k_is)
    (case lit => k_keys)
    (case low => decide)
    (case e1 => k_is)
    (case e2 => k_is)
    (case e3 => k_is)
    (case n1 => k_is)
    (case n2 => k_is)
    (case xS => k_is)
    (case cS => rfl)
    (case top => decide +kernel)
    (case z1 => k_is)
    (case z2 => k_is)
    (case z3 => k_is)
    (case z4 => k_is)
    (case z5 => k_is)
    (case z6 => k_is)
    (case z7 => k_is)
    (case z8 => k_is)

